/- Texts laid together. -/
import Derived.Test.YthhiidikgchdeabGreatDoorLb33
import Derived.Test.YthhiidikgchdeabGreatDoorLb35
import Derived.Test.YthhiidikgchdeabGreatDoorLb36
import Derived.Test.YthhiidikgchdeabGreatDoorLb37
set_option maxRecDepth 100000
set_option maxHeartbeats 3200000
namespace Go.Proofs.YthhiidikgchdeabGreatDoor
open _root_.Go.Proofs.Tryz
open Go.RowKit
theorem powersE (nx:Nat→Nat×Nat)(u:ak×ak)(B:Nat)(v:Value)(w:World)(hv:SpanV w v u.1 u.2)(hT:Tab w)(fu:RgS 400000000 400000000 u)(h1:1≤B)(h2:B≤10000)
  (hI: ∃I:Nat→ak×ak→ak×ak→Prop,I 0 (wTr 1,wTr 1) (wTr 1,wTr 1)∧ ∀k s t,I k s t→k≤B+1∧RgS 400000000 400000000 s∧RgS 400000000 400000000 t∧RgS 400000000 400000000 (partS (timesS t u) (nx (k+1)).1 (nx (k+1)).2 B)∧
   (¬smallS (partS (timesS t u) (nx (k+1)).1 (nx (k+1)).2 B) B→I (k+1) (cutSp (plusS s (partS (timesS t u) (nx (k+1)).1 (nx (k+1)).2 B)) B) (partS (timesS t u) (nx (k+1)).1 (nx (k+1)).2 B)))
  (hn: ∀k,k≤B+1→(nx (k+1)).1<2^30∧(nx (k+1)).2<2^30∧(nx (k+1)).2≠0)
  (HN: ∀k w1,k≤B+1→yC 80 #[yi ((k+1:Nat):Int)] w1 (yR w1 (.tuple #[yi ((nx (k+1)).1:Int),yi ((nx (k+1)).2:Int)]))):
  yC 79 #[v,yi B,.func (.func 80) #[] #[]] w (aeT w (pwsT u B nx (B+2) 1 (wTr 1,wTr 1) (wTr 1,wTr 1)).1 (pwsT u B nx (B+2) 1 (wTr 1,wTr 1) (wTr 1,wTr 1)).2):=by
 obtain⟨I,I0,IS⟩:=hI;obtain⟨a,b⟩:=u;obtain⟨s1,s2,rfl,r1,r2⟩:=hv;obtain⟨ao,ac,rfl⟩:=r1.shape;obtain⟨bo,bc,rfl⟩:=r2.shape;obtain⟨R,hR⟩: ∃R,pwsT (a,b) B nx (B+2) 1 (wTr 1,wTr 1) (wTr 1,wTr 1)=R:=⟨_,rfl⟩;rw[hR];have fit: ∀{x:ak},RgT 400000000 400000000 x→Fit9 x:=fun h=>h.fit (by omega) (by omega)
 have hx0:(wTr 1).e=0:=rfl;have hxw:IntKind.i64.wrap ((wTr 1).e+ -1)=(upT (wTr 1) (-1)).e:=by show _=(wTr 1).e+ -1;exact IntWalk.i64_in _ ⟨by omega,by omega⟩
 refine powers_E (fun k s t=>I k s t∧pwsT (a,b) B nx (B+2-k) (k+1) s t=R) a b ao bo ac bc (wTr 1) (wTr 2) (wTr 1) R.1 R.2 (upT (wTr 1) (-1)).e B (-(B:Int)) w r1 r2 ⟨by omega,by omega⟩ (IntWalk.i64_in _ ⟨by omega,by omega⟩) ⟨I0,hR⟩
  (fun w1 _=>whole_any 1 w1 (by omega)) (fun xo xc w1=>dscaled_W _ _ _ _ _ _ _ w1 hxw) (fun w1 _=>whole_any 2 w1 (by omega)) (fun w1 _=>swhole9 1 w1 (by omega)) ?_
 rintro k s r t v ⟨hi,hp⟩;obtain⟨hk,gs,gt,gq,hm⟩:=IS k (s,r) (t,v) hi;obtain⟨hn1,hn2,hn3⟩:=hn k hk;obtain⟨⟨m,n⟩,hmn⟩: ∃x,timesS (t,v) (a,b)=x:=⟨_,rfl⟩;have gm:RgS 800000000 800000000 (m,n):=by
  rw[←hmn];exact(gt.times fu).mono (by omega) (by omega)
 rw[hmn] at gq hm;obtain⟨⟨p,q⟩,hpq⟩: ∃x,partS (m,n) (nx (k+1)).1 (nx (k+1)).2 B=x:=⟨_,rfl⟩;rw[hpq] at gq hm;rw[show B+2-k=(B+1-k)+1 by omega,pwsT] at hp
 simp only[hmn,hpq] at hp;refine⟨by omega,_,_,m,n,p,q,fun w1=>HN k w1 hk,fun ho hc vo vc ao ac bo bc w1 _ rt rv ra rb=> ?_,fun mo mc no nc w1 hb rm rn=> ?_, ?_⟩
 ·have:=stimes9 _ _ t v a b w1 ⟨_,_,rfl,rt,rv⟩ ⟨_,_,rfl,ra,rb⟩ (fit gt.1) (fit gt.2) (fit fu.1) (fit fu.2)
  rwa [hmn] at this
 ·have:=spart9 _ m n (nx (k+1)).1 (nx (k+1)).2 B w1 ⟨_,_,rfl,rm,rn⟩ (gm.1.mono (by omega) (by omega)) (gm.2.mono (by omega) (by omega)) hn1 hn2 hn3 h1 h2 (hT.l hb)
  rwa [hpq] at this
 ·have HG:=fun(po pc qo qc) (w1:World) (rp:Rd w1 .u32 (yT po p.n pc) (Dg.dg 4294967296 p.n)) (rq:Rd w1 .u32 (yT qo q.n qc) (Dg.dg 4294967296 q.n))=>sgreat9 _ p q w1 ⟨_,_,rfl,rp,rq⟩ (fit gq.1) (fit gq.2)
  by_cases hs:smallS (p,q) B
  ·rw[if_pos hs] at hp
   left
   obtain⟨⟨c,d⟩,hcd⟩: ∃x,timesS (p,q) restS=x:=⟨_,rfl⟩;have gc:RgS 400000001 400000002 (c,d):=by
    rw[←hcd];exact gq.times rest_rg
   obtain⟨⟨e,l⟩,hel⟩: ∃x,plusS (s,r) (c,d)=x:=⟨_,rfl⟩;have ge:RgS 400000001 400000003 (e,l):=by
    rw[←hel];exact RgS.plus (gs.mono (by omega) (by omega)) gc
   rw[hcd,hel] at hp;have T1: ∀po pc qo qc xo xc yo yc w1,yB w w1→Rd w1 .u32 (yT po p.n pc) (Dg.dg 4294967296 p.n)→Rd w1 .u32 (yT qo q.n qc) (Dg.dg 4294967296 q.n)→Rd w1 .u32 (.slice xo (Dg.dg 4294967296 (wTr 1).n).length xc) (Dg.dg 4294967296 (wTr 1).n)→Rd w1 .u32 (.slice yo (Dg.dg 4294967296 (wTr 2).n).length yc) (Dg.dg 4294967296 (wTr 2).n)→
     yC 86 #[.agg #[.bool p.s,yT po p.n pc,yi p.e,.bool q.s,yT qo q.n qc,yi q.e],.agg #[.bool (wTr 1).s,.slice xo (Dg.dg 4294967296 (wTr 1).n).length xc,yi (upT (wTr 1) (-1)).e,.bool (wTr 2).s,.slice yo (Dg.dg 4294967296 (wTr 2).n).length yc,yi (wTr 2).e]] w1 (aeT w1 c d):=fun po pc qo qc xo xc yo yc w1 _ rp rq rx ry=>by
    have:=stimes9 _ _ p q (upT (wTr 1) (-1)) (wTr 2) w1 ⟨_,_,rfl,rp,rq⟩ ⟨_,_,rfl,rx,ry⟩ (fit gq.1) (fit gq.2) (rest_rg.1.fit (by omega) (by omega)) (rest_rg.2.fit (by omega) (by omega));rw[show timesS (p,q) (upT (wTr 1) (-1),wTr 2)=(c,d) from hcd] at this
    exact this
   have T2: ∀so sc ro rc co cc do' dc w1,yB w w1→Rd w1 .u32 (yT so s.n sc) (Dg.dg 4294967296 s.n)→Rd w1 .u32 (yT ro r.n rc) (Dg.dg 4294967296 r.n)→Rd w1 .u32 (yT co c.n cc) (Dg.dg 4294967296 c.n)→Rd w1 .u32 (.slice do' (Dg.dg 4294967296 d.n).length dc) (Dg.dg 4294967296 d.n)→
     yC 87 #[.agg #[.bool s.s,yT so s.n sc,yi s.e,.bool r.s,yT ro r.n rc,yi r.e],.agg #[.bool c.s,yT co c.n cc,yi c.e,.bool d.s,.slice do' (Dg.dg 4294967296 d.n).length dc,yi d.e]] w1 (aeT w1 e l):=fun so sc ro rc co cc do' dc w1 _ rs rr rc' rd=>by
    have:=splus9 _ _ s r c d w1 ⟨_,_,rfl,rs,rr⟩ ⟨_,_,rfl,rc',rd⟩ (fit gs.1) (fit gs.2) (gc.1.fit (by omega) (by omega)) (gc.2.fit (by omega) (by omega));rw[show aG s c=e from congrArg Prod.fst hel,show aG r d=l from congrArg Prod.snd hel] at this
    exact this
   have T3: ∀eo ec lo lc w1,yB w w1→Rd w1 .u32 (yT eo e.n ec) (Dg.dg 4294967296 e.n)→Rd w1 .u32 (yT lo l.n lc) (Dg.dg 4294967296 l.n)→
     yC 55 #[.agg #[.bool e.s,yT eo e.n ec,yi e.e,.bool l.s,yT lo l.n lc,yi l.e],yi B] w1 (aeT w1 R.1 R.2):=fun eo ec lo lc w1 hb re rl=>by
    have:=scut9 _ e l B w1 ⟨_,_,rfl,re,rl⟩ (ge.1.fit (by omega) (by omega)) (ge.2.fit (by omega) (by omega)) h1 h2 (hT.l hb);rw[hp] at this;exact this
   by_cases c0:(grS (p,q)).n=0
   ·refine⟨0,false,c,d,e,l,(fun h=>by cases h),fun po pc qo qc w1 _ rp rq=> ?_,T1,T2,T3⟩
    have:=HG po pc qo qc w1 rp rq
    rwa [if_pos c0] at this
   ·refine⟨(bitLen (grS (p,q)).n:Int)+(grS (p,q)).e,true,c,d,e,l,fun _=> ?_,fun po pc qo qc w1 _ rp rq=> ?_,T1,T2,T3⟩
    rotate_left
    ·have:=HG po pc qo qc w1 rp rq
     rwa [if_neg c0] at this
    ·rcases hs with hs|hs
     ·exact absurd hs c0
     ·omega
  ·rw[if_neg hs] at hp
   right
   have c0:(grS (p,q)).n≠0:=fun c=>hs (.inl c)
   have c1: ¬(grS (p,q)).e+(bitLen (grS (p,q)).n:Int)< -(B:Int):=fun c=>hs (.inr c)
   obtain⟨⟨c,d⟩,hcd⟩: ∃x,plusS (s,r) (p,q)=x:=⟨_,rfl⟩;have gc:RgS 400000000 400000001 (c,d):=by
    rw[←hcd];exact RgS.plus gs gq
   have hm':=hm hs;rw[hcd] at hp hm';obtain⟨⟨e,l⟩,hel⟩: ∃x,cutSp (c,d) B=x:=⟨_,rfl⟩;rw[hel] at hp hm';refine⟨(bitLen (grS (p,q)).n:Int)+(grS (p,q)).e,c,d,e,l, ?_,fun po pc qo qc w1 _ rp rq=> ?_,fun so sc ro rc po pc qo qc w1 _ rs rr rp rq=> ?_,fun co cc do' dc w1 hb rc rd=> ?_,hm', ?_⟩
   rotate_left
   ·have:=HG po pc qo qc w1 rp rq
    rwa [if_neg c0] at this
   ·have:=splus9 _ _ s r p q w1 ⟨_,_,rfl,rs,rr⟩ ⟨_,_,rfl,rp,rq⟩ (fit gs.1) (fit gs.2) (fit gq.1) (fit gq.2)
    rw[show aG s p=c from congrArg Prod.fst hcd,show aG r q=d from congrArg Prod.snd hcd] at this
    exact this
   ·have:=scut9 _ c d B w1 ⟨_,_,rfl,rc,rd⟩ (gc.1.fit (by omega) (by omega)) (gc.2.fit (by omega) (by omega)) h1 h2 (hT.l hb)
    rw[hel] at this;exact this
   ·rw[show B+2-(k+1)=B+1-k by omega]
    exact hp
   ·omega
theorem sover9 (v u:Value)(a b p q:ak)(B:Nat)(w:World)(K:SpanV w v a b)(J:SpanV w u p q)(g:RgT 400000000 400000000 a)(h:RgT 400000000 400000000 b)(k:RgT 500000000 500000000 p)(fq:RgT 500000000 500000000 q)(F:p.n≠0)(G:q.n≠0)(E:1≤B)(e:B≤10000)(H:Tab w):
  yC 83 #[v,u,yi B] w (aeT w (overS4 (a,b) (p,q) B).1 (overS4 (a,b) (p,q) B).2):=by
 have one: ∀x y:ak,RgT 400000000 400000000 x→RgT 500000000 500000000 y→Fit9 (cK x y B):=fun x y m f=>(m.over (b:=y) (B:=B) E).mono (by have:=f.2;omega) (by have:=f.1;omega)
 have i: ∀j,Fit9 (fourO a b p q B j):=fun j=>by
  match j with
  |0=>exact one a p g k
  |1=>exact one a q g fq
  |2=>exact one b p h k
  |_+3=>exact one b q h fq
 have z:Fit9 a:=g.fit (by omega) (by omega);have A:Fit9 b:=h.fit (by omega) (by omega);have C:Fit9 p:=k.fit (by omega) (by omega);have D:Fit9 q:=fq.fit (by omega) (by omega);obtain⟨Z,s2,rfl,o,r⟩:=K;obtain⟨s3,s4,rfl,s,t⟩:=J;obtain⟨R,Q,rfl⟩:=o.shape;obtain⟨T,S,rfl⟩:=r.shape;obtain⟨W,U,rfl⟩:=s.shape;obtain⟨Y,X,rfl⟩:=t.shape;exact spanOver_W a b p q _ _ _ _ _ _ _ _ (cK a p B) (cK a q B) (cK b p B) (cK b q B) (loT (fourO a b p q B) 3) (hiT (fourO a b p q B) 3) _ _ _ w
  (fun d c=>dover9 _ _ a p B d ⟨_,rfl,o.l c⟩ ⟨_,rfl,s.l c⟩ F z C e)
  (fun d c=>dover9 _ _ a q B d ⟨_,rfl,o.l c⟩ ⟨_,rfl,t.l c⟩ G z D e)
  (fun d c=>dover9 _ _ b p B d ⟨_,rfl,r.l c⟩ ⟨_,rfl,s.l c⟩ F A C e)
  (fun d c=>dover9 _ _ b q B d ⟨_,rfl,r.l c⟩ ⟨_,rfl,t.l c⟩ G A D e)
  (fun P a1 a3 a5 a7 a0 a2 a4 a6 d _ I L M N O=>around4 (fourO a b p q B) (fun j=>(i j).mono (by omega) (by omega)) P _ _ _ _ _ _ _ _ d I L M N O)
  (fun xo xc yo yc d c m f=>scut9 _ _ _ B d ⟨_,_,rfl,m,f⟩ (RgT.lo fun j _=>i j) (RgT.hi fun j _=>i j) E e (H.l c))
def jo (R D L G:Int)(gr s up:Bool)(xs:List Nat)(e:Int):ak×Int:=
 if onC (aS xs e) (bk R D L G)=0 then
  (if dA R D L G gr (Dg.vl 4294967296 xs) e=true then
   (if G<ip R D L G gr s up xs.length (Dg.vl 4294967296 xs) e then(⟨false,0,0⟩,5) else bU ⟨kG s up xs.length,jU R D L G gr s up xs.length (Dg.vl 4294967296 xs) e,(ai R:Int)*ip R D L G gr s up xs.length (Dg.vl 4294967296 xs) e⟩)
   else(⟨false,0,0⟩,4))
 else(⟨false,0,0⟩,onC (aS xs e) (bk R D L G))
theorem kZ {R D L G:Int}{gr s:Bool}{d:Nat}{p:Int}(b:bk R D L G=0)(h:ia R D L G gr d p):aS (Dg.dg 4294967296 (bare ⟨s,d,(ai R:Int)*p⟩).n) (bare ⟨s,d,(ai R:Int)*p⟩).e=0:=by
 obtain⟨l,p1,p2,f,g,c⟩:=qj b h;refine nt ?_ ?_ ?_
 ·exact Nat.le_trans (aH _ _ d (by omega) (kR _)) (by omega)
 ·by_cases a:d=0
  ·simp[bare,a]
  ·have:=(nE (t:=⟨s,d,(ai R:Int)*p⟩) a).2
   simp only at this;omega
 ·by_cases a:d=0
  ·simp[bare,a]
  ·have:=(nE (t:=⟨s,d,(ai R:Int)*p⟩) a).2
   simp only at this;omega
theorem kK {R D L G:Int}{gr:Bool}(s:Bool){d:Nat}{p:Int}(b:bk R D L G=0)(h:ia R D L G gr d p):bU ⟨s,d,(ai R:Int)*p⟩=(bare ⟨s,d,(ai R:Int)*p⟩,0):=by
 have:=Af (s:=s) b h;unfold cC at this
 by_cases a:ix (Dg.dg 4294967296 d) p R D L G=0
 ·rw[if_pos a,Dg.vl_dg _ _ (by omega)] at this
  exact this
 ·rw[if_neg a] at this
  simp only[Prod.mk.injEq] at this;exact absurd this.2 a
theorem uu {R D L G:Int}{gr up:Bool}{t:ak}{d:Nat}{k:Int}(g:bk R D L G=0)(a:aS (Dg.dg 4294967296 t.n) t.e=0)(b:dA R D L G gr t.n t.e=true)(f:jU R D L G gr t.s up (Dg.dg 4294967296 t.n).length t.n t.e=d)(h:ip R D L G gr t.s up (Dg.dg 4294967296 t.n).length t.n t.e=k)(c: ¬G<k):
  jo R D L G gr t.s up (Dg.dg 4294967296 t.n) t.e=bU ⟨kG t.s up (Dg.dg 4294967296 t.n).length,d,(ai R:Int)*k⟩:=by
 unfold jo;rw[Dg.vl_dg _ _ (by omega),if_pos (show onC (aS (Dg.dg 4294967296 t.n) t.e) (bk R D L G)=0 from(if_pos a).trans g),if_pos b,h,f,if_neg c]
theorem number9 (s:Bool)(c:Option Addr)(d:Nat)(xs:List Nat)(e b:Int)(w:World)(B:Rd w .u32 (.slice c xs.length d) xs)(F:Dg.Small 4294967296 xs)(D:Tab w):
  (numR s xs e b≠0→yC 41 #[ydV s (.slice c xs.length d) e,yi b] w (yR w (.tuple #[ydV false yN 0,yi (numR s xs e b)])))∧
  (numR s xs e b=0→yC 41 #[ydV s (.slice c xs.length d) e,yi b] w (NRd w (bare ⟨s,Dg.vl 4294967296 xs,e⟩) 0)):=by
 have f:yH w 34 #[ydV s (.slice c xs.length d) e] (yi (aS xs e)):=fun a k=>nS s c d xs e a (B.l k)
 have p:yJ 36 #[ydV s (.slice c xs.length d) e] (ydV s (.slice c xs.length d) e):=fun a=>iK _ _ _ _ _ a
 unfold numR
 by_cases j:aS xs e≠0
 ·rw[if_pos j]
  exact⟨fun _=>number_e1 s c _ d e b _ w j f,fun h=>absurd h j⟩
 ·rw[if_neg j]
  have t:aS xs e=0:=by omega
  rw[t] at f
  by_cases u:b<20∨600<b
  ·rw[if_pos u]
   refine⟨fun _=> ?_,fun h=>by omega⟩
   by_cases v:b<20
   ·exact number_e2 s c _ d e b 0 w rfl v f
   ·exact number_e3 s c _ d e b 0 w rfl v (by omega) f
  ·rw[if_neg u]
   obtain⟨J,C,G,K,L⟩:=aO t F;obtain⟨x,r⟩: ∃x,bare ⟨s,Dg.vl 4294967296 xs,e⟩=x:=⟨_,rfl⟩;rw[r];have A:(Dg.dg 4294967296 (Dg.vl 4294967296 xs)).length≤1200:=by rw[C];exact G
   have m: ∀a,yB w a→yC 73 #[ydV s (.slice c xs.length d) e] a (Lx a x):=fun a k=>by
    have E:Rd a .u32 (.slice c xs.length d) (Dg.dg 4294967296 (Dg.vl 4294967296 xs)):=by rw[C];exact B.l k
    have:=II (ydV s (.slice c xs.length d) e) ⟨s,Dg.vl 4294967296 xs,e⟩ a ⟨_,rfl,E⟩ (by show(Dg.dg 4294967296 (Dg.vl 4294967296 xs)).length≤_;omega) ⟨by show-4000000000≤e;omega,by show e≤4000000000;omega⟩ (D.l k) (by have:=gZ (Dg.vl 4294967296 xs) 1200 A;show tz (Dg.vl 4294967296 xs)≤_;omega)
    rw[r] at this;exact this.mono fun _ _ h=>h.vres
   have o: ∀i g a,yC 65 #[yDV x i g] a (yR a (yT i x.n g)):=fun i g a=>cN _ _ _ _ _ a
   have I:(Dg.dg 4294967296 x.n).length≤1200:=by
    rw[←r];exact Nat.le_trans (aH 4294967296 _ _ (by omega) (FW _)) A
   have q: ∀i g a,yB w a→Rd a .u32 (yT i x.n g) (Dg.dg 4294967296 x.n)→yC 74 #[yT i x.n g] a (yR a (yi (bitLen x.n:Int))):=fun i g a _ h=>by
    have:=kE _ _ a h (Dg.small_dg _ _ (by omega)) (Dg.norm_dg _ _ (by omega)) (by omega);rw[Dg.vl_dg _ _ (by omega)] at this;refine this.mono ?_;rintro z M ⟨rfl,rfl⟩;exact⟨rfl,Below.refl _ _⟩
   by_cases y:1200<bitLen x.n∨x.e< -18000
   ·rw[if_pos y]
    refine⟨fun _=> ?_,fun h=>by omega⟩
    by_cases H:1200<bitLen x.n
    ·exact number_e4 x s c _ d e b 0 (bitLen x.n:Int) w rfl (by omega) (by omega) (by omega) f p m o q
    ·exact number_e5 x s c _ d e b 0 (bitLen x.n:Int) w rfl (by omega) (by omega) (by omega) (by omega) f p m o q
   ·rw[if_neg y]
    exact⟨fun h=>absurd rfl h,fun _=>number_W x s c _ d e b 0 (bitLen x.n:Int) w rfl (by omega) (by omega) (by omega) (by omega) f p m o q⟩
theorem powersO (nx:Nat→Nat×Nat)(u:ak×ak)(B:Nat)(v:Value)(w:World)(hv:SpanV w v u.1 u.2)(hT:Tab w)(fu:RgS 400000000 400000000 u)(h1:1≤B)(h2:B≤10000)
  (hI: ∃I:Nat→ak×ak→ak×ak→Prop,I 0 (wTr 1,wTr 1) (wTr 1,wTr 1)∧ ∀k s t,I k s t→k≤B+1∧RgS 400000000 400000000 s∧RgS 400000000 400000000 t∧RgS 400000000 400000000 (partS (timesS t u) (nx (k+1)).1 (nx (k+1)).2 B)∧
   (¬smallS (partS (timesS t u) (nx (k+1)).1 (nx (k+1)).2 B) B→I (k+1) (cutSp (plusS s (partS (timesS t u) (nx (k+1)).1 (nx (k+1)).2 B)) B) (partS (timesS t u) (nx (k+1)).1 (nx (k+1)).2 B)))
  (hn: ∀k,k≤B+1→(nx (k+1)).1<2^30∧(nx (k+1)).2<2^30∧(nx (k+1)).2≠0)
  (HN: ∀k w1,k≤B+1→yC 115 #[yi ((k+1:Nat):Int)] w1 (yR w1 (.tuple #[yi ((nx (k+1)).1:Int),yi ((nx (k+1)).2:Int)]))):
  yC 79 #[v,yi B,.func (.func 115) #[] #[]] w (aeT w (pwsT u B nx (B+2) 1 (wTr 1,wTr 1) (wTr 1,wTr 1)).1 (pwsT u B nx (B+2) 1 (wTr 1,wTr 1) (wTr 1,wTr 1)).2):=by
 obtain⟨I,I0,IS⟩:=hI;obtain⟨a,b⟩:=u;obtain⟨s1,s2,rfl,r1,r2⟩:=hv;obtain⟨ao,ac,rfl⟩:=r1.shape;obtain⟨bo,bc,rfl⟩:=r2.shape;obtain⟨R,hR⟩: ∃R,pwsT (a,b) B nx (B+2) 1 (wTr 1,wTr 1) (wTr 1,wTr 1)=R:=⟨_,rfl⟩;rw[hR];have fit: ∀{x:ak},RgT 400000000 400000000 x→Fit9 x:=fun h=>h.fit (by omega) (by omega)
 have hx0:(wTr 1).e=0:=rfl;have hxw:IntKind.i64.wrap ((wTr 1).e+ -1)=(upT (wTr 1) (-1)).e:=by show _=(wTr 1).e+ -1;exact IntWalk.i64_in _ ⟨by omega,by omega⟩
 refine powers_O (fun k s t=>I k s t∧pwsT (a,b) B nx (B+2-k) (k+1) s t=R) a b ao bo ac bc (wTr 1) (wTr 2) (wTr 1) R.1 R.2 (upT (wTr 1) (-1)).e B (-(B:Int)) w r1 r2 ⟨by omega,by omega⟩ (IntWalk.i64_in _ ⟨by omega,by omega⟩) ⟨I0,hR⟩
  (fun w1 _=>whole_any 1 w1 (by omega)) (fun xo xc w1=>dscaled_W _ _ _ _ _ _ _ w1 hxw) (fun w1 _=>whole_any 2 w1 (by omega)) (fun w1 _=>swhole9 1 w1 (by omega)) ?_
 rintro k s r t v ⟨hi,hp⟩;obtain⟨hk,gs,gt,gq,hm⟩:=IS k (s,r) (t,v) hi;obtain⟨hn1,hn2,hn3⟩:=hn k hk;obtain⟨⟨m,n⟩,hmn⟩: ∃x,timesS (t,v) (a,b)=x:=⟨_,rfl⟩;have gm:RgS 800000000 800000000 (m,n):=by
  rw[←hmn];exact(gt.times fu).mono (by omega) (by omega)
 rw[hmn] at gq hm;obtain⟨⟨p,q⟩,hpq⟩: ∃x,partS (m,n) (nx (k+1)).1 (nx (k+1)).2 B=x:=⟨_,rfl⟩;rw[hpq] at gq hm;rw[show B+2-k=(B+1-k)+1 by omega,pwsT] at hp
 simp only[hmn,hpq] at hp;refine⟨by omega,_,_,m,n,p,q,fun w1=>HN k w1 hk,fun ho hc vo vc ao ac bo bc w1 _ rt rv ra rb=> ?_,fun mo mc no nc w1 hb rm rn=> ?_, ?_⟩
 ·have:=stimes9 _ _ t v a b w1 ⟨_,_,rfl,rt,rv⟩ ⟨_,_,rfl,ra,rb⟩ (fit gt.1) (fit gt.2) (fit fu.1) (fit fu.2)
  rwa [hmn] at this
 ·have:=spart9 _ m n (nx (k+1)).1 (nx (k+1)).2 B w1 ⟨_,_,rfl,rm,rn⟩ (gm.1.mono (by omega) (by omega)) (gm.2.mono (by omega) (by omega)) hn1 hn2 hn3 h1 h2 (hT.l hb)
  rwa [hpq] at this
 ·have HG:=fun(po pc qo qc) (w1:World) (rp:Rd w1 .u32 (yT po p.n pc) (Dg.dg 4294967296 p.n)) (rq:Rd w1 .u32 (yT qo q.n qc) (Dg.dg 4294967296 q.n))=>sgreat9 _ p q w1 ⟨_,_,rfl,rp,rq⟩ (fit gq.1) (fit gq.2)
  by_cases hs:smallS (p,q) B
  ·rw[if_pos hs] at hp
   left
   obtain⟨⟨c,d⟩,hcd⟩: ∃x,timesS (p,q) restS=x:=⟨_,rfl⟩;have gc:RgS 400000001 400000002 (c,d):=by
    rw[←hcd];exact gq.times rest_rg
   obtain⟨⟨e,l⟩,hel⟩: ∃x,plusS (s,r) (c,d)=x:=⟨_,rfl⟩;have ge:RgS 400000001 400000003 (e,l):=by
    rw[←hel];exact RgS.plus (gs.mono (by omega) (by omega)) gc
   rw[hcd,hel] at hp;have T1: ∀po pc qo qc xo xc yo yc w1,yB w w1→Rd w1 .u32 (yT po p.n pc) (Dg.dg 4294967296 p.n)→Rd w1 .u32 (yT qo q.n qc) (Dg.dg 4294967296 q.n)→Rd w1 .u32 (.slice xo (Dg.dg 4294967296 (wTr 1).n).length xc) (Dg.dg 4294967296 (wTr 1).n)→Rd w1 .u32 (.slice yo (Dg.dg 4294967296 (wTr 2).n).length yc) (Dg.dg 4294967296 (wTr 2).n)→
     yC 86 #[.agg #[.bool p.s,yT po p.n pc,yi p.e,.bool q.s,yT qo q.n qc,yi q.e],.agg #[.bool (wTr 1).s,.slice xo (Dg.dg 4294967296 (wTr 1).n).length xc,yi (upT (wTr 1) (-1)).e,.bool (wTr 2).s,.slice yo (Dg.dg 4294967296 (wTr 2).n).length yc,yi (wTr 2).e]] w1 (aeT w1 c d):=fun po pc qo qc xo xc yo yc w1 _ rp rq rx ry=>by
    have:=stimes9 _ _ p q (upT (wTr 1) (-1)) (wTr 2) w1 ⟨_,_,rfl,rp,rq⟩ ⟨_,_,rfl,rx,ry⟩ (fit gq.1) (fit gq.2) (rest_rg.1.fit (by omega) (by omega)) (rest_rg.2.fit (by omega) (by omega));rw[show timesS (p,q) (upT (wTr 1) (-1),wTr 2)=(c,d) from hcd] at this
    exact this
   have T2: ∀so sc ro rc co cc do' dc w1,yB w w1→Rd w1 .u32 (yT so s.n sc) (Dg.dg 4294967296 s.n)→Rd w1 .u32 (yT ro r.n rc) (Dg.dg 4294967296 r.n)→Rd w1 .u32 (yT co c.n cc) (Dg.dg 4294967296 c.n)→Rd w1 .u32 (.slice do' (Dg.dg 4294967296 d.n).length dc) (Dg.dg 4294967296 d.n)→
     yC 87 #[.agg #[.bool s.s,yT so s.n sc,yi s.e,.bool r.s,yT ro r.n rc,yi r.e],.agg #[.bool c.s,yT co c.n cc,yi c.e,.bool d.s,.slice do' (Dg.dg 4294967296 d.n).length dc,yi d.e]] w1 (aeT w1 e l):=fun so sc ro rc co cc do' dc w1 _ rs rr rc' rd=>by
    have:=splus9 _ _ s r c d w1 ⟨_,_,rfl,rs,rr⟩ ⟨_,_,rfl,rc',rd⟩ (fit gs.1) (fit gs.2) (gc.1.fit (by omega) (by omega)) (gc.2.fit (by omega) (by omega));rw[show aG s c=e from congrArg Prod.fst hel,show aG r d=l from congrArg Prod.snd hel] at this
    exact this
   have T3: ∀eo ec lo lc w1,yB w w1→Rd w1 .u32 (yT eo e.n ec) (Dg.dg 4294967296 e.n)→Rd w1 .u32 (yT lo l.n lc) (Dg.dg 4294967296 l.n)→
     yC 55 #[.agg #[.bool e.s,yT eo e.n ec,yi e.e,.bool l.s,yT lo l.n lc,yi l.e],yi B] w1 (aeT w1 R.1 R.2):=fun eo ec lo lc w1 hb re rl=>by
    have:=scut9 _ e l B w1 ⟨_,_,rfl,re,rl⟩ (ge.1.fit (by omega) (by omega)) (ge.2.fit (by omega) (by omega)) h1 h2 (hT.l hb);rw[hp] at this;exact this
   by_cases c0:(grS (p,q)).n=0
   ·refine⟨0,false,c,d,e,l,(fun h=>by cases h),fun po pc qo qc w1 _ rp rq=> ?_,T1,T2,T3⟩
    have:=HG po pc qo qc w1 rp rq
    rwa [if_pos c0] at this
   ·refine⟨(bitLen (grS (p,q)).n:Int)+(grS (p,q)).e,true,c,d,e,l,fun _=> ?_,fun po pc qo qc w1 _ rp rq=> ?_,T1,T2,T3⟩
    rotate_left
    ·have:=HG po pc qo qc w1 rp rq
     rwa [if_neg c0] at this
    ·rcases hs with hs|hs
     ·exact absurd hs c0
     ·omega
  ·rw[if_neg hs] at hp
   right
   have c0:(grS (p,q)).n≠0:=fun c=>hs (.inl c)
   have c1: ¬(grS (p,q)).e+(bitLen (grS (p,q)).n:Int)< -(B:Int):=fun c=>hs (.inr c)
   obtain⟨⟨c,d⟩,hcd⟩: ∃x,plusS (s,r) (p,q)=x:=⟨_,rfl⟩;have gc:RgS 400000000 400000001 (c,d):=by
    rw[←hcd];exact RgS.plus gs gq
   have hm':=hm hs;rw[hcd] at hp hm';obtain⟨⟨e,l⟩,hel⟩: ∃x,cutSp (c,d) B=x:=⟨_,rfl⟩;rw[hel] at hp hm';refine⟨(bitLen (grS (p,q)).n:Int)+(grS (p,q)).e,c,d,e,l, ?_,fun po pc qo qc w1 _ rp rq=> ?_,fun so sc ro rc po pc qo qc w1 _ rs rr rp rq=> ?_,fun co cc do' dc w1 hb rc rd=> ?_,hm', ?_⟩
   rotate_left
   ·have:=HG po pc qo qc w1 rp rq
    rwa [if_neg c0] at this
   ·have:=splus9 _ _ s r p q w1 ⟨_,_,rfl,rs,rr⟩ ⟨_,_,rfl,rp,rq⟩ (fit gs.1) (fit gs.2) (fit gq.1) (fit gq.2)
    rw[show aG s p=c from congrArg Prod.fst hcd,show aG r q=d from congrArg Prod.snd hcd] at this
    exact this
   ·have:=scut9 _ c d B w1 ⟨_,_,rfl,rc,rd⟩ (gc.1.fit (by omega) (by omega)) (gc.2.fit (by omega) (by omega)) h1 h2 (hT.l hb)
    rw[hel] at this;exact this
   ·rw[show B+2-(k+1)=B+1-k by omega]
    exact hp
   ·omega
theorem Log1_W (u:Nat)(a:ak)(q:Option Addr)(p:Nat)(x y:ak)(k:Int)(w:World)(t:w.rangeAt u 0 (yDL a q p))
  (c: ∀o,yB w o→yC 47 #[yDV a q p,yi k] o (aeT o x y)):
  yC 46 #[yi k,.pointer (some ⟨u,0,none⟩)] w (aeT w x y):=by
 replace c:Hid _:=c;obtain⟨K,f,q1,d⟩:=cA w [.bool false,yN,yi 0,.bool false,yN,yi 0] 54;replace f:Hid _:=f;have g:=aC t d;clear t
 go_enter func46,ntmps46
 go_upto_region 1 with fail
 rw[f.out];clear f;have A:=g 0 _ rfl;have B:=g 1 _ rfl;have C:=g 2 _ rfl
 go_wp2_with fail
 refine(c.out _ d).mono ?_;rintro zz N ⟨L,M,rfl,h,i,j⟩;have b:=q1.l j;have r:=aa d j;obtain⟨H,G,m⟩:=h.shape;subst m;obtain⟨J,I,m⟩:=i.shape;subst m;clear g q1 d j c A B C;have hf:=fin6 (P:=Tryz.prog) b r (by omega) underlying54 rfl (by kernel_rfl) (.bool x.s) (yT H x.n G) (yi x.e) (.bool y.s) (yT J y.n I) (yi y.e);have v:Hid (_∧_∧_∧_):=⟨hf.1,hf.2.2.rd h (aX h b (by simp)),hf.2.2.rd i (aX i b (by simp)),hf.2.1⟩;obtain⟨⟨W,X,Y,Z,z4,z5⟩,O,Q,R,S,T,U⟩:=csf6 b;clear hf b h i r
 go_wp2
 obtain⟨D,E,F,z⟩:=v.out;exact bodyPost_ret (br results46 rfl D) rfl ⟨_,_,rfl,E,F,z⟩
theorem refined_Log (H:Nat)(x y p q:ak)(b c n er:Int)(w:World)(hc:IntKind.i64.wrap (b+32)=c)(hn:IntKind.i64.wrap (c+32)=n)
  (i: ∀pf pi a,yB w a→au a pf 57 [.func (.func 46) #[] #[.pointer (some ⟨H,0,none⟩)]]→au a pi 3 [yi c]→yC 56 #[yi n,.func (.func 54) #[] #[.pointer (some ⟨pf,0,none⟩),.pointer (some ⟨pi,0,none⟩)],.func (.func 57) #[] #[.pointer (some ⟨pi,0,none⟩)]] a (aeT a x y))
  (j: ∀z v B A a,yB w a→Rd a .u32 (yT z x.n v) (Dg.dg 4294967296 x.n)→Rd a .u32 (yT B y.n A) (Dg.dg 4294967296 y.n)→yC 26 #[.agg #[.bool x.s,yT z x.n v,yi x.e,.bool y.s,yT B y.n A,yi y.e]] a (BRd a p q er)):
  yC 21 #[yi b,.func (.func 46) #[] #[.pointer (some ⟨H,0,none⟩)]] w (BRd w p q er):=by
 replace i:Hid _:=i;replace j:Hid _:=j;obtain⟨O,o,q1,q2,E⟩:=iG w [.func (.func 46) #[] #[.pointer (some ⟨H,0,none⟩)]] 57 [.bool false,yN,yi 0,.bool false,yN,yi 0] 29;replace o:Hid _:=o
 go_enter func21,ntmps21
 go_upto_region 1 with fail
 rw[o.out];clear o;obtain⟨W8,r,J,k⟩:=cA O [yi c] 3;replace r:Hid _:=r;have ad:w.heap.size≤O.heap.size:=E.size;have ae:=q1.lt;have al:=q2.lt;have R:=q1.l k;have S:=q2.l k;have C:=aa E k;clear q1 q2 E k
 go_upto_region 2 with fail
 rw[r.out];clear r;have Z:=J.c 0 rfl
 go_wp2_with fail
 refine(i.out _ _ _ C R J).mono ?_;rintro zz W ⟨ap,ar,rfl,K,L,G⟩;have I:=S.l G;have D:=aa C G;obtain⟨z,v,d⟩:=K.shape;subst d;obtain⟨B,A,d⟩:=L.shape;subst d;clear R S J C G i Z;obtain⟨ac,m,T,f⟩:=cA W [.bool x.s,yT z x.n v,yi x.e,.bool y.s,yT B y.n A,yi y.e] 54;replace m:Hid _:=m;have an:w.heap.size≤W.heap.size:=D.size;have ao:=I.lt;have U:=I.l f;have M:=K.l f;have N:=L.l f;have F:=aa D f;clear I K L D f
 go_upto_region 4 with fail
 rw[m.out];clear m;obtain⟨a0,a1,a2,a3,a4,a5⟩:=T.cs6
 go_wp2_with fail
 refine(j.out _ _ _ _ _ F M N).mono ?_;rintro zz ax ⟨aq,av,rfl,t,u,g⟩;have h:=U.l g;have a6:=M.l g;have a7:=N.l g;have Q:=aa F g;obtain⟨po,pc,d⟩:=t.shape;subst d;obtain⟨qo,qc,d⟩:=u.shape;subst d;clear U T M N F g j a0 a1 a2 a3 a4 a5;have hf:=fin6 (P:=Tryz.prog) h Q (by omega) underlying29 rfl (by kernel_rfl) (.bool p.s) (yT po p.n pc) (yi p.e) (.bool q.s) (yT qo q.n qc) (yi q.e);have X:Hid (_∧_∧_∧_):=⟨hf.1,hf.2.2.rd t (aX t h (by simp)),hf.2.2.rd u (aX u h (by simp)),hf.2.1⟩;obtain⟨⟨z0,z1,z2,z3,z4,z5⟩,y0,y1,y2,y3,y4,y5⟩:=csf6 h;clear hf h a6 a7 t u Q
 go_wp2
 obtain⟨hl,a8,a9,Y⟩:=X.out;exact bodyPost_ret (aj results21 rfl rfl hl) rfl ⟨_,_,rfl,a8,a9,Y⟩
theorem Log_e1 (s:Bool)(h:Option Addr)(n m:Nat)(e b c:Int)(w:World)(D: ¬c=0)
  (a:yH w 41 #[ydV s (.slice h n m) e,yi b] (.tuple #[ydV false yN 0,yi c])):
  yC 15 #[ydV s (.slice h n m) e,yi b] w (yR w (.tuple #[.agg #[.bool false,yN,yi 0,.bool false,yN,yi 0],yi c])):=by
 replace a:Hid _:=a;obtain⟨C,f,q1,q2,j⟩:=iG w (ydL s (.slice h n m) e) 25 [.bool false,yN,yi 0,.bool false,yN,yi 0] 29;replace f:Hid _:=f
 go_enter func15,ntmps15
 go_upto_region 1 with fail
 rw[f.out];clear f;obtain⟨v,x,y⟩:=q1.cs3
 go_wp2_with fail
 refine(a.out _ j).mono ?_;rintro T r ⟨rfl,k⟩;have o:=q2.l k;have i:=aa j k;clear q1 q2 j k a v x y;obtain⟨B,d,A,g⟩:=cA r (ydL false yN 0) 48;replace d:Hid _:=d;have E:w.heap.size≤r.heap.size:=i.size;have F:=o.lt;have p:=o.l g;have q:=aa i g;clear o i g A
 go_upto_region 2 with fail
 rw[d.out];clear d;have hf:=fin6 (P:=Tryz.prog) p q (by omega) underlying29 rfl (by kernel_rfl) (.bool false) yN (yi 0) (.bool false) yN (yi 0);have t:Hid (_∧_):=⟨hf.1,hf.2.1⟩;obtain⟨⟨M,N,O,Q,R,S⟩,G,H,I,J,K,L⟩:=csf6 p;clear hf p q
 go_wp2
 obtain⟨z,u⟩:=t.out;exact bodyPost_ret (aj results15 rfl rfl z) rfl ⟨rfl,u⟩
theorem Log_e2 (x:ak)(s:Bool)(o:Option Addr)(v u:Nat)(e b f:Int)(w:World)(hf:f≤0)
  (d: ∀a,yB w a→yC 41 #[ydV s (.slice o v u) e,yi b] a (NRd a x 0))
  (c: ∀m k a,yB w a→Rd a .u32 (yT m x.n k) (Dg.dg 4294967296 x.n)→yC 20 #[yDV x m k] a (yR a (yi f))):
  yC 15 #[ydV s (.slice o v u) e,yi b] w (yR w (.tuple #[.agg #[.bool false,yN,yi 0,.bool false,yN,yi 0],yi 5])):=by
 replace d:Hid _:=d;replace c:Hid _:=c;obtain⟨U,j,q1,q2,r⟩:=iG w (ydL s (.slice o v u) e) 25 [.bool false,yN,yi 0,.bool false,yN,yi 0] 29;replace j:Hid _:=j
 go_enter func15,ntmps15
 go_upto_region 1 with fail
 rw[j.out];clear j;obtain⟨L,M,N⟩:=q1.cs3
 go_wp2_with fail
 refine(d.out _ r).mono ?_;rintro S F ⟨Y,rfl,A,t⟩;have y:=q2.l t;have p:=aa r t;obtain⟨m,k,Q⟩:=A.shape;subst Q;clear q1 q2 r t d L M N;obtain⟨T,i,D,g⟩:=cA F (yDL x m k) 48;replace i:Hid _:=i;have W:w.heap.size≤F.heap.size:=p.size;have X:=y.lt;have E:=y.l g;have B:=A.l g;have q:=aa p g;clear y A p g
 go_upto_region 2 with fail
 rw[i.out];clear i;obtain⟨I,J,K⟩:=D.cs3
 go_wp2_with fail
 refine(c.out _ _ _ q B).mono ?_;rintro S Z ⟨rfl,h⟩;have z:=E.l h;have R:=B.l h;have C:=aa q h;clear E D B q h c I J K;have hf:=fin6 (P:=Tryz.prog) z C (by omega) underlying29 rfl (by kernel_rfl) (.bool false) yN (yi 0) (.bool false) yN (yi 0);have G:Hid (_∧_):=⟨hf.1,hf.2.1⟩;obtain⟨⟨z0,z1,z2,z3,z4,z5⟩,y0,y1,y2,y3,y4,y5⟩:=csf6 z;clear hf z R C
 go_wp2
 obtain⟨O,H⟩:=G.out;exact bodyPost_ret (aj results15 rfl rfl O) rfl ⟨rfl,H⟩
def NrwS (s:ak×ak)(n:Nat):Prop:=Nrw (ivS s) (p2 (-(n:Int)))∧(ivS s).lo≤(ivS s).hi
end Go.Proofs.YthhiidikgchdeabGreatDoor

/- Texts laid together. -/
import Derived.Test.YthhiidikgchdeaaGreatDoorKs37
import Derived.Test.YthhiidikgchdeaaGreatDoorKs38
import Derived.Test.YthhiidikgchdeaaGreatDoorKs39
import Derived.Test.YthhiidikgchdeaaGreatDoorKs40
set_option maxRecDepth 100000
set_option maxHeartbeats 800000
namespace Go.Proofs.YthhiidikgchdeaaGreatDoor
open _root_.Go.Proofs.Tryz
open Go.RowKit
theorem tJ (s:Bool)(c:Option Addr)(i:Nat)(xs:List Nat)(e:Int)(t:Bool)(g:Option Addr)(j:Nat)(a:List Nat)(f:Int)(w:World)
  (y:Rd w .u32 (.slice c xs.length i) xs) (x:Rd w .u32 (.slice g a.length j) a) (B:Dg.Small 4294967296 xs) (C:Dg.Small 4294967296 a) (H:Tab w):
  yC 17 #[ydV s (.slice c xs.length i) e,ydV t (.slice g a.length j) f] w (gR w (cC (dQ xs e a f) (aG ⟨s,Dg.vl 4294967296 xs,e⟩ ⟨t,Dg.vl 4294967296 a,f⟩))):=by
 have F:Hid (∀k,yB w k→yC 54 #[ydV s (.slice c xs.length i) e,ydV t (.slice g a.length j) f,.func (.func 55) #[] #[]] k (gR k (cC (dQ xs e a f) (aG ⟨s,Dg.vl 4294967296 xs,e⟩ ⟨t,Dg.vl 4294967296 a,f⟩)))):=fun k d=>
  QB s c i xs e t g j a f k (aG ⟨s,Dg.vl 4294967296 xs,e⟩ ⟨t,Dg.vl 4294967296 a,f⟩) (y.l d) (x.l d) (H.l d) (fun h=>by
   obtain⟨U,W⟩:=iN h;obtain⟨N,e1,e2⟩:=bL U;obtain⟨O,P,Q⟩:=bL W;have D:=aF N;have E:=aF O;have x1:(Dg.dg 4294967296 (Dg.vl 4294967296 xs)).length≤1200:=by rw[←Dg.eq_dg 4294967296 (by omega) xs _ B D.1 rfl];exact D.2
   have x2:(Dg.dg 4294967296 (Dg.vl 4294967296 a)).length≤1200:=by rw[←Dg.eq_dg 4294967296 (by omega) a _ C E.1 rfl];exact E.2
   refine⟨Nat.le_trans (Ie _ _ 1200 1251 x1 x2 (by simp only;omega) (by simp only;omega)) (by omega), ?_, ?_,fun w1 G=> ?_⟩
   ·rw[Sa];simp only;omega
   ·rw[Sa];simp only;omega
   ·exact uj _ _ _ _ w1 (jw ((y.l d).l G) B D.1) (jw ((x.l d).l G) C E.1) (by simp only;omega) (by simp only;omega) (by simp only;omega) (by simp only;omega) (by simp only;omega) (by simp only;omega))
 obtain⟨⟨⟨rs,n,m⟩,rc⟩,I⟩: ∃r,cC (dQ xs e a f) (aG ⟨s,Dg.vl 4294967296 xs,e⟩ ⟨t,Dg.vl 4294967296 a,f⟩)=r:=⟨_,rfl⟩;rw[I] at F⊢;obtain⟨-,-,A,q,-⟩:=ju w (.bool s) (.slice c xs.length i) (yi e) (.bool t) (.slice g a.length j) (yi f) (.bool false) yN (yi 0) 25 25 25;clear I y x H B C
 go_enter func17,ntmps17
 go_wp2_with fail
 refine(F.out _ q).mono ?_;rintro z w6 ⟨vr,rfl,K,u⟩;have X:=A.1;have J:=A.l u;have L:=aa q u;obtain⟨p,o,Y⟩:=K.rd.shape;subst Y;obtain⟨a0,⟨d0,d1,d2⟩,f0,P,Q⟩:=id J;clear A u
 go_wp2
 obtain⟨-,⟨R,S,T⟩,-⟩:=aD J (.bool rs) (yT p n o) (yi m);have Z:=K.apart3 (b:=w.heap.size+1+1) X (.bool rs) (yT p n o) (yi m);have M:=am L (show w.heap.size≤w.heap.size+1+1 by omega) (.bool rs) (yT p n o) (yi m)
 refine bodyPost_ret (v:= .tuple #[ydV rs (yT p n o) m,yi rc]) (by simp[results,results17,go_sem,R,S,T]) rfl ?_;exact⟨_,rfl,Z.lower q.size,M⟩
theorem ig (s:Bool)(i:Option Addr)(k:Nat)(xs:List Nat)(e:Int)(t:Bool)(j:Option Addr)(m:Nat)(a:List Nat)(f:Int)(w:World)
  (h:Rd w .u32 (.slice i xs.length k) xs) (g:Rd w .u32 (.slice j a.length m) a):
  yC 30 #[ydV s (.slice i xs.length k) e,ydV t (.slice j a.length m) f] w (yR w (.bool (decide (s=t∧e=f∧xs=a)))):=by
 have u:=af w (.cells (ydA s (.slice i xs.length k) e) 25);have c:=aa u (af _ (.cells (ydA t (.slice j a.length m) f) 25))
 by_cases d:s=t
 ·by_cases n:e=f
  ·subst d n
   have p:=gM _ _ xs a _ (h.l c) (g.l c);rw[show decide (s=s∧e=e∧xs=a)=decide (xs=a) from by simp]
   obtain⟨b,o⟩: ∃b,decide (xs=a)=b:=⟨_,rfl⟩;rw[o] at p⊢;clear o h g
   go_enter func30,ntmps30
   go_wp2_with fail
   refine p.mono ?_;rintro z x ⟨rfl,q⟩;have r:=aa c q
   go_wp2
   go_ret
   exact⟨rfl,r⟩
  ·rw[show decide (s=t∧e=f∧xs=a)=false from by simp[n]]
   have v:(e==f)=false:=by simp[n]
   subst d;clear h g
   go_enter func30,ntmps30
   go_wp2
   go_ret
   exact⟨rfl,c⟩
 ·rw[show decide (s=t∧e=f∧xs=a)=false from by simp[d]]
  have v:(s==t)=false:=by simp[d]
  clear h g
  go_enter func30,ntmps30
  go_wp2
  go_ret
  exact⟨rfl,c⟩
theorem bQ (s:Bool)(a:Option Addr)(b:Nat)(xs:List Nat)(e:Int)(w:World)(g:Rd w .u32 (.slice a xs.length b) xs)(i:Dg.Small 4294967296 xs)(c:xs.length≤20000)(d: -1000000≤e)(f:e≤1000000):
  yC 32 #[ydV s (.slice a xs.length b) e] w (dr w (bare ⟨s,Dg.vl 4294967296 xs,e⟩)):=
 (Aw s a b xs e w g i c d f).mono fun _ _ h=>h.near
theorem lP (A B:ak):dJ (bare (cO (bare A) (dB (bare B))))=dJ (aG A (dV B)):=by
 have a: -((A.e.natAbs+B.e.natAbs:Nat):Int)≤A.e:=by omega
 have b: -((A.e.natAbs+B.e.natAbs:Nat):Int)≤B.e:=by omega
 have c: -((A.e.natAbs+B.e.natAbs:Nat):Int)≤(dB (bare B)).e:=eL b;rw[acR (A.e.natAbs+B.e.natAbs),dw (zy (eL a) c),zx (eL a) c,EI,dw a,dw b,CB]
 congr 1
theorem qK (s:Bool)(k:Option Addr)(n:Nat)(xs:List Nat)(e:Int)(t:Bool)(m:Option Addr)(o:Nat)(b:List Nat)(f:Int)(w:World)
  (v:Rd w .u32 (.slice k xs.length n) xs) (u:Rd w .u32 (.slice m b.length o) b) (x:Dg.Small 4294967296 xs) (y:Dg.Small 4294967296 b):
  yC 150 #[.agg #[.bool s,.slice k xs.length n,yi e,.bool t,.slice m b.length o,yi f]] w (yR w (yi (cu s xs e t b f))):=by
 have j:=af w (.cells #[.bool s,.slice k xs.length n,yi e,.bool t,.slice m b.length o,yi f] 27);have a:=lT s k n xs e t m o b f _ (v.l j) (u.l j) x y;unfold xw at a;unfold cu;obtain⟨c,q⟩: ∃c,dQ xs e b f=c:=⟨_,rfl⟩;obtain⟨g,r⟩: ∃g,dJ (aG ⟨s,Dg.vl 4294967296 xs,e⟩ (dV ⟨t,Dg.vl 4294967296 b,f⟩))=g:=⟨_,rfl⟩;rw[q,r] at a⊢;clear q r v u x y
 by_cases h:c=0
 ·subst h
  simp only[if_true] at a⊢
  by_cases p:0<g
  ·rw[if_pos p]
   go_enter func150,ntmps150
   go_wp2_with fail
   refine a.mono ?_;rintro z A ⟨rfl,i⟩;have d:=aa j i;clear a
   go_wp2
   go_ret
   exact⟨rfl,d⟩
  ·rw[if_neg p]
   go_enter func150,ntmps150
   go_wp2_with fail
   refine a.mono ?_;rintro z A ⟨rfl,i⟩;have d:=aa j i;clear a
   go_wp2
   go_ret
   exact⟨rfl,d⟩
 ·simp only[if_neg h] at a⊢
  go_enter func150,ntmps150
  go_wp2_with fail
  refine a.mono ?_;rintro z A ⟨rfl,i⟩;have d:=aa j i;clear a
  go_wp2
  go_ret
  exact⟨rfl,d⟩
theorem nH (n:Int)(b:Nat)(s:Bool)(j:Option Addr)(p:Nat)(xs:List Nat)(e:Int)(t:Bool)(m:Option Addr)(q:Nat)(c:List Nat)(f:Int)(r:Bool)(y:Option Addr)(v:Nat)(zs:List Nat)(g:Int)(u:Bool)(z:Option Addr)(x:Nat)(a:List Nat)(k:Int)(i:World)
  (H:Rd i .u32 (.slice j xs.length p) xs) (I:Rd i .u32 (.slice m c.length q) c) (J:Rd i .u32 (.slice y zs.length v) zs) (K:Rd i .u32 (.slice z a.length x) a) (R:Dg.Small 4294967296 xs) (S:Dg.Small 4294967296 c) (T:Dg.Small 4294967296 zs) (U:Dg.Small 4294967296 a)
  (w:World) (o:yB i w)
  (h:w.cell? ⟨b,0,none⟩=some (.bool s)∧w.cell? ⟨b,1,none⟩=some (.slice j xs.length p)∧w.cell? ⟨b,2,none⟩=some (yi e)∧w.cell? ⟨b,3,none⟩=some (.bool t)∧w.cell? ⟨b,4,none⟩=some (.slice m c.length q)∧w.cell? ⟨b,5,none⟩=some (yi f)∧w.cell? ⟨b,6,none⟩=some (.bool r)∧w.cell? ⟨b,7,none⟩=some (.slice y zs.length v)∧w.cell? ⟨b,8,none⟩=some (yi g)∧w.cell? ⟨b,9,none⟩=some (.bool u)∧w.cell? ⟨b,10,none⟩=some (.slice z a.length x)∧w.cell? ⟨b,11,none⟩=some (yi k)):
  yC 112 #[yi n,.slice (some ⟨b,0,none⟩) 2 2] w (yR w (yi (cW n (cu s xs e t c f) (cu r zs g u a k)))):=by
 obtain⟨B,C,D,E,F,G,L,M,N,O,P,Q⟩:=h;exact NK n b s j p xs.length e t m q c.length f _ r y v zs.length g u z x a.length k _ w B C D E F G L M N O P Q
  (fun A d=>qK s j p xs e t m q c f A (H.l (aa o d)) (I.l (aa o d)) R S)
  (fun A d=>qK r y v zs g u z x a k A (J.l (aa o d)) (K.l (aa o d)) T U)
theorem expN_any {x:ak}{B:Nat}{one:ak×ak}{l:Nat→Rat}{C:Rat}(D:84≤B)(E:B≤1000)(L:x.s=false)(I:x.n≠0)
  (p:0≤x.e+(bitLen x.n:Int)→1/2≤qT one.1∧qT one.1≤qT one.2∧qT one.2≤7/10∧qT one.2-qT one.1≤p2 (15-(B:Int)-(x.e+(bitLen x.n:Int)))∧EvN fun n=>(ivS one).has (l n))
  (H:CxN.Has (fun n=>⟨l n,0⟩) ⟨2,0⟩) (F: ∀n,CxN.nm ⟨l n,0⟩≤C):
  let R:=ivS (overS4 (wTr 1,wTr 1) (expS x B one) B)
  SIn R (er (-qT x))∧0<R.lo∧R.lo≤R.hi∧R.wd≤p2 (32-(B:Int))*R.lo:=by
 intro R;obtain⟨k,c,f,m⟩:=expS_any D E L I p H F;obtain⟨P,g⟩: ∃P,expS x B one=P:=⟨_,rfl⟩;have o:R=ivS (overS4 (wTr 1,wTr 1) P B):=by show ivS (overS4 (wTr 1,wTr 1) (expS x B one) B)=_;rw[g]
 rw[g] at k c f m;rw[o];clear o g R p;have q1:0<qT P.1:=c;have q2:qT P.1≤qT P.2:=f;have N:0<qT P.2:=by grind
 have i:qT (wTr 1)=1:=by rw[qT_w];rfl
 obtain⟨X1,h⟩: ∃X,X*qT P.2=1:=⟨1/qT P.2,Rat.div_mul_cancel (by grind)⟩;obtain⟨X2,b⟩: ∃X,X*qT P.1=1:=⟨1/qT P.1,Rat.div_mul_cancel (by grind)⟩;obtain⟨j,q,u⟩:=over_ivS (s:=(wTr 1,wTr 1)) (t:=P) (B:=B) (X1:=X1) (X2:=X2) (by omega) (by show 0<qT (wTr 1);rw[i];grind) Rat.le_refl q1 q2 (by show _=qT (wTr 1);rw[i];exact h) (by show _=qT (wTr 1);rw[i];exact b)
 have G:=SIn.inv k c f (CxN.exp_opp (qT x)) h b;refine⟨G.cut j, ?_⟩;have y:p2 (31-(B:Int))=536870912*p2 (2-(B:Int)):=by
  rw[show 31-(B:Int)=29+(2-(B:Int)) by omega,p2_add]
  have:p2 29=536870912:=by decide+kernel
  rw[this]
 have z:p2 (32-(B:Int))=2*p2 (31-(B:Int)):=by
  rw[show 32-(B:Int)=1+(31-(B:Int)) by omega,p2_add,p2_one]
 have J:p2 (31-(B:Int))≤1/16:=by
  have:=p2_mono (show 31-(B:Int)≤ -4 by omega)
  have e:p2 (-4)=1/16:=by
   have:=p2_neg 4;have w:p2 4=16:=by decide+kernel
   rw[w] at this
   grind
  rwa [e] at this
 have M:=p2_pos (2-(B:Int));have K:(⟨X1,X2⟩:IvN).wd≤p2 (31-(B:Int))*X1:=by
  show X2-X1≤_
  have A:qT P.2-qT P.1≤p2 (31-(B:Int))*qT P.1:=m;have v:X2-X1=(qT P.2-qT P.1)*(X1*X2):=by
   have a:(qT P.2-qT P.1)*(X1*X2)=X1*qT P.2*X2-X2*qT P.1*X1:=by grind
   rw[a,h,b]
   grind
  rw[v];have:=Rat.mul_le_mul_of_nonneg_right A (Rat.mul_nonneg (show 0≤X1 by grind) (show 0≤X2 by grind))
  have a:p2 (31-(B:Int))*qT P.1*(X1*X2)=p2 (31-(B:Int))*X1*(X2*qT P.1):=by grind
  rw[a,b] at this
  grind
 have:=narrow_cut2 (S:=⟨X1,X2⟩) (d:=p2 (2-(B:Int))) (r:=p2 (31-(B:Int))) q u (by grind) J (by rw[y];grind) K j;rw[z];exact this
theorem powersE (nx:Nat→Nat×Nat)(u:ak×ak)(B:Nat)(v:Value)(w:World)(hv:SpanV w v u.1 u.2)(hT:Tab w)(fu:RgS 400000000 400000000 u)(h1:1≤B)(h2:B≤10000)
  (hI: ∃I:Nat→ak×ak→ak×ak→Prop,I 0 (wTr 1,wTr 1) (wTr 1,wTr 1)∧ ∀k s t,I k s t→k≤B+1∧RgS 400000000 400000000 s∧RgS 400000000 400000000 t∧RgS 400000000 400000000 (partS (timesS t u) (nx (k+1)).1 (nx (k+1)).2 B)∧
   (¬smallS (partS (timesS t u) (nx (k+1)).1 (nx (k+1)).2 B) B→I (k+1) (cutSp (plusS s (partS (timesS t u) (nx (k+1)).1 (nx (k+1)).2 B)) B) (partS (timesS t u) (nx (k+1)).1 (nx (k+1)).2 B)))
  (hn: ∀k,k≤B+1→(nx (k+1)).1<2^30∧(nx (k+1)).2<2^30∧(nx (k+1)).2≠0)
  (HN: ∀k w1,k≤B+1→yC 76 #[yi ((k+1:Nat):Int)] w1 (yR w1 (.tuple #[yi ((nx (k+1)).1:Int),yi ((nx (k+1)).2:Int)]))):
  yC 75 #[v,yi B,.func (.func 76) #[] #[]] w (aeT w (pwsT u B nx (B+2) 1 (wTr 1,wTr 1) (wTr 1,wTr 1)).1 (pwsT u B nx (B+2) 1 (wTr 1,wTr 1) (wTr 1,wTr 1)).2):=by
 obtain⟨I,I0,IS⟩:=hI;obtain⟨a,b⟩:=u;obtain⟨s1,s2,rfl,r1,r2⟩:=hv;obtain⟨ao,ac,rfl⟩:=r1.shape;obtain⟨bo,bc,rfl⟩:=r2.shape;obtain⟨R,hR⟩: ∃R,pwsT (a,b) B nx (B+2) 1 (wTr 1,wTr 1) (wTr 1,wTr 1)=R:=⟨_,rfl⟩;rw[hR];have fit: ∀{x:ak},RgT 400000000 400000000 x→Fit9 x:=fun h=>h.fit (by omega) (by omega)
 have hx0:(wTr 1).e=0:=rfl;have hxw:IntKind.i64.wrap ((wTr 1).e+ -1)=(upT (wTr 1) (-1)).e:=by show _=(wTr 1).e+ -1;exact IntWalk.i64_in _ ⟨by omega,by omega⟩
 refine powers_E (fun k s t=>I k s t∧pwsT (a,b) B nx (B+2-k) (k+1) s t=R) a b ao bo ac bc (wTr 1) (wTr 2) (wTr 1) R.1 R.2 (upT (wTr 1) (-1)).e B (-(B:Int)) w r1 r2 ⟨by omega,by omega⟩ (IntWalk.i64_in _ ⟨by omega,by omega⟩) ⟨I0,hR⟩
  (fun w1 _=>whole_any 1 w1 (by omega)) (fun xo xc w1=>dscaled_W _ _ _ _ _ _ _ w1 hxw) (fun w1 _=>whole_any 2 w1 (by omega)) (fun w1 _=>swhole9 1 w1 (by omega)) ?_
 rintro k s r t v ⟨hi,hp⟩;obtain⟨hk,gs,gt,gq,hm⟩:=IS k (s,r) (t,v) hi;obtain⟨hn1,hn2,hn3⟩:=hn k hk;obtain⟨⟨m,n⟩,hmn⟩: ∃x,timesS (t,v) (a,b)=x:=⟨_,rfl⟩;have gm:RgS 800000000 800000000 (m,n):=by
  rw[←hmn];exact(gt.times fu).mono (by omega) (by omega)
 rw[hmn] at gq hm;obtain⟨⟨p,q⟩,hpq⟩: ∃x,partS (m,n) (nx (k+1)).1 (nx (k+1)).2 B=x:=⟨_,rfl⟩;rw[hpq] at gq hm;rw[show B+2-k=(B+1-k)+1 by omega,pwsT] at hp
 simp only[hmn,hpq] at hp;refine⟨by omega,_,_,m,n,p,q,fun w1=>HN k w1 hk,fun ho hc vo vc ao ac bo bc w1 _ rt rv ra rb=> ?_,fun mo mc no nc w1 hb rm rn=> ?_, ?_⟩
 ·have:=stimes9 _ _ t v a b w1 ⟨_,_,rfl,rt,rv⟩ ⟨_,_,rfl,ra,rb⟩ (fit gt.1) (fit gt.2) (fit fu.1) (fit fu.2)
  rwa [hmn] at this
 ·have:=spart9 _ m n (nx (k+1)).1 (nx (k+1)).2 B w1 ⟨_,_,rfl,rm,rn⟩ (gm.1.mono (by omega) (by omega)) (gm.2.mono (by omega) (by omega)) hn1 hn2 hn3 h1 h2 (hT.l hb)
  rwa [hpq] at this
 ·have HG:=fun(po pc qo qc) (w1:World) (rp:Rd w1 .u32 (yT po p.n pc) (Dg.dg 4294967296 p.n)) (rq:Rd w1 .u32 (yT qo q.n qc) (Dg.dg 4294967296 q.n))=>sgreat9 _ p q w1 ⟨_,_,rfl,rp,rq⟩ (fit gq.1) (fit gq.2)
  by_cases hs:smallS (p,q) B
  ·rw[if_pos hs] at hp
   left
   obtain⟨⟨c,d⟩,hcd⟩: ∃x,timesS (p,q) restS=x:=⟨_,rfl⟩;have gc:RgS 400000001 400000002 (c,d):=by
    rw[←hcd];exact gq.times rest_rg
   obtain⟨⟨e,l⟩,hel⟩: ∃x,plusS (s,r) (c,d)=x:=⟨_,rfl⟩;have ge:RgS 400000001 400000003 (e,l):=by
    rw[←hel];exact RgS.plus (gs.mono (by omega) (by omega)) gc
   rw[hcd,hel] at hp;have T1: ∀po pc qo qc xo xc yo yc w1,yB w w1→Rd w1 .u32 (yT po p.n pc) (Dg.dg 4294967296 p.n)→Rd w1 .u32 (yT qo q.n qc) (Dg.dg 4294967296 q.n)→Rd w1 .u32 (.slice xo (Dg.dg 4294967296 (wTr 1).n).length xc) (Dg.dg 4294967296 (wTr 1).n)→Rd w1 .u32 (.slice yo (Dg.dg 4294967296 (wTr 2).n).length yc) (Dg.dg 4294967296 (wTr 2).n)→
     yC 101 #[.agg #[.bool p.s,yT po p.n pc,yi p.e,.bool q.s,yT qo q.n qc,yi q.e],.agg #[.bool (wTr 1).s,.slice xo (Dg.dg 4294967296 (wTr 1).n).length xc,yi (upT (wTr 1) (-1)).e,.bool (wTr 2).s,.slice yo (Dg.dg 4294967296 (wTr 2).n).length yc,yi (wTr 2).e]] w1 (aeT w1 c d):=fun po pc qo qc xo xc yo yc w1 _ rp rq rx ry=>by
    have:=stimes9 _ _ p q (upT (wTr 1) (-1)) (wTr 2) w1 ⟨_,_,rfl,rp,rq⟩ ⟨_,_,rfl,rx,ry⟩ (fit gq.1) (fit gq.2) (rest_rg.1.fit (by omega) (by omega)) (rest_rg.2.fit (by omega) (by omega));rw[show timesS (p,q) (upT (wTr 1) (-1),wTr 2)=(c,d) from hcd] at this
    exact this
   have T2: ∀so sc ro rc co cc do' dc w1,yB w w1→Rd w1 .u32 (yT so s.n sc) (Dg.dg 4294967296 s.n)→Rd w1 .u32 (yT ro r.n rc) (Dg.dg 4294967296 r.n)→Rd w1 .u32 (yT co c.n cc) (Dg.dg 4294967296 c.n)→Rd w1 .u32 (.slice do' (Dg.dg 4294967296 d.n).length dc) (Dg.dg 4294967296 d.n)→
     yC 103 #[.agg #[.bool s.s,yT so s.n sc,yi s.e,.bool r.s,yT ro r.n rc,yi r.e],.agg #[.bool c.s,yT co c.n cc,yi c.e,.bool d.s,.slice do' (Dg.dg 4294967296 d.n).length dc,yi d.e]] w1 (aeT w1 e l):=fun so sc ro rc co cc do' dc w1 _ rs rr rc' rd=>by
    have:=splus9 _ _ s r c d w1 ⟨_,_,rfl,rs,rr⟩ ⟨_,_,rfl,rc',rd⟩ (fit gs.1) (fit gs.2) (gc.1.fit (by omega) (by omega)) (gc.2.fit (by omega) (by omega));rw[show aG s c=e from congrArg Prod.fst hel,show aG r d=l from congrArg Prod.snd hel] at this
    exact this
   have T3: ∀eo ec lo lc w1,yB w w1→Rd w1 .u32 (yT eo e.n ec) (Dg.dg 4294967296 e.n)→Rd w1 .u32 (yT lo l.n lc) (Dg.dg 4294967296 l.n)→
     yC 69 #[.agg #[.bool e.s,yT eo e.n ec,yi e.e,.bool l.s,yT lo l.n lc,yi l.e],yi B] w1 (aeT w1 R.1 R.2):=fun eo ec lo lc w1 hb re rl=>by
    have:=scut9 _ e l B w1 ⟨_,_,rfl,re,rl⟩ (ge.1.fit (by omega) (by omega)) (ge.2.fit (by omega) (by omega)) h1 h2 (hT.l hb);rw[hp] at this;exact this
   by_cases c0:(grS (p,q)).n=0
   ·refine⟨0,false,c,d,e,l,(fun h=>by cases h),fun po pc qo qc w1 _ rp rq=> ?_,T1,T2,T3⟩
    have:=HG po pc qo qc w1 rp rq
    rwa [if_pos c0] at this
   ·refine⟨(bitLen (grS (p,q)).n:Int)+(grS (p,q)).e,true,c,d,e,l,fun _=> ?_,fun po pc qo qc w1 _ rp rq=> ?_,T1,T2,T3⟩
    rotate_left
    ·have:=HG po pc qo qc w1 rp rq
     rwa [if_neg c0] at this
    ·rcases hs with hs|hs
     ·exact absurd hs c0
     ·omega
  ·rw[if_neg hs] at hp
   right
   have c0:(grS (p,q)).n≠0:=fun c=>hs (.inl c)
   have c1: ¬(grS (p,q)).e+(bitLen (grS (p,q)).n:Int)< -(B:Int):=fun c=>hs (.inr c)
   obtain⟨⟨c,d⟩,hcd⟩: ∃x,plusS (s,r) (p,q)=x:=⟨_,rfl⟩;have gc:RgS 400000000 400000001 (c,d):=by
    rw[←hcd];exact RgS.plus gs gq
   have hm':=hm hs;rw[hcd] at hp hm';obtain⟨⟨e,l⟩,hel⟩: ∃x,cutSp (c,d) B=x:=⟨_,rfl⟩;rw[hel] at hp hm';refine⟨(bitLen (grS (p,q)).n:Int)+(grS (p,q)).e,c,d,e,l, ?_,fun po pc qo qc w1 _ rp rq=> ?_,fun so sc ro rc po pc qo qc w1 _ rs rr rp rq=> ?_,fun co cc do' dc w1 hb rc rd=> ?_,hm', ?_⟩
   rotate_left
   ·have:=HG po pc qo qc w1 rp rq
    rwa [if_neg c0] at this
   ·have:=splus9 _ _ s r p q w1 ⟨_,_,rfl,rs,rr⟩ ⟨_,_,rfl,rp,rq⟩ (fit gs.1) (fit gs.2) (fit gq.1) (fit gq.2)
    rw[show aG s p=c from congrArg Prod.fst hcd,show aG r q=d from congrArg Prod.snd hcd] at this
    exact this
   ·have:=scut9 _ c d B w1 ⟨_,_,rfl,rc,rd⟩ (gc.1.fit (by omega) (by omega)) (gc.2.fit (by omega) (by omega)) h1 h2 (hT.l hb)
    rw[hel] at this;exact this
   ·rw[show B+2-(k+1)=B+1-k by omega]
    exact hp
   ·omega
theorem SIn.near {S:IvN}{f g:Nat→Rat}(h:SIn S f)(k:NrN f g):SIn S g:=by
 obtain⟨a,b,c⟩:=h;exact⟨a,k.symm.trans b,c⟩
theorem RVG.near {w:World}{c:Int}{g:Bool}{t:ak}{a:Int}{z:Ending}{w':World}(h:RVG w c g t a z w'):RVF w c g t a z w':=by
 obtain⟨s,b,d,-,e⟩:=h;exact⟨s,b,d,e⟩
theorem BRd.nil {w:World}{er:Int}{z:Ending}{w':World}(h:BRd w ⟨false,0,0⟩ ⟨false,0,0⟩ er z w'): ∃c a d b,z= .returned (.tuple #[.agg #[.bool false,.slice c 0 a,yi 0,.bool false,.slice d 0 b,yi 0],yi er])∧Hid (a≤maxLen∧b≤maxLen)∧yB w w':=by
 obtain⟨p,q,g,i,j,k⟩:=h;obtain⟨c,a,rfl,-,e,-⟩:=i;obtain⟨d,b,rfl,-,f,-⟩:=j;exact⟨c,a,d,b,g,⟨e,f⟩,k⟩
theorem expV_any {x:ak}{B:Nat}(i:x.n≠0)(m:RgT 40000 14 x)(a:84≤B)(b:B≤1000):
  SIn (ivS (expV x B)) (er (qT x))∧0< (ivS (expV x B)).lo∧(ivS (expV x B)).lo≤(ivS (expV x B)).hi∧(ivS (expV x B)).wd≤p2 (32-(B:Int))*(ivS (expV x B)).lo:=by
 have f:RgT 40000 14 (sizeT x):=m;have h: ∀n,CxN.nm ⟨CxN.la n,0⟩≤28+14:=fun n=>by have:=CxN.la_bd n;rwa [CxN.lnA_real] at this
 have j:=qT_sq x;have k:qT (sizeT x)=(x.n:Rat)*p2 x.e:=by
  rw[qT_sq];simp only[sizeT,sqT,Bool.false_eq_true,if_false]
  grind
 unfold expV
 cases hs:x.s
 ·rw[if_neg (by decide)]
  obtain⟨d,o,p,q⟩:=expS_any (x:=sizeT x) (one:=lnSpan (sizeT x) B) (l:=CxN.la) a b rfl i (expU a b f) CxN.has_la h;have c:qT (sizeT x)=qT x:=by
   rw[k,j,hs];simp only[sqT,Bool.false_eq_true,if_false]
   grind
  rw[c] at d;refine⟨d,o,p,Rat.le_trans q (Rat.mul_le_mul_of_nonneg_right (p2_mono (by omega)) (by grind))⟩
 ·rw[if_pos rfl]
  have g:=expN_any (x:=sizeT x) (one:=lnSpan (sizeT x) B) (l:=CxN.la) a b rfl i (expU a b f) CxN.has_la h;have c: -qT (sizeT x)=qT x:=by
   rw[k,j,hs];simp only[sqT,if_true]
   grind
  rw[c] at g;exact g
theorem end_one:EndK (wTr 1):=⟨⟨wTr 1,bare_wOne.symm⟩,by decide+kernel,by decide,by decide⟩
end Go.Proofs.YthhiidikgchdeaaGreatDoor

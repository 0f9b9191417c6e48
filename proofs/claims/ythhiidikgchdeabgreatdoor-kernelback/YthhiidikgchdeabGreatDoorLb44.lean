/- Texts laid together. -/
import Derived.Test.YthhiidikgchdeabGreatDoorLb26
import Derived.Test.YthhiidikgchdeabGreatDoorLb40
import Derived.Test.YthhiidikgchdeabGreatDoorLb41
import Derived.Test.YthhiidikgchdeabGreatDoorLb42
set_option maxRecDepth 100000
namespace Go.Proofs.YthhiidikgchdeabGreatDoor
open _root_.Go.Proofs.Tryz
open Go.RowKit
theorem zx {K:Nat}{a b:ak}(i: -(K:Int)≤a.e)(j: -(K:Int)≤b.e):V K (cO a b)=V K a+V K b:=by
 obtain⟨e,c⟩: ∃e,(if b.n=0 then a.e else if a.n=0 then b.e else min a.e b.e)=e:=⟨_,rfl⟩
 have d: -(K:Int)≤e:=by rw[←c];split<;>(try split)<;>omega
 have g:a.n=0∨e≤a.e:=by
  rw[←c]
  by_cases x:b.n=0
  ·rw[if_pos x];exact .inr (Int.le_refl _)
  ·rw[if_neg x]
   by_cases y:a.n=0
   ·exact .inl y
   ·rw[if_neg y];exact .inr (Int.min_le_left _ _)
 have h:b.n=0∨e≤b.e:=by
  rw[←c]
  by_cases x:b.n=0
  ·exact .inl x
  ·rw[if_neg x]
   by_cases y:a.n=0
   ·rw[if_pos y];exact .inr (Int.le_refl _)
   ·rw[if_neg y];exact .inr (Int.min_le_right _ _)
 rw[acz d g,acz d h,←Int.add_mul,Y6];unfold cO V;simp only[c]
 split
 ·rfl
 ·by_cases f:b.n*2^ (max 0 (b.e-e)).toNat≤a.n*2^ (max 0 (a.e-e)).toNat
  ·rw[if_pos f,if_neg (by omega)]
  ·rw[if_neg f,if_pos (by omega)]
def RVF (w:World)(c:Int)(g:Bool)(t:ak)(fl:Int)(z:Ending)(w':World):Prop:=
 ∃s,z= .returned (.tuple #[yoV c g t.s s t.e,yi fl])∧Rd w' .i64 s (Dg.dg 65536 t.n)∧yB w w'
theorem ik.store {w:World}{g:Nat}{zs:List Nat}(h:ik w g zs)(j x:Nat):ik (w.setCell ⟨g,j,none⟩ (.int .u8 x)) g (zs.set j x):=by
 refine⟨fun i a=> ?_,fun i a=> ?_,by simpa[World.setCell] using h.lt⟩
 ·rw[List.length_set] at a
  by_cases e:j=i
  ·subst e
   rw[World.cell?_setCell_same (h:=h.c j a)];simp[List.getD_eq_getElem?_getD,a]
  ·rw[World.cell?_setCell_other (h:=by intro k;cases k;exact e rfl),h.c i a]
   simp[List.getD_eq_getElem?_getD,e]
 ·rw[List.length_set] at a
  rw[O7];exact h.f i a
theorem au.grown {w w':World}{b g:Nat}{a:TypeId}{c:List Value}(h:au w b a c)(d:w.grownBy w' (some g))(f:b≠g):au w' b a c:=
 (d.block b h.lt (fun e=>f (Option.some.inj e))).trans h
theorem sY (b:Nat)(s:Bool)(a:Option Addr)(d:Nat)(xs:List Nat)(e:Int)(w:World)(n:w.cell? ⟨b,0,none⟩=some (.bool s))(o:w.cell? ⟨b,1,none⟩=some (.slice a xs.length d))(p:w.cell? ⟨b,2,none⟩=some (yi e))(m:Rd w .u32 (.slice a xs.length d) xs):
  yC 37 #[.slice (some ⟨b,0,none⟩) 1 1] w (yR w (yi (aS xs e))):=by
 obtain⟨c,k⟩: ∃c,aS xs e=c:=⟨_,rfl⟩;have i:=af w (.cells (ydA s (.slice a xs.length d) e) 25);have j:=nS s a d xs e _ (m.l i);rw[k] at j⊢;clear k
 by_cases h:c=0
 ·subst h
  go_enter func37,ntmps37
  go_wp2
  refine wp_loop_rounds 2 ?_;rw[rounds_succ]
  go_wp2_with fail
  refine j.mono ?_;rintro z w' ⟨rfl,g⟩;have f:=aa i g
  go_wp2
  rw[rounds_succ]
  go_wp2
  go_ret
  exact⟨rfl,f⟩
 ·go_enter func37,ntmps37
  go_wp2
  refine wp_loop_rounds 2 ?_;rw[rounds_succ]
  go_wp2_with fail
  refine j.mono ?_;rintro z w' ⟨rfl,g⟩;have f:=aa i g
  go_wp2
  go_ret
  exact⟨rfl,f⟩
theorem ig (s:Bool)(i:Option Addr)(k:Nat)(xs:List Nat)(e:Int)(t:Bool)(j:Option Addr)(m:Nat)(a:List Nat)(f:Int)(w:World)
  (h:Rd w .u32 (.slice i xs.length k) xs) (g:Rd w .u32 (.slice j a.length m) a):
  yC 18 #[ydV s (.slice i xs.length k) e,ydV t (.slice j a.length m) f] w (yR w (.bool (decide (s=t∧e=f∧xs=a)))):=by
 have u:=af w (.cells (ydA s (.slice i xs.length k) e) 25);have c:=aa u (af _ (.cells (ydA t (.slice j a.length m) f) 25))
 by_cases d:s=t
 ·by_cases n:e=f
  ·subst d n
   have p:=gM _ _ xs a _ (h.l c) (g.l c);rw[show decide (s=s∧e=e∧xs=a)=decide (xs=a) from by simp]
   obtain⟨b,o⟩: ∃b,decide (xs=a)=b:=⟨_,rfl⟩;rw[o] at p⊢;clear o h g
   go_enter func18,ntmps18
   go_wp2_with fail
   refine p.mono ?_;rintro z x ⟨rfl,q⟩;have r:=aa c q
   go_wp2
   go_ret
   exact⟨rfl,r⟩
  ·rw[show decide (s=t∧e=f∧xs=a)=false from by simp[n]]
   have v:(e==f)=false:=by simp[n]
   subst d;clear h g
   go_enter func18,ntmps18
   go_wp2
   go_ret
   exact⟨rfl,c⟩
 ·rw[show decide (s=t∧e=f∧xs=a)=false from by simp[d]]
  have v:(s==t)=false:=by simp[d]
  clear h g
  go_enter func18,ntmps18
  go_wp2
  go_ret
  exact⟨rfl,c⟩
theorem acR (K:Nat)(t:ak):dJ t=sgn (V K t):=(Di K t).symm
theorem ZB.off {w w':World}{q b:Nat}(h:ZB w q)(a:w.grownBy w' (some b))(f:q≠b):ZB w' q:=by
 obtain⟨c,g,d⟩:=h;exact⟨Nat.lt_of_lt_of_le c a.size,g,(a.block q c (by intro e;cases e;exact f rfl)).trans d⟩
theorem ZB6.off {w w':World}{q b:Nat}(h:ZB6 w q)(a:w.grownBy w' (some b))(f:q≠b):ZB6 w' q:=by
 obtain⟨c,g,d⟩:=h;exact⟨Nat.lt_of_lt_of_le c a.size,g,(a.block q c (by intro e;cases e;exact f rfl)).trans d⟩
theorem tM (a b:ak):bJ (bare a) (bare b)=bJ a b:=by
 have c: -((a.e.natAbs+b.e.natAbs:Nat):Int)≤a.e:=by omega
 have d: -((a.e.natAbs+b.e.natAbs:Nat):Int)≤b.e:=by omega
 rw[oY c d,oY (eL c) (eL d),dw c,dw d]
def bX:Nat×Nat:=
 let a:=lp (5*5) 1 2451 0 (pw2 2450/5) 0 0
 let b:=lp (239*239) 1 2451 0 (pw2 2450/239) 0 0
 (8*(a.2.1-a.2.2)-2*(b.2.1-b.2.2),8*(3*a.1+3)+2*(3*b.1+3))
theorem SIn.near {S:IvN}{f g:Nat→Rat}(h:SIn S f)(k:NrN f g):SIn S g:=by
 obtain⟨a,b,c⟩:=h;exact⟨a,k.symm.trans b,c⟩
theorem er_zero:NrN (er 0) (fun _=>1):=fun e c=>⟨1,fun n d=>by
 have h:=CxN.ez_zero (n-1);have a:(⟨0,0⟩:CxN)=CxN.zero:=rfl;have r:=ez_real 0 n;rw[a,show n=(n-1)+1 by omega,h] at r
 have b:(1:Rat)=er 0 (n-1+1):=congrArg CxN.re r;rw[show n=(n-1)+1 by omega,←b,ab_le]
 constructor<;>grind⟩
def RVG (w:World)(c:Int)(g:Bool)(t:ak)(fl:Int)(z:Ending)(w':World):Prop:=
 ∃s,z= .returned (.tuple #[yoV c g t.s s t.e,yi fl])∧Rd w' .i64 s (Dg.dg 65536 t.n)∧Far w.heap.size s∧yB w w'
theorem RVG.near {w:World}{c:Int}{g:Bool}{t:ak}{a:Int}{z:Ending}{w':World}(h:RVG w c g t a z w'):RVF w c g t a z w':=by
 obtain⟨s,b,d,-,e⟩:=h;exact⟨s,b,d,e⟩
theorem ZD {R D L G:Int}{gr:Bool}{d:Nat}{k:Int}(b:bk R D L G=0)(i:L≤k)(u:gD R D (d+1) k≤G)(h:d<2^ (ai R*D.toNat))(hf:2^ (ai R*(D-1).toNat)≤d∨(gr=true∧k=L)):
  jo R D L G gr (bare ⟨false,d,(ai R:Int)*k⟩).s true (Dg.dg 4294967296 (bare ⟨false,d,(ai R:Int)*k⟩).n) (bare ⟨false,d,(ai R:Int)*k⟩).e=(bare ⟨false,d+1,(ai R:Int)*k⟩,0):=by
 obtain⟨-,f,-,-,-,-,-,lg,-⟩:=cB b;have E:=KR R D (d+1) k;obtain⟨x,y,z,A,B⟩:=nZ f i u h hf;have v:ia R D L G gr d k∨d=0:=by
  by_cases a:d=0
  ·exact .inr a
  ·exact .inl (.inr ⟨a,i,by omega,h,hf⟩)
 have C:=bG (ai R*(D-1).toNat);have g:=kK false b (.inr ⟨x,y,z,A,B⟩:ia R D L G gr (io R D (d+1)) (gD R D (d+1) k));rw[sD R D false (d+1) k f] at g;have j:(bare ⟨false,d,(ai R:Int)*k⟩).s=false:=by
  unfold bare
  split<;>rfl
 have c: ∀l,kG false true l=false:=fun l=>by
  unfold kG
  split<;>rfl
 by_cases a:d=0
 ·subst a
  have o:gr=true∧k=L:=by
   rcases hf with hf|hf
   ·omega
   ·exact hf
  have w:bare ⟨false,0,(ai R:Int)*k⟩=⟨false,0,0⟩:=by simp[bare]
  rw[w];obtain⟨q1,q2⟩:=qO (R:=R) (D:=D) (L:=L) (gr:=gr) (d:=0) (p:=L) (.inr o.1);have:=uu (R:=R) (D:=D) (L:=L) (G:=G) (gr:=gr) (up:=true) (t:=⟨false,0,0⟩) (d:=io R D (0+1)) (k:=gD R D (0+1) k) b (nt (n:=0) (e:=0) (Nat.zero_le _) (by omega) (by omega)) (tO R D L G gr 0) ?_ ?_ (by omega)
  ·simp only at this
   rw[this,c];exact g
  ·unfold jU
   rw[c,if_neg (by decide),show fD R D L G gr 0 0=0 from if_pos rfl]
   exact q1
  ·unfold ip
   rw[c,if_neg (by decide),show fD R D L G gr 0 0=0 from if_pos rfl,show fK R D L G gr 0 0=L from if_pos rfl,o.2]
   exact q2
 ·have q:ia R D L G gr d k:=v.resolve_right a
  obtain⟨m,r⟩:=uL (G:=G) (s:=false) f a i (by omega) h hf;obtain⟨q1,q2⟩:=qO (R:=R) (D:=D) (L:=L) (gr:=gr) (d:=d) (p:=k) (.inl a);have:=uu (R:=R) (D:=D) (L:=L) (G:=G) (gr:=gr) (up:=true) (t:=bare ⟨false,d,(ai R:Int)*k⟩) (d:=io R D (d+1)) (k:=gD R D (d+1) k) b (kZ b q) (mI b q) ?_ ?_ (by omega)
  ·rw[this,j,c]
   exact g
  ·unfold jU
   rw[j,c,if_neg (by decide),m];exact q1
  ·unfold ip
   rw[j,c,if_neg (by decide),m,r];exact q2
theorem ZE {R D L G:Int}{gr:Bool}{d:Nat}{k:Int}(a:bk R D L G=0)(g:L≤k)(z:gD R D (d+1) k≤G)(o:d<2^ (ai R*D.toNat))(hf:2^ (ai R*(D-1).toNat)≤d∨(gr=true∧k=L)):
  jo R D L G gr (bare ⟨true,d+1,(ai R:Int)*k⟩).s true (Dg.dg 4294967296 (bare ⟨true,d+1,(ai R:Int)*k⟩).n) (bare ⟨true,d+1,(ai R:Int)*k⟩).e=(bare ⟨true,d,(ai R:Int)*k⟩,0):=by
 obtain⟨-,b,-,-,-,-,-,lg,-⟩:=cB a;have A:=KR R D (d+1) k;obtain⟨f,r,u,v,w⟩:=nZ b g z o hf;have q:ia R D L G gr (io R D (d+1)) (gD R D (d+1) k):= .inr ⟨f,r,u,v,w⟩;have x:bU ⟨true,d,(ai R:Int)*k⟩=(bare ⟨true,d,(ai R:Int)*k⟩,0):=by
  by_cases m:d=0
  ·subst m
   have e:=GR true ((ai R:Int)*k) ((ai R:Int)*0);rw[sE e,e];exact kK true a (.inl ⟨rfl,rfl⟩:ia R D L G gr 0 0)
  ·exact kK true a (.inr ⟨m,g,by omega,o,hf⟩:ia R D L G gr d k)
 rw[←sD R D true (d+1) k b];obtain⟨j,l⟩:=uL (G:=G) (s:=true) b f r u v w;obtain⟨q1,q2⟩:=Ir (R:=R) (L:=L) (gr:=gr) (d:=d) (p:=k) b g hf;have y:=gN (t:=⟨true,io R D (d+1),(ai R:Int)*gD R D (d+1) k⟩) f;have h:(bare ⟨true,io R D (d+1),(ai R:Int)*gD R D (d+1) k⟩).s=true:=by
  unfold bare;rw[if_neg f]
 have i:kG true true (Dg.dg 4294967296 (bare ⟨true,io R D (d+1),(ai R:Int)*gD R D (d+1) k⟩).n).length=true:=if_neg (fun c=>y.1 (mJ.1 c))
 have:=uu (R:=R) (D:=D) (L:=L) (G:=G) (gr:=gr) (up:=true) (t:=bare ⟨true,io R D (d+1),(ai R:Int)*gD R D (d+1) k⟩) (d:=d) (k:=k) a (kZ a q) (mI a q) ?_ ?_ (by omega)
 ·rw[this,h,i]
  exact x
 ·unfold jU
  rw[h,i,if_pos rfl,j,l];exact q1
 ·unfold ip
  rw[h,i,if_pos rfl,j,l];exact q2
theorem jp.store {w:World}{base g n cap:Nat}{a:List Bool}(h:jp w base (.slice (some ⟨g,0,none⟩) n cap) a)(b:n=a.length)(j:Nat)(x:Bool):
  jp (w.setCell ⟨g,j,none⟩ (.bool x)) base (.slice (some ⟨g,0,none⟩) n cap) (a.set j x):=by
 subst b;have:=(World.ownsRow.stored h j (.bool x)).1;unfold jp;rw[List.length_set,List.map_set];exact this
theorem jp.f {w:World}{base g n cap:Nat}{a:List Bool}(h:jp w base (.slice (some ⟨g,0,none⟩) n cap) a)(b:n=a.length)(j:Nat):w.frozen? ⟨g,j,none⟩=false:=by
 subst b;exact World.ownsRow.frozenAt h j
theorem jp.block {w:World}{base g n cap:Nat}{a:List Bool}(h:jp w base (.slice (some ⟨g,0,none⟩) n cap) a)(b:n=a.length):base≤g∧g<w.heap.size:=by
 subst b;exact World.ownsRow.lt h g rfl
theorem jp.c {w:World}{base g n cap:Nat}{a:List Bool}(h:jp w base (.slice (some ⟨g,0,none⟩) n cap) a)(e:n=a.length)(j:Nat)(b:j<a.length):w.cell? ⟨g,j,none⟩=some (.bool (a.getD j false)):=by
 subst e;have d:=World.ownsRow.cellAt h j (by omega);rw[d,List.getElem?_map,List.getElem?_eq_getElem b];simp[List.getD_eq_getElem?_getD,b]
theorem sF.off {w w':World}{n:Int}{e:List ByteArray}{g cap b:Nat}{y:TypeId}{f:List Value}(h:sF w n e g cap)(a:But b w w')(q:au w b y f)(s: ∀x∈f,∀k:Int,x≠ .int .u32 k)(m:g≠b):sF w' n e g cap:=
 ⟨h.fit,h.most,fun i p r=>by
  obtain⟨u,t,l,d⟩:=h.each i p r;exact⟨u,t,fun j v o=>by rw[a.c (by exact m)];exact l j v o,a.rd d (aX d q s)⟩⟩
theorem abf {xs a:List Nat}{E R D L G:Int}{gr qs:Bool}(Q:Dg.Small 4294967296 xs)(S:Dg.Small 4294967296 a)(r:dR xs a E R D L G gr qs 5=false)(F:dR xs a E R D L G gr qs 4=false):
  (∀i,1≤i→i≤3→dR xs a E R D L G gr qs i=false∧(iu xs a E R D L G gr qs i=iu xs a E R D L G gr qs 5∨iu xs a E R D L G gr qs i=iu xs a E R D L G gr qs 4))∧
  (iu xs a E R D L G gr qs 5=iu xs a E R D L G gr qs 4→eE xs a E R D L G 1=0∧(df xs a E R D L G gr qs 1).ex=true)∧
  (¬iu xs a E R D L G gr qs 5=iu xs a E R D L G gr qs 4→jo R D L G gr (iu xs a E R D L G gr qs 5).s true (Dg.dg 4294967296 (iu xs a E R D L G gr qs 5).n) (iu xs a E R D L G gr qs 5).e=(iu xs a E R D L G gr qs 4,0)):=by
 obtain⟨A,p,-⟩:=mh (kN r).1;obtain⟨-,B,-,-,-,-,-,lg,-⟩:=cB p;obtain⟨U,W,hm,-,-⟩:=gO A;have l: ∀i,1≤i→i≤5→eE xs a E R D L G i=0:=fun i b c=>Qx A p (decide_eq_true ⟨b,c⟩)
 by_cases w:xs.length=0
 ·have v: ∀i,1≤i→i≤5→df xs a E R D L G gr qs i=⟨false,0,0,true,false,false⟩:=fun i b c=>(if_pos (l i b c)).trans (if_pos w)
  have J: ∀i,1≤i→i≤5→dR xs a E R D L G gr qs i=false:=fun i b c=>by
   unfold dR;rw[v i b c,l i b c];rfl
  have q: ∀i,1≤i→i≤5→iu xs a E R D L G gr qs i=bare ⟨false,0,(ai R:Int)*0⟩:=fun i b c=>by
   unfold iu;rw[if_neg (by rw[J i b c];decide),v i b c]
  refine⟨fun i b c=>⟨J i b (by omega),.inl ?_⟩,fun _=>⟨l 1 (by omega) (by omega),by rw[v 1 (by omega) (by omega)]⟩,fun x=> ?_⟩
  ·rw[q i b (by omega),q 5 (by omega) (by omega)]
  ·exact absurd ((q 5 (by omega) (by omega)).trans (q 4 (by omega) (by omega)).symm) x
 ·have u:=nF Q U w
  have t:=nF S W (by omega);have o:=fun i (b:1≤i) (c:i≤5)=>ZV (gr:=gr) (qs:=qs) (l i b c) Q S w
  obtain⟨Y,t5,-⟩:=o 5 (by omega) (by omega);obtain⟨X,Z,-⟩:=o 4 (by omega) (by omega);have C:=(o 1 (by omega) (by omega)).2.2;have j:=Y.1 r;have k:=X.1 F;have g:=t5 r;have f:=Z F;obtain⟨N,I⟩: ∃N,Dg.vl 4294967296 xs=N:=⟨_,rfl⟩;obtain⟨M,H⟩: ∃M,Dg.vl 4294967296 a=M:=⟨_,rfl⟩;rw[I] at u;rw[H] at t;simp only[I,H] at o C j k g f;obtain⟨O,P⟩:=Bv (R:=R) (D:=D) (L:=L) (gr:=gr) (E:=E) B u t j.2;have K:=rP R D L gr N M E B u t;have y: ∀i,1≤i→i≤3→(fM R D L gr qs N M E i=fM R D L gr qs N M E 5∨fM R D L gr qs N M E i=fM R D L gr qs N M E 4)→dR xs a E R D L G gr qs i=false∧(iu xs a E R D L G gr qs i=iu xs a E R D L G gr qs 5∨iu xs a E R D L G gr qs i=iu xs a E R D L G gr qs 4):=fun i b c h=>by
   obtain⟨z,T,-⟩:=o i b (by omega)
   rcases h with h|h
   ·have:=z.2 (by rw[h];exact j)
    exact⟨this,.inl (by rw[T this,g,h])⟩
   ·have:=z.2 (by rw[h];exact k)
    exact⟨this,.inr (by rw[T this,f,h])⟩
  by_cases d:gF R D L gr N M E=0
  ·refine⟨fun i b c=>y i b c (.inl (by rw[BS d,BS d])),fun _=>⟨l 1 (by omega) (by omega),by rw[C];exact decide_eq_true d⟩,fun x=>absurd ?_ x⟩
   rw[g,f,BS d,BS d]
  ·rw[GS d] at j g
   rw[RG d] at k f
   cases qs
   ·simp only[Bool.false_eq_true,if_false] at j g k f
    refine⟨fun i b c=>y i b c ?_,fun m=> ?_,fun _=> ?_⟩
    ·rw[GS d,RG d]
     simp only[Bool.false_eq_true,if_false];exact DY R D L gr false N M E i
    ·rw[g,f] at m
     exact absurd m (S8 _ _ _)
    ·rw[g,f]
     exact ZD p O (by omega) K P
   ·simp only[if_true] at j g k f
    refine⟨fun i b c=>y i b c ?_,fun m=> ?_,fun _=> ?_⟩
    ·rw[GS d,RG d]
     simp only[if_true];exact(DY R D L gr true N M E i).symm
    ·rw[g,f] at m
     exact absurd m.symm (S8 _ _ _)
    ·rw[g,f]
     exact ZE p O (by omega) K P
theorem ut.trans {J K:Int}{i d k e l f:Nat}{a b c:Int}(h:ut J i d a k e b)(g:ut K k e b l f c):ut (max J K) i d a l f c:=fun j q=>by
 obtain⟨m,n⟩:=h j (by omega);obtain⟨o,p⟩:=g j (by omega);exact⟨m.trans o,n.trans p⟩
theorem BRd.nil {w:World}{er:Int}{z:Ending}{w':World}(h:BRd w ⟨false,0,0⟩ ⟨false,0,0⟩ er z w'): ∃c a d b,z= .returned (.tuple #[.agg #[.bool false,.slice c 0 a,yi 0,.bool false,.slice d 0 b,yi 0],yi er])∧Hid (a≤maxLen∧b≤maxLen)∧yB w w':=by
 obtain⟨p,q,g,i,j,k⟩:=h;obtain⟨c,a,rfl,-,e,-⟩:=i;obtain⟨d,b,rfl,-,f,-⟩:=j;exact⟨c,a,d,b,g,⟨e,f⟩,k⟩
theorem sum_in {E Y Z:Int}{l h u v:ak}(e:InB E Y l h)(f:InB E Z u v)(n:Nat)(a:0≤E)(d:E+1001≤20000)(g:1≤n∧n≤1000):
  ∃p q,du (dk aG l h u v) 4 n=(p,q,0)∧InB (E+1001) (Y+Z) p q∧BareB p q:=by
 obtain⟨il,b,k,m⟩:=e;obtain⟨iu,c,o,r⟩:=f;refine least_in g (by omega) d (fun j i=> ?_) ⟨0,by omega, ?_⟩ ⟨3,by omega, ?_⟩
 ·obtain rfl|rfl|rfl|rfl:j=0∨j=1∨j=2∨j=3:=by omega
  ·exact plus_bits il iu a
  ·exact plus_bits il c a
  ·exact plus_bits b iu a
  ·exact plus_bits b c a
 ·show V 1120 (aG l u)≤_
  rw[dH (by have:=il.1;omega) (by have:=iu.1;omega)];omega
 ·show _≤V 1120 (aG h v)
  rw[dH (by have:=b.1;omega) (by have:=c.1;omega)];omega
def EndK (t:ak):Prop:=(∃y,t=bare y)∧(Dg.dg 4294967296 t.n).length≤1200∧ -20000≤t.e∧t.e≤20000
theorem end_one:EndK (wTr 1):=⟨⟨wTr 1,bare_wOne.symm⟩,by decide+kernel,by decide,by decide⟩
theorem expOut_zero:expOut false [] 0 30=(wTr 1,wTr 1,0):=by
 have a:bare ⟨false,Dg.vl 4294967296 [],0⟩=zTr:=rfl;have f:aS [] 0=0:=rfl;have e:numR false [] 0 30=0:=by
  unfold numR;rw[a,if_neg (by rw[f];decide),if_neg (by omega),if_neg];rw[show zTr.n=0 from rfl,gP]
  show¬(1200<0∨(0:Int)< -18000)
  omega
 unfold expOut;rw[if_neg (by rw[e];decide),a,if_neg,if_pos (show zTr.n=0 from rfl)]
 intro c;rw[cmp_gt,qT_w,qT_size] at c;have b:qT zTr=0:=qT_zero rfl;have d:ab 0=0:=by unfold ab;grind
 rw[b,d] at c;have:((12000:Nat):Rat)=12000:=rfl;rw[this] at c
 grind
theorem EndK.len16 {t:ak}(h:EndK t):(Dg.dg 65536 t.n).length≤2401:=by
 have:=gf h.2.1;exact UI (Nat.le_of_lt (bits_lt t.n)) (by omega)
theorem small_for {c e:Rat}(a:0<c)(g:0<e): ∃d:Rat,0<d∧d≤1/4∧d*c≤e:=by
 have b:e/c*c=e:=Rat.div_mul_cancel (by grind);have f:0<e/c:=cancel_lt a (by rw[b];grind);generalize e/c=q at*
 by_cases h:q≤1/4
 ·exact⟨q,f,h,by grind⟩
 ·have:=Rat.mul_le_mul_of_nonneg_right (show(1/4:Rat)≤q by grind) (show 0≤c by grind)
  exact⟨1/4,by grind,Rat.le_refl,by grind⟩
theorem beside9 (v:Value)(x:ak)(B:Nat)(w:World)(j:Dv w v (lgY x))(Y:x.s=false)(X:x.n≠0)(f:bitLen x.n≤1200)(M:84≤B)(N:B≤1000)(O:Tab w):
  yC 85 #[v,yi B] w (aeT w (athS (lgZ x B) B).1 (athS (lgZ x B) B).2):=by
 obtain⟨i,-⟩:=ath_fit M N Y X f;obtain⟨I,I0,t⟩:=lgI M N Y X f;obtain⟨H,J,g⟩:=lgZ_fit f M N;obtain⟨y1,y2,-⟩:=lg_y Y X;have L:=lgY_fit f;have a4:qT (aG (lgY x) (wTr 1))=qT (lgY x)+1:=by
  rw[qT_plus,qT_w];rfl
 have T:(aG (lgY x) (wTr 1)).n≠0:=fun c=>by
  have:=qT_zero c;rw[a4] at this
  grind
 have Q:overS4 (aG (lgY x) (dV (wTr 1)),aG (lgY x) (dV (wTr 1))) (aG (lgY x) (wTr 1),aG (lgY x) (wTr 1)) B=lgZ x B:=rfl;have f1:Fit9 (wTr 1):=(RgT.w 1 1 (by omega)).fit (by omega) (by omega);unfold athS;obtain⟨z,Z⟩: ∃z,lgZ x B=z:=⟨_,rfl⟩;rw[Z] at i t g Q⊢;obtain⟨y,hy⟩: ∃y,lgY x=y:=⟨_,rfl⟩;rw[hy] at j H J L T Q;have H1: ∀a,yB w a→yC 43 #[yi 1] a (Lx a (wTr 1)):=fun a _=>whole_any 1 a (by omega)
 have gu:=(g.times g).cut (b:=B) (by omega);have K:=g.times g;obtain⟨U,hU⟩: ∃U,timesS z z=U:=⟨_,rfl⟩;rw[hU] at gu K i t⊢;obtain⟨R,hR⟩: ∃R,cutSp U B=R:=⟨_,rfl⟩;rw[hR] at gu i t⊢;have a0:=fun v a j a3=>powersO nxA R B v a j a3 (gu.mono (by omega) (by omega)) (by omega) (by omega) ⟨I,I0,t⟩ (fun k hk=>⟨by
   have:(2:Nat)^30=1073741824:=by decide
   show 2*(k+1)-1<2^30
   omega,by
   have:(2:Nat)^30=1073741824:=by decide
   show 2*(k+1)+1<2^30
   omega,by show 2*(k+1)+1≠0;omega⟩) (fun k w2 hk=>oddNext_any k w2 (by omega))
 obtain⟨P,hP⟩: ∃P,pwsT R B nxA (B+2) 1 (wTr 1,wTr 1) (wTr 1,wTr 1)=P:=⟨_,rfl⟩;rw[hP] at i a0⊢;have G:=g.times i;obtain⟨E,hE⟩: ∃E,timesS z P=E:=⟨_,rfl⟩;rw[hE] at G⊢;generalize wTr 1=o at*;obtain⟨p,q⟩:=z;obtain⟨u,v'⟩:=U;obtain⟨r,s⟩:=R;obtain⟨c,d⟩:=P;obtain⟨e,h⟩:=E;obtain⟨s0,rfl,D⟩:=j;obtain⟨ao,ac,rfl⟩:=D.shape;have F:Fit9 p:=g.1.fit (by omega) (by omega);have fq:Fit9 q:=g.2.fit (by omega) (by omega);have fc:Fit9 c:=i.1.fit (by omega) (by omega);have fd:Fit9 d:=i.2.fit (by omega) (by omega);refine beside_W y ao ac o (aG y (dV o)) (aG y o) p q u v' r s c d e h B (e.e+1) (h.e+1) w D H1
  (fun oo oc a _ S m=>dminus9 _ _ y o a ⟨_,rfl,S⟩ ⟨_,rfl,m⟩ (L.fit (by omega) (by omega)) f1)
  (fun xo xc a=>Qy _ _ _ _ _ a)
  (fun oo oc a _ S m=>dplus9 _ _ y o a ⟨_,rfl,S⟩ ⟨_,rfl,m⟩ (L.fit (by omega) (by omega)) f1)
  (fun yo yc a=>Qy _ _ _ _ _ a)
  (fun xo xc yo yc a f a1 a2=> ?_) (fun po pc qo qc a _ A C=> ?_) (fun uo uc vo vc a f hu j=> ?_) (fun ro rc so sc a f D hs=>a0 _ a ⟨_,_,rfl,D,hs⟩ (O.l f))
  (fun po pc qo qc co cc zo zc a _ A C W Z=> ?_) (fun eo ec m W a=>scaled_ret9 e h eo m ec W 1 a (G.1.fit (by omega) (by omega)) (G.2.fit (by omega) (by omega)) (by omega))
 ·have:=sover9 _ _ (aG y (dV o)) (aG y (dV o)) (aG y o) (aG y o) B a ⟨_,_,rfl,a1,a1⟩ ⟨_,_,rfl,a2,a2⟩ (H.mono (by omega) (by omega)) (H.mono (by omega) (by omega)) (J.mono (by omega) (by omega)) (J.mono (by omega) (by omega)) T T (by omega) (by omega) (O.l f)
  rwa [Q] at this
 ·have:=stimes9 _ _ p q p q a ⟨_,_,rfl,A,C⟩ ⟨_,_,rfl,A,C⟩ F fq F fq
  rwa [hU] at this
 ·have:=scut9 _ u v' B a ⟨_,_,rfl,hu,j⟩ (K.1.fit (by omega) (by omega)) (K.2.fit (by omega) (by omega)) (by omega) (by omega) (O.l f)
  rwa [hR] at this
 ·have:=stimes9 _ _ p q c d a ⟨_,_,rfl,A,C⟩ ⟨_,_,rfl,W,Z⟩ F fq fc fd
  rwa [hE] at this
theorem log_fit {x:ak}{B:Nat}(g:84≤B)(h:B≤1000)(l:x.s=false)(k:x.n≠0)(j:bitLen x.n≤1200)(c:(lgP x).natAbs<2^17):
  RgS 500000000 500000000 (lgSp x B (lnLo B,lnHi B))∧RgS 400000 400000 (timesS (lnLo B,lnHi B) (wTr (lgP x).natAbs,wTr (lgP x).natAbs)):=by
 obtain⟨-,a⟩:=ath_fit g h l k j;obtain⟨-,-,-,-,d,e⟩:=ln_fits B (by omega);unfold lgSp logS;generalize athS (lgZ x B) B=A at*;generalize lgP x=p at*;generalize lnLo B=L at*;generalize lnHi B=H at*;obtain⟨N,i⟩: ∃N,p.natAbs=N:=⟨_,rfl⟩;rw[i] at c⊢;have gN:RgS 0 17 (wTr N,wTr N):=⟨RgT.w N 17 c,RgT.w N 17 c⟩;have f:=RgS.times (s:=(L,H)) (t:=(wTr N,wTr N)) ⟨d.rg,e.rg⟩ gN;have b:=f.mono (E':=400000) (T':=400000) (by omega) (by omega);refine⟨?_,b⟩;generalize timesS (L,H) (wTr N,wTr N)=T at*
 split
 ·exact a.mono (by omega) (by omega)
 ·split
  ·exact(RgS.plus (E:=410000000) (T:=410000000) a (b.neg.mono (by omega) (by omega))).mono (by omega) (by omega)
  ·exact(RgS.plus (E:=410000000) (T:=410000000) a (b.mono (by omega) (by omega))).mono (by omega) (by omega)
end Go.Proofs.YthhiidikgchdeabGreatDoor

/- Texts laid together. -/
import Derived.Test.YthhiidikgchdeaaGreatDoorKs29
import Derived.Test.YthhiidikgchdeaaGreatDoorKs31
import Derived.Test.YthhiidikgchdeaaGreatDoorKs32
set_option maxRecDepth 100000
set_option maxHeartbeats 3200000
namespace Go.Proofs.YthhiidikgchdeaaGreatDoor
open _root_.Go.Proofs.Tryz
open Go.RowKit
theorem kL (v:Value)(t:ak)(w:World)(hv:Dv w v t)(O:(Dg.dg 4294967296 t.n).length≤200000000)(P: -4000000000≤t.e∧t.e≤4000000000)(Z:Tab w)(T:tz t.n≤6400000000):
  yC 67 #[v] w (gR w (bU t)):=by
 have j:Hid (∀q,yB w q→yC 60 #[v] q (jN q (bare t))):=fun q a=>II v t q (hv.l a) O P (Z.l a) T
 obtain⟨s0,rfl,S⟩:=hv;obtain⟨D,H,rfl⟩:=S.shape;obtain⟨C,n,e⟩:=t;simp only at S O P T⊢j;obtain⟨m,hm⟩: ∃m,(Dg.dg 4294967296 n).length=m:=⟨_,rfl⟩;rw[hm] at j⊢;obtain⟨⟨i,bn,h⟩,a0⟩: ∃bt,bare ⟨C,n,e⟩=bt:=⟨_,rfl⟩;unfold bU;rw[a0] at j⊢;simp only at j⊢;clear a0 hm S O P T Z;have o:=(aA w (.bool C) (.slice D m H) (yi e) 41).l (af _ (.cells (ydA false yN 0) 25));have d:=aA (w.alloc (.cells (ydA C (.slice D m H) e) 41)) (.bool false) yN (yi 0) 25;have k:=aa (af w (.cells (ydA C (.slice D m H) e) 41)) (af _ (.cells (ydA false yN 0) 25));rw[World.size_alloc] at d
 by_cases Y:1200< (Dg.dg 4294967296 bn).length
 ·rw[if_pos Y]
  go_enter func67,ntmps67
  go_wp2_with fail
  refine(j.out _ k).mono ?_;rintro x q ⟨s,rfl,p,a⟩;have o:=o.l a;have d:=d.l a;have r:=aa k a;rw[World.size_alloc,World.size_alloc] at p;obtain⟨g,f,B⟩:=p.rd.shape;subst B;obtain⟨Q,⟨E,F,G⟩,L,M,N⟩:=id o;obtain⟨R,⟨I,J,K⟩,U,W,X⟩:=id d;clear k a j
  go_wp2
  obtain⟨-,⟨y,z,A⟩,-⟩:=aD (d.apart (c:=w.heap.size) (by omega) (.bool i) (yT g bn f) (yi h)) (.bool false) yN (yi 0);have u:=am (am r (Nat.le_refl _) (.bool i) (yT g bn f) (yi h)) (show w.heap.size≤w.heap.size+1 by omega) (.bool false) yN (yi 0)
  refine bodyPost_ret (v:= .tuple #[.agg #[(.bool false),yN,(yi 0)],yi 2]) (by simp[results,results67,go_sem,y,z,A]) rfl ?_;exact⟨_,rfl,aQ _ _ _ _,u⟩
 ·rw[if_neg Y]
  by_cases h2:h< -20000
  ·rw[if_pos (Or.inl h2)]
   go_enter func67,ntmps67
   go_wp2_with fail
   refine(j.out _ k).mono ?_;rintro x q ⟨s,rfl,p,a⟩;have o:=o.l a;have d:=d.l a;have r:=aa k a;rw[World.size_alloc,World.size_alloc] at p;obtain⟨g,f,B⟩:=p.rd.shape;subst B;obtain⟨Q,⟨E,F,G⟩,L,M,N⟩:=id o;obtain⟨R,⟨I,J,K⟩,U,W,X⟩:=id d;clear k a j
   go_wp2
   obtain⟨-,⟨y,z,A⟩,-⟩:=aD (d.apart (c:=w.heap.size) (by omega) (.bool i) (yT g bn f) (yi h)) (.bool false) yN (yi 0);have u:=am (am r (Nat.le_refl _) (.bool i) (yT g bn f) (yi h)) (show w.heap.size≤w.heap.size+1 by omega) (.bool false) yN (yi 0)
   refine bodyPost_ret (v:= .tuple #[.agg #[(.bool false),yN,(yi 0)],yi 3]) (by simp[results,results67,go_sem,y,z,A]) rfl ?_;exact⟨_,rfl,aQ _ _ _ _,u⟩
  ·by_cases h3:20000<h
   ·rw[if_pos (Or.inr h3)]
    go_enter func67,ntmps67
    go_wp2_with fail
    refine(j.out _ k).mono ?_;rintro x q ⟨s,rfl,p,a⟩;have o:=o.l a;have d:=d.l a;have r:=aa k a;rw[World.size_alloc,World.size_alloc] at p;obtain⟨g,f,B⟩:=p.rd.shape;subst B;obtain⟨Q,⟨E,F,G⟩,L,M,N⟩:=id o;obtain⟨R,⟨I,J,K⟩,U,W,X⟩:=id d;clear k a j
    go_wp2
    obtain⟨-,⟨y,z,A⟩,-⟩:=aD (d.apart (c:=w.heap.size) (by omega) (.bool i) (yT g bn f) (yi h)) (.bool false) yN (yi 0);have u:=am (am r (Nat.le_refl _) (.bool i) (yT g bn f) (yi h)) (show w.heap.size≤w.heap.size+1 by omega) (.bool false) yN (yi 0)
    refine bodyPost_ret (v:= .tuple #[.agg #[(.bool false),yN,(yi 0)],yi 3]) (by simp[results,results67,go_sem,y,z,A]) rfl ?_;exact⟨_,rfl,aQ _ _ _ _,u⟩
   ·rw[if_neg (by omega)]
    go_enter func67,ntmps67
    go_wp2_with fail
    refine(j.out _ k).mono ?_;rintro x q ⟨s,rfl,p,a⟩;have o:=o.l a;have d:=d.l a;have r:=aa k a;rw[World.size_alloc,World.size_alloc] at p;obtain⟨g,f,B⟩:=p.rd.shape;subst B;obtain⟨Q,⟨E,F,G⟩,L,M,N⟩:=id o;obtain⟨R,⟨I,J,K⟩,U,W,X⟩:=id d;clear k a j
    go_wp2
    obtain⟨-,⟨y,z,A⟩,-⟩:=aD (d.apart (c:=w.heap.size) (by omega) (.bool i) (yT g bn f) (yi h)) (.bool i) (yT g bn f) (yi h);have a1:=(p.apart3 (b:=w.heap.size) (by omega) (.bool i) (yT g bn f) (yi h)).apart3 (b:=w.heap.size+1) (by omega) (.bool i) (yT g bn f) (yi h);have u:=am (am r (Nat.le_refl _) (.bool i) (yT g bn f) (yi h)) (show w.heap.size≤w.heap.size+1 by omega) (.bool i) (yT g bn f) (yi h)
    refine bodyPost_ret (v:= .tuple #[.agg #[(.bool i),(yT g bn f),(yi h)],yi 0]) (by simp[results,results67,go_sem,y,z,A]) rfl ?_;exact⟨_,rfl,a1.lower (by omega),u⟩
def dr (w:World)(t:ak)(e:Ending)(w':World):Prop:= ∃s,e= .returned (ydV t.s s t.e)∧Rd w' .i64 s (Dg.dg 65536 t.n)∧yB w w'
theorem di.near {w:World}{t:ak}{e:Ending}{w':World}(h:di w t e w'):dr w t e w':=by
 obtain⟨s,a,b,-,c⟩:=h;exact⟨s,a,b,c⟩
def cC (c:Int)(t:ak):ak×Int:=if c=0 then bU t else(⟨false,0,0⟩,c)
theorem jw {w:World}{s:Bool}{a:Option Addr}{b:Nat}{xs:List Nat}{e:Int}(d:Rd w .u32 (.slice a xs.length b) xs)(f:Dg.Small 4294967296 xs)(c:Dg.Norm xs):
  Dv w (ydV s (.slice a xs.length b) e) ⟨s,Dg.vl 4294967296 xs,e⟩:=by
 have h:=Dg.eq_dg 4294967296 (by omega) xs _ f c rfl;refine⟨_,rfl, ?_⟩;simp only;rw[←h];exact d
def xw (c:Int)(a b:ak):Int:=if c=0 then dJ (aG a (dV b)) else 0
theorem ja (f:Value)(t:ak)(w:World)(b:Rd w .i64 f (Dg.dg 65536 t.n)):yC 41 #[ydV t.s f t.e] w (yR w (.agg #[.bool (dB t).s,f,yi (dB t).e])):=by
 obtain⟨j,k,rfl⟩:=b.shape;obtain⟨g,n,e⟩:=t;have d:=Dg.dg_nil_iff 65536 n (by omega);simp only at b⊢;unfold dB;simp only;have a:(0< (Dg.dg 65536 n).length)↔0<n:=by
  rw[List.length_pos_iff,Ne,d];omega
 obtain⟨m,c⟩: ∃m,(Dg.dg 65536 n).length=m:=⟨_,rfl⟩;rw[c] at a b⊢;clear b
 by_cases h:0<n
 ·have i:=a.2 h
  rw[decide_eq_true h,Bool.and_true];clear a h c d
  cases g
  ·go_enter func41,ntmps41
   go_wp2
   go_returns
   exact⟨rfl,aa (af w _) (af _ _)⟩
  ·go_enter func41,ntmps41
   go_wp2
   go_returns
   exact⟨rfl,aa (af w _) (af _ _)⟩
 ·have i: ¬0<m:=fun e=>h (a.1 e)
  rw[decide_eq_false h,Bool.and_false];clear a h c d
  cases g
  ·go_enter func41,ntmps41
   go_wp2
   go_returns
   exact⟨rfl,aa (af w _) (af _ _)⟩
  ·go_enter func41,ntmps41
   go_wp2
   go_returns
   exact⟨rfl,aa (af w _) (af _ _)⟩
theorem Hu (s:Bool)(o:Option Addr)(C H:Nat)(e:Int)(t:Bool)(B:Option Addr)(D I:Nat)(f:Int)(r q:ak×Int)(w:World)
  (X: ∀j,yB w j→yC 67 #[ydV s (.slice o H C) e] j (gR j r))
  (Y: ∀j,yB w j→yC 67 #[ydV t (.slice B I D) f] j (gR j q)):
  yC 26 #[.agg #[.bool s,.slice o H C,yi e,.bool t,.slice B I D,yi f]] w (jE w (iD r q)):=by
 have H1:Hid _:=X;have H2:Hid _:=Y;clear X Y;obtain⟨⟨rs,b,a⟩,c⟩:=r;have U:=(aJ w (.bool s) (.slice o H C) (yi e) (.bool t) (.slice B I D) (yi f) 49).l (af _ (.cells #[.bool false,yN,yi 0,.bool false,yN,yi 0] 27));have R:=aJ (w.alloc (.cells #[.bool s,.slice o H C,yi e,.bool t,.slice B I D,yi f] 49)) (.bool false) yN (yi 0) (.bool false) yN (yi 0) 27;have T:=aa (af w (.cells #[.bool s,.slice o H C,yi e,.bool t,.slice B I D,yi f] 49)) (af _ (.cells #[.bool false,yN,yi 0,.bool false,yN,yi 0] 27));simp only[World.size_alloc] at R;obtain⟨-,⟨c0,c1,c2,c3,c4,c5⟩,-⟩:=id U
 go_enter func26,ntmps26
 go_wp2_with fail
 refine(H1.out _ T).mono ?_;rintro z w4 ⟨W,rfl,m,Q⟩;have a0:=aa T Q;have q4:=U.l Q;have k4:=R.l Q;have m:=m.lower (show w.heap.size+2≤_ from by have:=R.1;omega)
 clear Q U R T c0 c1 c2 c3 c4 c5;obtain⟨p,E,h4⟩:=m.rd.shape;subst h4;simp only at m⊢;have x:=af w4 (.cells (ydA rs (yT p b E) a) 25);have Z:=aA w4 (.bool rs) (yT p b E) (yi a) 25;have P:=aa a0 x;have q5:=q4.l x;have S:=k4.l x;have o5:=m.l x;clear a0 q4 k4 x m;obtain⟨-,⟨-,-,-,p3,p4,p5⟩,-⟩:=id q5
 by_cases hc:c=0
 ·subst hc
  obtain⟨⟨qs,h,g⟩,d⟩:=q
  go_wp2_with fail
  refine(H2.out _ P).mono ?_;rintro z w7 ⟨v7,rfl,n,y⟩;have a1:=aa P y;have a7:=Z.l y;have k7:=S.l y;have a2:=o5.l y;have n:=n.lower (show w.heap.size+2≤_ from by have:=S.1;omega)
  clear P Z S q5 y o5 p3 p4 p5;obtain⟨u,F,h7⟩:=n.rd.shape;subst h7;simp only at n⊢;have k:=af w7 (.cells (ydA qs (yT u h F) g) 25);have e8:=aA w7 (.bool qs) (yT u h F) (yi g) 25;have bX:=aa a1 k;have a8:=a7.l k;have i:=k7.l k;have a3:=a2.l k;have a4:=n.l k;clear a1 a7 k7 k a2 n
  by_cases hd:d=0
  ·subst hd
   have G:iD (⟨rs,b,a⟩,0) (⟨qs,h,g⟩,0)=(⟨rs,b,a⟩,⟨qs,h,g⟩,0):=by simp[iD]
   obtain⟨-,⟨i0,i1,i2⟩,-⟩:=id a8;obtain⟨-,⟨j0,j1,j2⟩,-⟩:=id e8;obtain⟨hl,⟨v0,v1,v2,v3,W,v5⟩,f0,f1,f2,f3,f4,f5⟩:=id i
   go_wp2
   obtain⟨-,⟨J,K,L,M,N,O⟩,-⟩:=bP i (.bool rs) (yT p b E) (yi a) (.bool qs) (yT u h F) (yi g);have A:=aW bX (show w.heap.size≤w.heap.size+1 by omega) (.bool rs) (yT p b E) (yi a) (.bool qs) (yT u h F) (yi g)
   refine bodyPost_ret (v:= .tuple #[.agg #[.bool rs,yT p b E,yi a,.bool qs,yT u h F,yi g],yi 0]) (by simp[results,results26,go_sem,J,K,L,M,N,O]) rfl ?_
   try rw[G]
   exact⟨_,_,rfl,(a3.apart6 (by omega) _ _ _ _ _ _).lower (by omega),(a4.apart6 (by omega) _ _ _ _ _ _).lower (by omega),A⟩
  ·have G:iD (⟨rs,b,a⟩,0) (⟨qs,h,g⟩,d)=(⟨false,0,0⟩,⟨false,0,0⟩,d):=by simp[iD,hd]
   obtain⟨hl,⟨v0,v1,v2,v3,W,v5⟩,f0,f1,f2,f3,f4,f5⟩:=id i
   go_wp2
   obtain⟨-,⟨J,K,L,M,N,O⟩,-⟩:=bP i (.bool false) yN (yi 0) (.bool false) yN (yi 0);have A:=aW bX (show w.heap.size≤w.heap.size+1 by omega) (.bool false) yN (yi 0) (.bool false) yN (yi 0)
   refine bodyPost_ret (v:= .tuple #[.agg #[.bool false,yN,yi 0,.bool false,yN,yi 0],yi d]) (by simp[results,results26,go_sem,J,K,L,M,N,O]) rfl ?_
   try rw[G]
   exact⟨_,_,rfl,aQ _ _ _ _,aQ _ _ _ _,A⟩
 ·have G:iD (⟨rs,b,a⟩,c) q=(⟨false,0,0⟩,⟨false,0,0⟩,c):=by simp[iD,hc]
  have i:=S;have bX:=P;obtain⟨hl,⟨v0,v1,v2,v3,W,v5⟩,f0,f1,f2,f3,f4,f5⟩:=id i
  go_wp2
  obtain⟨-,⟨J,K,L,M,N,O⟩,-⟩:=bP i (.bool false) yN (yi 0) (.bool false) yN (yi 0);have A:=aW bX (show w.heap.size≤w.heap.size+1 by omega) (.bool false) yN (yi 0) (.bool false) yN (yi 0)
  refine bodyPost_ret (v:= .tuple #[.agg #[.bool false,yN,yi 0,.bool false,yN,yi 0],yi c]) (by simp[results,results26,go_sem,J,K,L,M,N,O]) rfl ?_
  try rw[G]
  exact⟨_,_,rfl,aQ _ _ _ _,aQ _ _ _ _,A⟩
def BRd (w:World)(l h:ak)(er:Int)(z:Ending)(w':World):Prop:=
 ∃p q,z= .returned (.tuple #[.agg #[.bool l.s,p,yi l.e,.bool h.s,q,yi h.e],yi er])∧Rd w' .u32 p (Dg.dg 4294967296 l.n)∧Rd w' .u32 q (Dg.dg 4294967296 h.n)∧yB w w'
theorem refined_Exp (H:Nat)(x y p q:ak)(b c n er:Int)(w:World)(hc:IntKind.i64.wrap (b+32)=c)(hn:IntKind.i64.wrap (c+32)=n)
  (i: ∀pf pi a,yB w a→au a pf 50 [.func (.func 28) #[] #[.pointer (some ⟨H,0,none⟩)]]→au a pi 3 [yi c]→yC 70 #[yi n,.func (.func 68) #[] #[.pointer (some ⟨pf,0,none⟩),.pointer (some ⟨pi,0,none⟩)],.func (.func 71) #[] #[.pointer (some ⟨pi,0,none⟩)]] a (aeT a x y))
  (j: ∀z v B A a,yB w a→Rd a .u32 (yT z x.n v) (Dg.dg 4294967296 x.n)→Rd a .u32 (yT B y.n A) (Dg.dg 4294967296 y.n)→yC 26 #[.agg #[.bool x.s,yT z x.n v,yi x.e,.bool y.s,yT B y.n A,yi y.e]] a (BRd a p q er)):
  yC 27 #[yi b,.func (.func 28) #[] #[.pointer (some ⟨H,0,none⟩)]] w (BRd w p q er):=by
 replace i:Hid _:=i;replace j:Hid _:=j;obtain⟨O,o,q1,q2,E⟩:=iG w [.func (.func 28) #[] #[.pointer (some ⟨H,0,none⟩)]] 50 [.bool false,yN,yi 0,.bool false,yN,yi 0] 27;replace o:Hid _:=o
 go_enter func27,ntmps27
 go_upto_region 1 with fail
 rw[o.out];clear o;obtain⟨W8,r,J,k⟩:=cA O [yi c] 3;replace r:Hid _:=r;have ad:w.heap.size≤O.heap.size:=E.size;have ae:=q1.lt;have al:=q2.lt;have R:=q1.l k;have S:=q2.l k;have C:=aa E k;clear q1 q2 E k
 go_upto_region 2 with fail
 rw[r.out];clear r;have Z:=J.c 0 rfl
 go_wp2_with fail
 refine(i.out _ _ _ C R J).mono ?_;rintro zz W ⟨ap,ar,rfl,K,L,G⟩;have I:=S.l G;have D:=aa C G;obtain⟨z,v,d⟩:=K.shape;subst d;obtain⟨B,A,d⟩:=L.shape;subst d;clear R S J C G i Z;obtain⟨ac,m,T,f⟩:=cA W [.bool x.s,yT z x.n v,yi x.e,.bool y.s,yT B y.n A,yi y.e] 49;replace m:Hid _:=m;have an:w.heap.size≤W.heap.size:=D.size;have ao:=I.lt;have U:=I.l f;have M:=K.l f;have N:=L.l f;have F:=aa D f;clear I K L D f
 go_upto_region 4 with fail
 rw[m.out];clear m;obtain⟨a0,a1,a2,a3,a4,a5⟩:=T.cs6
 go_wp2_with fail
 refine(j.out _ _ _ _ _ F M N).mono ?_;rintro zz ax ⟨aq,av,rfl,t,u,g⟩;have h:=U.l g;have a6:=M.l g;have a7:=N.l g;have Q:=aa F g;obtain⟨po,pc,d⟩:=t.shape;subst d;obtain⟨qo,qc,d⟩:=u.shape;subst d;clear U T M N F g j a0 a1 a2 a3 a4 a5;have hf:=fin6 (P:=Tryz.prog) h Q (by omega) underlying27 rfl (by kernel_rfl) (.bool p.s) (yT po p.n pc) (yi p.e) (.bool q.s) (yT qo q.n qc) (yi q.e);have X:Hid (_∧_∧_∧_):=⟨hf.1,hf.2.2.rd t (aX t h (by simp)),hf.2.2.rd u (aX u h (by simp)),hf.2.1⟩;obtain⟨⟨z0,z1,z2,z3,z4,z5⟩,y0,y1,y2,y3,y4,y5⟩:=csf6 h;clear hf h a6 a7 t u Q
 go_wp2
 obtain⟨hl,a8,a9,Y⟩:=X.out;exact bodyPost_ret (aj results27 rfl rfl hl) rfl ⟨_,_,rfl,a8,a9,Y⟩
theorem Exp_e2 (x y:ak)(s:Bool)(u:Option Addr)(F D:Nat)(e b g:Int)(w:World)(hg:0<g)
  (i: ∀a,yB w a→yC 20 #[ydV s (.slice u F D) e,yi b] a (NRd a x 0))
  (k: ∀d c a,yC 21 #[yDV x d c] a (yR a (ydV false (yT d x.n c) x.e)))
  (j: ∀a,yB w a→yC 23 #[yi 12000] a (Lx a y))
  (h: ∀d c L K a,yB w a→Rd a .u32 (yT d x.n c) (Dg.dg 4294967296 x.n)→Rd a .u32 (yT L y.n K) (Dg.dg 4294967296 y.n)→yC 22 #[ydV false (yT d x.n c) x.e,yDV y L K] a (yR a (yi g))):
  yC 9 #[ydV s (.slice u F D) e,yi b] w (yR w (.tuple #[.agg #[.bool false,yN,yi 0,.bool false,yN,yi 0],yi 2])):=by
 replace i:Hid _:=i;replace k:Hid _:=k;replace j:Hid _:=j;replace h:Hid _:=h;obtain⟨W4,r,q1,q2,z⟩:=iG w (ydL s (.slice u F D) e) 25 [.bool false,yN,yi 0,.bool false,yN,yi 0] 27;replace r:Hid _:=r
 go_enter func9,ntmps9
 go_upto_region 1 with fail
 rw[r.out];clear r;obtain⟨c6,c7,c8⟩:=q1.cs3
 go_wp2_with fail
 refine(i.out _ z).mono ?_;rintro M X ⟨a8,rfl,I,C⟩;have G:=q2.l C;have v:=aa z C;obtain⟨d,c,E⟩:=I.shape;subst E;clear q1 q2 z C i c6 c7 c8;obtain⟨a5,q,Q,m⟩:=cA X (yDL x d c) 41;replace q:Hid _:=q;have a6:w.heap.size≤X.heap.size:=v.size;have a7:=G.lt;have R:=G.l m;have U:=I.l m;have N:=aa v m;clear G I v m
 go_upto_region 2 with fail
 rw[q.out];clear q;obtain⟨a0,a1,a2⟩:=Q.cs3
 go_wp2_with fail
 refine(k.out _ _ _).mono ?_;rintro M ac ⟨rfl,o⟩;have S:=R.l o;have W:=U.l o;have A:=aa N o;clear R Q U N o k a0 a1 a2
 go_wp2_with fail
 refine(j.out _ A).mono ?_;rintro M ad ⟨a9,rfl,t,p⟩;have T:=S.l p;have J:=W.l p;have B:=aa A p;obtain⟨L,K,E⟩:=t.shape;subst E;clear S W A p j
 go_wp2_with fail
 refine(h.out _ _ _ _ _ B J t).mono ?_;rintro M ae ⟨rfl,f⟩;have H:=T.l f;have a3:=J.l f;have a4:=t.l f;have O:=aa B f;clear T J t B f h;have hf:=fin6 (P:=Tryz.prog) H O (by omega) underlying27 rfl (by kernel_rfl) (.bool false) yN (yi 0) (.bool false) yN (yi 0);have Y:Hid (_∧_):=⟨hf.1,hf.2.1⟩;obtain⟨⟨z0,z1,z2,z3,z4,z5⟩,y0,y1,y2,y3,y4,y5⟩:=csf6 H;clear hf H a3 a4 O
 go_wp2
 obtain⟨hl,Z⟩:=Y.out;exact bodyPost_ret (aj results9 rfl rfl hl) rfl ⟨rfl,Z⟩
theorem Exp_e3 (x y u p q:ak)(s:Bool)(O:Option Addr)(la Z:Nat)(e b g f er:Int)(w:World)(hg: ¬0<g)(hf:f=0)
  (D: ∀a,yB w a→yC 20 #[ydV s (.slice O la Z) e,yi b] a (NRd a x 0))
  (F: ∀h d a,yC 21 #[yDV x h d] a (yR a (ydV false (yT h x.n d) x.e)))
  (E: ∀a,yB w a→yC 23 #[yi 12000] a (Lx a y))
  (B: ∀h d yo yc a,yB w a→Rd a .u32 (yT h x.n d) (Dg.dg 4294967296 x.n)→Rd a .u32 (yT yo y.n yc) (Dg.dg 4294967296 y.n)→yC 22 #[ydV false (yT h x.n d) x.e,yDV y yo yc] a (yR a (yi g)))
  (C: ∀h d a,yB w a→Rd a .u32 (yT h x.n d) (Dg.dg 4294967296 x.n)→yC 24 #[yDV x h d] a (yR a (yi f)))
  (z: ∀a,yB w a→yC 25 #[yi 1] a (aeT a u u))
  (A: ∀uo uc vo vc a,yB w a→Rd a .u32 (yT uo u.n uc) (Dg.dg 4294967296 u.n)→Rd a .u32 (yT vo u.n vc) (Dg.dg 4294967296 u.n)→yC 26 #[.agg #[.bool u.s,yT uo u.n uc,yi u.e,.bool u.s,yT vo u.n vc,yi u.e]] a (BRd a p q er)):
  yC 9 #[ydV s (.slice O la Z) e,yi b] w (BRd w p q er):=by
 replace D:Hid _:=D;replace F:Hid _:=F;replace E:Hid _:=E;replace B:Hid _:=B;replace C:Hid _:=C;replace z:Hid _:=z;replace A:Hid _:=A;obtain⟨W4,I,q1,q2,R⟩:=iG w (ydL s (.slice O la Z) e) 25 [.bool false,yN,yi 0,.bool false,yN,yi 0] 27;replace I:Hid _:=I
 go_enter func9,ntmps9
 go_upto_region 1 with fail
 rw[I.out];clear I;obtain⟨c6,c7,c8⟩:=q1.cs3
 go_wp2_with fail
 refine(D.out _ R).mono ?_;rintro k w9 ⟨bh,rfl,a2,Y⟩;have a0:=q2.l Y;have Q:=aa R Y;obtain⟨h,d,c⟩:=a2.shape;subst c;clear q1 q2 R Y D c6 c7 c8;obtain⟨be,H,a1,G⟩:=cA w9 (yDL x h d) 41;replace H:Hid _:=H;have bf:w.heap.size≤w9.heap.size:=Q.size;have bg:=a0.lt;have a7:=a0.l G;have aq:=a2.l G;have a5:=aa Q G;clear a0 a2 Q G
 go_upto_region 2 with fail
 rw[H.out];clear H;obtain⟨b1,b2,b4⟩:=a1.cs3
 go_wp2_with fail
 refine(F.out _ _ _).mono ?_;rintro k bo ⟨rfl,m⟩;have a8:=a7.l m;have a9:=a1.l m;have ar:=aq.l m;have S:=aa a5 m;clear a7 a1 aq a5 m F b1 b2 b4
 go_wp2_with fail
 refine(E.out _ S).mono ?_;rintro k bp ⟨bi,rfl,J,o⟩;have ac:=a8.l o;have ad:=a9.l o;have a3:=ar.l o;have T:=aa S o;obtain⟨yo,yc,c⟩:=J.shape;subst c;clear a8 a9 ar S o E
 go_wp2_with fail
 refine(B.out _ _ _ _ _ T a3 J).mono ?_;rintro k bq ⟨rfl,j⟩;have ae:=ac.l j;have al:=ad.l j;have a4:=a3.l j;have av:=J.l j;have U:=aa T j;clear ac ad a3 J T j B;obtain⟨b5,b6,b7⟩:=al.cs3
 go_wp2_with fail
 refine(C.out _ _ _ U a4).mono ?_;rintro k bs ⟨rfl,r⟩;have an:=ae.l r;have ax:=a4.l r;have ay:=av.l r;have W:=aa U r;clear ae al a4 av U r C b5 b6 b7
 go_wp2_with fail
 refine(z.out _ W).mono ?_;rintro k bt ⟨bj,bm,rfl,K,M,t⟩;have ap:=an.l t;have az:=ax.l t;have b0:=ay.l t;have X:=aa W t;obtain⟨uo,uc,c⟩:=K.shape;subst c;obtain⟨vo,vc,c⟩:=M.shape;subst c;clear an ax ay W t z
 go_wp2_with fail
 refine(A.out _ _ _ _ _ X K M).mono ?_;rintro k bu ⟨bl,bn,rfl,L,N,i⟩;have v:=ap.l i;have b8:=az.l i;have b9:=b0.l i;have ba:=K.l i;have bb:=M.l i;have a6:=aa X i;obtain⟨po,pc,c⟩:=L.shape;subst c;obtain⟨qo,qc,c⟩:=N.shape;subst c;clear ap az b0 K M X i A;have hf:=fin6 (P:=Tryz.prog) v a6 (by omega) underlying27 rfl (by kernel_rfl) (.bool p.s) (yT po p.n pc) (yi p.e) (.bool q.s) (yT qo q.n qc) (yi q.e);have HH:Hid (_∧_∧_∧_):=⟨hf.1,hf.2.2.rd L (aX L v (by simp)),hf.2.2.rd N (aX N v (by simp)),hf.2.1⟩;obtain⟨⟨z0,z1,z2,z3,z4,z5⟩,y0,y1,y2,y3,y4,y5⟩:=csf6 v;clear hf v b8 b9 ba bb L N a6
 go_wp2
 obtain⟨hl,bc,bd,bR⟩:=HH.out;exact bodyPost_ret (aj results9 rfl rfl hl) rfl ⟨_,_,rfl,bc,bd,bR⟩
theorem Exp_W (x y p q:ak)(s:Bool)(J:Option Addr)(T S:Nat)(e b g f er:Int)(w:World)(hg: ¬0<g)(hf: ¬f=0)
  (z: ∀a,yB w a→yC 20 #[ydV s (.slice J T S) e,yi b] a (NRd a x 0))
  (C: ∀d c a,yC 21 #[yDV x d c] a (yR a (ydV false (yT d x.n c) x.e)))
  (B: ∀a,yB w a→yC 23 #[yi 12000] a (Lx a y))
  (u: ∀d c yo yc a,yB w a→Rd a .u32 (yT d x.n c) (Dg.dg 4294967296 x.n)→Rd a .u32 (yT yo y.n yc) (Dg.dg 4294967296 y.n)→yC 22 #[ydV false (yT d x.n c) x.e,yDV y yo yc] a (yR a (yi g)))
  (v: ∀d c a,yB w a→Rd a .u32 (yT d x.n c) (Dg.dg 4294967296 x.n)→yC 24 #[yDV x d c] a (yR a (yi f)))
  (A: ∀pa d c a,yB w a→au a pa 41 (yDL x d c)→Rd a .u32 (yT d x.n c) (Dg.dg 4294967296 x.n)→yC 27 #[yi b,.func (.func 28) #[] #[.pointer (some ⟨pa,0,none⟩)]] a (BRd a p q er)):
  yC 9 #[ydV s (.slice J T S) e,yi b] w (BRd w p q er):=by
 replace z:Hid _:=z;replace C:Hid _:=C;replace B:Hid _:=B;replace u:Hid _:=u;replace v:Hid _:=v;replace A:Hid _:=A;obtain⟨W4,F,q1,q2,L⟩:=iG w (ydL s (.slice J T S) e) 25 [.bool false,yN,yi 0,.bool false,yN,yi 0] 27;replace F:Hid _:=F
 go_enter func9,ntmps9
 go_upto_region 1 with fail
 rw[F.out];clear F;obtain⟨c6,c7,c8⟩:=q1.cs3
 go_wp2_with fail
 refine(z.out _ L).mono ?_;rintro t w9 ⟨b8,rfl,Y,R⟩;have U:=q2.l R;have K:=aa L R;obtain⟨d,c,h⟩:=Y.shape;subst h;clear q1 q2 L R z c6 c7 c8;obtain⟨b5,E,W,D⟩:=cA w9 (yDL x d c) 41;replace E:Hid _:=E;have b6:w.heap.size≤w9.heap.size:=K.size;have b7:=U.lt;have a4:=U.l D;have ae:=Y.l D;have a2:=aa K D;clear U Y K D
 go_upto_region 2 with fail
 rw[E.out];clear E;obtain⟨aq,ar,av⟩:=W.cs3
 go_wp2_with fail
 refine(C.out _ _ _).mono ?_;rintro t bc ⟨rfl,k⟩;have a5:=a4.l k;have a6:=W.l k;have al:=ae.l k;have M:=aa a2 k;clear a4 W ae a2 k C aq ar av
 go_wp2_with fail
 refine(B.out _ M).mono ?_;rintro t bd ⟨b9,rfl,G,m⟩;have a7:=a5.l m;have a8:=a6.l m;have Z:=al.l m;have N:=aa M m;obtain⟨yo,yc,h⟩:=G.shape;subst h;clear a5 a6 al M m B
 go_wp2_with fail
 refine(u.out _ _ _ _ _ N Z G).mono ?_;rintro t be ⟨rfl,i⟩;have a9:=a7.l i;have X:=a8.l i;have a0:=Z.l i;have an:=G.l i;have O:=aa N i;clear a7 a8 Z G N i u;obtain⟨ax,ay,az⟩:=X.cs3
 go_wp2_with fail
 refine(v.out _ _ _ O a0).mono ?_;rintro t bf ⟨rfl,j⟩;have ac:=a9.l j;have ad:=X.l j;have a1:=a0.l j;have ap:=an.l j;have Q:=aa O j;clear a9 X a0 an O j v ax ay az
 go_wp2_with fail
 refine(A.out _ _ _ _ Q ad a1).mono ?_;rintro t bg ⟨ba,bb,rfl,H,I,o⟩;have r:=ac.l o;have b0:=a1.l o;have b1:=ap.l o;have a3:=aa Q o;obtain⟨po,pc,h⟩:=H.shape;subst h;obtain⟨qo,qc,h⟩:=I.shape;subst h;clear ac ad a1 ap Q o A;have hf:=fin6 (P:=Tryz.prog) r a3 (by omega) underlying27 rfl (by kernel_rfl) (.bool p.s) (yT po p.n pc) (yi p.e) (.bool q.s) (yT qo q.n qc) (yi q.e);have HH:Hid (_∧_∧_∧_):=⟨hf.1,hf.2.2.rd H (aX H r (by simp)),hf.2.2.rd I (aX I r (by simp)),hf.2.1⟩;obtain⟨⟨z0,z1,z2,z3,z4,z5⟩,y0,y1,y2,y3,y4,y5⟩:=csf6 r;clear hf r b0 b1 H I a3
 go_wp2
 obtain⟨hl,b2,b4,bR⟩:=HH.out;exact bodyPost_ret (aj results9 rfl rfl hl) rfl ⟨_,_,rfl,b2,b4,bR⟩
theorem refine_once (pf pi:Nat)(x y:ak)(n:Int)(w:World)
  (k: ∀a,yB w a→yC 68 #[yi n,.pointer (some ⟨pf,0,none⟩),.pointer (some ⟨pi,0,none⟩)] a (aeT a x y))
  (j: ∀g f i h a,yB w a→Rd a .u32 (yT g x.n f) (Dg.dg 4294967296 x.n)→Rd a .u32 (yT i y.n h) (Dg.dg 4294967296 y.n)→yC 71 #[.agg #[.bool x.s,yT g x.n f,yi x.e,.bool y.s,yT i y.n h,yi y.e],.pointer (some ⟨pi,0,none⟩)] a (yR a (.bool true))):
  yC 70 #[yi n,.func (.func 68) #[] #[.pointer (some ⟨pf,0,none⟩),.pointer (some ⟨pi,0,none⟩)],.func (.func 71) #[] #[.pointer (some ⟨pi,0,none⟩)]] w (aeT w x y):=by
 replace k:Hid _:=k;replace j:Hid _:=j;obtain⟨W3,o,q1,q⟩:=cA w [.bool false,yN,yi 0,.bool false,yN,yi 0] 49;replace o:Hid _:=o
 go_enter func70,ntmps70
 go_upto_region 1 with fail
 rw[o.out];clear o
 go_wp2_with fail
 refine(k.out _ q).mono ?_;rintro zz O ⟨ad,ae,rfl,C,D,r⟩;have v:=q1.l r;have p:=aa q r;obtain⟨g,f,u⟩:=C.shape;subst u;obtain⟨i,h,u⟩:=D.shape;subst u;clear q1 q r k;obtain⟨R,m,J,c⟩:=cA O [.bool x.s,yT g x.n f,yi x.e,.bool y.s,yT i y.n h,yi y.e] 49;replace m:Hid _:=m;have a9:w.heap.size≤O.heap.size:=p.size;have ac:=v.lt;have K:=v.l c;have M:=C.l c;have N:=D.l c;have H:=aa p c;clear v C D p c
 go_wp2_with fail
 rw[m.out];clear m;have t:=H;have L:=K;have z:=J;have E:=M;have F:=N;clear K J M N H
 go_wp2
 go_loopw [0] (fun nv wr=>nv=yi n∧wr=R) (fun _ _=>0)
 case atStart=>exact⟨rfl,rfl⟩
 case round=>
  obtain⟨rfl,a0⟩:=hrel;subst a0;obtain⟨T,U,W,X,Y,Z⟩:=z.cs6
  go_wp2_with fail
  refine(j.out _ _ _ _ _ t E F).mono ?_;rintro zz al ⟨rfl,b⟩;have d:=L.l b;have I:=z.l b;have A:=E.l b;have B:=F.l b;have G:=aa t b;clear L z E F t b j T U W X Y Z;obtain⟨a3,a4,a5,a6,a7,a8⟩:=I.cs6;have hf:=fin6 (P:=Tryz.prog) d G (by omega) underlying49 rfl (by kernel_rfl) (.bool x.s) (yT g x.n f) (yi x.e) (.bool y.s) (yT i y.n h) (yi y.e);have Q:Hid (_∧_∧_∧_):=⟨hf.1,hf.2.2.rd A (aX A d (by simp)),hf.2.2.rd B (aX B d (by simp)),hf.2.1⟩;obtain⟨⟨z0,z1,z2,z3,z4,z5⟩,y0,y1,y2,y3,y4,y5⟩:=csf6 d;clear hf d I A B G
  go_wp2
  obtain⟨hl,a1,a2,S⟩:=Q.out;exact bodyPost_ret (br results70 rfl hl) rfl ⟨_,_,rfl,a1,a2,S⟩
theorem lt_V {K:Nat}{a b:ak}(d: -(K:Int)≤a.e)(f: -(K:Int)≤b.e):V K a<V K b↔qT a<qT b:=by
 have:=le_V f d
 constructor
 ·intro h
  by_cases c:qT a<qT b
  ·exact c
  ·have:=this.2 (by grind)
   omega
 ·intro h
  by_cases c:V K a<V K b
  ·exact c
  ·have:=this.1 (by omega)
   grind
theorem cmp_gt (a b:ak):0<bJ a b↔qT b<qT a:=by
 obtain⟨K,c,d⟩:=low2 a.e b.e;rw[ol c d,lt_V d c]
theorem cut_is_grid {t:ak}{b:Nat}(_hb:1≤b)(g:t.s=false)(up:Bool):Grid b (qT (aY t b up)):=by
 unfold aY
 by_cases c:(bitLen t.n:Int)-(b:Int)≤((if t.n=0 then 0 else tz t.n:Nat):Int)
 ·rw[if_pos c]
  by_cases a:t.n=0
  ·exact⟨0,0,Nat.zero_le _,by rw[qT_zero a];show(0:Rat)=((0:Nat):Rat)*p2 0;have:((0:Nat):Rat)=0:=rfl;grind⟩
  ·rw[if_neg a] at c
   obtain⟨h,i,d⟩:=uB t.n a;obtain⟨m,f⟩:=fO a;refine⟨2*m+1,t.e+(tz t.n:Int), ?_, ?_⟩
   ·have j:2^tz t.n*(2*m+1)<2^tz t.n*2^b:=by
     rw[←f,←Nat.pow_add];exact Nat.lt_of_lt_of_le d (Nat.pow_le_pow_right (by omega) (by omega))
    exact Nat.le_of_lt (Nat.lt_of_mul_lt_mul_left j)
   ·rw[qT_sq,g]
    simp only[sqT,Bool.false_eq_true,if_false];rw[show t.e+(tz t.n:Int)=(tz t.n:Int)+t.e by omega,p2_add,p2_nat]
    have:(t.n:Rat)=((2^tz t.n:Nat):Rat)*((2*m+1:Nat):Rat):=by rw[←Rat.natCast_mul,←f]
    rw[this]
    grind
 ·rw[if_neg c]
  obtain⟨k,l,a,-⟩:=bit_pos c;rw[l,Int.toNat_natCast];obtain⟨h,i,d⟩:=uB t.n a;refine⟨t.n/2^ (k+1)+(if(up != t.s)=true then 1 else 0),t.e+((k+1:Nat):Int), ?_, ?_⟩
  rotate_left
  ·rw[qT_sq,g]
   simp only[sqT,Bool.false_eq_true,if_false,Rat.one_mul]
  ·have:t.n/2^ (k+1)<2^b:=by
    refine Nat.div_lt_of_lt_mul ?_;rw[←Nat.pow_add];exact Nat.lt_of_lt_of_le d (Nat.pow_le_pow_right (by omega) (by omega))
   split<;>omega
theorem cut_sign (t:ak)(b:Int)(up:Bool):(aY t b up).s=t.s:=by
 unfold aY
 by_cases c:(bitLen t.n:Int)-b≤((if t.n=0 then 0 else tz t.n:Nat):Int)
 ·rw[if_pos c]
 ·rw[if_neg c]
theorem qT_nn {t:ak}(h:t.s=false):0≤qT t:=by
 rw[qT_sq,h];simp only[sqT,Bool.false_eq_true,if_false];have:=Rat.mul_nonneg (nat_nn t.n) (show 0≤p2 t.e by have:=p2_pos t.e;grind)
 grind
theorem SIn.inv {S:IvN}{f g:Nat→Rat}{X1 X2:Rat}(h:SIn S f)(k:0<S.lo)(ho:S.lo≤S.hi)(M:NrN (fun n=>f n*g n) (fun _=>1))(D:X1*S.hi=1)(u:X2*S.lo=1):SIn ⟨X1,X2⟩ g:=by
 obtain⟨j,m,N,w⟩:=h;refine⟨fun n=>1/j n,fun e L=> ?_,N,fun n m=> ?_⟩
 ·obtain⟨c,v⟩: ∃c,S.lo=c:=⟨_,rfl⟩
  rw[v] at k;have P:0<e*c*c/(c+4):=by
   have a:=Rat.mul_pos (Rat.mul_pos L k) k;have b:e*c*c/(c+4)*(c+4)=e*c*c:=Rat.div_mul_cancel (by grind);exact cancel_lt (show 0<c+4 by grind) (by rw[b];grind)
  have Q:e*c*c/(c+4)*(c+4)=e*c*c:=Rat.div_mul_cancel (by grind);obtain⟨q,R⟩: ∃q,e*c*c/(c+4)=q:=⟨_,rfl⟩;rw[R] at P Q;obtain⟨d,s,Z,d2,B⟩: ∃d:Rat,0<d∧d≤c/2∧d≤1∧d≤q:=by
   refine⟨IvN.mn (IvN.mn (c/2) 1) q, ?_, ?_, ?_, ?_⟩<;>unfold IvN.mn<;>grind
  obtain⟨x,T⟩:=m d s;obtain⟨y,U⟩:=M d s;refine⟨N+x+y,fun n m=> ?_⟩
  have o:=T n (by omega);have p:=U n (by omega);obtain⟨r,-⟩:=w n (by omega);rw[v] at r;simp only at p
  show ab (g n-1/j n)≤e
  generalize f n=F at*;generalize j n=i at*;generalize g n=G at*;have E:0<i:=by grind
  rw[ab_le] at o;have hF:c/2≤F:=by grind
  have H:ab G*c≤4:=by
   have z:ab F*ab G≤2:=by
    rw[←ab_mul];have:=ab_add (F*G-1) 1;rw[show F*G-1+1=F*G by grind] at this
    have t:ab 1=1:=by unfold ab;grind
    grind
   have A:ab F=F:=by unfold ab;grind
   rw[A] at z;have Y:=Rat.mul_le_mul_of_nonneg_right hF (ab_nonneg G)
   grind
  have l:1/i*i=1:=Rat.div_mul_cancel (by grind);have K:(G-1/i)*i=F*G-1+G*(i-F):=by
   have:(G-1/i)*i=G*i-1/i*i:=by grind
   rw[this,l]
   grind
  have O:ab (G-1/i)*i≤d+ab G*d:=by
   have t:ab (G-1/i)*i=ab ((G-1/i)*i):=by
    rw[ab_mul];have:ab i=i:=by unfold ab;grind
    rw[this]
   rw[t,K];have W:=ab_add (F*G-1) (G*(i-F));rw[ab_mul G (i-F)] at W;have X:ab (i-F)≤d:=by rw[ab_le];constructor<;>grind
   have t3:=Rat.mul_le_mul_of_nonneg_left X (ab_nonneg G)
   grind
  refine cancel_le (Rat.mul_pos E k) ?_;have m1:=Rat.mul_le_mul_of_nonneg_right O (show 0≤c by grind)
  have m2:=Rat.mul_le_mul_of_nonneg_left H (show 0≤d by grind)
  have m3:=Rat.mul_le_mul_of_nonneg_right B (show 0≤c+4 by grind)
  have m4:=Rat.mul_le_mul_of_nonneg_left r (Rat.mul_nonneg (show 0≤e by grind) (show 0≤c by grind))
  have C:ab (G-1/i)*(i*c)=ab (G-1/i)*i*c:=by grind
  rw[C]
  grind
 ·obtain⟨o,p⟩:=w n m
  have hF:0<j n:=by grind
  have l:1/j n*j n=1:=Rat.div_mul_cancel (by grind);have J:0<X2:=cancel_lt k (by rw[u];grind);have I:0<1/j n:=cancel_lt hF (by rw[l];grind)
  constructor
  ·show X1≤1/j n
   refine cancel_le (show 0<S.hi by grind) ?_
   have:=Rat.mul_le_mul_of_nonneg_left p (Rat.le_of_lt I);rw[l] at this;rw[D];exact this
  ·show 1/j n≤X2
   refine cancel_le hF ?_;have:=Rat.mul_le_mul_of_nonneg_left o (Rat.le_of_lt J);rw[u] at this;rw[l];exact this
theorem narrow_cut2 {S a:IvN}{d r:Rat}(o:0<S.lo)(p:S.lo≤S.hi)(b:0≤d)(f:r≤1/16)(j:16*d≤r)(k:S.wd≤r*S.lo)(c:IvN.Cut d S a):0<a.lo∧a.lo≤a.hi∧a.wd≤2*r*a.lo:=by
 have m:=c.lo;have n:=c.hi;have e:=c.lo';have g:=c.hi';have h:ab S.lo=S.lo:=by unfold ab;grind
 have i:ab S.hi=S.hi:=by unfold ab;grind
 rw[h] at e;rw[i] at g;unfold IvN.wd at*;have q:=Rat.mul_le_mul_of_nonneg_right j (show 0≤S.lo by grind)
 have l:=Rat.mul_le_mul_of_nonneg_right f (show 0≤S.lo by grind)
 have s:=Rat.mul_le_mul_of_nonneg_left k b;have t:=Rat.mul_le_mul_of_nonneg_left l b;have u:=Rat.mul_le_mul_of_nonneg_left e (show 0≤2*r by grind)
 have v:=Rat.mul_le_mul_of_nonneg_right f (Rat.mul_nonneg b (show 0≤S.lo by grind))
 have w:=Rat.mul_nonneg b (show 0≤S.lo by grind)
 refine⟨by grind,by grind,by grind⟩
theorem ln_fine {k:Nat}(r:84≤k)(s:k≤1200):69/100≤qT (lnLo k)∧qT (lnLo k)≤qT (lnHi k)∧qT (lnHi k)≤7/10∧qT (lnHi k)-qT (lnLo k)≤p2 (15-(k:Int))∧EvN fun n=>(ivT (lnLo k) (lnHi k)).has (CxN.la n):=by
 obtain⟨a,d⟩:=ln_has k;have o:=na_few (n:=26) (j:=9) (tn:=0) (k:=k) (by omega) (by decide);have p:=na_few (n:=4801) (j:=24) (tn:=0) (k:=k) (by omega) (by decide);have q:=na_few (n:=8749) (j:=26) (tn:=0) (k:=k) (by omega) (by decide);have i:(NA 26 0 k:Rat)≤135:=nat_le (show NA 26 0 k≤135 by omega)
 have l:(NA 4801 0 k:Rat)≤51:=nat_le (show NA 4801 0 k≤51 by omega)
 have m:(NA 8749 0 k:Rat)≤48:=nat_le (show NA 8749 0 k≤48 by omega)
 have g:=two_posR k;have c:p2 (15-(k:Int))*((2^k:Nat):Rat)=32768:=by
  rw[←p2_nat,←p2_add,show 15-(k:Int)+(k:Int)=15 by omega]
  decide+kernel
 have h:qT (lnHi k)-qT (lnLo k)≤p2 (15-(k:Int)):=by
  refine cancel_le g ?_;rw[d,c]
  grind
 have t:p2 (15-(k:Int))≤1/1024:=by
  have:=p2_mono (show 15-(k:Int)≤ -10 by omega)
  have e:p2 (-10)=1/1024:=by
   have:=p2_neg 10;have b:p2 10=1024:=by decide+kernel
   rw[b] at this
   grind
  rwa [e] at this
 obtain⟨u,v⟩:=a (k+1) (by omega);obtain⟨w,x⟩:=la_win (k+1) (by omega);exact⟨by grind,by grind,by grind,h,k+1,fun n f=>a n f⟩
theorem dtop9 (v:Value)(x:ak)(w:World)(d:Dv w v x)(f:Fit9 x):yC 98 #[v] w (yR w (yi ((bitLen x.n:Int)+x.e))):=by
 obtain⟨s,rfl,c⟩:=d;obtain⟨h,g,rfl⟩:=c.shape;obtain⟨k,i,j⟩:=f.all;have b:(bitLen x.n:Int)≤2000000000:=by have:=f.2;omega
 exact dtop_W x _ _ (bitLen x.n:Int) _ w (IntWalk.i64_in _ ⟨by omega,by omega⟩) (fun a=>cN _ _ _ _ _ a) (fun a b=>by
  have:=kE _ _ a (c.l b) (Dg.small_dg _ _ (by omega)) (Dg.norm_dg _ _ (by omega)) (by omega);rw[Dg.vl_dg _ _ (by omega)] at this;refine this.mono ?_;rintro z m ⟨rfl,rfl⟩;exact⟨rfl,Below.refl _ _⟩)
theorem restE_fit {x:ak}{B:Nat}(r:x.s=false)(q:x.n≠0)(b:RgT 40000 14 x)(v:84≤B)(y:B≤1000):
  (restE x B (lnSpan x B)).1<2^16∧RgS 100000 200000 (restE x B (lnSpan x B)).2:=by
 unfold restE
 by_cases c:x.e+(bitLen x.n:Int)<0
 ·rw[if_pos c]
  exact⟨by omega,(RgS.cut (s:=(x,x)) ⟨b,b⟩ (by omega)).mono (by omega) (by omega)⟩
 ·rw[if_neg c]
  simp only;obtain⟨a,g⟩: ∃a:Nat,x.e+(bitLen x.n:Int)=(a:Int):=⟨(x.e+(bitLen x.n:Int)).toNat,by omega⟩;have z:a≤14:=by have:=b.2;omega
  unfold lnSpan;rw[g,Int.toNat_natCast];obtain⟨t,u,-,-,-⟩:=ln_fine (k:=B+a) (by omega) (by omega);obtain⟨-,-,-,-,i,j⟩:=ln_fits (B+a) (by omega);generalize lnLo (B+a)=L at*;generalize lnHi (B+a)=H at*;have o:(1/2:Rat)≤qT L:=Rat.le_trans half_69 t;obtain⟨-,h,-⟩:=taken_any x (L,H) a B (by omega) r q g o u;simp only at h;have f:=often_le h;obtain⟨N,p⟩: ∃N,nearT (cK x L (a+32))=N:=⟨_,rfl⟩;rw[p] at f⊢;have d:N<2^16:=Nat.lt_of_lt_of_le f (Nat.pow_le_pow_right (by omega) (by omega));refine⟨d, ?_⟩;have gN:RgS 0 16 (wTr N,wTr N):=⟨RgT.w N 16 d,RgT.w N 16 d⟩;have l:=(RgS.times (s:=(L,H)) ⟨i.rg,j.rg⟩ gN).neg;have m:=RgS.plus (s:=(x,x)) (E:=100000) (T:=180000) ⟨b.mono (by omega) (by omega),b.mono (by omega) (by omega)⟩ (l.mono (by omega) (by omega));exact(m.cut (by omega)).mono (by omega) (by omega)
theorem swhole9 (n:Nat)(w:World)(h:n<1000000):yC 25 #[yi n] w (aeT w (wTr n) (wTr n)):=
 spanWhole_W n (wTr n) w (fun a=>whole_any n a (by omega)) (fun c b a=>Qy _ _ _ _ _ a)
theorem dminus9 (v u:Value)(a b:ak)(w:World)(f:Dv w v a)(e:Dv w u b)(c:Fit9 a)(d:Fit9 b):yC 63 #[v,u] w (Lx w (aG a (dV b))):=by
 obtain⟨l,g,i⟩:=c.all;obtain⟨m,j,k⟩:=d.all;exact(FT _ _ a b w f e (by omega) (by omega) (by omega) (by omega) (by omega) (by omega)).mono fun _ _ h=>h.vres
theorem expU {x:ak}{B:Nat}(l:84≤B)(m:B≤1000)(b:RgT 40000 14 x):
  0≤x.e+(bitLen x.n:Int)→1/2≤qT (lnSpan x B).1∧qT (lnSpan x B).1≤qT (lnSpan x B).2∧qT (lnSpan x B).2≤7/10∧qT (lnSpan x B).2-qT (lnSpan x B).1≤p2 (15-(B:Int)-(x.e+(bitLen x.n:Int)))∧EvN fun n=>(ivS (lnSpan x B)).has (CxN.la n):=fun c=>by
 obtain⟨a,d⟩: ∃a:Nat,x.e+(bitLen x.n:Int)=(a:Int):=⟨(x.e+(bitLen x.n:Int)).toNat,by omega⟩;have o:a≤14:=by have:=b.2;omega
 obtain⟨f,g,h,i,j⟩:=ln_fine (k:=B+a) (by omega) (by omega);unfold lnSpan;rw[d,Int.toNat_natCast];generalize lnLo (B+a)=L at*;generalize lnHi (B+a)=H at*;refine⟨Rat.le_trans half_69 f,g,h, ?_,j⟩;rw[show 15-(B:Int)-(a:Int)=15-((B+a:Nat):Int) by omega]
 exact i
theorem over_rg {y:ak}{B:Nat}(a:RgT 410000000 410000000 y)(c:1≤B)(d:B≤1000):RgT 500000000 500000000 (cK (wTr 1) y B):=
 ((RgT.w 1 1 (by omega)).over (b:=y) (B:=B) c).mono (by have:=a.2;omega) (by have:=a.1;omega)
theorem own_brd {w:World}{p q:ak}{er:Int}{z:Ending}{w':World}(h:jE w (p,q,er) z w'):BRd w p q er z w':=by
 obtain⟨v,u,e,a,c,b⟩:=h;exact⟨v,u,e,a.rd,c.rd,b⟩
theorem fit_exp {s:Bool}{xs:List Nat}{e b:Int}(a:numR s xs e b=0)(g: ¬0<bJ (sizeT (bare ⟨s,Dg.vl 4294967296 xs,e⟩)) (wTr 12000))(j:(bare ⟨s,Dg.vl 4294967296 xs,e⟩).n≠0):
  RgT 40000 14 (bare ⟨s,Dg.vl 4294967296 xs,e⟩)∧20≤b∧b≤600:=by
 unfold numR at a
 by_cases d:aS xs e≠0
 ·rw[if_pos d] at a
  exact absurd a d
 ·rw[if_neg d] at a
  by_cases f:b<20∨600<b
  ·rw[if_pos f] at a
   omega
  ·rw[if_neg f] at a
   generalize bare ⟨s,Dg.vl 4294967296 xs,e⟩=x at*
   by_cases h:1200<bitLen x.n∨x.e< -18000
   ·rw[if_pos h] at a
    omega
   ·rw[cmp_gt,qT_size] at g
    obtain⟨o,-⟩:=qT_top j;have k:qT (wTr 12000)=12000:=by rw[qT_w];rfl
    rw[k] at g;have l:p2 (x.e+(bitLen x.n:Int)-1)≤12000:=by grind
    have:x.e+(bitLen x.n:Int)-1<14:=by
     rcases Int.lt_or_le (x.e+(bitLen x.n:Int)-1) 14 with c|c
     ·exact c
     ·have m:=p2_mono c
      have i:p2 14=16384:=by decide+kernel
      rw[i] at m
      grind
    exact⟨⟨by omega,by omega⟩,by omega,by omega⟩
end Go.Proofs.YthhiidikgchdeaaGreatDoor

/- Texts laid together. -/
import Derived.Test.YthhiidikgchdeabGreatDoorLb17
import Derived.Test.YthhiidikgchdeabGreatDoorLb32
import Derived.Test.YthhiidikgchdeabGreatDoorLb33
set_option maxRecDepth 100000
set_option maxHeartbeats 3200000
namespace Go.Proofs.YthhiidikgchdeabGreatDoor
open _root_.Go.Proofs.Tryz
open Go.RowKit
theorem kL (v:Value)(t:ak)(w:World)(hv:Dv w v t)(O:(Dg.dg 4294967296 t.n).length≤200000000)(P: -4000000000≤t.e∧t.e≤4000000000)(Z:Tab w)(T:tz t.n≤6400000000):
  yC 39 #[v] w (gR w (bU t)):=by
 have j:Hid (∀q,yB w q→yC 73 #[v] q (jN q (bare t))):=fun q a=>II v t q (hv.l a) O P (Z.l a) T
 obtain⟨s0,rfl,S⟩:=hv;obtain⟨D,H,rfl⟩:=S.shape;obtain⟨C,n,e⟩:=t;simp only at S O P T⊢j;obtain⟨m,hm⟩: ∃m,(Dg.dg 4294967296 n).length=m:=⟨_,rfl⟩;rw[hm] at j⊢;obtain⟨⟨i,bn,h⟩,a0⟩: ∃bt,bare ⟨C,n,e⟩=bt:=⟨_,rfl⟩;unfold bU;rw[a0] at j⊢;simp only at j⊢;clear a0 hm S O P T Z;have o:=(aA w (.bool C) (.slice D m H) (yi e) 48).l (af _ (.cells (ydA false yN 0) 25));have d:=aA (w.alloc (.cells (ydA C (.slice D m H) e) 48)) (.bool false) yN (yi 0) 25;have k:=aa (af w (.cells (ydA C (.slice D m H) e) 48)) (af _ (.cells (ydA false yN 0) 25));rw[World.size_alloc] at d
 by_cases Y:1200< (Dg.dg 4294967296 bn).length
 ·rw[if_pos Y]
  go_enter func39,ntmps39
  go_wp2_with fail
  refine(j.out _ k).mono ?_;rintro x q ⟨s,rfl,p,a⟩;have o:=o.l a;have d:=d.l a;have r:=aa k a;rw[World.size_alloc,World.size_alloc] at p;obtain⟨g,f,B⟩:=p.rd.shape;subst B;obtain⟨Q,⟨E,F,G⟩,L,M,N⟩:=id o;obtain⟨R,⟨I,J,K⟩,U,W,X⟩:=id d;clear k a j
  go_wp2
  obtain⟨-,⟨y,z,A⟩,-⟩:=aD (d.apart (c:=w.heap.size) (by omega) (.bool i) (yT g bn f) (yi h)) (.bool false) yN (yi 0);have u:=am (am r (Nat.le_refl _) (.bool i) (yT g bn f) (yi h)) (show w.heap.size≤w.heap.size+1 by omega) (.bool false) yN (yi 0)
  refine bodyPost_ret (v:= .tuple #[.agg #[(.bool false),yN,(yi 0)],yi 2]) (by simp[results,results39,go_sem,y,z,A]) rfl ?_;exact⟨_,rfl,aQ _ _ _ _,u⟩
 ·rw[if_neg Y]
  by_cases h2:h< -20000
  ·rw[if_pos (Or.inl h2)]
   go_enter func39,ntmps39
   go_wp2_with fail
   refine(j.out _ k).mono ?_;rintro x q ⟨s,rfl,p,a⟩;have o:=o.l a;have d:=d.l a;have r:=aa k a;rw[World.size_alloc,World.size_alloc] at p;obtain⟨g,f,B⟩:=p.rd.shape;subst B;obtain⟨Q,⟨E,F,G⟩,L,M,N⟩:=id o;obtain⟨R,⟨I,J,K⟩,U,W,X⟩:=id d;clear k a j
   go_wp2
   obtain⟨-,⟨y,z,A⟩,-⟩:=aD (d.apart (c:=w.heap.size) (by omega) (.bool i) (yT g bn f) (yi h)) (.bool false) yN (yi 0);have u:=am (am r (Nat.le_refl _) (.bool i) (yT g bn f) (yi h)) (show w.heap.size≤w.heap.size+1 by omega) (.bool false) yN (yi 0)
   refine bodyPost_ret (v:= .tuple #[.agg #[(.bool false),yN,(yi 0)],yi 3]) (by simp[results,results39,go_sem,y,z,A]) rfl ?_;exact⟨_,rfl,aQ _ _ _ _,u⟩
  ·by_cases h3:20000<h
   ·rw[if_pos (Or.inr h3)]
    go_enter func39,ntmps39
    go_wp2_with fail
    refine(j.out _ k).mono ?_;rintro x q ⟨s,rfl,p,a⟩;have o:=o.l a;have d:=d.l a;have r:=aa k a;rw[World.size_alloc,World.size_alloc] at p;obtain⟨g,f,B⟩:=p.rd.shape;subst B;obtain⟨Q,⟨E,F,G⟩,L,M,N⟩:=id o;obtain⟨R,⟨I,J,K⟩,U,W,X⟩:=id d;clear k a j
    go_wp2
    obtain⟨-,⟨y,z,A⟩,-⟩:=aD (d.apart (c:=w.heap.size) (by omega) (.bool i) (yT g bn f) (yi h)) (.bool false) yN (yi 0);have u:=am (am r (Nat.le_refl _) (.bool i) (yT g bn f) (yi h)) (show w.heap.size≤w.heap.size+1 by omega) (.bool false) yN (yi 0)
    refine bodyPost_ret (v:= .tuple #[.agg #[(.bool false),yN,(yi 0)],yi 3]) (by simp[results,results39,go_sem,y,z,A]) rfl ?_;exact⟨_,rfl,aQ _ _ _ _,u⟩
   ·rw[if_neg (by omega)]
    go_enter func39,ntmps39
    go_wp2_with fail
    refine(j.out _ k).mono ?_;rintro x q ⟨s,rfl,p,a⟩;have o:=o.l a;have d:=d.l a;have r:=aa k a;rw[World.size_alloc,World.size_alloc] at p;obtain⟨g,f,B⟩:=p.rd.shape;subst B;obtain⟨Q,⟨E,F,G⟩,L,M,N⟩:=id o;obtain⟨R,⟨I,J,K⟩,U,W,X⟩:=id d;clear k a j
    go_wp2
    obtain⟨-,⟨y,z,A⟩,-⟩:=aD (d.apart (c:=w.heap.size) (by omega) (.bool i) (yT g bn f) (yi h)) (.bool i) (yT g bn f) (yi h);have a1:=(p.apart3 (b:=w.heap.size) (by omega) (.bool i) (yT g bn f) (yi h)).apart3 (b:=w.heap.size+1) (by omega) (.bool i) (yT g bn f) (yi h);have u:=am (am r (Nat.le_refl _) (.bool i) (yT g bn f) (yi h)) (show w.heap.size≤w.heap.size+1 by omega) (.bool i) (yT g bn f) (yi h)
    refine bodyPost_ret (v:= .tuple #[.agg #[(.bool i),(yT g bn f),(yi h)],yi 0]) (by simp[results,results39,go_sem,y,z,A]) rfl ?_;exact⟨_,rfl,a1.lower (by omega),u⟩
theorem Exp_e2 (x y:ak)(s:Bool)(u:Option Addr)(F D:Nat)(e b g:Int)(w:World)(hg:0<g)
  (i: ∀a,yB w a→yC 41 #[ydV s (.slice u F D) e,yi b] a (NRd a x 0))
  (k: ∀d c a,yC 29 #[yDV x d c] a (yR a (ydV false (yT d x.n c) x.e)))
  (j: ∀a,yB w a→yC 43 #[yi 12000] a (Lx a y))
  (h: ∀d c L K a,yB w a→Rd a .u32 (yT d x.n c) (Dg.dg 4294967296 x.n)→Rd a .u32 (yT L y.n K) (Dg.dg 4294967296 y.n)→yC 42 #[ydV false (yT d x.n c) x.e,yDV y L K] a (yR a (yi g))):
  yC 14 #[ydV s (.slice u F D) e,yi b] w (yR w (.tuple #[.agg #[.bool false,yN,yi 0,.bool false,yN,yi 0],yi 2])):=by
 replace i:Hid _:=i;replace k:Hid _:=k;replace j:Hid _:=j;replace h:Hid _:=h;obtain⟨W4,r,q1,q2,z⟩:=iG w (ydL s (.slice u F D) e) 25 [.bool false,yN,yi 0,.bool false,yN,yi 0] 29;replace r:Hid _:=r
 go_enter func14,ntmps14
 go_upto_region 1 with fail
 rw[r.out];clear r;obtain⟨c6,c7,c8⟩:=q1.cs3
 go_wp2_with fail
 refine(i.out _ z).mono ?_;rintro M X ⟨a8,rfl,I,C⟩;have G:=q2.l C;have v:=aa z C;obtain⟨d,c,E⟩:=I.shape;subst E;clear q1 q2 z C i c6 c7 c8;obtain⟨a5,q,Q,m⟩:=cA X (yDL x d c) 48;replace q:Hid _:=q;have a6:w.heap.size≤X.heap.size:=v.size;have a7:=G.lt;have R:=G.l m;have U:=I.l m;have N:=aa v m;clear G I v m
 go_upto_region 2 with fail
 rw[q.out];clear q;obtain⟨a0,a1,a2⟩:=Q.cs3
 go_wp2_with fail
 refine(k.out _ _ _).mono ?_;rintro M ac ⟨rfl,o⟩;have S:=R.l o;have W:=U.l o;have A:=aa N o;clear R Q U N o k a0 a1 a2
 go_wp2_with fail
 refine(j.out _ A).mono ?_;rintro M ad ⟨a9,rfl,t,p⟩;have T:=S.l p;have J:=W.l p;have B:=aa A p;obtain⟨L,K,E⟩:=t.shape;subst E;clear S W A p j
 go_wp2_with fail
 refine(h.out _ _ _ _ _ B J t).mono ?_;rintro M ae ⟨rfl,f⟩;have H:=T.l f;have a3:=J.l f;have a4:=t.l f;have O:=aa B f;clear T J t B f h;have hf:=fin6 (P:=Tryz.prog) H O (by omega) underlying29 rfl (by kernel_rfl) (.bool false) yN (yi 0) (.bool false) yN (yi 0);have Y:Hid (_∧_):=⟨hf.1,hf.2.1⟩;obtain⟨⟨z0,z1,z2,z3,z4,z5⟩,y0,y1,y2,y3,y4,y5⟩:=csf6 H;clear hf H a3 a4 O
 go_wp2
 obtain⟨hl,Z⟩:=Y.out;exact bodyPost_ret (aj results14 rfl rfl hl) rfl ⟨rfl,Z⟩
theorem Exp_e3 (x y u p q:ak)(s:Bool)(O:Option Addr)(la Z:Nat)(e b g f er:Int)(w:World)(hg: ¬0<g)(hf:f=0)
  (D: ∀a,yB w a→yC 41 #[ydV s (.slice O la Z) e,yi b] a (NRd a x 0))
  (F: ∀h d a,yC 29 #[yDV x h d] a (yR a (ydV false (yT h x.n d) x.e)))
  (E: ∀a,yB w a→yC 43 #[yi 12000] a (Lx a y))
  (B: ∀h d yo yc a,yB w a→Rd a .u32 (yT h x.n d) (Dg.dg 4294967296 x.n)→Rd a .u32 (yT yo y.n yc) (Dg.dg 4294967296 y.n)→yC 42 #[ydV false (yT h x.n d) x.e,yDV y yo yc] a (yR a (yi g)))
  (C: ∀h d a,yB w a→Rd a .u32 (yT h x.n d) (Dg.dg 4294967296 x.n)→yC 20 #[yDV x h d] a (yR a (yi f)))
  (z: ∀a,yB w a→yC 25 #[yi 1] a (aeT a u u))
  (A: ∀uo uc vo vc a,yB w a→Rd a .u32 (yT uo u.n uc) (Dg.dg 4294967296 u.n)→Rd a .u32 (yT vo u.n vc) (Dg.dg 4294967296 u.n)→yC 26 #[.agg #[.bool u.s,yT uo u.n uc,yi u.e,.bool u.s,yT vo u.n vc,yi u.e]] a (BRd a p q er)):
  yC 14 #[ydV s (.slice O la Z) e,yi b] w (BRd w p q er):=by
 replace D:Hid _:=D;replace F:Hid _:=F;replace E:Hid _:=E;replace B:Hid _:=B;replace C:Hid _:=C;replace z:Hid _:=z;replace A:Hid _:=A;obtain⟨W4,I,q1,q2,R⟩:=iG w (ydL s (.slice O la Z) e) 25 [.bool false,yN,yi 0,.bool false,yN,yi 0] 29;replace I:Hid _:=I
 go_enter func14,ntmps14
 go_upto_region 1 with fail
 rw[I.out];clear I;obtain⟨c6,c7,c8⟩:=q1.cs3
 go_wp2_with fail
 refine(D.out _ R).mono ?_;rintro k w9 ⟨bh,rfl,a2,Y⟩;have a0:=q2.l Y;have Q:=aa R Y;obtain⟨h,d,c⟩:=a2.shape;subst c;clear q1 q2 R Y D c6 c7 c8;obtain⟨be,H,a1,G⟩:=cA w9 (yDL x h d) 48;replace H:Hid _:=H;have bf:w.heap.size≤w9.heap.size:=Q.size;have bg:=a0.lt;have a7:=a0.l G;have aq:=a2.l G;have a5:=aa Q G;clear a0 a2 Q G
 go_upto_region 2 with fail
 rw[H.out];clear H;obtain⟨b1,b2,b4⟩:=a1.cs3
 go_wp2_with fail
 refine(F.out _ _ _).mono ?_;rintro k bo ⟨rfl,m⟩;have a8:=a7.l m;have a9:=a1.l m;have ar:=aq.l m;have S:=aa a5 m;clear a7 a1 aq a5 m F b1 b2 b4
 go_wp2_with fail
 refine(E.out _ S).mono ?_;rintro k bp ⟨bi,rfl,J,o⟩;have ac:=a8.l o;have ad:=a9.l o;have a3:=ar.l o;have T:=aa S o;obtain⟨yo,yc,c⟩:=J.shape;subst c;clear a8 a9 ar S o E
 go_wp2_with fail
 refine(B.out _ _ _ _ _ T a3 J).mono ?_;rintro k bq ⟨rfl,j⟩;have ae:=ac.l j;have al:=ad.l j;have a4:=a3.l j;have av:=J.l j;have U:=aa T j;clear ac ad a3 J T j B;obtain⟨b5,b6,b7⟩:=al.cs3
 go_wp2_with fail
 refine(C.out _ _ _ U a4).mono ?_;rintro k bs ⟨rfl,r⟩;have an:=ae.l r;have ax:=a4.l r;have ay:=av.l r;have W:=aa U r;clear ae al a4 av U r C b5 b6 b7
 go_wp2_with fail
 refine(z.out _ W).mono ?_;rintro k bt ⟨bj,bm,rfl,K,M,t⟩;have ap:=an.l t;have az:=ax.l t;have b0:=ay.l t;have X:=aa W t;obtain⟨uo,uc,c⟩:=K.shape;subst c;obtain⟨vo,vc,c⟩:=M.shape;subst c;clear an ax ay W t z
 go_wp2_with fail
 refine(A.out _ _ _ _ _ X K M).mono ?_;rintro k bu ⟨bl,bn,rfl,L,N,i⟩;have v:=ap.l i;have b8:=az.l i;have b9:=b0.l i;have ba:=K.l i;have bb:=M.l i;have a6:=aa X i;obtain⟨po,pc,c⟩:=L.shape;subst c;obtain⟨qo,qc,c⟩:=N.shape;subst c;clear ap az b0 K M X i A;have hf:=fin6 (P:=Tryz.prog) v a6 (by omega) underlying29 rfl (by kernel_rfl) (.bool p.s) (yT po p.n pc) (yi p.e) (.bool q.s) (yT qo q.n qc) (yi q.e);have HH:Hid (_∧_∧_∧_):=⟨hf.1,hf.2.2.rd L (aX L v (by simp)),hf.2.2.rd N (aX N v (by simp)),hf.2.1⟩;obtain⟨⟨z0,z1,z2,z3,z4,z5⟩,y0,y1,y2,y3,y4,y5⟩:=csf6 v;clear hf v b8 b9 ba bb L N a6
 go_wp2
 obtain⟨hl,bc,bd,bR⟩:=HH.out;exact bodyPost_ret (aj results14 rfl rfl hl) rfl ⟨_,_,rfl,bc,bd,bR⟩
theorem Exp_W (x y p q:ak)(s:Bool)(J:Option Addr)(T S:Nat)(e b g f er:Int)(w:World)(hg: ¬0<g)(hf: ¬f=0)
  (z: ∀a,yB w a→yC 41 #[ydV s (.slice J T S) e,yi b] a (NRd a x 0))
  (C: ∀d c a,yC 29 #[yDV x d c] a (yR a (ydV false (yT d x.n c) x.e)))
  (B: ∀a,yB w a→yC 43 #[yi 12000] a (Lx a y))
  (u: ∀d c yo yc a,yB w a→Rd a .u32 (yT d x.n c) (Dg.dg 4294967296 x.n)→Rd a .u32 (yT yo y.n yc) (Dg.dg 4294967296 y.n)→yC 42 #[ydV false (yT d x.n c) x.e,yDV y yo yc] a (yR a (yi g)))
  (v: ∀d c a,yB w a→Rd a .u32 (yT d x.n c) (Dg.dg 4294967296 x.n)→yC 20 #[yDV x d c] a (yR a (yi f)))
  (A: ∀pa d c a,yB w a→au a pa 48 (yDL x d c)→Rd a .u32 (yT d x.n c) (Dg.dg 4294967296 x.n)→yC 21 #[yi b,.func (.func 44) #[] #[.pointer (some ⟨pa,0,none⟩)]] a (BRd a p q er)):
  yC 14 #[ydV s (.slice J T S) e,yi b] w (BRd w p q er):=by
 replace z:Hid _:=z;replace C:Hid _:=C;replace B:Hid _:=B;replace u:Hid _:=u;replace v:Hid _:=v;replace A:Hid _:=A;obtain⟨W4,F,q1,q2,L⟩:=iG w (ydL s (.slice J T S) e) 25 [.bool false,yN,yi 0,.bool false,yN,yi 0] 29;replace F:Hid _:=F
 go_enter func14,ntmps14
 go_upto_region 1 with fail
 rw[F.out];clear F;obtain⟨c6,c7,c8⟩:=q1.cs3
 go_wp2_with fail
 refine(z.out _ L).mono ?_;rintro t w9 ⟨b8,rfl,Y,R⟩;have U:=q2.l R;have K:=aa L R;obtain⟨d,c,h⟩:=Y.shape;subst h;clear q1 q2 L R z c6 c7 c8;obtain⟨b5,E,W,D⟩:=cA w9 (yDL x d c) 48;replace E:Hid _:=E;have b6:w.heap.size≤w9.heap.size:=K.size;have b7:=U.lt;have a4:=U.l D;have ae:=Y.l D;have a2:=aa K D;clear U Y K D
 go_upto_region 2 with fail
 rw[E.out];clear E;obtain⟨aq,ar,av⟩:=W.cs3
 go_wp2_with fail
 refine(C.out _ _ _).mono ?_;rintro t bc ⟨rfl,k⟩;have a5:=a4.l k;have a6:=W.l k;have al:=ae.l k;have M:=aa a2 k;clear a4 W ae a2 k C aq ar av
 go_wp2_with fail
 refine(B.out _ M).mono ?_;rintro t bd ⟨b9,rfl,G,m⟩;have a7:=a5.l m;have a8:=a6.l m;have Z:=al.l m;have N:=aa M m;obtain⟨yo,yc,h⟩:=G.shape;subst h;clear a5 a6 al M m B
 go_wp2_with fail
 refine(u.out _ _ _ _ _ N Z G).mono ?_;rintro t be ⟨rfl,i⟩;have a9:=a7.l i;have X:=a8.l i;have a0:=Z.l i;have an:=G.l i;have O:=aa N i;clear a7 a8 Z G N i u;obtain⟨ax,ay,az⟩:=X.cs3
 go_wp2_with fail
 refine(v.out _ _ _ O a0).mono ?_;rintro t bf ⟨rfl,j⟩;have ac:=a9.l j;have ad:=X.l j;have a1:=a0.l j;have ap:=an.l j;have Q:=aa O j;clear a9 X a0 an O j v ax ay az
 go_wp2_with fail
 refine(A.out _ _ _ _ Q ad a1).mono ?_;rintro t bg ⟨ba,bb,rfl,H,I,o⟩;have r:=ac.l o;have b0:=a1.l o;have b1:=ap.l o;have a3:=aa Q o;obtain⟨po,pc,h⟩:=H.shape;subst h;obtain⟨qo,qc,h⟩:=I.shape;subst h;clear ac ad a1 ap Q o A;have hf:=fin6 (P:=Tryz.prog) r a3 (by omega) underlying29 rfl (by kernel_rfl) (.bool p.s) (yT po p.n pc) (yi p.e) (.bool q.s) (yT qo q.n qc) (yi q.e);have HH:Hid (_∧_∧_∧_):=⟨hf.1,hf.2.2.rd H (aX H r (by simp)),hf.2.2.rd I (aX I r (by simp)),hf.2.1⟩;obtain⟨⟨z0,z1,z2,z3,z4,z5⟩,y0,y1,y2,y3,y4,y5⟩:=csf6 r;clear hf r b0 b1 H I a3
 go_wp2
 obtain⟨hl,b2,b4,bR⟩:=HH.out;exact bodyPost_ret (aj results14 rfl rfl hl) rfl ⟨_,_,rfl,b2,b4,bR⟩
theorem refine_once (pf pi:Nat)(x y:ak)(n:Int)(w:World)
  (k: ∀a,yB w a→yC 54 #[yi n,.pointer (some ⟨pf,0,none⟩),.pointer (some ⟨pi,0,none⟩)] a (aeT a x y))
  (j: ∀g f i h a,yB w a→Rd a .u32 (yT g x.n f) (Dg.dg 4294967296 x.n)→Rd a .u32 (yT i y.n h) (Dg.dg 4294967296 y.n)→yC 57 #[.agg #[.bool x.s,yT g x.n f,yi x.e,.bool y.s,yT i y.n h,yi y.e],.pointer (some ⟨pi,0,none⟩)] a (yR a (.bool true))):
  yC 56 #[yi n,.func (.func 54) #[] #[.pointer (some ⟨pf,0,none⟩),.pointer (some ⟨pi,0,none⟩)],.func (.func 57) #[] #[.pointer (some ⟨pi,0,none⟩)]] w (aeT w x y):=by
 replace k:Hid _:=k;replace j:Hid _:=j;obtain⟨W3,o,q1,q⟩:=cA w [.bool false,yN,yi 0,.bool false,yN,yi 0] 54;replace o:Hid _:=o
 go_enter func56,ntmps56
 go_upto_region 1 with fail
 rw[o.out];clear o
 go_wp2_with fail
 refine(k.out _ q).mono ?_;rintro zz O ⟨ad,ae,rfl,C,D,r⟩;have v:=q1.l r;have p:=aa q r;obtain⟨g,f,u⟩:=C.shape;subst u;obtain⟨i,h,u⟩:=D.shape;subst u;clear q1 q r k;obtain⟨R,m,J,c⟩:=cA O [.bool x.s,yT g x.n f,yi x.e,.bool y.s,yT i y.n h,yi y.e] 54;replace m:Hid _:=m;have a9:w.heap.size≤O.heap.size:=p.size;have ac:=v.lt;have K:=v.l c;have M:=C.l c;have N:=D.l c;have H:=aa p c;clear v C D p c
 go_wp2_with fail
 rw[m.out];clear m;have t:=H;have L:=K;have z:=J;have E:=M;have F:=N;clear K J M N H
 go_wp2
 go_loopw [0] (fun nv wr=>nv=yi n∧wr=R) (fun _ _=>0)
 case atStart=>exact⟨rfl,rfl⟩
 case round=>
  obtain⟨rfl,a0⟩:=hrel;subst a0;obtain⟨T,U,W,X,Y,Z⟩:=z.cs6
  go_wp2_with fail
  refine(j.out _ _ _ _ _ t E F).mono ?_;rintro zz al ⟨rfl,b⟩;have d:=L.l b;have I:=z.l b;have A:=E.l b;have B:=F.l b;have G:=aa t b;clear L z E F t b j T U W X Y Z;obtain⟨a3,a4,a5,a6,a7,a8⟩:=I.cs6;have hf:=fin6 (P:=Tryz.prog) d G (by omega) underlying54 rfl (by kernel_rfl) (.bool x.s) (yT g x.n f) (yi x.e) (.bool y.s) (yT i y.n h) (yi y.e);have Q:Hid (_∧_∧_∧_):=⟨hf.1,hf.2.2.rd A (aX A d (by simp)),hf.2.2.rd B (aX B d (by simp)),hf.2.1⟩;obtain⟨⟨z0,z1,z2,z3,z4,z5⟩,y0,y1,y2,y3,y4,y5⟩:=csf6 d;clear hf d I A B G
  go_wp2
  obtain⟨hl,a1,a2,S⟩:=Q.out;exact bodyPost_ret (br results56 rfl hl) rfl ⟨_,_,rfl,a1,a2,S⟩
theorem cmp_gt (a b:ak):0<bJ a b↔qT b<qT a:=by
 obtain⟨K,c,d⟩:=low2 a.e b.e;rw[ol c d,lt_V d c]
theorem over_ivS {s t:ak×ak}{B:Nat}{X1 X2:Rat}(c:1≤B)(hs:0<qT s.1)(h:qT s.1≤qT s.2)(q:0<qT t.1)(m:qT t.1≤qT t.2)(p:X1*qT t.2=qT s.1)(A:X2*qT t.1=qT s.2):
  IvN.Cut (p2 (2-(B:Int))) ⟨X1,X2⟩ (ivS (overS4 s t B))∧0<X1∧X1≤X2:=by
 have a3:0<qT s.2:=by grind
 have l:0<qT t.2:=by grind
 have p1:0<X1:=cancel_lt l (by rw[p];grind);have a5:0<X2:=cancel_lt q (by rw[A];grind);have one: ∀a b:ak,qT s.1≤qT a→qT a≤qT s.2→qT t.1≤qT b→qT b≤qT t.2→ ∃X,X*qT b=qT a∧X1≤X∧X≤X2∧(cK a b B).s=false∧b.n≠0:=by
  intro a b a1 a2 G H;have g:0<qT b:=by grind
  have Y:0<qT a:=by grind
  obtain⟨X,d⟩: ∃X,X*qT b=qT a:=⟨qT a/qT b,Rat.div_mul_cancel (by grind)⟩;have a4:0<X:=cancel_lt g (by rw[d];grind);refine⟨X,d, ?_, ?_, ?_,(pos_sign g).2⟩
  ·refine cancel_le l ?_
   rw[p];have:=Rat.mul_le_mul_of_nonneg_left H (show 0≤X by grind)
   grind
  ·refine cancel_le g ?_
   rw[d];have:=Rat.mul_le_mul_of_nonneg_left G (show 0≤X2 by grind)
   grind
  ·unfold cK d8
   simp only;rw[(pos_sign Y).1,(pos_sign g).1];rfl
 have dk: ∀j,j≤3→ ∃a b X,fourO s.1 s.2 t.1 t.2 B j=cK a b B∧X*qT b=qT a∧X1≤X∧X≤X2∧(cK a b B).s=false∧b.n≠0:=by
  intro j F
  rcases(by omega:j=0∨j=1∨j=2∨j=3) with rfl|rfl|rfl|rfl
  ·obtain⟨X,z⟩:=one s.1 t.1 Rat.le_refl h Rat.le_refl m;exact⟨_,_,X,rfl,z⟩
  ·obtain⟨X,z⟩:=one s.1 t.2 Rat.le_refl h m Rat.le_refl;exact⟨_,_,X,rfl,z⟩
  ·obtain⟨X,z⟩:=one s.2 t.1 h Rat.le_refl Rat.le_refl m;exact⟨_,_,X,rfl,z⟩
  ·obtain⟨X,z⟩:=one s.2 t.2 h Rat.le_refl m Rat.le_refl;exact⟨_,_,X,rfl,z⟩
 obtain⟨i,Z,u⟩:=Po (fourO s.1 s.2 t.1 t.2 B) 3;obtain⟨j,F,v⟩:=Pp (fourO s.1 s.2 t.1 t.2 B) 3;have D:=qlo_le (fourO s.1 s.2 t.1 t.2 B) 3 1 (by omega);have C:=qhi_ge (fourO s.1 s.2 t.1 t.2 B) 3 2 (by omega);obtain⟨a,b,X,w,K,x,L,o,M⟩:=dk i Z;obtain⟨e,f,r,y,N,g3,O,P,Q⟩:=dk j F;have s1:(cK s.1 t.2 B).s=false:=by
  unfold cK d8;simp only;rw[(pos_sign hs).1,(pos_sign l).1];rfl
 have s2:(cK s.2 t.1 B).s=false:=by
  unfold cK d8;simp only;rw[(pos_sign a3).1,(pos_sign q).1];rfl
 obtain⟨I,-⟩:=over_cut s.1 t.2 B c (pos_sign l).2 p;obtain⟨-,J⟩:=over_cut s.2 t.1 B c (pos_sign q).2 A;obtain⟨n1,-⟩:=over_cut_near a b B c M K false;obtain⟨n2,q2⟩:=over_cut_near e f B c Q N true;have d:ab X=X:=by unfold ab;grind
 have E:ab r=r:=by unfold ab;grind
 rw[d,ab_le] at n1;rw[E,ab_le] at n2;rw[E] at q2;have eL:(ivS (overS4 s t B)).lo=qT (aY (cK a b B) B false):=by
  show qT (aY (loT (fourO s.1 s.2 t.1 t.2 B) 3) B false)=_
  rw[u,w]
 have eH:(ivS (overS4 s t B)).hi=qT (aY (cK e f B) B true):=by
  show qT (aY (hiT (fourO s.1 s.2 t.1 t.2 B) 3) B true)=_
  rw[v,y]
 rw[u,w] at D;rw[v,y] at C;have k1:=(cut_lo (cK a b B) B (by omega)).1;have k2:=(cut_lo (cK e f B) B (by omega)).2;have S:qT (cK a b B)≤qT (cK s.1 t.2 B):=D;have R:qT (cK s.2 t.1 B)≤qT (cK e f B):=C;have r1:=(cut_grid c s1 (cut_is_grid c o false)).1 (Rat.le_trans k1 S);have r2:=(cut_grid c s2 (cut_is_grid c P true)).2 (Rat.le_trans R k2);have hd:=p2_pos (2-(B:Int));have T:ab X1=X1:=by unfold ab;grind
 have U:ab X2=X2:=by unfold ab;grind
 have W:X1≤X2:=Rat.le_trans x L;refine⟨⟨?_, ?_, ?_, ?_,fun k hk=> ?_⟩,p1,W⟩
 ·rw[eL]
  exact Rat.le_trans r1 I
 ·rw[eH]
  exact Rat.le_trans J r2
 ·rw[eL]
  show X1-_≤p2 (2-(B:Int))*ab X1
  rw[T]
  by_cases cc:p2 (2-(B:Int))≤1
  ·have:=Rat.mul_le_mul_of_nonneg_left x (show 0≤1-p2 (2-(B:Int)) by grind)
   grind
  ·have z:=qT_nn (show(aY (cK a b B) B false).s=false by rw[cut_sign];exact o)
   have:=Rat.mul_le_mul_of_nonneg_right (show 1≤p2 (2-(B:Int)) by grind) (show 0≤X1 by grind)
   grind
 ·rw[eH]
  show _-X2≤p2 (2-(B:Int))*ab X2
  rw[U];have:=Rat.mul_le_mul_of_nonneg_left O (show 0≤1+p2 (2-(B:Int)) by grind)
  grind
 ·have a0: -(hf k)≤X1∧X2≤hf k:=hk
  have z:=qT_nn (show(aY (cK a b B) B false).s=false by rw[cut_sign];exact o)
  have hh:=hf_pos k
  constructor
  ·rw[eL];grind
  ·rw[eH]
   rw[←p2_hf] at a0⊢;have:=q2 (-(k:Int)) (by grind);rw[ab_le] at this;exact this.1
theorem over_point {a b:ak}{B:Nat}{X:Rat}(d:1≤B)(g:b.n≠0)(f:X*qT b=qT a):IvN.Cut (p2 (2-(B:Int))) ⟨X,X⟩ (ivS (overS4 (a,a) (b,b) B)):=by
 have q: ∀j,fourO a a b b B j=cK a b B:=fun j=>by
  match j with
  |0=>rfl
  |1=>rfl
  |2=>rfl
  |_+3=>rfl
 obtain⟨i,-,h⟩:=Po (fourO a a b b B) 3;obtain⟨j,-,l⟩:=Pp (fourO a a b b B) 3;rw[q] at h l;have e:ivS (overS4 (a,a) (b,b) B)=ivT (aY (cK a b B) B false) (aY (cK a b B) B true):=by
  show ivT (aY (loT (fourO a a b b B) 3) B false) (aY (hiT (fourO a a b b B) 3) B true)=_
  rw[h,l]
 rw[e];obtain⟨o,p⟩:=over_cut a b B d g f;obtain⟨s,q1⟩:=over_cut_near a b B d g f false;obtain⟨t,q2⟩:=over_cut_near a b B d g f true;rw[ab_le] at s t;refine⟨o,p, ?_, ?_,fun k r=> ?_⟩
 ·show X-qT (aY (cK a b B) B false)≤_*ab X
  grind
 ·show qT (aY (cK a b B) B true)-X≤_*ab X
  grind
 ·have c: -(hf k)≤X∧X≤hf k:=r
  rw[←p2_hf] at c⊢;have u:=ab_le.1 (q1 (-(k:Int)) (IvN.ab_of c.1 c.2));have m:=ab_le.1 (q2 (-(k:Int)) (IvN.ab_of c.1 c.2));exact⟨by show-_≤qT (aY (cK a b B) B false);grind,m.1⟩
theorem over_rg {y:ak}{B:Nat}(a:RgT 410000000 410000000 y)(c:1≤B)(d:B≤1000):RgT 500000000 500000000 (cK (wTr 1) y B):=
 ((RgT.w 1 1 (by omega)).over (b:=y) (B:=B) c).mono (by have:=a.2;omega) (by have:=a.1;omega)
theorem fit_exp {s:Bool}{xs:List Nat}{e b:Int}(a:numR s xs e b=0)(g: ¬0<bJ (sizeT (bare ⟨s,Dg.vl 4294967296 xs,e⟩)) (wTr 12000))(j:(bare ⟨s,Dg.vl 4294967296 xs,e⟩).n≠0):
  RgT 40000 14 (bare ⟨s,Dg.vl 4294967296 xs,e⟩)∧20≤b∧b≤600:=by
 unfold numR at a
 by_cases d:aS xs e≠0
 ·rw[if_pos d] at a
  exact absurd a d
 ·rw[if_neg d] at a
  by_cases f:b<20∨600<b
  ·rw[if_pos f] at a
   omega
  ·rw[if_neg f] at a
   generalize bare ⟨s,Dg.vl 4294967296 xs,e⟩=x at*
   by_cases h:1200<bitLen x.n∨x.e< -18000
   ·rw[if_pos h] at a
    omega
   ·rw[cmp_gt,qT_size] at g
    obtain⟨o,-⟩:=qT_top j;have k:qT (wTr 12000)=12000:=by rw[qT_w];rfl
    rw[k] at g;have l:p2 (x.e+(bitLen x.n:Int)-1)≤12000:=by grind
    have:x.e+(bitLen x.n:Int)-1<14:=by
     rcases Int.lt_or_le (x.e+(bitLen x.n:Int)-1) 14 with c|c
     ·exact c
     ·have m:=p2_mono c
      have i:p2 14=16384:=by decide+kernel
      rw[i] at m
      grind
    exact⟨⟨by omega,by omega⟩,by omega,by omega⟩
theorem lgZ_fit {x:ak}{B:Nat}(h:bitLen x.n≤1200)(i:84≤B)(k:B≤1000):
  RgT 1200 3 (aG (lgY x) (dV (wTr 1)))∧RgT 1200 3 (aG (lgY x) (wTr 1))∧RgS 2300 1300 (lgZ x B):=by
 have f:=(lgY_fit h).mono (E':=1200) (T':=2) (by omega) (by omega);have g:RgT 1200 2 (wTr 1):=(RgT.w 1 1 (by omega)).mono (by omega) (by omega);have e:=f.plus g.neg;have c:=f.plus g;refine⟨e,c, ?_⟩;unfold lgZ;generalize aG (lgY x) (dV (wTr 1))=a at*;generalize aG (lgY x) (wTr 1)=b at*;have one:RgT 2300 1250 (cK a b B):=(e.over (b:=b) (B:=B) (by omega)).mono (by have:=c.2;omega) (by have:=c.1;omega);have d: ∀j,RgT 2300 1250 (fourO a a b b B j):=fun j=>by
  match j with
  |0=>exact one
  |1=>exact one
  |2=>exact one
  |_+3=>exact one
 have go:RgS 2300 1250 (loT (fourO a a b b B) 3,hiT (fourO a a b b B) 3):=⟨RgT.lo fun j _=>d j,RgT.hi fun j _=>d j⟩
 exact(go.cut (b:=B) (by omega)).mono (by omega) (by omega)
theorem lgX_any {x:ak}(h:x.s=false)(g:x.n≠0): ∃X:Rat,ab X≤1/5∧ ∀B:Nat,1≤B→IvN.Cut (p2 (2-(B:Int))) ⟨X,X⟩ (ivS (lgZ x B)):=by
 obtain⟨j,k,-⟩:=lg_y h g;have d:qT (wTr 1)=1:=by rw[qT_w];rfl
 have i:qT (aG (lgY x) (dV (wTr 1)))=qT (lgY x)-1:=by rw[qT_plus,qT_neg,d];grind
 have b:qT (aG (lgY x) (wTr 1))=qT (lgY x)+1:=by rw[qT_plus,d]
 obtain⟨X,a⟩: ∃X,X*(qT (lgY x)+1)=qT (lgY x)-1:=⟨(qT (lgY x)-1)/(qT (lgY x)+1),Rat.div_mul_cancel (by grind)⟩;have f:(aG (lgY x) (wTr 1)).n≠0:=fun c=>by
  have:=qT_zero c;rw[b] at this
  grind
 refine⟨X, ?_,fun B e=>over_point (X:=X) e f (by rw[i,b];exact a)⟩
 rw[ab_le]
 constructor
 ·refine cancel_le (show 0<qT (lgY x)+1 by grind) ?_
  rw[a]
  grind
 ·refine cancel_le (show 0<qT (lgY x)+1 by grind) ?_
  have: -X*(qT (lgY x)+1)= -(X*(qT (lgY x)+1)):=by grind
  rw[this,a]
  grind
theorem signs_neg (a b:ak)(f h:Option Addr)(d g:Nat)(w:World)
  (j:yH w 20 #[yDV a f d] (yi (-1)))
  (k:yH w 20 #[yDV b h g] (yi (-1))):
  yC 95 #[.agg #[.bool a.s,yT f a.n d,yi a.e,.bool b.s,yT h b.n g,yi b.e]] w (yR w (.bool true)):=by
 replace j:Hid _:=j;replace k:Hid _:=k;obtain⟨r,p,q1,A⟩:=cA w [.bool a.s,yT f a.n d,yi a.e,.bool b.s,yT h b.n g,yi b.e] 54;replace p:Hid _:=p
 go_enter func95,ntmps95
 go_upto_region 1 with fail
 rw[p.out];clear p
 go_upto_region 1 with fail
 have u:yB r r.drew:=(Below.refl _ _).drew;have q:=q1.l u;have m:=aa A u;clear q1 A u;refine wp_region_held_drew (S:=fun E=>au E w.heap.size 54 [.bool a.s,yT f a.n d,yi a.e,.bool b.s,yT h b.n g,yi b.e]) (by kernel_rfl) q (fun c=> ?_)
 generalize r.drew=G at q m c⊢;refine tq 0 (.pointer (some ⟨w.heap.size,0,none⟩)) rfl (fun _ _=>by kernel_rfl) c ?_
 refine tq 1 (yDV a f d) rfl (fun _ y=>fy 48 (.tmp 3) rfl w.heap.size 0 (by kernel_rfl) _ _ (kY y 0 3 rfl) underlying48 rfl (by kernel_rfl)) c ?_
 refine tq 3 (.pointer (some ⟨w.heap.size,3,none⟩)) rfl (fun _ _=>by kernel_rfl) c ?_
 refine tq 4 (yDV b h g) rfl (fun _ y=>fy 48 (.tmp 6) rfl w.heap.size 3 (by kernel_rfl) _ _ (kY y 3 3 rfl) underlying48 rfl (by kernel_rfl)) c ?_
 refine wpAnyH_ready (rs:=[2]) (by kernel_rfl) (by simp) ?_;refine AllReadyH.cons rfl (fun K i=> ?_) AllReadyH.nil
 go_simp
 refine(j.out _ m).mono ?_;rintro F I ⟨rfl,v⟩;have z:=q.l v;have t:=aa m v;clear q m v j;refine i.out _ _ z (fun C=> ?_)
 clear i K;refine wpAnyH_ready (rs:=[5]) (by kernel_rfl) (by simp) ?_;refine AllReadyH.cons rfl (fun K i=> ?_) AllReadyH.nil
 go_simp
 refine(k.out _ t).mono ?_;rintro F H ⟨rfl,x⟩;have D:=z.l x;have B:=aa t x;clear z t x k;refine i.out _ _ D (fun o=> ?_)
 clear i K;refine tq 6 (yi 1) rfl (fun _ _=>by go_simp<;>rfl) o ?_
 refine tq 7 (.bool true) rfl (fun _ _=>by go_simp<;>rfl) o ?_
 refine tq 8 (.bool true) rfl (fun _ _=>by kernel_rfl) o ?_
 refine wpAnyH_done (by kernel_rfl) ?_ _;clear c C o;simp only[Act.put,List.getElem_toArray,List.getElem_cons_succ,List.getElem_cons_zero,List.setIfInBounds_toArray,List.set_cons_zero,List.set_cons_succ]
 go_wp2
 go_ret
 exact⟨by simp,B⟩
end Go.Proofs.YthhiidikgchdeabGreatDoor

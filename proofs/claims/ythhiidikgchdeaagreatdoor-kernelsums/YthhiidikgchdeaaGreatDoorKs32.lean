/- Texts laid together. -/
import Derived.Test.YthhiidikgchdeaaGreatDoorKs16
import Derived.Test.YthhiidikgchdeaaGreatDoorKs24
import Derived.Test.YthhiidikgchdeaaGreatDoorKs25
import Derived.Test.YthhiidikgchdeaaGreatDoorKs28
set_option maxRecDepth 100000
set_option maxHeartbeats 3200000
namespace Go.Proofs.YthhiidikgchdeaaGreatDoor
open _root_.Go.Proofs.Tryz
open Go.RowKit
theorem kD (g:Value)(xs:List Nat)(n:Nat)(w:World)(c:Rd w .i64 g xs)(q:Dg.Small 65536 xs)(j:xs.length≤1000000)(k:n≤1000000):
  yC 85 #[g,yi n] w (cG w (Dg.vl 65536 xs*2^n)):=by
 obtain⟨t,u,rfl⟩:=c.shape
 by_cases d:xs=[]
 ·subst d
  have m:Dg.vl 65536 []*2^n=0:=by simp[Dg.vl]
  rw[m]
  go_enter func85,ntmps85
  go_wp2
  go_ret
  exact⟨_,rfl,(aQ _ 0 0 _).rd,Below.refl _ _⟩
 ·have v:((xs.length:Int)==0)=false:=by simp;exact d
  have f:=pf n (n/16) (n % 16) w (by omega) (by omega) k;have x:=Fr n
  go_enter func85,ntmps85
  go_wp2_with fail
  refine f.mono ?_;rintro e s ⟨r,rfl,o,b⟩;have a:=fN _ r xs _ s (c.l b) o q (Dg.small_dg _ _ (by omega)) j (by omega);rw[Dg.vl_dg _ _ (by omega)] at a
  go_wp2_with fail
  refine a.mono ?_;rintro e z ⟨y,rfl,p,i⟩;have h:=aa b i;clear a f
  go_wp2
  go_ret
  exact⟨_,rfl,p,h⟩
theorem dsize_W (a:ak)(d:Option Addr)(b:Nat)(w:World):
  yC 21 #[yDV a d b] w (yR w (ydV false (yT d a.n b) a.e)):=by
 obtain⟨i,g,q1,q2,m⟩:=iG w (yDL a d b) 41 (ydL false yN 0) 41;replace g:Hid _:=g
 go_enter func21,ntmps21
 go_upto_region 1 with fail
 rw[g.out];clear g;have k:=ag i w.heap.size 0 (.bool false);have l:au (i.setCell ⟨w.heap.size,0,none⟩ (.bool false)) w.heap.size 41 (ydL false (yT d a.n b) a.e):=(q1.set 0 (.bool false));have q:=q1.c 0 rfl;have s:=q1.f 0;have h:=k.loc q2 (by omega);have j:=k.below m (by omega);clear k
 go_upto_region 2 with fail
 generalize i.setCell ⟨w.heap.size,0,none⟩ (.bool false)=t at l h j⊢;clear q1 q2 m q s;obtain⟨u,v,x⟩:=l.cs3;have hf:=afy (P:=Tryz.prog) h j (by omega) underlying41 rfl (by kernel_rfl) (.bool false) (yT d a.n b) (yi a.e);have o:Hid (_∧_):=⟨hf.1,hf.2.1⟩;obtain⟨⟨B,C,D⟩,y,z,A⟩:=afA h;clear hf l h j
 go_wp2
 obtain⟨r,p⟩:=o.out;exact bodyPost_ret (br results21 rfl r) rfl ⟨rfl,p⟩
theorem taken_none_ln (a:ak)(c:Option Addr)(b:Nat)(x y:ak)(k g:Int)(w:World)(I:Rd w .u32 (yT c a.n b) (Dg.dg 4294967296 a.n))(hg:g<0)
  (m: ∀d,yB w d→Rd d .u32 (yT c a.n b) (Dg.dg 4294967296 a.n)→yC 98 #[yDV a c b] d (yR d (yi g)))
  (j:yJ 66 #[yDV a c b] (.agg #[.bool a.s,yT c a.n b,yi a.e,.bool a.s,yT c a.n b,yi a.e]))
  (i: ∀d,yB w d→Rd d .u32 (yT c a.n b) (Dg.dg 4294967296 a.n)→yC 69 #[.agg #[.bool a.s,yT c a.n b,yi a.e,.bool a.s,yT c a.n b,yi a.e],yi k] d (aeT d x y)):
  yC 73 #[yDV a c b,yi k,.func (.func 74) #[] #[]] w (KRd w 0 x y):=by
 replace m:Hid _:=m;replace j:Hid _:=j;replace i:Hid _:=i;obtain⟨W4,r,q1,q2,o⟩:=iG w (yDL a c b) 41 [.bool false,yN,yi 0,.bool false,yN,yi 0] 49;replace r:Hid _:=r;have B:=I.l o;clear I
 go_enter func73,ntmps73
 go_upto_region 1 with fail
 rw[r.out];clear r;obtain⟨Q,R,S⟩:=q1.cs3
 go_wp2_with fail
 refine(m.out _ o B).mono ?_;rintro J a2 ⟨rfl,f⟩;have E:=q1.l f;have F:=q2.l f;have H:=B.l f;have C:=aa o f;clear q1 q2 B o f m Q R S;obtain⟨M,N,O⟩:=E.cs3
 go_wp2_with fail
 refine(j.out _).mono ?_;rintro J a3 ⟨rfl,p⟩;have G:=F.l p;have A:=H.l p;have v:=aa C p;clear E F H C p j M N O
 go_wp2_with fail
 refine(i.out _ v A).mono ?_;rintro J a4 ⟨a0,a1,rfl,t,u,q⟩;have h:=G.l q;have U:=A.l q;have D:=aa v q;obtain⟨Z,Y,z⟩:=t.shape;subst z;obtain⟨yo,yc,z⟩:=u.shape;subst z;clear G A v q i;have hf:=fin6 (P:=Tryz.prog) h D (by omega) underlying49 rfl (by kernel_rfl) (.bool x.s) (yT Z x.n Y) (yi x.e) (.bool y.s) (yT yo y.n yc) (yi y.e);have K:Hid (_∧_∧_∧_):=⟨hf.1,hf.2.2.rd t (aX t h (by simp)),hf.2.2.rd u (aX u h (by simp)),hf.2.1⟩;obtain⟨⟨z0,z1,z2,z3,z4,z5⟩,y0,y1,y2,y3,y4,y5⟩:=csf6 h;clear hf h U t u D
 go_wp2
 obtain⟨T,W,X,L⟩:=K.out;exact bodyPost_ret (results_tc results73 rfl rfl T) rfl ⟨_,_,_,rfl,aN _ _,W,X,L⟩
theorem hf_two (k:Nat):hf k*((2^k:Nat):Rat)=1:=by
 induction k with
 |zero=>simp only[hf];simp
 |succ k ih=>
  rw[Nat.pow_succ,Rat.natCast_mul];have:((2:Nat):Rat)=2:=rfl;rw[this];simp only[hf]
  grind
theorem p2_neg (e:Int):p2 e*p2 (-e)=1:=by
 rw[←p2_add,show e+ -e=0 by omega,p2_zero]
theorem p2_hf (k:Nat):p2 (-(k:Int))=hf k:=by
 have h:=hf_two k;have a:=p2_neg k;rw[p2_nat] at a;have b:=two_posR k;generalize((2^k:Nat):Rat)=y at*
 grind
theorem qT_plus (a b:ak):qT (aG a b)=qT a+qT b:=by
 obtain⟨K,c,d⟩:=low2 a.e b.e;refine qT_inj (K:=K) ?_;rw[←qT_V (eS c d),dH c d,Rat.intCast_add,qT_V c,qT_V d]
 grind
theorem qT_neg (a:ak):qT (dV a)= -qT a:=by
 obtain⟨K,b,-⟩:=low2 a.e 0;refine qT_inj (K:=K) ?_;rw[←qT_V (show-(K:Int)≤(dV a).e from b),pC,Rat.intCast_neg,qT_V b]
 grind
theorem qT_times (a b:ak):qT (aK a b)=qT a*qT b:=by
 unfold qT aK;simp only;rw[Ny,Rat.intCast_mul,p2_add]
 grind
theorem qT_up (a:ak)(n:Int):qT (upT a n)=p2 n*qT a:=by
 unfold qT upT;simp only;rw[p2_add]
 grind
theorem qlo_le (x:Nat→ak)(i:Nat): ∀j,j≤i→qT (loT x i)≤qT (x j):=fun j a=>by
 obtain⟨K,h⟩:=low_all x i;obtain⟨k,b,e⟩:=Po x i;exact(le_V (by rw[e];exact h k b) (h j a)).1 (Al x i h j a)
theorem qhi_ge (x:Nat→ak)(i:Nat): ∀j,j≤i→qT (x j)≤qT (hiT x i):=fun j a=>by
 obtain⟨K,h⟩:=low_all x i;obtain⟨k,b,e⟩:=Pp x i;exact(le_V (h j a) (by rw[e];exact h k b)).1 (Ao x i h j a)
theorem p2_le {a b:Int}(h:p2 a≤p2 b):a≤b:=by
 by_cases c:a≤b
 ·exact c
 ·have d:=p2_mono (show b+1≤a by omega)
  rw[p2_add,p2_one] at d;have:=p2_pos b
  grind
theorem over_nearR (a b:ak)(B:Nat)(x:1≤B)(z:b.n≠0){X:Rat}(y:X*qT b=qT a):ab (qT (cK a b B)-X)≤p2 (-(B:Int))*ab X∧ ∀k,ab X≤p2 k→ab (qT (cK a b B))≤p2 k:=by
 by_cases t:a.n=0
 ·have f:qT (cK a b B)=0:=qT_zero (over_zero a b B t)
  obtain⟨u,v⟩:=over_cut a b B x z y;rw[cut_zero _ _ _ (over_zero a b B t),f] at u v;have r:X=0:=Rat.le_antisymm v u;have o:ab 0=0:=by unfold ab;grind
  rw[f,r,show(0:Rat)-0=0 by grind,o]
  refine⟨by grind,fun k _=>by have:=p2_pos k;grind⟩
 obtain⟨m,e,l,C,D,E,w,F,G,q⟩:=over_parts a b B x t z y;rw[C];obtain⟨g,K⟩: ∃g,(a.s != b.s)=g:=⟨_,rfl⟩;rw[K] at q⊢;have T:=p2_pos e;have O:p2 e=2*p2 (e-1):=by
  have:=p2_add 1 (e-1)
  rwa [show 1+(e-1)=e by omega,p2_one] at this
 have r:=ab_nonneg X;have f:qT ⟨g,m*2+(if l=true then 1 else 0),e-1⟩=sqT g*(((m:Rat)+(if l=true then 1/2 else 0))*p2 e):=by
  rw[qT_sq,O];simp only;rw[Rat.natCast_add,Rat.natCast_mul];have:((2:Nat):Rat)=2:=rfl
  cases l
  ·simp only[Bool.false_eq_true,if_false]
   have:((0:Nat):Rat)=0:=rfl
   grind
  ·simp only[if_true]
   have:((1:Nat):Rat)=1:=rfl
   grind
 have I:((2^ (B-1):Nat):Rat)*p2 e≤ab X:=Rat.le_trans (Rat.mul_le_mul_of_nonneg_right (nat_le D) (by grind)) E;have R:p2 e≤2*p2 (-(B:Int))*ab X:=by
  have h:=Rat.mul_le_mul_of_nonneg_left I (show 0≤2*p2 (-(B:Int)) by have:=p2_pos (-(B:Int));grind)
  have d:2*p2 (-(B:Int))*(((2^ (B-1):Nat):Rat)*p2 e)=p2 e:=by
   rw[←p2_nat,←p2_one];have:p2 1*p2 (-(B:Int))*(p2 ((B-1:Nat):Int)*p2 e)=p2 1*p2 (-(B:Int))*p2 ((B-1:Nat):Int)*p2 e:=by grind
   rw[this,←p2_add,←p2_add,show 1+ -(B:Int)+((B-1:Nat):Int)=0 by omega,p2_zero]
   grind
  rwa [d] at h
 rw[f]
 cases l with
 |false=>
  have J:=F rfl;have j:sqT g*(((m:Rat)+(if false=true then 1/2 else 0))*p2 e)=X:=by
   rw[q,←J];simp only[Bool.false_eq_true,if_false]
   grind
  rw[j];refine⟨?_,fun k d=>d⟩
  have o:ab (X-X)=0:=by rw[show X-X=0 by grind];unfold ab;grind
  rw[o];exact Rat.mul_nonneg (by have:=p2_pos (-(B:Int));grind) r
 |true=>
  have S:=G rfl;simp only[if_true];rw[Rat.natCast_add] at w;have p:((1:Nat):Rat)=1:=rfl;rw[p] at w
  constructor
  ·have j:sqT g*(((m:Rat)+1/2)*p2 e)-X=sqT g*(((m:Rat)+1/2)*p2 e-ab X):=by
    have:X=sqT g*ab X:=q
    grind
   rw[j,sq_ab,ab_le]
   constructor<;>grind
  ·intro k d
   rw[sq_ab];have M:1≤m:=by
    have:0<2^ (B-1):=Nat.pow_pos (by omega);omega
   have N:(1:Rat)≤(m:Rat):=by
    have:=nat_le M
    rwa [p] at this
   have A:p2 e≤p2 k:=by
    have:=Rat.mul_le_mul_of_nonneg_right N (show 0≤p2 e by grind)
    grind
   obtain⟨i,L⟩: ∃i:Nat,k=(i:Int)+e:=⟨(k-e).toNat,by have:=p2_le A;omega⟩;rw[L,p2_add,p2_nat] at d⊢;have Q:m<2^i:=by
    by_cases c:m<2^i
    ·exact c
    ·have:=Rat.mul_le_mul_of_nonneg_right (nat_le (show 2^i≤m by omega)) (show 0≤p2 e by grind)
     grind
   have H:=Rat.mul_le_mul_of_nonneg_right (nat_le (show m+1≤2^i by omega)) (show 0≤p2 e by grind)
   rw[Rat.natCast_add,p] at H;have P:=Rat.mul_nonneg (show 0≤(m:Rat)+1/2 by grind) (show 0≤p2 e by grind)
   have:ab (((m:Rat)+1/2)*p2 e)=((m:Rat)+1/2)*p2 e:=by unfold ab;grind
   rw[this]
   grind
theorem over_cut_near (a b:ak)(B:Nat)(j:1≤B)(m:b.n≠0){X:Rat}(l:X*qT b=qT a)(up:Bool):ab (qT (aY (cK a b B) B up)-X)≤p2 (2-(B:Int))*ab X∧ ∀k,ab X≤p2 k→ab (qT (aY (cK a b B) B up))≤p2 k:=by
 obtain⟨t,u⟩:=over_nearR a b B j m l;refine⟨?_,fun k o=>cut_pow _ _ _ (by omega) k (u k o)⟩
 have c:=cut_near (cK a b B) B up (by omega);obtain⟨q,e⟩: ∃q,qT (cK a b B)=q:=⟨_,rfl⟩;obtain⟨r,f⟩: ∃r,qT (aY (cK a b B) B up)=r:=⟨_,rfl⟩;rw[e,f] at c;rw[e] at t;rw[f];have g:p2 (1-(B:Int))=2*p2 (-(B:Int)):=by rw[show 1-(B:Int)=1+ -(B:Int) by omega,p2_add,p2_one]
 have i:p2 (2-(B:Int))=4*p2 (-(B:Int)):=by
  rw[show 2-(B:Int)=1+(1+ -(B:Int)) by omega,p2_add,p2_add,p2_one]
  grind
 rw[g] at c;rw[i];have p:p2 (-(B:Int))≤1/2:=by
  have h:=p2_mono (show-(B:Int)≤ -1 by omega)
  have:p2 (-1)=1/2:=by
   have:=p2_neg 1;rw[p2_one] at this
   grind
  rwa [this] at h
 have w:=p2_pos (-(B:Int));generalize p2 (-(B:Int))=d at*;have s:=ab_nonneg X;have v:ab q≤ab X+d*ab X:=by
  have:=ab_add (q-X) X;rw[show q-X+X=q by grind] at this
  grind
 have x:ab (r-X)≤ab (r-q)+ab (q-X):=by
  have:=ab_add (r-q) (q-X)
  rwa [show r-q+(q-X)=r-X by grind] at this
 have y:=Rat.mul_le_mul_of_nonneg_left v (show 0≤2*d by grind)
 have z:=Rat.mul_le_mul_of_nonneg_left p (Rat.mul_nonneg (show 0≤2*d by grind) s)
 grind
theorem cut_iv (a b:ak)(B:Nat)(q:1≤B)(r:qT a≤qT b):IvN.Cut (p2 (2-(B:Int))) (ivT a b) (ivT (aY a B false) (aY b B true)):=by
 have h:=cut_near a B false (by omega);have i:=cut_near b B true (by omega);have m:=(cut_lo a B (by omega)).1;have n:=(cut_lo b B (by omega)).2;have e:p2 (1-(B:Int))≤p2 (2-(B:Int)):=p2_mono (by omega);have o:=Rat.mul_le_mul_of_nonneg_right e (ab_nonneg (qT a));have p:=Rat.mul_le_mul_of_nonneg_right e (ab_nonneg (qT b));rw[ab_le] at h i;refine⟨m,n, ?_, ?_,fun k j=> ?_⟩
 ·show qT a-qT (aY a B false)≤_*ab (qT a)
  grind
 ·show qT (aY b B true)-qT b≤_*ab (qT b)
  grind
 ·have l: -(hf k)≤qT a∧qT b≤hf k:=j
  obtain⟨d,f⟩:=l;rw[←p2_hf] at d f⊢;have g:=cut_pow a B false (by omega) (-(k:Int)) (IvN.ab_of d (by grind));have c:=cut_pow b B true (by omega) (-(k:Int)) (IvN.ab_of (by grind) f);rw[ab_le] at g c;exact⟨by show-_≤qT _;grind,c.1⟩
theorem part_iv {c:Rat}(a b g h d:ak)(B:Nat)(e:1≤B)(q:0≤c)(t:qT a≤qT b)(f:d.n≠0)(j:c*qT a*qT d=qT g)(l:c*qT b*qT d=qT h):
  IvN.Cut (p2 (2-(B:Int))) (IvN.scl c (ivT a b)) (ivT (aY (cK g d B) B false) (aY (cK h d B) B true)):=by
 obtain⟨u,-⟩:=over_cut g d B e f j;obtain⟨-,v⟩:=over_cut h d B e f l;obtain⟨w,p1⟩:=over_cut_near g d B e f j false;obtain⟨x,y⟩:=over_cut_near h d B e f l true;rw[ab_le] at w x;have z:=Rat.mul_le_mul_of_nonneg_left t q;refine⟨u,v, ?_, ?_,fun k r=> ?_⟩
 ·show c*qT a-qT _≤_*ab (c*qT a)
  grind
 ·show qT _-c*qT b≤_*ab (c*qT b)
  grind
 ·have s: -(hf k)≤c*qT a∧c*qT b≤hf k:=r
  obtain⟨m,o⟩:=s;rw[←p2_hf] at m o⊢;have p:=p1 (-(k:Int)) (IvN.ab_of m (by grind));have i:=y (-(k:Int)) (IvN.ab_of (by grind) o);rw[ab_le] at p i;exact⟨by show-_≤qT _;grind,i.1⟩
theorem plus_iv (a b p q:ak):ivT (aG a p) (aG b q)=IvN.plus (ivT a b) (ivT p q):=by
 unfold ivT IvN.plus;rw[qT_plus,qT_plus]
theorem neg_iv (a b:ak):ivT (dV b) (dV a)=IvN.neg (ivT a b):=by
 unfold ivT IvN.neg;rw[qT_neg,qT_neg]
theorem four_lo (a b p q:ak):ivT (loT (fourT a b p q) 3) (hiT (fourT a b p q) 3)=IvN.times (ivT a b) (ivT p q):=by
 have c:qT (fourT a b p q 0)=qT a*qT p:=qT_times a p;have d:qT (fourT a b p q 1)=qT a*qT q:=qT_times a q;have e:qT (fourT a b p q 2)=qT b*qT p:=qT_times b p;have f:qT (fourT a b p q 3)=qT b*qT q:=qT_times b q;have L:=qlo_le (fourT a b p q) 3;have H:=qhi_ge (fourT a b p q) 3;obtain⟨i,C,s⟩:=Po (fourT a b p q) 3;obtain⟨j,D,t⟩:=Pp (fourT a b p q) 3;have m:=L 0 (by omega);have n:=L 1 (by omega);have o:=L 2 (by omega);have r:=L 3 (by omega);have g:=H 0 (by omega);have h:=H 1 (by omega);have k:=H 2 (by omega);have l:=H 3 (by omega);rw[c] at m g;rw[d] at n h;rw[e] at o k;rw[f] at r l;have v:qT (loT (fourT a b p q) 3)=qT a*qT p∨qT (loT (fourT a b p q) 3)=qT a*qT q∨qT (loT (fourT a b p q) 3)=qT b*qT p∨qT (loT (fourT a b p q) 3)=qT b*qT q:=by
  rw[s,←c,←d,←e,←f]
  rcases(by omega:i=0∨i=1∨i=2∨i=3) with rfl|rfl|rfl|rfl<;>simp
 have u:qT (hiT (fourT a b p q) 3)=qT a*qT p∨qT (hiT (fourT a b p q) 3)=qT a*qT q∨qT (hiT (fourT a b p q) 3)=qT b*qT p∨qT (hiT (fourT a b p q) 3)=qT b*qT q:=by
  rw[t,←c,←d,←e,←f]
  rcases(by omega:j=0∨j=1∨j=2∨j=3) with rfl|rfl|rfl|rfl<;>simp
 unfold ivT IvN.times IvN.mn IvN.mx;simp only;generalize qT (loT (fourT a b p q) 3)=x at*;generalize qT (hiT (fourT a b p q) 3)=y at*;generalize qT a*qT p=w at*;generalize qT a*qT q=z at*;generalize qT b*qT p=A at*;generalize qT b*qT q=B at*
 congr 1<;>grind
theorem times_iv (s t:ak×ak):ivS (timesS s t)=IvN.times (ivS s) (ivS t):=four_lo _ _ _ _
theorem plus_ivS (s t:ak×ak):ivS (plusS s t)=IvN.plus (ivS s) (ivS t):=plus_iv _ _ _ _
theorem neg_ivS (s:ak×ak):ivS (negS s)=IvN.neg (ivS s):=neg_iv _ _
theorem cut_ivS (s:ak×ak)(B:Nat)(a:1≤B)(b:(ivS s).lo≤(ivS s).hi):IvN.Cut (p2 (2-(B:Int))) (ivS s) (ivS (cutSp s B)):=cut_iv _ _ B a b
theorem part_ivS {c:Rat}(s:ak×ak)(t o B:Nat)(b:1≤B)(d:0≤c)(f:(ivS s).lo≤(ivS s).hi)(e:o≠0)(a:c*(o:Rat)=(t:Rat)):IvN.Cut (p2 (2-(B:Int))) (IvN.scl c (ivS s)) (ivS (partS s t o B)):=
 part_iv s.1 s.2 (aK s.1 (wTr t)) (aK s.2 (wTr t)) (wTr o) B b d f e (by rw[qT_times,qT_w,qT_w,←a];grind) (by rw[qT_times,qT_w,qT_w,←a];grind)
theorem qT_size (t:ak):qT (sizeT t)=ab (qT t):=by
 rw[qT_ab,qT_sq];simp only[sizeT,sqT,Bool.false_eq_true,if_false]
 grind
theorem gr_ge (s:ak×ak):ab (qT s.1)≤qT (grS s)∧ab (qT s.2)≤qT (grS s)∧(qT (grS s)=ab (qT s.1)∨qT (grS s)=ab (qT s.2)):=by
 have a:=qhi_ge (fun i=>if i=0 then sizeT s.1 else sizeT s.2) 1 0 (by omega)
 have b:=qhi_ge (fun i=>if i=0 then sizeT s.1 else sizeT s.2) 1 1 (by omega)
 simp only[if_true,Nat.one_ne_zero,if_false] at a b;obtain⟨j,d,e⟩:=Pp (fun i=>if i=0 then sizeT s.1 else sizeT s.2) 1
 rw[←qT_size,←qT_size];refine⟨a,b, ?_⟩;unfold grS;rw[e]
 by_cases c:j=0
 ·rw[if_pos c];exact .inl rfl
 ·rw[if_neg c];exact .inr rfl
theorem gr_ab (s:ak×ak):ab (qT (grS s))=qT (grS s):=by
 have:=(gr_ge s).1;have:=ab_nonneg (qT s.1);unfold ab
 grind
theorem small_of {s:ak×ak}{B k:Nat}(f:(ivS s).lo≤(ivS s).hi)(h:(ivS s).inn (hf k))(a: ¬smallS s B):k≤B+1:=by
 unfold smallS at a;have d:(grS s).n≠0:=fun c=>a (.inl c)
 have j: -(B:Int)≤(grS s).e+(bitLen (grS s).n:Int):=by
  by_cases c: -(B:Int)≤(grS s).e+(bitLen (grS s).n:Int)
  ·exact c
  ·exact absurd (.inr (by omega)) a
 have t:=(qT_top d).1;rw[gr_ab] at t;obtain⟨-,-,e⟩:=gr_ge s;have i:qT s.1≤qT s.2:=f;have g: -(hf k)≤qT s.1∧qT s.2≤hf k:=h;have b:qT (grS s)≤hf k:=by
  rcases e with e|e<;>rw[e]<;>exact IvN.ab_of (by grind) (by grind)
 rw[←p2_hf] at b;have:=p2_le (Rat.le_trans t b);omega
def pwsT (u:ak×ak)(B:Nat)(nx:Nat→Nat×Nat):Nat→Nat→ak×ak→ak×ak→ak×ak
 |0,_,sum,_=>sum
 |f+1,k,sum,term=>
  let t:=partS (timesS term u) (nx k).1 (nx k).2 B
  if smallS t B then cutSp (plusS sum (timesS t restS)) B else pwsT u B nx f (k+1) (cutSp (plusS sum t) B) t
theorem p2_mhalf:p2 (-1)=1/2:=by
 have:=p2_neg 1;rw[p2_one] at this
 grind
theorem near_any (y:ak)(h:y.s=false):(nearT y:Rat)≤qT y+1/2∧qT y+1/2< (nearT y:Rat)+1:=by
 have a:qT (aG y (upT (wTr 1) (-1)))=qT y+1/2:=by
  rw[qT_plus,qT_up,qT_w,p2_mhalf];have:((1:Nat):Rat)=1:=rfl
  grind
 have g:(aG y (upT (wTr 1) (-1))).s=false:=by
  unfold aG;simp only;rw[if_pos (by rw[h];rfl)];exact h
 unfold nearT;simp only;obtain⟨m,l⟩: ∃m,aG y (upT (wTr 1) (-1))=m:=⟨_,rfl⟩;rw[l] at a g⊢;rw[←a,qT_sq,g];simp only[sqT,Bool.false_eq_true,if_false];have one:(1:Rat)*((m.n:Rat)*p2 m.e)=(m.n:Rat)*p2 m.e:=by grind
 rw[one]
 by_cases c:0≤m.e
 ·rw[if_pos c,Rat.natCast_mul]
  have:p2 m.e=((2^m.e.toNat:Nat):Rat):=by unfold p2;rw[if_pos c]
  rw[this]
  constructor<;>grind
 ·rw[if_neg c]
  obtain⟨k,j⟩: ∃k:Nat,m.e= -(k:Int):=⟨(-m.e).toNat,by omega⟩;rw[j,show(-(-(k:Int))).toNat=k by omega]
  have t:=two_posR k;have b:=p2_neg (k:Int);rw[p2_nat] at b;have d:=Nat.div_add_mod m.n (2^k);have o:=Nat.mod_lt m.n (show 0<2^k from Nat.pow_pos (by omega))
  obtain⟨q,a⟩: ∃q,m.n/2^k=q:=⟨_,rfl⟩;rw[a] at d⊢;have p:=p2_pos (-(k:Int));have f:((2^k*q:Nat):Rat)≤(m.n:Rat):=nat_le (by omega);have r:(m.n:Rat)< ((2^k*q+2^k:Nat):Rat):=nat_lt (by omega);rw[Rat.natCast_mul] at f;rw[Rat.natCast_add,Rat.natCast_mul] at r;clear d o a;generalize p2 (-(k:Int))=z at*;generalize((2^k:Nat):Rat)=w at*;have ew:w*(q:Rat)*z=(q:Rat):=by
   have:w*(q:Rat)*z=w*z*(q:Rat):=by grind
   rw[this,b]
   grind
  constructor
  ·have:=Rat.mul_le_mul_of_nonneg_right f (show 0≤z by grind)
   rwa [ew] at this
  ·have:=Rat.mul_pos (show 0<w*(q:Rat)+w-(m.n:Rat) by grind) p
   have i:(w*(q:Rat)+w-(m.n:Rat))*z=w*(q:Rat)*z+w*z-(m.n:Rat)*z:=by grind
   rw[i,ew,b] at this
   grind
theorem pos_sign {t:ak}(h:0<qT t):t.s=false∧t.n≠0:=by
 constructor
 ·cases c:t.s with
  |false=>rfl
  |true=>
   rw[qT_sq,c] at h;simp only[sqT,if_true] at h;have:=Rat.mul_nonneg (nat_nn t.n) (show 0≤p2 t.e by have:=p2_pos t.e;grind)
   grind
 ·intro c
  rw[qT_zero c] at h
  grind
theorem times_whole {S:IvN}{N:Rat}(h:S.lo≤S.hi)(c:0≤N):IvN.times S ⟨N,N⟩=⟨N*S.lo,N*S.hi⟩:=by
 have:=Rat.mul_le_mul_of_nonneg_right h c;unfold IvN.times IvN.mn IvN.mx;simp only;have a:S.lo*N=N*S.lo:=by grind
 have b:S.hi*N=N*S.hi:=by grind
 rw[a,b] at*
 congr 1<;>grind
theorem taken_any (x:ak)(one:ak×ak)(a B:Nat)(q:1≤B)(k:x.s=false)(j:x.n≠0)(v:x.e+(bitLen x.n:Int)=(a:Int))(p:1/2≤qT one.1)(f:qT one.1≤qT one.2):
  let N:=nearT (cK x one.1 (a+32))
  ab (qT x-(N:Rat)*qT one.1)≤qT one.1*(1/2+p2 (-31))∧(N:Rat)≤2*p2 a+1∧
  IvN.Cut (p2 (2-(B:Int))) ⟨qT x-(N:Rat)*qT one.2,qT x-(N:Rat)*qT one.1⟩ (ivS (cutSp (plusS (x,x) (negS (timesS one (wTr N,wTr N)))) B)):=by
 intro N;have c:0<qT one.1:=by grind
 obtain⟨w,y⟩:=pos_sign c;have E:0<qT x:=by
  rw[qT_sq,k];simp only[sqT,Bool.false_eq_true,if_false];have:=Rat.mul_pos (nat_pos' (Nat.pos_of_ne_zero j)) (p2_pos x.e)
  grind
 obtain⟨X,b⟩: ∃X,X*qT one.1=qT x:=⟨qT x/qT one.1,Rat.div_mul_cancel (by grind)⟩;have D:0<X:=cancel_lt c (by rw[b];grind);obtain⟨l,-⟩:=over_nearR x one.1 (a+32) (by omega) y b;have u:(cK x one.1 (a+32)).s=false:=by
  unfold cK d8;simp only;rw[k,w];rfl
 obtain⟨G,H⟩:=near_any _ u;have F:qT x<p2 a:=by
  have:=(qT_top j).2;rw[v] at this;have o:ab (qT x)=qT x:=by unfold ab;grind
  rwa [o] at this
 have r:X≤2*p2 a:=by
  refine cancel_le c ?_;rw[b];have:=Rat.mul_le_mul_of_nonneg_left p (show 0≤2*p2 a by have:=p2_pos a;grind)
  grind
 have t:ab X=X:=by unfold ab;grind
 rw[t] at l;have C:p2 (-((a+32:Nat):Int))*X≤p2 (-31):=by
  have h:=Rat.mul_le_mul_of_nonneg_left r (show 0≤p2 (-((a+32:Nat):Int)) by have:=p2_pos (-((a+32:Nat):Int));grind)
  have:p2 (-((a+32:Nat):Int))*(2*p2 a)=p2 (-31):=by
   rw[←p2_one,←p2_add,←p2_add]
   congr 1
   omega
  rwa [this] at h
 rw[ab_le] at l;have g:=nat_nn N;have i:X-(N:Rat)≤1/2+p2 (-31)∧ -(X-(N:Rat))≤1/2+p2 (-31):=by
  have:(N:Rat)=(nearT (cK x one.1 (a+32)):Rat):=rfl
  constructor<;>grind
 have m:qT x-(N:Rat)*qT one.1=(X-(N:Rat))*qT one.1:=by rw[←b];grind
 refine⟨?_, ?_, ?_⟩
 ·rw[m,ab_le]
  have z:=Rat.mul_le_mul_of_nonneg_right i.1 (show 0≤qT one.1 by grind)
  have A:=Rat.mul_le_mul_of_nonneg_right i.2 (show 0≤qT one.1 by grind)
  constructor<;>grind
 ·have:p2 (-31)≤1/2:=by
   have:=p2_mono (show(-31:Int)≤ -1 by omega)
   rwa [p2_mhalf] at this
  grind
 ·have d:ivS (plusS (x,x) (negS (timesS one (wTr N,wTr N))))=⟨qT x-(N:Rat)*qT one.2,qT x-(N:Rat)*qT one.1⟩:=by
   rw[plus_ivS,neg_ivS,times_iv];have:ivS (wTr N,wTr N)=⟨(N:Rat),(N:Rat)⟩:=by
    unfold ivS ivT;simp only;rw[qT_w]
   rw[this,times_whole (show(ivS one).lo≤(ivS one).hi from f) g]
   unfold IvN.plus IvN.neg ivS ivT;simp only
   congr 1<;>grind
  rw[←d];refine cut_ivS _ B q ?_;rw[d];have:=Rat.mul_le_mul_of_nonneg_left f g
  show qT x-(N:Rat)*qT one.2≤qT x-(N:Rat)*qT one.1
  grind
theorem RgS.times {E T E' T':Int}{s t:ak×ak}(h:RgS E T s)(g:RgS E' T' t):RgS (E+E') (T+T') (timesS s t):=⟨RgT.lo fun j _=>rg_four h g j,RgT.hi fun j _=>rg_four h g j⟩
theorem RgS.part {E T:Int}{s:ak×ak}{t o B k:Nat}(h:RgS E T s)(c:1≤B)(g:t<2^k)(d:o<2^k):RgS (E+(k:Int)+(B:Int)+1) (T+(k:Int)+2) (partS s t o B):=by
 have a: ∀q,RgT E T q→RgT (E+(k:Int)+(B:Int)+1) (T+(k:Int)+1) (cK (aK q (wTr t)) (wTr o) B):=fun q f=>by
  have:=(f.times (RgT.w t k g)).over (b:=wTr o) c;have e:bitLen o≤k:=bits_le d;exact this.mono (by show E+0+0+(bitLen o:Int)+(B:Int)+1≤_;omega) (by show T+(k:Int)-0+1≤_;omega)
 exact⟨((a _ h.1).cut c _).mono (by omega) (by omega),((a _ h.2).cut c _).mono (by omega) (by omega)⟩
theorem pws_walk {u:ak×ak}{B:Nat}{nx:Nat→Nat×Nat}{c:Nat→Rat}{mu wU d:Rat}{E T M:Int}(f:1≤B)(l:d=p2 (2-(B:Int)))(j: ∀k,0≤c (k+1)∧c (k+1)≤1)(C: ∀k,(nx (k+1)).2≠0∧c (k+1)*((nx (k+1)).2:Rat)=((nx (k+1)).1:Rat))
  (g:(ivS u).inn mu) (i:(ivS u).lo≤(ivS u).hi) (z: ∀k,mu*c (k+1)≤1/2) (m:(ivS u).wd≤wU) (hk:((B:Rat)+2)*(2*(wU+d)+8*d)≤1)
  (Q:RgS E T u) (Y:0≤E) (Z:0≤T) (A: ∀k,k≤B+1→(nx (k+1)).1<2^30∧(nx (k+1)).2<2^30) (J:((B:Int)+3)*(E+T+(B:Int)+50)≤M):
  ∃I:Nat→ak×ak→ak×ak→Prop,I 0 (wTr 1,wTr 1) (wTr 1,wTr 1)∧ ∀k s t,I k s t→k≤B+1∧RgS M M s∧RgS M M t∧RgS M M (partS (timesS t u) (nx (k+1)).1 (nx (k+1)).2 B)∧
   (¬smallS (partS (timesS t u) (nx (k+1)).1 (nx (k+1)).2 B) B→I (k+1) (cutSp (plusS s (partS (timesS t u) (nx (k+1)).1 (nx (k+1)).2 B)) B) (partS (timesS t u) (nx (k+1)).1 (nx (k+1)).2 B)):=by
 have y:0≤d:=by rw[l];have:=p2_pos (2-(B:Int));grind
 have a7:0≤wU:=by unfold IvN.wd at m;grind
 have H:0≤2*(wU+d)+8*d:=by grind
 obtain⟨S,K⟩: ∃S:Int,S=E+T+(B:Int)+50:=⟨_,rfl⟩;rw[←K] at J;have x:0≤S:=by omega
 have up: ∀k:Nat,k≤B+1→(k:Int)*S+S+10≤M:=fun k a=>by
  have U:((k:Int)+1)*S≤((B:Int)+2)*S:=Int.mul_le_mul_of_nonneg_right (by omega) x;have W:((B:Int)+3)*S=((B:Int)+2)*S+S:=by rw[show B+3=((B:Int)+2)+1 by omega,Int.add_mul];omega
  have X:((k:Int)+1)*S=(k:Int)*S+S:=by rw[Int.add_mul];omega
  omega
 refine⟨fun k s t=>PInv (ivS u) c wU d k (ivS s) (ivS t)∧k≤B+1∧RgS ((k:Int)*S) ((k:Int)*S+1) s∧RgS ((k:Int)*S) ((k:Int)*S+1) t,⟨?_,by omega, ?_, ?_⟩, ?_⟩
 ·have e:ivS (wTr 1,wTr 1)=⟨1,1⟩:=by
   unfold ivS ivT;simp only;rw[qT_w];rfl
  rw[e];exact PInv.zero _ _ _ _
 ·exact⟨(RgT.w 1 1 (by omega)).mono (by simp) (by simp),(RgT.w 1 1 (by omega)).mono (by simp) (by simp)⟩
 ·exact⟨(RgT.w 1 1 (by omega)).mono (by simp) (by simp),(RgT.w 1 1 (by omega)).mono (by simp) (by simp)⟩
 ·rintro k s t ⟨h,a,gs,gt⟩
  have a6:=up k a;have a5:(k:Rat)≤(B:Rat)+1:=by
   have:=nat_le a
   rwa [Rat.natCast_add] at this
  have N:(k:Rat)*(2*(wU+d)+8*d)≤1:=by
   have:=Rat.mul_le_mul_of_nonneg_right (show(k:Rat)≤(B:Rat)+2 by grind) H
   grind
  obtain⟨t1,t2,R⟩:=IvN.times_wd h.term_in g h.term_ord i;have b:=part_ivS (timesS t u) (nx (k+1)).1 (nx (k+1)).2 B f (j k).1 (by rw[times_iv];exact R) (C k).1 (C k).2;rw[times_iv,←l] at b;obtain⟨D,n,o,F⟩:=h.term j g i z m y b;have gn:=(gt.times Q).part f (A k a).1 (A k a).2;obtain⟨q,O⟩: ∃q,partS (timesS t u) (nx (k+1)).1 (nx (k+1)).2 B=q:=⟨_,rfl⟩;rw[O] at b D n o F gn⊢;have r:((k+1:Nat):Int)*S=(k:Int)*S+S:=by rw[Int.natCast_add,Int.add_mul];simp
  have a0:0≤(k:Int)*S:=Int.mul_nonneg (by omega) x;generalize(k:Int)*S=ks at*;refine⟨a,gs.mono (by omega) (by omega),gt.mono (by omega) (by omega),gn.mono (by omega) (by omega),fun P=> ?_⟩
  have L:=small_of o n P;have p:=cut_ivS (plusS s q) B f (by
   rw[plus_ivS];have:=h.sum_ord;unfold IvN.plus
   grind)
  rw[plus_ivS,←l] at p;have v:RgS (ks+S) (ks+S-2) q:=gn.mono (by omega) (by omega);have G:RgS (ks+S) (ks+S-2) s:=gs.mono (by omega) (by omega);refine⟨h.next j g i z m y N b p,L, ?_, ?_⟩
  ·rw[r]
   exact((G.plus v).cut f).mono (by omega) (by omega)
  ·rw[r]
   exact v.mono (by omega) (by omega)
theorem dover9 (v u:Value)(a b:ak)(B:Nat)(w:World)(g:Dv w v a)(f:Dv w u b)(m:b.n≠0)(c:Fit9 a)(d:Fit9 b)(e:B≤10000):yC 125 #[v,u,yi B] w (Lx w (cK a b B)):=by
 obtain⟨o,i,j⟩:=c.all;obtain⟨p,k,l⟩:=d.all;exact(Jw _ _ a b B w g f (by omega) (by omega) (by omega) (by omega) (by omega) (by omega) (by omega) e).mono fun _ _ h=>h.vres
theorem dcut9 (v:Value)(t:ak)(b:Nat)(up:Bool)(w:World)(c:Dv w v t)(f:Fit9 t)(g:1≤b)(h:b≤10000)(a:Tab w):yC 122 #[v,yi b,.bool up] w (Lx w (aY t b up)):=by
 obtain⟨i,d,e⟩:=f.all;exact Ij v t b up w c (by omega) (by omega) (by omega) (by omega) (by omega) a
theorem la_win (n:Nat)(h:1≤n):69/100+1/1000≤CxN.la n∧CxN.la n≤695/1000:=by
 have one: ∀w:Rat,0≤w→w≤1/2→ab (aw w n-w)≤w*(w*w)*(4/3):=fun w a i=>by
  have:=awg_rest 0 a i 1 (n-1);rw[show 1+(n-1)=n by omega,awg_aw,awg_aw] at this
  have f:aw w 1=w:=by
   simp only[aw,rs,awt,rp];have:((2*0+1:Nat):Rat)=1:=rfl;rw[this]
   grind
  have g:rp w (2*1+1)=w*(w*w):=by simp only[rp];grind
  rw[f,g] at this;have b:=hf_pos (n-1);have l:=Rat.mul_nonneg (Rat.le_of_lt b) (Rat.le_of_lt b);have k:=Rat.mul_nonneg a (Rat.mul_nonneg a a);have:=Rat.mul_le_mul_of_nonneg_left (show 4/3-4/3*(hf (n-1)*hf (n-1))≤4/3 by grind) k
  grind
 have c:=one (1/26) (by grind) (by grind);have d:=one (1/4801) (by grind) (by grind);have e:=one (1/8749) (by grind) (by grind);have j:CxN.la n=18*aw (1/26) n-2*aw (1/4801) n+8*aw (1/8749) n:=by
  unfold CxN.la;have:(-1/4801:Rat)= -(1/4801):=by grind
  rw[this,aw_neg]
  grind
 rw[j];rw[ab_le] at c d e;generalize aw (1/26) n=A at*;generalize aw (1/4801) n=B at*;generalize aw (1/8749) n=C at*
 constructor<;>grind
theorem nearest9 (v:Value)(y:ak)(w:World)(r:Dv w v y)(fy:RgT 900000000 900000000 y):yC 124 #[v] w (fun z w'=> ∃v,z= .returned v∧Rd w' .u32 v (Dg.dg 4294967296 (nearT y))∧yB w w'):=by
 obtain⟨s,rfl,b⟩:=r;obtain⟨g,f,rfl⟩:=b.shape;have i:Fit9 y:=fy.fit (by omega) (by omega);have fh:RgT 900000000 900000000 (upT (wTr 1) (-1)):=((RgT.w 1 1 (by omega)).up (-1)).mono (by omega) (by omega);have j:Fit9 (upT (wTr 1) (-1)):=fh.fit (by omega) (by omega);have k:Fit9 (aG y (upT (wTr 1) (-1))):=(fy.plus fh).fit (by omega) (by omega);obtain⟨M,F,G⟩:=i.all;obtain⟨N,H,I⟩:=j.all;obtain⟨O,J,K⟩:=k.all;have q:shN (aG y (upT (wTr 1) (-1))).n (aG y (upT (wTr 1) (-1))).e=nearT y:=by
  unfold shN nearT;simp only
  by_cases c:(aG y (upT (wTr 1) (-1))).e<0
  ·rw[if_pos c,if_neg (by omega)]
  ·rw[if_neg c,if_pos (by omega)]
 have d: ∀a,yB w a→yC 23 #[yi 1] a (Lx a (wTr 1)):=fun a _=>whole_any 1 a (by omega)
 have L:(wTr 1).e=0:=rfl;generalize wTr 1=x at*;have u:IntKind.i64.wrap (x.e+ -1)=(upT x (-1)).e:=by show _=x.e+ -1;exact IntWalk.i64_in _ ⟨by omega,by omega⟩
 refine nearest_W y g f x (aG y (upT x (-1))) (upT x (-1)).e (nearT y) w b d (fun C B a=>dscaled_W _ _ _ _ _ _ _ a u) (fun C B a _ t p=> ?_) (fun E D a=>cN _ _ _ _ _ a) (fun E D a _ A=> ?_)
 ·exact(uj _ _ y (upT x (-1)) a ⟨_,rfl,p⟩ ⟨_,rfl,t⟩ (by omega) (by omega) (by omega) (by omega) (by omega) (by omega)).mono fun _ _ h=>h.vres
 ·have:=eO _ _ (aG y (upT x (-1))).e a A (Dg.small_dg _ _ (by omega)) (by omega) (by omega) (by omega)
  rw[Dg.vl_dg _ _ (by omega),q] at this;exact this.mono fun _ _ ⟨v,l,m,o⟩=>⟨v,l,m.rd,o⟩
end Go.Proofs.YthhiidikgchdeaaGreatDoor

/-
  Texts laid together: Dz, Dy9, Dl8, Bm1, Dk1, Sm1, Dn1, Bm3, Sm2, Knuth, Back, Over, Sp1, Sp2, Sp5, Sp6, Sp7, Sp8.
-/
import Derived.Test.YtiakgfmlpdfhdaaGreatDoorTa02
import Derived.Test.YtiakgfmlpdfhdaaGreatDoorTa03
namespace Go.Proofs.YtiakgfmlpdfhdaaGreatDoor
open Go.RowKit
def V (K:Nat)(a:ak):Int:=sz a.s a.n*((2^ (a.e+K).toNat:Nat):Int)
theorem eV (K:Nat)(a:ak):V K a=sz a.s (a.n*2^ (a.e+K).toNat):=Y5 _ _ _
theorem adk {K:Nat}{a:ak}{e:Int}(h1: -(K:Int)≤e)(h2:e≤a.e):V K a=sz a.s (a.n*2^ (a.e-e).toNat)*((2^ (e+K).toNat:Nat):Int):=by
 rw[eV,Y5,Nat.mul_assoc,←Nat.pow_add];have:(a.e+K).toNat=(a.e-e).toNat+(e+K).toNat:=by omega
 rw[this]
theorem dH {K:Nat}{a b:ak}(ha: -(K:Int)≤a.e)(hb: -(K:Int)≤b.e):V K (aG a b)=V K a+V K b:=by
 have h0: -(K:Int)≤min a.e b.e:=by omega
 rw[adk h0 (Int.min_le_left a.e b.e),adk h0 (Int.min_le_right a.e b.e),←Int.add_mul,Y6];unfold aG V;simp only
 split
 ·rfl
 ·split<;>rfl
def cO (a b:ak):ak:=
 let e0:=min a.e b.e
 let e1:=if a.n=0 then b.e else e0
 let e:=if b.n=0 then a.e else e1
 let x:=a.n*2^ (max 0 (a.e-e)).toNat
 let y:=b.n*2^ (max 0 (b.e-e)).toNat
 if a.s=b.s then⟨a.s,x+y,e⟩ else if y≤x then⟨a.s,x-y,e⟩ else⟨b.s,y-x,e⟩
def aK (a b:ak):ak:=⟨a.s != b.s,a.n*b.n,a.e+b.e⟩
theorem pC (K:Nat)(a:ak):V K (dV a)= -V K a:=by
 unfold V dV sz
 cases a.s<;>simp[Int.neg_mul]
theorem Di (K:Nat)(a:ak):sgn (V K a)=if a.n=0 then 0 else if a.s then-1 else 1:=by
 rw[eV];have p1:0<2^ (a.e+K).toNat:=Nat.pow_pos (by omega)
 by_cases h:a.n=0
 ·rw[if_pos h,h,Nat.zero_mul];simp[sz,sgn]
 ·rw[if_neg h]
  have hne:0<a.n*2^ (a.e+K).toNat:=Nat.mul_pos (by omega) p1;generalize a.n*2^ (a.e+K).toNat=q at hne;unfold sz sgn
  cases a.s
  ·simp;omega
  ·simp;omega
def dJ (t:ak):Int:=if t.n=0 then 0 else if t.s then-1 else 1
def dB (t:ak):ak:=⟨!t.s&&decide (0<t.n),t.n,t.e⟩
def bJ (a b:ak):Int:=dJ (aG a (dV b))
theorem oY {K:Nat}{a b:ak}(ha: -(K:Int)≤a.e)(hb: -(K:Int)≤b.e):bJ a b=sgn (V K a-V K b):=by
 have h1:V K (aG a (dV b))=V K a-V K b:=by rw[dH ha (by exact hb),pC];omega
 rw[←h1,Di];rfl
theorem uO {K:Nat}{a b:ak}(ha: -(K:Int)≤a.e)(hb: -(K:Int)≤b.e):bJ a b<0↔V K a<V K b:=by
 rw[oY ha hb];unfold sgn
 split
 ·omega
 ·split<;>omega
theorem ol {K:Nat}{a b:ak}(ha: -(K:Int)≤a.e)(hb: -(K:Int)≤b.e):0<bJ a b↔V K b<V K a:=by
 rw[oY ha hb];unfold sgn
 split
 ·omega
 ·split<;>omega
def loI (x:Nat→ak):Nat→Nat
 |0=>0
 |i+1=>if bJ (x (i+1)) (x (loI x i))<0 then i+1 else loI x i
def hiI (x:Nat→ak):Nat→Nat
 |0=>0
 |i+1=>if 0<bJ (x (i+1)) (x (hiI x i)) then i+1 else hiI x i
def loT (x:Nat→ak)(i:Nat):ak:=x (loI x i)
def hiT (x:Nat→ak)(i:Nat):ak:=x (hiI x i)
theorem tB (x:Nat→ak)(i:Nat):loI x i≤i:=by
 induction i with
 |zero=>exact Nat.le_refl _
 |succ i ih=>unfold loI;split<;>omega
theorem wN (x:Nat→ak)(i:Nat):hiI x i≤i:=by
 induction i with
 |zero=>exact Nat.le_refl _
 |succ i ih=>unfold hiI;split<;>omega
theorem DN {x:Nat→ak}{i:Nat}(h:bJ (x (i+1)) (x (loI x i))<0):loI x (i+1)=i+1:=if_pos h
theorem DO {x:Nat→ak}{i:Nat}(h: ¬bJ (x (i+1)) (x (loI x i))<0):loI x (i+1)=loI x i:=if_neg h
theorem uP {x:Nat→ak}{i:Nat}(h:0<bJ (x (i+1)) (x (hiI x i))):hiI x (i+1)=i+1:=if_pos h
theorem uQ {x:Nat→ak}{i:Nat}(h: ¬0<bJ (x (i+1)) (x (hiI x i))):hiI x (i+1)=hiI x i:=if_neg h
theorem Po (x:Nat→ak)(i:Nat): ∃j,j≤i∧loT x i=x j:=⟨_,tB x i,rfl⟩
theorem Pp (x:Nat→ak)(i:Nat): ∃j,j≤i∧hiT x i=x j:=⟨_,wN x i,rfl⟩
theorem kP (x:Nat→ak)(i:Nat)(P:ak→Prop)(h: ∀j,j≤i→P (x j)):P (loT x i):=by
 obtain⟨j,h1,h2⟩:=Po x i;rw[h2];exact h j h1
theorem kQ (x:Nat→ak)(i:Nat)(P:ak→Prop)(h: ∀j,j≤i→P (x j)):P (hiT x i):=by
 obtain⟨j,h1,h2⟩:=Pp x i;rw[h2];exact h j h1
theorem Al {K:Nat}(x:Nat→ak)(i:Nat)(h: ∀j,j≤i→ -(K:Int)≤(x j).e): ∀j,j≤i→V K (loT x i)≤V K (x j):=by
 induction i with
 |zero=>
  intro j hj;have:j=0:=by omega
  subst this;exact Int.le_refl _
 |succ i ih=>
  intro j hj;have h0:=h (i+1) (Nat.le_refl _);have h1: -(K:Int)≤(loT x i).e:=kP x i (fun t=> -(K:Int)≤t.e) (fun j hj=>h j (by omega))
  have ih:=ih (fun j hj=>h j (by omega))
  have hc:=uO h0 h1
  by_cases hlt:bJ (x (i+1)) (loT x i)<0
  ·have he:loT x (i+1)=x (i+1):=congrArg x (DN hlt)
   rw[he];have:=hc.1 hlt
   by_cases hji:j=i+1
   ·subst hji;exact Int.le_refl _
   ·have:=ih j (by omega);omega
  ·have he:loT x (i+1)=loT x i:=congrArg x (DO hlt)
   rw[he]
   by_cases hji:j=i+1
   ·subst hji
    by_cases hv:V K (x (i+1))<V K (loT x i)
    ·exact absurd (hc.2 hv) hlt
    ·omega
   ·exact ih j (by omega)
theorem Ao {K:Nat}(x:Nat→ak)(i:Nat)(h: ∀j,j≤i→ -(K:Int)≤(x j).e): ∀j,j≤i→V K (x j)≤V K (hiT x i):=by
 induction i with
 |zero=>
  intro j hj;have:j=0:=by omega
  subst this;exact Int.le_refl _
 |succ i ih=>
  intro j hj;have h0:=h (i+1) (Nat.le_refl _);have h1: -(K:Int)≤(hiT x i).e:=kQ x i (fun t=> -(K:Int)≤t.e) (fun j hj=>h j (by omega))
  have ih:=ih (fun j hj=>h j (by omega))
  have hc:=ol h0 h1
  by_cases hlt:0<bJ (x (i+1)) (hiT x i)
  ·have he:hiT x (i+1)=x (i+1):=congrArg x (uP hlt)
   rw[he];have:=hc.1 hlt
   by_cases hji:j=i+1
   ·subst hji;exact Int.le_refl _
   ·have:=ih j (by omega);omega
  ·have he:hiT x (i+1)=hiT x i:=congrArg x (uQ hlt)
   rw[he]
   by_cases hji:j=i+1
   ·subst hji
    by_cases hv:V K (hiT x i)<V K (x (i+1))
    ·exact absurd (hc.2 hv) hlt
    ·omega
   ·exact ih j (by omega)
def aY (t:ak)(b:Int)(up:Bool):ak:=
 if(bitLen t.n:Int)-b≤((if t.n=0 then 0 else tz t.n:Nat):Int) then t
 else⟨t.s,t.n/2^ ((bitLen t.n:Int)-b).toNat+(if(up != t.s)=true then 1 else 0),t.e+((bitLen t.n:Int)-b)⟩
def dE (t:ak)(b:Int)(up:Bool):ak:=
 if(bitLen t.n:Int)-b≤0 then t
 else bare ⟨t.s,t.n/2^ ((bitLen t.n:Int)-b).toNat+(if 0<t.n % 2^ ((bitLen t.n:Int)-b).toNat∧(up != t.s)=true then 1 else 0),t.e+((bitLen t.n:Int)-b)⟩
theorem lp_tail (nn tn:Nat)(hn:4≤nn): ∀f i t s r,i≤(lp nn tn f i t s r).1∧s≤(lp nn tn f i t s r).2.1∧r≤(lp nn tn f i t s r).2.2∧(lp nn tn f i t s r).2.1+(lp nn tn f i t s r).2.2≤s+r+2*t:=by
 intro f
 induction f with
 |zero=>intro i t s r;simp[lp]
 |succ f ih=>
  intro i t s r;have h1:=Nat.div_le_self t (2*i+1);have h2:=two_div (t:=t) hn
  by_cases h0:t=0
  ·subst h0;rw[lp_zero];simp
  ·by_cases h:tn*(i % 2)=0
   ·rw[lp_up _ _ _ _ _ _ _ h0 h]
    obtain⟨a,b,c,d⟩:=ih (i+1) (t/nn) (s+t/(2*i+1)) r;generalize lp nn tn f (i+1) (t/nn) (s+t/(2*i+1)) r=x at*;generalize t/(2*i+1)=q at*;omega
   ·rw[lp_down _ _ _ _ _ _ _ h0 h]
    obtain⟨a,b,c,d⟩:=ih (i+1) (t/nn) s (r+t/(2*i+1));generalize lp nn tn f (i+1) (t/nn) s (r+t/(2*i+1))=x at*;generalize t/(2*i+1)=q at*;omega
theorem mX (A:ak)(b:Int)(up:Bool)(hb:1≤b):
  (bitLen (bare A).n≤b∧aY A b up=A)∨
  (∃j q:Nat,¬(bitLen (bare A).n:Int)≤b∧A.n≠0∧(bitLen A.n:Int)-b=(j:Int)∧A.n/2^j=q∧q*2^j≤A.n∧A.n< (q+1)*2^j∧q<2^b.toNat∧0<q∧tz A.n≤j∧aY A b up=⟨A.s,q+(if(up != A.s)=true then 1 else 0),A.e+(j:Int)⟩):=by
 by_cases h0:A.n=0
 ·refine Or.inl ⟨?_,if_pos ?_⟩
  ·unfold bare
   rw[if_pos h0]
   show((bitLen 0:Nat):Int)≤b
   rw[gP];omega
  ·rw[h0,gP,if_pos rfl];omega
 ·obtain⟨m,hm⟩:=fO h0
  have hd:=lI hm;have hbl:=Ad (2*m+1) (tz A.n) (by omega);rw[←hm] at hbl;have hbn:(bare A).n=2*m+1:=by
   unfold bare;rw[if_neg h0];exact hd
  rw[hbn]
  by_cases hc:(bitLen (2*m+1):Int)≤b
  ·refine Or.inl ⟨hc,if_pos ?_⟩
   rw[if_neg h0,hbl];omega
  ·refine Or.inr ?_
   obtain⟨j,hj⟩: ∃j:Nat,(bitLen A.n:Int)-b=(j:Int):=⟨((bitLen A.n:Int)-b).toNat,by omega⟩;obtain⟨sp1,sp2⟩:=bitLen_spec A.n;have hP:0<2^j:=Nat.pow_pos (by omega);refine⟨j,A.n/2^j,hc,h0,hj,rfl,Nat.div_mul_le_self _ _, ?_, ?_, ?_,by omega, ?_⟩
   ·have:=Nat.lt_div_mul_add (a:=A.n) hP
    rw[Nat.add_mul,Nat.one_mul];exact this
   ·rw[Nat.div_lt_iff_lt_mul hP,←Nat.pow_add]
    have e:b.toNat+j=bitLen A.n:=by omega
    rw[e];exact sp1
   ·apply Nat.div_pos _ hP
    refine Nat.le_trans (Nat.pow_le_pow_right (by omega) ?_) (sp2 h0);omega
   ·unfold aY
    rw[if_neg h0,if_neg (by rw[hbl] at hj⊢;omega),hj,Int.toNat_natCast]
theorem FW (t:ak):(bare t).n≤t.n:=by
 unfold bare
 split
 ·exact Nat.zero_le _
 ·exact Nat.div_le_self _ _
theorem ada (k:Nat):tz (2^k)=k:=F8 (m:=0) (by simp)
theorem Bx (A:ak)(b:Int)(up:Bool)(hb:1≤b):(bitLen (bare (aY A b up)).n:Int)≤b:=by
 rcases mX A b up hb with⟨h1,h2⟩| ⟨j,q,_,_,_,_,_,_,hq,hq0,_,h2⟩
 ·rw[h2];exact h1
 ·rw[h2]
  have key: ∀x:Nat,x≤2^b.toNat→ ∀s e,(bitLen (bare ⟨s,x,e⟩).n:Int)≤b:=fun x hx s e=>by
   rcases Nat.lt_or_ge x (2^b.toNat) with h|h
   ·have h3:=Nr (FW ⟨s,x,e⟩)
    have h4:=bF x _ h;simp only at h3;omega
   ·have he:x=2^b.toNat:=by omega
    have h3:(bare ⟨s,x,e⟩).n=1:=by
     unfold bare;simp only;rw[if_neg (by rw[he];exact Nat.pos_iff_ne_zero.1 (Nat.pow_pos (by omega)))];simp only;rw[he,ada,Nat.div_self (Nat.pow_pos (by omega))]
    rw[h3];have:bitLen 1≤1:=bF 1 1 (by omega);omega
  refine key _ ?_ _ _
  split<;>omega
theorem lE {K:Nat}(A:ak)(b:Int)(hb:1≤b)(hK: -(K:Int)≤A.e):V K (aY A b false)≤V K A∧V K A≤V K (aY A b true)∧ -(K:Int)≤(aY A b false).e∧ -(K:Int)≤(aY A b true).e:=by
 have one: ∀up,-(K:Int)≤(aY A b up).e:=fun up=>by
  rcases mX A b up hb with⟨_,h2⟩| ⟨j,q,_,_,_,_,_,_,_,_,_,h2⟩
  ·rw[h2];exact hK
  ·rw[h2];show _≤A.e+(j:Int);omega
 have two: ∀up,(up=false→V K (aY A b up)≤V K A)∧(up=true→V K A≤V K (aY A b up)):=fun up=>by
  rcases mX A b up hb with⟨_,h2⟩| ⟨j,q,_,_,_,_,g1,g2,_,_,_,h2⟩
  ·rw[h2];exact⟨fun _=>Int.le_refl _,fun _=>Int.le_refl _⟩
  ·have e1:(A.e+(j:Int)+(K:Int)).toNat=j+(A.e+(K:Int)).toNat:=by omega
   rw[h2,eV,eV];simp only;rw[e1,Nat.pow_add,←Nat.mul_assoc];generalize 2^ (A.e+(K:Int)).toNat=P;generalize 2^j=J at g1 g2;have l1:q*J*P≤A.n*P:=Nat.mul_le_mul_right _ g1;have l2:A.n*P≤(q+1)*J*P:=Nat.mul_le_mul_right _ (Nat.le_of_lt g2)
   cases hs:A.s
   ·refine⟨fun h=> ?_,fun h=> ?_⟩
    ·subst h
     simp only[sz,bne_self_eq_false,Bool.false_eq_true,if_false,Nat.add_zero];omega
    ·subst h
     simp only[sz,Bool.true_bne,Bool.not_false,Bool.false_eq_true,if_false,if_true];omega
   ·refine⟨fun h=> ?_,fun h=> ?_⟩
    ·subst h
     simp only[sz,Bool.false_bne,if_true];omega
    ·subst h
     simp only[sz,bne_self_eq_false,Bool.false_eq_true,if_false,Nat.add_zero,if_true];omega
 exact⟨(two false).1 rfl,(two true).2 rfl,one false,one true⟩
theorem Iw (A:ak)(b:Int)(up:Bool)(hb:1≤b):
  aY A b up=A∨
  (∃j q:Nat,q*2^j<A.n∧A.n< (q+1)*2^j∧2^b.toNat≤2*q∧aY A b up=⟨A.s,q+(if(up != A.s)=true then 1 else 0),A.e+(j:Int)⟩):=by
 rcases mX A b up hb with⟨_,h2⟩| ⟨j,q,hn,h0,hj,hq,g1,g2,hqb,hq0,htz,h2⟩
 ·exact .inl h2
 ·refine .inr ⟨j,q, ?_,g2, ?_,h2⟩
  ·rcases Nat.lt_or_ge (q*2^j) A.n with h|h
   ·exact h
   ·exfalso
    have he:A.n=q*2^j:=by omega
    obtain⟨m,hm⟩:=fO (n:=q) (by omega);have h3:A.n=2^ (j+tz q)*(2*m+1):=by
     rw[he,Nat.pow_add,Nat.mul_assoc,←hm,Nat.mul_comm]
    have h4:=F8 h3;have h5:(bare A).n=A.n/2^tz A.n:=by
     unfold bare;rw[if_neg h0]
    have h6:tz A.n=j:=by omega
    rw[h6,hq] at h5;have h7:=bF q _ hqb;rw[h5] at hn;omega
  ·obtain⟨_,sp2⟩:=bitLen_spec A.n
   have h3:=sp2 h0;have h4:bitLen A.n-1=(b.toNat-1)+j:=by omega
   rw[h4,Nat.pow_add] at h3;have h5:2^ (b.toNat-1)*2^j< (q+1)*2^j:=by omega
   have h6:=Nat.lt_of_mul_lt_mul_right h5;have h7:2^b.toNat=2*2^ (b.toNat-1):=by
    rw[←Nat.pow_succ']
    congr 1
    omega
   omega
theorem wM {K:Nat}(A y:ak)(b:Int)(hb:1≤b)(hA: -(K:Int)≤A.e)(hn:y.n<2^b.toNat)(h:V K y≤V K A):V K y≤V K (aY A b false):=by
 rcases Iw A b false hb with h2| ⟨j,q,g1,g2,hq,h2⟩
 ·rw[h2];exact h
 ·have e1:(A.e+(j:Int)+(K:Int)).toNat=j+(A.e+(K:Int)).toNat:=by omega
  rw[h2,eV,eV];rw[eV,eV] at h;simp only;have hP:0<2^ (A.e+(K:Int)).toNat:=Nat.pow_pos (by omega);have l1:q*2^ (A.e+(j:Int)+(K:Int)).toNat<A.n*2^ (A.e+(K:Int)).toNat:=by
   rw[e1,Nat.pow_add,←Nat.mul_assoc];exact Nat.mul_lt_mul_of_pos_right g1 hP
  have l2:A.n*2^ (A.e+(K:Int)).toNat< (q+1)*2^ (A.e+(j:Int)+(K:Int)).toNat:=by
   rw[e1,Nat.pow_add,←Nat.mul_assoc];exact Nat.mul_lt_mul_of_pos_right g2 hP
  have nb:q*2^ (A.e+(j:Int)+(K:Int)).toNat<y.n*2^ (y.e+(K:Int)).toNat→y.n*2^ (y.e+(K:Int)).toNat< (q+1)*2^ (A.e+(j:Int)+(K:Int)).toNat→False:=fun a1 a2=>Ak hn hq a1 a2
  generalize 2^ (A.e+(j:Int)+(K:Int)).toNat=U at l1 l2 nb⊢;generalize A.n*2^ (A.e+(K:Int)).toNat=Z at l1 l2 h;generalize y.n*2^ (y.e+(K:Int)).toNat=Y at h nb⊢;rw[Nat.add_mul,Nat.one_mul] at l2 nb
  cases hs:A.s
  ·simp only[bne_self_eq_false,Bool.false_eq_true,if_false,Nat.add_zero]
   rw[hs] at h;generalize q*U=W at l1 l2 nb⊢
   cases hy:y.s
   ·rw[hy] at h
    simp only[sz,Bool.false_eq_true,if_false] at h⊢
    rcases Nat.lt_or_ge W Y with h3|h3
    ·exact(nb h3 (by omega)).elim
    ·omega
   ·simp only[sz,Bool.false_eq_true,if_false,if_true]
    omega
  ·simp only[Bool.false_bne,if_true]
   rw[hs] at h;rw[Nat.add_mul,Nat.one_mul];generalize q*U=W at l1 l2 nb⊢
   cases hy:y.s
   ·rw[hy] at h
    simp only[sz,Bool.false_eq_true,if_false,if_true] at h⊢;omega
   ·rw[hy] at h
    simp only[sz,if_true] at h⊢
    rcases Nat.lt_or_ge Y (W+U) with h3|h3
    ·exact(nb (by omega) h3).elim
    ·omega
theorem mi (A:ak)(b:Int)(up:Bool)(hb:1≤b):(bare (aY A b up)).n<2^b.toNat:=by
 have h1:=Bx A b up hb;have h2:=(bitLen_spec (bare (aY A b up)).n).1;exact Nat.lt_of_lt_of_le h2 (Nat.pow_le_pow_right (by omega) (by omega))
theorem inv_ord {n k tn:Nat}(hn:2≤n)(ht:tn≤1): ∀f i t s r R,InvN n k tn R f i t s r→R.2.2≤R.2.1∧R.1≤k+1:=by
 intro f
 induction f with
 |zero=>
  intro i t s r R h;obtain rfl:t=0:=by simpa using h.2.1
  obtain⟨e,h1,h2,-⟩:=inv_end h;subst e;exact⟨h1,h2⟩
 |succ f ih=>
  intro i t s r R h
  by_cases h0:t=0
  ·subst h0
   obtain⟨e,h1,h2,-⟩:=inv_end h;subst e;exact⟨h1,h2⟩
  ·rcases Nat.mod_two_eq_zero_or_one i with c|c
   ·obtain⟨f',e,h1⟩:=inv_up hn h h0 (by rw[c,Nat.mul_zero]) ht
    obtain rfl:f=f':=by omega
    exact ih _ _ _ _ _ h1
   ·by_cases c2:tn=0
    ·obtain⟨f',e,h1⟩:=inv_up hn h h0 (by rw[c2,Nat.zero_mul]) ht
     obtain rfl:f=f':=by omega
     exact ih _ _ _ _ _ h1
    ·obtain⟨f',e,h1⟩:=inv_down hn h h0 (by rw[c];omega)
     obtain rfl:f=f':=by omega
     exact ih _ _ _ _ _ h1
def XA (n tn k:Nat):Nat:=(lp (n*n) tn (k+1) 0 (2^k/n) 0 0).2.1-(lp (n*n) tn (k+1) 0 (2^k/n) 0 0).2.2
def NA (n tn k:Nat):Nat:=(lp (n*n) tn (k+1) 0 (2^k/n) 0 0).1
theorem Z1 (top d1 d0 p0:Nat)(h1:0<d1)(hp:p0<4294967296):GsI top d1 d0 p0 (top/d1) (top % d1):=by
 refine⟨by have:=Nat.div_add_mod top d1;rw[Nat.mul_comm] at this;exact this,fun q hq _=> ?_⟩
 have h2:q*d1≤top:=by
  rcases Nat.lt_or_ge top (q*d1) with h|h
  ·exfalso
   have h3:(top+1)*4294967296≤q*d1*4294967296:=Nat.mul_le_mul_right _ h;have h4:q*d1*4294967296≤q*(d1*4294967296+d0):=by rw[Nat.mul_assoc];exact Nat.mul_le_mul_left q (Nat.le_add_right _ _)
   omega
  ·exact h
 exact(Nat.le_div_iff_mul_le h1).2 h2
theorem Mk {top d1 d0 p0 p1 p2 g r:Nat}(h:GsI top d1 d0 p0 g r)(hr:4294967296≤r)(_hd:0<d1)(ht:p2*4294967296+p1=top)(hle:p2≤d1)(hp:p1<4294967296)(h0:d0<4294967296):
  g<4294967296∧g*(d1*4294967296+d0)≤top*4294967296+p0:=by
 have hg:g<4294967296:=by
  rcases Nat.lt_or_ge g 4294967296 with e|e
  ·exact e
  ·exfalso
   have h1:=h.1;have h2:4294967296*d1≤g*d1:=Nat.mul_le_mul_right _ e;omega
 refine⟨hg,Z2 h ?_⟩;have:g*d0≤4294967296*4294967296:=Nat.mul_le_mul (by omega) (by omega);omega
theorem Xx {a b:Int}(h:b≤a):decide (dm a b<0)=false:=by
 unfold dm;rw[if_neg (by omega)]
 by_cases h2:b<a
 ·rw[if_pos h2];rfl
 ·rw[if_neg h2];rfl
def FitsT (t:ak):Prop:=(∃k,k≤70000∧t.n<2^k)∧ -90000≤t.e∧t.e≤90000
def upT (t:ak)(n:Int):ak:=⟨t.s,t.n,t.e+n⟩
theorem V_at_e (k:Nat)(s:Bool)(n:Nat):V k ⟨s,n,0-(k:Int)⟩=V 0 ⟨s,n,0⟩:=by
 rw[eV,eV]
 show sz s (n*2^ (0-(k:Int)+(k:Int)).toNat)=sz s (n*2^ ((0:Int)+((0:Nat):Int)).toNat)
 rw[show(0-(k:Int)+(k:Int)).toNat=0 by omega,show((0:Int)+((0:Nat):Int)).toNat=0 by omega]
theorem V_zero (n:Nat):V 0 ⟨false,n,0⟩=(n:Int):=by
 rw[eV]
 show sz false (n*2^ ((0:Int)+((0:Nat):Int)).toNat)=(n:Int)
 rw[show((0:Int)+((0:Nat):Int)).toNat=0 by omega,Nat.pow_zero,Nat.mul_one]
 rfl
theorem inv_e (R:Nat×Nat×Nat)(k:Nat):(invLo R k).e=0-(k:Int)∧(invHi R k).e=0-(k:Int):=by
 have h1:=plus_e0 ⟨false,R.2.1-R.2.2,0⟩ (dV ⟨false,3+3*R.1,0⟩) rfl rfl;have h2:=plus_e0 ⟨false,R.2.1-R.2.2,0⟩ ⟨false,3+3*R.1,0⟩ rfl rfl
 constructor
 ·show(aG ⟨false,R.2.1-R.2.2,0⟩ (dV ⟨false,3+3*R.1,0⟩)).e-(k:Int)=_
  rw[h1]
 ·show(aG ⟨false,R.2.1-R.2.2,0⟩ ⟨false,3+3*R.1,0⟩).e-(k:Int)=_
  rw[h2]
theorem V_inv (R:Nat×Nat×Nat)(k:Nat):V k (invLo R k)=((R.2.1-R.2.2:Nat):Int)-((3+3*R.1:Nat):Int)∧V k (invHi R k)=((R.2.1-R.2.2:Nat):Int)+((3+3*R.1:Nat):Int):=by
 have h1:=plus_e0 ⟨false,R.2.1-R.2.2,0⟩ (dV ⟨false,3+3*R.1,0⟩) rfl rfl;have h2:=plus_e0 ⟨false,R.2.1-R.2.2,0⟩ ⟨false,3+3*R.1,0⟩ rfl rfl;have v1:=dH (K:=0) (a:=⟨false,R.2.1-R.2.2,0⟩) (b:=dV ⟨false,3+3*R.1,0⟩) (by simp) (by simp[dV]);have v2:=dH (K:=0) (a:=⟨false,R.2.1-R.2.2,0⟩) (b:=⟨false,3+3*R.1,0⟩) (by simp) (by simp);rw[pC,V_zero,V_zero] at v1;rw[V_zero,V_zero] at v2
 constructor
 ·unfold invLo
  generalize aG ⟨false,R.2.1-R.2.2,0⟩ (dV ⟨false,3+3*R.1,0⟩)=y at*;obtain⟨ys,yn,ye⟩:=y;simp only at h1⊢;subst h1;rw[V_at_e,v1];omega
 ·unfold invHi
  generalize aG ⟨false,R.2.1-R.2.2,0⟩ ⟨false,3+3*R.1,0⟩=y at*;obtain⟨ys,yn,ye⟩:=y;simp only at h2⊢;subst h2;rw[V_at_e,v2]
theorem V_up {k:Nat}{t:ak}(n:Nat)(h: -(k:Int)≤t.e):V k (upT t n)=V k t*((2^n:Nat):Int):=by
 unfold V upT;simp only;rw[show(t.e+(n:Int)+(k:Int)).toNat=(t.e+(k:Int)).toNat+n by omega,Nat.pow_add,Int.natCast_mul,Int.mul_assoc]
theorem inv_fits (n k tn:Nat)(hn:2≤n)(ht:tn≤1)(hk:k≤60000):FitsT (invLo (lp (n*n) tn (k+1) 0 (2^k/n) 0 0) k)∧FitsT (invHi (lp (n*n) tn (k+1) 0 (2^k/n) 0 0) k)∧XA n tn k+(3+3*NA n tn k)<2^ (k+17):=by
 have h1:=(inv_ord hn ht _ _ _ _ _ _ (inv_zero (k:=k) (tn:=tn) hn)).2;have h2:=lp_tail (n*n) tn (Nat.mul_le_mul hn hn) (k+1) 0 (2^k/n) 0 0;have h3:=Nat.div_le_self (2^k) n;have hp:0<2^k:=Nat.pow_pos (by omega);have hx:XA n tn k≤2*2^k:=by
  unfold XA;generalize lp (n*n) tn (k+1) 0 (2^k/n) 0 0=R at*;omega
 have hN:NA n tn k≤k+1:=h1;have hs:XA n tn k+(3+3*NA n tn k)<2^ (k+17):=by
  rw[Nat.pow_add];have:(2:Nat)^17=131072:=by decide
  have h5:k<2^k:=Nat.lt_two_pow_self;rw[this];omega
 obtain⟨e1,e2⟩:=inv_e (lp (n*n) tn (k+1) 0 (2^k/n) 0 0) k;obtain⟨v1,v2⟩:=V_inv (lp (n*n) tn (k+1) 0 (2^k/n) 0 0) k;have key: ∀t:ak,t.e=0-(k:Int)→(V k t< ((2^ (k+17):Nat):Int)∧ -((2^ (k+17):Nat):Int)<V k t)→FitsT t:=fun t he hv=>by
  refine⟨⟨k+17,by omega, ?_⟩,by omega,by omega⟩;have hV:V k t=sz t.s t.n:=by
   rw[eV,he,show(0-(k:Int)+(k:Int)).toNat=0 by omega,Nat.pow_zero,Nat.mul_one]
  rw[hV] at hv;unfold sz at hv
  split at hv
  ·have:=hv.2
   exact Int.ofNat_lt.1 (by omega)
  ·exact Int.ofNat_lt.1 hv.1
 have hxI:((XA n tn k:Nat):Int)+((3+3*NA n tn k:Nat):Int)< ((2^ (k+17):Nat):Int):=by rw[←Int.natCast_add];exact Int.ofNat_lt.2 hs
 refine⟨key _ e1 ?_,key _ e2 ?_,hs⟩
 ·rw[v1]
  have a1:=Int.natCast_nonneg (XA n tn k);have a2:=Int.natCast_nonneg (3+3*NA n tn k);unfold XA at hxI a1;unfold NA at hxI a2;generalize((2^ (k+17):Nat):Int)=P at*
  constructor<;>omega
 ·rw[v2]
  have a1:=Int.natCast_nonneg (XA n tn k);have a2:=Int.natCast_nonneg (3+3*NA n tn k);unfold XA at hxI a1;unfold NA at hxI a2;generalize((2^ (k+17):Nat):Int)=P at*
  constructor<;>omega
theorem fits_up {t:ak}{n:Nat}(h:FitsT t)(hn:n≤10)(he:t.e≤80000):FitsT (upT t n):=by
 obtain⟨h1,h2,h3⟩:=h;exact⟨h1,by show-90000≤t.e+(n:Int);omega,by show t.e+(n:Int)≤90000;omega⟩
theorem fits_of_V {t:ak}{k j:Nat}(he: -(k:Int)≤t.e)(he2:t.e≤90000)(hk:k≤60000)(hj:j≤70000)(h1:V k t< ((2^j:Nat):Int))(h2: -((2^j:Nat):Int)<V k t):FitsT t:=by
 refine⟨⟨j,hj, ?_⟩,by omega,he2⟩;rw[eV] at h1 h2;have hp:0<2^ (t.e+(k:Int)).toNat:=Nat.pow_pos (by omega);have hn:t.n≤t.n*2^ (t.e+(k:Int)).toNat:=Nat.le_mul_of_pos_right _ hp;generalize t.n*2^ (t.e+(k:Int)).toNat=m at*;refine Nat.lt_of_le_of_lt hn (Int.ofNat_lt.1 ?_);generalize((2^j:Nat):Int)=P at*;unfold sz at h1 h2
 split at h1<;>simp_all<;>omega
theorem plus_e_min (a b:ak):(aG a b).e=min a.e b.e:=by
 unfold aG;simp only
 split
 ·rfl
 ·split<;>rfl
def fourT (a b p q:ak):Nat→ak
 |0=>aK a p
 |1=>aK a q
 |2=>aK b p
 |_=>aK b q
theorem V_by18 (k:Nat)(a:ak):V k (aK a ⟨false,18,0⟩)=18*V k a:=by
 rw[eV,eV]
 show sz (a.s != false) (a.n*18*2^ (a.e+0+(k:Int)).toNat)=_
 rw[show a.e+0+(k:Int)=a.e+(k:Int) by omega,Nat.mul_right_comm]
 generalize a.n*2^ (a.e+(k:Int)).toNat=m;unfold sz
 cases a.s<;>simp<;>omega
theorem four18 {k:Nat}{a b:ak}(ea: -(k:Int)≤a.e)(eb: -(k:Int)≤b.e)(h:V k a≤V k b):
  V k (loT (fourT a b ⟨false,18,0⟩ ⟨false,18,0⟩) 3)=18*V k a∧V k (hiT (fourT a b ⟨false,18,0⟩ ⟨false,18,0⟩) 3)=18*V k b:=by
 have he: ∀j,j≤3→ -(k:Int)≤(fourT a b ⟨false,18,0⟩ ⟨false,18,0⟩ j).e:=by
  intro j hj
  match j,hj with
  |0,_=>show _≤a.e+0;omega
  |1,_=>show _≤a.e+0;omega
  |2,_=>show _≤b.e+0;omega
  |3,_=>show _≤b.e+0;omega
 have hv: ∀j,j≤3→V k (fourT a b ⟨false,18,0⟩ ⟨false,18,0⟩ j)=18*V k a∨V k (fourT a b ⟨false,18,0⟩ ⟨false,18,0⟩ j)=18*V k b:=by
  intro j hj
  match j,hj with
  |0,_=>exact .inl (V_by18 k a)
  |1,_=>exact .inl (V_by18 k a)
  |2,_=>exact .inr (V_by18 k b)
  |3,_=>exact .inr (V_by18 k b)
 have l1:=Al (K:=k) _ 3 he 0 (by omega);have l2:=Ao (K:=k) _ 3 he 2 (by omega);rw[show fourT a b ⟨false,18,0⟩ ⟨false,18,0⟩ 0=aK a ⟨false,18,0⟩ from rfl,V_by18] at l1
 rw[show fourT a b ⟨false,18,0⟩ ⟨false,18,0⟩ 2=aK b ⟨false,18,0⟩ from rfl,V_by18] at l2
 obtain⟨j1,g1,g2⟩:=Po (fourT a b ⟨false,18,0⟩ ⟨false,18,0⟩) 3;obtain⟨j2,g3,g4⟩:=Pp (fourT a b ⟨false,18,0⟩ ⟨false,18,0⟩) 3;have m1:=hv j1 g1;have m2:=hv j2 g3;rw[←g2] at m1;rw[←g4] at m2;omega
theorem four_e {a b:ak}{E:Int}(ea:a.e=E)(eb:b.e=E):(loT (fourT a b ⟨false,18,0⟩ ⟨false,18,0⟩) 3).e=E∧(hiT (fourT a b ⟨false,18,0⟩ ⟨false,18,0⟩) 3).e=E:=by
 have he: ∀j,j≤3→(fourT a b ⟨false,18,0⟩ ⟨false,18,0⟩ j).e=E:=by
  intro j hj
  match j,hj with
  |0,_=>show a.e+0=E;omega
  |1,_=>show a.e+0=E;omega
  |2,_=>show b.e+0=E;omega
  |3,_=>show b.e+0=E;omega
 exact⟨kP _ 3 (fun t=>t.e=E) he,kQ _ 3 (fun t=>t.e=E) he⟩
end Go.Proofs.YtiakgfmlpdfhdaaGreatDoor

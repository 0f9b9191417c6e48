/-
  Texts laid together: Sp9.
-/
import Derived.Test.YtiakgfmlpdfhdaaDoorSw09
set_option maxHeartbeats 3200000
namespace Go.Proofs.YtiakgfmlpdfhdaaDoor
open Go.RowKit
def lnA (n k:Nat):ak:=invLo (lp (n*n) 0 (k+1) 0 (2^k/n) 0 0) k
def lnB (n k:Nat):ak:=invHi (lp (n*n) 0 (k+1) 0 (2^k/n) 0 0) k
def lnM (k:Nat):ak:=loT (fourT (lnA 26 k) (lnB 26 k) ⟨false,18,0⟩ ⟨false,18,0⟩) 3
def lnN (k:Nat):ak:=hiT (fourT (lnA 26 k) (lnB 26 k) ⟨false,18,0⟩ ⟨false,18,0⟩) 3
def lnU (k:Nat):ak:=aG (lnM k) (dV (upT (lnB 4801 k) 1))
def lnV (k:Nat):ak:=aG (lnN k) (dV (upT (lnA 4801 k) 1))
def lnLo (k:Nat):ak:=aG (lnU k) (upT (lnA 8749 k) 3)
def lnHi (k:Nat):ak:=aG (lnV k) (upT (lnB 8749 k) 3)
theorem lnA_V (n k:Nat):V k (lnA n k)=(XA n 0 k:Int)-((3+3*NA n 0 k:Nat):Int)∧V k (lnB n k)=(XA n 0 k:Int)+((3+3*NA n 0 k:Nat):Int)∧(lnA n k).e=0-(k:Int)∧(lnB n k).e=0-(k:Int):=by
 obtain⟨e1,e2⟩:=inv_e (lp (n*n) 0 (k+1) 0 (2^k/n) 0 0) k;obtain⟨v1,v2⟩:=V_inv (lp (n*n) 0 (k+1) 0 (2^k/n) 0 0) k;exact⟨v1,v2,e1,e2⟩
theorem ln_V (k:Nat):(V k (lnU k)=18*((XA 26 0 k:Int)-((3+3*NA 26 0 k:Nat):Int))-2*((XA 4801 0 k:Int)+((3+3*NA 4801 0 k:Nat):Int))∧V k (lnV k)=18*((XA 26 0 k:Int)+((3+3*NA 26 0 k:Nat):Int))-2*((XA 4801 0 k:Int)-((3+3*NA 4801 0 k:Nat):Int)))∧
  (V k (lnLo k)=18*((XA 26 0 k:Int)-((3+3*NA 26 0 k:Nat):Int))-2*((XA 4801 0 k:Int)+((3+3*NA 4801 0 k:Nat):Int))+8*((XA 8749 0 k:Int)-((3+3*NA 8749 0 k:Nat):Int))∧V k (lnHi k)=18*((XA 26 0 k:Int)+((3+3*NA 26 0 k:Nat):Int))-2*((XA 4801 0 k:Int)-((3+3*NA 4801 0 k:Nat):Int))+8*((XA 8749 0 k:Int)+((3+3*NA 8749 0 k:Nat):Int)))∧
  ((lnM k).e=0-(k:Int)∧(lnN k).e=0-(k:Int)∧(lnU k).e=0-(k:Int)∧(lnV k).e=0-(k:Int)∧(lnLo k).e=0-(k:Int)∧(lnHi k).e=0-(k:Int))∧V k (lnM k)=18*((XA 26 0 k:Int)-((3+3*NA 26 0 k:Nat):Int))∧V k (lnN k)=18*((XA 26 0 k:Int)+((3+3*NA 26 0 k:Nat):Int)):=by
 obtain⟨v1,v2,e1,e2⟩:=lnA_V 26 k;obtain⟨v3,v4,e3,e4⟩:=lnA_V 4801 k;obtain⟨v5,v6,e5,e6⟩:=lnA_V 8749 k;obtain⟨m1,m2⟩:=four18 (k:=k) (a:=lnA 26 k) (b:=lnB 26 k) (by omega) (by omega) (by omega);obtain⟨m3,m4⟩:=four_e e1 e2;have u3:=V_up (k:=k) (t:=lnA 4801 k) 1 (by omega);have u4:=V_up (k:=k) (t:=lnB 4801 k) 1 (by omega);have u5:=V_up (k:=k) (t:=lnA 8749 k) 3 (by omega);have u6:=V_up (k:=k) (t:=lnB 8749 k) 3 (by omega);rw[v3] at u3;rw[v4] at u4;rw[v5] at u5;rw[v6] at u6;rw[v1] at m1;rw[v2] at m2;have m1':V k (lnM k)=_:=m1;have m2':V k (lnN k)=_:=m2;have m3':(lnM k).e=0-(k:Int):=m3;have m4':(lnN k).e=0-(k:Int):=m4;have i3:(dV (upT (lnA 4801 k) 1)).e=0-(k:Int)+1:=by show _+_=_;rw[e3]
 have i4:(dV (upT (lnB 4801 k) 1)).e=0-(k:Int)+1:=by show _+_=_;rw[e4]
 have i5:(upT (lnA 8749 k) 3).e=0-(k:Int)+3:=by show _+_=_;rw[e5]
 have i6:(upT (lnB 8749 k) 3).e=0-(k:Int)+3:=by show _+_=_;rw[e6]
 have mn: ∀x y E:Int,x=E→E≤y→min x y=E:=fun x y E h1 h2=>by omega
 have eU:(lnU k).e=0-(k:Int):=by unfold lnU;rw[plus_e_min,m3',i4];exact mn _ _ _ rfl (by omega)
 have eV:(lnV k).e=0-(k:Int):=by unfold lnV;rw[plus_e_min,m4',i3];exact mn _ _ _ rfl (by omega)
 have eL:(lnLo k).e=0-(k:Int):=by unfold lnLo;rw[plus_e_min,eU,i5];exact mn _ _ _ rfl (by omega)
 have eH:(lnHi k).e=0-(k:Int):=by unfold lnHi;rw[plus_e_min,eV,i6];exact mn _ _ _ rfl (by omega)
 have w3:V k (upT (lnA 4801 k) 1)=((XA 4801 0 k:Int)-((3+3*NA 4801 0 k:Nat):Int))*2:=u3;have w4:V k (upT (lnB 4801 k) 1)=((XA 4801 0 k:Int)+((3+3*NA 4801 0 k:Nat):Int))*2:=u4;have w5:V k (upT (lnA 8749 k) 3)=((XA 8749 0 k:Int)-((3+3*NA 8749 0 k:Nat):Int))*8:=u5;have w6:V k (upT (lnB 8749 k) 3)=((XA 8749 0 k:Int)+((3+3*NA 8749 0 k:Nat):Int))*8:=u6;have vU:V k (lnU k)=18*((XA 26 0 k:Int)-((3+3*NA 26 0 k:Nat):Int))-2*((XA 4801 0 k:Int)+((3+3*NA 4801 0 k:Nat):Int)):=by
  unfold lnU;rw[dH (by omega) (by omega),pC,m1',w4];omega
 have vV:V k (lnV k)=18*((XA 26 0 k:Int)+((3+3*NA 26 0 k:Nat):Int))-2*((XA 4801 0 k:Int)-((3+3*NA 4801 0 k:Nat):Int)):=by
  unfold lnV;rw[dH (by omega) (by omega),pC,m2',w3];omega
 refine⟨⟨vU,vV⟩,⟨?_, ?_⟩,⟨m3',m4',eU,eV,eL,eH⟩,m1',m2'⟩
 ·unfold lnLo
  rw[dH (by omega) (by omega),vU,w5];omega
 ·unfold lnHi
  rw[dH (by omega) (by omega),vV,w6];omega
theorem ln_fits (k:Nat)(hk:k≤60000):FitsT (lnM k)∧FitsT (lnN k)∧FitsT (lnU k)∧FitsT (lnV k)∧FitsT (lnLo k)∧FitsT (lnHi k):=by
 obtain⟨⟨v1,v2⟩,⟨v3,v4⟩,⟨e1,e2,e3,e4,e5,e6⟩,v5,v6⟩:=ln_V k;obtain⟨-,-,s1⟩:=inv_fits 26 k 0 (by omega) (by omega) hk;obtain⟨-,-,s2⟩:=inv_fits 4801 k 0 (by omega) (by omega) hk;obtain⟨-,-,s3⟩:=inv_fits 8749 k 0 (by omega) (by omega) hk;have hp:(2:Nat)^ (k+23)=2^ (k+17)*64:=by rw[show k+23=k+17+6 by omega,Nat.pow_add]
 have hI:((2^ (k+23):Nat):Int)=((2^ (k+17):Nat):Int)*64:=by rw[hp,Int.natCast_mul];rfl
 have a1:(XA 26 0 k:Int)+((3+3*NA 26 0 k:Nat):Int)< ((2^ (k+17):Nat):Int):=by rw[←Int.natCast_add];exact Int.ofNat_lt.2 s1
 have a2:(XA 4801 0 k:Int)+((3+3*NA 4801 0 k:Nat):Int)< ((2^ (k+17):Nat):Int):=by rw[←Int.natCast_add];exact Int.ofNat_lt.2 s2
 have a3:(XA 8749 0 k:Int)+((3+3*NA 8749 0 k:Nat):Int)< ((2^ (k+17):Nat):Int):=by rw[←Int.natCast_add];exact Int.ofNat_lt.2 s3
 generalize((2^ (k+17):Nat):Int)=P at*;have F: ∀t:ak,t.e=0-(k:Int)→V k t<P*64→ -(P*64)<V k t→FitsT t:=fun t he h1 h2=>fits_of_V (j:=k+23) (by omega) (by omega) hk (by omega) (by rw[hI];exact h1) (by rw[hI];exact h2)
 exact⟨F _ e1 (by omega) (by omega),F _ e2 (by omega) (by omega),F _ e3 (by omega) (by omega),F _ e4 (by omega) (by omega),F _ e5 (by omega) (by omega),F _ e6 (by omega) (by omega)⟩
theorem sln_any (k:Nat)(w:World)(hk:k≤60000):yC 35 #[yi k] w (aeT w (lnLo k) (lnHi k)):=by
 obtain⟨f1,f2,g1⟩:=inv_fits 26 k 0 (by omega) (by omega) hk;obtain⟨f3,f4,-⟩:=inv_fits 4801 k 0 (by omega) (by omega) hk;obtain⟨f5,f6,-⟩:=inv_fits 8749 k 0 (by omega) (by omega) hk;obtain⟨v1,v2,e1,e2⟩:=lnA_V 26 k;obtain⟨-,-,e3,e4⟩:=lnA_V 4801 k;obtain⟨-,-,e5,e6⟩:=lnA_V 8749 k;obtain⟨h1,h2,h3,h4,h5,h6⟩:=ln_fits k hk;have s1:=fun w1=>satanh_any 26 k w1 ⟨by omega,by omega⟩ hk
 have s2:=fun w1=>satanh_any 4801 k w1 ⟨by omega,by omega⟩ hk
 have s3:=fun w1=>satanh_any 8749 k w1 ⟨by omega,by omega⟩ hk
 have hx: ∀j,FitsT (fourT (lnA 26 k) (lnB 26 k) ⟨false,18,0⟩ ⟨false,18,0⟩ j):=by
  have na: ∀t:ak,t.e=0-(k:Int)→V k t< ((2^ (k+17):Nat):Int)→ -((2^ (k+17):Nat):Int)<V k t→FitsT (aK t ⟨false,18,0⟩):=fun t he a1 a2=>by
   have hv:=V_by18 k t;have hI:((2^ (k+23):Nat):Int)=((2^ (k+17):Nat):Int)*64:=by rw[show k+23=k+17+6 by omega,Nat.pow_add,Int.natCast_mul];rfl
   have ht:(aK t ⟨false,18,0⟩).e=0-(k:Int):=by show t.e+0=_;omega
   refine fits_of_V (k:=k) (j:=k+23) (by omega) (by omega) hk (by omega) ?_ ?_
   ·rw[hv,hI];generalize((2^ (k+17):Nat):Int)=P at*;omega
   ·rw[hv,hI];generalize((2^ (k+17):Nat):Int)=P at*;omega
  have g1':(XA 26 0 k:Int)+((3+3*NA 26 0 k:Nat):Int)< ((2^ (k+17):Nat):Int):=by rw[←Int.natCast_add];exact Int.ofNat_lt.2 g1
  have ta:=na (lnA 26 k) e1 (by omega) (by omega);have tb:=na (lnB 26 k) e2 (by omega) (by omega);intro j
  match j with
  |0=>exact ta
  |1=>exact ta
  |2=>exact tb
  |_+3=>exact tb
 have f18:FitsT ⟨false,18,0⟩:=⟨⟨5,by omega,by decide⟩,by simp,by simp⟩;refine sumsLn2_W (lnA 26 k) (lnB 26 k) ⟨false,18,0⟩ (lnM k) (lnN k) (lnA 4801 k) (lnB 4801 k) (lnA 8749 k) (lnB 8749 k) (lnU k) (lnV k) _ _ _ _ _ _ _ w (fun w1 _=>s1 w1) (fun w1 _=>spanWhole_W 18 ⟨false,18,0⟩ w1 (fun w2=>whole_any 18 w2 (by omega)) (fun xo xc w2=>Qy _ _ _ _ _ w2))
  (fun ao ac bo bc co cc eo ec w1 _ ra rb rc re=>stimes_any _ _ (lnA 26 k) (lnB 26 k) ⟨false,18,0⟩ ⟨false,18,0⟩ w1 ⟨_,_,rfl,ra,rb⟩ ⟨_,_,rfl,rc,re⟩ f1 f2 f18 f18 hx)
  (fun w1 _=>s2 w1) (fun ao ac bo bc w1=>scaled_ret (lnA 4801 k) (lnB 4801 k) ao bo ac bc 1 w1 ⟨by omega,by omega⟩ ⟨by omega,by omega⟩ ⟨by omega,by omega⟩)
  (fun w1 _=>s3 w1) (fun ao ac bo bc w1=>scaled_ret (lnA 8749 k) (lnB 8749 k) ao bo ac bc 3 w1 ⟨by omega,by omega⟩ ⟨by omega,by omega⟩ ⟨by omega,by omega⟩)
  (fun mo mc no nc po pc qo qc w1 _ rm rn rp rq=>sminus_any _ _ (lnM k) (lnN k) (upT (lnA 4801 k) 1) (upT (lnB 4801 k) 1) w1 ⟨_,_,rfl,rm,rn⟩ ⟨_,_,rfl,rp,rq⟩ h1 h2 (fits_up (n:=1) f3 (by omega) (by show(lnA 4801 k).e≤_;omega)) (fits_up (n:=1) f4 (by omega) (by show(lnB 4801 k).e≤_;omega)))
  (fun uo uc vo vc ro rc so sc w1 _ ru rv rr rs=>splus_any _ _ (lnU k) (lnV k) (upT (lnA 8749 k) 3) (upT (lnB 8749 k) 3) w1 ⟨_,_,rfl,ru,rv⟩ ⟨_,_,rfl,rr,rs⟩ h3 h4 (fits_up (n:=3) f5 (by omega) (by show(lnA 8749 k).e≤_;omega)) (fits_up (n:=3) f6 (by omega) (by show(lnB 8749 k).e≤_;omega)))
end Go.Proofs.YtiakgfmlpdfhdaaDoor

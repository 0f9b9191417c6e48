/-
  Texts laid together: Sx1.
-/
import Derived.Test.YtiakgfmlpdfhdaaDoorChecked
import Derived.Test.YtiakgfmlpdfhdaaDoorSw11
import Derived.Test.YtiakgfmlpdfhdaaDoorDyCs
namespace Go.Proofs.YtiakgfmlpdfhdaaDoor
open Go.RowKit
def allN (tn:Nat):Nat→Nat→Bool
 |0,_=>true
 |k+1,n=>chkN (XA n tn 1120)&&allN tn k (n+1)
theorem allN_at (tn:Nat): ∀k n j,allN tn k n=true→j<k→chkN (XA (n+j) tn 1120)=true:=by
 intro k
 induction k with
 |zero=>intro n j _ h;omega
 |succ k ih=>
  intro n j h hj;unfold allN at h;rw[Bool.and_eq_true] at h
  cases j with
  |zero=>exact h.1
  |succ j=>
   have:=ih (n+1) j h.2 (by omega)
   rwa [show n+1+j=n+(j+1) by omega] at this
theorem all0a:allN 0 250 2=true:=by kernel_rfl
theorem all0b:allN 0 250 252=true:=by kernel_rfl
theorem all0c:allN 0 250 502=true:=by kernel_rfl
theorem all0d:allN 0 249 752=true:=by kernel_rfl
theorem chk_tanh {n:Nat}(h:2≤n∧n≤1000):chkN (XA n 0 1120)=true:=by
 by_cases c1:n<252
 ·have:=allN_at 0 250 2 (n-2) all0a (by omega)
  rwa [show 2+(n-2)=n by omega] at this
 ·by_cases c2:n<502
  ·have:=allN_at 0 250 252 (n-252) all0b (by omega)
   rwa [show 252+(n-252)=n by omega] at this
  ·by_cases c3:n<752
   ·have:=allN_at 0 250 502 (n-502) all0c (by omega)
    rwa [show 502+(n-502)=n by omega] at this
   ·have:=allN_at 0 249 752 (n-752) all0d (by omega)
    rwa [show 752+(n-752)=n by omega] at this
end Go.Proofs.YtiakgfmlpdfhdaaDoor

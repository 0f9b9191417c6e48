/-
  Texts laid together: Sx2.
-/
import Derived.Test.YtiakgfmlpdfhdaaDoorSy02
namespace Go.Proofs.YtiakgfmlpdfhdaaDoor
open Go.RowKit
theorem all1a:allN 1 250 2=true:=by kernel_rfl
theorem all1b:allN 1 250 252=true:=by kernel_rfl
theorem all1c:allN 1 250 502=true:=by kernel_rfl
theorem all1d:allN 1 249 752=true:=by kernel_rfl
theorem chk_tan {n:Nat}(h:2≤n∧n≤1000):chkN (XA n 1 1120)=true:=by
 by_cases c1:n<252
 ·have:=allN_at 1 250 2 (n-2) all1a (by omega)
  rwa [show 2+(n-2)=n by omega] at this
 ·by_cases c2:n<502
  ·have:=allN_at 1 250 252 (n-252) all1b (by omega)
   rwa [show 252+(n-252)=n by omega] at this
  ·by_cases c3:n<752
   ·have:=allN_at 1 250 502 (n-502) all1c (by omega)
    rwa [show 502+(n-502)=n by omega] at this
   ·have:=allN_at 1 249 752 (n-752) all1d (by omega)
    rwa [show 752+(n-752)=n by omega] at this
end Go.Proofs.YtiakgfmlpdfhdaaDoor

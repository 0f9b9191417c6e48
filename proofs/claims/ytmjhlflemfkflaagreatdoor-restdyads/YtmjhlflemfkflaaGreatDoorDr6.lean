/-
  The reference's DPlus, whole.
-/
import Derived.Test.YtmjhlflemfkflaaGreatDoorDr3
import Derived.Test.YtmjhlflemfkflaaGreatDoorDr5a
import Derived.Test.YtmjhlflemfkflaaGreatDoorDr5b
import Derived.Test.YtmjhlflemfkflaaGreatDoorDr5c
import Derived.Test.YtmjhlflemfkflaaGreatDoorDr5d
namespace Go.Proofs.YtmjhlflemfkflaaGreatDoor
open Go.RowKit

theorem refdplus_far (v u : Value) (a b : Trip) (w : World) (hv : Rv w v a) (hu : Rv w u b) (hLa : (Dg.dg 65536 a.n).length ≤ 30000) (hLb : (Dg.dg 65536 b.n).length ≤ 30000)
    (ha1 : -200000 ≤ a.e) (ha2 : a.e ≤ 200000) (hb1 : -200000 ≤ b.e) (hb2 : b.e ≤ 200000) :
    Calls Tryz.prog 47 #[v, u] w (RDResF w (bare (dplusT a b))) := by
  by_cases h : a.s = b.s
  · exact refdplus_same v u a b w hv hu hLa hLb ha1 ha2 hb1 hb2 h
  · by_cases ha0 : a.n = 0
    · by_cases hb0 : b.n = 0
      · exact refdplus_diffa v u a b w hv hu hLa hLb ha1 ha2 hb1 hb2 h ha0 hb0
      · exact refdplus_diffb v u a b w hv hu hLa hLb ha1 ha2 hb1 hb2 h ha0 hb0
    · by_cases hb0 : b.n = 0
      · exact refdplus_diffc v u a b w hv hu hLa hLb ha1 ha2 hb1 hb2 h ha0 hb0
      · exact refdplus_diffd v u a b w hv hu hLa hLb ha1 ha2 hb1 hb2 h ha0 hb0

theorem refdplus_any (v u : Value) (a b : Trip) (w : World) (hv : Rv w v a) (hu : Rv w u b) (hLa : (Dg.dg 65536 a.n).length ≤ 30000) (hLb : (Dg.dg 65536 b.n).length ≤ 30000)
    (ha1 : -200000 ≤ a.e) (ha2 : a.e ≤ 200000) (hb1 : -200000 ≤ b.e) (hb2 : b.e ≤ 200000) :
    Calls Tryz.prog 47 #[v, u] w (RDRes w (bare (dplusT a b))) :=
  (refdplus_far v u a b w hv hu hLa hLb ha1 ha2 hb1 hb2).mono fun _ _ h => h.near
end Go.Proofs.YtmjhlflemfkflaaGreatDoor

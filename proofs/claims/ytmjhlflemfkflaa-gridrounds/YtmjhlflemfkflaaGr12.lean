/-
  Grids: the reference's CheckRatio, by lists.
-/
import Derived.Test.YtmjhlflemfkflaaGr11
namespace Go.Proofs.Ytmjhlflemfkflaa
open Go.RowKit

theorem farB_iff (E : Int) : farB 20000 E = true ↔ E < -20000 ∨ 20000 < E := by
  unfold farB
  simp

theorem ratioC_two (xs ys : List Nat) (E : Int) : ratioC xs ys E = if chk2 xs ys = 0 then (if ys.length = 0 ∨ farB 20000 E = true then 3 else 0) else chk2 xs ys := by
  unfold ratioC chk2
  by_cases h1 : chk xs = 0
  · rw [if_pos h1, if_pos h1]
  · rw [if_neg h1, if_neg h1, if_neg h1]

theorem refCheckRatio_any (qs : Bool) (ao : Option Addr) (ca : Nat) (xs : List Nat) (bo : Option Addr) (cb : Nat) (ys : List Nat) (E : Int) (w : World) (ha : Rd w .u32 (.slice ao xs.length ca) xs) (hb : Rd w .u32 (.slice bo ys.length cb) ys) :
    Calls Try.prog 28 #[.agg #[.bool qs, .slice ao xs.length ca, .slice bo ys.length cb, .int .i64 E]] w fun z w' => z = .returned (.int .i64 (ratioC xs ys E)) ∧ Below w.heap.size w w' := by
  refine refCheckRatioW qs ao xs.length ca bo ys.length cb E (chk2 xs ys) _ w ?_ ?_ ?_ (fun w1 b => twoNats_any _ _ xs ys w1 (ha.later b) (hb.later b))
  · intro h1 h2
    rw [ratioC_two, if_pos h1, if_pos (h2.imp id (farB_iff E).2)]
  · intro h1 h2
    rw [ratioC_two, if_pos h1, if_neg (fun c => h2 (c.imp id (farB_iff E).1))]
  · intro h
    rw [ratioC_two, if_neg h]
end Go.Proofs.Ytmjhlflemfkflaa

/-
  Patterns: families and layouts.
-/
import Derived.Test.YtgbccbmflokooaaGreatDoorLk2
namespace Go.Proofs.YtgbccbmflokooaaGreatDoor
open Go.RowKit

/-- The family of a format. -/
def famC (n : Int) : Int := if n < 1 ∨ 8 < n then 0 else if n ≤ 3 then 1 else if n ≤ 5 then 2 else 3

set_option maxRecDepth 100000 in
theorem family_any (n : Int) (w : World) : Calls Tryz.prog 68 #[.int .i64 n] w fun z w' => z = .returned (.int .i64 (famC n)) ∧ w' = w := by
  unfold famC
  by_cases h1 : n < 1
  · rw [if_pos (.inl h1)]
    go_enter Tryz.func68, Tryz.ntmps68
    go_wp2
    go_ret
    exact ⟨rfl, rfl⟩
  · by_cases h2 : 8 < n
    · rw [if_pos (.inr h2)]
      go_enter Tryz.func68, Tryz.ntmps68
      go_wp2
      go_ret
      exact ⟨rfl, rfl⟩
    · rw [if_neg (by omega)]
      by_cases h3 : n ≤ 3
      · rw [if_pos h3]
        go_enter Tryz.func68, Tryz.ntmps68
        go_wp2
        go_ret
        exact ⟨rfl, rfl⟩
      · rw [if_neg h3]
        by_cases h4 : n ≤ 5
        · rw [if_pos h4]
          go_enter Tryz.func68, Tryz.ntmps68
          go_wp2
          go_ret
          exact ⟨rfl, rfl⟩
        · rw [if_neg h4]
          go_enter Tryz.func68, Tryz.ntmps68
          go_wp2
          go_ret
          exact ⟨rfl, rfl⟩
end Go.Proofs.YtgbccbmflokooaaGreatDoor

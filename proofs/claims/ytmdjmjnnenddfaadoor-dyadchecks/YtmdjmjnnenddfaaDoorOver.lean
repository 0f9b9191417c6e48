/-
  Contracts of Over and of nat.Div.
-/
import Derived.Test.YtmdjmjnnenddfaaDoorLong2
namespace Go.Proofs.YtmdjmjnnenddfaaDoor
open Go.RowKit

theorem own_digit (w : World) (base e d : Nat) (hb : base ≤ w.heap.size) : Own (w.alloc (.cells #[.int .u32 (d : Int)] e)) base e .u32 (.slice (some ⟨w.heap.size, 0, none⟩) 1 1) [d] :=
  World.ownsRow_lit (e := e) (size := 1) (base := base) w #[.int .u32 (d : Int)] 1 hb (by unfold maxLen; omega) rfl

theorem cmpI_nlt {a b : Int} (h : b ≤ a) : decide (cmpI a b < 0) = false := by
  unfold cmpI
  rw [if_neg (by omega)]
  by_cases h2 : b < a
  · rw [if_pos h2]; rfl
  · rw [if_neg h2]; rfl

end Go.Proofs.YtmdjmjnnenddfaaDoor

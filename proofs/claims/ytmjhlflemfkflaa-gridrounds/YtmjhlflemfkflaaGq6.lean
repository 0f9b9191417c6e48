/-
  Grids: the contract of the reference's RoundTo.
-/
import Derived.Test.YtmjhlflemfkflaaGq5
namespace Go.Proofs.Ytmjhlflemfkflaa
open Go.RowKit

set_option maxRecDepth 100000 in
set_option maxHeartbeats 1600000 in
/-- Of 0. -/
theorem roundTo_zero (R D L G : Int) (gr qs : Bool) (no : Option Addr) (nc : Nat) (eo : Option Addr) (el ec : Nat) (E way : Int) (w : World) :
    Calls Try.prog 30 #[.agg #[.bool qs, .slice no 0 nc, .slice eo el ec, .int .i64 E], .agg #[.int .i64 R, .int .i64 D, .int .i64 L, .int .i64 G, .bool gr], .int .i64 way] w (RPRes w ⟨false, 0, 0, true, false, false⟩) := by
  have b1 := below_trans (below_trans (below_alloc w (.cells #[.bool qs, .slice no 0 nc, .slice eo el ec, .int .i64 E] 62)) (below_alloc _ (.cells #[.int .i64 R, .int .i64 D, .int .i64 L, .int .i64 G, .bool gr] 47))) (below_alloc _ (.cells #[.bool false, .slice none 0 0, .int .i64 0, .bool true, .bool false, .bool false] 59))
  go_enter Try.func30, Try.ntmps30
  go_wp2
  go_returns
  exact ⟨_, rfl, rd_nil _ _, b1⟩

theorem seek_start (R D E : Int) (ln lm : Nat) (h1 : -700000 ≤ (ln : Int) - lm + E) : ((ln : Int) - lm + E + 800000).tdiv (widthN R : Int) - (800000 : Int).tdiv (widthN R : Int) - D + 2 = ((ln : Int) - lm + E) / (widthN R : Int) - D + 2 := by
  rw [Int.tdiv_eq_ediv_of_nonneg (by omega), Int.tdiv_eq_ediv_of_nonneg (by omega)]
  unfold widthN
  split <;> simp <;> omega

theorem width_cast (R D : Int) (h : 0 ≤ D) : ((widthN R * D.toNat : Nat) : Int) = (widthN R : Int) * D := by
  rw [Int.natCast_mul, Int.toNat_of_nonneg h]

theorem width_range {R k : Int} {a : Int} (h1 : -a ≤ k) (h2 : k ≤ a) : -(4 * a) ≤ (widthN R : Int) * k ∧ (widthN R : Int) * k ≤ 4 * a := by
  unfold widthN
  split <;> simp <;> omega
end Go.Proofs.Ytmjhlflemfkflaa

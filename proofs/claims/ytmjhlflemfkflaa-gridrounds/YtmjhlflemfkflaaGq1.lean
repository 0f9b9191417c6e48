/-
  Grids: the contract of the reference's parts.
-/
import Derived.Test.YtmjhlflemfkflaaGm1
import Derived.Test.YtmjhlflemfkflaaIt
import Derived.Test.YtmjhlflemfkflaaNd
namespace Go.Proofs.Ytmjhlflemfkflaa
open Go.RowKit

/-- Three numbers of the reference. -/
def RThree (w : World) (q r d : Nat) (e : Ending) (w' : World) : Prop :=
  ∃ v1 v2 v3, e = .returned (.tuple #[v1, v2, v3]) ∧ Rd w' .i64 v1 (Dg.dg 65536 q) ∧ Rd w' .i64 v2 (Dg.dg 65536 r) ∧ Rd w' .i64 v3 (Dg.dg 65536 d) ∧ Below w.heap.size w w'

theorem gup_len16 (n k L j : Nat) (h : (Dg.dg 65536 n).length ≤ L) (hk : k ≤ 16 * j) : (Dg.dg 65536 (n * 2 ^ k)).length ≤ L + j := by
  apply Dg.dg_len_le 65536 _ _ (by omega)
  have h1 := Dg.vl_lt 65536 (Dg.dg 65536 n) (Dg.small_dg _ _ (by omega))
  rw [Dg.vl_dg _ _ (by omega)] at h1
  have h2 : 65536 ^ (Dg.dg 65536 n).length ≤ 65536 ^ L := Nat.pow_le_pow_right (by omega) h
  have h3 : 2 ^ k ≤ 65536 ^ j := by
    rw [show (65536 : Nat) = 2 ^ 16 from rfl, ← Nat.pow_mul]
    exact Nat.pow_le_pow_right (by omega) hk
  rw [Nat.pow_add]
  exact Nat.lt_of_lt_of_le (Nat.mul_lt_mul_of_pos_right (Nat.lt_of_lt_of_le h1 h2) (Nat.pow_pos (by omega))) (Nat.mul_le_mul_left _ h3)

theorem numP_len16 {N : Nat} {n : Int} (h : (Dg.dg 65536 N).length ≤ 100000) (hn : n ≤ 900000) : (Dg.dg 65536 (numP N n)).length ≤ 160000 := by
  rw [numP_pow]
  exact Nat.le_trans (gup_len16 N n.toNat 100000 56251 h (by omega)) (by omega)

theorem denP_len16 {M : Nat} {n : Int} (h : (Dg.dg 65536 M).length ≤ 100000) (hn : -900000 ≤ n) : (Dg.dg 65536 (denP M n)).length ≤ 160000 := by
  rw [denP_pow]
  exact Nat.le_trans (gup_len16 M (-n).toNat 100000 56251 h (by omega)) (by omega)

theorem denP_pos {M : Nat} (n : Int) (hM : 0 < M) : 0 < denP M n := by
  rw [denP_pow]
  exact Nat.mul_pos hM (two_pos _)

set_option maxRecDepth 100000 in
set_option maxHeartbeats 1600000 in
theorem refparts_any (qs : Bool) (ao : Option Addr) (la ca : Nat) (bo : Option Addr) (lb cb : Nat) (N M : Nat) (E n : Int) (w : World)
    (ha : Rd w .i64 (.slice ao la ca) (Dg.dg 65536 N)) (hb : Rd w .i64 (.slice bo lb cb) (Dg.dg 65536 M)) (hla : (Dg.dg 65536 N).length ≤ 100000) (hlb : (Dg.dg 65536 M).length ≤ 100000) (hM : 0 < M) (n1 : -900000 ≤ E - n) (n2 : E - n ≤ 900000) :
    Calls Try.prog 55 #[.agg #[.bool qs, .slice ao la ca, .slice bo lb cb, .int .i64 E], .int .i64 n] w (RThree w (numP N (E - n) / denP M (E - n)) (numP N (E - n) % denP M (E - n)) (denP M (E - n))) := by
  have b1 := below_alloc w (.cells #[.bool qs, .slice ao la ca, .slice bo lb cb, .int .i64 E] 62)
  have l1 := locE_new w [.bool qs, .slice ao la ca, .slice bo lb cb, .int .i64 E] 62
  have hX := numP_len16 (n := E - n) hla n2
  have hY := denP_len16 (n := E - n) hlb n1
  have hY0 := denP_pos (E - n) hM
  have HIN : Hid (∀ v u w1, Rd w1 .i64 v (Dg.dg 65536 (numP N (E - n))) → Rd w1 .i64 u (Dg.dg 65536 (denP M (E - n))) → Calls Try.prog 21 #[v, u] w1 (RTwo w1 (numP N (E - n) / denP M (E - n)) (numP N (E - n) % denP M (E - n)))) := fun v u w1 r1 r2 =>
    into_any v u _ _ w1 r1 r2 (by omega) (by omega) hY0
  have HSN : Hid (∀ w1, Below w.heap.size w w1 → n ≤ E → Calls Try.prog 20 #[.slice ao la ca, .int .i64 (E - n)] w1 (RNum w1 (numP N (E - n)))) := fun w1 b hn => by
    have := up_any _ _ (E - n).toNat w1 (ha.later b) (Dg.small_dg _ _ (by omega)) (by omega) (by omega)
    rw [Dg.vl_dg _ _ (by omega), ← numP_pow, Int.toNat_of_nonneg (by omega)] at this
    exact this
  have HSD : Hid (∀ w1, Below w.heap.size w w1 → ¬n ≤ E → Calls Try.prog 20 #[.slice bo lb cb, .int .i64 (n - E)] w1 (RNum w1 (denP M (E - n)))) := fun w1 b hn => by
    have := up_any _ _ (n - E).toNat w1 (hb.later b) (Dg.small_dg _ _ (by omega)) (by omega) (by omega)
    rw [Dg.vl_dg _ _ (by omega), Int.toNat_of_nonneg (by omega), show n - E = -(E - n) by omega, ← denP_pow] at this
    rw [show n - E = -(E - n) by omega]
    exact this
  have HN0 : Hid (¬n ≤ E → numP N (E - n) = N) := fun h => if_pos (by omega)
  have HD0 : Hid (n ≤ E → denP M (E - n) = M) := fun h => if_neg (by omega)
  have RA : Hid (Rd _ _ _ _) := ha.later b1
  have RB : Hid (Rd _ _ _ _) := hb.later b1
  have W1 : IntKind.i64.wrap (E - n) = E - n := IntWalk.i64_in _ ⟨by omega, by omega⟩
  have W2 : IntKind.i64.wrap (n - E) = n - E := IntWalk.i64_in _ ⟨by omega, by omega⟩
  obtain ⟨X, hX⟩ : ∃ X, numP N (E - n) = X := ⟨_, rfl⟩
  obtain ⟨Y, hY⟩ : ∃ Y, denP M (E - n) = Y := ⟨_, rfl⟩
  rw [hX] at HIN HSN HN0 ⊢
  rw [hY] at HIN HSD HD0 ⊢
  clear ha hb hla hlb hX hY hY0 hM
  have c1 := l1.cell 1 rfl
  have c2 := l1.cell 2 rfl
  have c3 := l1.cell 3 rfl
  by_cases hn : n ≤ E
  · obtain rfl := HD0.out hn
    go_enter Try.func55, Try.ntmps55
    go_wp2_with fail
    go_quiet (fail)
    have bd := below_drewN b1 nq
    have rb := Rd.later RB.out (below_drewN (Below.refl _ _) nq)
    go_wp2_with fail
    refine (HSN.out _ bd hn).mono ?_
    rintro z w2 ⟨v2, rfl, r2, b2⟩
    have b02 := below_trans bd b2
    have rb2 := rb.later b2
    go_wp2_with fail
    refine (HIN.out _ _ _ r2 rb2).mono ?_
    rintro z w3 ⟨v3, v4, rfl, r3, r4, b3⟩
    have b03 := below_trans b02 b3
    go_wp2
    go_ret3
    exact ⟨_, _, _, rfl, r3, r4, rb2.later b3, b03⟩
  · have hnf : decide (n ≤ E) = false := by simp; omega
    obtain rfl := HN0.out hn
    go_enter Try.func55, Try.ntmps55
    go_wp2_with fail
    go_quiet (fail)
    have bd := below_drewN b1 nq
    have ra := Rd.later RA.out (below_drewN (Below.refl _ _) nq)
    go_wp2_with fail
    refine (HSD.out _ bd hn).mono ?_
    rintro z w2 ⟨v2, rfl, r2, b2⟩
    have b02 := below_trans bd b2
    have ra2 := ra.later b2
    go_wp2_with fail
    refine (HIN.out _ _ _ ra2 r2).mono ?_
    rintro z w3 ⟨v3, v4, rfl, r3, r4, b3⟩
    have b03 := below_trans b02 b3
    go_wp2
    go_ret3
    exact ⟨_, _, _, rfl, r3, r4, r2.later b3, b03⟩
end Go.Proofs.Ytmjhlflemfkflaa

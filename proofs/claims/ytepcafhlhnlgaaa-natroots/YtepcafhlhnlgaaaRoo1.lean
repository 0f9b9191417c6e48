/-
  Contracts of the program's Power, nearer, Root.
-/
import Derived.Test.YtepcafhlhnlgaaaDivN
import Derived.Test.YtepcafhlhnlgaaaRootM
import Derived.Test.YtepcafhlhnlgaaaShift
namespace Go.Proofs.Ytepcafhlhnlgaaa
open Go.RowKit

theorem rd_same {w : World} {k : IntKind} {v : Value} {xs ys : List Nat} (h : Rd w k v xs) (g : Rd w k v ys) : xs = ys := by
  obtain ⟨ao, ca, rfl⟩ := h.shape
  have hl := rd_len g
  obtain ⟨_, _, h1⟩ := rd_open h
  rw [hl] at g
  obtain ⟨_, _, g1⟩ := rd_open g
  refine Dg.eq_of_all xs ys hl fun j => ?_
  by_cases hj : j < xs.length
  · obtain ⟨b, off, e1, c1⟩ := h1 (by omega)
    obtain ⟨b2, off2, e2, c2⟩ := g1 (by omega)
    rw [e1] at e2
    cases e2
    have a1 := c1 j hj
    rw [c2 j (by omega)] at a1
    injection a1 with a1
    injection a1 with _ a1
    omega
  · rw [Dg.getD_of_le xs j (by omega), Dg.getD_of_le ys j (by omega)]

open Classical in
/-- The number that lies at a value. -/
noncomputable def numOf (w : World) (v : Value) : Nat := if h : ∃ n, Rd w .u32 v (Dg.dg 4294967296 n) then h.choose else 0

theorem numOf_eq {w : World} {v : Value} {n : Nat} (h : Rd w .u32 v (Dg.dg 4294967296 n)) : numOf w v = n := by
  have he : ∃ n, Rd w .u32 v (Dg.dg 4294967296 n) := ⟨n, h⟩
  unfold numOf
  rw [dif_pos he]
  exact Dg.dg_inj 4294967296 _ _ (by omega) (rd_same he.choose_spec h)

theorem dg_one : Dg.dg 4294967296 1 = [1] := rfl

theorem pow_len {n L j : Nat} (h : n < 4294967296 ^ L) : (Dg.dg 4294967296 (n ^ j)).length ≤ L * j + 1 := by
  refine Dg.dg_len_le 4294967296 _ _ (by omega) ?_
  rw [Nat.pow_succ, Nat.pow_mul]
  have h1 : n ^ j ≤ (4294967296 ^ L) ^ j := Nat.pow_le_pow_left (by omega) j
  have h2 : 0 < (4294967296 ^ L) ^ j := Nat.pow_pos (Nat.pow_pos (by omega))
  omega

set_option maxHeartbeats 800000 in
theorem power_any (va : Value) (n k L : Nat) (w : World) (ha : Rd w .u32 va (Dg.dg 4294967296 n)) (hL : n < 4294967296 ^ L) (hLl : L ≤ 5000) (hk : k ≤ 10) :
    Calls Try.prog 91 #[va, .int .i64 k] w (Num w (n ^ k)) := by
  have HA : Hid (Rd w .u32 va (Dg.dg 4294967296 n)) := ha
  have hnl : (Dg.dg 4294967296 n).length ≤ L := Dg.dg_len_le 4294967296 n L (by omega) hL
  have HT : Hid (∀ j v wr, j ≤ k → Below w.heap.size w wr → Rd wr .u32 v (Dg.dg 4294967296 (n ^ j)) → Calls Try.prog 60 #[v, va] wr (Num wr (n ^ (j + 1)))) := fun j v wr hj b r => by
    have hp := pow_len (j := j) hL
    have hlj : L * j ≤ 5000 * 10 := Nat.mul_le_mul hLl (by omega)
    have := times_any v va _ _ wr r (ha.later b) (Dg.small_dg _ _ (by omega)) (Dg.small_dg _ _ (by omega)) (by omega) (by omega)
    rw [Dg.vl_dg _ _ (by omega), Dg.vl_dg _ _ (by omega), ← Nat.pow_succ] at this
    exact this
  have o1 := own_digit w w.heap.size 58 1 (Nat.le_refl _)
  have b1 : Below w.heap.size w (w.alloc (.cells #[.int .u32 ((1 : Nat) : Int)] 58)) := (Below.refl _ _).alloc (Nat.le_refl _) _
  obtain ⟨ao, ca, rfl⟩ := ha.shape
  obtain ⟨ma, hma⟩ : ∃ m, (Dg.dg 4294967296 n).length = m := ⟨_, rfl⟩
  rw [hma] at HT HA ⊢
  clear ha hma hnl
  go_enter Try.func91, Try.ntmps91
  go_wp2
  go_loopw [5, 8] (fun pv iv wr => ∃ j : Nat, j ≤ k ∧ iv = .int .i64 j ∧ Own wr w.heap.size 58 .u32 pv (Dg.dg 4294967296 (n ^ j)) ∧ Below w.heap.size w wr) (fun _ iv _ => k - (intOf iv).toNat)
  case atStart => exact ⟨0, Nat.zero_le _, rfl, o1, b1⟩
  case round =>
    clear o1 b1
    obtain ⟨j, hj, rfl, own, bel⟩ := hrel
    by_cases hlt : j < k
    · go_wp2_with fail
      refine (HT.out j _ _ hj bel own.rd).mono ?_
      rintro e w2 ⟨v2, rfl, o2, b2⟩
      have o2 := o2.lower bel.size
      have b3 := below_trans bel b2
      go_wp2
      go_roundw
      case rel => exact ⟨j + 1, by omega, by go_num, o2, b3⟩
      case measure => simp [intOf]; omega
    · have hjk : j = k := by omega
      subst hjk
      go_wp2
      go_ret
      exact ⟨_, rfl, own, bel⟩
end Go.Proofs.Ytepcafhlhnlgaaa

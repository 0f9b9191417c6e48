/-
  Contracts of the program's Power, nearer, Root.
-/
import Derived.Test.YtmjhlflemfkflaaNe
import Derived.Test.YtmjhlflemfkflaaRootM
import Derived.Test.YtmjhlflemfkflaaNd
namespace Go.Proofs.Ytmjhlflemfkflaa
open Go.RowKit

theorem rd_same {w : World} {k : IntKind} {v : Value} {xs ys : List Nat} (h : Rd w k v xs) (g : Rd w k v ys) : xs = ys := by
  obtain ⟨ao, ca, rfl⟩ := h.shape
  have hl := rd_len g
  obtain ⟨_, _, h1⟩ := rd_open h
  rw [hl] at g
  obtain ⟨_, _, g1⟩ := rd_open g
  refine Dg.eq_of_all xs ys hl fun j => ?_
  by_cases hj : j < xs.length
  · obtain ⟨b, off, e1, c1⟩ := h1 (by omega)
    obtain ⟨b2, off2, e2, c2⟩ := g1 (by omega)
    rw [e1] at e2
    cases e2
    have a1 := c1 j hj
    rw [c2 j (by omega)] at a1
    injection a1 with a1
    injection a1 with _ a1
    omega
  · rw [Dg.getD_of_le xs j (by omega), Dg.getD_of_le ys j (by omega)]

open Classical in
/-- The number that lies at a value. -/
noncomputable def numOf (w : World) (v : Value) : Nat := if h : ∃ n, Rd w .u32 v (Dg.dg 4294967296 n) then h.choose else 0

theorem numOf_eq {w : World} {v : Value} {n : Nat} (h : Rd w .u32 v (Dg.dg 4294967296 n)) : numOf w v = n := by
  have he : ∃ n, Rd w .u32 v (Dg.dg 4294967296 n) := ⟨n, h⟩
  unfold numOf
  rw [dif_pos he]
  exact Dg.dg_inj 4294967296 _ _ (by omega) (rd_same he.choose_spec h)

theorem dg_one : Dg.dg 4294967296 1 = [1] := rfl

theorem pow_len {n L j : Nat} (h : n < 4294967296 ^ L) : (Dg.dg 4294967296 (n ^ j)).length ≤ L * j + 1 := by
  refine Dg.dg_len_le 4294967296 _ _ (by omega) ?_
  rw [Nat.pow_succ, Nat.pow_mul]
  have h1 : n ^ j ≤ (4294967296 ^ L) ^ j := Nat.pow_le_pow_left (by omega) j
  have h2 : 0 < (4294967296 ^ L) ^ j := Nat.pow_pos (Nat.pow_pos (by omega))
  omega

set_option maxHeartbeats 4000000 in
set_option maxRecDepth 100000 in
theorem len64_int (x : Int) (w : World) (h0 : 0 ≤ x) (h1 : x ≤ 4294967295) :
    Calls Try.prog 96 #[.int .u64 x] w fun e w' => e = .returned (.int .i64 (bitLen x.toNat : Nat)) ∧ w' = w := by
  go_enter Try.func96, Try.ntmps96
  go_wp2
  all_goals try (exfalso; have hz := Lib.len8tab_size; omega)
  all_goals (go_ret; refine ⟨congrArg Ending.returned (congrArg (Value.int IntKind.i64) ?_), rfl⟩)
  all_goals simp only [tab_at]
  · exact close_len 24 _ x.toNat (by have := bitLen_shift x.toNat 24 (by omega); rw [this]; congr 2; omega) (by omega)
  · exact close_len 16 _ x.toNat (by have := bitLen_shift x.toNat 16 (by omega); rw [this]; congr 2; omega) (by omega)
  · exact close_len 8 _ x.toNat (by have := bitLen_shift x.toNat 8 (by omega); rw [this]; congr 2; omega) (by omega)
  · have hb := bitLen_le8 x.toNat (by omega)
    have e1 := IntWalk.wrap64_in ((bitLen x.toNat : Nat) : Int) ⟨by omega, by omega⟩
    rw [e1, e1]

set_option maxRecDepth 100000 in
theorem bitsLen_any (k : Nat) (w : World) (h : k ≤ 4294967295) :
    Calls Try.prog 94 #[.int .u64 k] w fun e w' => e = .returned (.int .i64 (bitLen k : Nat)) ∧ w' = w := by
  have h64 := len64_int (k : Int) w (by omega) (by omega)
  rw [Int.toNat_natCast] at h64
  have H : Hid _ := h64
  clear h64
  go_enter Try.func94, Try.ntmps94
  go_wp2_with fail
  refine Calls.mono H.out ?_
  rintro e w' ⟨rfl, rfl⟩
  go_wp2
  go_ret
  exact ⟨rfl, rfl⟩

theorem half_up (k i : Nat) : k / 2 ^ i = k / 2 ^ (i + 1) + k / 2 ^ (i + 1) + k / 2 ^ i % 2 := by
  rw [Nat.pow_succ, ← Nat.div_div_eq_div_mul]
  omega

/-- Where the loop of Power stands: the bits from j on are done. -/
def PowR (w : World) (n k bl : Nat) (pv iv : Value) (wr : World) : Prop :=
  ∃ j : Nat, j ≤ bl ∧ iv = .int .i64 ((j : Int) - 1) ∧ Own wr w.heap.size 26 .u32 pv (Dg.dg 4294967296 (n ^ (k / 2 ^ j))) ∧ Below w.heap.size w wr

set_option maxRecDepth 100000 in
set_option maxHeartbeats 1600000 in
theorem power_any (va : Value) (n k L : Nat) (w : World) (ha : Rd w .u32 va (Dg.dg 4294967296 n)) (hL : n < 4294967296 ^ L) (hLk : L * k ≤ 400000) (hLl : L ≤ 400000) (hk : k ≤ 1000000) :
    Calls Try.prog 88 #[va, .int .i64 k] w (Num w (n ^ k)) := by
  have HA : Hid (Rd w .u32 va (Dg.dg 4294967296 n)) := ha
  have hnl : (Dg.dg 4294967296 n).length ≤ L := Dg.dg_len_le 4294967296 n L (by omega) hL
  have HL : ∀ j, j ≤ k → (Dg.dg 4294967296 (n ^ j)).length ≤ 400001 := fun j hj => by
    have hp := pow_len (j := j) hL
    have hlj : L * j ≤ L * k := Nat.mul_le_mul (Nat.le_refl _) hj
    omega
  have HT : Hid (∀ j v wr, j ≤ k → Below w.heap.size w wr → Rd wr .u32 v (Dg.dg 4294967296 (n ^ j)) → Calls Try.prog 36 #[v, va] wr (Num wr (n ^ (j + 1)))) := fun j v wr hj b r => by
    have := times_any v va _ _ wr r (ha.later b) (Dg.small_dg _ _ (by omega)) (Dg.small_dg _ _ (by omega)) (by have := HL j hj; omega) (by omega)
    rw [Dg.vl_dg _ _ (by omega), Dg.vl_dg _ _ (by omega), ← Nat.pow_succ] at this
    exact this
  have HS : Hid (∀ j v wr, j ≤ k → Rd wr .u32 v (Dg.dg 4294967296 (n ^ j)) → Calls Try.prog 36 #[v, v] wr (Num wr (n ^ (j + j)))) := fun j v wr hj r => by
    have := times_any v v _ _ wr r r (Dg.small_dg _ _ (by omega)) (Dg.small_dg _ _ (by omega)) (by have := HL j hj; omega) (by have := HL j hj; omega)
    rw [Dg.vl_dg _ _ (by omega), ← Nat.pow_add] at this
    exact this
  have HB : Hid (∀ wr, Calls Try.prog 94 #[.int .u64 k] wr fun e w' => e = .returned (.int .i64 (bitLen k : Nat)) ∧ w' = wr) := fun wr => bitsLen_any k wr (by omega)
  have hbl : bitLen k ≤ 20 := bitLen_le_of k 20 (by omega)
  have hz : k / 2 ^ bitLen k = 0 := Nat.div_eq_of_lt (bitLen_spec k).1
  have o1 := own_digit w w.heap.size 26 1 (Nat.le_refl _)
  have b1 : Below w.heap.size w (w.alloc (.cells #[.int .u32 ((1 : Nat) : Int)] 26)) := (Below.refl _ _).alloc (Nat.le_refl _) _
  obtain ⟨ao, ca, rfl⟩ := ha.shape
  obtain ⟨ma, hma⟩ : ∃ m, (Dg.dg 4294967296 n).length = m := ⟨_, rfl⟩
  rw [hma] at HT HA ⊢
  clear ha hma hnl HL
  obtain ⟨bl, hbe⟩ : ∃ b, bitLen k = b := ⟨_, rfl⟩
  rw [hbe] at HB hbl hz
  clear hbe
  go_enter Try.func88, Try.ntmps88
  go_wp2_with fail
  refine (HB.out _).mono ?_
  rintro e w' ⟨rfl, rfl⟩
  go_wp2
  have L0 : PowR w n k bl (.slice (some ⟨w.heap.size, 0, none⟩) 1 1) (.int .i64 ((bl : Int) - 1)) (w.alloc (.cells #[.int .u32 ((1 : Nat) : Int)] 26)) := ⟨bl, Nat.le_refl _, rfl, by rw [hz]; exact o1, b1⟩
  go_loopw [5, 6] (PowR w n k bl) (fun _ iv _ => (intOf iv + 1).toNat)
  case atStart => exact L0
  case round =>
    clear L0 o1 b1
    obtain ⟨j, hj, rfl, own, bel⟩ := hrel
    rcases Nat.eq_zero_or_pos j with h0 | h0
    · subst h0
      go_wp2
      go_ret
      refine ⟨_, rfl, ?_, bel⟩
      rw [show k / 2 ^ 0 = k by simp] at own
      exact own
    · obtain ⟨i, rfl⟩ : ∃ i, j = i + 1 := ⟨j - 1, by omega⟩
      have hle : k / 2 ^ (i + 1) ≤ k := Nat.div_le_self _ _
      have hh := half_up k i
      have e1 : ((i + 1 : Nat) : Int) - 1 = (i : Int) := by omega
      rw [e1]
      go_wp2_with fail
      refine (HS.out _ _ _ hle own.rd).mono ?_
      rintro z w2 ⟨v2, rfl, o2, b2⟩
      have b02 := below_trans bel b2
      have o2 := o2.lower bel.size
      clear own b2
      have hq : ((k : Int) / 2 ^ i).tmod 2 = ((k / 2 ^ i % 2 : Nat) : Int) := by
        have h1 : (k : Int) / 2 ^ i = ((k / 2 ^ i : Nat) : Int) := by rw [Int.natCast_ediv, Int.natCast_pow]; rfl
        rw [h1, Int.ofNat_tmod]
        rfl
      by_cases hodd : k / 2 ^ i % 2 = 1
      · have hc : (((k : Int) / 2 ^ i).tmod 2 == 1) = true := by rw [hq, hodd]; rfl
        have hx : k / 2 ^ (i + 1) + k / 2 ^ (i + 1) ≤ k := by have := Nat.div_le_self k (2 ^ i); omega
        have hy : k / 2 ^ (i + 1) + k / 2 ^ (i + 1) + 1 = k / 2 ^ i := by omega
        have H2 : Hid _ := HT.out _ v2 w2 hx b02 o2.rd
        rw [hy] at H2
        clear hq hh hodd
        go_wp2_with fail
        refine Calls.mono H2.out ?_
        rintro z w3 ⟨v3, rfl, o3, b3⟩
        have o3 := o3.lower b02.size
        have b03 := below_trans b02 b3
        go_wp2
        go_roundw
        case rel => exact ⟨i, by omega, rfl, o3, b03⟩
        case measure => simp [intOf]
      · have hc : (((k : Int) / 2 ^ i).tmod 2 == 1) = false := by
          rw [hq]
          have : k / 2 ^ i % 2 = 0 := by omega
          rw [this]; rfl
        have hy : k / 2 ^ (i + 1) + k / 2 ^ (i + 1) = k / 2 ^ i := by omega
        rw [hy] at o2
        clear hq hh hodd
        go_wp2
        go_roundw
        case rel => exact ⟨i, by omega, rfl, o2, b02⟩
        case measure => simp [intOf]
end Go.Proofs.Ytmjhlflemfkflaa

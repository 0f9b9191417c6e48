/-
  The reference's number of bits.
-/
import Derived.Test.YtgbccbmflokooaaGreatDoorCr2
namespace Go.Proofs.YtgbccbmflokooaaGreatDoor
open Go.RowKit

/-- The number of the first n bits. -/
def valB (bf : Nat → Bool) : Nat → Nat
  | 0 => 0
  | n + 1 => valB bf n * 2 + if bf n then 1 else 0

theorem valB_lt (bf : Nat → Bool) : ∀ n, valB bf n < 2 ^ n
  | 0 => by simp [valB]
  | n + 1 => by
    have := valB_lt bf n
    rw [valB, Nat.pow_succ]
    split <;> omega

theorem valB_bits (ts : List Nat) (f : Nat) : ∀ n, valB (fun i => decide (bitB ts (f + i) = 1)) n = bitsV ts f n
  | 0 => rfl
  | n + 1 => by
    rw [valB, bitsV, valB_bits ts f n]
    have := bitB_lt ts (f + n)
    by_cases h : bitB ts (f + n) = 1
    · rw [h]; simp; omega
    · rw [show bitB ts (f + n) = 0 from by omega]; simp; omega

set_option maxRecDepth 100000 in
set_option maxHeartbeats 3200000 in
theorem refValue_any (b off n cap : Nat) (bf : Nat → Bool) (w : World) (hn : n ≤ 64) (hc : ∀ i, i < n → w.cell? ⟨b, off + i, none⟩ = some (.bool (bf i))) :
    Calls Tryz.prog 27 #[.slice (some ⟨b, off, none⟩) n cap] w (RNum w (valB bf n)) := by
  have HCC : Hid (∀ i, i < n → w.cell? ⟨b, off + i, none⟩ = some (.bool (bf i))) := hc
  clear hc
  go_enter Tryz.func27, Tryz.ntmps27
  go_wp2
  go_loopw [3, 4] (fun av iv wr => ∃ k : Nat, k ≤ n ∧ iv = .int .i64 (k : Int) ∧ Rd wr .i64 av (Dg.dg 65536 (valB bf k)) ∧ Below w.heap.size w wr) (fun _ iv _ => n - (intOf iv).toNat)
  case atStart => exact ⟨0, Nat.zero_le _, rfl, (own_nil _ 0 0 _).rd, Below.refl _ _⟩
  case round =>
    obtain ⟨k, hk, rfl, hr, bel⟩ := hrel
    obtain ⟨m, em⟩ : ∃ m, valB bf k = m := ⟨_, rfl⟩
    rw [em] at hr
    obtain ⟨ao, ca, rfl⟩ := hr.shape
    by_cases hlt : k < n
    · have hcell := HCC.out k hlt
      have hvl := valB_lt bf k
      have hpw : (2 : Nat) ^ k ≤ 2 ^ 63 := Nat.pow_le_pow_right (by omega) (by omega)
      have hsv : valB bf (k + 1) = valB bf k * 2 + if bf k then 1 else 0 := rfl
      rw [em] at hvl hsv
      have hln : (Dg.dg 65536 m).length ≤ 4 := Dg.dg_len_le 65536 m 4 (by omega) (by omega)
      have hln2 : (Dg.dg 65536 (m * 2)).length ≤ 4 := Dg.dg_len_le 65536 (m * 2) 4 (by omega) (by omega)
      obtain ⟨bb, ebb⟩ : ∃ x, bf k = x := ⟨_, rfl⟩
      rw [ebb] at hcell hsv
      have HSV : Hid (valB bf (k + 1) = m * 2 + if bb then 1 else 0) := hsv
      have a1 := below_alloc wr (.cells #[.int .i64 2] 3)
      have r2 : Rd (wr.alloc (.cells #[.int .i64 2] 3)) .i64 (.slice (some ⟨wr.heap.size, 0, none⟩) 1 1) [2] := rd_new (w := wr) (k := .i64) (e := 3) [2] #[.int .i64 2] rfl (by unfold maxLen; simp)
      have ht := reftimes_any _ _ _ [2] _ (hr.later a1) r2 (Dg.small_dg 65536 m (by omega)) (fun i => by
        match i with
        | 0 => decide
        | i + 1 => simp) (by omega) (by simp)
      rw [Dg.vl_dg 65536 m (by omega), show Dg.vl 65536 [2] = 2 from rfl] at ht
      have HT : Hid (Calls Tryz.prog 63 #[.slice ao (Dg.dg 65536 m).length ca, .slice (some ⟨wr.heap.size, 0, none⟩) 1 1] (wr.alloc (.cells #[.int .i64 2] 3)) (RNum (wr.alloc (.cells #[.int .i64 2] 3)) (m * 2))) := ht
      have c0 := cell_later bel hcell
      have bw := below_trans bel a1
      clear ht hsv ebb em hvl hpw
      go_wp2_with fail
      refine Calls.mono HT.out ?_
      rintro z w2 ⟨v2, rfl, rd2, b2⟩
      obtain ⟨vo, vc, hv2⟩ := rd2.shape
      subst hv2
      have c2 := cell_later b2 (cell_later a1 c0)
      have bw2 := below_trans bw b2
      cases bb
      · go_wp2
        go_roundw
        case rel => exact ⟨k + 1, by omega, by go_num, by rw [HSV.out]; exact rd2, bw2⟩
        case measure => simp [intOf]; omega
      · have a3 := below_alloc w2 (.cells #[.int .i64 1] 3)
        have r1 : Rd (w2.alloc (.cells #[.int .i64 1] 3)) .i64 (.slice (some ⟨w2.heap.size, 0, none⟩) 1 1) [1] := rd_new (w := w2) (k := .i64) (e := 3) [1] #[.int .i64 1] rfl (by unfold maxLen; simp)
        have hp := refplus_any _ _ _ [1] _ (rd2.later a3) r1 (Dg.small_dg 65536 (m * 2) (by omega)) (fun i => by
          match i with
          | 0 => decide
          | i + 1 => simp) (Dg.norm_dg 65536 (m * 2) (by omega)) (fun _ => by simp) (by omega) (by simp)
        rw [Dg.vl_dg 65536 (m * 2) (by omega), show Dg.vl 65536 [1] = 1 from rfl] at hp
        have HP : Hid (Calls Tryz.prog 32 #[.slice vo (Dg.dg 65536 (m * 2)).length vc, .slice (some ⟨w2.heap.size, 0, none⟩) 1 1] (w2.alloc (.cells #[.int .i64 1] 3)) (RNum (w2.alloc (.cells #[.int .i64 1] 3)) (m * 2 + 1))) := hp
        have bw3 := below_trans bw2 a3
        clear hp
        go_wp2_with fail
        refine Calls.mono HP.out ?_
        rintro z w4 ⟨v4, rfl, rd4, b4⟩
        go_wp2
        go_roundw
        case rel => exact ⟨k + 1, by omega, by go_num, by rw [HSV.out]; exact rd4, below_trans bw3 b4⟩
        case measure => simp [intOf]; omega
    · have HK : Hid (k = n ∧ valB bf k = m) := ⟨by omega, em⟩
      clear em
      go_wp2
      go_ret
      obtain ⟨h1, h2⟩ := HK.out
      subst h1 h2
      exact ⟨_, rfl, hr, bel⟩
end Go.Proofs.YtgbccbmflokooaaGreatDoor

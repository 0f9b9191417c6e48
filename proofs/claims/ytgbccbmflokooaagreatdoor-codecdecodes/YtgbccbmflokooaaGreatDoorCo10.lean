/-
  Patterns: bits of bytes are set.
-/
import Derived.Test.YtgbccbmflokooaaGreatDoorCo8
import Derived.Test.YtgbccbmflokooaaGreatDoorNa
namespace Go.Proofs.YtgbccbmflokooaaGreatDoor
open Go.RowKit

/-- Bytes in which c bits from f on are set as the lowest ones of x are. -/
def setB (f : Nat) : Nat → Nat → List Nat → List Nat
  | 0, _, zs => zs
  | c + 1, x, zs => setB f c (x / 2) (zs.set ((f + c) / 8) (zs.getD ((f + c) / 8) 0 ||| x % 2 * 2 ^ (7 - (f + c) % 8)))

theorem bit_at_lt (x r : Nat) : x % 2 * 2 ^ (7 - r) < 256 := by
  have h1 : (2 : Nat) ^ (7 - r) ≤ 2 ^ 7 := Nat.pow_le_pow_right (by omega) (by omega)
  have h2 := Nat.mod_lt x (show 0 < 2 by omega)
  have h3 : x % 2 * 2 ^ (7 - r) ≤ 1 * 2 ^ 7 := Nat.mul_le_mul (by omega) h1
  omega

theorem set_small {B : Nat} {zs : List Nat} (h : Dg.Small B zs) (i x : Nat) (hx : x < B) : Dg.Small B (zs.set i x) := by
  intro k
  by_cases hk : i < zs.length
  · rw [Dg.getD_set _ _ _ _ hk]
    by_cases e : i = k
    · rw [if_pos e]; exact hx
    · rw [if_neg e]; exact h k
  · rw [List.set_eq_of_length_le (by omega)]
    exact h k

theorem bit_put (b y r : Nat) (hb : b < 256) (hy : y < 18446744073709551616) : bits .or .u8 (b : Int) (bits .and .u64 (y : Int) 1 % 256 * 2 ^ (7 - r) % 256) = ((b ||| y % 2 * 2 ^ (7 - r) : Nat) : Int) := by
  have e2 := u64_and_nat y 1 hy (by omega)
  rw [Nat.and_one_is_mod] at e2
  have h2 := Nat.mod_lt y (show 0 < 2 by omega)
  have h3 := bit_at_lt y r
  have e3 : (((y % 2 : Nat) : Int) % 256 * 2 ^ (7 - r)) = ((y % 2 * 2 ^ (7 - r) : Nat) : Int) := by
    rw [show ((y % 2 : Nat) : Int) % 256 = ((y % 2 : Nat) : Int) from by omega]
    push_cast
    rfl
  rw [show (1 : Int) = ((1 : Nat) : Int) from rfl, e2, e3, show ((y % 2 * 2 ^ (7 - r) : Nat) : Int) % 256 = ((y % 2 * 2 ^ (7 - r) : Nat) : Int) from by omega]
  exact u8_or_nat _ _ hb h3

set_option maxRecDepth 100000 in
set_option maxHeartbeats 3200000 in
theorem csetBits_any (g cap : Nat) (zs : List Nat) (f c x : Nat) (w : World) (hr : BRow w g zs) (hs : Dg.Small 256 zs) (hx : x < 18446744073709551616) (hfc : f + c ≤ 8 * zs.length) (hl : zs.length ≤ 1000) :
    Calls Tryz.prog 101 #[.slice (some ⟨g, 0, none⟩) zs.length cap, .int .i64 f, .int .i64 c, .int .u64 x] w fun e w' => e = .returned (.tuple #[]) ∧ BRow w' g (setB f c x zs) ∧ w.grownBy w' (some g) := by
  go_enter Tryz.func101, Tryz.ntmps101
  go_wp2
  go_loopw [3, 8] (fun xv iv wr => ∃ (j y : Nat) (cur : List Nat), j ≤ c ∧ iv = .int .i64 ((f : Int) + j - 1) ∧ xv = .int .u64 (y : Int) ∧ y < 18446744073709551616 ∧ BRow wr g cur ∧ Dg.Small 256 cur ∧ Hid (cur.length = zs.length) ∧ Hid (setB f j y cur = setB f c x zs) ∧ w.grownBy wr (some g))
    (fun _ iv _ => (intOf iv + 1).toNat)
  case atStart => exact ⟨c, x, zs, Nat.le_refl _, by go_num, rfl, hx, hr, hs, rfl, rfl, grown_refl _ _⟩
  case round =>
    obtain ⟨j, y, cur, hj, rfl, rfl, hy, own, hsm, Hl, Hx, gr⟩ := hrel
    have hlen := Hl.out
    by_cases hj0 : 0 < j
    · obtain ⟨j', rfl⟩ : ∃ j', j = j' + 1 := ⟨j - 1, by omega⟩
      obtain ⟨i, hi⟩ : ∃ i, f + j' = i := ⟨_, rfl⟩
      have hiI : (f : Int) + ((j' + 1 : Nat) : Int) - 1 = (i : Int) := by omega
      rw [hiI]
      obtain ⟨q, hq⟩ : ∃ q, i / 8 = q := ⟨_, rfl⟩
      obtain ⟨r, hr'⟩ : ∃ r, i % 8 = r := ⟨_, rfl⟩
      have hqI : (i : Int) / 8 = (q : Int) := by omega
      have hrI : (i : Int) % 8 = (r : Int) := by omega
      have hcell := own.cell q (by omega)
      have hfree := own.free q (by omega)
      have hs1 := hsm q
      obtain ⟨b, hb⟩ : ∃ b, cur.getD q 0 = b := ⟨_, rfl⟩
      rw [hb] at hcell hs1
      have hql : q < zs.length := by omega
      have hr8 : r < 8 := by omega
      have HH : Hid (_ ∧ _ ∧ _ ∧ _) := ⟨hi, hq, hr', hb⟩
      have hic : (f : Int) ≤ (i : Int) := by omega
      have hib : (i : Int) ≤ 8000 := by omega
      clear hi hq hr' hb hlen hiI
      go_wp2
      go_region
      all_goals go_wp2
      all_goals go_roundw
      case rel =>
        obtain ⟨hi, hq, hr', hb⟩ := HH.out
        have hbl : b ||| y % 2 * 2 ^ (7 - r) < 256 := Nat.or_lt_two_pow (n := 8) hs1 (bit_at_lt y r)
        refine ⟨j', y / 2, cur.set q (b ||| y % 2 * 2 ^ (7 - r)), by omega, by congr 1; omega, rfl, by omega, ?_, set_small hsm _ _ hbl, ?_, ?_, grown_trans gr (grown_trans (grown_set _ _ _ _) (grown_drew _ _))⟩
        · rw [bit_put b y r hs1 hy]
          exact (own.store q _).drew
        · show _ = _
          rw [List.length_set]
          exact Hl.out
        · show _ = _
          have := Hx.out
          rw [setB, hi, hq, hr', hb] at this
          exact this
      case measure => simp only [intOf]; omega
    · have hd : ¬ ((f : Int) ≤ (f : Int) + (j : Int) - 1) := by omega
      have h0 : Hid (j = 0) := (by omega : j = 0)
      clear hlen
      go_wp2
      go_end0
      have h1 := h0.out
      subst h1
      have := Hx.out
      rw [setB] at this
      rw [← this]
      exact ⟨rfl, own, gr⟩
end Go.Proofs.YtgbccbmflokooaaGreatDoor

/-
  Patterns: bits of bytes.
-/
import Derived.Test.YtgbccbmflokooaaGreatDoorCo6
namespace Go.Proofs.YtgbccbmflokooaaGreatDoor
open Go.RowKit

theorem bit_join (x y r : Nat) (hx : x < 9223372036854775808) (hy : y < 256) : bits .or .u64 (IntKind.u64.wrap ((x : Int) * 2)) (IntKind.u64.wrap (bits .and .u8 ((y : Int) / 2 ^ (7 - r)) 1)) = ((2 * x + y / 2 ^ (7 - r) % 2 : Nat) : Int) := by
  have e1 : (y : Int) / 2 ^ (7 - r) = ((y / 2 ^ (7 - r) : Nat) : Int) := by simp
  have h1 : y / 2 ^ (7 - r) < 256 := Nat.lt_of_le_of_lt (Nat.div_le_self _ _) hy
  have e2 := u8_and_nat (y / 2 ^ (7 - r)) 1 h1 (by omega)
  rw [Nat.and_one_is_mod] at e2
  rw [e1, show (1 : Int) = ((1 : Nat) : Int) from rfl, e2]
  have h2 := Nat.mod_lt (y / 2 ^ (7 - r)) (show 0 < 2 by omega)
  generalize y / 2 ^ (7 - r) % 2 = b at *
  rw [IntKind.wrap_u64, IntKind.wrap_u64, show ((x : Int) * 2) % 18446744073709551616 = ((2 * x : Nat) : Int) from by omega, show (b : Int) % 18446744073709551616 = (b : Int) from by omega]
  rw [u64_or_nat _ _ (by omega) (by omega), nat_join 1 _ _ (by omega) (by omega)]

set_option maxRecDepth 100000 in
set_option maxHeartbeats 3200000 in
theorem cbits_any (g cap : Nat) (zs : List Nat) (f c : Nat) (w : World) (hr : BRow w g zs) (hs : Dg.Small 256 zs) (hc : c ≤ 64) (hfc : f + c ≤ 8 * zs.length) (hl : zs.length ≤ 1000) :
    Calls Tryz.prog 91 #[.slice (some ⟨g, 0, none⟩) zs.length cap, .int .i64 f, .int .i64 c] w fun e w' => e = .returned (.int .u64 (bitsV zs f c : Nat)) ∧ w' = w := by
  go_enter Tryz.func91, Tryz.ntmps91
  go_wp2
  go_loop [7, 8] (fun xv iv => ∃ j i x : Nat, Hid (i = f + j) ∧ j ≤ c ∧ iv = .int .i64 (i : Int) ∧ xv = .int .u64 (x : Int) ∧ Hid (x = bitsV zs f j)) (fun xv iv => ((f : Int) + c - intOf iv).toNat)
  case atStart => exact ⟨0, f, 0, rfl, by omega, rfl, rfl, rfl⟩
  case round =>
    obtain ⟨j, i, x, Hi, hj, rfl, rfl, hx⟩ := hrel
    have hi := Hi.out
    by_cases hjc : j < c
    · obtain ⟨q, hq⟩ : ∃ q, i / 8 = q := ⟨_, rfl⟩
      obtain ⟨r, hr'⟩ : ∃ r, i % 8 = r := ⟨_, rfl⟩
      have hqI : (i : Int) / 8 = (q : Int) := by omega
      have hrI : (i : Int) % 8 = (r : Int) := by omega
      have hcell := hr.cell q (by omega)
      have hsm := hs q
      obtain ⟨y, hy⟩ : ∃ y, zs.getD q 0 = y := ⟨_, rfl⟩
      rw [hy] at hcell hsm
      have hql : q < zs.length := by omega
      have hr8 : r < 8 := by omega
      have HH : Hid (_ ∧ _ ∧ _ ∧ _) := ⟨hi, hq, hr', hy⟩
      have hic : (i : Int) < (f : Int) + (c : Int) := by omega
      have hib : (i : Int) ≤ 8000 := by omega
      clear hi hq hr' hy
      go_wp2
      obtain ⟨hi, hq, hr', hy⟩ := HH.out
      have hxl := bitsV_lt zs f j
      have hpw : (2 : Nat) ^ j ≤ 2 ^ 63 := Nat.pow_le_pow_right (by omega) (by omega)
      refine ⟨⟨j + 1, i + 1, 2 * x + y / 2 ^ (7 - r) % 2, ?_, by omega, rfl, ?_, ?_⟩, ?_⟩
      · show i + 1 = f + (j + 1)
        omega
      · rw [bit_join x y r (by have := hx.out; omega) hsm]
      · show 2 * x + y / 2 ^ (7 - r) % 2 = bitsV zs f (j + 1)
        have := hx.out
        rw [bitsV, ← this, bitB, ← hi, hq, hr', hy]
      · simp only [intOf]
        omega
    · have hd : ¬ ((i : Int) < (f : Int) + (c : Int)) := by omega
      have hjc' : j = c := by omega
      have HX : Hid (_ ∧ _) := ⟨hx.out, hjc'⟩
      have hib : (i : Int) ≤ 8000 := by omega
      clear hi hjc'
      go_wp2
      go_ret
      obtain ⟨h1, h2⟩ := HX.out
      subst h1 h2
      exact ⟨rfl, rfl⟩
end Go.Proofs.YtgbccbmflokooaaGreatDoor

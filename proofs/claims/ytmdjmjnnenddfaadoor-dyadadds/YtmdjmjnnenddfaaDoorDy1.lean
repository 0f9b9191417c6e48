/-
  Contracts of bits.TrailingZeros32 (its table laid) and of Twos.
-/
import Derived.Test.YtmdjmjnnenddfaaDoorDz
import Derived.Test.YtmdjmjnnenddfaaDoorLaws2
import Derived.Test.YtmdjmjnnenddfaaDoorRef6
import Derived.Shelf.Spec.TrailingZeros
namespace Go.Proofs.YtmdjmjnnenddfaaDoor
open Go.RowKit

/-- The library's table lies in its variable. -/
def Tab (w : World) : Prop := ∀ j, j < 32 → w.cell? ⟨0, j, none⟩ = some (.int .u8 ((Lib.deBruijn32tab.getD j 0 : Nat) : Int))

theorem Tab.later {w w' : World} (h : Tab w) (hb : Below w.heap.size w w') : Tab w' := fun j hj => cell_later hb (h j hj)

theorem cmpI_nl {a b : Int} (h : b ≤ a) : decide (cmpI a b < 0) = false := by
  unfold cmpI
  rw [if_neg (by omega)]
  by_cases h2 : b < a
  · rw [if_pos h2]; rfl
  · rw [if_neg h2]; rfl

set_option maxRecDepth 100000 in
theorem tz32_core (x k idx : Nat) (w : World) (hx0 : ((x : Int) == 0) = false)
    (key : bits BinOp.and IntKind.u32 (x : Int) (-(x : Int) % 4294967296) * 125613361 % 4294967296 / 134217728 = (idx : Int))
    (hi : idx < 32) (hk : k < 32) (hcell : w.cell? ⟨0, idx, none⟩ = some (.int .u8 k)) :
    Calls Tryd.prog 85 #[.int .u32 x] w fun e w' => e = .returned (.int .i64 k) ∧ w' = w := by
  go_enter Tryd.func85, Tryd.ntmps85
  go_wp2_with (simp only [key])
  go_ret
  exact ⟨rfl, rfl⟩

theorem tz32_any (x : Nat) (w : World) (hx : x < 4294967296) (hx0 : x ≠ 0) (hT : Tab w) :
    Calls Tryd.prog 85 #[.int .u32 x] w fun e w' => ∃ k m : Nat, e = .returned (.int .i64 k) ∧ x = 2 ^ k * (2 * m + 1) ∧ k < 32 ∧ w' = w := by
  obtain ⟨hlow, hk⟩ := Lib.lowest_bit 32 x hx0 hx
  obtain ⟨hi, htab⟩ := Lib.deBruijn32_at _ hk
  obtain ⟨m, hm, _⟩ := Lib.ctzFrom_spec 32 x (by omega) hx
  have e0 : Lib.ctz 32 x = Lib.ctzFrom 32 x := by simp [Lib.ctz, hx0]
  have hcell := hT _ hi
  rw [htab] at hcell
  refine (tz32_core x _ _ w (by simp; omega) (tz32_key x _ hx hx0 hlow) hi hk hcell).mono ?_
  rintro e w' ⟨rfl, rfl⟩
  exact ⟨_, m, rfl, by rw [e0]; exact hm, hk, rfl⟩

theorem zeros_mul (l : List Nat) (k : Nat) (h : ∀ j, j < k → l.getD j 0 = 0) : ∃ q, Dg.vl 4294967296 l = 4294967296 ^ k * q := by
  by_cases hk : k ≤ l.length
  · refine ⟨Dg.vl 4294967296 (l.drop k), ?_⟩
    rw [Dg.vl_take_drop 4294967296 l k hk, Dg.vl_zeros 4294967296 (l.take k) (fun i => ?_), Nat.zero_add]
    by_cases hi : i < k
    · have := h i hi
      simpa [List.getD_eq_getElem?_getD, List.getElem?_take, hi] using this
    · simp [List.getD_eq_getElem?_getD, List.getElem?_take, hi]
  · refine ⟨0, ?_⟩
    rw [Nat.mul_zero]
    exact Dg.vl_zeros _ _ (fun i => by
      by_cases hi : i < k
      · exact h i hi
      · simp [List.getD_eq_getElem?_getD, show l.length ≤ i from by omega])

/-- The first digit that is not 0 tells. -/
theorem tz_digit (l : List Nat) (k t m : Nat) (hk : k < l.length) (h : ∀ j, j < k → l.getD j 0 = 0) (hd : l.getD k 0 = 2 ^ t * (2 * m + 1)) (ht : t < 32) : tz (Dg.vl 4294967296 l) = 32 * k + t := by
  have h1 := Dg.vl_split 4294967296 l k hk
  have h0 : Dg.vl 4294967296 (l.take k) = 0 := Dg.vl_zeros 4294967296 (l.take k) (fun i => by
    by_cases hi : i < k
    · have := h i hi
      simpa [List.getD_eq_getElem?_getD, List.getElem?_take, hi] using this
    · simp [List.getD_eq_getElem?_getD, List.getElem?_take, hi])
  rw [h0, hd, Nat.zero_add] at h1
  obtain ⟨u, hu⟩ : ∃ u, Dg.vl 4294967296 (l.drop (k + 1)) = u := ⟨_, rfl⟩
  rw [hu] at h1
  have e32 : (4294967296 : Nat) = 2 ^ t * (2 * 2 ^ (31 - t)) := by
    have : (4294967296 : Nat) = 2 ^ (t + (1 + (31 - t))) := by rw [show t + (1 + (31 - t)) = 32 from by omega]
    rw [this, Nat.pow_add, Nat.pow_add, Nat.pow_one]
  have e1 : (2 : Nat) ^ (32 * k) = 4294967296 ^ k := by rw [Nat.pow_mul]
  refine tz_eq (m := m + 2 ^ (31 - t) * u) ?_
  rw [h1, Nat.pow_add, e1, Nat.mul_assoc]
  congr 1
  generalize 2 ^ (31 - t) = c at *
  have e2 : 4294967296 * u = 2 ^ t * (2 * (c * u)) := by rw [e32]; simp only [Nat.mul_assoc]
  rw [e2, ← Nat.mul_add]
  congr 1
  omega

set_option maxRecDepth 100000 in
theorem twos_any (v : Value) (n : Nat) (w : World) (hv : Rd w .u32 v (Dg.dg 4294967296 n)) (hL : (Dg.dg 4294967296 n).length ≤ 1000000) (hT : Tab w) :
    Calls Tryd.prog 75 #[v] w fun e w' => e = .returned (.int .i64 ((if n = 0 then 0 else tz n : Nat) : Int)) ∧ w' = w := by
  have hs := Dg.small_dg 4294967296 n (by omega)
  have hvl := Dg.vl_dg 4294967296 n (by omega)
  have hz : (∀ j, (Dg.dg 4294967296 n).getD j 0 = 0) → n = 0 := fun h => by rw [← hvl]; exact Dg.vl_zeros _ _ h
  obtain ⟨xs, hx⟩ : ∃ xs, Dg.dg 4294967296 n = xs := ⟨_, rfl⟩
  rw [hx] at hv hs hvl hz hL
  obtain ⟨ao, ca, rfl⟩ := hv.shape
  obtain ⟨hlc, hm, hcb⟩ := rd_open hv
  have HZ : Hid (∀ k, xs.length ≤ k → (∀ j, j < k → xs.getD j 0 = 0) → n = 0) := fun k hk h => hz (fun j => by
    by_cases hj : j < k
    · exact h j hj
    · simp [List.getD_eq_getElem?_getD, show xs.length ≤ j from by omega])
  have HN : Hid (Dg.vl 4294967296 xs = n) := hvl
  clear hx hz hvl hv
  go_enter Tryd.func75, Tryd.ntmps75
  go_wp2
  go_loop [7] (fun iv => ∃ k : Nat, k ≤ xs.length ∧ iv = .int .i64 k ∧ Hid (∀ j, j < k → xs.getD j 0 = 0)) (fun iv => xs.length - (intOf iv).toNat)
  case atStart => exact ⟨0, Nat.zero_le _, rfl, fun j hj => absurd hj (Nat.not_lt_zero j)⟩
  case round =>
    obtain ⟨k, hk, rfl, hzk⟩ := hrel
    by_cases hlt : k < xs.length
    · obtain ⟨b, off, rfl, hcell⟩ := hcb (by omega)
      have hc := hcell k hlt
      have hl := hs k
      obtain ⟨x, hx⟩ : ∃ x, xs.getD k 0 = x := ⟨_, rfl⟩
      rw [hx] at hc hl
      have HX : Hid (xs.getD k 0 = x) := hx
      clear hx hcell hcb
      by_cases hx0 : x = 0
      · subst hx0
        go_wp2
        go_round
        case rel => exact ⟨k + 1, by omega, by go_num, fun j hj => by
          by_cases e : j = k
          · rw [e]; exact HX.out
          · exact hzk.out j (by omega)⟩
        case measure => simp [intOf]; omega
      · have ht := tz32_any x w hl hx0 hT
        have h0 : ((x : Int) == 0) = false := by simp; exact hx0
        go_wp2_with fail
        refine ht.mono ?_
        rintro e w' ⟨t, m, rfl, hxm, htl, rfl⟩
        have e1 := tz_digit xs k t m hlt hzk.out (by rw [HX.out]; exact hxm) htl
        rw [HN.out] at e1
        have hn0 : n ≠ 0 := by
          intro e
          have h2 := dig_of 4294967296 xs k (by omega) hs (by rw [HN.out]; exact e)
          rw [HX.out] at h2
          exact hx0 h2
        clear ht hxm
        go_wp2
        go_ret
        refine ⟨?_, rfl⟩
        first | rfl | (rw [e1]; rfl) | (simp only [e1]; rfl) | (show Ending.returned (Value.int IntKind.i64 (32 * (k : Int) + (t : Int))) = _; rw [e1]; rfl)
    · have hn0 := HZ.out k (by omega) hzk.out
      go_wp2
      go_ret
      subst hn0
      exact ⟨rfl, rfl⟩
end Go.Proofs.YtmdjmjnnenddfaaDoor

/-
  Plain facts for one round of the long division, and for its start.
-/
import Derived.Test.YtepcafhlhnlgaaaBack
namespace Go.Proofs.Ytepcafhlhnlgaaa
open Go.RowKit

theorem dig_at (B : Nat) (l : List Nat) (j : Nat) (hB : 0 < B) (hs : Dg.Small B l) : l.getD j 0 = Dg.vl B l / B ^ j % B := by
  by_cases h : j < l.length
  · have h1 := Dg.vl_split B l j h
    have h2 := Dg.vl_lt B (l.take j) (Dg.small_take hs j hB)
    rw [List.length_take, Nat.min_eq_left (by omega)] at h2
    rw [h1, Nat.add_mul_div_left _ _ (Nat.pow_pos hB), Nat.div_eq_of_lt h2, Nat.zero_add, Nat.add_mul_mod_self_left]
    exact (Nat.mod_eq_of_lt (hs j)).symm
  · rw [Dg.getD_of_le l j (by omega)]
    have h2 := Dg.vl_lt B l hs
    have h3 : B ^ l.length ≤ B ^ j := Nat.pow_le_pow_right hB (by omega)
    rw [Nat.div_eq_of_lt (by omega), Nat.zero_mod]

theorem vl_lt_zeros (B : Nat) (l : List Nat) (m : Nat) (hB : 0 < B) (hs : Dg.Small B l) (hz : ∀ j, m ≤ j → l.getD j 0 = 0) : Dg.vl B l < B ^ m := by
  by_cases h : m ≤ l.length
  · rw [Dg.vl_take_drop B l m h]
    have h1 : Dg.vl B (l.drop m) = 0 := Dg.vl_zeros B _ (fun i => by
      have := hz (m + i) (by omega)
      simpa [List.getD_eq_getElem?_getD, List.getElem?_drop] using this)
    have h2 := Dg.vl_lt B (l.take m) (Dg.small_take hs m hB)
    rw [List.length_take, Nat.min_eq_left h] at h2
    rw [h1, Nat.mul_zero, Nat.add_zero]
    exact h2
  · have h2 := Dg.vl_lt B l hs
    have h3 : B ^ l.length ≤ B ^ m := Nat.pow_le_pow_right hB (by omega)
    omega

theorem zeros_of_lt (B : Nat) (l : List Nat) (m : Nat) (hB : 0 < B) (hs : Dg.Small B l) (h : Dg.vl B l < B ^ m) (j : Nat) (hj : m ≤ j) : l.getD j 0 = 0 := by
  rw [dig_at B l j hB hs]
  have h3 : B ^ m ≤ B ^ j := Nat.pow_le_pow_right hB hj
  rw [Nat.div_eq_of_lt (by omega), Nat.zero_mod]

theorem top_le {B X D i n : Nat} (hB : 0 < B) (hn : 1 ≤ n) (hX : X < D * B ^ (i + 1)) : X / B ^ (i + n) ≤ D / B ^ (n - 1) := by
  have e : i + n = (i + 1) + (n - 1) := by omega
  rw [e, Nat.pow_add, ← Nat.div_div_eq_div_mul]
  apply Nat.div_le_div_right
  have := (Nat.div_lt_iff_lt_mul (Nat.pow_pos hB)).2 hX
  omega

/-- Three digits side by side. -/
theorem three (B X m : Nat) (hB : 0 < B) (hX : X < B ^ (m + 3)) : ((X / B ^ (m + 2) % B) * B + X / B ^ (m + 1) % B) * B + X / B ^ m % B = X / B ^ m := by
  have h1 : X / B ^ (m + 1) = X / B ^ m / B := by rw [Nat.pow_succ, Nat.div_div_eq_div_mul]
  have h2 : X / B ^ (m + 2) = X / B ^ m / B / B := by rw [show m + 2 = m + 1 + 1 from rfl, Nat.pow_succ, ← Nat.div_div_eq_div_mul, h1]
  have h3 : X / B ^ (m + 2) < B := by
    rw [Nat.div_lt_iff_lt_mul (Nat.pow_pos hB)]
    have : B ^ (m + 3) = B * B ^ (m + 2) := by rw [show m + 3 = m + 2 + 1 from rfl, Nat.pow_succ, Nat.mul_comm]
    omega
  rw [Nat.mod_eq_of_lt h3, h2, h1]
  generalize X / B ^ m = u
  have a1 := Nat.div_add_mod (u / B) B
  have a2 := Nat.div_add_mod u B
  rw [Nat.mul_comm (u / B / B) B, a1, Nat.mul_comm, a2]

theorem two (B D m : Nat) (hB : 0 < B) (hD : D < B ^ (m + 2)) : (D / B ^ (m + 1) % B) * B + D / B ^ m % B = D / B ^ m := by
  have h1 : D / B ^ (m + 1) = D / B ^ m / B := by rw [Nat.pow_succ, Nat.div_div_eq_div_mul]
  have h3 : D / B ^ (m + 1) < B := by
    rw [Nat.div_lt_iff_lt_mul (Nat.pow_pos hB)]
    have : B ^ (m + 2) = B * B ^ (m + 1) := by rw [show m + 2 = m + 1 + 1 from rfl, Nat.pow_succ, Nat.mul_comm]
    omega
  rw [Nat.mod_eq_of_lt h3, h1]
  have a2 := Nat.div_add_mod (D / B ^ m) B
  rw [Nat.mul_comm, a2]

theorem lt_next (x : Nat) {E : Nat} (h : 0 < E) : x < (x / E + 1) * E := by
  have h1 := Nat.div_add_mod x E
  have h2 := Nat.mod_lt x h
  rw [Nat.add_mul, Nat.one_mul, Nat.mul_comm]
  generalize x % E = r at *
  omega

theorem guess_right {B X D i m g : Nat} (hB : 0 < B) (hX : X < D * B ^ (i + 1)) (hD : B ^ (m + 1) ≤ D) (hg : g < B)
    (hlow : ∀ k, k * (D / B ^ m) ≤ X / B ^ (i + m) → k < B → k ≤ g) (hup : g * (D / B ^ m) ≤ X / B ^ (i + m)) :
    X / B ^ i / D < B ∧ (g = X / B ^ i / D ∨ g = X / B ^ i / D + 1) := by
  have hE : 0 < B ^ m := Nat.pow_pos hB
  have hD0 : 0 < D := Nat.lt_of_lt_of_le (Nat.pow_pos hB) hD
  have hqB : X / B ^ i / D < B := by
    rw [Nat.div_lt_iff_lt_mul hD0, Nat.div_lt_iff_lt_mul (Nat.pow_pos hB), Nat.mul_assoc, Nat.mul_comm B, Nat.mul_assoc, ← Nat.pow_succ]
    exact hX
  refine ⟨hqB, ?_⟩
  rw [Nat.pow_add, ← Nat.div_div_eq_div_mul] at hlow hup
  generalize hseg : X / B ^ i = seg at *
  have hv1 : D / B ^ m * B ^ m ≤ D := Nat.div_mul_le_self D _
  have hv2 : D ≤ (D / B ^ m + 1) * B ^ m := by have := lt_next D hE; omega
  have hu1 : seg / B ^ m * B ^ m ≤ seg := Nat.div_mul_le_self seg _
  have hu2 : seg < (seg / B ^ m + 1) * B ^ m := lt_next seg hE
  have hvB : B ≤ D / B ^ m := by
    rw [Nat.le_div_iff_mul_le hE, Nat.mul_comm, ← Nat.pow_succ]
    exact hD
  have l1 := guess_lower hE hu2 hv1 (Nat.div_mul_le_self seg D)
  have l2 := hlow _ l1 hqB
  have l3 := guess_upper hup (by omega) hu1 hv2
  have l4 : g - 1 ≤ seg / D := (Nat.le_div_iff_mul_le hD0).2 l3
  omega

theorem quot_bounds {X D i B : Nat} (hB : 0 < B) (hD : 0 < D) : B ^ i * (D * (X / B ^ i / D)) ≤ X ∧ X < B ^ i * (D * (X / B ^ i / D)) + B ^ i * D := by
  have hE : 0 < B ^ i := Nat.pow_pos hB
  have h1 := Nat.div_add_mod X (B ^ i)
  have h2 := Nat.div_add_mod (X / B ^ i) D
  have h3 := Nat.mod_lt X hE
  have h4 := Nat.mod_lt (X / B ^ i) hD
  generalize X / B ^ i / D = q at *
  generalize X / B ^ i % D = r2 at *
  generalize X % B ^ i = r1 at *
  generalize X / B ^ i = s at *
  have h5 : B ^ i * (D * q) ≤ B ^ i * s := Nat.mul_le_mul_left _ (by omega)
  have h6 : B ^ i * (s + 1) ≤ B ^ i * (D * q + D) := Nat.mul_le_mul_left _ (by omega)
  rw [Nat.mul_add, Nat.mul_add, Nat.mul_one] at h6
  omega

theorem take_which {X Z T a c x g q b : Nat} (h1 : a ≤ X) (h2 : X < a + c) (hx : x = a ∨ x = a + c) (hg : (x = a → g = q) ∧ (x = a + c → g = q + 1)) (hZ : Z + x = X + T * b) (hZl : Z < T) (hb : b ≤ 1) :
    (b = 0 → g = q ∧ Z + a = X) ∧ (b = 1 → g = q + 1 ∧ Z + (a + c) = X + T) := by
  constructor
  · intro e
    subst e
    rcases hx with e | e
    · exact ⟨hg.1 e, by omega⟩
    · omega
  · intro e
    subst e
    rcases hx with e | e
    · omega
    · exact ⟨hg.2 e, by omega⟩

/-- One round where nothing was borrowed. -/
theorem round_even {R cur ys : List Nat} {i g b q X D : Nat} (hT : Took R cur ys i g b) (sR : Dg.Small 4294967296 R) (hX : Dg.vl 4294967296 R = X) (hD : Dg.vl 4294967296 ys = D) (hD0 : 0 < D) (hDl : D < 4294967296 ^ ys.length)
    (hl : X < D * 4294967296 ^ (i + 1)) (hq : X / 4294967296 ^ i / D = q) (hg : g = q ∨ g = q + 1) :
    (b = 0 → g = q ∧ Dg.vl 4294967296 cur + 4294967296 ^ i * (D * q) = X ∧ Dg.vl 4294967296 cur < D * 4294967296 ^ i) ∧
    (b = 1 → g = q + 1 ∧ ∀ (cur' : List Nat) (o : Nat), Backed cur cur' ys i o → Dg.vl 4294967296 cur' + 4294967296 ^ i * (D * q) = X ∧ Dg.vl 4294967296 cur' < D * 4294967296 ^ i) := by
  have hXT : X < 4294967296 ^ (i + ys.length + 1) := by
    have e1 : D * 4294967296 ^ (i + 1) ≤ 4294967296 ^ ys.length * 4294967296 ^ (i + 1) := Nat.mul_le_mul_right _ (by omega)
    rw [← Nat.pow_add, show ys.length + (i + 1) = i + ys.length + 1 from by omega] at e1
    omega
  have hzR : ∀ j, i + ys.length + 1 ≤ j → R.getD j 0 = 0 := fun j hj => zeros_of_lt 4294967296 R _ (by omega) sR (by rw [hX]; exact hXT) j hj
  obtain ⟨t1, t2, t3, t4, t5⟩ := hT
  have hzc : ∀ j, i + ys.length + 1 ≤ j → cur.getD j 0 = 0 := fun j hj => by rw [t3 j (by omega)]; exact hzR j hj
  have hcl := vl_lt_zeros 4294967296 cur _ (by omega) t2 hzc
  have hb := quot_bounds (X := X) (D := D) (i := i) (B := 4294967296) (by omega) hD0
  rw [hq] at hb
  rw [hX, hD] at t5
  have e3 : 4294967296 ^ i * (D * (q + 1)) = 4294967296 ^ i * (D * q) + 4294967296 ^ i * D := by rw [Nat.mul_add, Nat.mul_one, Nat.mul_add]
  have e4 : 4294967296 ^ i * D ≤ 4294967296 ^ (i + ys.length + 1) := by
    have e1 : 4294967296 ^ i * D ≤ 4294967296 ^ i * 4294967296 ^ ys.length := Nat.mul_le_mul_left _ (by omega)
    rw [← Nat.pow_add] at e1
    have e2 : (4294967296 : Nat) ^ (i + ys.length) ≤ 4294967296 ^ (i + ys.length + 1) := Nat.pow_le_pow_right (by omega) (by omega)
    omega
  have e5 : D * 4294967296 ^ i = 4294967296 ^ i * D := Nat.mul_comm _ _
  have hc0 : 0 < 4294967296 ^ i * D := Nat.mul_pos (Nat.pow_pos (by omega)) hD0
  have hx : 4294967296 ^ i * (D * g) = 4294967296 ^ i * (D * q) ∨ 4294967296 ^ i * (D * g) = 4294967296 ^ i * (D * q) + 4294967296 ^ i * D := by
    rcases hg with e | e
    · left; rw [e]
    · right; rw [e, e3]
  have hgq : (4294967296 ^ i * (D * g) = 4294967296 ^ i * (D * q) → g = q) ∧ (4294967296 ^ i * (D * g) = 4294967296 ^ i * (D * q) + 4294967296 ^ i * D → g = q + 1) := by
    constructor
    · intro e
      rcases hg with h | h
      · exact h
      · rw [h, e3] at e; omega
    · intro e
      rcases hg with h | h
      · rw [h] at e; omega
      · exact h
  have hw := take_which hb.1 hb.2 hx hgq t5 hcl t4
  rw [e5]
  have hb2 := hb.2
  have hb1 := hb.1
  refine ⟨fun h0 => ?_, fun h1 => ?_⟩
  · have := hw.1 h0
    exact ⟨this.1, this.2, by omega⟩
  · have h2 := hw.2 h1
    refine ⟨h2.1, fun cur' o hB => ?_⟩
    obtain ⟨b1, b2, b3, b4, b5⟩ := hB
    have hzc' : ∀ j, i + ys.length + 1 ≤ j → cur'.getD j 0 = 0 := fun j hj => by rw [b3 j (by omega)]; exact hzc j hj
    have hcl' := vl_lt_zeros 4294967296 cur' _ (by omega) b2 hzc'
    rw [hD] at b5
    have h3 := h2.2
    have ho : o = 0 ∨ o = 1 := by omega
    clear hw hx hgq t5 hzR hzc hzc' t1 t2 t3 b1 b2 b3 h2 hl hXT
    rcases ho with ho | ho
    · subst ho
      rw [Nat.mul_zero] at b5
      omega
    · subst ho
      rw [Nat.mul_one] at b5
      omega
end Go.Proofs.Ytepcafhlhnlgaaa

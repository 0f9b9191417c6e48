/-
  Grids: the mathematics of Step.
-/
import Derived.Test.YtmjhlflemfkflaaDoorGm1
import Derived.Test.YtmjhlflemfkflaaDoorGm2
namespace Go.Proofs.YtmjhlflemfkflaaDoor
open Go.RowKit

theorem bits_of {d j k : Nat} (h1 : 2 ^ j ≤ d) (h2 : d < 2 ^ k) : j < bitLen d ∧ bitLen d ≤ k := by
  have a := lt_bits d j
  have b := bitLen_le_of d k h2
  omega

theorem power_spot {R D k : Int} {d : Nat} (hD : 1 ≤ D) (h1 : 2 ^ (widthN R * (D - 1).toNat) ≤ d) (h2 : d < 2 ^ (widthN R * D.toNat)) : powerR R D ((bitLen d : Int) - 1 + (widthN R : Int) * k) = k := by
  obtain ⟨b1, b2⟩ := bits_of h1 h2
  unfold powerR
  obtain ⟨b, hb⟩ : ∃ b, bitLen d = b := ⟨_, rfl⟩
  rw [hb] at b1 b2 ⊢
  unfold widthN at *
  split at b1 <;> simp_all <;> omega

theorem power_low {R D k : Int} {d : Nat} (hD : 1 ≤ D) (h2 : d < 2 ^ (widthN R * D.toNat)) : powerR R D ((bitLen d : Int) - 1 + (widthN R : Int) * k) ≤ k := by
  have b2 := bitLen_le_of d _ h2
  unfold powerR
  obtain ⟨b, hb⟩ : ∃ b, bitLen d = b := ⟨_, rfl⟩
  rw [hb] at b2 ⊢
  unfold widthN at *
  split at b2 <;> simp_all <;> omega

/-- A row of digits at a power: its spot. -/
theorem spot_is {R D L k : Int} {gr : Bool} {d : Nat} (hD : 1 ≤ D) (h2 : d < 2 ^ (widthN R * D.toNat)) (hk : L ≤ k) (hf : 2 ^ (widthN R * (D - 1).toNat) ≤ d ∨ (gr = true ∧ k = L)) : spotK R D L gr d ((widthN R : Int) * k) = k := by
  unfold spotK
  rcases hf with h1 | ⟨rfl, rfl⟩
  · rw [power_spot hD h1 h2, decide_eq_false (by omega)]
    rfl
  · have h := power_low (k := k) hD h2
    by_cases c : powerR R D ((bitLen d : Int) - 1 + (widthN R : Int) * k) < k
    · rw [decide_eq_true c]
      rfl
    · rw [decide_eq_false c]
      show powerR R D ((bitLen d : Int) - 1 + (widthN R : Int) * k) = k
      omega

theorem held_spot {R D L G k : Int} {gr : Bool} {d : Nat} (hD : 1 ≤ D) (h2 : d < 2 ^ (widthN R * D.toNat)) (hk : L ≤ k) (hf : 2 ^ (widthN R * (D - 1).toNat) ≤ d ∨ (gr = true ∧ k = L)) (h0 : d ≠ 0) : heldB R D L G gr d ((widthN R : Int) * k) = decide (k ≤ G) := by
  unfold heldB
  rw [spot_is hD h2 hk hf]
  refine decide_eq_decide.2 ?_
  omega

theorem held_zero (R D L G : Int) (gr : Bool) (e : Int) : heldB R D L G gr 0 e = true := decide_eq_true (.inl rfl)

theorem width_mono (R : Int) {a b : Int} (h : a ≤ b) : (widthN R : Int) * a ≤ (widthN R : Int) * b := by
  unfold widthN
  split <;> omega

theorem width_lt (R : Int) {a b : Int} (h : a < b) : (widthN R : Int) * a < (widthN R : Int) * b := by
  unfold widthN
  split <;> omega

/-- What has a bit below the grid's least place. -/
theorem held_under {R D L G e : Int} {gr : Bool} {m : Nat} (h0 : m ≠ 0) (he : e + (tz m : Int) < (widthN R : Int) * L) : heldB R D L G gr m e = false := by
  refine decide_eq_false ?_
  rintro (h | ⟨h1, -, h3⟩)
  · exact h0 h
  · have := width_mono R h1
    omega

/-- What has a bit below its own row of digits. -/
theorem held_fine {R D L G k : Int} {gr : Bool} {m : Nat} (hD : 1 ≤ D) (ht : tz m = 0) (h1 : 2 ^ (widthN R * D.toNat) ≤ m) : heldB R D L G gr m ((widthN R : Int) * (k - 1)) = false := by
  refine decide_eq_false ?_
  have h0 : m ≠ 0 := by
    have := two_pos (widthN R * D.toNat)
    omega
  rintro (h | ⟨-, -, h3⟩)
  · exact h0 h
  · have hp : k ≤ powerR R D ((bitLen m : Int) - 1 + (widthN R : Int) * (k - 1)) := by
      have a := lt_bits m (widthN R * D.toNat)
      have b : widthN R * D.toNat < bitLen m := by omega
      unfold powerR
      obtain ⟨n, hn⟩ : ∃ n, bitLen m = n := ⟨_, rfl⟩
      rw [hn] at b ⊢
      clear h3 a h1
      unfold widthN at *
      split at b <;> simp_all <;> omega
    have hs : k ≤ spotK R D L gr m ((widthN R : Int) * (k - 1)) := by
      unfold spotK
      split
      · rename_i c
        have := of_decide_eq_true (Bool.and_eq_true_iff.1 c).1
        omega
      · exact hp
    have := width_mono R hs
    have := width_lt R (show k - 1 < k by omega)
    omega
end Go.Proofs.YtmjhlflemfkflaaDoor

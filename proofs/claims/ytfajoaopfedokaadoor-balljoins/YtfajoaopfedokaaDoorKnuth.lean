/-
  Plain facts on long division: a guess by the uppermost digits is right, or one too great.
-/
import Derived.Test.YtfajoaopfedokaaDoorMem
namespace Go.Proofs.YtfajoaopfedokaaDoor
open Go.RowKit

/-- The guess never falls below the true digit. -/
theorem guess_lower {u v seg D E q : Nat} (_hE : 0 < E) (hseg : seg < (u + 1) * E) (hD : v * E ≤ D) (hq : q * D ≤ seg) : q * v ≤ u := by
  have h1 : q * v * E ≤ q * D := by rw [Nat.mul_assoc]; exact Nat.mul_le_mul_left _ hD
  have h2 : q * v * E < (u + 1) * E := by omega
  have := Nat.lt_of_mul_lt_mul_right h2
  omega

/-- The guess is at most one too great. -/
theorem guess_upper {u v seg D E g : Nat} (hg : g * v ≤ u) (hgv : g ≤ v + 1) (hseg : u * E ≤ seg) (hD : D ≤ (v + 1) * E) : (g - 1) * D ≤ seg := by
  have h1 : (g - 1) * D ≤ (g - 1) * (v + 1) * E := by rw [Nat.mul_assoc]; exact Nat.mul_le_mul_left _ hD
  have h2 : (g - 1) * (v + 1) ≤ u := by
    rcases Nat.eq_zero_or_pos g with e | e
    · subst e; simp
    · obtain ⟨h, rfl⟩ : ∃ h, g = h + 1 := ⟨g - 1, by omega⟩
      rw [Nat.add_sub_cancel]
      rw [Nat.add_mul] at hg
      rw [Nat.mul_add]
      omega
  have h3 : (g - 1) * (v + 1) * E ≤ u * E := Nat.mul_le_mul_right _ h2
  omega

/-- What the loop of guess keeps: top is what the two uppermost digits are, d1 the divisor's uppermost one. -/
def GsI (top d1 d0 p0 g r : Nat) : Prop := g * d1 + r = top ∧ ∀ q, q * (d1 * 4294967296 + d0) ≤ top * 4294967296 + p0 → q < 4294967296 → q ≤ g

theorem gs_start (top d1 d0 p0 : Nat) (h1 : 0 < d1) (hp : p0 < 4294967296) : GsI top d1 d0 p0 (top / d1) (top % d1) := by
  refine ⟨by have := Nat.div_add_mod top d1; rw [Nat.mul_comm] at this; exact this, fun q hq _ => ?_⟩
  have h2 : q * d1 ≤ top := by
    rcases Nat.lt_or_ge top (q * d1) with h | h
    · exfalso
      have h3 : (top + 1) * 4294967296 ≤ q * d1 * 4294967296 := Nat.mul_le_mul_right _ h
      have h4 : q * d1 * 4294967296 ≤ q * (d1 * 4294967296 + d0) := by rw [Nat.mul_assoc]; exact Nat.mul_le_mul_left q (Nat.le_add_right _ _)
      omega
    · exact h
  exact (Nat.le_div_iff_mul_le h1).2 h2

theorem gs_step {top d1 d0 p0 g r : Nat} (h : GsI top d1 d0 p0 g r) (hg : 0 < g) (hc : 4294967296 ≤ g ∨ r * 4294967296 + p0 < g * d0) : GsI top d1 d0 p0 (g - 1) (r + d1) := by
  obtain ⟨h1, h2⟩ := h
  obtain ⟨k, rfl⟩ : ∃ k, g = k + 1 := ⟨g - 1, by omega⟩
  rw [Nat.add_sub_cancel]
  refine ⟨by rw [Nat.add_mul] at h1; omega, fun q hq hqB => ?_⟩
  have h3 := h2 q hq hqB
  rcases Nat.lt_or_ge k q with e | e
  · exfalso
    have hqk : q = k + 1 := by omega
    subst hqk
    rcases hc with hc | hc
    · omega
    · rw [← h1, Nat.mul_add] at hq
      rw [Nat.add_mul ((k + 1) * d1)] at hq
      rw [Nat.mul_assoc] at hq
      omega
  · exact e

/-- Where the loop ends by its own test the guess is none too great for the uppermost digits. -/
theorem gs_end {top d1 d0 p0 g r : Nat} (h : GsI top d1 d0 p0 g r) (hc : g * d0 ≤ r * 4294967296 + p0) : g * (d1 * 4294967296 + d0) ≤ top * 4294967296 + p0 := by
  rw [← h.1, Nat.mul_add, Nat.add_mul (g * d1), Nat.mul_assoc]
  omega
end Go.Proofs.YtfajoaopfedokaaDoor

/-
  Grids: the mathematics of Holds.
-/
import Derived.Test.YtmjhlflemfkflaaDoorGr1
import Derived.Test.YtmjhlflemfkflaaDoorDz
import Derived.Test.YtmjhlflemfkflaaDoorDk1
namespace Go.Proofs.YtmjhlflemfkflaaDoor
open Go.RowKit

/-- The power of a number's spot. -/
def spotK (R D L : Int) (gr : Bool) (n : Nat) (e : Int) : Int :=
  if (decide (powerR R D ((bitLen n : Int) - 1 + e) < L) && gr) = true then L else powerR R D ((bitLen n : Int) - 1 + e)

/-- Does a grid hold a number? -/
def heldB (R D L G : Int) (gr : Bool) (n : Nat) (e : Int) : Bool :=
  decide (n = 0 ∨ (L ≤ spotK R D L gr n e ∧ spotK R D L gr n e ≤ G ∧ (widthN R : Int) * spotK R D L gr n e ≤ e + (tz n : Int)))

/-- The same, as the reference asks it. -/
def inR (R D L G : Int) (gr : Bool) (m : Nat) (e : Int) : Bool :=
  decide (m = 0 ∨ ((widthN R : Int) * L ≤ e ∧ e + (bitLen m : Int) ≤ (widthN R : Int) * (G + D) ∧ (gr = true ∨ L ≤ powerR R D (e + (bitLen m : Int) - 1)) ∧ (widthN R : Int) * max L (powerR R D (e + (bitLen m : Int) - 1)) ≤ e))

theorem bare_top {t : Trip} (h : t.n ≠ 0) : (bare t).n ≠ 0 ∧ (bare t).e = t.e + (tz t.n : Int) ∧ (bare t).e + (bitLen (bare t).n : Int) = t.e + (bitLen t.n : Int) := by
  obtain ⟨m, hm⟩ := tz_spec h
  have e : (bare t).n = 2 * m + 1 ∧ (bare t).e = t.e + (tz t.n : Int) := by
    unfold bare
    rw [if_neg h]
    exact ⟨div_tz hm, rfl⟩
  have hb : bitLen t.n = tz t.n + bitLen (2 * m + 1) := by
    have := bitLen_shl (2 * m + 1) (tz t.n) (by omega)
    rwa [← hm] at this
  refine ⟨by omega, e.2, ?_⟩
  rw [e.1, e.2, hb]
  omega

theorem held_in {R D L G : Int} (gr : Bool) (t : Trip) (hLG : L ≤ G) : inR R D L G gr (bare t).n (bare t).e = heldB R D L G gr t.n t.e := by
  unfold inR heldB
  refine decide_eq_decide.2 ?_
  by_cases h : t.n = 0
  · have : (bare t).n = 0 := by unfold bare; rw [if_pos h]
    simp only [h, this, true_or]
  · obtain ⟨h1, h2, h3⟩ := bare_top h
    rw [h3]
    simp only [h1, h, false_or, h2]
    unfold spotK
    rw [show t.e + (bitLen t.n : Int) - 1 = (bitLen t.n : Int) - 1 + t.e by omega]
    obtain ⟨p, hp⟩ : ∃ p, (bitLen t.n : Int) - 1 + t.e = p := ⟨_, rfl⟩
    rw [show t.e + (bitLen t.n : Int) = p + 1 by omega, hp]
    clear h1 h2 h3 h
    obtain ⟨z, hz⟩ : ∃ z, t.e + (tz t.n : Int) = z := ⟨_, rfl⟩
    rw [hz]
    have hw : powerR R D p = p / (widthN R : Int) - (D - 1) := rfl
    obtain ⟨k, hk⟩ : ∃ k, powerR R D p = k := ⟨_, rfl⟩
    rw [hk] at hw ⊢
    clear hp hz hk
    unfold widthN at *
    cases gr <;> by_cases h16 : R = 16 <;> simp only [h16, if_true, if_false] at hw ⊢ <;> by_cases hl : k < L <;> simp [hl] <;> omega
end Go.Proofs.YtmjhlflemfkflaaDoor

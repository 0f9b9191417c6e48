/-
  Grids: the contract of find, of a mesh.
-/
import Derived.Test.YtmjhlflemfkflaaDoorGh1
import Derived.Test.YtmjhlflemfkflaaDoorGr5
namespace Go.Proofs.YtmjhlflemfkflaaDoor
open Go.RowKit

/-- The digits of a number's spot. -/
def findD (R D L : Int) (gr : Bool) (n : Nat) (e : Int) : Nat := shN n (e - (widthN R : Int) * spotK R D L gr n e)
def fD (R D L G : Int) (gr : Bool) (n : Nat) (e : Int) : Nat := if n = 0 then 0 else if heldB R D L G gr n e = true then findD R D L gr n e else 0
def fK (R D L G : Int) (gr : Bool) (n : Nat) (e : Int) : Int := if n = 0 then L else if heldB R D L G gr n e = true then spotK R D L gr n e else 0

theorem spotK_range {R D L G : Int} {gr : Bool} {n : Nat} {e : Int} (hg : gridC R D L G = 0) (hb : bitLen n ≤ 40000) (e1 : -100000 ≤ e) (e2 : e ≤ 100000) :
    -341000 ≤ spotK R D L gr n e ∧ spotK R D L gr n e ≤ 341000 ∧ -341000 ≤ (widthN R : Int) * spotK R D L gr n e ∧ (widthN R : Int) * spotK R D L gr n e ≤ 341000 := by
  obtain ⟨hR, d1, d2, l1, l2, -, -, -, -⟩ := gridC_zero hg
  have hp := powerR_range (R := R) (D := D) (t := (bitLen n : Int) - 1 + e) d1 d2 (by omega) (by omega)
  unfold spotK
  split
  · unfold widthN
    split <;> simp <;> omega
  · exact hp

theorem held_iff {R D L G : Int} {gr : Bool} {n : Nat} {e : Int} (h0 : n ≠ 0) : heldB R D L G gr n e = true ↔ L ≤ spotK R D L gr n e ∧ spotK R D L gr n e ≤ G ∧ (widthN R : Int) * spotK R D L gr n e ≤ e + (tz n : Int) := by
  unfold heldB
  rw [decide_eq_true_iff]
  constructor
  · rintro (h | h)
    · exact absurd h h0
    · exact h
  · exact .inr

set_option maxHeartbeats 1600000 in
theorem mfind_any (R D L G : Int) (gr s : Bool) (ao : Option Addr) (ca n : Nat) (e : Int) (w : World) (hg : gridC R D L G = 0) (hr : Rd w .u32 (.slice ao (Dg.dg 4294967296 n).length ca) (Dg.dg 4294967296 n)) (hl : (Dg.dg 4294967296 n).length ≤ 1200) (e1 : -20000 ≤ e) (e2 : e ≤ 20000) (hT : Tab w) :
    Calls Tryd.prog 88 #[.agg #[.int .i64 R, .int .i64 D, .int .i64 L, .int .i64 G, .bool gr], .agg #[.bool s, .slice ao (Dg.dg 4294967296 n).length ca, .int .i64 e]] w (FindRes w (heldB R D L G gr n e) (fD R D L G gr n e) (fK R D L G gr n e)) := by
  have hdv : Dv w (.agg #[.bool s, .slice ao (Dg.dg 4294967296 n).length ca, .int .i64 e]) ⟨s, n, e⟩ := ⟨_, rfl, hr⟩
  obtain ⟨hR, d1, d2, l1, l2, g1, g2, lg, l16⟩ := gridC_zero hg
  by_cases h0 : n = 0
  · have hh : heldB R D L G gr n e = true := decide_eq_true (.inl h0)
    rw [hh, show fD R D L G gr n e = 0 from if_pos h0, show fK R D L G gr n e = L from if_pos h0]
    refine mfind_zero R D L G gr s ao _ ca e w (fun w1 b => ?_)
    have := dsign_any _ _ w1 (hdv.later b)
    rwa [show signT ⟨s, n, e⟩ = 0 from if_pos h0] at this
  · have hbn : bitLen n ≤ 32 * 1200 := bitLen_lenG hl
    have htz := tz_fits n 1200 hl
    obtain ⟨k1, k2, k3, k4⟩ := spotK_range (gr := gr) (n := n) (e := e) hg (by omega) (by omega) (by omega)
    have hbe : (bare ⟨s, n, e⟩).e = e + (tz n : Int) := (bare_top (t := ⟨s, n, e⟩) h0).2.1
    obtain ⟨⟨bs, bn, be⟩, hbt⟩ : ∃ b, bare ⟨s, n, e⟩ = b := ⟨_, rfl⟩
    rw [hbt] at hbe
    simp only at hbe
    have hi := held_iff (R := R) (D := D) (L := L) (G := G) (gr := gr) (e := e) h0
    refine mfindW R D L G gr s ao _ ca e (signT ⟨s, n, e⟩) (bitLen n) (powerR R D ((bitLen n : Int) - 1 + e)) (spotK R D L gr n e) (widthN R) bs bn be (decide (powerR R D ((bitLen n : Int) - 1 + e) < L)) (decide (powerR R D ((bitLen n : Int) - 1 + e) < L) && gr) (heldB R D L G gr n e) (fD R D L G gr n e) (fK R D L G gr n e) w ?_ ?_ ?_ ?_ ?_ rfl rfl ?_ ?_ ?_ ?_ ?_ ?_ ?_ ?_ ?_ ?_ ?_ ?_ ?_
    · have : signT ⟨s, n, e⟩ ≠ 0 := by
        unfold signT
        rw [if_neg h0]
        split <;> decide
      simpa using this
    · exact IntWalk.i64_in _ ⟨by omega, by omega⟩
    · exact IntWalk.i64_in _ ⟨by omega, by omega⟩
    · exact IntWalk.i64_in _ ⟨by omega, by omega⟩
    · exact IntWalk.i64_in _ ⟨by omega, by omega⟩
    · intro h
      exact if_pos h
    · intro h
      exact if_neg (by rw [h]; decide)
    · intro h
      have := hi.1 h
      omega
    · intro h
      have : ¬(L ≤ spotK R D L gr n e ∧ spotK R D L gr n e ≤ G ∧ (widthN R : Int) * spotK R D L gr n e ≤ e + (tz n : Int)) := fun c => by
        rw [hi.2 c] at h
        cases h
      omega
    · intro h
      exact (if_neg h0).trans (if_pos h)
    · intro h
      have h2 : ¬heldB R D L G gr n e = true := by rw [h]; decide
      exact ⟨(if_neg h0).trans (if_neg h2), (if_neg h0).trans (if_neg h2)⟩
    · intro w1 b
      exact dsign_any _ _ w1 (hdv.later b)
    · intro w1
      exact digits_any s ao _ ca e w1
    · intro w1 b
      have := bits_any _ _ w1 (hr.later b) (Dg.small_dg _ _ (by omega)) (Dg.norm_dg _ _ (by omega)) (by omega)
      rw [Dg.vl_dg _ _ (by omega)] at this
      refine this.mono ?_
      rintro z w' ⟨rfl, rfl⟩
      exact ⟨rfl, Below.refl _ _⟩
    · intro w1
      exact gpower_any R D L G gr _ w1 d1 d2 (by omega) (by omega)
    · intro w1
      have := width_any R D L G gr w1
      rwa [widthR_nat] at this
    · intro w1 b
      have := dbare_any _ ⟨s, n, e⟩ w1 (hdv.later b) (by simp only; omega) ⟨by simp only; omega, by simp only; omega⟩ (hT.later b) (by simp only; omega)
      rwa [hbt] at this
    · intro h w1 b
      have := shifted_any _ _ (e - (widthN R : Int) * spotK R D L gr n e) w1 (hr.later b) (Dg.small_dg _ _ (by omega)) (by omega) (by omega) (by omega)
      rw [Dg.vl_dg _ _ (by omega)] at this
      rw [show fD R D L G gr n e = shN n (e - (widthN R : Int) * spotK R D L gr n e) from (if_neg h0).trans (if_pos h)]
      exact this
end Go.Proofs.YtmjhlflemfkflaaDoor

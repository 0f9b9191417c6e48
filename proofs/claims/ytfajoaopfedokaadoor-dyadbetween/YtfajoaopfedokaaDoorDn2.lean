/-
  What is cut, as answers (DyadBetween).
-/
import Derived.Test.YtfajoaopfedokaaDoorDn1
import Derived.Test.YtfajoaopfedokaaDoorDe
namespace Go.Proofs.YtfajoaopfedokaaDoor
open Go.RowKit

def cutR (s : Bool) (xs : List Nat) (e b : Int) (up : Bool) : Trip × Int := dbothR (cutchk xs e b) (cutT ⟨s, Dg.vl 4294967296 xs, e⟩ b up)
def bareR (s : Bool) (xs : List Nat) (e : Int) : Trip × Int := dbothR (dchk xs e) ⟨s, Dg.vl 4294967296 xs, e⟩

theorem cutR_ok {s : Bool} {xs : List Nat} {e b : Int} {up : Bool} {r : Trip} (h : cutR s xs e b up = (r, 0)) :
    dchk xs e = 0 ∧ 1 ≤ b ∧ b ≤ 4096 ∧ r = bare (cutT ⟨s, Dg.vl 4294967296 xs, e⟩ b up) ∧ dchk (Dg.dg 4294967296 r.n) r.e = 0 ∧ (Dg.dg 4294967296 r.n).length ≤ 1200 ∧ -20000 ≤ r.e ∧ r.e ≤ 20000 := by
  obtain ⟨h1, h2⟩ := both_ok h
  obtain ⟨h5, h6, h7, h8⟩ := short_ok h2
  unfold cutchk at h1
  by_cases h3 : dchk xs e = 0
  · rw [if_pos h3] at h1
    by_cases h4 : b < 1 ∨ 4096 < b
    · rw [if_pos h4] at h1; omega
    · exact ⟨h3, by omega, by omega, h5, dchk_of h6 h7 h8, h6, h7, h8⟩
  · rw [if_neg h3] at h1; exact absurd h1 h3

theorem short_of {t : Trip} (h1 : (Dg.dg 4294967296 (bare t).n).length ≤ 1200) (h2 : -20000 ≤ (bare t).e) (h3 : (bare t).e ≤ 20000) : shortT t = (bare t, 0) := by
  unfold shortT
  rw [if_neg (by omega), if_neg (by omega)]

theorem bare_e_ge {t : Trip} (h : t.n ≠ 0) : t.e ≤ (bare t).e ∧ (bare t).e = t.e + tz t.n := by
  unfold bare
  rw [if_neg h]
  exact ⟨by show t.e ≤ t.e + (tz t.n : Int); omega, rfl⟩

/-- Where it can be cut it can be made bare. -/
theorem bare_ok {s : Bool} {xs : List Nat} {e b : Int} {r : Trip} (sa : Dg.Small 4294967296 xs) (h : cutR s xs e b false = (r, 0)) : bareR s xs e = (bare ⟨s, Dg.vl 4294967296 xs, e⟩, 0) ∧ dchk (Dg.dg 4294967296 (bare ⟨s, Dg.vl 4294967296 xs, e⟩).n) (bare ⟨s, Dg.vl 4294967296 xs, e⟩).e = 0 := by
  obtain ⟨h1, h2, h3, h4, h5, h6, h7, h8⟩ := cutR_ok h
  obtain ⟨c1, e1, e2⟩ := dchk_zero h1
  obtain ⟨z1, z2⟩ := chk_zero c1
  have fits : (Dg.dg 4294967296 (bare ⟨s, Dg.vl 4294967296 xs, e⟩).n).length ≤ 1200 ∧ -20000 ≤ (bare ⟨s, Dg.vl 4294967296 xs, e⟩).e ∧ (bare ⟨s, Dg.vl 4294967296 xs, e⟩).e ≤ 20000 := by
    rcases cut_ways ⟨s, Dg.vl 4294967296 xs, e⟩ b false h2 with ⟨_, g2⟩ | ⟨j, q, _, g0, _, gd, _, _, _, gq, gt, g2⟩
    · rw [g2] at h4
      rw [← h4]
      exact ⟨h6, h7, h8⟩
    · obtain ⟨p1, p2⟩ := bare_e_ge (t := ⟨s, Dg.vl 4294967296 xs, e⟩) g0
      rw [g2] at h4
      have hn : (⟨s, q + (if (false != s) = true then 1 else 0), e + (j : Int)⟩ : Trip).n ≠ 0 := by
        show q + _ ≠ 0
        omega
      obtain ⟨p3, _⟩ := bare_e_ge hn
      rw [← h4] at p3
      simp only at p1 p2 p3 gd gt
      have ql := bare_n_le2 ⟨s, Dg.vl 4294967296 xs, e⟩
      simp only at ql
      refine ⟨Nat.le_trans (dg_len_mono 4294967296 _ (Dg.vl 4294967296 xs) (by omega) ql) ?_, by omega, by omega⟩
      rw [← Dg.eq_dg 4294967296 (by omega) xs _ sa z1 rfl]
      exact z2
  obtain ⟨f1, f2, f3⟩ := fits
  refine ⟨?_, dchk_of f1 f2 f3⟩
  unfold bareR dbothR
  rw [if_pos h1]
  exact short_of f1 f2 f3

theorem again_ok {s : Bool} {xs : List Nat} {e b : Int} {r : Trip} (h : cutR s xs e b false = (r, 0)) : cutR r.s (Dg.dg 4294967296 r.n) r.e b true = (r, 0) := by
  obtain ⟨h1, h2, h3, h4, h5, h6, h7, h8⟩ := cutR_ok h
  unfold cutR cutchk
  rw [if_pos h5, if_neg (by omega), trip_vl]
  unfold dbothR
  rw [if_pos rfl]
  have hb : bare r = r := by rw [h4, bare_bare]
  have hc : cutT r b true = r := by rw [h4]; exact cut_again _ b false true h2
  rw [hc]
  have := short_of (t := r) (by rw [hb]; exact h6) (by rw [hb]; exact h7) (by rw [hb]; exact h8)
  rwa [hb] at this

theorem sgn_le {z : Int} (h : z ≤ 0) : sgn z ≤ 0 := by
  unfold sgn
  split
  · omega
  · split <;> omega

theorem low_le {A : Trip} {b : Int} (hb : 1 ≤ b) : signT (plusT (bare (cutT A b false)) (negT A)) ≤ 0 := by
  rw [sign_plus]
  have hK : -(((bare (cutT A b false)).e.natAbs + A.e.natAbs : Nat) : Int) ≤ A.e := by omega
  obtain ⟨o1, _, o2, _⟩ := V_low (K := (bare (cutT A b false)).e.natAbs + A.e.natAbs) A b hb hK
  apply sgn_le
  rw [V_bare o2]
  omega

theorem high_ge {A : Trip} {b : Int} (hb : 1 ≤ b) : signT (plusT A (negT (bare (cutT A b true)))) ≤ 0 := by
  rw [sign_plus]
  have hK : -((A.e.natAbs + (bare (cutT A b true)).e.natAbs : Nat) : Int) ≤ A.e := by omega
  obtain ⟨_, o1, _, o2⟩ := V_low (K := A.e.natAbs + (bare (cutT A b true)).e.natAbs) A b hb hK
  apply sgn_le
  rw [V_bare o2]
  omega

theorem same_iff {A : Trip} {b : Int} (hb : 1 ≤ b) : (bare (cutT A b false) = bare (cutT A b true)) ↔ (bitLen (bare A).n : Int) ≤ b := by
  constructor
  · intro h
    by_cases hc : (bitLen (bare A).n : Int) ≤ b
    · exact hc
    · exact absurd h (cut_apart A b hb hc)
  · intro h
    rw [cut_few A b hb h, cut_few A b hb h]
end Go.Proofs.YtfajoaopfedokaaDoor

/-
  What sums and products of dyads have to do with one another (DyadTurns), as answers.
-/
import Derived.Test.YtmjhlflemfkflaaGreatDoorDc
namespace Go.Proofs.YtmjhlflemfkflaaGreatDoor

/-- The answer of Add (or Mul) of two raw dyads. -/
def addR (s : Bool) (xs : List Nat) (e : Int) (t : Bool) (ys : List Nat) (f : Int) : Trip × Int := dbothR (dchk2 xs e ys f) (plusT ⟨s, Dg.vl 4294967296 xs, e⟩ ⟨t, Dg.vl 4294967296 ys, f⟩)
def mulR (s : Bool) (xs : List Nat) (e : Int) (t : Bool) (ys : List Nat) (f : Int) : Trip × Int := dbothR (dchk2 xs e ys f) (timesT ⟨s, Dg.vl 4294967296 xs, e⟩ ⟨t, Dg.vl 4294967296 ys, f⟩)

theorem short_ok {t r : Trip} (h : shortT t = (r, 0)) : r = bare t ∧ (Dg.dg 4294967296 r.n).length ≤ 1200 ∧ -20000 ≤ r.e ∧ r.e ≤ 20000 := by
  unfold shortT at h
  by_cases h1 : 1200 < (Dg.dg 4294967296 (bare t).n).length
  · rw [if_pos h1] at h; simp at h
  · rw [if_neg h1] at h
    by_cases h2 : (bare t).e < -20000 ∨ 20000 < (bare t).e
    · rw [if_pos h2] at h; simp at h
    · rw [if_neg h2] at h
      simp only [Prod.mk.injEq, and_true] at h
      subst h
      exact ⟨rfl, by omega, by omega, by omega⟩

theorem dchk_of {n : Nat} {e : Int} (h : (Dg.dg 4294967296 n).length ≤ 1200) (h1 : -20000 ≤ e) (h2 : e ≤ 20000) : dchk (Dg.dg 4294967296 n) e = 0 := by
  unfold dchk
  rw [chk_of (Dg.norm_dg _ _ (by omega)) h, if_pos rfl, if_neg (by omega)]

theorem both_ok {c : Int} {t r : Trip} (h : dbothR c t = (r, 0)) : c = 0 ∧ shortT t = (r, 0) := by
  unfold dbothR at h
  by_cases h1 : c = 0
  · rw [if_pos h1] at h; exact ⟨h1, h⟩
  · rw [if_neg h1] at h; simp at h; exact absurd h.2 h1

theorem dchk2_of {xs ys : List Nat} {e f : Int} (h1 : dchk xs e = 0) (h2 : dchk ys f = 0) : dchk2 xs e ys f = 0 := by
  unfold dchk2; rw [if_pos h1]; exact h2

theorem short_bare {t u : Trip} (h : bare t = bare u) : shortT t = shortT u := by unfold shortT; rw [h]

theorem plus_comm_bare (a b : Trip) : bare (plusT a b) = bare (plusT b a) := by
  have h1 : -((a.e.natAbs + b.e.natAbs : Nat) : Int) ≤ a.e := by omega
  have h2 : -((a.e.natAbs + b.e.natAbs : Nat) : Int) ≤ b.e := by omega
  exact bare_of_V (plus_e h1 h2) (plus_e h2 h1) (by rw [V_plus h1 h2, V_plus h2 h1, Int.add_comm])

theorem add_comm_R {s t : Bool} {xs ys : List Nat} {e f : Int} (h : dchk2 xs e ys f = 0) : addR t ys f s xs e = addR s xs e t ys f := by
  obtain ⟨h1, h2⟩ := dchk2_zero h
  unfold addR
  rw [h, dchk2_of h2 h1]
  unfold dbothR
  rw [if_pos rfl, if_pos rfl]
  exact short_bare (plus_comm_bare _ _)

/-- An answer of Add that is no error, as a dyad handed on. -/
theorem addR_ok {s t : Bool} {xs ys : List Nat} {e f : Int} {r : Trip} (h : addR s xs e t ys f = (r, 0)) :
    dchk xs e = 0 ∧ dchk ys f = 0 ∧ r = bare (plusT ⟨s, Dg.vl 4294967296 xs, e⟩ ⟨t, Dg.vl 4294967296 ys, f⟩) ∧ dchk (Dg.dg 4294967296 r.n) r.e = 0 := by
  obtain ⟨h1, h2⟩ := both_ok h
  obtain ⟨h3, h4⟩ := dchk2_zero h1
  obtain ⟨h5, h6, h7, h8⟩ := short_ok h2
  exact ⟨h3, h4, h5, dchk_of h6 h7 h8⟩

theorem mulR_ok {s t : Bool} {xs ys : List Nat} {e f : Int} {r : Trip} (h : mulR s xs e t ys f = (r, 0)) :
    dchk xs e = 0 ∧ dchk ys f = 0 ∧ r = bare (timesT ⟨s, Dg.vl 4294967296 xs, e⟩ ⟨t, Dg.vl 4294967296 ys, f⟩) ∧ dchk (Dg.dg 4294967296 r.n) r.e = 0 := by
  obtain ⟨h1, h2⟩ := both_ok h
  obtain ⟨h3, h4⟩ := dchk2_zero h1
  obtain ⟨h5, h6, h7, h8⟩ := short_ok h2
  exact ⟨h3, h4, h5, dchk_of h6 h7 h8⟩

theorem trip_vl (t : Trip) : (⟨t.s, Dg.vl 4294967296 (Dg.dg 4294967296 t.n), t.e⟩ : Trip) = t := by rw [Dg.vl_dg _ _ (by omega)]

theorem assoc_R {s t u : Bool} {xs ys zs : List Nat} {e f g : Int} {r1 r3 r4 : Trip} (h1 : addR s xs e t ys f = (r1, 0)) (h3 : addR t ys f u zs g = (r3, 0))
    (h4 : addR r1.s (Dg.dg 4294967296 r1.n) r1.e u zs g = (r4, 0)) : addR s xs e r3.s (Dg.dg 4294967296 r3.n) r3.e = (r4, 0) := by
  obtain ⟨a1, _, a3, _⟩ := addR_ok h1
  obtain ⟨_, _, b3, b4⟩ := addR_ok h3
  rw [← h4]
  obtain ⟨c1, c2, _, _⟩ := addR_ok h4
  unfold addR
  rw [dchk2_of a1 b4, dchk2_of c1 c2, trip_vl, trip_vl]
  unfold dbothR
  rw [if_pos rfl, if_pos rfl]
  apply short_bare
  rw [a3, b3]
  generalize (⟨s, Dg.vl 4294967296 xs, e⟩ : Trip) = A
  generalize (⟨t, Dg.vl 4294967296 ys, f⟩ : Trip) = B
  generalize (⟨u, Dg.vl 4294967296 zs, g⟩ : Trip) = C
  have hA : -((A.e.natAbs + B.e.natAbs + C.e.natAbs : Nat) : Int) ≤ A.e := by omega
  have hB : -((A.e.natAbs + B.e.natAbs + C.e.natAbs : Nat) : Int) ≤ B.e := by omega
  have hC : -((A.e.natAbs + B.e.natAbs + C.e.natAbs : Nat) : Int) ≤ C.e := by omega
  have hAB := bare_e (plus_e hA hB)
  have hBC := bare_e (plus_e hB hC)
  exact bare_of_V (plus_e hA hBC) (plus_e hAB hC) (by
    rw [V_plus hA hBC, V_plus hAB hC, V_bare (plus_e hB hC), V_bare (plus_e hA hB), V_plus hB hC, V_plus hA hB, Int.add_assoc])

theorem times_e {K : Nat} {a b : Trip} (ha : -(K : Int) ≤ a.e) (hb : -(K : Int) ≤ b.e) : -((K + K : Nat) : Int) ≤ (timesT a b).e := by
  show _ ≤ a.e + b.e
  omega

theorem spread_R {s t u : Bool} {xs ys zs : List Nat} {e f g : Int} {r1 r6 r7 r8 : Trip} (h1 : addR s xs e t ys f = (r1, 0)) (h6 : mulR r1.s (Dg.dg 4294967296 r1.n) r1.e u zs g = (r6, 0))
    (h7 : mulR s xs e u zs g = (r7, 0)) (h8 : mulR t ys f u zs g = (r8, 0)) : addR r7.s (Dg.dg 4294967296 r7.n) r7.e r8.s (Dg.dg 4294967296 r8.n) r8.e = (r6, 0) := by
  obtain ⟨_, _, a3, _⟩ := addR_ok h1
  obtain ⟨_, _, b3, b4⟩ := mulR_ok h7
  obtain ⟨_, _, d3, d4⟩ := mulR_ok h8
  rw [← h6]
  obtain ⟨c1, c2, _, _⟩ := mulR_ok h6
  unfold addR mulR
  rw [dchk2_of b4 d4, dchk2_of c1 c2, trip_vl, trip_vl, trip_vl]
  unfold dbothR
  rw [if_pos rfl, if_pos rfl]
  apply short_bare
  rw [a3, b3, d3]
  generalize (⟨s, Dg.vl 4294967296 xs, e⟩ : Trip) = A
  generalize (⟨t, Dg.vl 4294967296 ys, f⟩ : Trip) = B
  generalize (⟨u, Dg.vl 4294967296 zs, g⟩ : Trip) = C
  have hA : -((A.e.natAbs + B.e.natAbs + C.e.natAbs : Nat) : Int) ≤ A.e := by omega
  have hB : -((A.e.natAbs + B.e.natAbs + C.e.natAbs : Nat) : Int) ≤ B.e := by omega
  have hC : -((A.e.natAbs + B.e.natAbs + C.e.natAbs : Nat) : Int) ≤ C.e := by omega
  have hAB := bare_e (plus_e hA hB)
  have hAC := bare_e (times_e hA hC)
  have hBC := bare_e (times_e hB hC)
  exact bare_of_V (plus_e hAC hBC) (times_e hAB hC) (by
    rw [V_plus hAC hBC, V_bare (times_e hA hC), V_bare (times_e hB hC), V_times hA hC, V_times hB hC, V_times hAB hC, V_bare (plus_e hA hB), V_plus hA hB, Int.add_mul])
end Go.Proofs.YtmjhlflemfkflaaGreatDoor

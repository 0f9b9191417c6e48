/-
  Texts laid together: Gn2, Dl8.
-/
import Derived.Test.YtiiphandhpilgaaGreatDoorNd31
namespace Go.Proofs.YtiiphandhpilgaaGreatDoor
open Go.RowKit
def placeC (xs : List Nat) (p R D L G : Int) : Int :=
 if chk xs = 0 then (if gridC R D L G = 0 then (if farB 20000 p = true then 3 else 0) else gridC R D L G) else chk xs
theorem farB_not {m n : Int} (h : farB m n = false) : -m ≤ n ∧ n ≤ m := by
 unfold farB at h
 simp at h
 omega
theorem placeC_fine {xs : List Nat} {p R D L G : Int} (h1 : chk xs = 0) (h2 : gridC R D L G = 0) (h3 : farB 20000 p = false) : placeC xs p R D L G = 0 := by
 unfold placeC
 rw [if_pos h1, if_pos h2, if_neg (by rw [h3]; decide)]
theorem width_power {R p : Int} (h : -20000 ≤ p ∧ p ≤ 20000) : -80000 ≤ (widthN R : Int) * p ∧ (widthN R : Int) * p ≤ 80000 := by
 unfold widthN
 split <;> simp <;> omega
theorem gnumber_any (R D L G : Int) (gr ng : Bool) (ao : Option Addr) (la ca : Nat) (p : Int) (w : World) (h : -1000000 ≤ (widthN R : Int) * p ∧ (widthN R : Int) * p ≤ 1000000) :
  Calls Tryz.prog 72 #[.agg #[.int .i64 R, .int .i64 D, .int .i64 L, .int .i64 G, .bool gr], .bool ng, .agg #[.slice ao la ca, .int .i64 p]] w fun z w' => z = .returned (.agg #[.bool ng, .slice ao la ca, .int .i64 ((widthN R : Int) * p)]) ∧ Below w.heap.size w w' := by
 refine gnumberW R D L G gr ng ao la ca p (widthN R) w (IntWalk.i64_in _ ⟨by omega, by omega⟩) (fun w1 => ?_)
 have := width_any R D L G gr w1
 rwa [widthR_nat] at this
theorem both_err {c : Int} (h : ¬c = 0) (t : Trip) : dbothR c t = (⟨false, 0, 0⟩, c) := if_neg h
theorem gNumber_any (R D L G : Int) (gr s : Bool) (ao : Option Addr) (ca : Nat) (xs : List Nat) (p : Int) (x1 x2 x3 : Bool) (w : World) (hr : Rd w .u32 (.slice ao xs.length ca) xs) (sa : Dg.Small 4294967296 xs) (hT : Tab w) :
  Calls Tryz.prog 68 #[.agg #[.bool s, .slice ao xs.length ca, .int .i64 p, .bool x1, .bool x2, .bool x3], .agg #[.int .i64 R, .int .i64 D, .int .i64 L, .int .i64 G, .bool gr]] w (DAns w (dbothR (placeC xs p R D L G) ⟨s, Dg.vl 4294967296 xs, (widthN R : Int) * p⟩)) := by
 obtain ⟨⟨⟨rs, rn, re⟩, c⟩, hrr⟩ : ∃ r, dbothR (placeC xs p R D L G) ⟨s, Dg.vl 4294967296 xs, (widthN R : Int) * p⟩ = r := ⟨_, rfl⟩
 have herr : ∀ k, placeC xs p R D L G = k → ¬k = 0 → rs = false ∧ rn = 0 ∧ re = 0 ∧ c = k := fun k h1 h2 => by
  rw [h1, both_err h2] at hrr
  simp only [Prod.mk.injEq, Trip.mk.injEq] at hrr
  exact ⟨hrr.1.1.symm, hrr.1.2.1.symm, hrr.1.2.2.symm, hrr.2.symm⟩
 rw [hrr]
 refine gNumberW R D L G gr s ao _ ca p x1 x2 x3 (widthN R) (chk xs) (gridC R D L G) c (farB 20000 p) rs rn re w ?_ ?_ ?_ ?_ ?_ ?_ ?_ ?_
 ·intro h
  exact herr _ (if_neg h) h
 ·intro h h2
  exact herr _ ((if_pos h).trans (if_neg h2)) h2
 ·intro h h2 h3
  exact herr 3 ((if_pos h).trans ((if_pos h2).trans (if_pos h3))) (by decide)
 ·intro w1 b
  refine (check_any _ xs w1 (hr.later b)).mono ?_
  rintro z w' ⟨rfl, rfl⟩
  exact ⟨rfl, Below.refl _ _⟩
 ·intro w1
  exact gcheck_any R D L G gr w1
 ·intro w1
  exact beyond_any p 20000 w1 (by omega) (by omega)
 ·intro h h2 h3 w1
  have := width_power (R := R) (farB_not h3)
  exact gnumber_any R D L G gr s ao _ ca p w1 ⟨by omega, by omega⟩
 ·intro h h2 h3 w1 b
  have hp := width_power (R := R) (farB_not h3)
  obtain ⟨n1, l1⟩ := chk_zero h
  have x1 : (Dg.dg 4294967296 (Dg.vl 4294967296 xs)).length ≤ 1200 := by rw [← Dg.eq_dg 4294967296 (by omega) xs _ sa n1 rfl]; exact l1
  rw [placeC_fine h h2 h3] at hrr
  rw [← hrr]
  exact dshort_any _ _ w1 (dv_of (hr.later b) sa n1) (by simp only; omega) ⟨by simp only; omega, by simp only; omega⟩ (hT.later b) (by have := tz_fits (Dg.vl 4294967296 xs) 1200 x1; simp only; omega)
end Go.Proofs.YtiiphandhpilgaaGreatDoor
namespace Go.Proofs.YtiiphandhpilgaaGreatDoor
open Go.RowKit
def minusT (t : Trip) : Trip := ⟨!t.s && decide (0 < t.n), t.n, t.e⟩
theorem V_minusT (K : Nat) (t : Trip) : V K (minusT t) = -V K t := by
 rw [← V_neg, V_nat, V_nat]
 unfold minusT negT
 simp only
 by_cases h : 0 < t.n
 ·simp [h]
 ·have h0 : t.n = 0 := by omega
  rw [h0, Nat.zero_mul]
  simp [sz]
theorem sign_V (K : Nat) (t : Trip) : signT t = sgn (V K t) := (sgn_V K t).symm
theorem sign_ref (A B : Trip) : signT (bare (dplusT (bare A) (minusT (bare B)))) = signT (plusT A (negT B)) := by
 have h1 : -((A.e.natAbs + B.e.natAbs : Nat) : Int) ≤ A.e := by omega
 have h2 : -((A.e.natAbs + B.e.natAbs : Nat) : Int) ≤ B.e := by omega
 have h3 : -((A.e.natAbs + B.e.natAbs : Nat) : Int) ≤ (minusT (bare B)).e := bare_e h2
 rw [sign_V (A.e.natAbs + B.e.natAbs), V_bare (dplus_e (bare_e h1) h3), V_dplus (bare_e h1) h3, V_minusT, V_bare h1, V_bare h2, sign_plus]
 congr 1
end Go.Proofs.YtiiphandhpilgaaGreatDoor

/-
  Texts laid together: Gs2, Gs4.
-/
import Derived.Test.YtmjhlflemfkflaaDoorGs1
import Derived.Test.YtmjhlflemfkflaaDoorGm1
import Derived.Test.YtmjhlflemfkflaaDoorGs3
import Derived.Test.YtmjhlflemfkflaaDoorGj
import Derived.Test.YtmjhlflemfkflaaDoorGi
/-
  Grids: the contracts of farther and nearer.
-/
namespace Go.Proofs.YtmjhlflemfkflaaDoor
open Go.RowKit

/-- The next spot away from 0. -/
def farD (R D : Int) (gr : Bool) (d : Nat) : Nat := if d = 0 ∧ gr = false then 2 ^ (widthN R * (D - 1).toNat) else carD R D (d + 1)
def farK (R D L : Int) (gr : Bool) (d : Nat) (p : Int) : Int := if d = 0 ∧ gr = false then L else carP R D (d + 1) p

/-- The next spot to 0. -/
def nearD (R D L : Int) (gr : Bool) (d : Nat) (p : Int) : Nat := if d = 2 ^ (widthN R * (D - 1).toNat) then (if L < p then 2 ^ (widthN R * D.toNat) - 1 else if gr = true then d - 1 else 0) else d - 1
def nearK (R D L : Int) (d : Nat) (p : Int) : Int := if d = 2 ^ (widthN R * (D - 1).toNat) then (if L < p then p - 1 else L) else p

theorem cmp_zero (a b : Nat) : cmpI (a : Int) (b : Int) = 0 ↔ a = b := by
  unfold cmpI
  split
  · omega
  · split <;> omega

theorem farther_any (R D L G : Int) (gr : Bool) (ao : Option Addr) (ca d : Nat) (p : Int) (w : World) (h1 : 1 ≤ D) (h2 : D ≤ 120) (hr : Rd w .u32 (.slice ao (Dg.dg 4294967296 d).length ca) (Dg.dg 4294967296 d)) (hl : (Dg.dg 4294967296 d).length ≤ 1000) (p1 : -1000000 ≤ p) (p2 : p ≤ 1000000) :
    Calls Tryd.prog 64 #[.agg #[.int .i64 R, .int .i64 D, .int .i64 L, .int .i64 G, .bool gr], .agg #[.slice ao (Dg.dg 4294967296 d).length ca, .int .i64 p]] w (SpotRes w (farD R D gr d) (farK R D L gr d p)) := by
  have hz := len_is_zero d
  refine fartherW R D L G gr ao _ ca p d (2 ^ (widthN R * (D - 1).toNat)) (carD R D (d + 1)) (carP R D (d + 1) p) (decide (d = 0 ∧ gr = false)) (farD R D gr d) (farK R D L gr d p) w ?_ ?_ ?_ ?_ ?_ ?_ ?_ ?_
  · intro h
    have := of_decide_eq_true h
    exact ⟨by rw [hz]; exact decide_eq_true this.1, this.2⟩
  · intro h
    have := of_decide_eq_false h
    by_cases h0 : d = 0
    · refine .inr ⟨by rw [hz]; exact decide_eq_true h0, ?_⟩
      cases gr
      · exact absurd ⟨h0, rfl⟩ this
      · rfl
    · exact .inl (by rw [hz]; exact decide_eq_false h0)
  · intro h
    have := of_decide_eq_true h
    exact ⟨(if_pos this).symm, (if_pos this).symm⟩
  · intro h
    have := of_decide_eq_false h
    exact ⟨if_neg this, if_neg this⟩
  · intro w1 b
    exact hr.later b
  · intro w1
    exact gfirst_any R D L G gr w1 h1 h2
  · intro v u w1 r1 r2
    have := plus_any v u _ _ w1 r1 r2 (Dg.small_dg _ _ (by omega)) (Dg.small_cons.2 ⟨by omega, Dg.small_nil _ (by omega)⟩) (by omega) (by simp)
    rwa [Dg.vl_dg _ _ (by omega), show Dg.vl 4294967296 [1] = 1 from rfl] at this
  · intro v base w1 ho hb
    exact gcarried_any R D L G gr v _ _ base w1 ho hb h1 h2 p1 p2

theorem minus_one {v u : Value} {n : Nat} {w : World} (h0 : n ≠ 0) (hl : (Dg.dg 4294967296 n).length ≤ 1000) (r1 : Rd w .u32 v (Dg.dg 4294967296 n)) (r2 : Rd w .u32 u [1]) : Calls Tryd.prog 90 #[v, u] w (Num w (n - 1)) := by
  have hne : 1 ≤ (Dg.dg 4294967296 n).length := by
    rcases Nat.eq_zero_or_pos (Dg.dg 4294967296 n).length with h | h
    · exact absurd ((Dg.dg_nil_iff 4294967296 n (by omega)).1 (List.length_eq_zero_iff.1 h)) h0
    · exact h
  have := minus_any v u _ _ w r1 r2 (Dg.small_dg _ _ (by omega)) (Dg.small_cons.2 ⟨by omega, Dg.small_nil _ (by omega)⟩) (by omega) (by simpa using hne) (by rw [Dg.vl_dg _ _ (by omega), show Dg.vl 4294967296 [1] = 1 from rfl]; omega)
  rwa [Dg.vl_dg _ _ (by omega), show Dg.vl 4294967296 [1] = 1 from rfl] at this

theorem pow_len32 {k L : Nat} (h : k < 32 * L) : (Dg.dg 4294967296 (2 ^ k)).length ≤ L := by
  refine Dg.dg_len_le 4294967296 _ _ (by omega) ?_
  rw [show (4294967296 : Nat) = 2 ^ 32 from by decide, ← Nat.pow_mul]
  exact Nat.pow_lt_pow_right (by omega) h

theorem nearer_any (R D L G : Int) (gr : Bool) (ao : Option Addr) (ca d : Nat) (p : Int) (w : World) (h1 : 1 ≤ D) (h2 : D ≤ 120) (hr : Rd w .u32 (.slice ao (Dg.dg 4294967296 d).length ca) (Dg.dg 4294967296 d)) (hl : (Dg.dg 4294967296 d).length ≤ 1000) (h0 : d ≠ 0) (p1 : -1000000 ≤ p) (p2 : p ≤ 1000000) :
    Calls Tryd.prog 63 #[.agg #[.int .i64 R, .int .i64 D, .int .i64 L, .int .i64 G, .bool gr], .agg #[.slice ao (Dg.dg 4294967296 d).length ca, .int .i64 p]] w (SpotRes w (nearD R D L gr d p) (nearK R D L d p)) := by
  have hw := Nat.mul_le_mul (widthN_le R).2 (show D.toNat ≤ 120 by omega)
  have hel : (Dg.dg 4294967296 (2 ^ (widthN R * D.toNat))).length ≤ 1000 := pow_len32 (by omega)
  refine nearerW R D L G gr ao _ ca p (cmpI (d : Int) ((2 ^ (widthN R * (D - 1).toNat) : Nat) : Int)) d (2 ^ (widthN R * (D - 1).toNat)) (2 ^ (widthN R * D.toNat)) (nearD R D L gr d p) (nearK R D L d p) w ?_ ?_ ?_ ?_ ?_ ?_ ?_ ?_ ?_ ?_ ?_
  · intro h
    exact IntWalk.i64_in _ ⟨by omega, by omega⟩
  · intro h
    have : ¬d = 2 ^ (widthN R * (D - 1).toNat) := fun c => h ((cmp_zero _ _).2 c)
    exact ⟨(if_neg this).symm, (if_neg this).symm⟩
  · intro h h3
    have := (cmp_zero _ _).1 h
    exact ⟨((if_pos this).trans (if_pos h3)).symm, ((if_pos this).trans (if_pos h3)).symm⟩
  · intro h h3 h4
    have := (cmp_zero _ _).1 h
    exact ⟨((if_pos this).trans ((if_neg h3).trans (if_pos h4))).symm, ((if_pos this).trans (if_neg h3)).symm⟩
  · intro h h3 h4
    have := (cmp_zero _ _).1 h
    exact ⟨((if_pos this).trans ((if_neg h3).trans (if_neg (by rw [h4]; decide)))).symm, ((if_pos this).trans (if_neg h3)).symm⟩
  · intro w1 b
    exact hr.later b
  · intro w1
    exact gfirst_any R D L G gr w1 h1 h2
  · intro w1
    exact gend_any R D L G gr w1 h1 h2
  · intro v u w1 r1 r2
    have := compare_any v u _ _ w1 r1 r2 (Dg.small_dg _ _ (by omega)) (Dg.small_dg _ _ (by omega)) (Dg.norm_dg _ _ (by omega)) (Dg.norm_dg _ _ (by omega))
    rwa [Dg.vl_dg _ _ (by omega), Dg.vl_dg _ _ (by omega)] at this
  · intro v u w1 r1 r2
    exact minus_one h0 hl r1 r2
  · intro v u w1 r1 r2
    exact minus_one (Nat.ne_of_gt (two_pos _)) hel r1 r2
end Go.Proofs.YtmjhlflemfkflaaDoor
/-
  Grids: the contract of Step.
-/
namespace Go.Proofs.YtmjhlflemfkflaaDoor
open Go.RowKit

/-- Which way a step goes: the sign of what it comes to. -/
def stepN (s up : Bool) (l : Nat) : Bool := if l = 0 then !up else s
def stepD (R D L G : Int) (gr s up : Bool) (l n : Nat) (e : Int) : Nat := if stepN s up l = up then nearD R D L gr (fD R D L G gr n e) (fK R D L G gr n e) else farD R D gr (fD R D L G gr n e)
def stepK (R D L G : Int) (gr s up : Bool) (l n : Nat) (e : Int) : Int := if stepN s up l = up then nearK R D L (fD R D L G gr n e) (fK R D L G gr n e) else farK R D L gr (fD R D L G gr n e) (fK R D L G gr n e)

/-- What Step answers. -/
def stepR (R D L G : Int) (gr s up : Bool) (xs : List Nat) (e : Int) : Trip × Int :=
  if onC (dchk xs e) (gridC R D L G) = 0 then
    (if heldB R D L G gr (Dg.vl 4294967296 xs) e = true then
      (if G < stepK R D L G gr s up xs.length (Dg.vl 4294967296 xs) e then (⟨false, 0, 0⟩, 5) else shortT ⟨stepN s up xs.length, stepD R D L G gr s up xs.length (Dg.vl 4294967296 xs) e, (widthN R : Int) * stepK R D L G gr s up xs.length (Dg.vl 4294967296 xs) e⟩)
     else (⟨false, 0, 0⟩, 4))
  else (⟨false, 0, 0⟩, onC (dchk xs e) (gridC R D L G))

/-- The spot of a number that is held: its digits, and its power. -/
theorem found_spot {R D L G : Int} {gr : Bool} {n : Nat} {e : Int} (h1 : 1 ≤ D) (h0 : n ≠ 0) (hh : heldB R D L G gr n e = true) :
    fD R D L G gr n e = findD R D L gr n e ∧ fK R D L G gr n e = spotK R D L gr n e ∧ findD R D L gr n e ≠ 0 ∧ findD R D L gr n e < 2 ^ (widthN R * D.toNat) ∧ L ≤ spotK R D L gr n e ∧ spotK R D L gr n e ≤ G ∧ findD R D L gr n e = numP n (e - (widthN R : Int) * spotK R D L gr n e) / denP 1 (e - (widthN R : Int) * spotK R D L gr n e) := by
  have hs := (held_iff h0).1 hh
  have hc : cutP R D L gr n 1 e = spotK R D L gr n e := by
    unfold cutP spotK
    rw [topQ_one h0]
  have hw : wholeP R D L gr n 1 e = numP n (e - (widthN R : Int) * spotK R D L gr n e) / denP 1 (e - (widthN R : Int) * spotK R D L gr n e) := by
    unfold wholeP shP
    rw [hc]
  have hf : findD R D L gr n e = numP n (e - (widthN R : Int) * spotK R D L gr n e) / denP 1 (e - (widthN R : Int) * spotK R D L gr n e) := by
    unfold findD shN numP denP
    split
    · rw [Nat.one_mul]
    · rw [Nat.div_one]
  have hlt := whole_lt R D L gr n 1 e h1 h0 (by omega)
  rw [hw, ← hf] at hlt
  obtain ⟨p1, p2⟩ := one_parts false n e ((widthN R : Int) * spotK R D L gr n e) hs.2.2
  have hne : findD R D L gr n e ≠ 0 := fun c => by
    rw [hf] at c
    rw [c] at p2
    have hb := (bare_top (t := ⟨false, n, e⟩) h0).1
    rw [← p2] at hb
    exact hb (by simp [bare])
  exact ⟨(if_neg h0).trans (if_pos hh), (if_neg h0).trans (if_pos hh), hne, hlt, hs.1, hs.2.1, hf⟩

theorem carD_le {R D : Int} {d : Nat} (h : d ≤ 2 ^ (widthN R * D.toNat)) : carD R D d ≤ 2 ^ (widthN R * D.toNat) := by
  have hp : 2 ^ (widthN R * (D - 1).toNat) ≤ 2 ^ (widthN R * D.toNat) := Nat.pow_le_pow_right (by omega) (Nat.mul_le_mul_left _ (by omega))
  unfold carD
  split <;> omega

/-- How far a step may come. -/
theorem step_fits {R D L G : Int} {gr s up : Bool} {l n : Nat} {e : Int} (hg : gridC R D L G = 0) (hh : heldB R D L G gr n e = true) :
    fD R D L G gr n e < 2 ^ (widthN R * D.toNat) ∧ -17000 ≤ fK R D L G gr n e ∧ fK R D L G gr n e ≤ 17000 ∧ stepD R D L G gr s up l n e ≤ 2 ^ (widthN R * D.toNat) ∧ -17001 ≤ stepK R D L G gr s up l n e ∧ stepK R D L G gr s up l n e ≤ 17001 := by
  obtain ⟨hR, d1, d2, l1, l2, g1, g2, lg, l16⟩ := gridC_zero hg
  have hp : 2 ^ (widthN R * (D - 1).toNat) ≤ 2 ^ (widthN R * D.toNat) := Nat.pow_le_pow_right (by omega) (Nat.mul_le_mul_left _ (by omega))
  have hf : fD R D L G gr n e < 2 ^ (widthN R * D.toNat) ∧ -17000 ≤ fK R D L G gr n e ∧ fK R D L G gr n e ≤ 17000 := by
    by_cases h0 : n = 0
    · rw [show fD R D L G gr n e = 0 from if_pos h0, show fK R D L G gr n e = L from if_pos h0]
      exact ⟨two_pos _, by omega, by omega⟩
    · obtain ⟨a1, a2, a3, a4, a5, a6, -⟩ := found_spot d1 h0 hh
      rw [a1, a2]
      exact ⟨a4, by omega, by omega⟩
  obtain ⟨f1, f2, f3⟩ := hf
  refine ⟨f1, f2, f3, ?_, ?_, ?_⟩
  · unfold stepD nearD farD
    split
    · split
      · split
        · omega
        · split <;> omega
      · omega
    · split
      · exact hp
      · exact carD_le (by omega)
  · unfold stepK nearK farK carP
    split
    · split
      · split <;> omega
      · omega
    · split
      · omega
      · split <;> omega
  · unfold stepK nearK farK carP
    split
    · split
      · split <;> omega
      · omega
    · split
      · omega
      · split <;> omega

theorem gStep_any (R D L G : Int) (gr s up : Bool) (ao : Option Addr) (ca : Nat) (xs : List Nat) (e : Int) (w : World) (hr : Rd w .u32 (.slice ao xs.length ca) xs) (sa : Dg.Small 4294967296 xs) (hT : Tab w) :
    Calls Tryd.prog 27 #[.agg #[.bool s, .slice ao xs.length ca, .int .i64 e], .agg #[.int .i64 R, .int .i64 D, .int .i64 L, .int .i64 G, .bool gr], .bool up] w (DAns w (stepR R D L G gr s up xs e)) := by
  obtain ⟨⟨⟨rs, rn, re⟩, rc⟩, hrr⟩ : ∃ r, stepR R D L G gr s up xs e = r := ⟨_, rfl⟩
  rw [hrr]
  have hzero : ∀ k, stepR R D L G gr s up xs e = (⟨false, 0, 0⟩, k) → rs = false ∧ rn = 0 ∧ re = 0 ∧ rc = k := fun k h => by
    rw [hrr] at h
    simp only [Prod.mk.injEq, Trip.mk.injEq] at h
    exact ⟨h.1.1, h.1.2.1, h.1.2.2, h.2⟩
  have hH : onC (dchk xs e) (gridC R D L G) = 0 → ansH xs e R D L G gr = heldB R D L G gr (Dg.vl 4294967296 xs) e ∧ ansD xs e R D L G gr = fD R D L G gr (Dg.vl 4294967296 xs) e ∧ ansK xs e R D L G gr = fK R D L G gr (Dg.vl 4294967296 xs) e := fun h => ⟨if_pos h, if_pos h, if_pos h⟩
  have hfit : onC (dchk xs e) (gridC R D L G) = 0 → ansH xs e R D L G gr = true → gridC R D L G = 0 ∧ heldB R D L G gr (Dg.vl 4294967296 xs) e = true := fun h1 h2 => ⟨(onC_zero h1).2, by rw [← (hH h1).1]; exact h2⟩
  have hpl : gridC R D L G = 0 → ∀ d, d ≤ 2 ^ (widthN R * D.toNat) → (Dg.dg 4294967296 d).length ≤ 16 := fun h d hd => by
    obtain ⟨-, d1, d2, -⟩ := gridC_zero h
    have hw := Nat.mul_le_mul (widthN_le R).2 (show D.toNat ≤ 120 by omega)
    exact Nat.le_trans (dg_len_mono 4294967296 d _ (by omega) hd) (pow_len32 (by omega))
  refine stepW R D L G gr s up ao _ ca e (onC (dchk xs e) (gridC R D L G)) (widthN R) (ansH xs e R D L G gr) (stepN s up xs.length) (ansD xs e R D L G gr) (ansK xs e R D L G gr) (stepD R D L G gr s up xs.length (Dg.vl 4294967296 xs) e) (stepK R D L G gr s up xs.length (Dg.vl 4294967296 xs) e) rs rn re rc w ?_ ?_ ?_ ?_ ?_ ?_ ?_ ?_ ?_ ?_
  · intro h
    exact hzero _ (if_neg h)
  · intro h h2
    refine hzero 4 ((if_pos h).trans (if_neg ?_))
    rw [← (hH h).1, h2]
    decide
  · intro h h2 h3
    exact hzero 5 ((if_pos h).trans ((if_pos (hfit h h2).2).trans (if_pos h3)))
  · intro h
    exact if_pos (by simpa using h)
  · intro h
    exact if_neg (by simpa using h)
  · intro w1 b
    exact gfind_any R D L G gr s ao ca xs e w1 (hr.later b) sa (hT.later b)
  · intro h h2 h3 v u w1 r
    obtain ⟨g0, hh⟩ := hfit h h2
    obtain ⟨-, d1, d2, -⟩ := gridC_zero g0
    obtain ⟨f1, f2, f3, -⟩ := step_fits (s := s) (up := up) (l := xs.length) g0 hh
    have hl0 : ¬xs.length = 0 := fun c => by
      have : stepN s up xs.length = !up := if_pos c
      rw [this] at h3
      cases up <;> cases h3
    have hn0 : Dg.vl 4294967296 xs ≠ 0 := gvl_ne sa (dchk_zero (onC_zero h).1).1 hl0
    obtain ⟨a1, -, a3, -⟩ := found_spot d1 hn0 hh
    rw [show stepD R D L G gr s up xs.length (Dg.vl 4294967296 xs) e = _ from if_pos h3, show stepK R D L G gr s up xs.length (Dg.vl 4294967296 xs) e = _ from if_pos h3]
    rw [(hH h).2.1] at r ⊢
    rw [(hH h).2.2]
    exact nearer_any R D L G gr v u _ _ w1 d1 d2 r (Nat.le_trans (hpl g0 _ (by omega)) (by omega)) (by rw [a1]; exact a3) (by omega) (by omega)
  · intro h h2 h3 v u w1 r
    obtain ⟨g0, hh⟩ := hfit h h2
    obtain ⟨-, d1, d2, -⟩ := gridC_zero g0
    obtain ⟨f1, f2, f3, -⟩ := step_fits (s := s) (up := up) (l := xs.length) g0 hh
    rw [show stepD R D L G gr s up xs.length (Dg.vl 4294967296 xs) e = _ from if_neg h3, show stepK R D L G gr s up xs.length (Dg.vl 4294967296 xs) e = _ from if_neg h3]
    rw [(hH h).2.1] at r ⊢
    rw [(hH h).2.2]
    exact farther_any R D L G gr v u _ _ w1 d1 d2 r (Nat.le_trans (hpl g0 _ (by omega)) (by omega)) (by omega) (by omega)
  · intro h h2 h3 v u w1
    obtain ⟨g0, hh⟩ := hfit h h2
    obtain ⟨-, -, -, -, k1, k2⟩ := step_fits (s := s) (up := up) (l := xs.length) g0 hh
    refine gnumber_any R D L G gr _ v _ u _ w1 ?_
    unfold widthN
    split <;> simp <;> omega
  · intro h h2 h3 v u w1 b r
    obtain ⟨g0, hh⟩ := hfit h h2
    obtain ⟨-, -, -, q1, k1, k2⟩ := step_fits (s := s) (up := up) (l := xs.length) g0 hh
    have hlen := hpl g0 _ q1
    have htz := tz_fits _ 16 hlen
    have hk : -68004 ≤ (widthN R : Int) * stepK R D L G gr s up xs.length (Dg.vl 4294967296 xs) e ∧ (widthN R : Int) * stepK R D L G gr s up xs.length (Dg.vl 4294967296 xs) e ≤ 68004 := by
      unfold widthN
      split <;> simp <;> omega
    have hS : shortT ⟨stepN s up xs.length, stepD R D L G gr s up xs.length (Dg.vl 4294967296 xs) e, (widthN R : Int) * stepK R D L G gr s up xs.length (Dg.vl 4294967296 xs) e⟩ = (⟨rs, rn, re⟩, rc) := by
      rw [← hrr]
      exact ((if_pos h).trans ((if_pos hh).trans (if_neg h3))).symm
    rw [← hS]
    exact dshort_any _ _ w1 ⟨_, rfl, r⟩ (by simp only; omega) ⟨by simp only; omega, by simp only; omega⟩ (hT.later b) (by simp only; omega)
end Go.Proofs.YtmjhlflemfkflaaDoor

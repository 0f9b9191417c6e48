/-
  Grids: the contracts of find and of the reference's InGrid.
-/
import Derived.Test.YtmjhlflemfkflaaDoorGh3
import Derived.Test.YtmjhlflemfkflaaDoorGh4
namespace Go.Proofs.YtmjhlflemfkflaaDoor
open Go.RowKit

theorem onC_zero {dc gc : Int} (h : onC dc gc = 0) : dc = 0 ∧ gc = 0 := by
  unfold onC at h
  by_cases h1 : dc = 0
  · rw [if_pos h1] at h
    exact ⟨h1, h⟩
  · rw [if_neg h1] at h
    exact absurd h h1

/-- What find answers: held, digits, power. -/
def ansH (xs : List Nat) (e R D L G : Int) (gr : Bool) : Bool := if onC (dchk xs e) (gridC R D L G) = 0 then heldB R D L G gr (Dg.vl 4294967296 xs) e else false
def ansD (xs : List Nat) (e R D L G : Int) (gr : Bool) : Nat := if onC (dchk xs e) (gridC R D L G) = 0 then fD R D L G gr (Dg.vl 4294967296 xs) e else 0
def ansK (xs : List Nat) (e R D L G : Int) (gr : Bool) : Int := if onC (dchk xs e) (gridC R D L G) = 0 then fK R D L G gr (Dg.vl 4294967296 xs) e else 0

theorem gfind_any (R D L G : Int) (gr s : Bool) (ao : Option Addr) (ca : Nat) (xs : List Nat) (e : Int) (w : World) (hr : Rd w .u32 (.slice ao xs.length ca) xs) (sa : Dg.Small 4294967296 xs) (hT : Tab w) :
    Calls Tryd.prog 60 #[.agg #[.bool s, .slice ao xs.length ca, .int .i64 e], .agg #[.int .i64 R, .int .i64 D, .int .i64 L, .int .i64 G, .bool gr]] w (FindAns w (ansH xs e R D L G gr) (ansD xs e R D L G gr) (ansK xs e R D L G gr) (onC (dchk xs e) (gridC R D L G))) := by
  have herr : ¬onC (dchk xs e) (gridC R D L G) = 0 → ansH xs e R D L G gr = false ∧ ansD xs e R D L G gr = 0 ∧ ansK xs e R D L G gr = 0 := fun h => ⟨if_neg h, if_neg h, if_neg h⟩
  refine gfindW R D L G gr s ao _ ca e (dchk xs e) (gridC R D L G) _ _ _ _ w ?_ ?_ ?_ ?_ ?_ ?_ ?_
  · intro h
    have h1 : onC (dchk xs e) (gridC R D L G) = dchk xs e := if_neg h
    obtain ⟨a, b, c⟩ := herr (by rw [h1]; exact h)
    exact ⟨a, b, c, h1⟩
  · intro h h2
    have h1 : onC (dchk xs e) (gridC R D L G) = gridC R D L G := if_pos h
    obtain ⟨a, b, c⟩ := herr (by rw [h1]; exact h2)
    exact ⟨a, b, c, h1⟩
  · intro h h2
    exact (if_pos h).trans h2
  · intro w1 b
    exact dcheck_any s ao ca xs e w1 (hr.later b)
  · intro w1
    exact gcheck_any R D L G gr w1
  · intro w1
    exact of_dy s ao _ ca e w1
  · intro h h2 w1 b
    have h1 : onC (dchk xs e) (gridC R D L G) = 0 := (if_pos h).trans h2
    rw [show ansH xs e R D L G gr = _ from if_pos h1, show ansD xs e R D L G gr = _ from if_pos h1, show ansK xs e R D L G gr = _ from if_pos h1]
    obtain ⟨c1, e1, e2⟩ := dchk_zero h
    obtain ⟨n1, l1⟩ := chk_zero c1
    have ex : Dg.dg 4294967296 (Dg.vl 4294967296 xs) = xs := Dg.dg_vl _ (by omega) _ sa n1
    have := mfind_any R D L G gr s ao ca (Dg.vl 4294967296 xs) e w1 h2 (by rw [ex]; exact hr.later b) (by rw [ex]; exact l1) e1 e2 (hT.later b)
    rwa [ex] at this

theorem gbits16 {a L : Nat} (h : (Dg.dg 65536 a).length ≤ L) : bitLen a ≤ 16 * L := by
  refine bitLen_le_of a _ ?_
  rw [Nat.pow_mul]
  have h1 := Dg.vl_lt 65536 _ (Dg.small_dg 65536 a (by omega))
  rw [Dg.vl_dg _ _ (by omega)] at h1
  exact Nat.lt_of_lt_of_le h1 (Nat.pow_le_pow_right (by omega) h)

theorem inR_seek (R D e : Int) (bl : Nat) (h : -79000 ≤ e + bl) : (e + (bl : Int) - 1 + 80000).tdiv (widthN R : Int) - (80000 : Int).tdiv (widthN R : Int) - D + 1 = powerR R D (e + (bl : Int) - 1) := by
  rw [Int.tdiv_eq_ediv_of_nonneg (by omega), Int.tdiv_eq_ediv_of_nonneg (by omega)]
  unfold powerR widthN
  split <;> simp <;> omega

set_option maxHeartbeats 1600000 in
theorem inGrid_any (R D L G : Int) (gr : Bool) (v : Value) (t : Trip) (w : World) (hg : gridC R D L G = 0) (hv : Rv w v t) (hl : (Dg.dg 65536 t.n).length ≤ 20000) (e1 : -79000 ≤ t.e) (e2 : t.e ≤ 200000) :
    Calls Tryd.prog 25 #[v, .agg #[.int .i64 R, .int .i64 D, .int .i64 L, .int .i64 G, .bool gr]] w fun z w' => z = .returned (.bool (inR R D L G gr t.n t.e)) ∧ Below w.heap.size w w' := by
  obtain ⟨s, n, e⟩ := t
  simp only at hl e1 e2
  obtain ⟨s0, rfl, hr⟩ := hv
  obtain ⟨ao, ca, rfl⟩ := hr.shape
  simp only at hr ⊢
  obtain ⟨hR, d1, d2, l1, l2, g1, g2, lg, l16⟩ := gridC_zero hg
  by_cases h0 : n = 0
  · rw [show inR R D L G gr n e = true from decide_eq_true (.inl h0)]
    subst h0
    exact inGrid_zero R D L G gr s ao ca e w
  · have hbl : bitLen n ≤ 16 * 20000 := gbits16 hl
    have hwl := widthN_le R
    have hsk := inR_seek R D e (bitLen n) (by omega)
    have hpr : -600000 ≤ powerR R D (e + (bitLen n : Int) - 1) ∧ powerR R D (e + (bitLen n : Int) - 1) ≤ 600000 ∧ -2400000 ≤ (widthN R : Int) * powerR R D (e + (bitLen n : Int) - 1) ∧ (widthN R : Int) * powerR R D (e + (bitLen n : Int) - 1) ≤ 2400000 := by
      clear hsk
      unfold powerR widthN
      split <;> simp <;> omega
    have hL : -68000 ≤ (widthN R : Int) * L ∧ (widthN R : Int) * L ≤ 68000 := by
      clear hsk hpr
      unfold widthN
      split <;> simp <;> omega
    have hGD : -70000 ≤ (widthN R : Int) * (G + D) ∧ (widthN R : Int) * (G + D) ≤ 70000 := by
      clear hsk hpr hL
      unfold widthN
      split <;> simp <;> omega
    have a1 := Int.natAbs_tdiv_le_natAbs (e + (bitLen n : Int) - 1 + 80000) (widthN R : Int)
    have a2 := Int.natAbs_tdiv_le_natAbs (80000 : Int) (widthN R : Int)
    have hin : inR R D L G gr n e = true ↔ ((widthN R : Int) * L ≤ e ∧ e + (bitLen n : Int) ≤ (widthN R : Int) * (G + D) ∧ (gr = true ∨ L ≤ powerR R D (e + (bitLen n : Int) - 1)) ∧ (widthN R : Int) * max L (powerR R D (e + (bitLen n : Int) - 1)) ≤ e) := by
      unfold inR
      rw [decide_eq_true_iff]
      constructor
      · rintro (h | h)
        · exact absurd h h0
        · exact h
      · exact .inr
    have hno : ∀ {b : Bool}, ¬b = true → b = false := fun h => by simpa using h
    refine inGridW R D L G gr s ao _ ca e (widthN R) (bitLen n) _ _ (powerR R D (e + (bitLen n : Int) - 1)) (inR R D L G gr n e) w ?_ ?_ ?_ ?_ ?_ ?_ ?_ ?_ ?_ rfl rfl ?_ ?_ ?_ ?_ ?_ ?_ ?_ ?_ ?_ ?_ ?_ ?_ ?_ ?_
    · simp
      rw [Dg.dg_nil_iff _ _ (by omega)]
      exact h0
    · simp
      omega
    · omega
    · exact IntWalk.i64_in _ ⟨by omega, by omega⟩
    · exact IntWalk.i64_in _ ⟨by omega, by omega⟩
    · exact IntWalk.i64_in _ ⟨by omega, by omega⟩
    · exact IntWalk.i64_in _ ⟨by omega, by omega⟩
    · exact IntWalk.i64_in _ ⟨by omega, by omega⟩
    · exact IntWalk.i64_in _ ⟨by omega, by omega⟩
    · exact IntWalk.i64_in _ ⟨by omega, by omega⟩
    · exact IntWalk.i64_in _ ⟨by omega, by omega⟩
    · exact IntWalk.i64_in _ ⟨by omega, by omega⟩
    · exact IntWalk.i64_in _ ⟨by omega, by omega⟩
    · rw [hsk]
      exact IntWalk.i64_in _ ⟨by omega, by omega⟩
    · exact IntWalk.i64_in _ ⟨by omega, by omega⟩
    · intro h
      refine hno fun c => ?_
      have := hin.1 c
      omega
    · intro h h2
      refine hno fun c => ?_
      have := hin.1 c
      omega
    · intro h h2 h3 h4
      refine hno fun c => ?_
      rcases (hin.1 c).2.2.1 with h5 | h5
      · rw [h4] at h5
        cases h5
      · omega
    · intro h h2 h3 h4
      refine hin.2 ⟨by omega, by omega, .inl h4, ?_⟩
      rw [Int.max_eq_left (by omega)]
      omega
    · intro h h2 h3 h4
      refine hin.2 ⟨by omega, by omega, .inr (by omega), ?_⟩
      rw [Int.max_eq_right (by omega)]
      omega
    · intro h h2 h3 h4
      refine hno fun c => ?_
      have := (hin.1 c).2.2.2
      rw [Int.max_eq_right (by omega)] at this
      omega
    · intro w1
      have := refWidth_any R D L G gr w1
      rwa [widthR_nat] at this
    · intro w1 b
      have := reflen_any _ _ w1 (hr.later b) (Dg.small_dg _ _ (by omega)) (Dg.norm_dg _ _ (by omega)) (by omega)
      rw [Dg.vl_dg _ _ (by omega)] at this
      refine this.mono ?_
      rintro z w' ⟨rfl, rfl⟩
      exact ⟨rfl, Below.refl _ _⟩
end Go.Proofs.YtmjhlflemfkflaaDoor

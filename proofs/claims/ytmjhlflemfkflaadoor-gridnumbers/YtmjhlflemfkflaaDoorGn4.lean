/-
  Grids: the walk of GridNumbers, paid.
-/
import Derived.Test.YtmjhlflemfkflaaDoorGn3
import Derived.Test.YtmjhlflemfkflaaDoorGr8
namespace Go.Proofs.YtmjhlflemfkflaaDoor
open Go.RowKit

theorem gridNumbers_walk (s : Bool) (ao : Option Addr) (ca : Nat) (xs : List Nat) (p : Int) (x1 x2 x3 : Bool) (R D L G : Int) (gr : Bool) (w : World) (hr : Rd w .u32 (.slice ao xs.length ca) xs) (sa : Dg.Small 4294967296 xs) (hT : Tab w) :
    Calls Tryd.prog 4 #[.agg #[.bool s, .slice ao xs.length ca, .int .i64 p, .bool x1, .bool x2, .bool x3], .agg #[.int .i64 R, .int .i64 D, .int .i64 L, .int .i64 G, .bool gr]] w fun z w' => z = .returned (.bool true) ∧ Below w.heap.size w w' := by
  obtain ⟨⟨⟨rs, rn, re⟩, c⟩, hrr⟩ : ∃ r, dbothR (placeC xs p R D L G) ⟨s, Dg.vl 4294967296 xs, (widthN R : Int) * p⟩ = r := ⟨_, rfl⟩
  obtain ⟨⟨bs, bn, be⟩, hbt⟩ : ∃ b, bare ⟨s, Dg.vl 4294967296 xs, (widthN R : Int) * p⟩ = b := ⟨_, rfl⟩
  have hfine : chk xs = 0 → (Dg.dg 65536 (Dg.vl 4294967296 xs)).length ≤ 2400 := fun h => by
    have := len16 sa
    have := (chk_zero h).2
    omega
  have hwp : farB 20000 p = false → -80000 ≤ (widthN R : Int) * p ∧ (widthN R : Int) * p ≤ 80000 := fun h => width_power (farB_not h)
  refine gridNumbersW R D L G gr s ao _ ca p x1 x2 x3 (widthN R) (chk xs) (gridC R D L G) c (placeC xs p R D L G) (farB 20000 p) rs rn re (Dg.vl 4294967296 xs) bs bn be w ?_ ?_ ?_ ?_ ?_ ?_ ?_ ?_ ?_ ?_ ?_ ?_ gbegun_any ?_ ?_
  · intro h
    exact if_neg h
  · intro h h2
    exact (if_pos h).trans (if_neg h2)
  · intro h h2 h3
    exact (if_pos h).trans ((if_pos h2).trans (if_pos h3))
  · intro h
    unfold farB at h
    simpa using h
  · intro h
    have := farB_not h
    omega
  · intro h
    have := hwp h
    exact IntWalk.i64_in _ ⟨by omega, by omega⟩
  · intro w1 b
    rw [← hrr]
    exact gNumber_any R D L G gr s ao ca xs p x1 x2 x3 w1 (hr.later b) sa (hT.later b)
  · intro w1 b
    refine (checkNat_any _ xs w1 (hr.later b)).mono ?_
    rintro z w' ⟨rfl, rfl⟩
    exact ⟨rfl, Below.refl _ _⟩
  · intro w1
    exact refGcheck_any R D L G gr w1
  · intro h _ _ w1 b
    have := (chk_zero h).2
    exact of_any _ xs w1 (hr.later b) sa (by omega)
  · intro w1
    have := refWidth_any R D L G gr w1
    rwa [widthR_nat] at this
  · intro h h2 h3 v w1 hv
    have h4 := hwp h3
    have := bared_any v ⟨s, Dg.vl 4294967296 xs, (widthN R : Int) * p⟩ w1 hv (by have := hfine h; simp only; omega) (by simp only; omega) (by simp only; omega)
    rwa [hbt] at this
  · intro h so sc w1 r1
    have hc : ¬placeC xs p R D L G = 0 := fun c => h (placeC_zero c)
    exact dyadIs_any _ ⟨false, 0, 0⟩ rs rn re c _ so sc w1 r1 ⟨_, rfl, rd_nil _ _⟩ (Nat.zero_le _) ((want_zero hc _ _).trans hrr)
  · intro h h2 h3 so sc vo vc w1 r1 r2
    have hc : placeC xs p R D L G = 0 := placeC_fine h h2 h3
    rw [hc] at hrr
    refine dyadIs_any _ ⟨bs, bn, be⟩ rs rn re c 0 so sc w1 r1 ⟨_, rfl, r2⟩ ?_ (by rw [← hbt, want_bare]; exact hrr)
    have e : bn ≤ Dg.vl 4294967296 xs := by
      have := bare_n_le ⟨s, Dg.vl 4294967296 xs, (widthN R : Int) * p⟩
      rwa [hbt] at this
    exact Nat.le_trans (dg_len_mono 65536 _ _ (by omega) e) (by have := hfine h; omega)
end Go.Proofs.YtmjhlflemfkflaaDoor

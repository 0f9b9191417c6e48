/-
  The law DyadTurns.
-/
import Derived.Test.YtepcafhlhnlgaaaDoorDt1
namespace Go.Proofs.YtepcafhlhnlgaaaDoor
open Go.RowKit

theorem dadd_R (s : Bool) (ao : Option Addr) (ca : Nat) (xs : List Nat) (e : Int) (t : Bool) (bo : Option Addr) (cb : Nat) (ys : List Nat) (f : Int) (w : World)
    (hr : Rd w .u32 (.slice ao xs.length ca) xs) (hq : Rd w .u32 (.slice bo ys.length cb) ys) (sa : Dg.Small 4294967296 xs) (sb : Dg.Small 4294967296 ys) (hT : Tab w) :
    Calls Tryd.prog 22 #[.agg #[.bool s, .slice ao xs.length ca, .int .i64 e], .agg #[.bool t, .slice bo ys.length cb, .int .i64 f]] w (DAns w (addR s xs e t ys f)) := dadd_any s ao ca xs e t bo cb ys f w hr hq sa sb hT

theorem dmul_R (s : Bool) (ao : Option Addr) (ca : Nat) (xs : List Nat) (e : Int) (t : Bool) (bo : Option Addr) (cb : Nat) (ys : List Nat) (f : Int) (w : World)
    (hr : Rd w .u32 (.slice ao xs.length ca) xs) (hq : Rd w .u32 (.slice bo ys.length cb) ys) (sa : Dg.Small 4294967296 xs) (sb : Dg.Small 4294967296 ys) (hT : Tab w) :
    Calls Tryd.prog 24 #[.agg #[.bool s, .slice ao xs.length ca, .int .i64 e], .agg #[.bool t, .slice bo ys.length cb, .int .i64 f]] w (DAns w (mulR s xs e t ys f)) := dmul_any s ao ca xs e t bo cb ys f w hr hq sa sb hT

theorem sameDy_true (s : Bool) (ao : Option Addr) (ca : Nat) (xs : List Nat) (e : Int) (bo : Option Addr) (cb : Nat) (w : World) (hr : Rd w .u32 (.slice ao xs.length ca) xs) (hq : Rd w .u32 (.slice bo xs.length cb) xs) :
    Calls Tryd.prog 33 #[.agg #[.bool s, .slice ao xs.length ca, .int .i64 e], .agg #[.bool s, .slice bo xs.length cb, .int .i64 e]] w fun z w' => z = .returned (.bool true) ∧ Below w.heap.size w w' := by
  have := sameDy_any s ao ca xs e s bo cb xs e w hr hq
  rwa [decide_eq_true ⟨rfl, rfl, rfl⟩] at this

set_option maxRecDepth 100000 in
set_option maxHeartbeats 12800000 in
theorem dturns_walk (s : Bool) (ao : Option Addr) (ca : Nat) (xs : List Nat) (e : Int) (t : Bool) (bo : Option Addr) (cb : Nat) (ys : List Nat) (f : Int) (u : Bool) (co : Option Addr) (cc : Nat) (zs : List Nat) (g : Int) (w : World)
    (hr : Rd w .u32 (.slice ao xs.length ca) xs) (hq : Rd w .u32 (.slice bo ys.length cb) ys) (hp : Rd w .u32 (.slice co zs.length cc) zs) (sa : Dg.Small 4294967296 xs) (sb : Dg.Small 4294967296 ys) (sc : Dg.Small 4294967296 zs) (hT : Tab w) :
    Calls Tryd.prog 11 #[.agg #[.bool s, .slice ao xs.length ca, .int .i64 e], .agg #[.bool t, .slice bo ys.length cb, .int .i64 f], .agg #[.bool u, .slice co zs.length cc, .int .i64 g]] w fun z w' => z = .returned (.bool true) ∧ Below w.heap.size w w' := by
  obtain ⟨l_a, l_b, l_c, bb, -⟩ := locals3 w (.bool s) (.slice ao xs.length ca) (.int .i64 e) (.bool t) (.slice bo ys.length cb) (.int .i64 f) (.bool u) (.slice co zs.length cc) (.int .i64 g) 25 25 25
  have r_a := hr.later bb
  have r_b := hq.later bb
  have r_c := hp.later bb
  obtain ⟨⟨⟨s1, n1, e1⟩, c1⟩, h1⟩ : ∃ r, addR s xs e t ys f = r := ⟨_, rfl⟩
  have HR1 : Hid (addR s xs e t ys f = (⟨s1, n1, e1⟩, c1)) := h1
  obtain ⟨⟨⟨s2, n2, e2⟩, c2⟩, h2⟩ : ∃ r, addR t ys f s xs e = r := ⟨_, rfl⟩
  have HR2 : Hid (addR t ys f s xs e = (⟨s2, n2, e2⟩, c2)) := h2
  obtain ⟨⟨⟨s3, n3, e3⟩, c3⟩, h3⟩ : ∃ r, addR t ys f u zs g = r := ⟨_, rfl⟩
  have HR3 : Hid (addR t ys f u zs g = (⟨s3, n3, e3⟩, c3)) := h3
  obtain ⟨⟨⟨s4, n4, e4⟩, c4⟩, h4⟩ : ∃ r, addR s1 (Dg.dg 4294967296 n1) e1 u zs g = r := ⟨_, rfl⟩
  have HR4 : Hid (addR s1 (Dg.dg 4294967296 n1) e1 u zs g = (⟨s4, n4, e4⟩, c4)) := h4
  obtain ⟨⟨⟨s5, n5, e5⟩, c5⟩, h5⟩ : ∃ r, addR s xs e s3 (Dg.dg 4294967296 n3) e3 = r := ⟨_, rfl⟩
  have HR5 : Hid (addR s xs e s3 (Dg.dg 4294967296 n3) e3 = (⟨s5, n5, e5⟩, c5)) := h5
  obtain ⟨⟨⟨s6, n6, e6⟩, c6⟩, h6⟩ : ∃ r, mulR s1 (Dg.dg 4294967296 n1) e1 u zs g = r := ⟨_, rfl⟩
  have HR6 : Hid (mulR s1 (Dg.dg 4294967296 n1) e1 u zs g = (⟨s6, n6, e6⟩, c6)) := h6
  obtain ⟨⟨⟨s7, n7, e7⟩, c7⟩, h7⟩ : ∃ r, mulR s xs e u zs g = r := ⟨_, rfl⟩
  have HR7 : Hid (mulR s xs e u zs g = (⟨s7, n7, e7⟩, c7)) := h7
  obtain ⟨⟨⟨s8, n8, e8⟩, c8⟩, h8⟩ : ∃ r, mulR t ys f u zs g = r := ⟨_, rfl⟩
  have HR8 : Hid (mulR t ys f u zs g = (⟨s8, n8, e8⟩, c8)) := h8
  obtain ⟨⟨⟨s9, n9, e9⟩, c9⟩, h9⟩ : ∃ r, addR s7 (Dg.dg 4294967296 n7) e7 s8 (Dg.dg 4294967296 n8) e8 = r := ⟨_, rfl⟩
  have HR9 : Hid (addR s7 (Dg.dg 4294967296 n7) e7 s8 (Dg.dg 4294967296 n8) e8 = (⟨s9, n9, e9⟩, c9)) := h9
  have HF1 : Hid (dchk2 xs e ys f = 0 → addR t ys f s xs e = addR s xs e t ys f) := add_comm_R
  have HF0 : Hid (¬dchk2 xs e ys f = 0 → ¬c1 = 0) := fun h h5 => h (both_ok (show dbothR _ _ = _ from by rw [h5] at h1; exact h1)).1
  have HF2 : Hid (c1 = 0 → c3 = 0 → c4 = 0 → (s4 = s5 ∧ n4 = n5 ∧ e4 = e5 ∧ c5 = 0)) := fun i1 i3 i4 => by
    rw [i1] at h1
    rw [i3] at h3
    rw [i4] at h4
    have := assoc_R h1 h3 h4
    simp only at this
    rw [h5] at this
    simp only [Prod.mk.injEq, Trip.mk.injEq] at this
    obtain ⟨⟨q1, q2, q3⟩, q4⟩ := this
    exact ⟨q1.symm, q2.symm, q3.symm, q4⟩
  have HF3 : Hid (c1 = 0 → c6 = 0 → c7 = 0 → c8 = 0 → (s6 = s9 ∧ n6 = n9 ∧ e6 = e9 ∧ c9 = 0)) := fun i1 i6 i7 i8 => by
    rw [i1] at h1
    rw [i6] at h6
    rw [i7] at h7
    rw [i8] at h8
    have := spread_R h1 h6 h7 h8
    simp only at this
    rw [h9] at this
    simp only [Prod.mk.injEq, Trip.mk.injEq] at this
    obtain ⟨⟨q1, q2, q3⟩, q4⟩ := this
    exact ⟨q1.symm, q2.symm, q3.symm, q4⟩
  have HF4 : Hid (dchk2 xs e ys f = 0 → (s1 = s2 ∧ n1 = n2 ∧ e1 = e2 ∧ c1 = c2)) := fun h => by
    have := HF1.out h
    rw [h1, h2] at this
    simp only [Prod.mk.injEq, Trip.mk.injEq] at this
    obtain ⟨⟨q1, q2, q3⟩, q4⟩ := this
    exact ⟨q1.symm, q2.symm, q3.symm, q4.symm⟩
  have HTD : Hid (∀ w1, Below w.heap.size w w1 → Calls Tryd.prog 20 #[.agg #[.bool s, .slice ao xs.length ca, .int .i64 e], .agg #[.bool t, .slice bo ys.length cb, .int .i64 f]] w1 fun z w' => z = .returned (.int .i64 (dchk2 xs e ys f)) ∧ Below w1.heap.size w1 w') := fun w1 b1 => twoDy_any s ao ca xs e t bo cb ys f w1 (hr.later b1) (hq.later b1)
  obtain ⟨c0, h0⟩ : ∃ c, dchk2 xs e ys f = c := ⟨_, rfl⟩
  rw [h0] at HF0 HF4 HTD
  clear h1 h2 h3 h4 h5 h6 h7 h8 h9 h0 HF1 hr hq hp
  go_enter Tryd.func11, Tryd.ntmps11
  go_wp2_with fail
  refine (dbegun_any _ (hT.later bb)).mono ?_
  rintro z w1 ⟨rfl, b1⟩
  replace l_a := l_a.later b1
  replace r_a := r_a.later b1
  replace l_b := l_b.later b1
  replace r_b := r_b.later b1
  replace l_c := l_c.later b1
  replace r_c := r_c.later b1
  replace bb := below_trans bb b1
  clear b1
  obtain ⟨-, ⟨a_0, a_1, a_2⟩, -⟩ := id l_a
  obtain ⟨-, ⟨b_0, b_1, b_2⟩, -⟩ := id l_b
  have hk := dadd_R s ao ca xs e t bo cb ys f _ r_a r_b sa sb (hT.later bb)
  rw [HR1.out] at hk
  go_wp2_with fail
  refine hk.mono ?_
  rintro z w2 ⟨vr, rfl, oo, b1⟩
  clear hk
  obtain ⟨o1, k1, hvr⟩ := oo.rd.shape
  subst hvr
  clear a_0 a_1 a_2 b_0 b_1 b_2
  replace l_a := l_a.later b1
  replace r_a := r_a.later b1
  replace l_b := l_b.later b1
  replace r_b := r_b.later b1
  replace l_c := l_c.later b1
  replace r_c := r_c.later b1
  replace bb := below_trans bb b1
  have bB := below_alloc w2 (.cells #[.bool s1, .slice o1 (Dg.dg 4294967296 n1).length k1, .int .i64 e1] 25)
  replace l_a := l_a.later bB
  replace r_a := r_a.later bB
  replace l_b := l_b.later bB
  replace r_b := r_b.later bB
  replace l_c := l_c.later bB
  replace r_c := r_c.later bB
  replace bb := below_trans bb bB
  have l_d1 := loc_new w2 (.bool s1) (.slice o1 (Dg.dg 4294967296 n1).length k1) (.int .i64 e1) 25
  have r_d1 := (oo.later bB).rd
  clear b1 bB oo
  obtain ⟨-, ⟨b_0, b_1, b_2⟩, -⟩ := id l_b
  obtain ⟨-, ⟨a_0, a_1, a_2⟩, -⟩ := id l_a
  have hk := dadd_R t bo cb ys f s ao ca xs e _ r_b r_a sb sa (hT.later bb)
  rw [HR2.out] at hk
  go_wp2_with fail
  refine hk.mono ?_
  rintro z w3 ⟨vr, rfl, oo, b1⟩
  clear hk
  obtain ⟨o2, k2, hvr⟩ := oo.rd.shape
  subst hvr
  clear b_0 b_1 b_2 a_0 a_1 a_2
  replace l_a := l_a.later b1
  replace r_a := r_a.later b1
  replace l_b := l_b.later b1
  replace r_b := r_b.later b1
  replace l_c := l_c.later b1
  replace r_c := r_c.later b1
  replace l_d1 := l_d1.later b1
  replace r_d1 := r_d1.later b1
  replace bb := below_trans bb b1
  have bB := below_alloc w3 (.cells #[.bool s2, .slice o2 (Dg.dg 4294967296 n2).length k2, .int .i64 e2] 25)
  replace l_a := l_a.later bB
  replace r_a := r_a.later bB
  replace l_b := l_b.later bB
  replace r_b := r_b.later bB
  replace l_c := l_c.later bB
  replace r_c := r_c.later bB
  replace l_d1 := l_d1.later bB
  replace r_d1 := r_d1.later bB
  replace bb := below_trans bb bB
  have l_d2 := loc_new w3 (.bool s2) (.slice o2 (Dg.dg 4294967296 n2).length k2) (.int .i64 e2) 25
  have r_d2 := (oo.later bB).rd
  clear b1 bB oo
  obtain ⟨-, ⟨b_0, b_1, b_2⟩, -⟩ := id l_b
  obtain ⟨-, ⟨c_0, c_1, c_2⟩, -⟩ := id l_c
  have hk := dadd_R t bo cb ys f u co cc zs g _ r_b r_c sb sc (hT.later bb)
  rw [HR3.out] at hk
  go_wp2_with fail
  refine hk.mono ?_
  rintro z w4 ⟨vr, rfl, oo, b1⟩
  clear hk
  obtain ⟨o3, k3, hvr⟩ := oo.rd.shape
  subst hvr
  clear b_0 b_1 b_2 c_0 c_1 c_2
  replace l_a := l_a.later b1
  replace r_a := r_a.later b1
  replace l_b := l_b.later b1
  replace r_b := r_b.later b1
  replace l_c := l_c.later b1
  replace r_c := r_c.later b1
  replace l_d1 := l_d1.later b1
  replace r_d1 := r_d1.later b1
  replace l_d2 := l_d2.later b1
  replace r_d2 := r_d2.later b1
  replace bb := below_trans bb b1
  have bB := below_alloc w4 (.cells #[.bool s3, .slice o3 (Dg.dg 4294967296 n3).length k3, .int .i64 e3] 25)
  replace l_a := l_a.later bB
  replace r_a := r_a.later bB
  replace l_b := l_b.later bB
  replace r_b := r_b.later bB
  replace l_c := l_c.later bB
  replace r_c := r_c.later bB
  replace l_d1 := l_d1.later bB
  replace r_d1 := r_d1.later bB
  replace l_d2 := l_d2.later bB
  replace r_d2 := r_d2.later bB
  replace bb := below_trans bb bB
  have l_d3 := loc_new w4 (.bool s3) (.slice o3 (Dg.dg 4294967296 n3).length k3) (.int .i64 e3) 25
  have r_d3 := (oo.later bB).rd
  clear b1 bB oo
  obtain ⟨-, ⟨a_0, a_1, a_2⟩, -⟩ := id l_a
  obtain ⟨-, ⟨b_0, b_1, b_2⟩, -⟩ := id l_b
  go_wp2_with fail
  refine (HTD.out _ bb).mono ?_
  rintro z w5 ⟨rfl, b1⟩
  clear a_0 a_1 a_2 b_0 b_1 b_2
  replace l_a := l_a.later b1
  replace r_a := r_a.later b1
  replace l_b := l_b.later b1
  replace r_b := r_b.later b1
  replace l_c := l_c.later b1
  replace r_c := r_c.later b1
  replace l_d1 := l_d1.later b1
  replace r_d1 := r_d1.later b1
  replace l_d2 := l_d2.later b1
  replace r_d2 := r_d2.later b1
  replace l_d3 := l_d3.later b1
  replace r_d3 := r_d3.later b1
  replace bb := below_trans bb b1
  clear b1
  by_cases i0 : c0 = 0
  · subst i0
    obtain ⟨rfl, rfl, rfl, rfl⟩ := HF4.out rfl
    by_cases ic1 : c1 = 0
    · subst ic1
      obtain ⟨-, ⟨d1_0, d1_1, d1_2⟩, -⟩ := id l_d1
      obtain ⟨-, ⟨d2_0, d2_1, d2_2⟩, -⟩ := id l_d2
      go_wp2_with fail
      refine (sameDy_true _ _ _ _ _ _ _ _ r_d1 r_d2).mono ?_
      rintro z w6 ⟨rfl, b1⟩
      clear d1_0 d1_1 d1_2 d2_0 d2_1 d2_2
      replace l_a := l_a.later b1
      replace r_a := r_a.later b1
      replace l_b := l_b.later b1
      replace r_b := r_b.later b1
      replace l_c := l_c.later b1
      replace r_c := r_c.later b1
      replace l_d1 := l_d1.later b1
      replace r_d1 := r_d1.later b1
      replace l_d2 := l_d2.later b1
      replace r_d2 := r_d2.later b1
      replace l_d3 := l_d3.later b1
      replace r_d3 := r_d3.later b1
      replace bb := below_trans bb b1
      clear b1
      obtain ⟨-, ⟨d1_0, d1_1, d1_2⟩, -⟩ := id l_d1
      obtain ⟨-, ⟨c_0, c_1, c_2⟩, -⟩ := id l_c
      have hk := dadd_R s1 o1 k1 (Dg.dg 4294967296 n1) e1 u co cc zs g _ r_d1 r_c (Dg.small_dg _ _ (by omega)) sc (hT.later bb)
      rw [HR4.out] at hk
      go_wp2_with fail
      refine hk.mono ?_
      rintro z w7 ⟨vr, rfl, oo, b1⟩
      clear hk
      obtain ⟨o4, k4, hvr⟩ := oo.rd.shape
      subst hvr
      clear d1_0 d1_1 d1_2 c_0 c_1 c_2
      replace l_a := l_a.later b1
      replace r_a := r_a.later b1
      replace l_b := l_b.later b1
      replace r_b := r_b.later b1
      replace l_c := l_c.later b1
      replace r_c := r_c.later b1
      replace l_d1 := l_d1.later b1
      replace r_d1 := r_d1.later b1
      replace l_d2 := l_d2.later b1
      replace r_d2 := r_d2.later b1
      replace l_d3 := l_d3.later b1
      replace r_d3 := r_d3.later b1
      replace bb := below_trans bb b1
      have bB := below_alloc w7 (.cells #[.bool s4, .slice o4 (Dg.dg 4294967296 n4).length k4, .int .i64 e4] 25)
      replace l_a := l_a.later bB
      replace r_a := r_a.later bB
      replace l_b := l_b.later bB
      replace r_b := r_b.later bB
      replace l_c := l_c.later bB
      replace r_c := r_c.later bB
      replace l_d1 := l_d1.later bB
      replace r_d1 := r_d1.later bB
      replace l_d2 := l_d2.later bB
      replace r_d2 := r_d2.later bB
      replace l_d3 := l_d3.later bB
      replace r_d3 := r_d3.later bB
      replace bb := below_trans bb bB
      have l_d4 := loc_new w7 (.bool s4) (.slice o4 (Dg.dg 4294967296 n4).length k4) (.int .i64 e4) 25
      have r_d4 := (oo.later bB).rd
      clear b1 bB oo
      obtain ⟨-, ⟨a_0, a_1, a_2⟩, -⟩ := id l_a
      obtain ⟨-, ⟨d3_0, d3_1, d3_2⟩, -⟩ := id l_d3
      have hk := dadd_R s ao ca xs e s3 o3 k3 (Dg.dg 4294967296 n3) e3 _ r_a r_d3 sa (Dg.small_dg _ _ (by omega)) (hT.later bb)
      rw [HR5.out] at hk
      go_wp2_with fail
      refine hk.mono ?_
      rintro z w8 ⟨vr, rfl, oo, b1⟩
      clear hk
      obtain ⟨o5, k5, hvr⟩ := oo.rd.shape
      subst hvr
      clear a_0 a_1 a_2 d3_0 d3_1 d3_2
      replace l_a := l_a.later b1
      replace r_a := r_a.later b1
      replace l_b := l_b.later b1
      replace r_b := r_b.later b1
      replace l_c := l_c.later b1
      replace r_c := r_c.later b1
      replace l_d1 := l_d1.later b1
      replace r_d1 := r_d1.later b1
      replace l_d2 := l_d2.later b1
      replace r_d2 := r_d2.later b1
      replace l_d3 := l_d3.later b1
      replace r_d3 := r_d3.later b1
      replace l_d4 := l_d4.later b1
      replace r_d4 := r_d4.later b1
      replace bb := below_trans bb b1
      have bB := below_alloc w8 (.cells #[.bool s5, .slice o5 (Dg.dg 4294967296 n5).length k5, .int .i64 e5] 25)
      replace l_a := l_a.later bB
      replace r_a := r_a.later bB
      replace l_b := l_b.later bB
      replace r_b := r_b.later bB
      replace l_c := l_c.later bB
      replace r_c := r_c.later bB
      replace l_d1 := l_d1.later bB
      replace r_d1 := r_d1.later bB
      replace l_d2 := l_d2.later bB
      replace r_d2 := r_d2.later bB
      replace l_d3 := l_d3.later bB
      replace r_d3 := r_d3.later bB
      replace l_d4 := l_d4.later bB
      replace r_d4 := r_d4.later bB
      replace bb := below_trans bb bB
      have l_d5 := loc_new w8 (.bool s5) (.slice o5 (Dg.dg 4294967296 n5).length k5) (.int .i64 e5) 25
      have r_d5 := (oo.later bB).rd
      clear b1 bB oo
      by_cases ic3 : c3 = 0
      · subst ic3
        by_cases ic4 : c4 = 0
        · subst ic4
          obtain ⟨rfl, rfl, rfl, rfl⟩ := HF2.out (by first | rfl | trivial) (by first | rfl | trivial) (by first | rfl | trivial)
          obtain ⟨-, ⟨d4_0, d4_1, d4_2⟩, -⟩ := id l_d4
          obtain ⟨-, ⟨d5_0, d5_1, d5_2⟩, -⟩ := id l_d5
          go_wp2_with fail
          refine (sameDy_true _ _ _ _ _ _ _ _ r_d4 r_d5).mono ?_
          rintro z w9 ⟨rfl, b1⟩
          clear d4_0 d4_1 d4_2 d5_0 d5_1 d5_2
          replace l_a := l_a.later b1
          replace r_a := r_a.later b1
          replace l_b := l_b.later b1
          replace r_b := r_b.later b1
          replace l_c := l_c.later b1
          replace r_c := r_c.later b1
          replace l_d1 := l_d1.later b1
          replace r_d1 := r_d1.later b1
          replace l_d2 := l_d2.later b1
          replace r_d2 := r_d2.later b1
          replace l_d3 := l_d3.later b1
          replace r_d3 := r_d3.later b1
          replace l_d4 := l_d4.later b1
          replace r_d4 := r_d4.later b1
          replace l_d5 := l_d5.later b1
          replace r_d5 := r_d5.later b1
          replace bb := below_trans bb b1
          clear b1
          obtain ⟨-, ⟨d1_0, d1_1, d1_2⟩, -⟩ := id l_d1
          obtain ⟨-, ⟨c_0, c_1, c_2⟩, -⟩ := id l_c
          have hk := dmul_R s1 o1 k1 (Dg.dg 4294967296 n1) e1 u co cc zs g _ r_d1 r_c (Dg.small_dg _ _ (by omega)) sc (hT.later bb)
          rw [HR6.out] at hk
          go_wp2_with fail
          refine hk.mono ?_
          rintro z w10 ⟨vr, rfl, oo, b1⟩
          clear hk
          obtain ⟨o6, k6, hvr⟩ := oo.rd.shape
          subst hvr
          clear d1_0 d1_1 d1_2 c_0 c_1 c_2
          replace l_a := l_a.later b1
          replace r_a := r_a.later b1
          replace l_b := l_b.later b1
          replace r_b := r_b.later b1
          replace l_c := l_c.later b1
          replace r_c := r_c.later b1
          replace l_d1 := l_d1.later b1
          replace r_d1 := r_d1.later b1
          replace l_d2 := l_d2.later b1
          replace r_d2 := r_d2.later b1
          replace l_d3 := l_d3.later b1
          replace r_d3 := r_d3.later b1
          replace l_d4 := l_d4.later b1
          replace r_d4 := r_d4.later b1
          replace l_d5 := l_d5.later b1
          replace r_d5 := r_d5.later b1
          replace bb := below_trans bb b1
          have bB := below_alloc w10 (.cells #[.bool s6, .slice o6 (Dg.dg 4294967296 n6).length k6, .int .i64 e6] 25)
          replace l_a := l_a.later bB
          replace r_a := r_a.later bB
          replace l_b := l_b.later bB
          replace r_b := r_b.later bB
          replace l_c := l_c.later bB
          replace r_c := r_c.later bB
          replace l_d1 := l_d1.later bB
          replace r_d1 := r_d1.later bB
          replace l_d2 := l_d2.later bB
          replace r_d2 := r_d2.later bB
          replace l_d3 := l_d3.later bB
          replace r_d3 := r_d3.later bB
          replace l_d4 := l_d4.later bB
          replace r_d4 := r_d4.later bB
          replace l_d5 := l_d5.later bB
          replace r_d5 := r_d5.later bB
          replace bb := below_trans bb bB
          have l_d6 := loc_new w10 (.bool s6) (.slice o6 (Dg.dg 4294967296 n6).length k6) (.int .i64 e6) 25
          have r_d6 := (oo.later bB).rd
          clear b1 bB oo
          obtain ⟨-, ⟨a_0, a_1, a_2⟩, -⟩ := id l_a
          obtain ⟨-, ⟨c_0, c_1, c_2⟩, -⟩ := id l_c
          have hk := dmul_R s ao ca xs e u co cc zs g _ r_a r_c sa sc (hT.later bb)
          rw [HR7.out] at hk
          go_wp2_with fail
          refine hk.mono ?_
          rintro z w11 ⟨vr, rfl, oo, b1⟩
          clear hk
          obtain ⟨o7, k7, hvr⟩ := oo.rd.shape
          subst hvr
          clear a_0 a_1 a_2 c_0 c_1 c_2
          replace l_a := l_a.later b1
          replace r_a := r_a.later b1
          replace l_b := l_b.later b1
          replace r_b := r_b.later b1
          replace l_c := l_c.later b1
          replace r_c := r_c.later b1
          replace l_d1 := l_d1.later b1
          replace r_d1 := r_d1.later b1
          replace l_d2 := l_d2.later b1
          replace r_d2 := r_d2.later b1
          replace l_d3 := l_d3.later b1
          replace r_d3 := r_d3.later b1
          replace l_d4 := l_d4.later b1
          replace r_d4 := r_d4.later b1
          replace l_d5 := l_d5.later b1
          replace r_d5 := r_d5.later b1
          replace l_d6 := l_d6.later b1
          replace r_d6 := r_d6.later b1
          replace bb := below_trans bb b1
          have bB := below_alloc w11 (.cells #[.bool s7, .slice o7 (Dg.dg 4294967296 n7).length k7, .int .i64 e7] 25)
          replace l_a := l_a.later bB
          replace r_a := r_a.later bB
          replace l_b := l_b.later bB
          replace r_b := r_b.later bB
          replace l_c := l_c.later bB
          replace r_c := r_c.later bB
          replace l_d1 := l_d1.later bB
          replace r_d1 := r_d1.later bB
          replace l_d2 := l_d2.later bB
          replace r_d2 := r_d2.later bB
          replace l_d3 := l_d3.later bB
          replace r_d3 := r_d3.later bB
          replace l_d4 := l_d4.later bB
          replace r_d4 := r_d4.later bB
          replace l_d5 := l_d5.later bB
          replace r_d5 := r_d5.later bB
          replace l_d6 := l_d6.later bB
          replace r_d6 := r_d6.later bB
          replace bb := below_trans bb bB
          have l_d7 := loc_new w11 (.bool s7) (.slice o7 (Dg.dg 4294967296 n7).length k7) (.int .i64 e7) 25
          have r_d7 := (oo.later bB).rd
          clear b1 bB oo
          obtain ⟨-, ⟨b_0, b_1, b_2⟩, -⟩ := id l_b
          obtain ⟨-, ⟨c_0, c_1, c_2⟩, -⟩ := id l_c
          have hk := dmul_R t bo cb ys f u co cc zs g _ r_b r_c sb sc (hT.later bb)
          rw [HR8.out] at hk
          go_wp2_with fail
          refine hk.mono ?_
          rintro z w12 ⟨vr, rfl, oo, b1⟩
          clear hk
          obtain ⟨o8, k8, hvr⟩ := oo.rd.shape
          subst hvr
          clear b_0 b_1 b_2 c_0 c_1 c_2
          replace l_a := l_a.later b1
          replace r_a := r_a.later b1
          replace l_b := l_b.later b1
          replace r_b := r_b.later b1
          replace l_c := l_c.later b1
          replace r_c := r_c.later b1
          replace l_d1 := l_d1.later b1
          replace r_d1 := r_d1.later b1
          replace l_d2 := l_d2.later b1
          replace r_d2 := r_d2.later b1
          replace l_d3 := l_d3.later b1
          replace r_d3 := r_d3.later b1
          replace l_d4 := l_d4.later b1
          replace r_d4 := r_d4.later b1
          replace l_d5 := l_d5.later b1
          replace r_d5 := r_d5.later b1
          replace l_d6 := l_d6.later b1
          replace r_d6 := r_d6.later b1
          replace l_d7 := l_d7.later b1
          replace r_d7 := r_d7.later b1
          replace bb := below_trans bb b1
          have bB := below_alloc w12 (.cells #[.bool s8, .slice o8 (Dg.dg 4294967296 n8).length k8, .int .i64 e8] 25)
          replace l_a := l_a.later bB
          replace r_a := r_a.later bB
          replace l_b := l_b.later bB
          replace r_b := r_b.later bB
          replace l_c := l_c.later bB
          replace r_c := r_c.later bB
          replace l_d1 := l_d1.later bB
          replace r_d1 := r_d1.later bB
          replace l_d2 := l_d2.later bB
          replace r_d2 := r_d2.later bB
          replace l_d3 := l_d3.later bB
          replace r_d3 := r_d3.later bB
          replace l_d4 := l_d4.later bB
          replace r_d4 := r_d4.later bB
          replace l_d5 := l_d5.later bB
          replace r_d5 := r_d5.later bB
          replace l_d6 := l_d6.later bB
          replace r_d6 := r_d6.later bB
          replace l_d7 := l_d7.later bB
          replace r_d7 := r_d7.later bB
          replace bb := below_trans bb bB
          have l_d8 := loc_new w12 (.bool s8) (.slice o8 (Dg.dg 4294967296 n8).length k8) (.int .i64 e8) 25
          have r_d8 := (oo.later bB).rd
          clear b1 bB oo
          obtain ⟨-, ⟨d7_0, d7_1, d7_2⟩, -⟩ := id l_d7
          obtain ⟨-, ⟨d8_0, d8_1, d8_2⟩, -⟩ := id l_d8
          have hk := dadd_R s7 o7 k7 (Dg.dg 4294967296 n7) e7 s8 o8 k8 (Dg.dg 4294967296 n8) e8 _ r_d7 r_d8 (Dg.small_dg _ _ (by omega)) (Dg.small_dg _ _ (by omega)) (hT.later bb)
          rw [HR9.out] at hk
          go_wp2_with fail
          refine hk.mono ?_
          rintro z w13 ⟨vr, rfl, oo, b1⟩
          clear hk
          obtain ⟨o9, k9, hvr⟩ := oo.rd.shape
          subst hvr
          clear d7_0 d7_1 d7_2 d8_0 d8_1 d8_2
          replace l_a := l_a.later b1
          replace r_a := r_a.later b1
          replace l_b := l_b.later b1
          replace r_b := r_b.later b1
          replace l_c := l_c.later b1
          replace r_c := r_c.later b1
          replace l_d1 := l_d1.later b1
          replace r_d1 := r_d1.later b1
          replace l_d2 := l_d2.later b1
          replace r_d2 := r_d2.later b1
          replace l_d3 := l_d3.later b1
          replace r_d3 := r_d3.later b1
          replace l_d4 := l_d4.later b1
          replace r_d4 := r_d4.later b1
          replace l_d5 := l_d5.later b1
          replace r_d5 := r_d5.later b1
          replace l_d6 := l_d6.later b1
          replace r_d6 := r_d6.later b1
          replace l_d7 := l_d7.later b1
          replace r_d7 := r_d7.later b1
          replace l_d8 := l_d8.later b1
          replace r_d8 := r_d8.later b1
          replace bb := below_trans bb b1
          have bB := below_alloc w13 (.cells #[.bool s9, .slice o9 (Dg.dg 4294967296 n9).length k9, .int .i64 e9] 25)
          replace l_a := l_a.later bB
          replace r_a := r_a.later bB
          replace l_b := l_b.later bB
          replace r_b := r_b.later bB
          replace l_c := l_c.later bB
          replace r_c := r_c.later bB
          replace l_d1 := l_d1.later bB
          replace r_d1 := r_d1.later bB
          replace l_d2 := l_d2.later bB
          replace r_d2 := r_d2.later bB
          replace l_d3 := l_d3.later bB
          replace r_d3 := r_d3.later bB
          replace l_d4 := l_d4.later bB
          replace r_d4 := r_d4.later bB
          replace l_d5 := l_d5.later bB
          replace r_d5 := r_d5.later bB
          replace l_d6 := l_d6.later bB
          replace r_d6 := r_d6.later bB
          replace l_d7 := l_d7.later bB
          replace r_d7 := r_d7.later bB
          replace l_d8 := l_d8.later bB
          replace r_d8 := r_d8.later bB
          replace bb := below_trans bb bB
          have l_d9 := loc_new w13 (.bool s9) (.slice o9 (Dg.dg 4294967296 n9).length k9) (.int .i64 e9) 25
          have r_d9 := (oo.later bB).rd
          clear b1 bB oo
          by_cases ic6 : c6 = 0
          · subst ic6
            by_cases ic7 : c7 = 0
            · subst ic7
              by_cases ic8 : c8 = 0
              · subst ic8
                obtain ⟨rfl, rfl, rfl, rfl⟩ := HF3.out (by first | rfl | trivial) (by first | rfl | trivial) (by first | rfl | trivial) (by first | rfl | trivial)
                obtain ⟨-, ⟨d6_0, d6_1, d6_2⟩, -⟩ := id l_d6
                obtain ⟨-, ⟨d9_0, d9_1, d9_2⟩, -⟩ := id l_d9
                go_wp2_with fail
                refine (sameDy_true _ _ _ _ _ _ _ _ r_d6 r_d9).mono ?_
                rintro z w14 ⟨rfl, b1⟩
                clear d6_0 d6_1 d6_2 d9_0 d9_1 d9_2
                replace l_a := l_a.later b1
                replace r_a := r_a.later b1
                replace l_b := l_b.later b1
                replace r_b := r_b.later b1
                replace l_c := l_c.later b1
                replace r_c := r_c.later b1
                replace l_d1 := l_d1.later b1
                replace r_d1 := r_d1.later b1
                replace l_d2 := l_d2.later b1
                replace r_d2 := r_d2.later b1
                replace l_d3 := l_d3.later b1
                replace r_d3 := r_d3.later b1
                replace l_d4 := l_d4.later b1
                replace r_d4 := r_d4.later b1
                replace l_d5 := l_d5.later b1
                replace r_d5 := r_d5.later b1
                replace l_d6 := l_d6.later b1
                replace r_d6 := r_d6.later b1
                replace l_d7 := l_d7.later b1
                replace r_d7 := r_d7.later b1
                replace l_d8 := l_d8.later b1
                replace r_d8 := r_d8.later b1
                replace l_d9 := l_d9.later b1
                replace r_d9 := r_d9.later b1
                replace bb := below_trans bb b1
                clear b1
                go_wp2
                go_ret
                exact ⟨rfl, bb⟩
              · have gc8 : (c8 == 0) = false := by simp; exact ic8
                go_wp2
                go_ret
                exact ⟨rfl, bb⟩
            · have gc7 : (c7 == 0) = false := by simp; exact ic7
              go_wp2
              go_ret
              exact ⟨rfl, bb⟩
          · have gc6 : (c6 == 0) = false := by simp; exact ic6
            go_wp2
            go_ret
            exact ⟨rfl, bb⟩
        · have gc4 : (c4 == 0) = false := by simp; exact ic4
          obtain ⟨-, ⟨d1_0, d1_1, d1_2⟩, -⟩ := id l_d1
          obtain ⟨-, ⟨c_0, c_1, c_2⟩, -⟩ := id l_c
          have hk := dmul_R s1 o1 k1 (Dg.dg 4294967296 n1) e1 u co cc zs g _ r_d1 r_c (Dg.small_dg _ _ (by omega)) sc (hT.later bb)
          rw [HR6.out] at hk
          go_wp2_with fail
          refine hk.mono ?_
          rintro z w9 ⟨vr, rfl, oo, b1⟩
          clear hk
          obtain ⟨o6, k6, hvr⟩ := oo.rd.shape
          subst hvr
          clear d1_0 d1_1 d1_2 c_0 c_1 c_2
          replace l_a := l_a.later b1
          replace r_a := r_a.later b1
          replace l_b := l_b.later b1
          replace r_b := r_b.later b1
          replace l_c := l_c.later b1
          replace r_c := r_c.later b1
          replace l_d1 := l_d1.later b1
          replace r_d1 := r_d1.later b1
          replace l_d2 := l_d2.later b1
          replace r_d2 := r_d2.later b1
          replace l_d3 := l_d3.later b1
          replace r_d3 := r_d3.later b1
          replace l_d4 := l_d4.later b1
          replace r_d4 := r_d4.later b1
          replace l_d5 := l_d5.later b1
          replace r_d5 := r_d5.later b1
          replace bb := below_trans bb b1
          have bB := below_alloc w9 (.cells #[.bool s6, .slice o6 (Dg.dg 4294967296 n6).length k6, .int .i64 e6] 25)
          replace l_a := l_a.later bB
          replace r_a := r_a.later bB
          replace l_b := l_b.later bB
          replace r_b := r_b.later bB
          replace l_c := l_c.later bB
          replace r_c := r_c.later bB
          replace l_d1 := l_d1.later bB
          replace r_d1 := r_d1.later bB
          replace l_d2 := l_d2.later bB
          replace r_d2 := r_d2.later bB
          replace l_d3 := l_d3.later bB
          replace r_d3 := r_d3.later bB
          replace l_d4 := l_d4.later bB
          replace r_d4 := r_d4.later bB
          replace l_d5 := l_d5.later bB
          replace r_d5 := r_d5.later bB
          replace bb := below_trans bb bB
          have l_d6 := loc_new w9 (.bool s6) (.slice o6 (Dg.dg 4294967296 n6).length k6) (.int .i64 e6) 25
          have r_d6 := (oo.later bB).rd
          clear b1 bB oo
          obtain ⟨-, ⟨a_0, a_1, a_2⟩, -⟩ := id l_a
          obtain ⟨-, ⟨c_0, c_1, c_2⟩, -⟩ := id l_c
          have hk := dmul_R s ao ca xs e u co cc zs g _ r_a r_c sa sc (hT.later bb)
          rw [HR7.out] at hk
          go_wp2_with fail
          refine hk.mono ?_
          rintro z w10 ⟨vr, rfl, oo, b1⟩
          clear hk
          obtain ⟨o7, k7, hvr⟩ := oo.rd.shape
          subst hvr
          clear a_0 a_1 a_2 c_0 c_1 c_2
          replace l_a := l_a.later b1
          replace r_a := r_a.later b1
          replace l_b := l_b.later b1
          replace r_b := r_b.later b1
          replace l_c := l_c.later b1
          replace r_c := r_c.later b1
          replace l_d1 := l_d1.later b1
          replace r_d1 := r_d1.later b1
          replace l_d2 := l_d2.later b1
          replace r_d2 := r_d2.later b1
          replace l_d3 := l_d3.later b1
          replace r_d3 := r_d3.later b1
          replace l_d4 := l_d4.later b1
          replace r_d4 := r_d4.later b1
          replace l_d5 := l_d5.later b1
          replace r_d5 := r_d5.later b1
          replace l_d6 := l_d6.later b1
          replace r_d6 := r_d6.later b1
          replace bb := below_trans bb b1
          have bB := below_alloc w10 (.cells #[.bool s7, .slice o7 (Dg.dg 4294967296 n7).length k7, .int .i64 e7] 25)
          replace l_a := l_a.later bB
          replace r_a := r_a.later bB
          replace l_b := l_b.later bB
          replace r_b := r_b.later bB
          replace l_c := l_c.later bB
          replace r_c := r_c.later bB
          replace l_d1 := l_d1.later bB
          replace r_d1 := r_d1.later bB
          replace l_d2 := l_d2.later bB
          replace r_d2 := r_d2.later bB
          replace l_d3 := l_d3.later bB
          replace r_d3 := r_d3.later bB
          replace l_d4 := l_d4.later bB
          replace r_d4 := r_d4.later bB
          replace l_d5 := l_d5.later bB
          replace r_d5 := r_d5.later bB
          replace l_d6 := l_d6.later bB
          replace r_d6 := r_d6.later bB
          replace bb := below_trans bb bB
          have l_d7 := loc_new w10 (.bool s7) (.slice o7 (Dg.dg 4294967296 n7).length k7) (.int .i64 e7) 25
          have r_d7 := (oo.later bB).rd
          clear b1 bB oo
          obtain ⟨-, ⟨b_0, b_1, b_2⟩, -⟩ := id l_b
          obtain ⟨-, ⟨c_0, c_1, c_2⟩, -⟩ := id l_c
          have hk := dmul_R t bo cb ys f u co cc zs g _ r_b r_c sb sc (hT.later bb)
          rw [HR8.out] at hk
          go_wp2_with fail
          refine hk.mono ?_
          rintro z w11 ⟨vr, rfl, oo, b1⟩
          clear hk
          obtain ⟨o8, k8, hvr⟩ := oo.rd.shape
          subst hvr
          clear b_0 b_1 b_2 c_0 c_1 c_2
          replace l_a := l_a.later b1
          replace r_a := r_a.later b1
          replace l_b := l_b.later b1
          replace r_b := r_b.later b1
          replace l_c := l_c.later b1
          replace r_c := r_c.later b1
          replace l_d1 := l_d1.later b1
          replace r_d1 := r_d1.later b1
          replace l_d2 := l_d2.later b1
          replace r_d2 := r_d2.later b1
          replace l_d3 := l_d3.later b1
          replace r_d3 := r_d3.later b1
          replace l_d4 := l_d4.later b1
          replace r_d4 := r_d4.later b1
          replace l_d5 := l_d5.later b1
          replace r_d5 := r_d5.later b1
          replace l_d6 := l_d6.later b1
          replace r_d6 := r_d6.later b1
          replace l_d7 := l_d7.later b1
          replace r_d7 := r_d7.later b1
          replace bb := below_trans bb b1
          have bB := below_alloc w11 (.cells #[.bool s8, .slice o8 (Dg.dg 4294967296 n8).length k8, .int .i64 e8] 25)
          replace l_a := l_a.later bB
          replace r_a := r_a.later bB
          replace l_b := l_b.later bB
          replace r_b := r_b.later bB
          replace l_c := l_c.later bB
          replace r_c := r_c.later bB
          replace l_d1 := l_d1.later bB
          replace r_d1 := r_d1.later bB
          replace l_d2 := l_d2.later bB
          replace r_d2 := r_d2.later bB
          replace l_d3 := l_d3.later bB
          replace r_d3 := r_d3.later bB
          replace l_d4 := l_d4.later bB
          replace r_d4 := r_d4.later bB
          replace l_d5 := l_d5.later bB
          replace r_d5 := r_d5.later bB
          replace l_d6 := l_d6.later bB
          replace r_d6 := r_d6.later bB
          replace l_d7 := l_d7.later bB
          replace r_d7 := r_d7.later bB
          replace bb := below_trans bb bB
          have l_d8 := loc_new w11 (.bool s8) (.slice o8 (Dg.dg 4294967296 n8).length k8) (.int .i64 e8) 25
          have r_d8 := (oo.later bB).rd
          clear b1 bB oo
          obtain ⟨-, ⟨d7_0, d7_1, d7_2⟩, -⟩ := id l_d7
          obtain ⟨-, ⟨d8_0, d8_1, d8_2⟩, -⟩ := id l_d8
          have hk := dadd_R s7 o7 k7 (Dg.dg 4294967296 n7) e7 s8 o8 k8 (Dg.dg 4294967296 n8) e8 _ r_d7 r_d8 (Dg.small_dg _ _ (by omega)) (Dg.small_dg _ _ (by omega)) (hT.later bb)
          rw [HR9.out] at hk
          go_wp2_with fail
          refine hk.mono ?_
          rintro z w12 ⟨vr, rfl, oo, b1⟩
          clear hk
          obtain ⟨o9, k9, hvr⟩ := oo.rd.shape
          subst hvr
          clear d7_0 d7_1 d7_2 d8_0 d8_1 d8_2
          replace l_a := l_a.later b1
          replace r_a := r_a.later b1
          replace l_b := l_b.later b1
          replace r_b := r_b.later b1
          replace l_c := l_c.later b1
          replace r_c := r_c.later b1
          replace l_d1 := l_d1.later b1
          replace r_d1 := r_d1.later b1
          replace l_d2 := l_d2.later b1
          replace r_d2 := r_d2.later b1
          replace l_d3 := l_d3.later b1
          replace r_d3 := r_d3.later b1
          replace l_d4 := l_d4.later b1
          replace r_d4 := r_d4.later b1
          replace l_d5 := l_d5.later b1
          replace r_d5 := r_d5.later b1
          replace l_d6 := l_d6.later b1
          replace r_d6 := r_d6.later b1
          replace l_d7 := l_d7.later b1
          replace r_d7 := r_d7.later b1
          replace l_d8 := l_d8.later b1
          replace r_d8 := r_d8.later b1
          replace bb := below_trans bb b1
          have bB := below_alloc w12 (.cells #[.bool s9, .slice o9 (Dg.dg 4294967296 n9).length k9, .int .i64 e9] 25)
          replace l_a := l_a.later bB
          replace r_a := r_a.later bB
          replace l_b := l_b.later bB
          replace r_b := r_b.later bB
          replace l_c := l_c.later bB
          replace r_c := r_c.later bB
          replace l_d1 := l_d1.later bB
          replace r_d1 := r_d1.later bB
          replace l_d2 := l_d2.later bB
          replace r_d2 := r_d2.later bB
          replace l_d3 := l_d3.later bB
          replace r_d3 := r_d3.later bB
          replace l_d4 := l_d4.later bB
          replace r_d4 := r_d4.later bB
          replace l_d5 := l_d5.later bB
          replace r_d5 := r_d5.later bB
          replace l_d6 := l_d6.later bB
          replace r_d6 := r_d6.later bB
          replace l_d7 := l_d7.later bB
          replace r_d7 := r_d7.later bB
          replace l_d8 := l_d8.later bB
          replace r_d8 := r_d8.later bB
          replace bb := below_trans bb bB
          have l_d9 := loc_new w12 (.bool s9) (.slice o9 (Dg.dg 4294967296 n9).length k9) (.int .i64 e9) 25
          have r_d9 := (oo.later bB).rd
          clear b1 bB oo
          by_cases ic6 : c6 = 0
          · subst ic6
            by_cases ic7 : c7 = 0
            · subst ic7
              by_cases ic8 : c8 = 0
              · subst ic8
                obtain ⟨rfl, rfl, rfl, rfl⟩ := HF3.out (by first | rfl | trivial) (by first | rfl | trivial) (by first | rfl | trivial) (by first | rfl | trivial)
                obtain ⟨-, ⟨d6_0, d6_1, d6_2⟩, -⟩ := id l_d6
                obtain ⟨-, ⟨d9_0, d9_1, d9_2⟩, -⟩ := id l_d9
                go_wp2_with fail
                refine (sameDy_true _ _ _ _ _ _ _ _ r_d6 r_d9).mono ?_
                rintro z w13 ⟨rfl, b1⟩
                clear d6_0 d6_1 d6_2 d9_0 d9_1 d9_2
                replace l_a := l_a.later b1
                replace r_a := r_a.later b1
                replace l_b := l_b.later b1
                replace r_b := r_b.later b1
                replace l_c := l_c.later b1
                replace r_c := r_c.later b1
                replace l_d1 := l_d1.later b1
                replace r_d1 := r_d1.later b1
                replace l_d2 := l_d2.later b1
                replace r_d2 := r_d2.later b1
                replace l_d3 := l_d3.later b1
                replace r_d3 := r_d3.later b1
                replace l_d4 := l_d4.later b1
                replace r_d4 := r_d4.later b1
                replace l_d5 := l_d5.later b1
                replace r_d5 := r_d5.later b1
                replace l_d6 := l_d6.later b1
                replace r_d6 := r_d6.later b1
                replace l_d7 := l_d7.later b1
                replace r_d7 := r_d7.later b1
                replace l_d8 := l_d8.later b1
                replace r_d8 := r_d8.later b1
                replace l_d9 := l_d9.later b1
                replace r_d9 := r_d9.later b1
                replace bb := below_trans bb b1
                clear b1
                go_wp2
                go_ret
                exact ⟨rfl, bb⟩
              · have gc8 : (c8 == 0) = false := by simp; exact ic8
                go_wp2
                go_ret
                exact ⟨rfl, bb⟩
            · have gc7 : (c7 == 0) = false := by simp; exact ic7
              go_wp2
              go_ret
              exact ⟨rfl, bb⟩
          · have gc6 : (c6 == 0) = false := by simp; exact ic6
            go_wp2
            go_ret
            exact ⟨rfl, bb⟩
      · have gc3 : (c3 == 0) = false := by simp; exact ic3
        obtain ⟨-, ⟨d1_0, d1_1, d1_2⟩, -⟩ := id l_d1
        obtain ⟨-, ⟨c_0, c_1, c_2⟩, -⟩ := id l_c
        have hk := dmul_R s1 o1 k1 (Dg.dg 4294967296 n1) e1 u co cc zs g _ r_d1 r_c (Dg.small_dg _ _ (by omega)) sc (hT.later bb)
        rw [HR6.out] at hk
        go_wp2_with fail
        refine hk.mono ?_
        rintro z w9 ⟨vr, rfl, oo, b1⟩
        clear hk
        obtain ⟨o6, k6, hvr⟩ := oo.rd.shape
        subst hvr
        clear d1_0 d1_1 d1_2 c_0 c_1 c_2
        replace l_a := l_a.later b1
        replace r_a := r_a.later b1
        replace l_b := l_b.later b1
        replace r_b := r_b.later b1
        replace l_c := l_c.later b1
        replace r_c := r_c.later b1
        replace l_d1 := l_d1.later b1
        replace r_d1 := r_d1.later b1
        replace l_d2 := l_d2.later b1
        replace r_d2 := r_d2.later b1
        replace l_d3 := l_d3.later b1
        replace r_d3 := r_d3.later b1
        replace l_d4 := l_d4.later b1
        replace r_d4 := r_d4.later b1
        replace l_d5 := l_d5.later b1
        replace r_d5 := r_d5.later b1
        replace bb := below_trans bb b1
        have bB := below_alloc w9 (.cells #[.bool s6, .slice o6 (Dg.dg 4294967296 n6).length k6, .int .i64 e6] 25)
        replace l_a := l_a.later bB
        replace r_a := r_a.later bB
        replace l_b := l_b.later bB
        replace r_b := r_b.later bB
        replace l_c := l_c.later bB
        replace r_c := r_c.later bB
        replace l_d1 := l_d1.later bB
        replace r_d1 := r_d1.later bB
        replace l_d2 := l_d2.later bB
        replace r_d2 := r_d2.later bB
        replace l_d3 := l_d3.later bB
        replace r_d3 := r_d3.later bB
        replace l_d4 := l_d4.later bB
        replace r_d4 := r_d4.later bB
        replace l_d5 := l_d5.later bB
        replace r_d5 := r_d5.later bB
        replace bb := below_trans bb bB
        have l_d6 := loc_new w9 (.bool s6) (.slice o6 (Dg.dg 4294967296 n6).length k6) (.int .i64 e6) 25
        have r_d6 := (oo.later bB).rd
        clear b1 bB oo
        obtain ⟨-, ⟨a_0, a_1, a_2⟩, -⟩ := id l_a
        obtain ⟨-, ⟨c_0, c_1, c_2⟩, -⟩ := id l_c
        have hk := dmul_R s ao ca xs e u co cc zs g _ r_a r_c sa sc (hT.later bb)
        rw [HR7.out] at hk
        go_wp2_with fail
        refine hk.mono ?_
        rintro z w10 ⟨vr, rfl, oo, b1⟩
        clear hk
        obtain ⟨o7, k7, hvr⟩ := oo.rd.shape
        subst hvr
        clear a_0 a_1 a_2 c_0 c_1 c_2
        replace l_a := l_a.later b1
        replace r_a := r_a.later b1
        replace l_b := l_b.later b1
        replace r_b := r_b.later b1
        replace l_c := l_c.later b1
        replace r_c := r_c.later b1
        replace l_d1 := l_d1.later b1
        replace r_d1 := r_d1.later b1
        replace l_d2 := l_d2.later b1
        replace r_d2 := r_d2.later b1
        replace l_d3 := l_d3.later b1
        replace r_d3 := r_d3.later b1
        replace l_d4 := l_d4.later b1
        replace r_d4 := r_d4.later b1
        replace l_d5 := l_d5.later b1
        replace r_d5 := r_d5.later b1
        replace l_d6 := l_d6.later b1
        replace r_d6 := r_d6.later b1
        replace bb := below_trans bb b1
        have bB := below_alloc w10 (.cells #[.bool s7, .slice o7 (Dg.dg 4294967296 n7).length k7, .int .i64 e7] 25)
        replace l_a := l_a.later bB
        replace r_a := r_a.later bB
        replace l_b := l_b.later bB
        replace r_b := r_b.later bB
        replace l_c := l_c.later bB
        replace r_c := r_c.later bB
        replace l_d1 := l_d1.later bB
        replace r_d1 := r_d1.later bB
        replace l_d2 := l_d2.later bB
        replace r_d2 := r_d2.later bB
        replace l_d3 := l_d3.later bB
        replace r_d3 := r_d3.later bB
        replace l_d4 := l_d4.later bB
        replace r_d4 := r_d4.later bB
        replace l_d5 := l_d5.later bB
        replace r_d5 := r_d5.later bB
        replace l_d6 := l_d6.later bB
        replace r_d6 := r_d6.later bB
        replace bb := below_trans bb bB
        have l_d7 := loc_new w10 (.bool s7) (.slice o7 (Dg.dg 4294967296 n7).length k7) (.int .i64 e7) 25
        have r_d7 := (oo.later bB).rd
        clear b1 bB oo
        obtain ⟨-, ⟨b_0, b_1, b_2⟩, -⟩ := id l_b
        obtain ⟨-, ⟨c_0, c_1, c_2⟩, -⟩ := id l_c
        have hk := dmul_R t bo cb ys f u co cc zs g _ r_b r_c sb sc (hT.later bb)
        rw [HR8.out] at hk
        go_wp2_with fail
        refine hk.mono ?_
        rintro z w11 ⟨vr, rfl, oo, b1⟩
        clear hk
        obtain ⟨o8, k8, hvr⟩ := oo.rd.shape
        subst hvr
        clear b_0 b_1 b_2 c_0 c_1 c_2
        replace l_a := l_a.later b1
        replace r_a := r_a.later b1
        replace l_b := l_b.later b1
        replace r_b := r_b.later b1
        replace l_c := l_c.later b1
        replace r_c := r_c.later b1
        replace l_d1 := l_d1.later b1
        replace r_d1 := r_d1.later b1
        replace l_d2 := l_d2.later b1
        replace r_d2 := r_d2.later b1
        replace l_d3 := l_d3.later b1
        replace r_d3 := r_d3.later b1
        replace l_d4 := l_d4.later b1
        replace r_d4 := r_d4.later b1
        replace l_d5 := l_d5.later b1
        replace r_d5 := r_d5.later b1
        replace l_d6 := l_d6.later b1
        replace r_d6 := r_d6.later b1
        replace l_d7 := l_d7.later b1
        replace r_d7 := r_d7.later b1
        replace bb := below_trans bb b1
        have bB := below_alloc w11 (.cells #[.bool s8, .slice o8 (Dg.dg 4294967296 n8).length k8, .int .i64 e8] 25)
        replace l_a := l_a.later bB
        replace r_a := r_a.later bB
        replace l_b := l_b.later bB
        replace r_b := r_b.later bB
        replace l_c := l_c.later bB
        replace r_c := r_c.later bB
        replace l_d1 := l_d1.later bB
        replace r_d1 := r_d1.later bB
        replace l_d2 := l_d2.later bB
        replace r_d2 := r_d2.later bB
        replace l_d3 := l_d3.later bB
        replace r_d3 := r_d3.later bB
        replace l_d4 := l_d4.later bB
        replace r_d4 := r_d4.later bB
        replace l_d5 := l_d5.later bB
        replace r_d5 := r_d5.later bB
        replace l_d6 := l_d6.later bB
        replace r_d6 := r_d6.later bB
        replace l_d7 := l_d7.later bB
        replace r_d7 := r_d7.later bB
        replace bb := below_trans bb bB
        have l_d8 := loc_new w11 (.bool s8) (.slice o8 (Dg.dg 4294967296 n8).length k8) (.int .i64 e8) 25
        have r_d8 := (oo.later bB).rd
        clear b1 bB oo
        obtain ⟨-, ⟨d7_0, d7_1, d7_2⟩, -⟩ := id l_d7
        obtain ⟨-, ⟨d8_0, d8_1, d8_2⟩, -⟩ := id l_d8
        have hk := dadd_R s7 o7 k7 (Dg.dg 4294967296 n7) e7 s8 o8 k8 (Dg.dg 4294967296 n8) e8 _ r_d7 r_d8 (Dg.small_dg _ _ (by omega)) (Dg.small_dg _ _ (by omega)) (hT.later bb)
        rw [HR9.out] at hk
        go_wp2_with fail
        refine hk.mono ?_
        rintro z w12 ⟨vr, rfl, oo, b1⟩
        clear hk
        obtain ⟨o9, k9, hvr⟩ := oo.rd.shape
        subst hvr
        clear d7_0 d7_1 d7_2 d8_0 d8_1 d8_2
        replace l_a := l_a.later b1
        replace r_a := r_a.later b1
        replace l_b := l_b.later b1
        replace r_b := r_b.later b1
        replace l_c := l_c.later b1
        replace r_c := r_c.later b1
        replace l_d1 := l_d1.later b1
        replace r_d1 := r_d1.later b1
        replace l_d2 := l_d2.later b1
        replace r_d2 := r_d2.later b1
        replace l_d3 := l_d3.later b1
        replace r_d3 := r_d3.later b1
        replace l_d4 := l_d4.later b1
        replace r_d4 := r_d4.later b1
        replace l_d5 := l_d5.later b1
        replace r_d5 := r_d5.later b1
        replace l_d6 := l_d6.later b1
        replace r_d6 := r_d6.later b1
        replace l_d7 := l_d7.later b1
        replace r_d7 := r_d7.later b1
        replace l_d8 := l_d8.later b1
        replace r_d8 := r_d8.later b1
        replace bb := below_trans bb b1
        have bB := below_alloc w12 (.cells #[.bool s9, .slice o9 (Dg.dg 4294967296 n9).length k9, .int .i64 e9] 25)
        replace l_a := l_a.later bB
        replace r_a := r_a.later bB
        replace l_b := l_b.later bB
        replace r_b := r_b.later bB
        replace l_c := l_c.later bB
        replace r_c := r_c.later bB
        replace l_d1 := l_d1.later bB
        replace r_d1 := r_d1.later bB
        replace l_d2 := l_d2.later bB
        replace r_d2 := r_d2.later bB
        replace l_d3 := l_d3.later bB
        replace r_d3 := r_d3.later bB
        replace l_d4 := l_d4.later bB
        replace r_d4 := r_d4.later bB
        replace l_d5 := l_d5.later bB
        replace r_d5 := r_d5.later bB
        replace l_d6 := l_d6.later bB
        replace r_d6 := r_d6.later bB
        replace l_d7 := l_d7.later bB
        replace r_d7 := r_d7.later bB
        replace l_d8 := l_d8.later bB
        replace r_d8 := r_d8.later bB
        replace bb := below_trans bb bB
        have l_d9 := loc_new w12 (.bool s9) (.slice o9 (Dg.dg 4294967296 n9).length k9) (.int .i64 e9) 25
        have r_d9 := (oo.later bB).rd
        clear b1 bB oo
        by_cases ic6 : c6 = 0
        · subst ic6
          by_cases ic7 : c7 = 0
          · subst ic7
            by_cases ic8 : c8 = 0
            · subst ic8
              obtain ⟨rfl, rfl, rfl, rfl⟩ := HF3.out (by first | rfl | trivial) (by first | rfl | trivial) (by first | rfl | trivial) (by first | rfl | trivial)
              obtain ⟨-, ⟨d6_0, d6_1, d6_2⟩, -⟩ := id l_d6
              obtain ⟨-, ⟨d9_0, d9_1, d9_2⟩, -⟩ := id l_d9
              go_wp2_with fail
              refine (sameDy_true _ _ _ _ _ _ _ _ r_d6 r_d9).mono ?_
              rintro z w13 ⟨rfl, b1⟩
              clear d6_0 d6_1 d6_2 d9_0 d9_1 d9_2
              replace l_a := l_a.later b1
              replace r_a := r_a.later b1
              replace l_b := l_b.later b1
              replace r_b := r_b.later b1
              replace l_c := l_c.later b1
              replace r_c := r_c.later b1
              replace l_d1 := l_d1.later b1
              replace r_d1 := r_d1.later b1
              replace l_d2 := l_d2.later b1
              replace r_d2 := r_d2.later b1
              replace l_d3 := l_d3.later b1
              replace r_d3 := r_d3.later b1
              replace l_d4 := l_d4.later b1
              replace r_d4 := r_d4.later b1
              replace l_d5 := l_d5.later b1
              replace r_d5 := r_d5.later b1
              replace l_d6 := l_d6.later b1
              replace r_d6 := r_d6.later b1
              replace l_d7 := l_d7.later b1
              replace r_d7 := r_d7.later b1
              replace l_d8 := l_d8.later b1
              replace r_d8 := r_d8.later b1
              replace l_d9 := l_d9.later b1
              replace r_d9 := r_d9.later b1
              replace bb := below_trans bb b1
              clear b1
              go_wp2
              go_ret
              exact ⟨rfl, bb⟩
            · have gc8 : (c8 == 0) = false := by simp; exact ic8
              go_wp2
              go_ret
              exact ⟨rfl, bb⟩
          · have gc7 : (c7 == 0) = false := by simp; exact ic7
            go_wp2
            go_ret
            exact ⟨rfl, bb⟩
        · have gc6 : (c6 == 0) = false := by simp; exact ic6
          go_wp2
          go_ret
          exact ⟨rfl, bb⟩
    · have gc1 : (c1 == 0) = false := by simp; exact ic1
      obtain ⟨-, ⟨d1_0, d1_1, d1_2⟩, -⟩ := id l_d1
      obtain ⟨-, ⟨c_0, c_1, c_2⟩, -⟩ := id l_c
      have hk := dadd_R s1 o1 k1 (Dg.dg 4294967296 n1) e1 u co cc zs g _ r_d1 r_c (Dg.small_dg _ _ (by omega)) sc (hT.later bb)
      rw [HR4.out] at hk
      go_wp2_with fail
      refine hk.mono ?_
      rintro z w6 ⟨vr, rfl, oo, b1⟩
      clear hk
      obtain ⟨o4, k4, hvr⟩ := oo.rd.shape
      subst hvr
      clear d1_0 d1_1 d1_2 c_0 c_1 c_2
      replace l_a := l_a.later b1
      replace r_a := r_a.later b1
      replace l_b := l_b.later b1
      replace r_b := r_b.later b1
      replace l_c := l_c.later b1
      replace r_c := r_c.later b1
      replace l_d1 := l_d1.later b1
      replace r_d1 := r_d1.later b1
      replace l_d2 := l_d2.later b1
      replace r_d2 := r_d2.later b1
      replace l_d3 := l_d3.later b1
      replace r_d3 := r_d3.later b1
      replace bb := below_trans bb b1
      have bB := below_alloc w6 (.cells #[.bool s4, .slice o4 (Dg.dg 4294967296 n4).length k4, .int .i64 e4] 25)
      replace l_a := l_a.later bB
      replace r_a := r_a.later bB
      replace l_b := l_b.later bB
      replace r_b := r_b.later bB
      replace l_c := l_c.later bB
      replace r_c := r_c.later bB
      replace l_d1 := l_d1.later bB
      replace r_d1 := r_d1.later bB
      replace l_d2 := l_d2.later bB
      replace r_d2 := r_d2.later bB
      replace l_d3 := l_d3.later bB
      replace r_d3 := r_d3.later bB
      replace bb := below_trans bb bB
      have l_d4 := loc_new w6 (.bool s4) (.slice o4 (Dg.dg 4294967296 n4).length k4) (.int .i64 e4) 25
      have r_d4 := (oo.later bB).rd
      clear b1 bB oo
      obtain ⟨-, ⟨a_0, a_1, a_2⟩, -⟩ := id l_a
      obtain ⟨-, ⟨d3_0, d3_1, d3_2⟩, -⟩ := id l_d3
      have hk := dadd_R s ao ca xs e s3 o3 k3 (Dg.dg 4294967296 n3) e3 _ r_a r_d3 sa (Dg.small_dg _ _ (by omega)) (hT.later bb)
      rw [HR5.out] at hk
      go_wp2_with fail
      refine hk.mono ?_
      rintro z w7 ⟨vr, rfl, oo, b1⟩
      clear hk
      obtain ⟨o5, k5, hvr⟩ := oo.rd.shape
      subst hvr
      clear a_0 a_1 a_2 d3_0 d3_1 d3_2
      replace l_a := l_a.later b1
      replace r_a := r_a.later b1
      replace l_b := l_b.later b1
      replace r_b := r_b.later b1
      replace l_c := l_c.later b1
      replace r_c := r_c.later b1
      replace l_d1 := l_d1.later b1
      replace r_d1 := r_d1.later b1
      replace l_d2 := l_d2.later b1
      replace r_d2 := r_d2.later b1
      replace l_d3 := l_d3.later b1
      replace r_d3 := r_d3.later b1
      replace l_d4 := l_d4.later b1
      replace r_d4 := r_d4.later b1
      replace bb := below_trans bb b1
      have bB := below_alloc w7 (.cells #[.bool s5, .slice o5 (Dg.dg 4294967296 n5).length k5, .int .i64 e5] 25)
      replace l_a := l_a.later bB
      replace r_a := r_a.later bB
      replace l_b := l_b.later bB
      replace r_b := r_b.later bB
      replace l_c := l_c.later bB
      replace r_c := r_c.later bB
      replace l_d1 := l_d1.later bB
      replace r_d1 := r_d1.later bB
      replace l_d2 := l_d2.later bB
      replace r_d2 := r_d2.later bB
      replace l_d3 := l_d3.later bB
      replace r_d3 := r_d3.later bB
      replace l_d4 := l_d4.later bB
      replace r_d4 := r_d4.later bB
      replace bb := below_trans bb bB
      have l_d5 := loc_new w7 (.bool s5) (.slice o5 (Dg.dg 4294967296 n5).length k5) (.int .i64 e5) 25
      have r_d5 := (oo.later bB).rd
      clear b1 bB oo
      obtain ⟨-, ⟨d1_0, d1_1, d1_2⟩, -⟩ := id l_d1
      obtain ⟨-, ⟨c_0, c_1, c_2⟩, -⟩ := id l_c
      have hk := dmul_R s1 o1 k1 (Dg.dg 4294967296 n1) e1 u co cc zs g _ r_d1 r_c (Dg.small_dg _ _ (by omega)) sc (hT.later bb)
      rw [HR6.out] at hk
      go_wp2_with fail
      refine hk.mono ?_
      rintro z w8 ⟨vr, rfl, oo, b1⟩
      clear hk
      obtain ⟨o6, k6, hvr⟩ := oo.rd.shape
      subst hvr
      clear d1_0 d1_1 d1_2 c_0 c_1 c_2
      replace l_a := l_a.later b1
      replace r_a := r_a.later b1
      replace l_b := l_b.later b1
      replace r_b := r_b.later b1
      replace l_c := l_c.later b1
      replace r_c := r_c.later b1
      replace l_d1 := l_d1.later b1
      replace r_d1 := r_d1.later b1
      replace l_d2 := l_d2.later b1
      replace r_d2 := r_d2.later b1
      replace l_d3 := l_d3.later b1
      replace r_d3 := r_d3.later b1
      replace l_d4 := l_d4.later b1
      replace r_d4 := r_d4.later b1
      replace l_d5 := l_d5.later b1
      replace r_d5 := r_d5.later b1
      replace bb := below_trans bb b1
      have bB := below_alloc w8 (.cells #[.bool s6, .slice o6 (Dg.dg 4294967296 n6).length k6, .int .i64 e6] 25)
      replace l_a := l_a.later bB
      replace r_a := r_a.later bB
      replace l_b := l_b.later bB
      replace r_b := r_b.later bB
      replace l_c := l_c.later bB
      replace r_c := r_c.later bB
      replace l_d1 := l_d1.later bB
      replace r_d1 := r_d1.later bB
      replace l_d2 := l_d2.later bB
      replace r_d2 := r_d2.later bB
      replace l_d3 := l_d3.later bB
      replace r_d3 := r_d3.later bB
      replace l_d4 := l_d4.later bB
      replace r_d4 := r_d4.later bB
      replace l_d5 := l_d5.later bB
      replace r_d5 := r_d5.later bB
      replace bb := below_trans bb bB
      have l_d6 := loc_new w8 (.bool s6) (.slice o6 (Dg.dg 4294967296 n6).length k6) (.int .i64 e6) 25
      have r_d6 := (oo.later bB).rd
      clear b1 bB oo
      obtain ⟨-, ⟨a_0, a_1, a_2⟩, -⟩ := id l_a
      obtain ⟨-, ⟨c_0, c_1, c_2⟩, -⟩ := id l_c
      have hk := dmul_R s ao ca xs e u co cc zs g _ r_a r_c sa sc (hT.later bb)
      rw [HR7.out] at hk
      go_wp2_with fail
      refine hk.mono ?_
      rintro z w9 ⟨vr, rfl, oo, b1⟩
      clear hk
      obtain ⟨o7, k7, hvr⟩ := oo.rd.shape
      subst hvr
      clear a_0 a_1 a_2 c_0 c_1 c_2
      replace l_a := l_a.later b1
      replace r_a := r_a.later b1
      replace l_b := l_b.later b1
      replace r_b := r_b.later b1
      replace l_c := l_c.later b1
      replace r_c := r_c.later b1
      replace l_d1 := l_d1.later b1
      replace r_d1 := r_d1.later b1
      replace l_d2 := l_d2.later b1
      replace r_d2 := r_d2.later b1
      replace l_d3 := l_d3.later b1
      replace r_d3 := r_d3.later b1
      replace l_d4 := l_d4.later b1
      replace r_d4 := r_d4.later b1
      replace l_d5 := l_d5.later b1
      replace r_d5 := r_d5.later b1
      replace l_d6 := l_d6.later b1
      replace r_d6 := r_d6.later b1
      replace bb := below_trans bb b1
      have bB := below_alloc w9 (.cells #[.bool s7, .slice o7 (Dg.dg 4294967296 n7).length k7, .int .i64 e7] 25)
      replace l_a := l_a.later bB
      replace r_a := r_a.later bB
      replace l_b := l_b.later bB
      replace r_b := r_b.later bB
      replace l_c := l_c.later bB
      replace r_c := r_c.later bB
      replace l_d1 := l_d1.later bB
      replace r_d1 := r_d1.later bB
      replace l_d2 := l_d2.later bB
      replace r_d2 := r_d2.later bB
      replace l_d3 := l_d3.later bB
      replace r_d3 := r_d3.later bB
      replace l_d4 := l_d4.later bB
      replace r_d4 := r_d4.later bB
      replace l_d5 := l_d5.later bB
      replace r_d5 := r_d5.later bB
      replace l_d6 := l_d6.later bB
      replace r_d6 := r_d6.later bB
      replace bb := below_trans bb bB
      have l_d7 := loc_new w9 (.bool s7) (.slice o7 (Dg.dg 4294967296 n7).length k7) (.int .i64 e7) 25
      have r_d7 := (oo.later bB).rd
      clear b1 bB oo
      obtain ⟨-, ⟨b_0, b_1, b_2⟩, -⟩ := id l_b
      obtain ⟨-, ⟨c_0, c_1, c_2⟩, -⟩ := id l_c
      have hk := dmul_R t bo cb ys f u co cc zs g _ r_b r_c sb sc (hT.later bb)
      rw [HR8.out] at hk
      go_wp2_with fail
      refine hk.mono ?_
      rintro z w10 ⟨vr, rfl, oo, b1⟩
      clear hk
      obtain ⟨o8, k8, hvr⟩ := oo.rd.shape
      subst hvr
      clear b_0 b_1 b_2 c_0 c_1 c_2
      replace l_a := l_a.later b1
      replace r_a := r_a.later b1
      replace l_b := l_b.later b1
      replace r_b := r_b.later b1
      replace l_c := l_c.later b1
      replace r_c := r_c.later b1
      replace l_d1 := l_d1.later b1
      replace r_d1 := r_d1.later b1
      replace l_d2 := l_d2.later b1
      replace r_d2 := r_d2.later b1
      replace l_d3 := l_d3.later b1
      replace r_d3 := r_d3.later b1
      replace l_d4 := l_d4.later b1
      replace r_d4 := r_d4.later b1
      replace l_d5 := l_d5.later b1
      replace r_d5 := r_d5.later b1
      replace l_d6 := l_d6.later b1
      replace r_d6 := r_d6.later b1
      replace l_d7 := l_d7.later b1
      replace r_d7 := r_d7.later b1
      replace bb := below_trans bb b1
      have bB := below_alloc w10 (.cells #[.bool s8, .slice o8 (Dg.dg 4294967296 n8).length k8, .int .i64 e8] 25)
      replace l_a := l_a.later bB
      replace r_a := r_a.later bB
      replace l_b := l_b.later bB
      replace r_b := r_b.later bB
      replace l_c := l_c.later bB
      replace r_c := r_c.later bB
      replace l_d1 := l_d1.later bB
      replace r_d1 := r_d1.later bB
      replace l_d2 := l_d2.later bB
      replace r_d2 := r_d2.later bB
      replace l_d3 := l_d3.later bB
      replace r_d3 := r_d3.later bB
      replace l_d4 := l_d4.later bB
      replace r_d4 := r_d4.later bB
      replace l_d5 := l_d5.later bB
      replace r_d5 := r_d5.later bB
      replace l_d6 := l_d6.later bB
      replace r_d6 := r_d6.later bB
      replace l_d7 := l_d7.later bB
      replace r_d7 := r_d7.later bB
      replace bb := below_trans bb bB
      have l_d8 := loc_new w10 (.bool s8) (.slice o8 (Dg.dg 4294967296 n8).length k8) (.int .i64 e8) 25
      have r_d8 := (oo.later bB).rd
      clear b1 bB oo
      obtain ⟨-, ⟨d7_0, d7_1, d7_2⟩, -⟩ := id l_d7
      obtain ⟨-, ⟨d8_0, d8_1, d8_2⟩, -⟩ := id l_d8
      have hk := dadd_R s7 o7 k7 (Dg.dg 4294967296 n7) e7 s8 o8 k8 (Dg.dg 4294967296 n8) e8 _ r_d7 r_d8 (Dg.small_dg _ _ (by omega)) (Dg.small_dg _ _ (by omega)) (hT.later bb)
      rw [HR9.out] at hk
      go_wp2_with fail
      refine hk.mono ?_
      rintro z w11 ⟨vr, rfl, oo, b1⟩
      clear hk
      obtain ⟨o9, k9, hvr⟩ := oo.rd.shape
      subst hvr
      clear d7_0 d7_1 d7_2 d8_0 d8_1 d8_2
      replace l_a := l_a.later b1
      replace r_a := r_a.later b1
      replace l_b := l_b.later b1
      replace r_b := r_b.later b1
      replace l_c := l_c.later b1
      replace r_c := r_c.later b1
      replace l_d1 := l_d1.later b1
      replace r_d1 := r_d1.later b1
      replace l_d2 := l_d2.later b1
      replace r_d2 := r_d2.later b1
      replace l_d3 := l_d3.later b1
      replace r_d3 := r_d3.later b1
      replace l_d4 := l_d4.later b1
      replace r_d4 := r_d4.later b1
      replace l_d5 := l_d5.later b1
      replace r_d5 := r_d5.later b1
      replace l_d6 := l_d6.later b1
      replace r_d6 := r_d6.later b1
      replace l_d7 := l_d7.later b1
      replace r_d7 := r_d7.later b1
      replace l_d8 := l_d8.later b1
      replace r_d8 := r_d8.later b1
      replace bb := below_trans bb b1
      have bB := below_alloc w11 (.cells #[.bool s9, .slice o9 (Dg.dg 4294967296 n9).length k9, .int .i64 e9] 25)
      replace l_a := l_a.later bB
      replace r_a := r_a.later bB
      replace l_b := l_b.later bB
      replace r_b := r_b.later bB
      replace l_c := l_c.later bB
      replace r_c := r_c.later bB
      replace l_d1 := l_d1.later bB
      replace r_d1 := r_d1.later bB
      replace l_d2 := l_d2.later bB
      replace r_d2 := r_d2.later bB
      replace l_d3 := l_d3.later bB
      replace r_d3 := r_d3.later bB
      replace l_d4 := l_d4.later bB
      replace r_d4 := r_d4.later bB
      replace l_d5 := l_d5.later bB
      replace r_d5 := r_d5.later bB
      replace l_d6 := l_d6.later bB
      replace r_d6 := r_d6.later bB
      replace l_d7 := l_d7.later bB
      replace r_d7 := r_d7.later bB
      replace l_d8 := l_d8.later bB
      replace r_d8 := r_d8.later bB
      replace bb := below_trans bb bB
      have l_d9 := loc_new w11 (.bool s9) (.slice o9 (Dg.dg 4294967296 n9).length k9) (.int .i64 e9) 25
      have r_d9 := (oo.later bB).rd
      clear b1 bB oo
      go_wp2
      go_ret
      exact ⟨rfl, bb⟩
  · have ic1 := HF0.out i0
    have g0 : (c0 == 0) = false := by simp; exact i0
    have gc1 : (c1 == 0) = false := by simp; exact ic1
    obtain ⟨-, ⟨d1_0, d1_1, d1_2⟩, -⟩ := id l_d1
    obtain ⟨-, ⟨c_0, c_1, c_2⟩, -⟩ := id l_c
    have hk := dadd_R s1 o1 k1 (Dg.dg 4294967296 n1) e1 u co cc zs g _ r_d1 r_c (Dg.small_dg _ _ (by omega)) sc (hT.later bb)
    rw [HR4.out] at hk
    go_wp2_with fail
    refine hk.mono ?_
    rintro z w6 ⟨vr, rfl, oo, b1⟩
    clear hk
    obtain ⟨o4, k4, hvr⟩ := oo.rd.shape
    subst hvr
    clear d1_0 d1_1 d1_2 c_0 c_1 c_2
    replace l_a := l_a.later b1
    replace r_a := r_a.later b1
    replace l_b := l_b.later b1
    replace r_b := r_b.later b1
    replace l_c := l_c.later b1
    replace r_c := r_c.later b1
    replace l_d1 := l_d1.later b1
    replace r_d1 := r_d1.later b1
    replace l_d2 := l_d2.later b1
    replace r_d2 := r_d2.later b1
    replace l_d3 := l_d3.later b1
    replace r_d3 := r_d3.later b1
    replace bb := below_trans bb b1
    have bB := below_alloc w6 (.cells #[.bool s4, .slice o4 (Dg.dg 4294967296 n4).length k4, .int .i64 e4] 25)
    replace l_a := l_a.later bB
    replace r_a := r_a.later bB
    replace l_b := l_b.later bB
    replace r_b := r_b.later bB
    replace l_c := l_c.later bB
    replace r_c := r_c.later bB
    replace l_d1 := l_d1.later bB
    replace r_d1 := r_d1.later bB
    replace l_d2 := l_d2.later bB
    replace r_d2 := r_d2.later bB
    replace l_d3 := l_d3.later bB
    replace r_d3 := r_d3.later bB
    replace bb := below_trans bb bB
    have l_d4 := loc_new w6 (.bool s4) (.slice o4 (Dg.dg 4294967296 n4).length k4) (.int .i64 e4) 25
    have r_d4 := (oo.later bB).rd
    clear b1 bB oo
    obtain ⟨-, ⟨a_0, a_1, a_2⟩, -⟩ := id l_a
    obtain ⟨-, ⟨d3_0, d3_1, d3_2⟩, -⟩ := id l_d3
    have hk := dadd_R s ao ca xs e s3 o3 k3 (Dg.dg 4294967296 n3) e3 _ r_a r_d3 sa (Dg.small_dg _ _ (by omega)) (hT.later bb)
    rw [HR5.out] at hk
    go_wp2_with fail
    refine hk.mono ?_
    rintro z w7 ⟨vr, rfl, oo, b1⟩
    clear hk
    obtain ⟨o5, k5, hvr⟩ := oo.rd.shape
    subst hvr
    clear a_0 a_1 a_2 d3_0 d3_1 d3_2
    replace l_a := l_a.later b1
    replace r_a := r_a.later b1
    replace l_b := l_b.later b1
    replace r_b := r_b.later b1
    replace l_c := l_c.later b1
    replace r_c := r_c.later b1
    replace l_d1 := l_d1.later b1
    replace r_d1 := r_d1.later b1
    replace l_d2 := l_d2.later b1
    replace r_d2 := r_d2.later b1
    replace l_d3 := l_d3.later b1
    replace r_d3 := r_d3.later b1
    replace l_d4 := l_d4.later b1
    replace r_d4 := r_d4.later b1
    replace bb := below_trans bb b1
    have bB := below_alloc w7 (.cells #[.bool s5, .slice o5 (Dg.dg 4294967296 n5).length k5, .int .i64 e5] 25)
    replace l_a := l_a.later bB
    replace r_a := r_a.later bB
    replace l_b := l_b.later bB
    replace r_b := r_b.later bB
    replace l_c := l_c.later bB
    replace r_c := r_c.later bB
    replace l_d1 := l_d1.later bB
    replace r_d1 := r_d1.later bB
    replace l_d2 := l_d2.later bB
    replace r_d2 := r_d2.later bB
    replace l_d3 := l_d3.later bB
    replace r_d3 := r_d3.later bB
    replace l_d4 := l_d4.later bB
    replace r_d4 := r_d4.later bB
    replace bb := below_trans bb bB
    have l_d5 := loc_new w7 (.bool s5) (.slice o5 (Dg.dg 4294967296 n5).length k5) (.int .i64 e5) 25
    have r_d5 := (oo.later bB).rd
    clear b1 bB oo
    obtain ⟨-, ⟨d1_0, d1_1, d1_2⟩, -⟩ := id l_d1
    obtain ⟨-, ⟨c_0, c_1, c_2⟩, -⟩ := id l_c
    have hk := dmul_R s1 o1 k1 (Dg.dg 4294967296 n1) e1 u co cc zs g _ r_d1 r_c (Dg.small_dg _ _ (by omega)) sc (hT.later bb)
    rw [HR6.out] at hk
    go_wp2_with fail
    refine hk.mono ?_
    rintro z w8 ⟨vr, rfl, oo, b1⟩
    clear hk
    obtain ⟨o6, k6, hvr⟩ := oo.rd.shape
    subst hvr
    clear d1_0 d1_1 d1_2 c_0 c_1 c_2
    replace l_a := l_a.later b1
    replace r_a := r_a.later b1
    replace l_b := l_b.later b1
    replace r_b := r_b.later b1
    replace l_c := l_c.later b1
    replace r_c := r_c.later b1
    replace l_d1 := l_d1.later b1
    replace r_d1 := r_d1.later b1
    replace l_d2 := l_d2.later b1
    replace r_d2 := r_d2.later b1
    replace l_d3 := l_d3.later b1
    replace r_d3 := r_d3.later b1
    replace l_d4 := l_d4.later b1
    replace r_d4 := r_d4.later b1
    replace l_d5 := l_d5.later b1
    replace r_d5 := r_d5.later b1
    replace bb := below_trans bb b1
    have bB := below_alloc w8 (.cells #[.bool s6, .slice o6 (Dg.dg 4294967296 n6).length k6, .int .i64 e6] 25)
    replace l_a := l_a.later bB
    replace r_a := r_a.later bB
    replace l_b := l_b.later bB
    replace r_b := r_b.later bB
    replace l_c := l_c.later bB
    replace r_c := r_c.later bB
    replace l_d1 := l_d1.later bB
    replace r_d1 := r_d1.later bB
    replace l_d2 := l_d2.later bB
    replace r_d2 := r_d2.later bB
    replace l_d3 := l_d3.later bB
    replace r_d3 := r_d3.later bB
    replace l_d4 := l_d4.later bB
    replace r_d4 := r_d4.later bB
    replace l_d5 := l_d5.later bB
    replace r_d5 := r_d5.later bB
    replace bb := below_trans bb bB
    have l_d6 := loc_new w8 (.bool s6) (.slice o6 (Dg.dg 4294967296 n6).length k6) (.int .i64 e6) 25
    have r_d6 := (oo.later bB).rd
    clear b1 bB oo
    obtain ⟨-, ⟨a_0, a_1, a_2⟩, -⟩ := id l_a
    obtain ⟨-, ⟨c_0, c_1, c_2⟩, -⟩ := id l_c
    have hk := dmul_R s ao ca xs e u co cc zs g _ r_a r_c sa sc (hT.later bb)
    rw [HR7.out] at hk
    go_wp2_with fail
    refine hk.mono ?_
    rintro z w9 ⟨vr, rfl, oo, b1⟩
    clear hk
    obtain ⟨o7, k7, hvr⟩ := oo.rd.shape
    subst hvr
    clear a_0 a_1 a_2 c_0 c_1 c_2
    replace l_a := l_a.later b1
    replace r_a := r_a.later b1
    replace l_b := l_b.later b1
    replace r_b := r_b.later b1
    replace l_c := l_c.later b1
    replace r_c := r_c.later b1
    replace l_d1 := l_d1.later b1
    replace r_d1 := r_d1.later b1
    replace l_d2 := l_d2.later b1
    replace r_d2 := r_d2.later b1
    replace l_d3 := l_d3.later b1
    replace r_d3 := r_d3.later b1
    replace l_d4 := l_d4.later b1
    replace r_d4 := r_d4.later b1
    replace l_d5 := l_d5.later b1
    replace r_d5 := r_d5.later b1
    replace l_d6 := l_d6.later b1
    replace r_d6 := r_d6.later b1
    replace bb := below_trans bb b1
    have bB := below_alloc w9 (.cells #[.bool s7, .slice o7 (Dg.dg 4294967296 n7).length k7, .int .i64 e7] 25)
    replace l_a := l_a.later bB
    replace r_a := r_a.later bB
    replace l_b := l_b.later bB
    replace r_b := r_b.later bB
    replace l_c := l_c.later bB
    replace r_c := r_c.later bB
    replace l_d1 := l_d1.later bB
    replace r_d1 := r_d1.later bB
    replace l_d2 := l_d2.later bB
    replace r_d2 := r_d2.later bB
    replace l_d3 := l_d3.later bB
    replace r_d3 := r_d3.later bB
    replace l_d4 := l_d4.later bB
    replace r_d4 := r_d4.later bB
    replace l_d5 := l_d5.later bB
    replace r_d5 := r_d5.later bB
    replace l_d6 := l_d6.later bB
    replace r_d6 := r_d6.later bB
    replace bb := below_trans bb bB
    have l_d7 := loc_new w9 (.bool s7) (.slice o7 (Dg.dg 4294967296 n7).length k7) (.int .i64 e7) 25
    have r_d7 := (oo.later bB).rd
    clear b1 bB oo
    obtain ⟨-, ⟨b_0, b_1, b_2⟩, -⟩ := id l_b
    obtain ⟨-, ⟨c_0, c_1, c_2⟩, -⟩ := id l_c
    have hk := dmul_R t bo cb ys f u co cc zs g _ r_b r_c sb sc (hT.later bb)
    rw [HR8.out] at hk
    go_wp2_with fail
    refine hk.mono ?_
    rintro z w10 ⟨vr, rfl, oo, b1⟩
    clear hk
    obtain ⟨o8, k8, hvr⟩ := oo.rd.shape
    subst hvr
    clear b_0 b_1 b_2 c_0 c_1 c_2
    replace l_a := l_a.later b1
    replace r_a := r_a.later b1
    replace l_b := l_b.later b1
    replace r_b := r_b.later b1
    replace l_c := l_c.later b1
    replace r_c := r_c.later b1
    replace l_d1 := l_d1.later b1
    replace r_d1 := r_d1.later b1
    replace l_d2 := l_d2.later b1
    replace r_d2 := r_d2.later b1
    replace l_d3 := l_d3.later b1
    replace r_d3 := r_d3.later b1
    replace l_d4 := l_d4.later b1
    replace r_d4 := r_d4.later b1
    replace l_d5 := l_d5.later b1
    replace r_d5 := r_d5.later b1
    replace l_d6 := l_d6.later b1
    replace r_d6 := r_d6.later b1
    replace l_d7 := l_d7.later b1
    replace r_d7 := r_d7.later b1
    replace bb := below_trans bb b1
    have bB := below_alloc w10 (.cells #[.bool s8, .slice o8 (Dg.dg 4294967296 n8).length k8, .int .i64 e8] 25)
    replace l_a := l_a.later bB
    replace r_a := r_a.later bB
    replace l_b := l_b.later bB
    replace r_b := r_b.later bB
    replace l_c := l_c.later bB
    replace r_c := r_c.later bB
    replace l_d1 := l_d1.later bB
    replace r_d1 := r_d1.later bB
    replace l_d2 := l_d2.later bB
    replace r_d2 := r_d2.later bB
    replace l_d3 := l_d3.later bB
    replace r_d3 := r_d3.later bB
    replace l_d4 := l_d4.later bB
    replace r_d4 := r_d4.later bB
    replace l_d5 := l_d5.later bB
    replace r_d5 := r_d5.later bB
    replace l_d6 := l_d6.later bB
    replace r_d6 := r_d6.later bB
    replace l_d7 := l_d7.later bB
    replace r_d7 := r_d7.later bB
    replace bb := below_trans bb bB
    have l_d8 := loc_new w10 (.bool s8) (.slice o8 (Dg.dg 4294967296 n8).length k8) (.int .i64 e8) 25
    have r_d8 := (oo.later bB).rd
    clear b1 bB oo
    obtain ⟨-, ⟨d7_0, d7_1, d7_2⟩, -⟩ := id l_d7
    obtain ⟨-, ⟨d8_0, d8_1, d8_2⟩, -⟩ := id l_d8
    have hk := dadd_R s7 o7 k7 (Dg.dg 4294967296 n7) e7 s8 o8 k8 (Dg.dg 4294967296 n8) e8 _ r_d7 r_d8 (Dg.small_dg _ _ (by omega)) (Dg.small_dg _ _ (by omega)) (hT.later bb)
    rw [HR9.out] at hk
    go_wp2_with fail
    refine hk.mono ?_
    rintro z w11 ⟨vr, rfl, oo, b1⟩
    clear hk
    obtain ⟨o9, k9, hvr⟩ := oo.rd.shape
    subst hvr
    clear d7_0 d7_1 d7_2 d8_0 d8_1 d8_2
    replace l_a := l_a.later b1
    replace r_a := r_a.later b1
    replace l_b := l_b.later b1
    replace r_b := r_b.later b1
    replace l_c := l_c.later b1
    replace r_c := r_c.later b1
    replace l_d1 := l_d1.later b1
    replace r_d1 := r_d1.later b1
    replace l_d2 := l_d2.later b1
    replace r_d2 := r_d2.later b1
    replace l_d3 := l_d3.later b1
    replace r_d3 := r_d3.later b1
    replace l_d4 := l_d4.later b1
    replace r_d4 := r_d4.later b1
    replace l_d5 := l_d5.later b1
    replace r_d5 := r_d5.later b1
    replace l_d6 := l_d6.later b1
    replace r_d6 := r_d6.later b1
    replace l_d7 := l_d7.later b1
    replace r_d7 := r_d7.later b1
    replace l_d8 := l_d8.later b1
    replace r_d8 := r_d8.later b1
    replace bb := below_trans bb b1
    have bB := below_alloc w11 (.cells #[.bool s9, .slice o9 (Dg.dg 4294967296 n9).length k9, .int .i64 e9] 25)
    replace l_a := l_a.later bB
    replace r_a := r_a.later bB
    replace l_b := l_b.later bB
    replace r_b := r_b.later bB
    replace l_c := l_c.later bB
    replace r_c := r_c.later bB
    replace l_d1 := l_d1.later bB
    replace r_d1 := r_d1.later bB
    replace l_d2 := l_d2.later bB
    replace r_d2 := r_d2.later bB
    replace l_d3 := l_d3.later bB
    replace r_d3 := r_d3.later bB
    replace l_d4 := l_d4.later bB
    replace r_d4 := r_d4.later bB
    replace l_d5 := l_d5.later bB
    replace r_d5 := r_d5.later bB
    replace l_d6 := l_d6.later bB
    replace r_d6 := r_d6.later bB
    replace l_d7 := l_d7.later bB
    replace r_d7 := r_d7.later bB
    replace l_d8 := l_d8.later bB
    replace r_d8 := r_d8.later bB
    replace bb := below_trans bb bB
    have l_d9 := loc_new w11 (.bool s9) (.slice o9 (Dg.dg 4294967296 n9).length k9) (.int .i64 e9) 25
    have r_d9 := (oo.later bB).rd
    clear b1 bB oo
    go_wp2
    go_ret
    exact ⟨rfl, bb⟩
end Go.Proofs.YtepcafhlhnlgaaaDoor

/-
  The law DyadScales.
-/
import Derived.Test.YtmdjmjnnenddfaaDoorDl5
namespace Go.Proofs.YtmdjmjnnenddfaaDoor
open Go.RowKit

theorem ZB.rd4 {w : World} {b : Nat} {v : Value} {zs : List Nat} (h : ZB w b) (hr : Rd w .i64 v zs) (hn : Dg.Norm zs) (x0 x1 x2 x3 : Value) :
    Rd ((((w.setCell ⟨b, 0, none⟩ x0).setCell ⟨b, 1, none⟩ x1).setCell ⟨b, 2, none⟩ x2).setCell ⟨b, 2, none⟩ x3) .i64 v zs := by
  obtain ⟨hl, ty, hh⟩ := h
  obtain ⟨ao, cap, rfl, h1, h2, h3⟩ := hr
  refine ⟨ao, cap, rfl, h1, h2, fun hp => ?_⟩
  obtain ⟨c, off, rfl, hc⟩ := h3 hp
  refine ⟨c, off, rfl, fun i hi => ?_⟩
  have hne : c ≠ b := by
    intro e
    subst e
    have k1 := hc (zs.length - 1) (by omega)
    have hz := hn (List.length_pos_iff.1 hp)
    unfold World.cell? at k1
    simp only [hh] at k1
    obtain ⟨o, ho⟩ : ∃ o, off + (zs.length - 1) = o := ⟨_, rfl⟩
    rw [ho] at k1
    generalize zs.getD (zs.length - 1) 0 = d at *
    match o, k1 with
    | 0, k1 => simp at k1
    | 1, k1 => simp at k1
    | 2, k1 => simp at k1; omega
    | o + 3, k1 => simp at k1
  rw [World.cell?_setCell_other (h := by simp), World.cell?_setCell_other (h := by simp), World.cell?_setCell_other (h := by simp), World.cell?_setCell_other (h := by simp)]
  exact hc i hi

theorem rd_set_apart4 {w : World} {b : Nat} {v : Value} {zs : List Nat} (hr : Rd w .u32 v zs) (h : ZB w b) (_hn : Dg.Norm zs) (x0 x1 x2 x3 : Value) :
    Rd ((((w.setCell ⟨b, 0, none⟩ x0).setCell ⟨b, 1, none⟩ x1).setCell ⟨b, 2, none⟩ x2).setCell ⟨b, 2, none⟩ x3) .u32 v zs := by
  obtain ⟨hl, ty, hh⟩ := h
  obtain ⟨ao, cap, rfl, h1, h2, h3⟩ := hr
  refine ⟨ao, cap, rfl, h1, h2, fun hp => ?_⟩
  obtain ⟨c, off, rfl, hc⟩ := h3 hp
  refine ⟨c, off, rfl, fun i hi => ?_⟩
  have hne : c ≠ b := by
    intro e
    subst e
    have k1 := hc (zs.length - 1) (by omega)
    unfold World.cell? at k1
    simp only [hh] at k1
    obtain ⟨o, ho⟩ : ∃ o, off + (zs.length - 1) = o := ⟨_, rfl⟩
    rw [ho] at k1
    match o, k1 with
    | 0, k1 => simp at k1
    | 1, k1 => simp at k1
    | 2, k1 => simp at k1
    | o + 3, k1 => simp at k1
  rw [World.cell?_setCell_other (h := by simp), World.cell?_setCell_other (h := by simp), World.cell?_setCell_other (h := by simp), World.cell?_setCell_other (h := by simp)]
  exact hc i hi

theorem bare_zero {t : Trip} (h : (bare t).n = 0) : bare t = ⟨false, 0, 0⟩ := by
  by_cases h0 : t.n = 0
  · unfold bare; rw [if_pos h0]
  · exfalso
    unfold bare at h
    rw [if_neg h0] at h
    obtain ⟨k, hk⟩ := tz_spec h0
    simp only at h
    rw [div_tz hk] at h
    omega

theorem bare_scale (s : Bool) (m : Nat) (e n : Int) : bare ⟨s, m, e + n⟩ = if (bare ⟨s, m, e⟩).n = 0 then ⟨false, 0, 0⟩ else ⟨(bare ⟨s, m, e⟩).s, (bare ⟨s, m, e⟩).n, (bare ⟨s, m, e⟩).e + n⟩ := by
  unfold bare
  by_cases h : m = 0
  · simp [h]
  · obtain ⟨k, hk⟩ := tz_spec h
    have h2 := div_tz hk
    simp only [h, if_false]
    rw [h2, if_neg (by omega)]
    have : e + n + (tz m : Int) = e + (tz m : Int) + n := by omega
    rw [this]

theorem bare_e_fits {s : Bool} {m : Nat} {e : Int} (h : (Dg.dg 4294967296 m).length ≤ 1200) (h1 : -20000 ≤ e) (h2 : e ≤ 20000) : -20000 ≤ (bare ⟨s, m, e⟩).e ∧ (bare ⟨s, m, e⟩).e ≤ 58400 := by
  have h3 := tz_fits m 1200 h
  unfold bare
  split
  · exact ⟨by simp, by simp⟩
  · exact ⟨by simp only; omega, by simp only; omega⟩

set_option maxRecDepth 100000 in
set_option maxHeartbeats 1600000 in
theorem dscales_walk (s : Bool) (ao : Option Addr) (ca : Nat) (xs : List Nat) (e n : Int) (w : World) (hr : Rd w .u32 (.slice ao xs.length ca) xs) (sa : Dg.Small 4294967296 xs) (hT : Tab w) :
    Calls Tryd.prog 8 #[.agg #[.bool s, .slice ao xs.length ca, .int .i64 e], .int .i64 n] w fun z w' => z = .returned (.bool true) ∧ Below w.heap.size w w' := by
  have b0 := below_alloc w (.cells #[.bool s, .slice ao xs.length ca, .int .i64 e] 25)
  have l0 := loc_new w (.bool s) (.slice ao xs.length ca) (.int .i64 e) 25
  have hbr := dscale_any s ao ca xs e n _ (hr.later b0) sa (hT.later b0)
  have HC : Hid (∀ w1, Below w.heap.size w w1 → Calls Tryd.prog 15 #[.agg #[.bool s, .slice ao xs.length ca, .int .i64 e]] w1 fun z w' => z = .returned (.int .i64 (dchk xs e)) ∧ Below w1.heap.size w1 w') := fun w1 b1 => refcheckDy_any s ao ca xs e w1 (hr.later b1)
  have HBG : Hid (∀ w1, Below w.heap.size w w1 → Calls Tryd.prog 13 #[] w1 fun z w' => z = .returned (.bool true) ∧ Below w1.heap.size w1 w') := fun w1 b1 => dbegun_any w1 (hT.later b1)
  have HO : Hid (dchk xs e = 0 → (Dg.dg 65536 (bare ⟨s, Dg.vl 4294967296 xs, e⟩).n).length ≤ 100000 ∧ ∀ w1, Below w.heap.size w w1 → Calls Tryd.prog 17 #[.agg #[.bool s, .slice ao xs.length ca, .int .i64 e]] w1 (RDRes w1 (bare ⟨s, Dg.vl 4294967296 xs, e⟩))) := fun h => by
    obtain ⟨c1, e1, e2⟩ := dchk_zero h
    have z1 := chk_zero c1
    have x1 : (Dg.dg 4294967296 (Dg.vl 4294967296 xs)).length ≤ 1200 := by rw [← Dg.eq_dg 4294967296 (by omega) xs _ sa z1.1 rfl]; exact z1.2
    refine ⟨?_, fun w1 b1 => ofDyad_any s ao ca xs e w1 (hr.later b1) sa (by omega) (by omega) (by omega)⟩
    refine Nat.le_trans (dg_len_mono 65536 _ (Dg.vl 4294967296 xs) (by omega) ?_) (Nat.le_trans (dg16_len _ 1200 x1) (by omega))
    unfold bare
    simp only
    split
    · exact Nat.zero_le _
    · exact Nat.div_le_self _ _
  have hwb := want_bare (c := schk xs e n) ⟨s, Dg.vl 4294967296 xs, e + n⟩
  have hwz := fun (h : ¬schk xs e n = 0) => want_zero h ⟨s, Dg.vl 4294967296 xs, e + n⟩ ⟨false, 0, 0⟩
  obtain ⟨T, hTT⟩ : ∃ T : Trip, (⟨s, Dg.vl 4294967296 xs, e⟩ : Trip) = T := ⟨_, rfl⟩
  have HSC : Hid (bare ⟨s, Dg.vl 4294967296 xs, e + n⟩ = if (bare T).n = 0 then ⟨false, 0, 0⟩ else ⟨(bare T).s, (bare T).n, (bare T).e + n⟩) := by rw [← hTT]; exact bare_scale _ _ _ _
  have HBE : Hid (dchk xs e = 0 → -20000 ≤ (bare T).e ∧ (bare T).e ≤ 58400) := fun h => by
    obtain ⟨c1, e1, e2⟩ := dchk_zero h
    have z1 := chk_zero c1
    have x1 : (Dg.dg 4294967296 (Dg.vl 4294967296 xs)).length ≤ 1200 := by rw [← Dg.eq_dg 4294967296 (by omega) xs _ sa z1.1 rfl]; exact z1.2
    rw [← hTT]
    exact bare_e_fits x1 e1 e2
  rw [hTT] at HO
  obtain ⟨U, hU⟩ : ∃ U : Trip, bare ⟨s, Dg.vl 4294967296 xs, e + n⟩ = U := ⟨_, rfl⟩
  rw [hU] at HSC hwb
  obtain ⟨⟨⟨rs, rn, re⟩, rc⟩, hrr⟩ : ∃ r, dbothR (schk xs e n) ⟨s, Dg.vl 4294967296 xs, e + n⟩ = r := ⟨_, rfl⟩
  rw [hrr] at hbr hwb hwz
  have HWB : Hid (wantR (schk xs e n) U = (⟨rs, rn, re⟩, rc)) := hwb
  have HWZ : Hid (¬schk xs e n = 0 → wantR (schk xs e n) ⟨false, 0, 0⟩ = (⟨rs, rn, re⟩, rc)) := hwz
  unfold schk at HWB HWZ
  obtain ⟨c, hc⟩ : ∃ c, dchk xs e = c := ⟨_, rfl⟩
  rw [hc] at HC HO HWB HWZ HBE
  clear hr sa hT hTT hc hrr hwb hwz hU
  by_cases h : c = 0
  · subst h
    by_cases h1 : n < -40000
    · have HWZ2 : Hid (wantR 3 ⟨false, 0, 0⟩ = (⟨rs, rn, re⟩, rc)) := by
        have := HWZ.out
        rw [if_pos rfl, if_pos (Or.inl h1)] at this
        exact this (by omega)
      clear HO HWB HWZ HSC HBE
      go_enter Tryd.func8, Tryd.ntmps8
      go_wp2_with fail
      refine hbr.mono ?_
      rintro z w1 ⟨vr, rfl, o1, b1⟩
      obtain ⟨so, sc, hvr⟩ := o1.rd.shape
      subst hvr
      have bB := below_alloc w1 (.cells #[.bool rs, .slice so (Dg.dg 4294967296 rn).length sc, .int .i64 re] 25)
      have l1 := (l0.later b1).later bB
      have lB := loc_new w1 (.bool rs) (.slice so (Dg.dg 4294967296 rn).length sc) (.int .i64 re) 25
      have b01 := below_trans (below_trans b0 b1) bB
      have r1 := (o1.later bB).rd
      have s1 : w.heap.size < w1.heap.size := by have := (l0.later b1).1; exact this
      obtain ⟨-, ⟨c0, c1, c2⟩, -⟩ := id l1
      clear hbr b0 b1 o1 bB l0
      go_wp2_with fail
      refine (HC.out _ b01).mono ?_
      rintro z w2 ⟨rfl, b2⟩
      have bW := below_alloc w2 (.cells #[.bool false, .slice none 0 0, .int .i64 0] 34)
      have l2 := (l1.later b2).later bW
      have lB2 := (lB.later b2).later bW
      have lW := loc_new w2 (.bool false) (.slice none 0 0) (.int .i64 0) 34
      have zW := zb_new w2 34
      have b02 := below_trans (below_trans b01 b2) bW
      have r2 := (r1.later b2).later bW
      have s2 : w1.heap.size < w2.heap.size := (lB.later b2).1
      have hdi := fun (w4 : World) (hq : Rd w4 .u32 (.slice so (Dg.dg 4294967296 rn).length sc) (Dg.dg 4294967296 rn)) => dyadIs_any (.agg #[.bool false, .slice none 0 0, .int .i64 0]) ⟨false, 0, 0⟩ rs rn re rc 3 so sc w4 hq ⟨_, rfl, rd_nil _ _⟩ (by show ([] : List Nat).length ≤ 100000; simp) HWZ2.out
      have HDI : Hid _ := hdi
      clear c0 c1 c2 b01 l1 lB r1 b2 bW hdi l2
      go_wp2_with fail
      refine (HBG.out _ b02).mono ?_
      rintro z w4 ⟨rfl, b5⟩
      have lB4 := lB2.later b5
      have lW4 := lW.later b5
      have b05 := below_trans b02 b5
      have hdi := HDI.out w4 (r2.later b5)
      obtain ⟨-, ⟨p0, p1, p2⟩, -⟩ := id lB4
      obtain ⟨-, ⟨p3, p4, p5⟩, -⟩ := id lW4
      clear HBG HWZ2 lB2 lW HDI
      go_wp2_with fail
      refine hdi.mono ?_
      rintro z w5 ⟨rfl, b6⟩
      have b07 := below_trans b05 b6
      clear hdi
      go_wp2
      go_ret
      exact ⟨rfl, b07⟩
    · by_cases h2 : 40000 < n
      · have HWZ2 : Hid (wantR 3 ⟨false, 0, 0⟩ = (⟨rs, rn, re⟩, rc)) := by
          have := HWZ.out
          rw [if_pos rfl, if_pos (Or.inr h2)] at this
          exact this (by omega)
        clear HO HWB HWZ HSC HBE
        go_enter Tryd.func8, Tryd.ntmps8
        go_wp2_with fail
        refine hbr.mono ?_
        rintro z w1 ⟨vr, rfl, o1, b1⟩
        obtain ⟨so, sc, hvr⟩ := o1.rd.shape
        subst hvr
        have bB := below_alloc w1 (.cells #[.bool rs, .slice so (Dg.dg 4294967296 rn).length sc, .int .i64 re] 25)
        have l1 := (l0.later b1).later bB
        have lB := loc_new w1 (.bool rs) (.slice so (Dg.dg 4294967296 rn).length sc) (.int .i64 re) 25
        have b01 := below_trans (below_trans b0 b1) bB
        have r1 := (o1.later bB).rd
        have s1 : w.heap.size < w1.heap.size := by have := (l0.later b1).1; exact this
        obtain ⟨-, ⟨c0, c1, c2⟩, -⟩ := id l1
        clear hbr b0 b1 o1 bB l0
        go_wp2_with fail
        refine (HC.out _ b01).mono ?_
        rintro z w2 ⟨rfl, b2⟩
        have bW := below_alloc w2 (.cells #[.bool false, .slice none 0 0, .int .i64 0] 34)
        have l2 := (l1.later b2).later bW
        have lB2 := (lB.later b2).later bW
        have lW := loc_new w2 (.bool false) (.slice none 0 0) (.int .i64 0) 34
        have zW := zb_new w2 34
        have b02 := below_trans (below_trans b01 b2) bW
        have r2 := (r1.later b2).later bW
        have s2 : w1.heap.size < w2.heap.size := (lB.later b2).1
        have hdi := fun (w4 : World) (hq : Rd w4 .u32 (.slice so (Dg.dg 4294967296 rn).length sc) (Dg.dg 4294967296 rn)) => dyadIs_any (.agg #[.bool false, .slice none 0 0, .int .i64 0]) ⟨false, 0, 0⟩ rs rn re rc 3 so sc w4 hq ⟨_, rfl, rd_nil _ _⟩ (by show ([] : List Nat).length ≤ 100000; simp) HWZ2.out
        have HDI : Hid _ := hdi
        clear c0 c1 c2 b01 l1 lB r1 b2 bW hdi l2
        go_wp2_with fail
        refine (HBG.out _ b02).mono ?_
        rintro z w4 ⟨rfl, b5⟩
        have lB4 := lB2.later b5
        have lW4 := lW.later b5
        have b05 := below_trans b02 b5
        have hdi := HDI.out w4 (r2.later b5)
        obtain ⟨-, ⟨p0, p1, p2⟩, -⟩ := id lB4
        obtain ⟨-, ⟨p3, p4, p5⟩, -⟩ := id lW4
        clear HBG HWZ2 lB2 lW HDI
        go_wp2_with fail
        refine hdi.mono ?_
        rintro z w5 ⟨rfl, b6⟩
        have b07 := below_trans b05 b6
        clear hdi
        go_wp2
        go_ret
        exact ⟨rfl, b07⟩
      · rw [if_pos rfl] at HWB
        obtain ⟨hl, ho⟩ := HO.out rfl
        obtain ⟨be1, be2⟩ := HBE.out rfl
        rw [if_neg (show ¬(n < -40000 ∨ 40000 < n) by omega)] at HWB
        obtain ⟨⟨bs, bn, be⟩, hbt⟩ : ∃ bt, bare T = bt := ⟨_, rfl⟩
        have HB0 : Hid (bn = 0 → (⟨bs, bn, be⟩ : Trip) = ⟨false, 0, 0⟩) := fun h => by
          have := bare_zero (t := T) (by rw [hbt]; exact h)
          rwa [hbt] at this
        rw [hbt] at hl ho HSC be1 be2
        simp only at hl be1 be2 HSC
        have HO2 : Hid (∀ w1, Below w.heap.size w w1 → Calls Tryd.prog 17 #[.agg #[.bool s, .slice ao xs.length ca, .int .i64 e]] w1 (RDRes w1 ⟨bs, bn, be⟩)) := ho
        have hnl := Dg.dg_nil_iff 65536 bn (by omega)
        clear HO ho hbt HWZ HBE
        go_enter Tryd.func8, Tryd.ntmps8
        go_wp2_with fail
        refine hbr.mono ?_
        rintro z w1 ⟨vr, rfl, o1, b1⟩
        obtain ⟨so, sc, hvr⟩ := o1.rd.shape
        subst hvr
        have bB := below_alloc w1 (.cells #[.bool rs, .slice so (Dg.dg 4294967296 rn).length sc, .int .i64 re] 25)
        have l1 := (l0.later b1).later bB
        have lB := loc_new w1 (.bool rs) (.slice so (Dg.dg 4294967296 rn).length sc) (.int .i64 re) 25
        have b01 := below_trans (below_trans b0 b1) bB
        have r1 := (o1.later bB).rd
        have s1 : w.heap.size < w1.heap.size := by have := (l0.later b1).1; exact this
        obtain ⟨-, ⟨c0, c1, c2⟩, -⟩ := id l1
        clear hbr b0 b1 o1 bB l0
        go_wp2_with fail
        refine (HC.out _ b01).mono ?_
        rintro z w2 ⟨rfl, b2⟩
        have bW := below_alloc w2 (.cells #[.bool false, .slice none 0 0, .int .i64 0] 34)
        have l2 := (l1.later b2).later bW
        have lB2 := (lB.later b2).later bW
        have lW := loc_new w2 (.bool false) (.slice none 0 0) (.int .i64 0) 34
        have zW := zb_new w2 34
        have b02 := below_trans (below_trans b01 b2) bW
        have r2 := (r1.later b2).later bW
        have s2 : w1.heap.size < w2.heap.size := (lB.later b2).1
        clear c0 c1 c2 b01 l1 lB r1 b2 bW
        obtain ⟨-, ⟨c0, c1, c2⟩, -⟩ := id l2
        go_wp2_with fail
        refine (HO2.out _ b02).mono ?_
        rintro z w3 ⟨vt, rfl, r3, b3⟩
        obtain ⟨to, tc, hvt⟩ := r3.shape
        subst hvt
        have lB3 := lB2.later b3
        have lW3 := lW.later b3
        have zW3 := zW.later b3
        have b03 := below_trans b02 b3
        have r23 := r2.later b3
        have lBs := lB3.apart (c := w2.heap.size) (by omega) (.bool bs) (.slice to (Dg.dg 65536 bn).length tc) (.int .i64 be)
        have lWs := loc_set lW3 (.bool bs) (.slice to (Dg.dg 65536 bn).length tc) (.int .i64 be)
        have r3s := zW3.rd r3 (Dg.norm_dg _ _ (by omega)) (.bool bs) (.slice to (Dg.dg 65536 bn).length tc) (.int .i64 be)
        have b04 := below_set3 b03 (show w.heap.size ≤ w2.heap.size by omega) (.bool bs) (.slice to (Dg.dg 65536 bn).length tc) (.int .i64 be)
        have rbs := rd_set_apart r23 zW3 (Dg.norm_dg _ _ (by omega)) (.bool bs) (.slice to (Dg.dg 65536 bn).length tc) (.int .i64 be)
        obtain ⟨hl3, ⟨d0, d1, d2⟩, f0, f1, f2⟩ := id lW3
        clear c0 c1 c2 l2 lB2 lW zW b02 r2 b3 HO2 HC
        by_cases hb0 : bn = 0
        · rw [if_pos hb0] at HSC
          have HWB2 : Hid (wantR 0 ⟨bs, bn, be⟩ = (⟨rs, rn, re⟩, rc)) := by
            have h5 := HB0.out hb0
            rw [h5, ← HSC.out]
            exact HWB.out
          have h6 : ¬0 < (Dg.dg 65536 bn).length := by rw [hnl.2 hb0]; simp
          obtain ⟨WW, hWW⟩ : ∃ WW, (((w3.setCell ⟨w2.heap.size, 0, none⟩ (.bool bs)).setCell ⟨w2.heap.size, 1, none⟩ (.slice to (Dg.dg 65536 bn).length tc)).setCell ⟨w2.heap.size, 2, none⟩ (.int .i64 be)) = WW := ⟨_, rfl⟩
          clear HSC hnl hb0 HB0
          rw [hWW] at lBs lWs r3s b04 rbs
          obtain ⟨-, ⟨m0, m1, m2⟩, -⟩ := id lWs
          go_wp2_with fail
          refine (HBG.out WW b04).mono ?_
          rintro z w4 ⟨rfl, b5⟩
          have lB4 := lBs.later b5
          have lW4 := lWs.later b5
          have b05 := below_trans b04 b5
          have hdi := dyadIs_any _ ⟨bs, bn, be⟩ rs rn re rc 0 so sc w4 (rbs.later b5) ⟨_, rfl, r3s.later b5⟩ hl HWB2.out
          obtain ⟨-, ⟨p0, p1, p2⟩, -⟩ := id lB4
          obtain ⟨-, ⟨p3, p4, p5⟩, -⟩ := id lW4
          clear d0 d1 d2 f0 f1 f2 hWW HBG HWB HWB2 lBs lWs
          go_wp2_with fail
          refine hdi.mono ?_
          rintro z w5 ⟨rfl, b6⟩
          have b07 := below_trans b05 b6
          clear hdi
          go_wp2
          go_ret
          exact ⟨rfl, b07⟩
        · rw [if_neg hb0] at HSC
          have HWB2 : Hid (wantR 0 ⟨bs, bn, be + n⟩ = (⟨rs, rn, re⟩, rc)) := by
            rw [← HSC.out]
            exact HWB.out
          have h6 : 0 < (Dg.dg 65536 bn).length := List.length_pos_iff.2 (fun e => hb0 (hnl.1 e))
          have lBs := lBs.apart2 (c := w2.heap.size) (by omega) (.int .i64 (be + n))
          have lWs := loc_set2 lWs (.int .i64 (be + n))
          have b04 := b04.setCell (p := ⟨w2.heap.size, 2, none⟩) (show w.heap.size ≤ w2.heap.size by omega) (.int .i64 (be + n))
          have r3s := zW3.rd4 r3 (Dg.norm_dg _ _ (by omega)) (.bool bs) (.slice to (Dg.dg 65536 bn).length tc) (.int .i64 be) (.int .i64 (be + n))
          have rbs := rd_set_apart4 r23 zW3 (Dg.norm_dg _ _ (by omega)) (.bool bs) (.slice to (Dg.dg 65536 bn).length tc) (.int .i64 be) (.int .i64 (be + n))
          have e9 : IntKind.i64.wrap (be + n) = be + n := IntWalk.i64_in _ ⟨by omega, by omega⟩
          obtain ⟨WW, hWW⟩ : ∃ WW, ((((w3.setCell ⟨w2.heap.size, 0, none⟩ (.bool bs)).setCell ⟨w2.heap.size, 1, none⟩ (.slice to (Dg.dg 65536 bn).length tc)).setCell ⟨w2.heap.size, 2, none⟩ (.int .i64 be)).setCell ⟨w2.heap.size, 2, none⟩ (.int .i64 (be + n))) = WW := ⟨_, rfl⟩
          clear HSC hnl hb0 HB0
          rw [hWW] at lBs lWs r3s b04 rbs
          go_wp2_with fail
          refine (HBG.out WW b04).mono ?_
          rintro z w4 ⟨rfl, b5⟩
          have lB4 := lBs.later b5
          have lW4 := lWs.later b5
          have b05 := below_trans b04 b5
          have hdi := dyadIs_any _ ⟨bs, bn, be + n⟩ rs rn re rc 0 so sc w4 (rbs.later b5) ⟨_, rfl, r3s.later b5⟩ hl HWB2.out
          obtain ⟨-, ⟨p0, p1, p2⟩, -⟩ := id lB4
          obtain ⟨-, ⟨p3, p4, p5⟩, -⟩ := id lW4
          clear d0 d1 d2 f0 f1 f2 hWW HBG HWB HWB2 lBs lWs
          go_wp2_with fail
          refine hdi.mono ?_
          rintro z w5 ⟨rfl, b6⟩
          have b07 := below_trans b05 b6
          clear hdi
          go_wp2
          go_ret
          exact ⟨rfl, b07⟩
  · have HWZ2 : Hid (wantR c ⟨false, 0, 0⟩ = (⟨rs, rn, re⟩, rc)) := by
      have := HWZ.out
      rw [if_neg h] at this
      exact this h
    have h3 : (c == 0) = false := by simp [h]
    clear HO HWB HWZ HSC HBE
    go_enter Tryd.func8, Tryd.ntmps8
    go_wp2_with fail
    refine hbr.mono ?_
    rintro z w1 ⟨vr, rfl, o1, b1⟩
    obtain ⟨so, sc, hvr⟩ := o1.rd.shape
    subst hvr
    have bB := below_alloc w1 (.cells #[.bool rs, .slice so (Dg.dg 4294967296 rn).length sc, .int .i64 re] 25)
    have l1 := (l0.later b1).later bB
    have lB := loc_new w1 (.bool rs) (.slice so (Dg.dg 4294967296 rn).length sc) (.int .i64 re) 25
    have b01 := below_trans (below_trans b0 b1) bB
    have r1 := (o1.later bB).rd
    have s1 : w.heap.size < w1.heap.size := by have := (l0.later b1).1; exact this
    obtain ⟨-, ⟨c0, c1, c2⟩, -⟩ := id l1
    clear hbr b0 b1 o1 bB l0
    go_wp2_with fail
    refine (HC.out _ b01).mono ?_
    rintro z w2 ⟨rfl, b2⟩
    have bW := below_alloc w2 (.cells #[.bool false, .slice none 0 0, .int .i64 0] 34)
    have l2 := (l1.later b2).later bW
    have lB2 := (lB.later b2).later bW
    have lW := loc_new w2 (.bool false) (.slice none 0 0) (.int .i64 0) 34
    have zW := zb_new w2 34
    have b02 := below_trans (below_trans b01 b2) bW
    have r2 := (r1.later b2).later bW
    have s2 : w1.heap.size < w2.heap.size := (lB.later b2).1
    have hdi := fun (w4 : World) (hq : Rd w4 .u32 (.slice so (Dg.dg 4294967296 rn).length sc) (Dg.dg 4294967296 rn)) => dyadIs_any (.agg #[.bool false, .slice none 0 0, .int .i64 0]) ⟨false, 0, 0⟩ rs rn re rc c so sc w4 hq ⟨_, rfl, rd_nil _ _⟩ (by show ([] : List Nat).length ≤ 100000; simp) HWZ2.out
    have HDI : Hid _ := hdi
    clear c0 c1 c2 b01 l1 lB r1 b2 bW hdi l2
    go_wp2_with fail
    refine (HBG.out _ b02).mono ?_
    rintro z w4 ⟨rfl, b5⟩
    have lB4 := lB2.later b5
    have lW4 := lW.later b5
    have b05 := below_trans b02 b5
    have hdi := HDI.out w4 (r2.later b5)
    obtain ⟨-, ⟨p0, p1, p2⟩, -⟩ := id lB4
    obtain ⟨-, ⟨p3, p4, p5⟩, -⟩ := id lW4
    clear HBG HWZ2 lB2 lW HDI
    go_wp2_with fail
    refine hdi.mono ?_
    rintro z w5 ⟨rfl, b6⟩
    have b07 := below_trans b05 b6
    clear hdi
    go_wp2
    go_ret
    exact ⟨rfl, b07⟩
end Go.Proofs.YtmdjmjnnenddfaaDoor

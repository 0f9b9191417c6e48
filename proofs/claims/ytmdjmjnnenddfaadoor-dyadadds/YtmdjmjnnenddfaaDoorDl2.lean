/-
  The law DyadBares.
-/
import Derived.Test.YtmdjmjnnenddfaaDoorDl1
namespace Go.Proofs.YtmdjmjnnenddfaaDoor
open Go.RowKit

theorem want_bare {c : Int} (t : Trip) : wantR c (bare t) = dbothR c t := by
  unfold wantR dbothR
  rw [toT_bare]

theorem want_zero {c : Int} (h : ¬c = 0) (t u : Trip) : wantR c u = dbothR c t := by
  unfold wantR dbothR
  rw [if_neg h, if_neg h]

set_option maxRecDepth 100000 in
set_option maxHeartbeats 1600000 in
theorem dbares_walk (s : Bool) (ao : Option Addr) (ca : Nat) (xs : List Nat) (e : Int) (w : World) (hr : Rd w .u32 (.slice ao xs.length ca) xs) (sa : Dg.Small 4294967296 xs) (hT : Tab w) :
    Calls Tryd.prog 4 #[.agg #[.bool s, .slice ao xs.length ca, .int .i64 e]] w fun z w' => z = .returned (.bool true) ∧ Below w.heap.size w w' := by
  have b0 := below_alloc w (.cells #[.bool s, .slice ao xs.length ca, .int .i64 e] 25)
  have l0 := loc_new w (.bool s) (.slice ao xs.length ca) (.int .i64 e) 25
  have hbr := dyBare_any s ao ca xs e _ (hr.later b0) sa (hT.later b0)
  have HC : Hid (∀ w1, Below w.heap.size w w1 → Calls Tryd.prog 15 #[.agg #[.bool s, .slice ao xs.length ca, .int .i64 e]] w1 fun z w' => z = .returned (.int .i64 (dchk xs e)) ∧ Below w1.heap.size w1 w') := fun w1 b1 => refcheckDy_any s ao ca xs e w1 (hr.later b1)
  have HBG : Hid (∀ w1, Below w.heap.size w w1 → Calls Tryd.prog 13 #[] w1 fun z w' => z = .returned (.bool true) ∧ Below w1.heap.size w1 w') := fun w1 b1 => dbegun_any w1 (hT.later b1)
  have HO : Hid (dchk xs e = 0 → (Dg.dg 65536 (bare ⟨s, Dg.vl 4294967296 xs, e⟩).n).length ≤ 100000 ∧ ∀ w1, Below w.heap.size w w1 → Calls Tryd.prog 17 #[.agg #[.bool s, .slice ao xs.length ca, .int .i64 e]] w1 (RDRes w1 (bare ⟨s, Dg.vl 4294967296 xs, e⟩))) := fun h => by
    obtain ⟨c1, e1, e2⟩ := dchk_zero h
    have z1 := chk_zero c1
    have x1 : (Dg.dg 4294967296 (Dg.vl 4294967296 xs)).length ≤ 1200 := by rw [← Dg.eq_dg 4294967296 (by omega) xs _ sa z1.1 rfl]; exact z1.2
    refine ⟨?_, fun w1 b1 => ofDyad_any s ao ca xs e w1 (hr.later b1) sa (by omega) (by omega) (by omega)⟩
    refine Nat.le_trans (dg_len_mono 65536 _ (Dg.vl 4294967296 xs) (by omega) ?_) (Nat.le_trans (dg16_len _ 1200 x1) (by omega))
    unfold bare
    simp only
    split
    · exact Nat.zero_le _
    · exact Nat.div_le_self _ _
  obtain ⟨T, hTT⟩ : ∃ T : Trip, (⟨s, Dg.vl 4294967296 xs, e⟩ : Trip) = T := ⟨_, rfl⟩
  rw [hTT] at hbr HO
  have hwb := want_bare (c := dchk xs e) T
  have hwz := fun (h : ¬dchk xs e = 0) => want_zero h T ⟨false, 0, 0⟩
  obtain ⟨c, hc⟩ : ∃ c, dchk xs e = c := ⟨_, rfl⟩
  rw [hc] at hbr HC HO hwb hwz
  obtain ⟨⟨⟨rs, rn, re⟩, rc⟩, hrr⟩ : ∃ r, dbothR c T = r := ⟨_, rfl⟩
  rw [hrr] at hbr hwb hwz
  have HWB : Hid (wantR c (bare T) = (⟨rs, rn, re⟩, rc)) := hwb
  have HWZ : Hid (¬c = 0 → wantR c ⟨false, 0, 0⟩ = (⟨rs, rn, re⟩, rc)) := hwz
  clear hr sa hT hTT hc hrr hwb hwz
  by_cases h : c = 0
  · subst h
    obtain ⟨hl, ho⟩ := HO.out rfl
    obtain ⟨⟨bs, bn, be⟩, hbt⟩ : ∃ bt, bare T = bt := ⟨_, rfl⟩
    rw [hbt] at hl ho HWB
    have HO2 : Hid (∀ w1, Below w.heap.size w w1 → Calls Tryd.prog 17 #[.agg #[.bool s, .slice ao xs.length ca, .int .i64 e]] w1 (RDRes w1 ⟨bs, bn, be⟩)) := ho
    clear HO ho hbt HWZ
    go_enter Tryd.func4, Tryd.ntmps4
    go_wp2_with fail
    refine hbr.mono ?_
    rintro z w1 ⟨vr, rfl, o1, b1⟩
    obtain ⟨so, sc, hvr⟩ := o1.rd.shape
    subst hvr
    have bB := below_alloc w1 (.cells #[.bool rs, .slice so (Dg.dg 4294967296 rn).length sc, .int .i64 re] 25)
    have l1 := (l0.later b1).later bB
    have lB := loc_new w1 (.bool rs) (.slice so (Dg.dg 4294967296 rn).length sc) (.int .i64 re) 25
    have b01 := below_trans (below_trans b0 b1) bB
    have r1 := (o1.later bB).rd
    have s1 : w.heap.size < w1.heap.size := by have := (l0.later b1).1; exact this
    obtain ⟨-, ⟨c0, c1, c2⟩, -⟩ := id l1
    clear hbr b0 b1 o1 bB l0
    go_wp2_with fail
    refine (HC.out _ b01).mono ?_
    rintro z w2 ⟨rfl, b2⟩
    have bW := below_alloc w2 (.cells #[.bool false, .slice none 0 0, .int .i64 0] 34)
    have l2 := (l1.later b2).later bW
    have lB2 := (lB.later b2).later bW
    have lW := loc_new w2 (.bool false) (.slice none 0 0) (.int .i64 0) 34
    have zW := zb_new w2 34
    have b02 := below_trans (below_trans b01 b2) bW
    have r2 := (r1.later b2).later bW
    have s2 : w1.heap.size < w2.heap.size := (lB.later b2).1
    clear c0 c1 c2 b01 l1 lB r1 b2 bW
    obtain ⟨-, ⟨c0, c1, c2⟩, -⟩ := id l2
    go_wp2_with fail
    refine (HO2.out _ b02).mono ?_
    rintro z w3 ⟨vt, rfl, r3, b3⟩
    obtain ⟨to, tc, hvt⟩ := r3.shape
    subst hvt
    have lB3 := lB2.later b3
    have lW3 := lW.later b3
    have zW3 := zW.later b3
    have b03 := below_trans b02 b3
    have r23 := r2.later b3
    have lBs := lB3.apart (c := w2.heap.size) (by omega) (.bool bs) (.slice to (Dg.dg 65536 bn).length tc) (.int .i64 be)
    have lWs := loc_set lW3 (.bool bs) (.slice to (Dg.dg 65536 bn).length tc) (.int .i64 be)
    have r3s := zW3.rd r3 (Dg.norm_dg _ _ (by omega)) (.bool bs) (.slice to (Dg.dg 65536 bn).length tc) (.int .i64 be)
    have b04 := below_set3 b03 (show w.heap.size ≤ w2.heap.size by omega) (.bool bs) (.slice to (Dg.dg 65536 bn).length tc) (.int .i64 be)
    have rbs := rd_set_apart r23 zW3 (Dg.norm_dg _ _ (by omega)) (.bool bs) (.slice to (Dg.dg 65536 bn).length tc) (.int .i64 be)
    obtain ⟨hl3, ⟨d0, d1, d2⟩, f0, f1, f2⟩ := id lW3
    clear c0 c1 c2 l2 lB2 lW zW b02 r2 b3 HO2 HC
    obtain ⟨WW, hWW⟩ : ∃ WW, (((w3.setCell ⟨w2.heap.size, 0, none⟩ (.bool bs)).setCell ⟨w2.heap.size, 1, none⟩ (.slice to (Dg.dg 65536 bn).length tc)).setCell ⟨w2.heap.size, 2, none⟩ (.int .i64 be)) = WW := ⟨_, rfl⟩
    rw [hWW] at lBs lWs r3s b04 rbs
    go_wp2_with fail
    refine (HBG.out WW b04).mono ?_
    rintro z w4 ⟨rfl, b5⟩
    have lB4 := lBs.later b5
    have lW4 := lWs.later b5
    have b05 := below_trans b04 b5
    have hdi := dyadIs_any _ ⟨bs, bn, be⟩ rs rn re rc 0 so sc w4 (rbs.later b5) ⟨_, rfl, r3s.later b5⟩ hl HWB.out
    obtain ⟨-, ⟨p0, p1, p2⟩, -⟩ := id lB4
    obtain ⟨-, ⟨p3, p4, p5⟩, -⟩ := id lW4
    clear d0 d1 d2 f0 f1 f2 hWW HBG HWB lBs lWs
    go_wp2_with fail
    refine hdi.mono ?_
    rintro z w5 ⟨rfl, b6⟩
    have b07 := below_trans b05 b6
    clear hdi
    go_wp2
    go_ret
    exact ⟨rfl, b07⟩
  · have hwz := HWZ.out h
    have HWZ2 : Hid (wantR c ⟨false, 0, 0⟩ = (⟨rs, rn, re⟩, rc)) := hwz
    have h3 : (c == 0) = false := by simp [h]
    clear HO HWB HWZ hwz
    go_enter Tryd.func4, Tryd.ntmps4
    go_wp2_with fail
    refine hbr.mono ?_
    rintro z w1 ⟨vr, rfl, o1, b1⟩
    obtain ⟨so, sc, hvr⟩ := o1.rd.shape
    subst hvr
    have bB := below_alloc w1 (.cells #[.bool rs, .slice so (Dg.dg 4294967296 rn).length sc, .int .i64 re] 25)
    have l1 := (l0.later b1).later bB
    have lB := loc_new w1 (.bool rs) (.slice so (Dg.dg 4294967296 rn).length sc) (.int .i64 re) 25
    have b01 := below_trans (below_trans b0 b1) bB
    have r1 := (o1.later bB).rd
    have s1 : w.heap.size < w1.heap.size := by have := (l0.later b1).1; exact this
    obtain ⟨-, ⟨c0, c1, c2⟩, -⟩ := id l1
    clear hbr b0 b1 o1 bB l0
    go_wp2_with fail
    refine (HC.out _ b01).mono ?_
    rintro z w2 ⟨rfl, b2⟩
    have bW := below_alloc w2 (.cells #[.bool false, .slice none 0 0, .int .i64 0] 34)
    have l2 := (l1.later b2).later bW
    have lB2 := (lB.later b2).later bW
    have lW := loc_new w2 (.bool false) (.slice none 0 0) (.int .i64 0) 34
    have zW := zb_new w2 34
    have b02 := below_trans (below_trans b01 b2) bW
    have r2 := (r1.later b2).later bW
    have s2 : w1.heap.size < w2.heap.size := (lB.later b2).1
    have hdi := fun (w4 : World) (hq : Rd w4 .u32 (.slice so (Dg.dg 4294967296 rn).length sc) (Dg.dg 4294967296 rn)) => dyadIs_any (.agg #[.bool false, .slice none 0 0, .int .i64 0]) ⟨false, 0, 0⟩ rs rn re rc c so sc w4 hq ⟨_, rfl, rd_nil _ _⟩ (by show ([] : List Nat).length ≤ 100000; simp) HWZ2.out
    have HDI : Hid _ := hdi
    clear c0 c1 c2 b01 l1 lB r1 b2 bW hdi l2
    go_wp2_with fail
    refine (HBG.out _ b02).mono ?_
    rintro z w4 ⟨rfl, b5⟩
    have lB4 := lB2.later b5
    have lW4 := lW.later b5
    have b05 := below_trans b02 b5
    have hdi := HDI.out w4 (r2.later b5)
    obtain ⟨-, ⟨p0, p1, p2⟩, -⟩ := id lB4
    obtain ⟨-, ⟨p3, p4, p5⟩, -⟩ := id lW4
    clear HBG HWZ2 lB2 lW HDI
    go_wp2_with fail
    refine hdi.mono ?_
    rintro z w5 ⟨rfl, b6⟩
    have b07 := below_trans b05 b6
    clear hdi
    go_wp2
    go_ret
    exact ⟨rfl, b07⟩
end Go.Proofs.YtmdjmjnnenddfaaDoor

/-
  The law DyadCuts.
-/
import Derived.Test.YtepcafhlhnlgaaaDoorDk3
import Derived.Test.YtepcafhlhnlgaaaDoorDf1
namespace Go.Proofs.YtepcafhlhnlgaaaDoor
open Go.RowKit

set_option maxRecDepth 100000 in
set_option maxHeartbeats 3200000 in
theorem dcuts_walk (s : Bool) (ao : Option Addr) (ca : Nat) (xs : List Nat) (e b : Int) (up : Bool) (w : World) (hr : Rd w .u32 (.slice ao xs.length ca) xs) (sa : Dg.Small 4294967296 xs) (hT : Tab w) :
    Calls Tryd.prog 9 #[.agg #[.bool s, .slice ao xs.length ca, .int .i64 e], .int .i64 b, .bool up] w fun z w' => z = .returned (.bool true) ∧ Below w.heap.size w w' := by
  have b0 := below_alloc w (.cells #[.bool s, .slice ao xs.length ca, .int .i64 e] 25)
  have l0 := loc_new w (.bool s) (.slice ao xs.length ca) (.int .i64 e) 25
  have hop := dcut_any s ao ca xs e b up _ (hr.later b0) sa (hT.later b0)
  have HC : Hid (∀ w1, Below w.heap.size w w1 → Calls Tryd.prog 15 #[.agg #[.bool s, .slice ao xs.length ca, .int .i64 e]] w1 fun z w' => z = .returned (.int .i64 (dchk xs e)) ∧ Below w1.heap.size w1 w') := fun w1 b1 => refcheckDy_any s ao ca xs e w1 (hr.later b1)
  have HBG : Hid (∀ w1, Below w.heap.size w w1 → Calls Tryd.prog 13 #[] w1 fun z w' => z = .returned (.bool true) ∧ Below w1.heap.size w1 w') := fun w1 b1 => dbegun_any w1 (hT.later b1)
  obtain ⟨A, hA⟩ : ∃ A : Trip, (⟨s, Dg.vl 4294967296 xs, e⟩ : Trip) = A := ⟨_, rfl⟩
  have HO : Hid (dchk xs e = 0 → 1 ≤ b → b ≤ 4096 → (∀ w1, Below w.heap.size w w1 → Calls Tryd.prog 17 #[.agg #[.bool s, .slice ao xs.length ca, .int .i64 e]] w1 (RDRes w1 (bare A))) ∧
      (∀ v w1, Rv w1 v (bare A) → Calls Tryd.prog 28 #[v, .int .i64 b, .bool up] w1 (RDRes w1 (bare (cutT A b up)))) ∧ (Dg.dg 65536 (bare (cutT A b up)).n).length ≤ 100000) := fun h n1 n2 => by
    obtain ⟨c1, e1, e2⟩ := dchk_zero h
    have z1 := chk_zero c1
    have x1 : (Dg.dg 4294967296 (Dg.vl 4294967296 xs)).length ≤ 1200 := by rw [← Dg.eq_dg 4294967296 (by omega) xs _ sa z1.1 rfl]; exact z1.2
    obtain ⟨p1, p2, p3⟩ := bare_fits' (t := A) (by rw [← hA]; exact x1) (by rw [← hA]; exact e1) (by rw [← hA]; exact e2)
    refine ⟨fun w1 b1 => ?_, fun v w1 hv => ?_, ?_⟩
    · rw [← hA]; exact ofDyad_any s ao ca xs e w1 (hr.later b1) sa (by omega) (by omega) (by omega)
    · rw [cut_bare A b up n1]
      exact refdcut_any v (bare A) b up w1 hv (by omega) (by omega) (by omega) n1 n2
    · have y1 := cutT_len (A := A) (b := b) (up := up) (L := 1200) (by rw [← hA]; exact x1) (by omega)
      have y2 := dg16_len _ 1201 y1
      refine Nat.le_trans (dg_len_mono 65536 _ (cutT A b up).n (by omega) ?_) (by omega)
      unfold bare
      split
      · exact Nat.zero_le _
      · exact Nat.div_le_self _ _
  rw [hA] at hop
  have hwb := want_bare (c := cutchk xs e b) (cutT A b up)
  have hwz := fun (h : ¬cutchk xs e b = 0) => want_zero h (cutT A b up) ⟨false, 0, 0⟩
  unfold cutchk at hop hwb hwz
  obtain ⟨c, hc⟩ : ∃ c, dchk xs e = c := ⟨_, rfl⟩
  rw [hc] at hop HC HO hwb hwz
  obtain ⟨⟨⟨rs, rn, re⟩, rc⟩, hrr⟩ : ∃ r, dbothR (if c = 0 then (if b < 1 ∨ 4096 < b then 3 else 0) else c) (cutT A b up) = r := ⟨_, rfl⟩
  rw [hrr] at hop hwb hwz
  have HWB : Hid _ := hwb
  have HWZ : Hid _ := hwz
  clear hr sa hT hA hc hrr hwb hwz
  by_cases h : c = 0
  · subst h
    by_cases h1 : b < 1
    · have HWZ2 : Hid (wantR 3 ⟨false, 0, 0⟩ = (⟨rs, rn, re⟩, rc)) := by
        have := HWZ.out
        rw [if_pos rfl, if_pos (Or.inl h1)] at this
        exact this (by omega)
      clear HO HWB HWZ
      go_enter Tryd.func9, Tryd.ntmps9
      go_wp2_with fail
      refine hop.mono ?_
      rintro z w1 ⟨vr, rfl, o1, b1⟩
      obtain ⟨so, sc, hvr⟩ := o1.rd.shape
      subst hvr
      have bB := below_alloc w1 (.cells #[.bool rs, .slice so (Dg.dg 4294967296 rn).length sc, .int .i64 re] 25)
      have l1 := (l0.later b1).later bB
      have lB := loc_new w1 (.bool rs) (.slice so (Dg.dg 4294967296 rn).length sc) (.int .i64 re) 25
      have b01 := below_trans (below_trans b0 b1) bB
      have r1 := (o1.later bB).rd
      have s1 : w.heap.size < w1.heap.size := by have := (l0.later b1).1; exact this
      obtain ⟨-, ⟨c0, c1, c2⟩, -⟩ := id l1
      clear hop b0 b1 o1 bB l0
      go_wp2_with fail
      refine (HC.out _ b01).mono ?_
      rintro z w2 ⟨rfl, b2⟩
      have bW := below_alloc w2 (.cells #[.bool false, .slice none 0 0, .int .i64 0] 34)
      have l2 := (l1.later b2).later bW
      have lB2 := (lB.later b2).later bW
      have lW := loc_new w2 (.bool false) (.slice none 0 0) (.int .i64 0) 34
      have zW := zb_new w2 34
      have b02 := below_trans (below_trans b01 b2) bW
      have r2 := (r1.later b2).later bW
      have s2 : w1.heap.size < w2.heap.size := (lB.later b2).1
      clear c0 c1 c2 b01 l1 lB r1 b2 bW
      have HDI : Hid _ := fun (w4 : World) (hq : Rd w4 .u32 (.slice so (Dg.dg 4294967296 rn).length sc) (Dg.dg 4294967296 rn)) => dyadIs_any (.agg #[.bool false, .slice none 0 0, .int .i64 0]) ⟨false, 0, 0⟩ rs rn re rc 3 so sc w4 hq ⟨_, rfl, rd_nil _ _⟩ (by show ([] : List Nat).length ≤ 100000; simp) HWZ2.out
      clear l2
      go_wp2_with fail
      refine (HBG.out _ b02).mono ?_
      rintro z w4 ⟨rfl, b5⟩
      have lB4 := lB2.later b5
      have lW4 := lW.later b5
      have b05 := below_trans b02 b5
      have hdi := HDI.out w4 (r2.later b5)
      obtain ⟨-, ⟨p0, p1, p2⟩, -⟩ := id lB4
      obtain ⟨-, ⟨p3, p4, p5⟩, -⟩ := id lW4
      clear HBG HWZ2 lB2 lW HDI
      go_wp2_with fail
      refine hdi.mono ?_
      rintro z w5 ⟨rfl, b6⟩
      have b07 := below_trans b05 b6
      clear hdi
      go_wp2
      go_ret
      exact ⟨rfl, b07⟩
    · by_cases h2 : 4096 < b
      · have HWZ2 : Hid (wantR 3 ⟨false, 0, 0⟩ = (⟨rs, rn, re⟩, rc)) := by
          have := HWZ.out
          rw [if_pos rfl, if_pos (Or.inr h2)] at this
          exact this (by omega)
        clear HO HWB HWZ
        go_enter Tryd.func9, Tryd.ntmps9
        go_wp2_with fail
        refine hop.mono ?_
        rintro z w1 ⟨vr, rfl, o1, b1⟩
        obtain ⟨so, sc, hvr⟩ := o1.rd.shape
        subst hvr
        have bB := below_alloc w1 (.cells #[.bool rs, .slice so (Dg.dg 4294967296 rn).length sc, .int .i64 re] 25)
        have l1 := (l0.later b1).later bB
        have lB := loc_new w1 (.bool rs) (.slice so (Dg.dg 4294967296 rn).length sc) (.int .i64 re) 25
        have b01 := below_trans (below_trans b0 b1) bB
        have r1 := (o1.later bB).rd
        have s1 : w.heap.size < w1.heap.size := by have := (l0.later b1).1; exact this
        obtain ⟨-, ⟨c0, c1, c2⟩, -⟩ := id l1
        clear hop b0 b1 o1 bB l0
        go_wp2_with fail
        refine (HC.out _ b01).mono ?_
        rintro z w2 ⟨rfl, b2⟩
        have bW := below_alloc w2 (.cells #[.bool false, .slice none 0 0, .int .i64 0] 34)
        have l2 := (l1.later b2).later bW
        have lB2 := (lB.later b2).later bW
        have lW := loc_new w2 (.bool false) (.slice none 0 0) (.int .i64 0) 34
        have zW := zb_new w2 34
        have b02 := below_trans (below_trans b01 b2) bW
        have r2 := (r1.later b2).later bW
        have s2 : w1.heap.size < w2.heap.size := (lB.later b2).1
        clear c0 c1 c2 b01 l1 lB r1 b2 bW
        have HDI : Hid _ := fun (w4 : World) (hq : Rd w4 .u32 (.slice so (Dg.dg 4294967296 rn).length sc) (Dg.dg 4294967296 rn)) => dyadIs_any (.agg #[.bool false, .slice none 0 0, .int .i64 0]) ⟨false, 0, 0⟩ rs rn re rc 3 so sc w4 hq ⟨_, rfl, rd_nil _ _⟩ (by show ([] : List Nat).length ≤ 100000; simp) HWZ2.out
        clear l2
        go_wp2_with fail
        refine (HBG.out _ b02).mono ?_
        rintro z w4 ⟨rfl, b5⟩
        have lB4 := lB2.later b5
        have lW4 := lW.later b5
        have b05 := below_trans b02 b5
        have hdi := HDI.out w4 (r2.later b5)
        obtain ⟨-, ⟨p0, p1, p2⟩, -⟩ := id lB4
        obtain ⟨-, ⟨p3, p4, p5⟩, -⟩ := id lW4
        clear HBG HWZ2 lB2 lW HDI
        go_wp2_with fail
        refine hdi.mono ?_
        rintro z w5 ⟨rfl, b6⟩
        have b07 := below_trans b05 b6
        clear hdi
        go_wp2
        go_ret
        exact ⟨rfl, b07⟩
      · have HWB2 : Hid (wantR 0 (bare (cutT A b up)) = (⟨rs, rn, re⟩, rc)) := by
          have := HWB.out
          rw [if_pos rfl, if_neg (show ¬(b < 1 ∨ 4096 < b) by omega)] at this
          exact this
        obtain ⟨hof, hdc, hln⟩ := HO.out rfl (by omega) (by omega)
        obtain ⟨⟨bs, bn, be⟩, hbt⟩ : ∃ bt, bare (cutT A b up) = bt := ⟨_, rfl⟩
        rw [hbt] at hdc hln HWB2
        obtain ⟨⟨as', an', ae'⟩, hat⟩ : ∃ bt, bare A = bt := ⟨_, rfl⟩
        rw [hat] at hof hdc
        have HOF : Hid _ := hof
        have HDC : Hid _ := hdc
        clear HO HWB HWZ hof hdc hbt hat
        go_enter Tryd.func9, Tryd.ntmps9
        go_wp2_with fail
        refine hop.mono ?_
        rintro z w1 ⟨vr, rfl, o1, b1⟩
        obtain ⟨so, sc, hvr⟩ := o1.rd.shape
        subst hvr
        have bB := below_alloc w1 (.cells #[.bool rs, .slice so (Dg.dg 4294967296 rn).length sc, .int .i64 re] 25)
        have l1 := (l0.later b1).later bB
        have lB := loc_new w1 (.bool rs) (.slice so (Dg.dg 4294967296 rn).length sc) (.int .i64 re) 25
        have b01 := below_trans (below_trans b0 b1) bB
        have r1 := (o1.later bB).rd
        have s1 : w.heap.size < w1.heap.size := by have := (l0.later b1).1; exact this
        obtain ⟨-, ⟨c0, c1, c2⟩, -⟩ := id l1
        clear hop b0 b1 o1 bB l0
        go_wp2_with fail
        refine (HC.out _ b01).mono ?_
        rintro z w2 ⟨rfl, b2⟩
        have bW := below_alloc w2 (.cells #[.bool false, .slice none 0 0, .int .i64 0] 34)
        have l2 := (l1.later b2).later bW
        have lB2 := (lB.later b2).later bW
        have lW := loc_new w2 (.bool false) (.slice none 0 0) (.int .i64 0) 34
        have zW := zb_new w2 34
        have b02 := below_trans (below_trans b01 b2) bW
        have r2 := (r1.later b2).later bW
        have s2 : w1.heap.size < w2.heap.size := (lB.later b2).1
        clear c0 c1 c2 b01 l1 lB r1 b2 bW
        obtain ⟨-, ⟨c0, c1, c2⟩, -⟩ := id l2
        go_wp2_with fail
        refine (HOF.out _ b02).mono ?_
        rintro z w3 ⟨v3, rfl, q3, b3⟩
        have lB3 := lB2.later b3
        have lW3 := lW.later b3
        have zW3 := zW.later b3
        have b03 := below_trans b02 b3
        have r23 := r2.later b3
        clear c0 c1 c2 l2 lB2 lW zW b02 r2 b3 HOF HC
        go_wp2_with fail
        refine (HDC.out _ _ ⟨_, rfl, q3⟩).mono ?_
        rintro z w6 ⟨vt, rfl, q6, b6⟩
        have lC6 := lB3.later b6
        have lW6 := lW3.later b6
        have zW6 := zW3.later b6
        have b06 := below_trans b03 b6
        have r6 := r23.later b6
        obtain ⟨to, tc, hvt⟩ := q6.shape
        subst hvt
        obtain ⟨hl6, ⟨d0, d1, d2⟩, f0, f1, f2⟩ := id lW6
        clear lB3 lW3 zW3 b03 r23 b6 q3 HDC
        have lBs := lC6.apart (c := w2.heap.size) (by omega) (.bool bs) (.slice to (Dg.dg 65536 bn).length tc) (.int .i64 be)
        have lWs := loc_set lW6 (.bool bs) (.slice to (Dg.dg 65536 bn).length tc) (.int .i64 be)
        have r3s := zW6.rd q6 (Dg.norm_dg _ _ (by omega)) (.bool bs) (.slice to (Dg.dg 65536 bn).length tc) (.int .i64 be)
        have b07 := below_set3 b06 (show w.heap.size ≤ w2.heap.size by omega) (.bool bs) (.slice to (Dg.dg 65536 bn).length tc) (.int .i64 be)
        have rbs := rd_set_apart r6 zW6 (Dg.norm_dg _ _ (by omega)) (.bool bs) (.slice to (Dg.dg 65536 bn).length tc) (.int .i64 be)
        obtain ⟨WW, hWW⟩ : ∃ WW, (((w6.setCell ⟨w2.heap.size, 0, none⟩ (.bool bs)).setCell ⟨w2.heap.size, 1, none⟩ (.slice to (Dg.dg 65536 bn).length tc)).setCell ⟨w2.heap.size, 2, none⟩ (.int .i64 be)) = WW := ⟨_, rfl⟩
        rw [hWW] at lBs lWs r3s b07 rbs
        go_wp2_with fail
        refine (HBG.out WW b07).mono ?_
        rintro z w7 ⟨rfl, b8⟩
        have lB4 := lBs.later b8
        have lW4 := lWs.later b8
        have b09 := below_trans b07 b8
        have hdi := dyadIs_any _ ⟨bs, bn, be⟩ rs rn re rc 0 so sc w7 (rbs.later b8) ⟨_, rfl, r3s.later b8⟩ hln HWB2.out
        obtain ⟨-, ⟨p0, p1, p2⟩, -⟩ := id lB4
        obtain ⟨-, ⟨p3, p4, p5⟩, -⟩ := id lW4
        clear d0 d1 d2 f0 f1 f2 hWW HBG HWB2 lBs lWs
        go_wp2_with fail
        refine hdi.mono ?_
        rintro z w8 ⟨rfl, b9⟩
        have b10 := below_trans b09 b9
        clear hdi
        go_wp2
        go_ret
        exact ⟨rfl, b10⟩
  · have h3 : (c == 0) = false := by simp [h]
    have HWZ2 : Hid (wantR c ⟨false, 0, 0⟩ = (⟨rs, rn, re⟩, rc)) := by
      have := HWZ.out
      rw [if_neg h] at this
      exact this h
    clear HO HWB HWZ
    go_enter Tryd.func9, Tryd.ntmps9
    go_wp2_with fail
    refine hop.mono ?_
    rintro z w1 ⟨vr, rfl, o1, b1⟩
    obtain ⟨so, sc, hvr⟩ := o1.rd.shape
    subst hvr
    have bB := below_alloc w1 (.cells #[.bool rs, .slice so (Dg.dg 4294967296 rn).length sc, .int .i64 re] 25)
    have l1 := (l0.later b1).later bB
    have lB := loc_new w1 (.bool rs) (.slice so (Dg.dg 4294967296 rn).length sc) (.int .i64 re) 25
    have b01 := below_trans (below_trans b0 b1) bB
    have r1 := (o1.later bB).rd
    have s1 : w.heap.size < w1.heap.size := by have := (l0.later b1).1; exact this
    obtain ⟨-, ⟨c0, c1, c2⟩, -⟩ := id l1
    clear hop b0 b1 o1 bB l0
    go_wp2_with fail
    refine (HC.out _ b01).mono ?_
    rintro z w2 ⟨rfl, b2⟩
    have bW := below_alloc w2 (.cells #[.bool false, .slice none 0 0, .int .i64 0] 34)
    have l2 := (l1.later b2).later bW
    have lB2 := (lB.later b2).later bW
    have lW := loc_new w2 (.bool false) (.slice none 0 0) (.int .i64 0) 34
    have zW := zb_new w2 34
    have b02 := below_trans (below_trans b01 b2) bW
    have r2 := (r1.later b2).later bW
    have s2 : w1.heap.size < w2.heap.size := (lB.later b2).1
    clear c0 c1 c2 b01 l1 lB r1 b2 bW
    have HDI : Hid _ := fun (w4 : World) (hq : Rd w4 .u32 (.slice so (Dg.dg 4294967296 rn).length sc) (Dg.dg 4294967296 rn)) => dyadIs_any (.agg #[.bool false, .slice none 0 0, .int .i64 0]) ⟨false, 0, 0⟩ rs rn re rc c so sc w4 hq ⟨_, rfl, rd_nil _ _⟩ (by show ([] : List Nat).length ≤ 100000; simp) HWZ2.out
    clear l2
    go_wp2_with fail
    refine (HBG.out _ b02).mono ?_
    rintro z w4 ⟨rfl, b5⟩
    have lB4 := lB2.later b5
    have lW4 := lW.later b5
    have b05 := below_trans b02 b5
    have hdi := HDI.out w4 (r2.later b5)
    obtain ⟨-, ⟨p0, p1, p2⟩, -⟩ := id lB4
    obtain ⟨-, ⟨p3, p4, p5⟩, -⟩ := id lW4
    clear HBG HWZ2 lB2 lW HDI
    go_wp2_with fail
    refine hdi.mono ?_
    rintro z w5 ⟨rfl, b6⟩
    have b07 := below_trans b05 b6
    clear hdi
    go_wp2
    go_ret
    exact ⟨rfl, b07⟩
end Go.Proofs.YtepcafhlhnlgaaaDoor

/-
  Grids: the walk of GridRounds.
-/
import Derived.Test.YtmjhlflemfkflaaGq7
import Derived.Test.YtmjhlflemfkflaaGr12
import Derived.Test.YtmjhlflemfkflaaGr8
import Derived.Test.YtmjhlflemfkflaaGr9
namespace Go.Proofs.Ytmjhlflemfkflaa
open Go.RowKit

set_option maxRecDepth 100000 in
set_option maxHeartbeats 6400000 in
theorem gridRoundsW (qs : Bool) (ao : Option Addr) (la ca : Nat) (bo : Option Addr) (lb cb : Nat) (E R D L G : Int) (gr : Bool) (way rc gc c : Int) (iw ts : Bool) (td : Nat) (tp : Int) (tx tv tu : Bool) (N M : Nat) (w : World)
    (HA : ¬rc = 0 → c = rc ∧ (⟨ts, td, tp, tx, tv, tu⟩ : PlaceT) = noPlace) (HB : rc = 0 → ¬gc = 0 → c = gc ∧ (⟨ts, td, tp, tx, tv, tu⟩ : PlaceT) = noPlace) (HC : rc = 0 → gc = 0 → iw = false → c = 6 ∧ (⟨ts, td, tp, tx, tv, tu⟩ : PlaceT) = noPlace) (HD : rc = 0 → gc = 0 → iw = true → c = 0)
    (HRO : ∀ w1, Below w.heap.size w w1 → Calls Try.prog 27 #[.agg #[.bool qs, .slice ao la ca, .slice bo lb cb, .int .i64 E], .agg #[.int .i64 R, .int .i64 D, .int .i64 L, .int .i64 G, .bool gr], .int .i64 way] w1 (PlaceAns w1 c ⟨ts, td, tp, tx, tv, tu⟩))
    (HCR : ∀ w1, Below w.heap.size w w1 → Calls Try.prog 28 #[.agg #[.bool qs, .slice ao la ca, .slice bo lb cb, .int .i64 E]] w1 fun z w' => z = .returned (.int .i64 rc) ∧ Below w1.heap.size w1 w')
    (HCG : ∀ w1, Calls Try.prog 26 #[.agg #[.int .i64 R, .int .i64 D, .int .i64 L, .int .i64 G, .bool gr]] w1 fun z w' => z = .returned (.int .i64 gc) ∧ Below w1.heap.size w1 w')
    (HIW : ∀ w1, Calls Try.prog 29 #[.int .i64 way] w1 fun z w' => z = .returned (.bool iw) ∧ w' = w1)
    (HOF : rc = 0 → gc = 0 → iw = true → ∀ w1, Below w.heap.size w w1 → Calls Try.prog 31 #[.agg #[.bool qs, .slice ao la ca, .slice bo lb cb, .int .i64 E]] w1 (QRes w1 qs N M E))
    (HRT : rc = 0 → gc = 0 → iw = true → ∀ no nc eo ec w1, Rd w1 .i64 (.slice no (Dg.dg 65536 N).length nc) (Dg.dg 65536 N) → Rd w1 .i64 (.slice eo (Dg.dg 65536 M).length ec) (Dg.dg 65536 M) → Calls Try.prog 30 #[.agg #[.bool qs, .slice no (Dg.dg 65536 N).length nc, .slice eo (Dg.dg 65536 M).length ec, .int .i64 E], .agg #[.int .i64 R, .int .i64 D, .int .i64 L, .int .i64 G, .bool gr], .int .i64 way] w1 (RPRes w1 ⟨ts, td, tp, tx, tv, tu⟩))
    (HBG : ∀ w1, Calls Try.prog 24 #[] w1 fun z w' => z = .returned (.bool true) ∧ Below w1.heap.size w1 w')
    (HSP : ∀ uo ul uc vo vl vc w1, Rd w1 .u32 (.slice uo ul uc) (Dg.dg 4294967296 td) → Rd w1 .i64 (.slice vo vl vc) (Dg.dg 65536 td) → Calls Try.prog 32 #[.agg #[.bool ts, .slice uo ul uc, .int .i64 tp, .bool tx, .bool tv, .bool tu], .agg #[.bool ts, .slice vo vl vc, .int .i64 tp, .bool tx, .bool tv, .bool tu]] w1 fun z w' => z = .returned (.bool true) ∧ Below w1.heap.size w1 w') :
    Calls Try.prog 5 #[.agg #[.bool qs, .slice ao la ca, .slice bo lb cb, .int .i64 E], .agg #[.int .i64 R, .int .i64 D, .int .i64 L, .int .i64 G, .bool gr], .int .i64 way] w fun z w' => z = .returned (.bool true) ∧ Below w.heap.size w w' := by
  replace HA : Hid _ := HA
  replace HB : Hid _ := HB
  replace HC : Hid _ := HC
  replace HD : Hid _ := HD
  replace HRO : Hid _ := HRO
  replace HCR : Hid _ := HCR
  replace HCG : Hid _ := HCG
  replace HIW : Hid _ := HIW
  replace HOF : Hid _ := HOF
  replace HRT : Hid _ := HRT
  replace HBG : Hid _ := HBG
  replace HSP : Hid _ := HSP
  have b1 := below_trans (below_alloc w (.cells #[.bool qs, .slice ao la ca, .slice bo lb cb, .int .i64 E] 51)) (below_alloc _ (.cells #[.int .i64 R, .int .i64 D, .int .i64 L, .int .i64 G, .bool gr] 47))
  have q1 := (locE_new w [.bool qs, .slice ao la ca, .slice bo lb cb, .int .i64 E] 51).later (below_alloc _ (.cells #[.int .i64 R, .int .i64 D, .int .i64 L, .int .i64 G, .bool gr] 47))
  have g1 := locE_new (w.alloc (.cells #[.bool qs, .slice ao la ca, .slice bo lb cb, .int .i64 E] 51)) [.int .i64 R, .int .i64 D, .int .i64 L, .int .i64 G, .bool gr] 47
  simp only [World.size_alloc] at g1
  by_cases hrc : rc = 0
  · have HB1 : Hid _ := HB.out hrc
    have HC1 : Hid _ := HC.out hrc
    have HD1 : Hid _ := HD.out hrc
    have HO1 : Hid _ := HOF.out hrc
    have HT1 : Hid _ := HRT.out hrc
    clear HA HB HC HD HOF HRT
    subst hrc
    by_cases hgc : gc = 0
    · have HC2 : Hid _ := HC1.out hgc
      have HD2 : Hid _ := HD1.out hgc
      have HO2 : Hid _ := HO1.out hgc
      have HT2 : Hid _ := HT1.out hgc
      clear HB1 HC1 HD1 HO1 HT1
      subst hgc
      cases iw
      · obtain ⟨hc, hn⟩ := HC2.out rfl
        unfold noPlace at hn
        simp only [PlaceT.mk.injEq] at hn
        obtain ⟨rfl, rfl, rfl, rfl, rfl, rfl⟩ := hn
        clear HC2 HD2 HO2 HT2
        subst hc
        have y0 := q1.cell 0 rfl
        have y1 := q1.cell 1 rfl
        have y2 := q1.cell 2 rfl
        have y3 := q1.cell 3 rfl
        have x0 := g1.cell 0 rfl
        have x1 := g1.cell 1 rfl
        have x2 := g1.cell 2 rfl
        have x3 := g1.cell 3 rfl
        have x4 := g1.cell 4 rfl
        go_enter Try.func5, Try.ntmps5
        go_wp2_with fail
        refine (HRO.out _ b1).mono ?_
        rintro z w2 ⟨v2, rfl, o2, bb2⟩
        obtain ⟨xo, xc, hx2⟩ := o2.rd.shape
        subst hx2
        have r2 := o2.rd
        skip
        clear y0 y1 y2 y3 x0 x1 x2 x3 x4 o2
        have q_2 := q1.later bb2
        have g_2 := g1.later bb2
        have b0_2 := below_trans b1 bb2
        clear q1 g1 b1 bb2
        obtain ⟨xl, hxl⟩ : ∃ l, (Dg.dg 4294967296 0).length = l := ⟨_, rfl⟩
        have hxl2 : (Dg.dg 4294967296 (PlaceT.mk false 0 0 false false false).d).length = xl := hxl
        rw [hxl2] at r2 ⊢
        clear hxl hxl2
        have ap := below_alloc w2 (.cells #[.bool false, .slice xo xl xc, .int .i64 0, .bool false, .bool false, .bool false] 53)
        have p2 := locE_new w2 [.bool false, .slice xo xl xc, .int .i64 0, .bool false, .bool false, .bool false] 53
        have hPa : w.heap.size + 1 < w2.heap.size := g_2.lt
        have q_3 := q_2.later ap
        have g_3 := g_2.later ap
        have r_3 := r2.later ap
        have b0_3 := below_trans b0_2 ap
        clear q_2 g_2 r2 b0_2 ap
        go_upto_region 2 with fail
        generalize w2.alloc (.cells #[.bool false, .slice xo xl xc, .int .i64 0, .bool false, .bool false, .bool false] 53) = W2 at q_3 g_3 r_3 p2 b0_3 ⊢
        generalize w2.heap.size = PA at p2 hPa ⊢
        have y0 := q_3.cell 0 rfl
        have y1 := q_3.cell 1 rfl
        have y2 := q_3.cell 2 rfl
        have y3 := q_3.cell 3 rfl
        go_wp2_with fail
        refine (HCR.out _ b0_3).mono ?_
        rintro z w3 ⟨rfl, bb4⟩
        have q_4 := q_3.later bb4
        have g_4 := g_3.later bb4
        have r_4 := r_3.later bb4
        have p_4 := p2.later bb4
        have b0_4 := below_trans b0_3 bb4
        clear q_3 g_3 r_3 p2 b0_3 bb4
        clear y0 y1 y2 y3
        have x0 := g_4.cell 0 rfl
        have x1 := g_4.cell 1 rfl
        have x2 := g_4.cell 2 rfl
        have x3 := g_4.cell 3 rfl
        have x4 := g_4.cell 4 rfl
        go_wp2_with fail
        refine (HCG.out _).mono ?_
        rintro z w4 ⟨rfl, bb5⟩
        have q_5 := q_4.later bb5
        have g_5 := g_4.later bb5
        have r_5 := r_4.later bb5
        have p_5 := p_4.later bb5
        have b0_5 := below_trans b0_4 bb5
        clear q_4 g_4 r_4 p_4 b0_4 bb5
        clear x0 x1 x2 x3 x4
        go_wp2_with fail
        refine (HIW.out _).mono ?_
        rintro z w5 ⟨rfl, rfl⟩
        have az := below_alloc w5 (.cells #[.bool false, .slice none 0 0, .int .i64 0, .bool false, .bool false, .bool false] 59)
        have s4 := locE_new w5 [.bool false, .slice none 0 0, .int .i64 0, .bool false, .bool false, .bool false] 59
        have q_6 := q_5.later az
        have g_6 := g_5.later az
        have r_6 := r_5.later az
        have p_6 := p_5.later az
        have b0_6 := below_trans b0_5 az
        clear q_5 g_5 r_5 p_5 b0_5 az
        go_upto_region 10 with fail
        generalize w5.alloc (.cells #[.bool false, .slice none 0 0, .int .i64 0, .bool false, .bool false, .bool false] 59) = W4 at q_6 g_6 r_6 p_6 s4 b0_6 ⊢
        generalize w5.heap.size = PB at s4 ⊢
        have x0 := p_6.cell 0 rfl
        have y0 := s4.cell 0 rfl
        have x1 := p_6.cell 1 rfl
        have y1 := s4.cell 1 rfl
        have x2 := p_6.cell 2 rfl
        have y2 := s4.cell 2 rfl
        have x3 := p_6.cell 3 rfl
        have y3 := s4.cell 3 rfl
        have x4 := p_6.cell 4 rfl
        have y4 := s4.cell 4 rfl
        have x5 := p_6.cell 5 rfl
        have y5 := s4.cell 5 rfl
        go_wp2_with fail
        refine (HBG.out _).mono ?_
        rintro z wb ⟨rfl, bbb⟩
        clear x0 x1 x2 x3 x4 x5 y0 y1 y2 y3 y4 y5
        have q_7 := q_6.later bbb
        have g_7 := g_6.later bbb
        have r_7 := r_6.later bbb
        have p_7 := p_6.later bbb
        have s_7 := s4.later bbb
        have b0_7 := below_trans b0_6 bbb
        clear q_6 g_6 r_6 p_6 s4 b0_6 bbb
        have x0 := p_7.cell 0 rfl
        have y0 := s_7.cell 0 rfl
        have x1 := p_7.cell 1 rfl
        have y1 := s_7.cell 1 rfl
        have x2 := p_7.cell 2 rfl
        have y2 := s_7.cell 2 rfl
        have x3 := p_7.cell 3 rfl
        have y3 := s_7.cell 3 rfl
        have x4 := p_7.cell 4 rfl
        have y4 := s_7.cell 4 rfl
        have x5 := p_7.cell 5 rfl
        have y5 := s_7.cell 5 rfl
        go_wp2_with fail
        refine (HSP.out _ _ _ _ _ _ _ r_7 (rd_nil _ _)).mono ?_
        rintro z wc ⟨rfl, bbc⟩
        have bE := below_trans b0_7 bbc
        go_wp2
        go_ret
        exact ⟨by simp, bE⟩
      · have hc := HD2.out rfl
        have HO3 : Hid _ := HO2.out rfl
        have HT3 : Hid _ := HT2.out rfl
        clear HC2 HD2 HO2 HT2
        subst hc
        have y0 := q1.cell 0 rfl
        have y1 := q1.cell 1 rfl
        have y2 := q1.cell 2 rfl
        have y3 := q1.cell 3 rfl
        have x0 := g1.cell 0 rfl
        have x1 := g1.cell 1 rfl
        have x2 := g1.cell 2 rfl
        have x3 := g1.cell 3 rfl
        have x4 := g1.cell 4 rfl
        go_enter Try.func5, Try.ntmps5
        go_wp2_with fail
        refine (HRO.out _ b1).mono ?_
        rintro z w2 ⟨v2, rfl, o2, bb2⟩
        obtain ⟨xo, xc, hx2⟩ := o2.rd.shape
        subst hx2
        have r2 := o2.rd
        skip
        clear y0 y1 y2 y3 x0 x1 x2 x3 x4 o2
        have q_2 := q1.later bb2
        have g_2 := g1.later bb2
        have b0_2 := below_trans b1 bb2
        clear q1 g1 b1 bb2
        obtain ⟨xl, hxl⟩ : ∃ l, (Dg.dg 4294967296 td).length = l := ⟨_, rfl⟩
        have hxl2 : (Dg.dg 4294967296 (PlaceT.mk ts td tp tx tv tu).d).length = xl := hxl
        rw [hxl2] at r2 ⊢
        clear hxl hxl2
        have ap := below_alloc w2 (.cells #[.bool ts, .slice xo xl xc, .int .i64 tp, .bool tx, .bool tv, .bool tu] 53)
        have p2 := locE_new w2 [.bool ts, .slice xo xl xc, .int .i64 tp, .bool tx, .bool tv, .bool tu] 53
        have hPa : w.heap.size + 1 < w2.heap.size := g_2.lt
        have q_3 := q_2.later ap
        have g_3 := g_2.later ap
        have r_3 := r2.later ap
        have b0_3 := below_trans b0_2 ap
        clear q_2 g_2 r2 b0_2 ap
        go_upto_region 2 with fail
        generalize w2.alloc (.cells #[.bool ts, .slice xo xl xc, .int .i64 tp, .bool tx, .bool tv, .bool tu] 53) = W2 at q_3 g_3 r_3 p2 b0_3 ⊢
        generalize w2.heap.size = PA at p2 hPa ⊢
        have y0 := q_3.cell 0 rfl
        have y1 := q_3.cell 1 rfl
        have y2 := q_3.cell 2 rfl
        have y3 := q_3.cell 3 rfl
        go_wp2_with fail
        refine (HCR.out _ b0_3).mono ?_
        rintro z w3 ⟨rfl, bb4⟩
        have q_4 := q_3.later bb4
        have g_4 := g_3.later bb4
        have r_4 := r_3.later bb4
        have p_4 := p2.later bb4
        have b0_4 := below_trans b0_3 bb4
        clear q_3 g_3 r_3 p2 b0_3 bb4
        clear y0 y1 y2 y3
        have x0 := g_4.cell 0 rfl
        have x1 := g_4.cell 1 rfl
        have x2 := g_4.cell 2 rfl
        have x3 := g_4.cell 3 rfl
        have x4 := g_4.cell 4 rfl
        go_wp2_with fail
        refine (HCG.out _).mono ?_
        rintro z w4 ⟨rfl, bb5⟩
        have q_5 := q_4.later bb5
        have g_5 := g_4.later bb5
        have r_5 := r_4.later bb5
        have p_5 := p_4.later bb5
        have b0_5 := below_trans b0_4 bb5
        clear q_4 g_4 r_4 p_4 b0_4 bb5
        clear x0 x1 x2 x3 x4
        go_wp2_with fail
        refine (HIW.out _).mono ?_
        rintro z w5 ⟨rfl, rfl⟩
        skip
        have az : Below w5.heap.size w5 (w5.alloc (.cells #[.bool false, .slice none 0 0, .int .i64 0, .bool false, .bool false, .bool false] 59)) := below_alloc w5 (.cells #[.bool false, .slice none 0 0, .int .i64 0, .bool false, .bool false, .bool false] 59)
        have s4 := locE_new w5 [.bool false, .slice none 0 0, .int .i64 0, .bool false, .bool false, .bool false] 59
        have hPb : w.heap.size + 1 < w5.heap.size := g_5.lt
        have hAB : PA < w5.heap.size := p_5.lt
        have q_6 := q_5.later az
        have g_6 := g_5.later az
        have r_6 := r_5.later az
        have p_6 := p_5.later az
        have b0_6 := below_trans b0_5 az
        clear q_5 g_5 r_5 p_5 b0_5 az
        go_upto_region 8 with fail
        generalize w5.alloc (.cells #[.bool false, .slice none 0 0, .int .i64 0, .bool false, .bool false, .bool false] 59) = W4 at q_6 g_6 r_6 p_6 s4 b0_6 ⊢
        generalize w5.heap.size = PB at s4 hPb hAB ⊢
        have bd_6 : Below W4.heap.size W4 W4.drew := (Below.refl _ _).drew
        have q_7 := q_6.later bd_6
        have g_7 := g_6.later bd_6
        have r_7 := r_6.later bd_6
        have p_7 := p_6.later bd_6
        have s_7 := s4.later bd_6
        have b0_7 := below_trans b0_6 bd_6
        clear q_6 g_6 r_6 p_6 s4 b0_6 bd_6
        have n1 : PB ≠ w.heap.size := by omega
        have n2 : PB ≠ w.heap.size + 1 := by omega
        have n3 : PA ≠ PB := by omega
        have y0 := q_7.cell 0 rfl
        have y1 := q_7.cell 1 rfl
        have y2 := q_7.cell 2 rfl
        have y3 := q_7.cell 3 rfl
        have x0 := g_7.cell 0 rfl
        have x1 := g_7.cell 1 rfl
        have x2 := g_7.cell 2 rfl
        have x3 := g_7.cell 3 rfl
        have x4 := g_7.cell 4 rfl
        go_wp2_with fail
        go_region_held3 (fun wq => (wq.cell? ⟨w.heap.size, 0, none⟩ = some (.bool qs) ∧ wq.cell? ⟨w.heap.size, 1, none⟩ = some (.slice ao la ca) ∧ wq.cell? ⟨w.heap.size, 2, none⟩ = some (.slice bo lb cb) ∧ wq.cell? ⟨w.heap.size, 3, none⟩ = some (.int .i64 E)) ∧ wq.cell? ⟨w.heap.size + 1, 0, none⟩ = some (.int .i64 R) ∧ wq.cell? ⟨w.heap.size + 1, 1, none⟩ = some (.int .i64 D) ∧ wq.cell? ⟨w.heap.size + 1, 2, none⟩ = some (.int .i64 L) ∧ wq.cell? ⟨w.heap.size + 1, 3, none⟩ = some (.int .i64 G) ∧ wq.cell? ⟨w.heap.size + 1, 4, none⟩ = some (.bool gr)) (go_keep) (first
          | (go_at_call 31; have hgd := b0_7; clear hgd; refine (HO3.out _ b0_7).mono ?_; rintro z wa ⟨no, nc, eo, ec, rfl, t1, t2, bb_wa⟩; have b0_wa := below_trans b0_7 bb_wa; have q_wa := q_7.later bb_wa; have g_wa := g_7.later bb_wa; have r_wa := r_7.later bb_wa; have p_wa := p_7.later bb_wa; have s_wa := s_7.later bb_wa; have ya0 := q_wa.cell 0 rfl; have ya1 := q_wa.cell 1 rfl; have ya2 := q_wa.cell 2 rfl; have ya3 := q_wa.cell 3 rfl; have xa0 := g_wa.cell 0 rfl; have xa1 := g_wa.cell 1 rfl; have xa2 := g_wa.cell 2 rfl; have xa3 := g_wa.cell 3 rfl; have xa4 := g_wa.cell 4 rfl; clear b0_7)
          | (go_at_call 30; have hgd := b0_wa; clear hgd; refine (HT3.out _ _ _ _ _ t1 t2).mono ?_; rintro z wb ⟨vt, rfl, rt, bb_wb⟩; have b0_wb := below_trans b0_wa bb_wb; have q_wb := q_wa.later bb_wb; have g_wb := g_wa.later bb_wb; have r_wb := r_wa.later bb_wb; have p_wb := p_wa.later bb_wb; have s_wb := s_wa.later bb_wb; have yb0 := q_wb.cell 0 rfl; have yb1 := q_wb.cell 1 rfl; have yb2 := q_wb.cell 2 rfl; have yb3 := q_wb.cell 3 rfl; have xb0 := g_wb.cell 0 rfl; have xb1 := g_wb.cell 1 rfl; have xb2 := g_wb.cell 2 rfl; have xb3 := g_wb.cell 3 rfl; have xb4 := g_wb.cell 4 rfl; obtain ⟨tq, tc, hvt⟩ := rt.shape; subst hvt; have z0 := s_wb.cell 0 rfl; have e0 := s_wb.free 0; have z1 := s_wb.cell 1 rfl; have e1 := s_wb.free 1; have z2 := s_wb.cell 2 rfl; have e2 := s_wb.free 2; have z3 := s_wb.cell 3 rfl; have e3 := s_wb.free 3; have z4 := s_wb.cell 4 rfl; have e4 := s_wb.free 4; have z5 := s_wb.cell 5 rfl; have e5 := s_wb.free 5; clear b0_wa))
        go_goals
        go_upto_region 10 with fail
        have bu : But PB wb ((((((wb.setCell ⟨PB, 0, none⟩ (.bool ts)).setCell ⟨PB, 1, none⟩ (.slice tq (Dg.dg 65536 td).length tc)).setCell ⟨PB, 2, none⟩ (.int .i64 tp)).setCell ⟨PB, 3, none⟩ (.bool tx)).setCell ⟨PB, 4, none⟩ (.bool tv)).setCell ⟨PB, 5, none⟩ (.bool tu)) := (((((but_set wb PB 0 (.bool ts)).trans (but_set _ PB 1 (.slice tq (Dg.dg 65536 td).length tc))).trans (but_set _ PB 2 (.int .i64 tp))).trans (but_set _ PB 3 (.bool tx))).trans (but_set _ PB 4 (.bool tv))).trans (but_set _ PB 5 (.bool tu))
        have sX : LocE ((((((wb.setCell ⟨PB, 0, none⟩ (.bool ts)).setCell ⟨PB, 1, none⟩ (.slice tq (Dg.dg 65536 td).length tc)).setCell ⟨PB, 2, none⟩ (.int .i64 tp)).setCell ⟨PB, 3, none⟩ (.bool tx)).setCell ⟨PB, 4, none⟩ (.bool tv)).setCell ⟨PB, 5, none⟩ (.bool tu)) PB 59 [.bool ts, .slice tq (Dg.dg 65536 td).length tc, .int .i64 tp, .bool tx, .bool tv, .bool tu] := (((((s_wb.set 0 (.bool ts)).set 1 (.slice tq (Dg.dg 65536 td).length tc)).set 2 (.int .i64 tp)).set 3 (.bool tx)).set 4 (.bool tv)).set 5 (.bool tu)
        have hz : ∀ x ∈ ([.bool false, .slice none 0 0, .int .i64 0, .bool false, .bool false, .bool false] : List Value), ∀ n : Int, n ≠ 0 → x ≠ .int .i64 n := by simp; intro n hn h; exact hn h.symm
        have hu : ∀ x ∈ ([.bool false, .slice none 0 0, .int .i64 0, .bool false, .bool false, .bool false] : List Value), ∀ n : Int, x ≠ .int .u32 n := by simp
        have tX := bu.rd rt (rd_offE rt (Dg.norm_dg _ _ (by omega)) s_wb hz)
        have rX := bu.rd r_wb (rd_offU r_wb s_wb hu)
        have pX := bu.loc p_wb n3
        have bX := bu.below b0_wb (show w.heap.size ≤ PB by omega)
        clear bu hz hu q_wb g_wb r_wb p_wb s_wb b0_wb rt
        generalize ((((((wb.setCell ⟨PB, 0, none⟩ (.bool ts)).setCell ⟨PB, 1, none⟩ (.slice tq (Dg.dg 65536 td).length tc)).setCell ⟨PB, 2, none⟩ (.int .i64 tp)).setCell ⟨PB, 3, none⟩ (.bool tx)).setCell ⟨PB, 4, none⟩ (.bool tv)).setCell ⟨PB, 5, none⟩ (.bool tu)) = WX at sX tX rX pX bX ⊢
        have x0 := pX.cell 0 rfl
        have y0 := sX.cell 0 rfl
        have x1 := pX.cell 1 rfl
        have y1 := sX.cell 1 rfl
        have x2 := pX.cell 2 rfl
        have y2 := sX.cell 2 rfl
        have x3 := pX.cell 3 rfl
        have y3 := sX.cell 3 rfl
        have x4 := pX.cell 4 rfl
        have y4 := sX.cell 4 rfl
        have x5 := pX.cell 5 rfl
        have y5 := sX.cell 5 rfl
        go_wp2_with fail
        refine (HBG.out _).mono ?_
        rintro z wb ⟨rfl, bbb⟩
        clear x0 x1 x2 x3 x4 x5 y0 y1 y2 y3 y4 y5
        have s_41 := sX.later bbb
        have t_41 := tX.later bbb
        have r_41 := rX.later bbb
        have p_41 := pX.later bbb
        have b0_41 := below_trans bX bbb
        clear sX tX rX pX bX bbb
        have x0 := p_41.cell 0 rfl
        have y0 := s_41.cell 0 rfl
        have x1 := p_41.cell 1 rfl
        have y1 := s_41.cell 1 rfl
        have x2 := p_41.cell 2 rfl
        have y2 := s_41.cell 2 rfl
        have x3 := p_41.cell 3 rfl
        have y3 := s_41.cell 3 rfl
        have x4 := p_41.cell 4 rfl
        have y4 := s_41.cell 4 rfl
        have x5 := p_41.cell 5 rfl
        have y5 := s_41.cell 5 rfl
        go_wp2_with fail
        refine (HSP.out _ _ _ _ _ _ _ r_41 t_41).mono ?_
        rintro z wc ⟨rfl, bbc⟩
        have bE := below_trans b0_41 bbc
        go_wp2
        go_ret
        exact ⟨by simp, bE⟩
    · obtain ⟨hc, hn⟩ := HB1.out hgc
      unfold noPlace at hn
      simp only [PlaceT.mk.injEq] at hn
      obtain ⟨rfl, rfl, rfl, rfl, rfl, rfl⟩ := hn
      clear HB1 HC1 HD1 HO1 HT1
      have hgf : (gc == 0) = false := by simp [hgc]
      subst hc
      have y0 := q1.cell 0 rfl
      have y1 := q1.cell 1 rfl
      have y2 := q1.cell 2 rfl
      have y3 := q1.cell 3 rfl
      have x0 := g1.cell 0 rfl
      have x1 := g1.cell 1 rfl
      have x2 := g1.cell 2 rfl
      have x3 := g1.cell 3 rfl
      have x4 := g1.cell 4 rfl
      go_enter Try.func5, Try.ntmps5
      go_wp2_with fail
      refine (HRO.out _ b1).mono ?_
      rintro z w2 ⟨v2, rfl, o2, bb2⟩
      obtain ⟨xo, xc, hx2⟩ := o2.rd.shape
      subst hx2
      have r2 := o2.rd
      skip
      clear y0 y1 y2 y3 x0 x1 x2 x3 x4 o2
      have q_2 := q1.later bb2
      have g_2 := g1.later bb2
      have b0_2 := below_trans b1 bb2
      clear q1 g1 b1 bb2
      obtain ⟨xl, hxl⟩ : ∃ l, (Dg.dg 4294967296 0).length = l := ⟨_, rfl⟩
      have hxl2 : (Dg.dg 4294967296 (PlaceT.mk false 0 0 false false false).d).length = xl := hxl
      rw [hxl2] at r2 ⊢
      clear hxl hxl2
      have ap := below_alloc w2 (.cells #[.bool false, .slice xo xl xc, .int .i64 0, .bool false, .bool false, .bool false] 53)
      have p2 := locE_new w2 [.bool false, .slice xo xl xc, .int .i64 0, .bool false, .bool false, .bool false] 53
      have hPa : w.heap.size + 1 < w2.heap.size := g_2.lt
      have q_3 := q_2.later ap
      have g_3 := g_2.later ap
      have r_3 := r2.later ap
      have b0_3 := below_trans b0_2 ap
      clear q_2 g_2 r2 b0_2 ap
      go_upto_region 2 with fail
      generalize w2.alloc (.cells #[.bool false, .slice xo xl xc, .int .i64 0, .bool false, .bool false, .bool false] 53) = W2 at q_3 g_3 r_3 p2 b0_3 ⊢
      generalize w2.heap.size = PA at p2 hPa ⊢
      have y0 := q_3.cell 0 rfl
      have y1 := q_3.cell 1 rfl
      have y2 := q_3.cell 2 rfl
      have y3 := q_3.cell 3 rfl
      go_wp2_with fail
      refine (HCR.out _ b0_3).mono ?_
      rintro z w3 ⟨rfl, bb4⟩
      have q_4 := q_3.later bb4
      have g_4 := g_3.later bb4
      have r_4 := r_3.later bb4
      have p_4 := p2.later bb4
      have b0_4 := below_trans b0_3 bb4
      clear q_3 g_3 r_3 p2 b0_3 bb4
      clear y0 y1 y2 y3
      have x0 := g_4.cell 0 rfl
      have x1 := g_4.cell 1 rfl
      have x2 := g_4.cell 2 rfl
      have x3 := g_4.cell 3 rfl
      have x4 := g_4.cell 4 rfl
      go_wp2_with fail
      refine (HCG.out _).mono ?_
      rintro z w4 ⟨rfl, bb5⟩
      have q_5 := q_4.later bb5
      have g_5 := g_4.later bb5
      have r_5 := r_4.later bb5
      have p_5 := p_4.later bb5
      have b0_5 := below_trans b0_4 bb5
      clear q_4 g_4 r_4 p_4 b0_4 bb5
      clear x0 x1 x2 x3 x4
      have az := below_alloc w4 (.cells #[.bool false, .slice none 0 0, .int .i64 0, .bool false, .bool false, .bool false] 59)
      have s4 := locE_new w4 [.bool false, .slice none 0 0, .int .i64 0, .bool false, .bool false, .bool false] 59
      have q_6 := q_5.later az
      have g_6 := g_5.later az
      have r_6 := r_5.later az
      have p_6 := p_5.later az
      have b0_6 := below_trans b0_5 az
      clear q_5 g_5 r_5 p_5 b0_5 az
      go_upto_region 10 with fail
      generalize w4.alloc (.cells #[.bool false, .slice none 0 0, .int .i64 0, .bool false, .bool false, .bool false] 59) = W4 at q_6 g_6 r_6 p_6 s4 b0_6 ⊢
      generalize w4.heap.size = PB at s4 ⊢
      have x0 := p_6.cell 0 rfl
      have y0 := s4.cell 0 rfl
      have x1 := p_6.cell 1 rfl
      have y1 := s4.cell 1 rfl
      have x2 := p_6.cell 2 rfl
      have y2 := s4.cell 2 rfl
      have x3 := p_6.cell 3 rfl
      have y3 := s4.cell 3 rfl
      have x4 := p_6.cell 4 rfl
      have y4 := s4.cell 4 rfl
      have x5 := p_6.cell 5 rfl
      have y5 := s4.cell 5 rfl
      go_wp2_with fail
      refine (HBG.out _).mono ?_
      rintro z wb ⟨rfl, bbb⟩
      clear x0 x1 x2 x3 x4 x5 y0 y1 y2 y3 y4 y5
      have q_7 := q_6.later bbb
      have g_7 := g_6.later bbb
      have r_7 := r_6.later bbb
      have p_7 := p_6.later bbb
      have s_7 := s4.later bbb
      have b0_7 := below_trans b0_6 bbb
      clear q_6 g_6 r_6 p_6 s4 b0_6 bbb
      have x0 := p_7.cell 0 rfl
      have y0 := s_7.cell 0 rfl
      have x1 := p_7.cell 1 rfl
      have y1 := s_7.cell 1 rfl
      have x2 := p_7.cell 2 rfl
      have y2 := s_7.cell 2 rfl
      have x3 := p_7.cell 3 rfl
      have y3 := s_7.cell 3 rfl
      have x4 := p_7.cell 4 rfl
      have y4 := s_7.cell 4 rfl
      have x5 := p_7.cell 5 rfl
      have y5 := s_7.cell 5 rfl
      go_wp2_with fail
      refine (HSP.out _ _ _ _ _ _ _ r_7 (rd_nil _ _)).mono ?_
      rintro z wc ⟨rfl, bbc⟩
      have bE := below_trans b0_7 bbc
      go_wp2
      go_ret
      exact ⟨by simp, bE⟩
  · obtain ⟨hc, hn⟩ := HA.out hrc
    unfold noPlace at hn
    simp only [PlaceT.mk.injEq] at hn
    obtain ⟨rfl, rfl, rfl, rfl, rfl, rfl⟩ := hn
    clear HA HB HC HD HOF HRT
    have hrf : (rc == 0) = false := by simp [hrc]
    subst hc
    have y0 := q1.cell 0 rfl
    have y1 := q1.cell 1 rfl
    have y2 := q1.cell 2 rfl
    have y3 := q1.cell 3 rfl
    have x0 := g1.cell 0 rfl
    have x1 := g1.cell 1 rfl
    have x2 := g1.cell 2 rfl
    have x3 := g1.cell 3 rfl
    have x4 := g1.cell 4 rfl
    go_enter Try.func5, Try.ntmps5
    go_wp2_with fail
    refine (HRO.out _ b1).mono ?_
    rintro z w2 ⟨v2, rfl, o2, bb2⟩
    obtain ⟨xo, xc, hx2⟩ := o2.rd.shape
    subst hx2
    have r2 := o2.rd
    skip
    clear y0 y1 y2 y3 x0 x1 x2 x3 x4 o2
    have q_2 := q1.later bb2
    have g_2 := g1.later bb2
    have b0_2 := below_trans b1 bb2
    clear q1 g1 b1 bb2
    obtain ⟨xl, hxl⟩ : ∃ l, (Dg.dg 4294967296 0).length = l := ⟨_, rfl⟩
    have hxl2 : (Dg.dg 4294967296 (PlaceT.mk false 0 0 false false false).d).length = xl := hxl
    rw [hxl2] at r2 ⊢
    clear hxl hxl2
    have ap := below_alloc w2 (.cells #[.bool false, .slice xo xl xc, .int .i64 0, .bool false, .bool false, .bool false] 53)
    have p2 := locE_new w2 [.bool false, .slice xo xl xc, .int .i64 0, .bool false, .bool false, .bool false] 53
    have hPa : w.heap.size + 1 < w2.heap.size := g_2.lt
    have q_3 := q_2.later ap
    have g_3 := g_2.later ap
    have r_3 := r2.later ap
    have b0_3 := below_trans b0_2 ap
    clear q_2 g_2 r2 b0_2 ap
    go_upto_region 2 with fail
    generalize w2.alloc (.cells #[.bool false, .slice xo xl xc, .int .i64 0, .bool false, .bool false, .bool false] 53) = W2 at q_3 g_3 r_3 p2 b0_3 ⊢
    generalize w2.heap.size = PA at p2 hPa ⊢
    have y0 := q_3.cell 0 rfl
    have y1 := q_3.cell 1 rfl
    have y2 := q_3.cell 2 rfl
    have y3 := q_3.cell 3 rfl
    go_wp2_with fail
    refine (HCR.out _ b0_3).mono ?_
    rintro z w3 ⟨rfl, bb4⟩
    have q_4 := q_3.later bb4
    have g_4 := g_3.later bb4
    have r_4 := r_3.later bb4
    have p_4 := p2.later bb4
    have b0_4 := below_trans b0_3 bb4
    clear q_3 g_3 r_3 p2 b0_3 bb4
    clear y0 y1 y2 y3
    have az := below_alloc w3 (.cells #[.bool false, .slice none 0 0, .int .i64 0, .bool false, .bool false, .bool false] 59)
    have s4 := locE_new w3 [.bool false, .slice none 0 0, .int .i64 0, .bool false, .bool false, .bool false] 59
    have q_5 := q_4.later az
    have g_5 := g_4.later az
    have r_5 := r_4.later az
    have p_5 := p_4.later az
    have b0_5 := below_trans b0_4 az
    clear q_4 g_4 r_4 p_4 b0_4 az
    go_upto_region 10 with fail
    generalize w3.alloc (.cells #[.bool false, .slice none 0 0, .int .i64 0, .bool false, .bool false, .bool false] 59) = W4 at q_5 g_5 r_5 p_5 s4 b0_5 ⊢
    generalize w3.heap.size = PB at s4 ⊢
    have x0 := p_5.cell 0 rfl
    have y0 := s4.cell 0 rfl
    have x1 := p_5.cell 1 rfl
    have y1 := s4.cell 1 rfl
    have x2 := p_5.cell 2 rfl
    have y2 := s4.cell 2 rfl
    have x3 := p_5.cell 3 rfl
    have y3 := s4.cell 3 rfl
    have x4 := p_5.cell 4 rfl
    have y4 := s4.cell 4 rfl
    have x5 := p_5.cell 5 rfl
    have y5 := s4.cell 5 rfl
    go_wp2_with fail
    refine (HBG.out _).mono ?_
    rintro z wb ⟨rfl, bbb⟩
    clear x0 x1 x2 x3 x4 x5 y0 y1 y2 y3 y4 y5
    have q_6 := q_5.later bbb
    have g_6 := g_5.later bbb
    have r_6 := r_5.later bbb
    have p_6 := p_5.later bbb
    have s_6 := s4.later bbb
    have b0_6 := below_trans b0_5 bbb
    clear q_5 g_5 r_5 p_5 s4 b0_5 bbb
    have x0 := p_6.cell 0 rfl
    have y0 := s_6.cell 0 rfl
    have x1 := p_6.cell 1 rfl
    have y1 := s_6.cell 1 rfl
    have x2 := p_6.cell 2 rfl
    have y2 := s_6.cell 2 rfl
    have x3 := p_6.cell 3 rfl
    have y3 := s_6.cell 3 rfl
    have x4 := p_6.cell 4 rfl
    have y4 := s_6.cell 4 rfl
    have x5 := p_6.cell 5 rfl
    have y5 := s_6.cell 5 rfl
    go_wp2_with fail
    refine (HSP.out _ _ _ _ _ _ _ r_6 (rd_nil _ _)).mono ?_
    rintro z wc ⟨rfl, bbc⟩
    have bE := below_trans b0_6 bbc
    go_wp2
    go_ret
    exact ⟨by simp, bE⟩
end Go.Proofs.Ytmjhlflemfkflaa

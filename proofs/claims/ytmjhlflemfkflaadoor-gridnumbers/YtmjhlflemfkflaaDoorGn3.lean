/-
  Grids: the walk of GridNumbers.
-/
import Derived.Test.YtmjhlflemfkflaaDoorGn2
namespace Go.Proofs.YtmjhlflemfkflaaDoor
open Go.RowKit

set_option maxRecDepth 100000 in
set_option maxHeartbeats 6400000 in
theorem gridNumbersW (R D L G : Int) (gr s : Bool) (ao : Option Addr) (la ca : Nat) (p : Int) (x1 x2 x3 : Bool) (wd nc gc c cw : Int) (far rs : Bool) (rn : Nat) (re : Int) (N : Nat) (bs : Bool) (bn : Nat) (be : Int) (w : World)
    (HA : ¬nc = 0 → cw = nc) (HB : nc = 0 → ¬gc = 0 → cw = gc) (HC : nc = 0 → gc = 0 → far = true → cw = 3) (HF1 : far = true → p < -20000 ∨ 20000 < p) (HF2 : far = false → ¬p < -20000 ∧ ¬20000 < p) (WP : far = false → IntKind.i64.wrap (wd * p) = wd * p)
    (HNU : ∀ w1, Below w.heap.size w w1 → Calls Tryd.prog 15 #[.agg #[.bool s, .slice ao la ca, .int .i64 p, .bool x1, .bool x2, .bool x3], .agg #[.int .i64 R, .int .i64 D, .int .i64 L, .int .i64 G, .bool gr]] w1 (DAns w1 (⟨rs, rn, re⟩, c)))
    (HCN : ∀ w1, Below w.heap.size w w1 → Calls Tryd.prog 16 #[.slice ao la ca] w1 fun z w' => z = .returned (.int .i64 nc) ∧ Below w1.heap.size w1 w')
    (HCG : ∀ w1, Calls Tryd.prog 17 #[.agg #[.int .i64 R, .int .i64 D, .int .i64 L, .int .i64 G, .bool gr]] w1 fun z w' => z = .returned (.int .i64 gc) ∧ Below w1.heap.size w1 w')
    (HOF : nc = 0 → gc = 0 → far = false → ∀ w1, Below w.heap.size w w1 → Calls Tryd.prog 19 #[.slice ao la ca] w1 (RNum w1 N))
    (HWI : ∀ w1, Calls Tryd.prog 20 #[.agg #[.int .i64 R, .int .i64 D, .int .i64 L, .int .i64 G, .bool gr]] w1 fun z w' => z = .returned (.int .i64 wd) ∧ Below w1.heap.size w1 w')
    (HBA : nc = 0 → gc = 0 → far = false → ∀ v w1, Rv w1 v ⟨s, N, wd * p⟩ → Calls Tryd.prog 18 #[v] w1 (RDRes w1 ⟨bs, bn, be⟩))
    (HBG : ∀ w1, Calls Tryd.prog 21 #[] w1 fun z w' => z = .returned (.bool true) ∧ Below w1.heap.size w1 w')
    (HDE : ¬(nc = 0 ∧ gc = 0 ∧ far = false) → ∀ so sc w1, Rd w1 .u32 (.slice so (Dg.dg 4294967296 rn).length sc) (Dg.dg 4294967296 rn) → Calls Tryd.prog 22 #[.agg #[.bool rs, .slice so (Dg.dg 4294967296 rn).length sc, .int .i64 re], .int .i64 c, .int .i64 cw, .agg #[.bool false, .slice none 0 0, .int .i64 0]] w1 fun z w' => z = .returned (.bool true) ∧ Below w1.heap.size w1 w')
    (HDF : nc = 0 → gc = 0 → far = false → ∀ so sc vo vc w1, Rd w1 .u32 (.slice so (Dg.dg 4294967296 rn).length sc) (Dg.dg 4294967296 rn) → Rd w1 .i64 (.slice vo (Dg.dg 65536 bn).length vc) (Dg.dg 65536 bn) → Calls Tryd.prog 22 #[.agg #[.bool rs, .slice so (Dg.dg 4294967296 rn).length sc, .int .i64 re], .int .i64 c, .int .i64 0, .agg #[.bool bs, .slice vo (Dg.dg 65536 bn).length vc, .int .i64 be]] w1 fun z w' => z = .returned (.bool true) ∧ Below w1.heap.size w1 w') :
    Calls Tryd.prog 4 #[.agg #[.bool s, .slice ao la ca, .int .i64 p, .bool x1, .bool x2, .bool x3], .agg #[.int .i64 R, .int .i64 D, .int .i64 L, .int .i64 G, .bool gr]] w fun z w' => z = .returned (.bool true) ∧ Below w.heap.size w w' := by
  replace WP : Hid _ := WP
  replace HA : Hid _ := HA
  replace HB : Hid _ := HB
  replace HC : Hid _ := HC
  replace HF1 : Hid _ := HF1
  replace HF2 : Hid _ := HF2
  replace HNU : Hid _ := HNU
  replace HCN : Hid _ := HCN
  replace HCG : Hid _ := HCG
  replace HOF : Hid _ := HOF
  replace HWI : Hid _ := HWI
  replace HBA : Hid _ := HBA
  replace HBG : Hid _ := HBG
  replace HDE : Hid _ := HDE
  replace HDF : Hid _ := HDF
  have b1 := below_trans (below_alloc w (.cells #[.bool s, .slice ao la ca, .int .i64 p, .bool x1, .bool x2, .bool x3] 37)) (below_alloc _ (.cells #[.int .i64 R, .int .i64 D, .int .i64 L, .int .i64 G, .bool gr] 39))
  have q1 := (locE_new w [.bool s, .slice ao la ca, .int .i64 p, .bool x1, .bool x2, .bool x3] 37).later (below_alloc _ (.cells #[.int .i64 R, .int .i64 D, .int .i64 L, .int .i64 G, .bool gr] 39))
  have g1 := locE_new (w.alloc (.cells #[.bool s, .slice ao la ca, .int .i64 p, .bool x1, .bool x2, .bool x3] 37)) [.int .i64 R, .int .i64 D, .int .i64 L, .int .i64 G, .bool gr] 39
  simp only [World.size_alloc] at g1
  by_cases hnc : nc = 0
  · have HB1 : Hid _ := HB.out hnc
    have HC1 : Hid _ := HC.out hnc
    have HO1 : Hid _ := HOF.out hnc
    have HT1 : Hid _ := HBA.out hnc
    have HQ1 : Hid _ := HDF.out hnc
    clear HA HB HC HOF HBA HDF
    by_cases hgc : gc = 0
    · have HC2 : Hid _ := HC1.out hgc
      have HO2 : Hid _ := HO1.out hgc
      have HT2 : Hid _ := HT1.out hgc
      have HQ2 : Hid _ := HQ1.out hgc
      clear HB1 HC1 HO1 HT1 HQ1
      cases far
      · have HO3 : Hid _ := HO2.out rfl
        have HT3 : Hid _ := HT2.out rfl
        have HQ3 : Hid _ := HQ2.out rfl
        obtain ⟨f1, f2⟩ := HF2.out rfl
        have wp := WP.out rfl
        clear WP
        clear HC2 HO2 HT2 HQ2 HDE HF1 HF2
        subst hnc hgc
        have e1 : decide (p < -20000) = false := decide_eq_false f1
        have e2 : decide (20000 < p) = false := decide_eq_false f2
        have y0 := q1.cell 0 rfl
        have y1 := q1.cell 1 rfl
        have y2 := q1.cell 2 rfl
        have y3 := q1.cell 3 rfl
        have y4 := q1.cell 4 rfl
        have y5 := q1.cell 5 rfl
        have z0 := g1.cell 0 rfl
        have z1 := g1.cell 1 rfl
        have z2 := g1.cell 2 rfl
        have z3 := g1.cell 3 rfl
        have z4 := g1.cell 4 rfl
        go_enter Tryd.func4, Tryd.ntmps4
        go_wp2_with fail
        refine (HNU.out _ b1).mono ?_
        rintro z w2 ⟨v2, rfl, o2, bb2⟩
        obtain ⟨so, sc, hx2⟩ := o2.rd.shape
        subst hx2
        have r2 := o2.rd
        clear y0 y1 y2 y3 y4 y5 z0 z1 z2 z3 z4 o2
        have q_2 := q1.later bb2
        have g_2 := g1.later bb2
        have b0_2 := below_trans b1 bb2
        clear q1 g1 b1 bb2
        have ap := below_alloc w2 (.cells #[.bool rs, .slice so (Dg.dg 4294967296 rn).length sc, .int .i64 re] 25)
        have p2 := locE_new w2 [.bool rs, .slice so (Dg.dg 4294967296 rn).length sc, .int .i64 re] 25
        have hPa : w.heap.size + 1 < w2.heap.size := g_2.lt
        have q_3 := q_2.later ap
        have g_3 := g_2.later ap
        have r_3 := r2.later ap
        have b0_3 := below_trans b0_2 ap
        clear q_2 g_2 r2 b0_2 ap
        go_upto_region 2 with fail
        generalize w2.alloc (.cells #[.bool rs, .slice so (Dg.dg 4294967296 rn).length sc, .int .i64 re] 25) = W2 at q_3 g_3 r_3 p2 b0_3 ⊢
        generalize w2.heap.size = PA at p2 hPa ⊢
        have y1 := q_3.cell 1 rfl
        go_wp2_with fail
        refine (HCN.out _ b0_3).mono ?_
        rintro z w3 ⟨rfl, bb4⟩
        have q_4 := q_3.later bb4
        have g_4 := g_3.later bb4
        have r_4 := r_3.later bb4
        have p_4 := p2.later bb4
        have b0_4 := below_trans b0_3 bb4
        clear q_3 g_3 r_3 p2 b0_3 bb4
        clear y1
        have z0 := g_4.cell 0 rfl
        have z1 := g_4.cell 1 rfl
        have z2 := g_4.cell 2 rfl
        have z3 := g_4.cell 3 rfl
        have z4 := g_4.cell 4 rfl
        go_wp2_with fail
        refine (HCG.out _).mono ?_
        rintro z w4 ⟨rfl, bb5⟩
        have q_5 := q_4.later bb5
        have g_5 := g_4.later bb5
        have r_5 := r_4.later bb5
        have p_5 := p_4.later bb5
        have b0_5 := below_trans b0_4 bb5
        clear q_4 g_4 r_4 p_4 b0_4 bb5
        clear z0 z1 z2 z3 z4
        have y2 := q_5.cell 2 rfl
        have az : Below w4.heap.size w4 (w4.alloc (.cells #[.bool false, .slice none 0 0, .int .i64 0] 46)) := below_alloc w4 (.cells #[.bool false, .slice none 0 0, .int .i64 0] 46)
        have s4 := locE_new w4 [.bool false, .slice none 0 0, .int .i64 0] 46
        have hPb : w.heap.size + 1 < w4.heap.size := g_5.lt
        have hAB : PA < w4.heap.size := p_5.lt
        have q_6 := q_5.later az
        have g_6 := g_5.later az
        have r_6 := r_5.later az
        have p_6 := p_5.later az
        have b0_6 := below_trans b0_5 az
        clear q_5 g_5 r_5 p_5 b0_5 az
        go_upto_region 8 with fail
        clear y2
        generalize w4.alloc (.cells #[.bool false, .slice none 0 0, .int .i64 0] 46) = W4 at q_6 g_6 r_6 p_6 s4 b0_6 ⊢
        generalize w4.heap.size = PB at s4 hPb hAB ⊢
        have bd_6 : Below W4.heap.size W4 W4.drew := (Below.refl _ _).drew
        have q_7 := q_6.later bd_6
        have g_7 := g_6.later bd_6
        have r_7 := r_6.later bd_6
        have p_7 := p_6.later bd_6
        have s_7 := s4.later bd_6
        have b0_7 := below_trans b0_6 bd_6
        clear q_6 g_6 r_6 p_6 s4 b0_6 bd_6
        have n1 : PB ≠ w.heap.size := by omega
        have n2 : PB ≠ w.heap.size + 1 := by omega
        have n3 : PA ≠ PB := by omega
        have y0 := q_7.cell 0 rfl
        have y1 := q_7.cell 1 rfl
        have y2 := q_7.cell 2 rfl
        have z0 := g_7.cell 0 rfl
        have z1 := g_7.cell 1 rfl
        have z2 := g_7.cell 2 rfl
        have z3 := g_7.cell 3 rfl
        have z4 := g_7.cell 4 rfl
        go_wp2_with fail
        go_region_held3 (fun wq => (wq.cell? ⟨w.heap.size, 0, none⟩ = some (.bool s) ∧ wq.cell? ⟨w.heap.size, 1, none⟩ = some (.slice ao la ca) ∧ wq.cell? ⟨w.heap.size, 2, none⟩ = some (.int .i64 p)) ∧ wq.cell? ⟨w.heap.size + 1, 0, none⟩ = some (.int .i64 R) ∧ wq.cell? ⟨w.heap.size + 1, 1, none⟩ = some (.int .i64 D) ∧ wq.cell? ⟨w.heap.size + 1, 2, none⟩ = some (.int .i64 L) ∧ wq.cell? ⟨w.heap.size + 1, 3, none⟩ = some (.int .i64 G) ∧ wq.cell? ⟨w.heap.size + 1, 4, none⟩ = some (.bool gr)) (go_keep) (first
          | (go_at_call 19; have hgd := b0_7; clear hgd; refine (HO3.out _ b0_7).mono ?_; rintro z wa ⟨v1, rfl, t1, bb_wa⟩; have b0_wa := below_trans b0_7 bb_wa; have q_wa := q_7.later bb_wa; have g_wa := g_7.later bb_wa; have r_wa := r_7.later bb_wa; have p_wa := p_7.later bb_wa; have s_wa := s_7.later bb_wa; have ya0 := q_wa.cell 0 rfl; have ya1 := q_wa.cell 1 rfl; have ya2 := q_wa.cell 2 rfl; have za0 := g_wa.cell 0 rfl; have za1 := g_wa.cell 1 rfl; have za2 := g_wa.cell 2 rfl; have za3 := g_wa.cell 3 rfl; have za4 := g_wa.cell 4 rfl; obtain ⟨no, nk, hv1⟩ := t1.shape; subst hv1; clear b0_7)
          | (go_at_call 20; have hgd := b0_wa; clear hgd; refine (HWI.out _).mono ?_; rintro z wb ⟨rfl, bb_wb⟩; have b0_wb := below_trans b0_wa bb_wb; have q_wb := q_wa.later bb_wb; have g_wb := g_wa.later bb_wb; have r_wb := r_wa.later bb_wb; have p_wb := p_wa.later bb_wb; have s_wb := s_wa.later bb_wb; have t_wb := t1.later bb_wb; have yb0 := q_wb.cell 0 rfl; have yb1 := q_wb.cell 1 rfl; have yb2 := q_wb.cell 2 rfl; have zb0 := g_wb.cell 0 rfl; have zb1 := g_wb.cell 1 rfl; have zb2 := g_wb.cell 2 rfl; have zb3 := g_wb.cell 3 rfl; have zb4 := g_wb.cell 4 rfl; clear b0_wa)
          | (go_at_call 18; have hgd := b0_wb; clear hgd; refine (HT3.out _ _ ⟨_, rfl, t_wb⟩).mono ?_; rintro z wx ⟨vt, rfl, rt, bb_wx⟩; have b0_wx := below_trans b0_wb bb_wx; have q_wx := q_wb.later bb_wx; have g_wx := g_wb.later bb_wx; have r_wx := r_wb.later bb_wx; have p_wx := p_wb.later bb_wx; have s_wx := s_wb.later bb_wx; have t_wx := t_wb.later bb_wx; have yx0 := q_wx.cell 0 rfl; have yx1 := q_wx.cell 1 rfl; have yx2 := q_wx.cell 2 rfl; have zx0 := g_wx.cell 0 rfl; have zx1 := g_wx.cell 1 rfl; have zx2 := g_wx.cell 2 rfl; have zx3 := g_wx.cell 3 rfl; have zx4 := g_wx.cell 4 rfl; obtain ⟨vo, vc, hvt⟩ := rt.shape; subst hvt; have d0 := s_wx.cell 0 rfl; have e0' := s_wx.free 0; have d1 := s_wx.cell 1 rfl; have e1' := s_wx.free 1; have d2 := s_wx.cell 2 rfl; have e2' := s_wx.free 2; clear b0_wb))
        go_goals
        go_upto_region 10 with fail
        have bu : But PB wx (((wx.setCell ⟨PB, 0, none⟩ (.bool bs)).setCell ⟨PB, 1, none⟩ (.slice vo (Dg.dg 65536 bn).length vc)).setCell ⟨PB, 2, none⟩ (.int .i64 be)) := ((but_set wx PB 0 (.bool bs)).trans (but_set _ PB 1 (.slice vo (Dg.dg 65536 bn).length vc))).trans (but_set _ PB 2 (.int .i64 be))
        have sX : LocE (((wx.setCell ⟨PB, 0, none⟩ (.bool bs)).setCell ⟨PB, 1, none⟩ (.slice vo (Dg.dg 65536 bn).length vc)).setCell ⟨PB, 2, none⟩ (.int .i64 be)) PB 46 [.bool bs, .slice vo (Dg.dg 65536 bn).length vc, .int .i64 be] := ((s_wx.set 0 (.bool bs)).set 1 (.slice vo (Dg.dg 65536 bn).length vc)).set 2 (.int .i64 be)
        have hz : ∀ x ∈ ([.bool false, .slice none 0 0, .int .i64 0] : List Value), ∀ n : Int, n ≠ 0 → x ≠ .int .i64 n := by simp; intro n hn h; exact hn h.symm
        have hu : ∀ x ∈ ([.bool false, .slice none 0 0, .int .i64 0] : List Value), ∀ n : Int, x ≠ .int .u32 n := by simp
        have tX := bu.rd rt (rd_offE rt (Dg.norm_dg _ _ (by omega)) s_wx hz)
        have rX := bu.rd r_wx (rd_offU r_wx s_wx hu)
        have pX := bu.loc p_wx n3
        have bX := bu.below b0_wx (show w.heap.size ≤ PB by omega)
        clear bu hz hu q_wx g_wx r_wx p_wx s_wx t_wx b0_wx rt
        generalize (((wx.setCell ⟨PB, 0, none⟩ (.bool bs)).setCell ⟨PB, 1, none⟩ (.slice vo (Dg.dg 65536 bn).length vc)).setCell ⟨PB, 2, none⟩ (.int .i64 be)) = WX at sX tX rX pX bX ⊢
        have x0 := pX.cell 0 rfl
        have y0 := sX.cell 0 rfl
        have x1 := pX.cell 1 rfl
        have y1 := sX.cell 1 rfl
        have x2 := pX.cell 2 rfl
        have y2 := sX.cell 2 rfl
        go_wp2_with fail
        refine (HBG.out _).mono ?_
        rintro z wb' ⟨rfl, bbb⟩
        clear x0 x1 x2 y0 y1 y2
        have s_41 := sX.later bbb
        have t_41 := tX.later bbb
        have r_41 := rX.later bbb
        have p_41 := pX.later bbb
        have b0_41 := below_trans bX bbb
        clear sX tX rX pX bX bbb
        have x0 := p_41.cell 0 rfl
        have y0 := s_41.cell 0 rfl
        have x1 := p_41.cell 1 rfl
        have y1 := s_41.cell 1 rfl
        have x2 := p_41.cell 2 rfl
        have y2 := s_41.cell 2 rfl
        go_wp2_with fail
        refine (HQ3.out _ _ _ _ _ r_41 t_41).mono ?_
        rintro z wc' ⟨rfl, bbc⟩
        have bE := below_trans b0_41 bbc
        go_wp2
        go_ret
        exact ⟨by simp, bE⟩
      · have hc := HC2.out rfl
        have HDX : Hid _ := HDE.out (fun c => by cases c.2.2)
        have hf := HF1.out rfl
        clear HC2 HO2 HT2 HQ2 HDE HF1 HF2
        subst hnc hgc hc
        rcases hf with hf | hf
        · skip
          have y0 := q1.cell 0 rfl
          have y1 := q1.cell 1 rfl
          have y2 := q1.cell 2 rfl
          have y3 := q1.cell 3 rfl
          have y4 := q1.cell 4 rfl
          have y5 := q1.cell 5 rfl
          have z0 := g1.cell 0 rfl
          have z1 := g1.cell 1 rfl
          have z2 := g1.cell 2 rfl
          have z3 := g1.cell 3 rfl
          have z4 := g1.cell 4 rfl
          go_enter Tryd.func4, Tryd.ntmps4
          go_wp2_with fail
          refine (HNU.out _ b1).mono ?_
          rintro z w2 ⟨v2, rfl, o2, bb2⟩
          obtain ⟨so, sc, hx2⟩ := o2.rd.shape
          subst hx2
          have r2 := o2.rd
          clear y0 y1 y2 y3 y4 y5 z0 z1 z2 z3 z4 o2
          have q_2 := q1.later bb2
          have g_2 := g1.later bb2
          have b0_2 := below_trans b1 bb2
          clear q1 g1 b1 bb2
          have ap := below_alloc w2 (.cells #[.bool rs, .slice so (Dg.dg 4294967296 rn).length sc, .int .i64 re] 25)
          have p2 := locE_new w2 [.bool rs, .slice so (Dg.dg 4294967296 rn).length sc, .int .i64 re] 25
          have hPa : w.heap.size + 1 < w2.heap.size := g_2.lt
          have q_3 := q_2.later ap
          have g_3 := g_2.later ap
          have r_3 := r2.later ap
          have b0_3 := below_trans b0_2 ap
          clear q_2 g_2 r2 b0_2 ap
          go_upto_region 2 with fail
          generalize w2.alloc (.cells #[.bool rs, .slice so (Dg.dg 4294967296 rn).length sc, .int .i64 re] 25) = W2 at q_3 g_3 r_3 p2 b0_3 ⊢
          generalize w2.heap.size = PA at p2 hPa ⊢
          have y1 := q_3.cell 1 rfl
          go_wp2_with fail
          refine (HCN.out _ b0_3).mono ?_
          rintro z w3 ⟨rfl, bb4⟩
          have q_4 := q_3.later bb4
          have g_4 := g_3.later bb4
          have r_4 := r_3.later bb4
          have p_4 := p2.later bb4
          have b0_4 := below_trans b0_3 bb4
          clear q_3 g_3 r_3 p2 b0_3 bb4
          clear y1
          have z0 := g_4.cell 0 rfl
          have z1 := g_4.cell 1 rfl
          have z2 := g_4.cell 2 rfl
          have z3 := g_4.cell 3 rfl
          have z4 := g_4.cell 4 rfl
          go_wp2_with fail
          refine (HCG.out _).mono ?_
          rintro z w4 ⟨rfl, bb5⟩
          have q_5 := q_4.later bb5
          have g_5 := g_4.later bb5
          have r_5 := r_4.later bb5
          have p_5 := p_4.later bb5
          have b0_5 := below_trans b0_4 bb5
          clear q_4 g_4 r_4 p_4 b0_4 bb5
          clear z0 z1 z2 z3 z4
          have y2 := q_5.cell 2 rfl
          have az := below_alloc w4 (.cells #[.bool false, .slice none 0 0, .int .i64 0] 46)
          have s4 := locE_new w4 [.bool false, .slice none 0 0, .int .i64 0] 46
          have q_6 := q_5.later az
          have g_6 := g_5.later az
          have r_6 := r_5.later az
          have p_6 := p_5.later az
          have b0_6 := below_trans b0_5 az
          clear q_5 g_5 r_5 p_5 b0_5 az
          go_upto_region 10 with fail
          generalize w4.alloc (.cells #[.bool false, .slice none 0 0, .int .i64 0] 46) = W4 at q_6 g_6 r_6 p_6 s4 b0_6 ⊢
          generalize w4.heap.size = PB at s4 ⊢
          have x0 := p_6.cell 0 rfl
          have y0 := s4.cell 0 rfl
          have x1 := p_6.cell 1 rfl
          have y1 := s4.cell 1 rfl
          have x2 := p_6.cell 2 rfl
          have y2 := s4.cell 2 rfl
          go_wp2_with fail
          refine (HBG.out _).mono ?_
          rintro z wb' ⟨rfl, bbb⟩
          clear x0 x1 x2 y0 y1 y2
          have q_7 := q_6.later bbb
          have g_7 := g_6.later bbb
          have r_7 := r_6.later bbb
          have p_7 := p_6.later bbb
          have s_7 := s4.later bbb
          have b0_7 := below_trans b0_6 bbb
          clear q_6 g_6 r_6 p_6 s4 b0_6 bbb
          have x0 := p_7.cell 0 rfl
          have y0 := s_7.cell 0 rfl
          have x1 := p_7.cell 1 rfl
          have y1 := s_7.cell 1 rfl
          have x2 := p_7.cell 2 rfl
          have y2 := s_7.cell 2 rfl
          go_wp2_with fail
          refine (HDX.out _ _ _ r_7).mono ?_
          rintro z wc' ⟨rfl, bbc⟩
          have bE := below_trans b0_7 bbc
          go_wp2
          go_ret
          exact ⟨by simp, bE⟩
        · have e1 : decide (p < -20000) = false := decide_eq_false (by omega)
          have y0 := q1.cell 0 rfl
          have y1 := q1.cell 1 rfl
          have y2 := q1.cell 2 rfl
          have y3 := q1.cell 3 rfl
          have y4 := q1.cell 4 rfl
          have y5 := q1.cell 5 rfl
          have z0 := g1.cell 0 rfl
          have z1 := g1.cell 1 rfl
          have z2 := g1.cell 2 rfl
          have z3 := g1.cell 3 rfl
          have z4 := g1.cell 4 rfl
          go_enter Tryd.func4, Tryd.ntmps4
          go_wp2_with fail
          refine (HNU.out _ b1).mono ?_
          rintro z w2 ⟨v2, rfl, o2, bb2⟩
          obtain ⟨so, sc, hx2⟩ := o2.rd.shape
          subst hx2
          have r2 := o2.rd
          clear y0 y1 y2 y3 y4 y5 z0 z1 z2 z3 z4 o2
          have q_2 := q1.later bb2
          have g_2 := g1.later bb2
          have b0_2 := below_trans b1 bb2
          clear q1 g1 b1 bb2
          have ap := below_alloc w2 (.cells #[.bool rs, .slice so (Dg.dg 4294967296 rn).length sc, .int .i64 re] 25)
          have p2 := locE_new w2 [.bool rs, .slice so (Dg.dg 4294967296 rn).length sc, .int .i64 re] 25
          have hPa : w.heap.size + 1 < w2.heap.size := g_2.lt
          have q_3 := q_2.later ap
          have g_3 := g_2.later ap
          have r_3 := r2.later ap
          have b0_3 := below_trans b0_2 ap
          clear q_2 g_2 r2 b0_2 ap
          go_upto_region 2 with fail
          generalize w2.alloc (.cells #[.bool rs, .slice so (Dg.dg 4294967296 rn).length sc, .int .i64 re] 25) = W2 at q_3 g_3 r_3 p2 b0_3 ⊢
          generalize w2.heap.size = PA at p2 hPa ⊢
          have y1 := q_3.cell 1 rfl
          go_wp2_with fail
          refine (HCN.out _ b0_3).mono ?_
          rintro z w3 ⟨rfl, bb4⟩
          have q_4 := q_3.later bb4
          have g_4 := g_3.later bb4
          have r_4 := r_3.later bb4
          have p_4 := p2.later bb4
          have b0_4 := below_trans b0_3 bb4
          clear q_3 g_3 r_3 p2 b0_3 bb4
          clear y1
          have z0 := g_4.cell 0 rfl
          have z1 := g_4.cell 1 rfl
          have z2 := g_4.cell 2 rfl
          have z3 := g_4.cell 3 rfl
          have z4 := g_4.cell 4 rfl
          go_wp2_with fail
          refine (HCG.out _).mono ?_
          rintro z w4 ⟨rfl, bb5⟩
          have q_5 := q_4.later bb5
          have g_5 := g_4.later bb5
          have r_5 := r_4.later bb5
          have p_5 := p_4.later bb5
          have b0_5 := below_trans b0_4 bb5
          clear q_4 g_4 r_4 p_4 b0_4 bb5
          clear z0 z1 z2 z3 z4
          have y2 := q_5.cell 2 rfl
          have az := below_alloc w4 (.cells #[.bool false, .slice none 0 0, .int .i64 0] 46)
          have s4 := locE_new w4 [.bool false, .slice none 0 0, .int .i64 0] 46
          have q_6 := q_5.later az
          have g_6 := g_5.later az
          have r_6 := r_5.later az
          have p_6 := p_5.later az
          have b0_6 := below_trans b0_5 az
          clear q_5 g_5 r_5 p_5 b0_5 az
          go_upto_region 10 with fail
          generalize w4.alloc (.cells #[.bool false, .slice none 0 0, .int .i64 0] 46) = W4 at q_6 g_6 r_6 p_6 s4 b0_6 ⊢
          generalize w4.heap.size = PB at s4 ⊢
          have x0 := p_6.cell 0 rfl
          have y0 := s4.cell 0 rfl
          have x1 := p_6.cell 1 rfl
          have y1 := s4.cell 1 rfl
          have x2 := p_6.cell 2 rfl
          have y2 := s4.cell 2 rfl
          go_wp2_with fail
          refine (HBG.out _).mono ?_
          rintro z wb' ⟨rfl, bbb⟩
          clear x0 x1 x2 y0 y1 y2
          have q_7 := q_6.later bbb
          have g_7 := g_6.later bbb
          have r_7 := r_6.later bbb
          have p_7 := p_6.later bbb
          have s_7 := s4.later bbb
          have b0_7 := below_trans b0_6 bbb
          clear q_6 g_6 r_6 p_6 s4 b0_6 bbb
          have x0 := p_7.cell 0 rfl
          have y0 := s_7.cell 0 rfl
          have x1 := p_7.cell 1 rfl
          have y1 := s_7.cell 1 rfl
          have x2 := p_7.cell 2 rfl
          have y2 := s_7.cell 2 rfl
          go_wp2_with fail
          refine (HDX.out _ _ _ r_7).mono ?_
          rintro z wc' ⟨rfl, bbc⟩
          have bE := below_trans b0_7 bbc
          go_wp2
          go_ret
          exact ⟨by simp, bE⟩
    · have hc := HB1.out hgc
      have HDX : Hid _ := HDE.out (fun c => hgc c.2.1)
      clear HB1 HC1 HO1 HT1 HQ1 HDE
      have hgf : (gc == 0) = false := by simp [hgc]
      subst hnc hc
      have y0 := q1.cell 0 rfl
      have y1 := q1.cell 1 rfl
      have y2 := q1.cell 2 rfl
      have y3 := q1.cell 3 rfl
      have y4 := q1.cell 4 rfl
      have y5 := q1.cell 5 rfl
      have z0 := g1.cell 0 rfl
      have z1 := g1.cell 1 rfl
      have z2 := g1.cell 2 rfl
      have z3 := g1.cell 3 rfl
      have z4 := g1.cell 4 rfl
      go_enter Tryd.func4, Tryd.ntmps4
      go_wp2_with fail
      refine (HNU.out _ b1).mono ?_
      rintro z w2 ⟨v2, rfl, o2, bb2⟩
      obtain ⟨so, sc, hx2⟩ := o2.rd.shape
      subst hx2
      have r2 := o2.rd
      clear y0 y1 y2 y3 y4 y5 z0 z1 z2 z3 z4 o2
      have q_2 := q1.later bb2
      have g_2 := g1.later bb2
      have b0_2 := below_trans b1 bb2
      clear q1 g1 b1 bb2
      have ap := below_alloc w2 (.cells #[.bool rs, .slice so (Dg.dg 4294967296 rn).length sc, .int .i64 re] 25)
      have p2 := locE_new w2 [.bool rs, .slice so (Dg.dg 4294967296 rn).length sc, .int .i64 re] 25
      have hPa : w.heap.size + 1 < w2.heap.size := g_2.lt
      have q_3 := q_2.later ap
      have g_3 := g_2.later ap
      have r_3 := r2.later ap
      have b0_3 := below_trans b0_2 ap
      clear q_2 g_2 r2 b0_2 ap
      go_upto_region 2 with fail
      generalize w2.alloc (.cells #[.bool rs, .slice so (Dg.dg 4294967296 rn).length sc, .int .i64 re] 25) = W2 at q_3 g_3 r_3 p2 b0_3 ⊢
      generalize w2.heap.size = PA at p2 hPa ⊢
      have y1 := q_3.cell 1 rfl
      go_wp2_with fail
      refine (HCN.out _ b0_3).mono ?_
      rintro z w3 ⟨rfl, bb4⟩
      have q_4 := q_3.later bb4
      have g_4 := g_3.later bb4
      have r_4 := r_3.later bb4
      have p_4 := p2.later bb4
      have b0_4 := below_trans b0_3 bb4
      clear q_3 g_3 r_3 p2 b0_3 bb4
      clear y1
      have z0 := g_4.cell 0 rfl
      have z1 := g_4.cell 1 rfl
      have z2 := g_4.cell 2 rfl
      have z3 := g_4.cell 3 rfl
      have z4 := g_4.cell 4 rfl
      go_wp2_with fail
      refine (HCG.out _).mono ?_
      rintro z w4 ⟨rfl, bb5⟩
      have q_5 := q_4.later bb5
      have g_5 := g_4.later bb5
      have r_5 := r_4.later bb5
      have p_5 := p_4.later bb5
      have b0_5 := below_trans b0_4 bb5
      clear q_4 g_4 r_4 p_4 b0_4 bb5
      clear z0 z1 z2 z3 z4
      have az := below_alloc w4 (.cells #[.bool false, .slice none 0 0, .int .i64 0] 46)
      have s4 := locE_new w4 [.bool false, .slice none 0 0, .int .i64 0] 46
      have q_6 := q_5.later az
      have g_6 := g_5.later az
      have r_6 := r_5.later az
      have p_6 := p_5.later az
      have b0_6 := below_trans b0_5 az
      clear q_5 g_5 r_5 p_5 b0_5 az
      go_upto_region 10 with fail
      generalize w4.alloc (.cells #[.bool false, .slice none 0 0, .int .i64 0] 46) = W4 at q_6 g_6 r_6 p_6 s4 b0_6 ⊢
      generalize w4.heap.size = PB at s4 ⊢
      have x0 := p_6.cell 0 rfl
      have y0 := s4.cell 0 rfl
      have x1 := p_6.cell 1 rfl
      have y1 := s4.cell 1 rfl
      have x2 := p_6.cell 2 rfl
      have y2 := s4.cell 2 rfl
      go_wp2_with fail
      refine (HBG.out _).mono ?_
      rintro z wb' ⟨rfl, bbb⟩
      clear x0 x1 x2 y0 y1 y2
      have q_7 := q_6.later bbb
      have g_7 := g_6.later bbb
      have r_7 := r_6.later bbb
      have p_7 := p_6.later bbb
      have s_7 := s4.later bbb
      have b0_7 := below_trans b0_6 bbb
      clear q_6 g_6 r_6 p_6 s4 b0_6 bbb
      have x0 := p_7.cell 0 rfl
      have y0 := s_7.cell 0 rfl
      have x1 := p_7.cell 1 rfl
      have y1 := s_7.cell 1 rfl
      have x2 := p_7.cell 2 rfl
      have y2 := s_7.cell 2 rfl
      go_wp2_with fail
      refine (HDX.out _ _ _ r_7).mono ?_
      rintro z wc' ⟨rfl, bbc⟩
      have bE := below_trans b0_7 bbc
      go_wp2
      go_ret
      exact ⟨by simp, bE⟩
  · have hc := HA.out hnc
    have HDX : Hid _ := HDE.out (fun c => hnc c.1)
    clear HA HB HC HOF HBA HDF HDE
    have hnf : (nc == 0) = false := by simp [hnc]
    subst hc
    have y0 := q1.cell 0 rfl
    have y1 := q1.cell 1 rfl
    have y2 := q1.cell 2 rfl
    have y3 := q1.cell 3 rfl
    have y4 := q1.cell 4 rfl
    have y5 := q1.cell 5 rfl
    have z0 := g1.cell 0 rfl
    have z1 := g1.cell 1 rfl
    have z2 := g1.cell 2 rfl
    have z3 := g1.cell 3 rfl
    have z4 := g1.cell 4 rfl
    go_enter Tryd.func4, Tryd.ntmps4
    go_wp2_with fail
    refine (HNU.out _ b1).mono ?_
    rintro z w2 ⟨v2, rfl, o2, bb2⟩
    obtain ⟨so, sc, hx2⟩ := o2.rd.shape
    subst hx2
    have r2 := o2.rd
    clear y0 y1 y2 y3 y4 y5 z0 z1 z2 z3 z4 o2
    have q_2 := q1.later bb2
    have g_2 := g1.later bb2
    have b0_2 := below_trans b1 bb2
    clear q1 g1 b1 bb2
    have ap := below_alloc w2 (.cells #[.bool rs, .slice so (Dg.dg 4294967296 rn).length sc, .int .i64 re] 25)
    have p2 := locE_new w2 [.bool rs, .slice so (Dg.dg 4294967296 rn).length sc, .int .i64 re] 25
    have hPa : w.heap.size + 1 < w2.heap.size := g_2.lt
    have q_3 := q_2.later ap
    have g_3 := g_2.later ap
    have r_3 := r2.later ap
    have b0_3 := below_trans b0_2 ap
    clear q_2 g_2 r2 b0_2 ap
    go_upto_region 2 with fail
    generalize w2.alloc (.cells #[.bool rs, .slice so (Dg.dg 4294967296 rn).length sc, .int .i64 re] 25) = W2 at q_3 g_3 r_3 p2 b0_3 ⊢
    generalize w2.heap.size = PA at p2 hPa ⊢
    have y1 := q_3.cell 1 rfl
    go_wp2_with fail
    refine (HCN.out _ b0_3).mono ?_
    rintro z w3 ⟨rfl, bb4⟩
    have q_4 := q_3.later bb4
    have g_4 := g_3.later bb4
    have r_4 := r_3.later bb4
    have p_4 := p2.later bb4
    have b0_4 := below_trans b0_3 bb4
    clear q_3 g_3 r_3 p2 b0_3 bb4
    clear y1
    have az := below_alloc w3 (.cells #[.bool false, .slice none 0 0, .int .i64 0] 46)
    have s4 := locE_new w3 [.bool false, .slice none 0 0, .int .i64 0] 46
    have q_5 := q_4.later az
    have g_5 := g_4.later az
    have r_5 := r_4.later az
    have p_5 := p_4.later az
    have b0_5 := below_trans b0_4 az
    clear q_4 g_4 r_4 p_4 b0_4 az
    go_upto_region 10 with fail
    generalize w3.alloc (.cells #[.bool false, .slice none 0 0, .int .i64 0] 46) = W4 at q_5 g_5 r_5 p_5 s4 b0_5 ⊢
    generalize w3.heap.size = PB at s4 ⊢
    have x0 := p_5.cell 0 rfl
    have y0 := s4.cell 0 rfl
    have x1 := p_5.cell 1 rfl
    have y1 := s4.cell 1 rfl
    have x2 := p_5.cell 2 rfl
    have y2 := s4.cell 2 rfl
    go_wp2_with fail
    refine (HBG.out _).mono ?_
    rintro z wb' ⟨rfl, bbb⟩
    clear x0 x1 x2 y0 y1 y2
    have q_6 := q_5.later bbb
    have g_6 := g_5.later bbb
    have r_6 := r_5.later bbb
    have p_6 := p_5.later bbb
    have s_6 := s4.later bbb
    have b0_6 := below_trans b0_5 bbb
    clear q_5 g_5 r_5 p_5 s4 b0_5 bbb
    have x0 := p_6.cell 0 rfl
    have y0 := s_6.cell 0 rfl
    have x1 := p_6.cell 1 rfl
    have y1 := s_6.cell 1 rfl
    have x2 := p_6.cell 2 rfl
    have y2 := s_6.cell 2 rfl
    go_wp2_with fail
    refine (HDX.out _ _ _ r_6).mono ?_
    rintro z wc' ⟨rfl, bbc⟩
    have bE := below_trans b0_6 bbc
    go_wp2
    go_ret
    exact ⟨by simp, bE⟩
end Go.Proofs.YtmjhlflemfkflaaDoor

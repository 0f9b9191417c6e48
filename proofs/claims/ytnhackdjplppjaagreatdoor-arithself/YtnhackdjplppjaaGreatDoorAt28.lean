/-
  Texts laid together: Gh5, Gn1, Gn2, Dn2, Gk3, Gh6, Gh7, Gk6.
-/
import Derived.Test.YtnhackdjplppjaaGreatDoorAt27
import Derived.Test.YtnhackdjplppjaaGreatDoorAt26
set_option maxRecDepth 100000
namespace Go.Proofs.YtnhackdjplppjaaGreatDoor
open Go.RowKit
def ansH (xs : List Nat) (e R D L G : Int) (gr : Bool) : Bool := if onC (dchk xs e) (gridC R D L G) = 0 then heldB R D L G gr (Dg.vl 4294967296 xs) e else false
def ansD (xs : List Nat) (e R D L G : Int) (gr : Bool) : Nat := if onC (dchk xs e) (gridC R D L G) = 0 then fD R D L G gr (Dg.vl 4294967296 xs) e else 0
def ansK (xs : List Nat) (e R D L G : Int) (gr : Bool) : Int := if onC (dchk xs e) (gridC R D L G) = 0 then fK R D L G gr (Dg.vl 4294967296 xs) e else 0
theorem gfind_any (R D L G : Int) (gr s : Bool) (ao : Option Addr) (ca : Nat) (xs : List Nat) (e : Int) (w : World) (hr : Rd w .u32 (.slice ao xs.length ca) xs) (sa : Dg.Small 4294967296 xs) (hT : Tab w) :
  Calls Tryz.prog 106 #[.agg #[.bool s, .slice ao xs.length ca, .int .i64 e], .agg #[.int .i64 R, .int .i64 D, .int .i64 L, .int .i64 G, .bool gr]] w (FindAns w (ansH xs e R D L G gr) (ansD xs e R D L G gr) (ansK xs e R D L G gr) (onC (dchk xs e) (gridC R D L G))) := by
 have herr : ¬onC (dchk xs e) (gridC R D L G) = 0 → ansH xs e R D L G gr = false ∧ ansD xs e R D L G gr = 0 ∧ ansK xs e R D L G gr = 0 := fun h => ⟨if_neg h, if_neg h, if_neg h⟩
 refine gfindW R D L G gr s ao _ ca e (dchk xs e) (gridC R D L G) _ _ _ _ w ?_ ?_ ?_ ?_ ?_ ?_ ?_
 ·intro h
  have h1 : onC (dchk xs e) (gridC R D L G) = dchk xs e := if_neg h
  obtain ⟨a, b, c⟩ := herr (by rw [h1]; exact h)
  exact ⟨a, b, c, h1⟩
 ·intro h h2
  have h1 : onC (dchk xs e) (gridC R D L G) = gridC R D L G := if_pos h
  obtain ⟨a, b, c⟩ := herr (by rw [h1]; exact h2)
  exact ⟨a, b, c, h1⟩
 ·intro h h2
  exact (if_pos h).trans h2
 ·intro w1 b
  exact dcheck_any s ao ca xs e w1 (hr.later b)
 ·intro w1
  exact gcheck_any R D L G gr w1
 ·intro w1
  exact of_dy s ao _ ca e w1
 ·intro h h2 w1 b
  have h1 : onC (dchk xs e) (gridC R D L G) = 0 := (if_pos h).trans h2
  rw [show ansH xs e R D L G gr = _ from if_pos h1, show ansD xs e R D L G gr = _ from if_pos h1, show ansK xs e R D L G gr = _ from if_pos h1]
  obtain ⟨c1, e1, e2⟩ := dchk_zero h
  obtain ⟨n1, l1⟩ := chk_zero c1
  have ex : Dg.dg 4294967296 (Dg.vl 4294967296 xs) = xs := Dg.dg_vl _ (by omega) _ sa n1
  have := mfind_any R D L G gr s ao ca (Dg.vl 4294967296 xs) e w1 h2 (by rw [ex]; exact hr.later b) (by rw [ex]; exact l1) e1 e2 (hT.later b)
  rwa [ex] at this
end Go.Proofs.YtnhackdjplppjaaGreatDoor
namespace Go.Proofs.YtnhackdjplppjaaGreatDoor
open Go.RowKit
set_option maxHeartbeats 1600000 in
theorem gnumberW (R D L G : Int) (gr ng : Bool) (ao : Option Addr) (la ca : Nat) (p wd : Int) (w : World) (WP : IntKind.i64.wrap (wd * p) = wd * p)
  (HW : ∀ w1, Calls Tryz.prog 160 #[.agg #[.int .i64 R, .int .i64 D, .int .i64 L, .int .i64 G, .bool gr]] w1 fun z w' => z = .returned (.int .i64 wd) ∧ Below w1.heap.size w1 w') :
  Calls Tryz.prog 104 #[.agg #[.int .i64 R, .int .i64 D, .int .i64 L, .int .i64 G, .bool gr], .bool ng, .agg #[.slice ao la ca, .int .i64 p]] w fun z w' => z = .returned (.agg #[.bool ng, .slice ao la ca, .int .i64 (wd * p)]) ∧ Below w.heap.size w w' := by
 replace HW : Hid _ := HW
 have HN : Hid (∀ w1, Calls Tryz.prog 159 #[.bool ng, .slice ao la ca, .int .i64 (wd * p)] w1 fun x w' => x = .returned (.agg #[.bool ng, .slice ao la ca, .int .i64 (wd * p)]) ∧ Below w1.heap.size w1 w') := fun w1 => new_any ng ao la ca (wd * p) w1
 have b1 := below_trans (below_trans (below_alloc w (.cells #[.int .i64 R, .int .i64 D, .int .i64 L, .int .i64 G, .bool gr] 159)) (below_alloc _ (.cells #[.slice ao la ca, .int .i64 p] 163))) (below_alloc _ (.cells #[.bool false, .slice none 0 0, .int .i64 0] 96))
 have g1 := ((locE_new w [.int .i64 R, .int .i64 D, .int .i64 L, .int .i64 G, .bool gr] 159).later (below_alloc _ (.cells #[.slice ao la ca, .int .i64 p] 163))).later (below_alloc _ (.cells #[.bool false, .slice none 0 0, .int .i64 0] 96))
 have s1 := (locE_new (w.alloc (.cells #[.int .i64 R, .int .i64 D, .int .i64 L, .int .i64 G, .bool gr] 159)) [.slice ao la ca, .int .i64 p] 163).later (below_alloc _ (.cells #[.bool false, .slice none 0 0, .int .i64 0] 96))
 have c1 := locE_new ((w.alloc (.cells #[.int .i64 R, .int .i64 D, .int .i64 L, .int .i64 G, .bool gr] 159)).alloc (.cells #[.slice ao la ca, .int .i64 p] 163)) [.bool false, .slice none 0 0, .int .i64 0] 96
 simp only [World.size_alloc] at s1 c1
 have g_2 := g1.later ((Below.refl _ _).drew)
 have s_2 := s1.later ((Below.refl _ _).drew)
 have c_2 := c1.later ((Below.refl _ _).drew)
 have b0_2 := below_trans b1 ((Below.refl _ _).drew)
 clear g1 s1 c1 b1
 obtain ⟨x0, x1, x2, x3, x4⟩ := g_2.cs5
 obtain ⟨y0, y1⟩ := s_2.cs2
 have nA : w.heap.size + 1 + 1 ≠ w.heap.size := by omega
 have nB : w.heap.size + 1 + 1 ≠ w.heap.size + 1 := by omega
 go_enter Tryz.func104, Tryz.ntmps104
 go_wp2_with fail
 go_region_held3 (fun wq => wq.cell? ⟨w.heap.size, 0, none⟩ = some (.int .i64 R) ∧ wq.cell? ⟨w.heap.size, 1, none⟩ = some (.int .i64 D) ∧ wq.cell? ⟨w.heap.size, 2, none⟩ = some (.int .i64 L) ∧ wq.cell? ⟨w.heap.size, 3, none⟩ = some (.int .i64 G) ∧ wq.cell? ⟨w.heap.size, 4, none⟩ = some (.bool gr) ∧ wq.cell? ⟨w.heap.size + 1, 0, none⟩ = some (.slice ao la ca) ∧ wq.cell? ⟨w.heap.size + 1, 1, none⟩ = some (.int .i64 p)) (go_keep) (first
  | (go_at_call 160; have hgd := b0_2; clear hgd; refine (HW.out _).mono ?_; rintro z wa ⟨rfl, bb_wa⟩; have b0_wa := below_trans b0_2 bb_wa; have g_wa := g_2.later bb_wa; have s_wa := s_2.later bb_wa; have c_wa := c_2.later bb_wa; obtain ⟨xa0, xa1, xa2, xa3, xa4⟩ := g_wa.cs5; obtain ⟨ya0, ya1⟩ := s_wa.cs2; clear b0_2)
  | (go_at_call 159; have hgd := b0_wa; clear hgd; refine (HN.out _).mono ?_; rintro z wb ⟨rfl, bb_wb⟩; have b0_wb := below_trans b0_wa bb_wb; have g_wb := g_wa.later bb_wb; have s_wb := s_wa.later bb_wb; have c_wb := c_wa.later bb_wb; obtain ⟨xb0, xb1, xb2, xb3, xb4⟩ := g_wb.cs5; obtain ⟨yb0, yb1⟩ := s_wb.cs2; have z0 := c_wb.cell 0 rfl; have e0 := c_wb.free 0; have z1 := c_wb.cell 1 rfl; have e1 := c_wb.free 1; have z2 := c_wb.cell 2 rfl; have e2 := c_wb.free 2; clear b0_wa))
 all_goals go_wp2
 have bu : But (w.heap.size + 1 + 1) wb (((wb.setCell ⟨w.heap.size + 1 + 1, 0, none⟩ (.bool ng)).setCell ⟨w.heap.size + 1 + 1, 1, none⟩ (.slice ao la ca)).setCell ⟨w.heap.size + 1 + 1, 2, none⟩ (.int .i64 (wd * p))) := ((but_set wb (w.heap.size + 1 + 1) 0 (.bool ng)).trans (but_set _ (w.heap.size + 1 + 1) 1 (.slice ao la ca))).trans (but_set _ (w.heap.size + 1 + 1) 2 (.int .i64 (wd * p)))
 have cX : LocE (((wb.setCell ⟨w.heap.size + 1 + 1, 0, none⟩ (.bool ng)).setCell ⟨w.heap.size + 1 + 1, 1, none⟩ (.slice ao la ca)).setCell ⟨w.heap.size + 1 + 1, 2, none⟩ (.int .i64 (wd * p))) (w.heap.size + 1 + 1) 96 [.bool ng, .slice ao la ca, .int .i64 (wd * p)] := ((c_wb.set 0 (.bool ng)).set 1 (.slice ao la ca)).set 2 (.int .i64 (wd * p))
 have bX := bu.below b0_wb (show w.heap.size ≤ w.heap.size + 1 + 1 by omega)
 obtain ⟨s0, s1, s2⟩ := cX.cs3
 refine bodyPost_ret (v := .agg #[.bool ng, .slice ao la ca, .int .i64 (wd * p)]) (by simp [results, Tryz.results104, go_sem, s0, s1, s2]) rfl ?_
 exact ⟨rfl, bX⟩
set_option maxHeartbeats 3200000 in
theorem gNumberW (R D L G : Int) (gr s : Bool) (ao : Option Addr) (la ca : Nat) (p : Int) (x1 x2 x3 : Bool) (wd nc gc c : Int) (far rs : Bool) (rn : Nat) (re : Int) (w : World)
  (HA : ¬nc = 0 → rs = false ∧ rn = 0 ∧ re = 0 ∧ c = nc) (HB : nc = 0 → ¬gc = 0 → rs = false ∧ rn = 0 ∧ re = 0 ∧ c = gc) (HC : nc = 0 → gc = 0 → far = true → rs = false ∧ rn = 0 ∧ re = 0 ∧ c = 3)
  (HN : ∀ w1, Below w.heap.size w w1 → Calls Tryz.prog 98 #[.slice ao la ca] w1 fun z w' => z = .returned (.int .i64 nc) ∧ Below w1.heap.size w1 w')
  (HG : ∀ w1, Calls Tryz.prog 102 #[.agg #[.int .i64 R, .int .i64 D, .int .i64 L, .int .i64 G, .bool gr]] w1 fun z w' => z = .returned (.int .i64 gc) ∧ Below w1.heap.size w1 w')
  (HF : ∀ w1, Calls Tryz.prog 103 #[.int .i64 p, .int .i64 20000] w1 fun z w' => z = .returned (.bool far) ∧ w' = w1)
  (HM : nc = 0 → gc = 0 → far = false → ∀ w1, Calls Tryz.prog 104 #[.agg #[.int .i64 R, .int .i64 D, .int .i64 L, .int .i64 G, .bool gr], .bool s, .agg #[.slice ao la ca, .int .i64 p]] w1 fun z w' => z = .returned (.agg #[.bool s, .slice ao la ca, .int .i64 (wd * p)]) ∧ Below w1.heap.size w1 w')
  (HS : nc = 0 → gc = 0 → far = false → ∀ w1, Below w.heap.size w w1 → Calls Tryz.prog 105 #[.agg #[.bool s, .slice ao la ca, .int .i64 (wd * p)]] w1 (DAns w1 (⟨rs, rn, re⟩, c))) :
  Calls Tryz.prog 51 #[.agg #[.bool s, .slice ao la ca, .int .i64 p, .bool x1, .bool x2, .bool x3], .agg #[.int .i64 R, .int .i64 D, .int .i64 L, .int .i64 G, .bool gr]] w (DAns w (⟨rs, rn, re⟩, c)) := by
 replace HA : Hid _ := HA
 replace HB : Hid _ := HB
 replace HC : Hid _ := HC
 replace HN : Hid _ := HN
 replace HG : Hid _ := HG
 replace HF : Hid _ := HF
 replace HM : Hid _ := HM
 replace HS : Hid _ := HS
 have b1 := below_trans (below_trans (below_alloc w (.cells #[.bool s, .slice ao la ca, .int .i64 p, .bool x1, .bool x2, .bool x3] 86)) (below_alloc _ (.cells #[.int .i64 R, .int .i64 D, .int .i64 L, .int .i64 G, .bool gr] 56))) (below_alloc _ (.cells #[.bool false, .slice none 0 0, .int .i64 0] 82))
 have q1 := ((locE_new w [.bool s, .slice ao la ca, .int .i64 p, .bool x1, .bool x2, .bool x3] 86).later (below_alloc _ (.cells #[.int .i64 R, .int .i64 D, .int .i64 L, .int .i64 G, .bool gr] 56))).later (below_alloc _ (.cells #[.bool false, .slice none 0 0, .int .i64 0] 82))
 have g1 := (locE_new (w.alloc (.cells #[.bool s, .slice ao la ca, .int .i64 p, .bool x1, .bool x2, .bool x3] 86)) [.int .i64 R, .int .i64 D, .int .i64 L, .int .i64 G, .bool gr] 56).later (below_alloc _ (.cells #[.bool false, .slice none 0 0, .int .i64 0] 82))
 have c1 := locE_new ((w.alloc (.cells #[.bool s, .slice ao la ca, .int .i64 p, .bool x1, .bool x2, .bool x3] 86)).alloc (.cells #[.int .i64 R, .int .i64 D, .int .i64 L, .int .i64 G, .bool gr] 56)) [.bool false, .slice none 0 0, .int .i64 0] 82
 simp only [World.size_alloc] at g1 c1
 by_cases hn : nc = 0
 ·have HB1 : Hid _ := HB.out hn
  have HC1 : Hid _ := HC.out hn
  have HM1 : Hid _ := HM.out hn
  have HS1 : Hid _ := HS.out hn
  clear HA HB HC HM HS
  subst hn
  by_cases hg : gc = 0
  ·have HC2 : Hid _ := HC1.out hg
   have HM2 : Hid _ := HM1.out hg
   have HS2 : Hid _ := HS1.out hg
   clear HB1 HC1 HM1 HS1
   subst hg
   cases far
   ·have HM3 : Hid _ := HM2.out rfl
    have HS3 : Hid _ := HS2.out rfl
    clear HC2 HM2 HS2
    have y1 := q1.cell 1 rfl
    go_enter Tryz.func51, Tryz.ntmps51
    go_wp2_with fail
    refine (HN.out _ b1).mono ?_
    rintro z w2 ⟨rfl, bb2⟩
    clear y1
    have q_2 := q1.later bb2
    have g_2 := g1.later bb2
    have c_2 := c1.later bb2
    have b0_2 := below_trans b1 bb2
    clear q1 g1 c1 b1 bb2
    obtain ⟨x0, x1, x2, x3, x4⟩ := g_2.cs5
    go_wp2_with fail
    refine (HG.out _).mono ?_
    rintro z w3 ⟨rfl, bb3⟩
    have q_3 := q_2.later bb3
    have g_3 := g_2.later bb3
    have c_3 := c_2.later bb3
    have b0_3 := below_trans b0_2 bb3
    clear q_2 g_2 c_2 b0_2 bb3
    clear x0 x1 x2 x3 x4
    obtain ⟨y0, y1, y2⟩ := q_3.cs3
    obtain ⟨x0, x1, x2, x3, x4⟩ := g_3.cs5
    go_wp2_with fail
    refine (HF.out _).mono ?_
    rintro z w4 ⟨rfl, rfl⟩
    go_wp2_with fail
    refine (HM3.out _).mono ?_
    rintro z w5 ⟨rfl, bb5⟩
    clear x0 x1 x2 x3 x4 y0 y1 y2
    have q_4 := q_3.later bb5
    have g_4 := g_3.later bb5
    have c_4 := c_3.later bb5
    have b0_4 := below_trans b0_3 bb5
    clear q_3 g_3 c_3 b0_3 bb5
    have hlt : w.heap.size + 1 + 1 < w5.heap.size := c_4.lt
    go_wp2_with fail
    refine (HS3.out _ b0_4).mono ?_
    rintro z w6 ⟨vr, rfl, o6, bb5⟩
    have q_5 := q_4.later bb5
    have g_5 := g_4.later bb5
    have c_5 := c_4.later bb5
    have b0_5 := below_trans b0_4 bb5
    clear q_4 g_4 c_4 b0_4 bb5
    obtain ⟨so, sc, hvr⟩ := o6.rd.shape
    subst hvr
    have d0 := c_5.cell 0 rfl
    have f0 := c_5.free 0
    have d1 := c_5.cell 1 rfl
    have f1 := c_5.free 1
    have d2 := c_5.cell 2 rfl
    have f2 := c_5.free 2
    go_wp2
    have bu : But (w.heap.size + 1 + 1) w6 (((w6.setCell ⟨w.heap.size + 1 + 1, 0, none⟩ (.bool rs)).setCell ⟨w.heap.size + 1 + 1, 1, none⟩ (.slice so (Dg.dg 4294967296 rn).length sc)).setCell ⟨w.heap.size + 1 + 1, 2, none⟩ (.int .i64 re)) := ((but_set w6 (w.heap.size + 1 + 1) 0 (.bool rs)).trans (but_set _ (w.heap.size + 1 + 1) 1 (.slice so (Dg.dg 4294967296 rn).length sc))).trans (but_set _ (w.heap.size + 1 + 1) 2 (.int .i64 re))
    have cX : LocE (((w6.setCell ⟨w.heap.size + 1 + 1, 0, none⟩ (.bool rs)).setCell ⟨w.heap.size + 1 + 1, 1, none⟩ (.slice so (Dg.dg 4294967296 rn).length sc)).setCell ⟨w.heap.size + 1 + 1, 2, none⟩ (.int .i64 re)) (w.heap.size + 1 + 1) 82 [.bool rs, .slice so (Dg.dg 4294967296 rn).length sc, .int .i64 re] := ((c_5.set 0 (.bool rs)).set 1 (.slice so (Dg.dg 4294967296 rn).length sc)).set 2 (.int .i64 re)
    have bX := bu.below b0_5 (show w.heap.size ≤ w.heap.size + 1 + 1 by omega)
    have oX := bu.own o6 c_5 (by decide)
    obtain ⟨s0, s1, s2⟩ := cX.cs3
    refine bodyPost_ret (v := .tuple #[.agg #[.bool rs, .slice so (Dg.dg 4294967296 rn).length sc, .int .i64 re], .int .i64 c]) (by simp [results, Tryz.results51, go_sem, s0, s1, s2]) rfl ?_
    exact ⟨_, rfl, oX.lower (by omega), bX⟩
   ·obtain ⟨h1, h2, h3, h4⟩ := HC2.out rfl
    clear HC2 HM2 HS2
    subst h1 h2 h3 h4
    have y1 := q1.cell 1 rfl
    go_enter Tryz.func51, Tryz.ntmps51
    go_wp2_with fail
    refine (HN.out _ b1).mono ?_
    rintro z w2 ⟨rfl, bb2⟩
    clear y1
    have q_2 := q1.later bb2
    have g_2 := g1.later bb2
    have c_2 := c1.later bb2
    have b0_2 := below_trans b1 bb2
    clear q1 g1 c1 b1 bb2
    obtain ⟨x0, x1, x2, x3, x4⟩ := g_2.cs5
    go_wp2_with fail
    refine (HG.out _).mono ?_
    rintro z w3 ⟨rfl, bb3⟩
    have q_3 := q_2.later bb3
    have g_3 := g_2.later bb3
    have c_3 := c_2.later bb3
    have b0_3 := below_trans b0_2 bb3
    clear q_2 g_2 c_2 b0_2 bb3
    clear x0 x1 x2 x3 x4
    have y2 := q_3.cell 2 rfl
    go_wp2_with fail
    refine (HF.out _).mono ?_
    rintro z w4 ⟨rfl, rfl⟩
    clear y2
    have d0 := c_3.cell 0 rfl
    have f0 := c_3.free 0
    have d1 := c_3.cell 1 rfl
    have f1 := c_3.free 1
    have d2 := c_3.cell 2 rfl
    have f2 := c_3.free 2
    go_wp2
    have bu : But (w.heap.size + 1 + 1) w4 (((w4.setCell ⟨w.heap.size + 1 + 1, 0, none⟩ (.bool false)).setCell ⟨w.heap.size + 1 + 1, 1, none⟩ (.slice none 0 0)).setCell ⟨w.heap.size + 1 + 1, 2, none⟩ (.int .i64 0)) := ((but_set w4 (w.heap.size + 1 + 1) 0 (.bool false)).trans (but_set _ (w.heap.size + 1 + 1) 1 (.slice none 0 0))).trans (but_set _ (w.heap.size + 1 + 1) 2 (.int .i64 0))
    have cX : LocE (((w4.setCell ⟨w.heap.size + 1 + 1, 0, none⟩ (.bool false)).setCell ⟨w.heap.size + 1 + 1, 1, none⟩ (.slice none 0 0)).setCell ⟨w.heap.size + 1 + 1, 2, none⟩ (.int .i64 0)) (w.heap.size + 1 + 1) 82 [.bool false, .slice none 0 0, .int .i64 0] := ((c_3.set 0 (.bool false)).set 1 (.slice none 0 0)).set 2 (.int .i64 0)
    have bX := bu.below b0_3 (show w.heap.size ≤ w.heap.size + 1 + 1 by omega)
    obtain ⟨s0, s1, s2⟩ := cX.cs3
    refine bodyPost_ret (v := .tuple #[.agg #[.bool false, .slice none 0 0, .int .i64 0], .int .i64 3]) (by simp [results, Tryz.results51, go_sem, s0, s1, s2]) rfl ?_
    exact ⟨_, rfl, own_nil _ _ _ _, bX⟩
  ·obtain ⟨h1, h2, h3, h4⟩ := HB1.out hg
   clear HB1 HC1 HM1 HS1
   have hgf : (gc == 0) = false := by simp [hg]
   subst h1 h2 h3 h4
   have y1 := q1.cell 1 rfl
   go_enter Tryz.func51, Tryz.ntmps51
   go_wp2_with fail
   refine (HN.out _ b1).mono ?_
   rintro z w2 ⟨rfl, bb2⟩
   clear y1
   have q_2 := q1.later bb2
   have g_2 := g1.later bb2
   have c_2 := c1.later bb2
   have b0_2 := below_trans b1 bb2
   clear q1 g1 c1 b1 bb2
   obtain ⟨x0, x1, x2, x3, x4⟩ := g_2.cs5
   go_wp2_with fail
   refine (HG.out _).mono ?_
   rintro z w3 ⟨rfl, bb3⟩
   have q_3 := q_2.later bb3
   have g_3 := g_2.later bb3
   have c_3 := c_2.later bb3
   have b0_3 := below_trans b0_2 bb3
   clear q_2 g_2 c_2 b0_2 bb3
   clear x0 x1 x2 x3 x4
   have d0 := c_3.cell 0 rfl
   have f0 := c_3.free 0
   have d1 := c_3.cell 1 rfl
   have f1 := c_3.free 1
   have d2 := c_3.cell 2 rfl
   have f2 := c_3.free 2
   go_wp2
   have bu : But (w.heap.size + 1 + 1) w3 (((w3.setCell ⟨w.heap.size + 1 + 1, 0, none⟩ (.bool false)).setCell ⟨w.heap.size + 1 + 1, 1, none⟩ (.slice none 0 0)).setCell ⟨w.heap.size + 1 + 1, 2, none⟩ (.int .i64 0)) := ((but_set w3 (w.heap.size + 1 + 1) 0 (.bool false)).trans (but_set _ (w.heap.size + 1 + 1) 1 (.slice none 0 0))).trans (but_set _ (w.heap.size + 1 + 1) 2 (.int .i64 0))
   have cX : LocE (((w3.setCell ⟨w.heap.size + 1 + 1, 0, none⟩ (.bool false)).setCell ⟨w.heap.size + 1 + 1, 1, none⟩ (.slice none 0 0)).setCell ⟨w.heap.size + 1 + 1, 2, none⟩ (.int .i64 0)) (w.heap.size + 1 + 1) 82 [.bool false, .slice none 0 0, .int .i64 0] := ((c_3.set 0 (.bool false)).set 1 (.slice none 0 0)).set 2 (.int .i64 0)
   have bX := bu.below b0_3 (show w.heap.size ≤ w.heap.size + 1 + 1 by omega)
   obtain ⟨s0, s1, s2⟩ := cX.cs3
   refine bodyPost_ret (v := .tuple #[.agg #[.bool false, .slice none 0 0, .int .i64 0], .int .i64 c]) (by simp [results, Tryz.results51, go_sem, s0, s1, s2]) rfl ?_
   exact ⟨_, rfl, own_nil _ _ _ _, bX⟩
 ·obtain ⟨h1, h2, h3, h4⟩ := HA.out hn
  clear HA HB HC HM HS
  have hnf : (nc == 0) = false := by simp [hn]
  subst h1 h2 h3 h4
  have y1 := q1.cell 1 rfl
  go_enter Tryz.func51, Tryz.ntmps51
  go_wp2_with fail
  refine (HN.out _ b1).mono ?_
  rintro z w2 ⟨rfl, bb2⟩
  clear y1
  have q_2 := q1.later bb2
  have g_2 := g1.later bb2
  have c_2 := c1.later bb2
  have b0_2 := below_trans b1 bb2
  clear q1 g1 c1 b1 bb2
  have d0 := c_2.cell 0 rfl
  have f0 := c_2.free 0
  have d1 := c_2.cell 1 rfl
  have f1 := c_2.free 1
  have d2 := c_2.cell 2 rfl
  have f2 := c_2.free 2
  go_wp2
  have bu : But (w.heap.size + 1 + 1) w2 (((w2.setCell ⟨w.heap.size + 1 + 1, 0, none⟩ (.bool false)).setCell ⟨w.heap.size + 1 + 1, 1, none⟩ (.slice none 0 0)).setCell ⟨w.heap.size + 1 + 1, 2, none⟩ (.int .i64 0)) := ((but_set w2 (w.heap.size + 1 + 1) 0 (.bool false)).trans (but_set _ (w.heap.size + 1 + 1) 1 (.slice none 0 0))).trans (but_set _ (w.heap.size + 1 + 1) 2 (.int .i64 0))
  have cX : LocE (((w2.setCell ⟨w.heap.size + 1 + 1, 0, none⟩ (.bool false)).setCell ⟨w.heap.size + 1 + 1, 1, none⟩ (.slice none 0 0)).setCell ⟨w.heap.size + 1 + 1, 2, none⟩ (.int .i64 0)) (w.heap.size + 1 + 1) 82 [.bool false, .slice none 0 0, .int .i64 0] := ((c_2.set 0 (.bool false)).set 1 (.slice none 0 0)).set 2 (.int .i64 0)
  have bX := bu.below b0_2 (show w.heap.size ≤ w.heap.size + 1 + 1 by omega)
  obtain ⟨s0, s1, s2⟩ := cX.cs3
  refine bodyPost_ret (v := .tuple #[.agg #[.bool false, .slice none 0 0, .int .i64 0], .int .i64 c]) (by simp [results, Tryz.results51, go_sem, s0, s1, s2]) rfl ?_
  exact ⟨_, rfl, own_nil _ _ _ _, bX⟩
end Go.Proofs.YtnhackdjplppjaaGreatDoor
namespace Go.Proofs.YtnhackdjplppjaaGreatDoor
open Go.RowKit
def placeC (xs : List Nat) (p R D L G : Int) : Int :=
 if chk xs = 0 then (if gridC R D L G = 0 then (if farB 20000 p = true then 3 else 0) else gridC R D L G) else chk xs
theorem farB_not {m n : Int} (h : farB m n = false) : -m ≤ n ∧ n ≤ m := by
 unfold farB at h
 simp at h
 omega
theorem placeC_fine {xs : List Nat} {p R D L G : Int} (h1 : chk xs = 0) (h2 : gridC R D L G = 0) (h3 : farB 20000 p = false) : placeC xs p R D L G = 0 := by
 unfold placeC
 rw [if_pos h1, if_pos h2, if_neg (by rw [h3]; decide)]
theorem width_power {R p : Int} (h : -20000 ≤ p ∧ p ≤ 20000) : -80000 ≤ (widthN R : Int) * p ∧ (widthN R : Int) * p ≤ 80000 := by
 unfold widthN
 split <;> simp <;> omega
theorem gnumber_any (R D L G : Int) (gr ng : Bool) (ao : Option Addr) (la ca : Nat) (p : Int) (w : World) (h : -1000000 ≤ (widthN R : Int) * p ∧ (widthN R : Int) * p ≤ 1000000) :
  Calls Tryz.prog 104 #[.agg #[.int .i64 R, .int .i64 D, .int .i64 L, .int .i64 G, .bool gr], .bool ng, .agg #[.slice ao la ca, .int .i64 p]] w fun z w' => z = .returned (.agg #[.bool ng, .slice ao la ca, .int .i64 ((widthN R : Int) * p)]) ∧ Below w.heap.size w w' := by
 refine gnumberW R D L G gr ng ao la ca p (widthN R) w (IntWalk.i64_in _ ⟨by omega, by omega⟩) (fun w1 => ?_)
 have := width_any R D L G gr w1
 rwa [widthR_nat] at this
theorem both_err {c : Int} (h : ¬c = 0) (t : Trip) : dbothR c t = (⟨false, 0, 0⟩, c) := if_neg h
theorem gNumber_any (R D L G : Int) (gr s : Bool) (ao : Option Addr) (ca : Nat) (xs : List Nat) (p : Int) (x1 x2 x3 : Bool) (w : World) (hr : Rd w .u32 (.slice ao xs.length ca) xs) (sa : Dg.Small 4294967296 xs) (hT : Tab w) :
  Calls Tryz.prog 51 #[.agg #[.bool s, .slice ao xs.length ca, .int .i64 p, .bool x1, .bool x2, .bool x3], .agg #[.int .i64 R, .int .i64 D, .int .i64 L, .int .i64 G, .bool gr]] w (DAns w (dbothR (placeC xs p R D L G) ⟨s, Dg.vl 4294967296 xs, (widthN R : Int) * p⟩)) := by
 obtain ⟨⟨⟨rs, rn, re⟩, c⟩, hrr⟩ : ∃ r, dbothR (placeC xs p R D L G) ⟨s, Dg.vl 4294967296 xs, (widthN R : Int) * p⟩ = r := ⟨_, rfl⟩
 have herr : ∀ k, placeC xs p R D L G = k → ¬k = 0 → rs = false ∧ rn = 0 ∧ re = 0 ∧ c = k := fun k h1 h2 => by
  rw [h1, both_err h2] at hrr
  simp only [Prod.mk.injEq, Trip.mk.injEq] at hrr
  exact ⟨hrr.1.1.symm, hrr.1.2.1.symm, hrr.1.2.2.symm, hrr.2.symm⟩
 rw [hrr]
 refine gNumberW R D L G gr s ao _ ca p x1 x2 x3 (widthN R) (chk xs) (gridC R D L G) c (farB 20000 p) rs rn re w ?_ ?_ ?_ ?_ ?_ ?_ ?_ ?_
 ·intro h
  exact herr _ (if_neg h) h
 ·intro h h2
  exact herr _ ((if_pos h).trans (if_neg h2)) h2
 ·intro h h2 h3
  exact herr 3 ((if_pos h).trans ((if_pos h2).trans (if_pos h3))) (by decide)
 ·intro w1 b
  refine (check_any _ xs w1 (hr.later b)).mono ?_
  rintro z w' ⟨rfl, rfl⟩
  exact ⟨rfl, Below.refl _ _⟩
 ·intro w1
  exact gcheck_any R D L G gr w1
 ·intro w1
  exact beyond_any p 20000 w1 (by omega) (by omega)
 ·intro h h2 h3 w1
  have := width_power (R := R) (farB_not h3)
  exact gnumber_any R D L G gr s ao _ ca p w1 ⟨by omega, by omega⟩
 ·intro h h2 h3 w1 b
  have hp := width_power (R := R) (farB_not h3)
  obtain ⟨n1, l1⟩ := chk_zero h
  have x1 : (Dg.dg 4294967296 (Dg.vl 4294967296 xs)).length ≤ 1200 := by rw [← Dg.eq_dg 4294967296 (by omega) xs _ sa n1 rfl]; exact l1
  rw [placeC_fine h h2 h3] at hrr
  rw [← hrr]
  exact dshort_any _ _ w1 (dv_of (hr.later b) sa n1) (by simp only; omega) ⟨by simp only; omega, by simp only; omega⟩ (hT.later b) (by have := tz_fits (Dg.vl 4294967296 xs) 1200 x1; simp only; omega)
end Go.Proofs.YtnhackdjplppjaaGreatDoor
namespace Go.Proofs.YtnhackdjplppjaaGreatDoor
open Go.RowKit
theorem short_of {t : Trip} (h1 : (Dg.dg 4294967296 (bare t).n).length ≤ 1200) (h2 : -20000 ≤ (bare t).e) (h3 : (bare t).e ≤ 20000) : shortT t = (bare t, 0) := by
 unfold shortT
 rw [if_neg (by omega), if_neg (by omega)]
theorem bare_e_ge {t : Trip} (h : t.n ≠ 0) : t.e ≤ (bare t).e ∧ (bare t).e = t.e + tz t.n := by
 unfold bare
 rw [if_neg h]
 exact ⟨by show t.e ≤ t.e + (tz t.n : Int); omega, rfl⟩
end Go.Proofs.YtnhackdjplppjaaGreatDoor
namespace Go.Proofs.YtnhackdjplppjaaGreatDoor
open Go.RowKit
def InSpot (R D L G : Int) (gr : Bool) (d : Nat) (p : Int) : Prop :=
 (d = 0 ∧ p = 0) ∨ (d ≠ 0 ∧ L ≤ p ∧ p ≤ G ∧ d < 2 ^ (widthN R * D.toNat) ∧ (2 ^ (widthN R * (D - 1).toNat) ≤ d ∨ (gr = true ∧ p = L)))
theorem two_len {d k L : Nat} (h : d < 2 ^ k) (hk : k ≤ 32 * L) : (Dg.dg 4294967296 d).length ≤ L := by
 refine Dg.dg_len_le 4294967296 _ _ (by omega) (Nat.lt_of_lt_of_le h ?_)
 rw [show (4294967296 : Nat) = 2 ^ 32 from by decide, ← Nat.pow_mul]
 exact Nat.pow_le_pow_right (by omega) hk
theorem spot_fits {R D L G : Int} {gr : Bool} {d : Nat} {p : Int} (hg : gridC R D L G = 0) (h : InSpot R D L G gr d p) :
  (Dg.dg 4294967296 d).length ≤ 15 ∧ -17000 ≤ p ∧ p ≤ 17000 ∧ -17000 ≤ (widthN R : Int) * p ∧ (widthN R : Int) * p ≤ 17000 ∧ tz d ≤ 480 := by
 obtain ⟨hR, d1, d2, l1, l2, g1, g2, lg, l16⟩ := gridC_zero hg
 rcases h with ⟨rfl, rfl⟩ | ⟨h0, h1, h2, h3, -⟩
 ·refine ⟨Nat.zero_le _, by omega, by omega, by simp, by simp, ?_⟩
  exact Nat.le_trans (tz_fits 0 0 (Nat.le_refl _)) (by omega)
 ·have hw := Nat.mul_le_mul (widthN_le R).2 (show D.toNat ≤ 120 by omega)
  have hl : (Dg.dg 4294967296 d).length ≤ 15 := two_len h3 (by omega)
  have := tz_fits d 15 hl
  refine ⟨hl, by omega, by omega, ?_, ?_, by omega⟩ <;> (unfold widthN; split <;> simp <;> omega)
theorem spot_short {R D L G : Int} {gr s : Bool} {d : Nat} {p : Int} (hg : gridC R D L G = 0) (h : InSpot R D L G gr d p) :
  dbothR (placeC (Dg.dg 4294967296 d) p R D L G) ⟨s, Dg.vl 4294967296 (Dg.dg 4294967296 d), (widthN R : Int) * p⟩ = (bare ⟨s, d, (widthN R : Int) * p⟩, 0) := by
 obtain ⟨l, p1, p2, w1, w2, tzl⟩ := spot_fits hg h
 have hp : placeC (Dg.dg 4294967296 d) p R D L G = 0 := placeC_fine ((dchk_zero (dchk_of (n := d) (e := 0) (by omega) (by omega) (by omega))).1) hg (by unfold farB; simp; omega)
 rw [hp, Dg.vl_dg _ _ (by omega)]
 show shortT _ = _
 refine short_of ?_ ?_ ?_
 ·exact Nat.le_trans (dg_len_mono _ _ d (by omega) (bare_n_le _)) (by omega)
 ·by_cases h0 : d = 0
  ·simp [bare, h0]
  ·have := (bare_e_ge (t := ⟨s, d, (widthN R : Int) * p⟩) h0).2
   simp only at this
   omega
 ·by_cases h0 : d = 0
  ·simp [bare, h0]
  ·have := (bare_e_ge (t := ⟨s, d, (widthN R : Int) * p⟩) h0).2
   simp only at this
   omega
end Go.Proofs.YtnhackdjplppjaaGreatDoor
namespace Go.Proofs.YtnhackdjplppjaaGreatDoor
open Go.RowKit
set_option maxHeartbeats 1600000 in
theorem gHoldsW (R D L G : Int) (gr s : Bool) (ao : Option Addr) (la ca : Nat) (e c : Int) (hd : Bool) (rd : Nat) (rk : Int) (w : World)
  (HF : ∀ w1, Below w.heap.size w w1 → Calls Tryz.prog 106 #[.agg #[.bool s, .slice ao la ca, .int .i64 e], .agg #[.int .i64 R, .int .i64 D, .int .i64 L, .int .i64 G, .bool gr]] w1 (FindAns w1 hd rd rk c)) :
  Calls Tryz.prog 52 #[.agg #[.bool s, .slice ao la ca, .int .i64 e], .agg #[.int .i64 R, .int .i64 D, .int .i64 L, .int .i64 G, .bool gr]] w fun z w' => z = .returned (.tuple #[.bool hd, .int .i64 c]) ∧ Below w.heap.size w w' := by
 replace HF : Hid _ := HF
 have b1 := below_trans (below_alloc w (.cells #[.bool s, .slice ao la ca, .int .i64 e] 82)) (below_alloc _ (.cells #[.int .i64 R, .int .i64 D, .int .i64 L, .int .i64 G, .bool gr] 56))
 have q1 := (locE_new w [.bool s, .slice ao la ca, .int .i64 e] 82).later (below_alloc _ (.cells #[.int .i64 R, .int .i64 D, .int .i64 L, .int .i64 G, .bool gr] 56))
 have g1 := locE_new (w.alloc (.cells #[.bool s, .slice ao la ca, .int .i64 e] 82)) [.int .i64 R, .int .i64 D, .int .i64 L, .int .i64 G, .bool gr] 56
 simp only [World.size_alloc] at g1
 obtain ⟨x0, x1, x2, x3, x4⟩ := g1.cs5
 obtain ⟨y0, y1, y2⟩ := q1.cs3
 go_enter Tryz.func52, Tryz.ntmps52
 go_wp2_with fail
 refine (HF.out _ b1).mono ?_
 rintro z w2 ⟨u, rfl, ou, bb2⟩
 obtain ⟨so, sc, hu⟩ := ou.rd.shape
 subst hu
 clear ou x0 x1 x2 x3 x4 y0 y1 y2
 have b2 := below_trans b1 bb2
 have b3 := below_trans b2 (below_alloc w2 (.cells #[.slice so (Dg.dg 4294967296 rd).length sc, .int .i64 rk] 163))
 go_wp2
 go_ret2
 exact ⟨rfl, b3⟩
end Go.Proofs.YtnhackdjplppjaaGreatDoor
namespace Go.Proofs.YtnhackdjplppjaaGreatDoor
open Go.RowKit
theorem gHolds_any (R D L G : Int) (gr s : Bool) (ao : Option Addr) (ca : Nat) (xs : List Nat) (e : Int) (w : World) (hr : Rd w .u32 (.slice ao xs.length ca) xs) (sa : Dg.Small 4294967296 xs) (hT : Tab w) :
  Calls Tryz.prog 52 #[.agg #[.bool s, .slice ao xs.length ca, .int .i64 e], .agg #[.int .i64 R, .int .i64 D, .int .i64 L, .int .i64 G, .bool gr]] w fun z w' => z = .returned (.tuple #[.bool (ansH xs e R D L G gr), .int .i64 (onC (dchk xs e) (gridC R D L G))]) ∧ Below w.heap.size w w' :=
 gHoldsW R D L G gr s ao _ ca e _ _ _ _ w (fun w1 b => gfind_any R D L G gr s ao ca xs e w1 (hr.later b) sa (hT.later b))
end Go.Proofs.YtnhackdjplppjaaGreatDoor
namespace Go.Proofs.YtnhackdjplppjaaGreatDoor
open Go.RowKit
theorem held_bare {R D L G : Int} (gr : Bool) (t : Trip) (hLG : L ≤ G) : heldB R D L G gr (bare t).n (bare t).e = heldB R D L G gr t.n t.e := by
 rw [← held_in gr t hLG, ← held_in gr (bare t) hLG, bare_bare]
end Go.Proofs.YtnhackdjplppjaaGreatDoor

/-
  Texts laid together: Gh1, Gh2, Gh3, Gh4.
-/
import Derived.Test.YtnhackdjplppjaaGreatDoorAt23
set_option maxRecDepth 100000
namespace Go.Proofs.YtnhackdjplppjaaGreatDoor
open Go.RowKit
def FindRes (w : World) (h : Bool) (d : Nat) (k : Int) (e : Ending) (w' : World) : Prop :=
 ∃ u, e = .returned (.tuple #[.agg #[u, .int .i64 k], .bool h]) ∧ Own w' w.heap.size 141 .u32 u (Dg.dg 4294967296 d) ∧ Below w.heap.size w w'
theorem field_dyad (b : Bool) (x : Option Addr) (y z : Nat) (e : Int) (W : World) : (Instr.field 96 (.agg #[.bool b, .slice x y z, .int .i64 e]) 0).run Tryz.prog W = .ok (.agg #[.bool b, .slice x y z, .int .i64 e]) W := by kernel_rfl
theorem field_exp (b : Bool) (x : Option Addr) (y z : Nat) (e : Int) (W : World) : (Instr.field 82 (.agg #[.bool b, .slice x y z, .int .i64 e]) 2).run Tryz.prog W = .ok (.int .i64 e) W := by kernel_rfl
set_option maxHeartbeats 1600000 in
theorem mfind_zero (R D L G : Int) (gr s : Bool) (ao : Option Addr) (la ca : Nat) (e : Int) (w : World)
  (HSG : ∀ w1, Below w.heap.size w w1 → Calls Tryz.prog 166 #[.agg #[.bool s, .slice ao la ca, .int .i64 e]] w1 fun z w' => z = .returned (.int .i64 0) ∧ Below w1.heap.size w1 w') :
  Calls Tryz.prog 163 #[.agg #[.int .i64 R, .int .i64 D, .int .i64 L, .int .i64 G, .bool gr], .agg #[.bool s, .slice ao la ca, .int .i64 e]] w (FindRes w true 0 L) := by
 replace HSG : Hid _ := HSG
 have b1 := below_trans (below_trans (below_alloc w (.cells #[.int .i64 R, .int .i64 D, .int .i64 L, .int .i64 G, .bool gr] 159)) (below_alloc _ (.cells #[.bool s, .slice ao la ca, .int .i64 e] 96))) (below_alloc _ (.cells #[.slice none 0 0, .int .i64 0] 163))
 have g1 := ((locE_new w [.int .i64 R, .int .i64 D, .int .i64 L, .int .i64 G, .bool gr] 159).later (below_alloc _ (.cells #[.bool s, .slice ao la ca, .int .i64 e] 96))).later (below_alloc _ (.cells #[.slice none 0 0, .int .i64 0] 163))
 have q1 := (locE_new (w.alloc (.cells #[.int .i64 R, .int .i64 D, .int .i64 L, .int .i64 G, .bool gr] 159)) [.bool s, .slice ao la ca, .int .i64 e] 96).later (below_alloc _ (.cells #[.slice none 0 0, .int .i64 0] 163))
 have c1 := locE_new ((w.alloc (.cells #[.int .i64 R, .int .i64 D, .int .i64 L, .int .i64 G, .bool gr] 159)).alloc (.cells #[.bool s, .slice ao la ca, .int .i64 e] 96)) [.slice none 0 0, .int .i64 0] 163
 simp only [World.size_alloc] at q1 c1
 obtain ⟨y0, y1, y2⟩ := q1.cs3
 go_enter Tryz.func163, Tryz.ntmps163
 go_wp2_with fail
 refine (HSG.out _ b1).mono ?_
 rintro z w2 ⟨rfl, bb2⟩
 clear y0 y1 y2
 have g_2 := g1.later bb2
 have q_2 := q1.later bb2
 have c_2 := c1.later bb2
 have b0_2 := below_trans b1 bb2
 clear g1 q1 c1 b1 bb2
 have x2 := g_2.cell 2 rfl
 have d0 := c_2.cell 0 rfl
 have f0 := c_2.free 0
 have d1 := c_2.cell 1 rfl
 have f1 := c_2.free 1
 go_wp2
 have bu : But (w.heap.size + 1 + 1) w2 ((w2.setCell ⟨w.heap.size + 1 + 1, 0, none⟩ (.slice none 0 0)).setCell ⟨w.heap.size + 1 + 1, 1, none⟩ (.int .i64 L)) := (but_set w2 (w.heap.size + 1 + 1) 0 (.slice none 0 0)).trans (but_set _ (w.heap.size + 1 + 1) 1 (.int .i64 L))
 have cX : LocE ((w2.setCell ⟨w.heap.size + 1 + 1, 0, none⟩ (.slice none 0 0)).setCell ⟨w.heap.size + 1 + 1, 1, none⟩ (.int .i64 L)) (w.heap.size + 1 + 1) 163 [.slice none 0 0, .int .i64 L] := (c_2.set 0 (.slice none 0 0)).set 1 (.int .i64 L)
 have bX := bu.below b0_2 (show w.heap.size ≤ w.heap.size + 1 + 1 by omega)
 obtain ⟨s0, s1⟩ := cX.cs2
 refine bodyPost_ret (v := .tuple #[.agg #[.slice none 0 0, .int .i64 L], .bool true]) (by simp [results, Tryz.results163, go_sem, s0, s1]) rfl ?_
 exact ⟨_, rfl, own_nil _ _ _ _, bX⟩
set_option maxHeartbeats 6400000 in
theorem mfindW (R D L G : Int) (gr s : Bool) (ao : Option Addr) (la ca : Nat) (e sg bl pw K wd : Int) (bs : Bool) (bn : Nat) (be : Int) (un bb hb : Bool) (rd : Nat) (rk : Int) (w : World)
  (hsg : (sg == 0) = false) (W1 : IntKind.i64.wrap (bl - 1) = bl - 1) (W2 : IntKind.i64.wrap (bl - 1 + e) = bl - 1 + e) (W3 : IntKind.i64.wrap (wd * K) = wd * K) (W4 : IntKind.i64.wrap (e - wd * K) = e - wd * K)
  (hun : un = decide (pw < L)) (hbb : (un && gr) = bb) (HP1 : bb = true → K = L) (HP2 : bb = false → K = pw)
  (HH1 : hb = true → ¬K < L ∧ ¬G < K ∧ ¬be < wd * K) (HH2 : hb = false → K < L ∨ (¬K < L ∧ G < K) ∨ (¬K < L ∧ ¬G < K ∧ be < wd * K)) (HR1 : hb = true → rk = K) (HR2 : hb = false → rd = 0 ∧ rk = 0)
  (HSG : ∀ w1, Below w.heap.size w w1 → Calls Tryz.prog 166 #[.agg #[.bool s, .slice ao la ca, .int .i64 e]] w1 fun z w' => z = .returned (.int .i64 sg) ∧ Below w1.heap.size w1 w')
  (HDI : ∀ w1, Calls Tryz.prog 172 #[.agg #[.bool s, .slice ao la ca, .int .i64 e]] w1 fun z w' => z = .returned (.slice ao la ca) ∧ Below w1.heap.size w1 w')
  (HBI : ∀ w1, Below w.heap.size w w1 → Calls Tryz.prog 176 #[.slice ao la ca] w1 fun z w' => z = .returned (.int .i64 bl) ∧ Below w1.heap.size w1 w')
  (HPW : ∀ w1, Calls Tryz.prog 188 #[.agg #[.int .i64 R, .int .i64 D, .int .i64 L, .int .i64 G, .bool gr], .int .i64 (bl - 1 + e)] w1 fun z w' => z = .returned (.int .i64 pw) ∧ Below w1.heap.size w1 w')
  (HWD : ∀ w1, Calls Tryz.prog 160 #[.agg #[.int .i64 R, .int .i64 D, .int .i64 L, .int .i64 G, .bool gr]] w1 fun z w' => z = .returned (.int .i64 wd) ∧ Below w1.heap.size w1 w')
  (HBA : ∀ w1, Below w.heap.size w w1 → Calls Tryz.prog 161 #[.agg #[.bool s, .slice ao la ca, .int .i64 e]] w1 (DRes w1 ⟨bs, bn, be⟩))
  (HSH : hb = true → ∀ w1, Below w.heap.size w w1 → Calls Tryz.prog 177 #[.slice ao la ca, .int .i64 (e - wd * K)] w1 (Num w1 rd)) :
  Calls Tryz.prog 163 #[.agg #[.int .i64 R, .int .i64 D, .int .i64 L, .int .i64 G, .bool gr], .agg #[.bool s, .slice ao la ca, .int .i64 e]] w (FindRes w hb rd rk) := by
 replace HP1 : Hid _ := HP1
 replace HP2 : Hid _ := HP2
 replace HH1 : Hid _ := HH1
 replace HH2 : Hid _ := HH2
 replace HR1 : Hid _ := HR1
 replace HR2 : Hid _ := HR2
 replace HSG : Hid _ := HSG
 replace HDI : Hid _ := HDI
 replace HBI : Hid _ := HBI
 replace HPW : Hid _ := HPW
 replace HWD : Hid _ := HWD
 replace HBA : Hid _ := HBA
 replace HSH : Hid _ := HSH
 have HUN : Hid _ := hun
 have HBB : Hid _ := hbb
 clear hun hbb
 have b1 := below_trans (below_trans (below_alloc w (.cells #[.int .i64 R, .int .i64 D, .int .i64 L, .int .i64 G, .bool gr] 159)) (below_alloc _ (.cells #[.bool s, .slice ao la ca, .int .i64 e] 96))) (below_alloc _ (.cells #[.slice none 0 0, .int .i64 0] 163))
 have g1 := ((locE_new w [.int .i64 R, .int .i64 D, .int .i64 L, .int .i64 G, .bool gr] 159).later (below_alloc _ (.cells #[.bool s, .slice ao la ca, .int .i64 e] 96))).later (below_alloc _ (.cells #[.slice none 0 0, .int .i64 0] 163))
 have q1 := (locE_new (w.alloc (.cells #[.int .i64 R, .int .i64 D, .int .i64 L, .int .i64 G, .bool gr] 159)) [.bool s, .slice ao la ca, .int .i64 e] 96).later (below_alloc _ (.cells #[.slice none 0 0, .int .i64 0] 163))
 have c1 := locE_new ((w.alloc (.cells #[.int .i64 R, .int .i64 D, .int .i64 L, .int .i64 G, .bool gr] 159)).alloc (.cells #[.bool s, .slice ao la ca, .int .i64 e] 96)) [.slice none 0 0, .int .i64 0] 163
 simp only [World.size_alloc] at q1 c1
 obtain ⟨y0, y1, y2⟩ := q1.cs3
 go_enter Tryz.func163, Tryz.ntmps163
 go_wp2_with fail
 refine (HSG.out _ b1).mono ?_
 rintro z w2 ⟨rfl, bb2⟩
 clear y0 y1 y2
 have g_2 := g1.later bb2
 have q_2 := q1.later bb2
 have c_2 := c1.later bb2
 have b0_2 := below_trans b1 bb2
 clear g1 q1 c1 b1 bb2
 have bd_2 : Below w2.heap.size w2 w2.drew := (Below.refl _ _).drew
 have g_3 := g_2.later bd_2
 have q_3 := q_2.later bd_2
 have c_3 := c_2.later bd_2
 have b0_3 := below_trans b0_2 bd_2
 clear g_2 q_2 c_2 b0_2 bd_2
 obtain ⟨x0, x1, x2, x3, x4⟩ := g_3.cs5
 obtain ⟨y0, y1, y2⟩ := q_3.cs3
 go_wp2_with fail
 go_region_held3 (fun wq => (wq.cell? ⟨w.heap.size, 0, none⟩ = some (.int .i64 R) ∧ wq.cell? ⟨w.heap.size, 1, none⟩ = some (.int .i64 D) ∧ wq.cell? ⟨w.heap.size, 2, none⟩ = some (.int .i64 L) ∧ wq.cell? ⟨w.heap.size, 3, none⟩ = some (.int .i64 G) ∧ wq.cell? ⟨w.heap.size, 4, none⟩ = some (.bool gr)) ∧ wq.cell? ⟨w.heap.size + 1, 0, none⟩ = some (.bool s) ∧ wq.cell? ⟨w.heap.size + 1, 1, none⟩ = some (.slice ao la ca) ∧ wq.cell? ⟨w.heap.size + 1, 2, none⟩ = some (.int .i64 e)) (go_keep) (first
  | (go_at_call 172; have hgd := b0_3; clear hgd; refine (HDI.out _).mono ?_; rintro z wa ⟨rfl, bb_wa⟩; have b0_wa := below_trans b0_3 bb_wa; have g_wa := g_3.later bb_wa; have q_wa := q_3.later bb_wa; have c_wa := c_3.later bb_wa; obtain ⟨xwa0, xwa1, xwa2, xwa3, xwa4⟩ := g_wa.cs5; obtain ⟨ywa0, ywa1, ywa2⟩ := q_wa.cs3; clear b0_3)
  | (go_at_call 176; have hgd := b0_wa; clear hgd; refine (HBI.out _ b0_wa).mono ?_; rintro z wb ⟨rfl, bb_wb⟩; have b0_wb := below_trans b0_wa bb_wb; have g_wb := g_wa.later bb_wb; have q_wb := q_wa.later bb_wb; have c_wb := c_wa.later bb_wb; obtain ⟨xwb0, xwb1, xwb2, xwb3, xwb4⟩ := g_wb.cs5; obtain ⟨ywb0, ywb1, ywb2⟩ := q_wb.cs3; clear b0_wa)
  | (go_at_call 188; have hgd := b0_wb; clear hgd; refine (HPW.out _).mono ?_; rintro z wc ⟨rfl, bb_wc⟩; have b0_wc := below_trans b0_wb bb_wc; have g_wc := g_wb.later bb_wc; have q_wc := q_wb.later bb_wc; have c_wc := c_wb.later bb_wc; obtain ⟨xwc0, xwc1, xwc2, xwc3, xwc4⟩ := g_wc.cs5; obtain ⟨ywc0, ywc1, ywc2⟩ := q_wc.cs3; clear b0_wb))
 go_goals
 clear x0 x1 x2 x3 x4 y0 y1 y2 xwa0 xwa1 xwa2 xwa3 xwa4 xwb0 xwb1 xwb2 xwb3 xwb4 xwc0 xwc1 xwc2 xwc3 xwc4 ywa0 ywa1 ywa2 ywb0 ywb1 ywb2 ywc0 ywc1 ywc2
 have x2 := g_wc.cell 2 rfl
 have x4 := g_wc.cell 4 rfl
 have hlt : decide (pw < L) = un := HUN.out.symm
 go_upto_region 4 with fail
 skip
 go_cut [34] (fun s34 wx => s34 = .bool bb ∧ wx = wc)
 case first =>
  cases un
  ·go_wp2_with fail
   go_meet
   exact ⟨by rw [← HBB.out]; rfl, rfl⟩
  ·go_wp2_with fail
   go_meet
   exact ⟨by rw [← HBB.out]; rfl, rfl⟩
 case rest =>
  obtain ⟨rfl, hw34⟩ := hcut
  subst hw34
  go_upto_if 34 with fail
  go_cut [6] (fun s6 wx => s6 = .int .i64 K ∧ wx = wc)
  case first =>
   cases bb
   ·have eK : Hid (K = pw) := HP2.out rfl
    go_wp2_with fail
    go_meet
    exact ⟨by rw [eK.out], rfl⟩
   ·have eK : Hid (K = L) := HP1.out rfl
    go_wp2_with fail
    go_meet
    exact ⟨by rw [eK.out], rfl⟩
  case rest =>
   obtain ⟨rfl, hw6⟩ := hcut
   subst hw6
   clear x2 x4 hlt HP1 HP2
   obtain ⟨x0, x1, x2, x3, x4⟩ := g_wc.cs5
   go_wp2_with fail
   refine (HWD.out _).mono ?_
   rintro z w5 ⟨rfl, bb5⟩
   clear x0 x1 x2 x3 x4
   have g_11 := g_wc.later bb5
   have q_11 := q_wc.later bb5
   have c_11 := c_wc.later bb5
   have b0_11 := below_trans b0_wc bb5
   clear g_wc q_wc c_wc b0_wc bb5
   obtain ⟨x0, x1, x2, x3, x4⟩ := g_11.cs5
   obtain ⟨y0, y1, y2⟩ := q_11.cs3
   cases hb
   ·obtain ⟨rfl, rfl⟩ := HR2.out rfl
    have hx := HH2.out rfl
    clear HH1 HH2 HR1 HR2 HSH
    rcases hx with hx | ⟨hx1, hx⟩ | ⟨hx1, hx2, hx⟩
    ·skip
     have d0 := c_11.cell 0 rfl
     have f0 := c_11.free 0
     have d1 := c_11.cell 1 rfl
     have f1 := c_11.free 1
     go_wp2
     have bu : But (w.heap.size + 1 + 1) w5 ((w5.setCell ⟨w.heap.size + 1 + 1, 0, none⟩ (.slice none 0 0)).setCell ⟨w.heap.size + 1 + 1, 1, none⟩ (.int .i64 0)) := (but_set w5 (w.heap.size + 1 + 1) 0 (.slice none 0 0)).trans (but_set _ (w.heap.size + 1 + 1) 1 (.int .i64 0))
     have cX : LocE ((w5.setCell ⟨w.heap.size + 1 + 1, 0, none⟩ (.slice none 0 0)).setCell ⟨w.heap.size + 1 + 1, 1, none⟩ (.int .i64 0)) (w.heap.size + 1 + 1) 163 [.slice none 0 0, .int .i64 0] := (c_11.set 0 (.slice none 0 0)).set 1 (.int .i64 0)
     have bX := bu.below b0_11 (show w.heap.size ≤ w.heap.size + 1 + 1 by omega)
     obtain ⟨s0, s1⟩ := cX.cs2
     refine bodyPost_ret (v := .tuple #[.agg #[.slice none 0 0, .int .i64 0], .bool false]) (by simp [results, Tryz.results163, go_sem, s0, s1]) rfl ?_
     exact ⟨_, rfl, own_nil _ _ _ _, bX⟩
    ·have e1 : decide (K < L) = false := decide_eq_false (by omega)
     have d0 := c_11.cell 0 rfl
     have f0 := c_11.free 0
     have d1 := c_11.cell 1 rfl
     have f1 := c_11.free 1
     go_wp2
     have bu : But (w.heap.size + 1 + 1) w5 ((w5.setCell ⟨w.heap.size + 1 + 1, 0, none⟩ (.slice none 0 0)).setCell ⟨w.heap.size + 1 + 1, 1, none⟩ (.int .i64 0)) := (but_set w5 (w.heap.size + 1 + 1) 0 (.slice none 0 0)).trans (but_set _ (w.heap.size + 1 + 1) 1 (.int .i64 0))
     have cX : LocE ((w5.setCell ⟨w.heap.size + 1 + 1, 0, none⟩ (.slice none 0 0)).setCell ⟨w.heap.size + 1 + 1, 1, none⟩ (.int .i64 0)) (w.heap.size + 1 + 1) 163 [.slice none 0 0, .int .i64 0] := (c_11.set 0 (.slice none 0 0)).set 1 (.int .i64 0)
     have bX := bu.below b0_11 (show w.heap.size ≤ w.heap.size + 1 + 1 by omega)
     obtain ⟨s0, s1⟩ := cX.cs2
     refine bodyPost_ret (v := .tuple #[.agg #[.slice none 0 0, .int .i64 0], .bool false]) (by simp [results, Tryz.results163, go_sem, s0, s1]) rfl ?_
     exact ⟨_, rfl, own_nil _ _ _ _, bX⟩
    ·have e1 : decide (K < L) = false := decide_eq_false (by omega)
     have e2 : decide (G < K) = false := decide_eq_false (by omega)
     go_wp2_with fail
     refine (HBA.out _ b0_11).mono ?_
     rintro z w6 ⟨vb, rfl, ob6, bb6⟩
     obtain ⟨vo6, vc6, hvb6⟩ := ob6.rd.shape
     subst hvb6
     clear ob6
     have hfd := fun W => field_dyad bs vo6 (Dg.dg 4294967296 bn).length vc6 be W
     have hfe := fun W => field_exp bs vo6 (Dg.dg 4294967296 bn).length vc6 be W
     clear x0 x1 x2 x3 x4 y0 y1 y2
     have g_12 := g_11.later bb6
     have q_12 := q_11.later bb6
     have c_12 := c_11.later bb6
     have b0_12 := below_trans b0_11 bb6
     clear g_11 q_11 c_11 b0_11 bb6
     have d0 := c_12.cell 0 rfl
     have f0 := c_12.free 0
     have d1 := c_12.cell 1 rfl
     have f1 := c_12.free 1
     go_wp2
     have bu : But (w.heap.size + 1 + 1) w6 ((w6.setCell ⟨w.heap.size + 1 + 1, 0, none⟩ (.slice none 0 0)).setCell ⟨w.heap.size + 1 + 1, 1, none⟩ (.int .i64 0)) := (but_set w6 (w.heap.size + 1 + 1) 0 (.slice none 0 0)).trans (but_set _ (w.heap.size + 1 + 1) 1 (.int .i64 0))
     have cX : LocE ((w6.setCell ⟨w.heap.size + 1 + 1, 0, none⟩ (.slice none 0 0)).setCell ⟨w.heap.size + 1 + 1, 1, none⟩ (.int .i64 0)) (w.heap.size + 1 + 1) 163 [.slice none 0 0, .int .i64 0] := (c_12.set 0 (.slice none 0 0)).set 1 (.int .i64 0)
     have bX := bu.below b0_12 (show w.heap.size ≤ w.heap.size + 1 + 1 by omega)
     obtain ⟨s0, s1⟩ := cX.cs2
     refine bodyPost_ret (v := .tuple #[.agg #[.slice none 0 0, .int .i64 0], .bool false]) (by simp [results, Tryz.results163, go_sem, s0, s1]) rfl ?_
     exact ⟨_, rfl, own_nil _ _ _ _, bX⟩
   ·obtain ⟨h1, h2, h3⟩ := HH1.out rfl
    have hrk := HR1.out rfl
    have HS1 : Hid _ := HSH.out rfl
    clear HH1 HH2 HR1 HR2 HSH
    subst hrk
    have e1 : decide (rk < L) = false := decide_eq_false (by omega)
    have e2 : decide (G < rk) = false := decide_eq_false (by omega)
    have e3 : decide (be < wd * rk) = false := decide_eq_false (by omega)
    go_wp2_with fail
    refine (HBA.out _ b0_11).mono ?_
    rintro z w6 ⟨vb, rfl, ob6, bb6⟩
    obtain ⟨vo6, vc6, hvb6⟩ := ob6.rd.shape
    subst hvb6
    clear ob6
    have hfd := fun W => field_dyad bs vo6 (Dg.dg 4294967296 bn).length vc6 be W
    have hfe := fun W => field_exp bs vo6 (Dg.dg 4294967296 bn).length vc6 be W
    clear x0 x1 x2 x3 x4 y0 y1 y2
    have g_12 := g_11.later bb6
    have q_12 := q_11.later bb6
    have c_12 := c_11.later bb6
    have b0_12 := below_trans b0_11 bb6
    clear g_11 q_11 c_11 b0_11 bb6
    have bd_12 : Below w6.heap.size w6 w6.drew := (Below.refl _ _).drew
    have g_13 := g_12.later bd_12
    have q_13 := q_12.later bd_12
    have c_13 := c_12.later bd_12
    have b0_13 := below_trans b0_12 bd_12
    clear g_12 q_12 c_12 b0_12 bd_12
    obtain ⟨y0, y1, y2⟩ := q_13.cs3
    have nA : w.heap.size + 1 + 1 ≠ w.heap.size + 1 := by omega
    go_wp2_with fail
    go_region_held3 (fun wq => wq.cell? ⟨w.heap.size + 1, 0, none⟩ = some (.bool s) ∧ wq.cell? ⟨w.heap.size + 1, 1, none⟩ = some (.slice ao la ca) ∧ wq.cell? ⟨w.heap.size + 1, 2, none⟩ = some (.int .i64 e)) (go_keep) (first
     | (go_at_call 172; have hgd := b0_13; clear hgd; refine (HDI.out _).mono ?_; rintro z wf ⟨rfl, bb_wf⟩; have b0_wf := below_trans b0_13 bb_wf; have g_wf := g_13.later bb_wf; have q_wf := q_13.later bb_wf; have c_wf := c_13.later bb_wf; obtain ⟨ywf0, ywf1, ywf2⟩ := q_wf.cs3; clear b0_13)
     | (go_at_call 177; have hgd := b0_wf; clear hgd; refine (HS1.out _ b0_wf).mono ?_; rintro z wg ⟨vs, rfl, os, bb_wg⟩; have b0_wg := below_trans b0_wf bb_wg; have g_wg := g_wf.later bb_wg; have q_wg := q_wf.later bb_wg; have c_wg := c_wf.later bb_wg; obtain ⟨ywg0, ywg1, ywg2⟩ := q_wg.cs3; obtain ⟨so, sc, hvs⟩ := os.rd.shape; subst hvs; obtain ⟨d0, d1⟩ := c_wg.cs2; have f0 := c_wg.free 0; have f1 := c_wg.free 1; have oL := os.lower b0_wf.size; clear b0_wf))
    go_goals
    clear d0 d1 f0 f1
    have d0 := c_wg.cell 0 rfl
    have f0 := c_wg.free 0
    have d1 := c_wg.cell 1 rfl
    have f1 := c_wg.free 1
    go_wp2
    have bu : But (w.heap.size + 1 + 1) wg ((wg.setCell ⟨w.heap.size + 1 + 1, 0, none⟩ (.slice so (Dg.dg 4294967296 rd).length sc)).setCell ⟨w.heap.size + 1 + 1, 1, none⟩ (.int .i64 rk)) := (but_set wg (w.heap.size + 1 + 1) 0 (.slice so (Dg.dg 4294967296 rd).length sc)).trans (but_set _ (w.heap.size + 1 + 1) 1 (.int .i64 rk))
    have cX : LocE ((wg.setCell ⟨w.heap.size + 1 + 1, 0, none⟩ (.slice so (Dg.dg 4294967296 rd).length sc)).setCell ⟨w.heap.size + 1 + 1, 1, none⟩ (.int .i64 rk)) (w.heap.size + 1 + 1) 163 [.slice so (Dg.dg 4294967296 rd).length sc, .int .i64 rk] := (c_wg.set 0 (.slice so (Dg.dg 4294967296 rd).length sc)).set 1 (.int .i64 rk)
    have bX := bu.below b0_wg (show w.heap.size ≤ w.heap.size + 1 + 1 by omega)
    have oX := bu.own oL c_wg (by decide)
    obtain ⟨s0, s1⟩ := cX.cs2
    refine bodyPost_ret (v := .tuple #[.agg #[.slice so (Dg.dg 4294967296 rd).length sc, .int .i64 rk], .bool true]) (by simp [results, Tryz.results163, go_sem, s0, s1]) rfl ?_
    exact ⟨_, rfl, oX, bX⟩
end Go.Proofs.YtnhackdjplppjaaGreatDoor
namespace Go.Proofs.YtnhackdjplppjaaGreatDoor
open Go.RowKit
def findD (R D L : Int) (gr : Bool) (n : Nat) (e : Int) : Nat := shN n (e - (widthN R : Int) * spotK R D L gr n e)
def fD (R D L G : Int) (gr : Bool) (n : Nat) (e : Int) : Nat := if n = 0 then 0 else if heldB R D L G gr n e = true then findD R D L gr n e else 0
def fK (R D L G : Int) (gr : Bool) (n : Nat) (e : Int) : Int := if n = 0 then L else if heldB R D L G gr n e = true then spotK R D L gr n e else 0
theorem spotK_range {R D L G : Int} {gr : Bool} {n : Nat} {e : Int} (hg : gridC R D L G = 0) (hb : bitLen n ≤ 40000) (e1 : -100000 ≤ e) (e2 : e ≤ 100000) :
  -341000 ≤ spotK R D L gr n e ∧ spotK R D L gr n e ≤ 341000 ∧ -341000 ≤ (widthN R : Int) * spotK R D L gr n e ∧ (widthN R : Int) * spotK R D L gr n e ≤ 341000 := by
 obtain ⟨hR, d1, d2, l1, l2, -, -, -, -⟩ := gridC_zero hg
 have hp := powerR_range (R := R) (D := D) (t := (bitLen n : Int) - 1 + e) d1 d2 (by omega) (by omega)
 unfold spotK
 split
 ·unfold widthN
  split <;> simp <;> omega
 ·exact hp
theorem held_iff {R D L G : Int} {gr : Bool} {n : Nat} {e : Int} (h0 : n ≠ 0) : heldB R D L G gr n e = true ↔ L ≤ spotK R D L gr n e ∧ spotK R D L gr n e ≤ G ∧ (widthN R : Int) * spotK R D L gr n e ≤ e + (tz n : Int) := by
 unfold heldB
 rw [decide_eq_true_iff]
 constructor
 ·rintro (h | h)
  ·exact absurd h h0
  ·exact h
 ·exact .inr
set_option maxHeartbeats 1600000 in
theorem mfind_any (R D L G : Int) (gr s : Bool) (ao : Option Addr) (ca n : Nat) (e : Int) (w : World) (hg : gridC R D L G = 0) (hr : Rd w .u32 (.slice ao (Dg.dg 4294967296 n).length ca) (Dg.dg 4294967296 n)) (hl : (Dg.dg 4294967296 n).length ≤ 1200) (e1 : -20000 ≤ e) (e2 : e ≤ 20000) (hT : Tab w) :
  Calls Tryz.prog 163 #[.agg #[.int .i64 R, .int .i64 D, .int .i64 L, .int .i64 G, .bool gr], .agg #[.bool s, .slice ao (Dg.dg 4294967296 n).length ca, .int .i64 e]] w (FindRes w (heldB R D L G gr n e) (fD R D L G gr n e) (fK R D L G gr n e)) := by
 have hdv : Dv w (.agg #[.bool s, .slice ao (Dg.dg 4294967296 n).length ca, .int .i64 e]) ⟨s, n, e⟩ := ⟨_, rfl, hr⟩
 obtain ⟨hR, d1, d2, l1, l2, g1, g2, lg, l16⟩ := gridC_zero hg
 by_cases h0 : n = 0
 ·have hh : heldB R D L G gr n e = true := decide_eq_true (.inl h0)
  rw [hh, show fD R D L G gr n e = 0 from if_pos h0, show fK R D L G gr n e = L from if_pos h0]
  refine mfind_zero R D L G gr s ao _ ca e w (fun w1 b => ?_)
  have := dsign_any _ _ w1 (hdv.later b)
  rwa [show signT ⟨s, n, e⟩ = 0 from if_pos h0] at this
 ·have hbn : bitLen n ≤ 32 * 1200 := bitLen_lenG hl
  have htz := tz_fits n 1200 hl
  obtain ⟨k1, k2, k3, k4⟩ := spotK_range (gr := gr) (n := n) (e := e) hg (by omega) (by omega) (by omega)
  have hbe : (bare ⟨s, n, e⟩).e = e + (tz n : Int) := (bare_top (t := ⟨s, n, e⟩) h0).2.1
  obtain ⟨⟨bs, bn, be⟩, hbt⟩ : ∃ b, bare ⟨s, n, e⟩ = b := ⟨_, rfl⟩
  rw [hbt] at hbe
  simp only at hbe
  have hi := held_iff (R := R) (D := D) (L := L) (G := G) (gr := gr) (e := e) h0
  refine mfindW R D L G gr s ao _ ca e (signT ⟨s, n, e⟩) (bitLen n) (powerR R D ((bitLen n : Int) - 1 + e)) (spotK R D L gr n e) (widthN R) bs bn be (decide (powerR R D ((bitLen n : Int) - 1 + e) < L)) (decide (powerR R D ((bitLen n : Int) - 1 + e) < L) && gr) (heldB R D L G gr n e) (fD R D L G gr n e) (fK R D L G gr n e) w ?_ ?_ ?_ ?_ ?_ rfl rfl ?_ ?_ ?_ ?_ ?_ ?_ ?_ ?_ ?_ ?_ ?_ ?_ ?_
  ·have : signT ⟨s, n, e⟩ ≠ 0 := by
    unfold signT
    rw [if_neg h0]
    split <;> decide
   simpa using this
  ·exact IntWalk.i64_in _ ⟨by omega, by omega⟩
  ·exact IntWalk.i64_in _ ⟨by omega, by omega⟩
  ·exact IntWalk.i64_in _ ⟨by omega, by omega⟩
  ·exact IntWalk.i64_in _ ⟨by omega, by omega⟩
  ·intro h
   exact if_pos h
  ·intro h
   exact if_neg (by rw [h]; decide)
  ·intro h
   have := hi.1 h
   omega
  ·intro h
   have : ¬(L ≤ spotK R D L gr n e ∧ spotK R D L gr n e ≤ G ∧ (widthN R : Int) * spotK R D L gr n e ≤ e + (tz n : Int)) := fun c => by
    rw [hi.2 c] at h
    cases h
   omega
  ·intro h
   exact (if_neg h0).trans (if_pos h)
  ·intro h
   have h2 : ¬heldB R D L G gr n e = true := by rw [h]; decide
   exact ⟨(if_neg h0).trans (if_neg h2), (if_neg h0).trans (if_neg h2)⟩
  ·intro w1 b
   exact dsign_any _ _ w1 (hdv.later b)
  ·intro w1
   exact digits_any s ao _ ca e w1
  ·intro w1 b
   have := bits_any _ _ w1 (hr.later b) (Dg.small_dg _ _ (by omega)) (Dg.norm_dg _ _ (by omega)) (by omega)
   rw [Dg.vl_dg _ _ (by omega)] at this
   refine this.mono ?_
   rintro z w' ⟨rfl, rfl⟩
   exact ⟨rfl, Below.refl _ _⟩
  ·intro w1
   exact gpower_any R D L G gr _ w1 d1 d2 (by omega) (by omega)
  ·intro w1
   have := width_any R D L G gr w1
   rwa [widthR_nat] at this
  ·intro w1 b
   have := dbare_any _ ⟨s, n, e⟩ w1 (hdv.later b) (by simp only; omega) ⟨by simp only; omega, by simp only; omega⟩ (hT.later b) (by simp only; omega)
   rwa [hbt] at this
  ·intro h w1 b
   have := shifted_any _ _ (e - (widthN R : Int) * spotK R D L gr n e) w1 (hr.later b) (Dg.small_dg _ _ (by omega)) (by omega) (by omega) (by omega)
   rw [Dg.vl_dg _ _ (by omega)] at this
   rw [show fD R D L G gr n e = shN n (e - (widthN R : Int) * spotK R D L gr n e) from (if_neg h0).trans (if_pos h)]
   exact this
end Go.Proofs.YtnhackdjplppjaaGreatDoor
namespace Go.Proofs.YtnhackdjplppjaaGreatDoor
open Go.RowKit
def FindAns (w : World) (h : Bool) (d : Nat) (k c : Int) (e : Ending) (w' : World) : Prop :=
 ∃ u, e = .returned (.tuple #[.agg #[u, .int .i64 k], .bool h, .int .i64 c]) ∧ Own w' w.heap.size 141 .u32 u (Dg.dg 4294967296 d) ∧ Below w.heap.size w w'
def FindS (w : World) (s9 s10 : Value) (hd : Bool) (rd : Nat) (rk : Int) (wx : World) : Prop :=
 ∃ pb so sc, s9 = .pointer (some ⟨pb, 0, none⟩) ∧ s10 = .bool hd ∧ w.heap.size + 1 + 1 ≠ pb ∧ w.heap.size ≤ pb ∧ LocE wx pb 163 [.slice so (Dg.dg 4294967296 rd).length sc, .int .i64 rk] ∧ Own wx w.heap.size 141 .u32 (.slice so (Dg.dg 4294967296 rd).length sc) (Dg.dg 4294967296 rd) ∧ LocE wx (w.heap.size + 1 + 1) 163 [.slice none 0 0, .int .i64 0] ∧ Below w.heap.size w wx
theorem findS_new {w wb : World} {hd : Bool} {rd : Nat} {rk : Int} {so : Option Addr} {sc : Nat} (hc : LocE wb (w.heap.size + 1 + 1) 163 [.slice none 0 0, .int .i64 0]) (ho : Own wb w.heap.size 141 .u32 (.slice so (Dg.dg 4294967296 rd).length sc) (Dg.dg 4294967296 rd)) (hb : Below w.heap.size w wb) :
  FindS w (.pointer (some ⟨wb.heap.size, 0, none⟩)) (.bool hd) hd rd rk (wb.alloc (.cells #[.slice so (Dg.dg 4294967296 rd).length sc, .int .i64 rk] 163)) := by
 have ba := below_alloc wb (.cells #[.slice so (Dg.dg 4294967296 rd).length sc, .int .i64 rk] 163)
 have := hc.lt
 exact ⟨_, so, sc, rfl, rfl, by omega, by omega, locE_new wb [.slice so (Dg.dg 4294967296 rd).length sc, .int .i64 rk] 163, ho.later ba, hc.later ba, below_trans hb ba⟩
theorem findS_set {w wb : World} {hd : Bool} {rd : Nat} {rk : Int} {so : Option Addr} {sc nb : Nat} (hc : LocE wb (w.heap.size + 1 + 1) 163 [.slice none 0 0, .int .i64 0]) (hn : LocE wb nb 163 [.slice none 0 0, .int .i64 0]) (ho : Own wb w.heap.size 141 .u32 (.slice so (Dg.dg 4294967296 rd).length sc) (Dg.dg 4294967296 rd)) (hb : Below w.heap.size w wb) (h1 : w.heap.size + 1 + 1 ≠ nb) (h2 : w.heap.size ≤ nb) :
  FindS w (.pointer (some ⟨nb, 0, none⟩)) (.bool hd) hd rd rk ((wb.setCell ⟨nb, 0, none⟩ (.slice so (Dg.dg 4294967296 rd).length sc)).setCell ⟨nb, 1, none⟩ (.int .i64 rk)) := by
 have bu := (but_set wb nb 0 (.slice so (Dg.dg 4294967296 rd).length sc)).trans (but_set _ nb 1 (.int .i64 rk))
 exact ⟨nb, so, sc, rfl, rfl, h1, h2, (hn.set 0 _).set 1 _, bu.own ho hn (by decide), bu.loc hc h1, bu.below hb h2⟩
set_option maxHeartbeats 3200000 in
theorem gfindW (R D L G : Int) (gr s : Bool) (ao : Option Addr) (la ca : Nat) (e dc gc c : Int) (hd : Bool) (rd : Nat) (rk : Int) (w : World)
  (HA : ¬dc = 0 → hd = false ∧ rd = 0 ∧ rk = 0 ∧ c = dc) (HB : dc = 0 → ¬gc = 0 → hd = false ∧ rd = 0 ∧ rk = 0 ∧ c = gc) (HC : dc = 0 → gc = 0 → c = 0)
  (HD : ∀ w1, Below w.heap.size w w1 → Calls Tryz.prog 162 #[.agg #[.bool s, .slice ao la ca, .int .i64 e]] w1 fun z w' => z = .returned (.int .i64 dc) ∧ Below w1.heap.size w1 w')
  (HG : ∀ w1, Calls Tryz.prog 102 #[.agg #[.int .i64 R, .int .i64 D, .int .i64 L, .int .i64 G, .bool gr]] w1 fun z w' => z = .returned (.int .i64 gc) ∧ Below w1.heap.size w1 w')
  (HO : ∀ w1, Calls Tryz.prog 138 #[.agg #[.bool s, .slice ao la ca, .int .i64 e]] w1 fun z w' => z = .returned (.agg #[.bool s, .slice ao la ca, .int .i64 e]) ∧ Below w1.heap.size w1 w')
  (HF : dc = 0 → gc = 0 → ∀ w1, Below w.heap.size w w1 → Calls Tryz.prog 163 #[.agg #[.int .i64 R, .int .i64 D, .int .i64 L, .int .i64 G, .bool gr], .agg #[.bool s, .slice ao la ca, .int .i64 e]] w1 (FindRes w1 hd rd rk)) :
  Calls Tryz.prog 106 #[.agg #[.bool s, .slice ao la ca, .int .i64 e], .agg #[.int .i64 R, .int .i64 D, .int .i64 L, .int .i64 G, .bool gr]] w (FindAns w hd rd rk c) := by
 replace HA : Hid _ := HA
 replace HB : Hid _ := HB
 replace HC : Hid _ := HC
 replace HD : Hid _ := HD
 replace HG : Hid _ := HG
 replace HO : Hid _ := HO
 replace HF : Hid _ := HF
 have b1 := below_trans (below_trans (below_alloc w (.cells #[.bool s, .slice ao la ca, .int .i64 e] 82)) (below_alloc _ (.cells #[.int .i64 R, .int .i64 D, .int .i64 L, .int .i64 G, .bool gr] 56))) (below_alloc _ (.cells #[.slice none 0 0, .int .i64 0] 163))
 have q1 := ((locE_new w [.bool s, .slice ao la ca, .int .i64 e] 82).later (below_alloc _ (.cells #[.int .i64 R, .int .i64 D, .int .i64 L, .int .i64 G, .bool gr] 56))).later (below_alloc _ (.cells #[.slice none 0 0, .int .i64 0] 163))
 have g1 := (locE_new (w.alloc (.cells #[.bool s, .slice ao la ca, .int .i64 e] 82)) [.int .i64 R, .int .i64 D, .int .i64 L, .int .i64 G, .bool gr] 56).later (below_alloc _ (.cells #[.slice none 0 0, .int .i64 0] 163))
 have c1 := locE_new ((w.alloc (.cells #[.bool s, .slice ao la ca, .int .i64 e] 82)).alloc (.cells #[.int .i64 R, .int .i64 D, .int .i64 L, .int .i64 G, .bool gr] 56)) [.slice none 0 0, .int .i64 0] 163
 simp only [World.size_alloc] at g1 c1
 by_cases hdc : dc = 0
 ·have HB1 : Hid _ := HB.out hdc
  have HC1 : Hid _ := HC.out hdc
  have HF1 : Hid _ := HF.out hdc
  clear HA HB HC HF
  subst hdc
  by_cases hgc : gc = 0
  ·have hc := HC1.out hgc
   have HF2 : Hid _ := HF1.out hgc
   clear HB1 HC1 HF1
   subst hgc hc
   obtain ⟨y0, y1, y2⟩ := q1.cs3
   go_enter Tryz.func106, Tryz.ntmps106
   go_wp2_with fail
   refine (HD.out _ b1).mono ?_
   rintro z w2 ⟨rfl, bb2⟩
   clear y0 y1 y2
   have g_2 := g1.later bb2
   have q_2 := q1.later bb2
   have c_2 := c1.later bb2
   have b0_2 := below_trans b1 bb2
   clear g1 q1 c1 b1 bb2
   obtain ⟨x0, x1, x2, x3, x4⟩ := g_2.cs5
   go_wp2_with fail
   refine (HG.out _).mono ?_
   rintro z w3 ⟨rfl, bb3⟩
   have g_3 := g_2.later bb3
   have q_3 := q_2.later bb3
   have c_3 := c_2.later bb3
   have b0_3 := below_trans b0_2 bb3
   clear g_2 q_2 c_2 b0_2 bb3
   clear x0 x1 x2 x3 x4
   have hR3 : w.heap.size + 1 + 1 < w3.heap.size := c_3.lt
   have be : Below w3.heap.size w3 (w3.alloc (.cells #[.slice none 0 0, .int .i64 0] 163)).drew := (below_alloc w3 (.cells #[.slice none 0 0, .int .i64 0] 163)).drew
   have g_e := g_3.later be
   have q_e := q_3.later be
   have c_e := c_3.later be
   have n_e := (locE_new w3 [.slice none 0 0, .int .i64 0] 163).drew
   have b_e := below_trans b0_3 be
   have bd_3 : Below w3.heap.size w3 w3.drew := (Below.refl _ _).drew
   have g_4 := g_3.later bd_3
   have q_4 := q_3.later bd_3
   have c_4 := c_3.later bd_3
   have b0_4 := below_trans b0_3 bd_3
   clear g_3 q_3 c_3 b0_3 bd_3
   obtain ⟨x0, x1, x2, x3, x4⟩ := g_4.cs5
   obtain ⟨y0, y1, y2⟩ := q_4.cs3
   have nn0 : w3.heap.size ≠ w.heap.size + 1 := by omega
   have nn1 : w3.heap.size ≠ w.heap.size := by omega
   obtain ⟨xe0, xe1, xe2, xe3, xe4⟩ := g_e.cs5
   obtain ⟨ye0, ye1, ye2⟩ := q_e.cs3
   go_upto_region 7 with fail
   go_cut [9, 10] (fun s9 s10 wx => FindS w s9 s10 hd rd rk wx)
   case first =>
    go_wp2_with fail
    go_region_held3 (fun wq => (wq.cell? ⟨w.heap.size + 1, 0, none⟩ = some (.int .i64 R) ∧ wq.cell? ⟨w.heap.size + 1, 1, none⟩ = some (.int .i64 D) ∧ wq.cell? ⟨w.heap.size + 1, 2, none⟩ = some (.int .i64 L) ∧ wq.cell? ⟨w.heap.size + 1, 3, none⟩ = some (.int .i64 G) ∧ wq.cell? ⟨w.heap.size + 1, 4, none⟩ = some (.bool gr)) ∧ wq.cell? ⟨w.heap.size, 0, none⟩ = some (.bool s) ∧ wq.cell? ⟨w.heap.size, 1, none⟩ = some (.slice ao la ca) ∧ wq.cell? ⟨w.heap.size, 2, none⟩ = some (.int .i64 e)) (go_keep) (first
     | (go_at_call 138; refine (HO.out _).mono ?_; rintro z wa ⟨rfl, ba⟩; have g_wa := g_4.later ba; have q_wa := q_4.later ba; have c_wa := c_4.later ba; have b_wa := below_trans b0_4 ba; obtain ⟨xwa0, xwa1, xwa2, xwa3, xwa4⟩ := g_wa.cs5; obtain ⟨ywa0, ywa1, ywa2⟩ := q_wa.cs3; have m0_wa := World.new_ne wa _ xwa0; have m1_wa := World.new_ne wa _ ywa0; have zab := below_alloc wa (.cells #[.slice none 0 0, .int .i64 0] 163); have zag := g_wa.later zab; have zaq := q_wa.later zab; obtain ⟨zax0, zax1, zax2, zax3, zax4⟩ := zag.cs5; obtain ⟨zay0, zay1, zay2⟩ := zaq.cs3)
     | (go_at_call 138; refine (HO.out _).mono ?_; rintro z wa ⟨rfl, ba⟩; have g_wa := g_e.later ba; have q_wa := q_e.later ba; have c_wa := c_e.later ba; have n_wa := n_e.later ba; have b_wa := below_trans b_e ba; obtain ⟨xwa0, xwa1, xwa2, xwa3, xwa4⟩ := g_wa.cs5; obtain ⟨ywa0, ywa1, ywa2⟩ := q_wa.cs3; have m0_wa := World.new_ne wa _ xwa0; have m1_wa := World.new_ne wa _ ywa0)
     | (go_at_call 163; have n_x := n_wa; clear n_x; refine (HF2.out _ b_wa).mono ?_; rintro z wb ⟨u, rfl, ou, bb⟩; have oL := ou.lower b_wa.size; have g_wb := g_wa.later bb; have q_wb := q_wa.later bb; have c_wb := c_wa.later bb; have n_wb := n_wa.later bb; have b_wb := below_trans b_wa bb; obtain ⟨so, sc, hu⟩ := ou.rd.shape; subst hu; obtain ⟨xwb0, xwb1, xwb2, xwb3, xwb4⟩ := g_wb.cs5; obtain ⟨ywb0, ywb1, ywb2⟩ := q_wb.cs3; have m0_wb := World.new_ne wb _ xwb0; have m1_wb := World.new_ne wb _ ywb0; obtain ⟨d0, d1⟩ := n_wb.cs2; have f0 := n_wb.free 0; have f1 := n_wb.free 1)
     | (go_at_call 163; refine (HF2.out _ b_wa).mono ?_; rintro z wb ⟨u, rfl, ou, bb⟩; have oL := ou.lower b_wa.size; have g_wb := g_wa.later bb; have q_wb := q_wa.later bb; have c_wb := c_wa.later bb; have b_wb := below_trans b_wa bb; obtain ⟨so, sc, hu⟩ := ou.rd.shape; subst hu; obtain ⟨xwb0, xwb1, xwb2, xwb3, xwb4⟩ := g_wb.cs5; obtain ⟨ywb0, ywb1, ywb2⟩ := q_wb.cs3; have m0_wb := World.new_ne wb _ xwb0; have m1_wb := World.new_ne wb _ ywb0; have zbb := below_alloc wb (.cells #[.slice none 0 0, .int .i64 0] 163); have zbg := g_wb.later zbb; have zbq := q_wb.later zbb; obtain ⟨zbx0, zbx1, zbx2, zbx3, zbx4⟩ := zbg.cs5; obtain ⟨zby0, zby1, zby2⟩ := zbq.cs3; have zcb := below_alloc wb (.cells #[.slice so (Dg.dg 4294967296 rd).length sc, .int .i64 rk] 163); have zcg := g_wb.later zcb; have zcq := q_wb.later zcb; obtain ⟨zcx0, zcx1, zcx2, zcx3, zcx4⟩ := zcg.cs5; obtain ⟨zcy0, zcy1, zcy2⟩ := zcq.cs3)
     | (go_at_call 163; have bn := below_alloc wa (.cells #[.slice none 0 0, .int .i64 0] 163); refine (HF2.out _ (below_trans b_wa bn)).mono ?_; rintro z wb ⟨u, rfl, ou, bb⟩; have oL := ou.lower (below_trans b_wa bn).size; have hRa : w.heap.size + 1 + 1 < wa.heap.size := c_wa.lt; have kk0 : wa.heap.size ≠ w.heap.size + 1 := (by omega); have kk1 : wa.heap.size ≠ w.heap.size := (by omega); have g_wb := (g_wa.later bn).later bb; have q_wb := (q_wa.later bn).later bb; have c_wb := (c_wa.later bn).later bb; have n_wb := (locE_new wa [.slice none 0 0, .int .i64 0] 163).later bb; have b_wb := below_trans (below_trans b_wa bn) bb; obtain ⟨so, sc, hu⟩ := ou.rd.shape; subst hu; obtain ⟨xwb0, xwb1, xwb2, xwb3, xwb4⟩ := g_wb.cs5; obtain ⟨ywb0, ywb1, ywb2⟩ := q_wb.cs3; have m0_wb := World.new_ne wb _ xwb0; have m1_wb := World.new_ne wb _ ywb0; obtain ⟨d0, d1⟩ := n_wb.cs2; have f0 := n_wb.free 0; have f1 := n_wb.free 1))
    all_goals (go_wp2_with fail)
    all_goals (first
     | (go_meet; exact findS_new c_wb oL b_wb)
     | (go_meet; exact findS_set c_wb n_wb oL b_wb (by omega) (by omega))
     | (go_meet; exact findS_set c_wb n_wb oL b_wb (by omega) (by omega)))
   case rest =>
    obtain ⟨pb, so, sc, rfl, rfl, hpb, hpw, n9, o9, c9, b9⟩ := hcut
    clear g_4 q_4 c_4 b0_4 g_e q_e c_e n_e b_e be nn0 nn1 x0 x1 x2 x3 x4 y0 y1 y2 xe0 xe1 xe2 xe3 xe4 ye0 ye1 ye2
    obtain ⟨p0, p1⟩ := n9.cs2
    have d0 := c9.cell 0 rfl
    have f0 := c9.free 0
    have d1 := c9.cell 1 rfl
    have f1 := c9.free 1
    go_wp2
    have bu : But (w.heap.size + 1 + 1) wc ((wc.setCell ⟨w.heap.size + 1 + 1, 0, none⟩ (.slice so (Dg.dg 4294967296 rd).length sc)).setCell ⟨w.heap.size + 1 + 1, 1, none⟩ (.int .i64 rk)) := (but_set wc (w.heap.size + 1 + 1) 0 (.slice so (Dg.dg 4294967296 rd).length sc)).trans (but_set _ (w.heap.size + 1 + 1) 1 (.int .i64 rk))
    have cX : LocE ((wc.setCell ⟨w.heap.size + 1 + 1, 0, none⟩ (.slice so (Dg.dg 4294967296 rd).length sc)).setCell ⟨w.heap.size + 1 + 1, 1, none⟩ (.int .i64 rk)) (w.heap.size + 1 + 1) 163 [.slice so (Dg.dg 4294967296 rd).length sc, .int .i64 rk] := (c9.set 0 (.slice so (Dg.dg 4294967296 rd).length sc)).set 1 (.int .i64 rk)
    have bX := bu.below b9 (show w.heap.size ≤ w.heap.size + 1 + 1 by omega)
    have oX := bu.own o9 c9 (by decide)
    obtain ⟨s0, s1⟩ := cX.cs2
    refine bodyPost_ret (v := .tuple #[.agg #[.slice so (Dg.dg 4294967296 rd).length sc, .int .i64 rk], .bool hd, .int .i64 0]) (by simp [results, Tryz.results106, go_sem, s0, s1]) rfl ?_
    exact ⟨_, rfl, oX, bX⟩
  ·obtain ⟨h1, h2, h3, h4⟩ := HB1.out hgc
   clear HB1 HC1 HF1
   have hgf : (gc == 0) = false := by simp [hgc]
   subst h1 h2 h3 h4
   obtain ⟨y0, y1, y2⟩ := q1.cs3
   go_enter Tryz.func106, Tryz.ntmps106
   go_wp2_with fail
   refine (HD.out _ b1).mono ?_
   rintro z w2 ⟨rfl, bb2⟩
   clear y0 y1 y2
   have g_2 := g1.later bb2
   have q_2 := q1.later bb2
   have c_2 := c1.later bb2
   have b0_2 := below_trans b1 bb2
   clear g1 q1 c1 b1 bb2
   obtain ⟨x0, x1, x2, x3, x4⟩ := g_2.cs5
   go_wp2_with fail
   refine (HG.out _).mono ?_
   rintro z w3 ⟨rfl, bb3⟩
   have g_3 := g_2.later bb3
   have q_3 := q_2.later bb3
   have c_3 := c_2.later bb3
   have b0_3 := below_trans b0_2 bb3
   clear g_2 q_2 c_2 b0_2 bb3
   clear x0 x1 x2 x3 x4
   have d0 := c_3.cell 0 rfl
   have f0 := c_3.free 0
   have d1 := c_3.cell 1 rfl
   have f1 := c_3.free 1
   go_wp2
   have bu : But (w.heap.size + 1 + 1) w3 ((w3.setCell ⟨w.heap.size + 1 + 1, 0, none⟩ (.slice none 0 0)).setCell ⟨w.heap.size + 1 + 1, 1, none⟩ (.int .i64 0)) := (but_set w3 (w.heap.size + 1 + 1) 0 (.slice none 0 0)).trans (but_set _ (w.heap.size + 1 + 1) 1 (.int .i64 0))
   have cX : LocE ((w3.setCell ⟨w.heap.size + 1 + 1, 0, none⟩ (.slice none 0 0)).setCell ⟨w.heap.size + 1 + 1, 1, none⟩ (.int .i64 0)) (w.heap.size + 1 + 1) 163 [.slice none 0 0, .int .i64 0] := (c_3.set 0 (.slice none 0 0)).set 1 (.int .i64 0)
   have bX := bu.below b0_3 (show w.heap.size ≤ w.heap.size + 1 + 1 by omega)
   obtain ⟨s0, s1⟩ := cX.cs2
   refine bodyPost_ret (v := .tuple #[.agg #[.slice none 0 0, .int .i64 0], .bool false, .int .i64 c]) (by simp [results, Tryz.results106, go_sem, s0, s1]) rfl ?_
   exact ⟨_, rfl, own_nil _ _ _ _, bX⟩
 ·obtain ⟨h1, h2, h3, h4⟩ := HA.out hdc
  clear HA HB HC HF
  have hdf : (dc == 0) = false := by simp [hdc]
  subst h1 h2 h3 h4
  obtain ⟨y0, y1, y2⟩ := q1.cs3
  go_enter Tryz.func106, Tryz.ntmps106
  go_wp2_with fail
  refine (HD.out _ b1).mono ?_
  rintro z w2 ⟨rfl, bb2⟩
  clear y0 y1 y2
  have g_2 := g1.later bb2
  have q_2 := q1.later bb2
  have c_2 := c1.later bb2
  have b0_2 := below_trans b1 bb2
  clear g1 q1 c1 b1 bb2
  have d0 := c_2.cell 0 rfl
  have f0 := c_2.free 0
  have d1 := c_2.cell 1 rfl
  have f1 := c_2.free 1
  go_wp2
  have bu : But (w.heap.size + 1 + 1) w2 ((w2.setCell ⟨w.heap.size + 1 + 1, 0, none⟩ (.slice none 0 0)).setCell ⟨w.heap.size + 1 + 1, 1, none⟩ (.int .i64 0)) := (but_set w2 (w.heap.size + 1 + 1) 0 (.slice none 0 0)).trans (but_set _ (w.heap.size + 1 + 1) 1 (.int .i64 0))
  have cX : LocE ((w2.setCell ⟨w.heap.size + 1 + 1, 0, none⟩ (.slice none 0 0)).setCell ⟨w.heap.size + 1 + 1, 1, none⟩ (.int .i64 0)) (w.heap.size + 1 + 1) 163 [.slice none 0 0, .int .i64 0] := (c_2.set 0 (.slice none 0 0)).set 1 (.int .i64 0)
  have bX := bu.below b0_2 (show w.heap.size ≤ w.heap.size + 1 + 1 by omega)
  obtain ⟨s0, s1⟩ := cX.cs2
  refine bodyPost_ret (v := .tuple #[.agg #[.slice none 0 0, .int .i64 0], .bool false, .int .i64 c]) (by simp [results, Tryz.results106, go_sem, s0, s1]) rfl ?_
  exact ⟨_, rfl, own_nil _ _ _ _, bX⟩
end Go.Proofs.YtnhackdjplppjaaGreatDoor
namespace Go.Proofs.YtnhackdjplppjaaGreatDoor
open Go.RowKit
def onC (dc gc : Int) : Int := if dc = 0 then gc else dc
end Go.Proofs.YtnhackdjplppjaaGreatDoor

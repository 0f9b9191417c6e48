/-
  Texts laid together: Gk1, Gk2, Gk3.
-/
import Derived.Test.YtmjhlflemfkflaaDoorGr7
import Derived.Test.YtmjhlflemfkflaaDoorGn
import Derived.Test.YtmjhlflemfkflaaDoorLk2
import Derived.Test.YtmjhlflemfkflaaDoorGm3
import Derived.Test.YtmjhlflemfkflaaDoorGr5
import Derived.Test.YtmjhlflemfkflaaDoorDn
import Derived.Test.YtmjhlflemfkflaaDoorGi
/-
  Grids: the walk of rounded.
-/
namespace Go.Proofs.YtmjhlflemfkflaaDoor
open Go.RowKit

/-- What is rounded, and whether it is in the grid. -/
def RndRes (w : World) (t : Trip) (ok : Bool) (e : Ending) (w' : World) : Prop :=
  ∃ s, e = .returned (.tuple #[.agg #[.bool t.s, s, .int .i64 t.e], .bool ok]) ∧ Own w' w.heap.size 69 .u32 s (Dg.dg 4294967296 t.n) ∧ Below w.heap.size w w'

set_option maxRecDepth 100000 in
set_option maxHeartbeats 3200000 in
theorem roundedW (qs : Bool) (ao : Option Addr) (la ca : Nat) (bo : Option Addr) (lb cb : Nat) (E R D L G : Int) (gr : Bool) (way c : Int) (ts : Bool) (td : Nat) (tp : Int) (tx tv tu : Bool) (nc : Int) (rs : Bool) (rn : Nat) (re : Int) (bad : Bool) (w : World)
    (HB1 : bad = true → ¬c = 0 ∨ (c = 0 ∧ tv = true) ∨ (c = 0 ∧ tv = false ∧ tu = true ∧ gr = false)) (HB2 : bad = false → c = 0 ∧ tv = false ∧ (tu = false ∨ gr = true))
    (HRO : ∀ w1, Below w.heap.size w w1 → Calls Tryd.prog 32 #[.agg #[.bool qs, .slice ao la ca, .slice bo lb cb, .int .i64 E], .agg #[.int .i64 R, .int .i64 D, .int .i64 L, .int .i64 G, .bool gr], .int .i64 way] w1 (PlaceAns w1 c ⟨ts, td, tp, tx, tv, tu⟩))
    (HNU : bad = false → ∀ xo xc w1, Below w.heap.size w w1 → Rd w1 .u32 (.slice xo (Dg.dg 4294967296 td).length xc) (Dg.dg 4294967296 td) → Calls Tryd.prog 15 #[.agg #[.bool ts, .slice xo (Dg.dg 4294967296 td).length xc, .int .i64 tp, .bool tx, .bool tv, .bool tu], .agg #[.int .i64 R, .int .i64 D, .int .i64 L, .int .i64 G, .bool gr]] w1 (DAns w1 (⟨rs, rn, re⟩, nc)))
    (HZ : bad = true → rs = false ∧ rn = 0 ∧ re = 0) :
    Calls Tryd.prog 30 #[.agg #[.bool qs, .slice ao la ca, .slice bo lb cb, .int .i64 E], .agg #[.int .i64 R, .int .i64 D, .int .i64 L, .int .i64 G, .bool gr], .int .i64 way] w (RndRes w ⟨rs, rn, re⟩ (!bad && (nc == 0))) := by
  replace HB1 : Hid _ := HB1
  replace HB2 : Hid _ := HB2
  replace HRO : Hid _ := HRO
  replace HNU : Hid _ := HNU
  replace HZ : Hid _ := HZ
  have b1 := below_trans (below_trans (below_alloc w (.cells #[.bool qs, .slice ao la ca, .slice bo lb cb, .int .i64 E] 62)) (below_alloc _ (.cells #[.int .i64 R, .int .i64 D, .int .i64 L, .int .i64 G, .bool gr] 39))) (below_alloc _ (.cells #[.bool false, .slice none 0 0, .int .i64 0] 25))
  have q1 := ((locE_new w [.bool qs, .slice ao la ca, .slice bo lb cb, .int .i64 E] 62).later (below_alloc _ (.cells #[.int .i64 R, .int .i64 D, .int .i64 L, .int .i64 G, .bool gr] 39))).later (below_alloc _ (.cells #[.bool false, .slice none 0 0, .int .i64 0] 25))
  have g1 := (locE_new (w.alloc (.cells #[.bool qs, .slice ao la ca, .slice bo lb cb, .int .i64 E] 62)) [.int .i64 R, .int .i64 D, .int .i64 L, .int .i64 G, .bool gr] 39).later (below_alloc _ (.cells #[.bool false, .slice none 0 0, .int .i64 0] 25))
  have c1 := locE_new ((w.alloc (.cells #[.bool qs, .slice ao la ca, .slice bo lb cb, .int .i64 E] 62)).alloc (.cells #[.int .i64 R, .int .i64 D, .int .i64 L, .int .i64 G, .bool gr] 39)) [.bool false, .slice none 0 0, .int .i64 0] 25
  simp only [World.size_alloc] at g1 c1
  cases bad
  · obtain ⟨hc, hv, hu⟩ := HB2.out rfl
    have HN1 : Hid _ := HNU.out rfl
    clear HB1 HB2 HNU HZ
    subst hc hv
    rcases hu with hu | hu
    · subst hu
      have y0 := q1.cell 0 rfl
      have y1 := q1.cell 1 rfl
      have y2 := q1.cell 2 rfl
      have y3 := q1.cell 3 rfl
      have x0 := g1.cell 0 rfl
      have x1 := g1.cell 1 rfl
      have x2 := g1.cell 2 rfl
      have x3 := g1.cell 3 rfl
      have x4 := g1.cell 4 rfl
      go_enter Tryd.func30, Tryd.ntmps30
      go_wp2_with fail
      refine (HRO.out _ b1).mono ?_
      rintro z w2 ⟨v2, rfl, o2, bb2⟩
      obtain ⟨xo, xc, hx2⟩ := o2.rd.shape
      subst hx2
      have r2 := o2.rd
      simp only at r2 ⊢
      clear y0 y1 y2 y3 x0 x1 x2 x3 x4 o2
      have q_2 := q1.later bb2
      have g_2 := g1.later bb2
      have c_2 := c1.later bb2
      have b0_2 := below_trans b1 bb2
      clear q1 g1 c1 b1 bb2
      have ap := below_alloc w2 (.cells #[.bool ts, .slice xo (Dg.dg 4294967296 td).length xc, .int .i64 tp, .bool tx, .bool false, .bool false] 37)
      have p2 := locE_new w2 [.bool ts, .slice xo (Dg.dg 4294967296 td).length xc, .int .i64 tp, .bool tx, .bool false, .bool false] 37
      have hPa : w.heap.size + 1 + 1 < w2.heap.size := c_2.lt
      have q_3 := q_2.later ap
      have g_3 := g_2.later ap
      have c_3 := c_2.later ap
      have r_3 := r2.later ap
      have b0_3 := below_trans b0_2 ap
      clear q_2 g_2 c_2 r2 b0_2 ap
      go_upto_region 2 with fail
      generalize w2.alloc (.cells #[.bool ts, .slice xo (Dg.dg 4294967296 td).length xc, .int .i64 tp, .bool tx, .bool false, .bool false] 37) = W2 at q_3 g_3 c_3 r_3 p2 b0_3 ⊢
      generalize w2.heap.size = PA at p2 hPa ⊢
      have y0 := p2.cell 0 rfl
      have y1 := p2.cell 1 rfl
      have y2 := p2.cell 2 rfl
      have y3 := p2.cell 3 rfl
      have y4 := p2.cell 4 rfl
      have y5 := p2.cell 5 rfl
      have x0 := g_3.cell 0 rfl
      have x1 := g_3.cell 1 rfl
      have x2 := g_3.cell 2 rfl
      have x3 := g_3.cell 3 rfl
      have x4 := g_3.cell 4 rfl
      go_wp2_with fail
      refine (HN1.out _ _ _ b0_3 r_3).mono ?_
      rintro z w3 ⟨v3, rfl, o3, bb3⟩
      have oL := o3.lower b0_3.size
      obtain ⟨so, sc, hx3⟩ := oL.rd.shape
      subst hx3
      clear o3 y0 y1 y2 y3 y4 y5 x0 x1 x2 x3 x4
      have q_4 := q_3.later bb3
      have g_4 := g_3.later bb3
      have c_4 := c_3.later bb3
      have r_4 := r_3.later bb3
      have p_4 := p2.later bb3
      have b0_4 := below_trans b0_3 bb3
      clear q_3 g_3 c_3 r_3 p2 b0_3 bb3
      have an := below_alloc w3 (.cells #[.bool rs, .slice so (Dg.dg 4294967296 rn).length sc, .int .i64 re] 25)
      have n3 := locE_new w3 [.bool rs, .slice so (Dg.dg 4294967296 rn).length sc, .int .i64 re] 25
      have hPb : w.heap.size + 1 + 1 < w3.heap.size := c_4.lt
      have q_5 := q_4.later an
      have g_5 := g_4.later an
      have c_5 := c_4.later an
      have r_5 := r_4.later an
      have p_5 := p_4.later an
      have o_5 := oL.later an
      have b0_5 := below_trans b0_4 an
      clear q_4 g_4 c_4 r_4 p_4 oL b0_4 an
      go_upto_region 5 with fail
      generalize w3.alloc (.cells #[.bool rs, .slice so (Dg.dg 4294967296 rn).length sc, .int .i64 re] 25) = W3 at q_5 g_5 c_5 r_5 p_5 o_5 n3 b0_5 ⊢
      generalize w3.heap.size = PB at n3 hPb ⊢
      have y0 := n3.cell 0 rfl
      have y1 := n3.cell 1 rfl
      have y2 := n3.cell 2 rfl
      have d0 := c_5.cell 0 rfl
      have f0 := c_5.free 0
      have d1 := c_5.cell 1 rfl
      have f1 := c_5.free 1
      have d2 := c_5.cell 2 rfl
      have f2 := c_5.free 2
      go_wp2
      have bu : But (w.heap.size + 1 + 1) W3 (((W3.setCell ⟨w.heap.size + 1 + 1, 0, none⟩ (.bool rs)).setCell ⟨w.heap.size + 1 + 1, 1, none⟩ (.slice so (Dg.dg 4294967296 rn).length sc)).setCell ⟨w.heap.size + 1 + 1, 2, none⟩ (.int .i64 re)) := ((but_set W3 (w.heap.size + 1 + 1) 0 (.bool rs)).trans (but_set _ (w.heap.size + 1 + 1) 1 (.slice so (Dg.dg 4294967296 rn).length sc))).trans (but_set _ (w.heap.size + 1 + 1) 2 (.int .i64 re))
      have cX : LocE (((W3.setCell ⟨w.heap.size + 1 + 1, 0, none⟩ (.bool rs)).setCell ⟨w.heap.size + 1 + 1, 1, none⟩ (.slice so (Dg.dg 4294967296 rn).length sc)).setCell ⟨w.heap.size + 1 + 1, 2, none⟩ (.int .i64 re)) (w.heap.size + 1 + 1) 25 [.bool rs, .slice so (Dg.dg 4294967296 rn).length sc, .int .i64 re] := ((c_5.set 0 (.bool rs)).set 1 (.slice so (Dg.dg 4294967296 rn).length sc)).set 2 (.int .i64 re)
      have bX := bu.below b0_5 (show w.heap.size ≤ w.heap.size + 1 + 1 by omega)
      have oX := bu.own o_5 c_5 (by decide)
      have s0 := cX.cell 0 rfl
      have s1 := cX.cell 1 rfl
      have s2 := cX.cell 2 rfl
      refine bodyPost_ret (v := .tuple #[.agg #[.bool rs, .slice so (Dg.dg 4294967296 rn).length sc, .int .i64 re], .bool (nc == 0)]) (by simp [results, Tryd.results30, go_sem, s0, s1, s2]) rfl ?_
      exact ⟨_, by simp, oX, bX⟩
    · subst hu
      cases tu
      · skip
        have y0 := q1.cell 0 rfl
        have y1 := q1.cell 1 rfl
        have y2 := q1.cell 2 rfl
        have y3 := q1.cell 3 rfl
        have x0 := g1.cell 0 rfl
        have x1 := g1.cell 1 rfl
        have x2 := g1.cell 2 rfl
        have x3 := g1.cell 3 rfl
        have x4 := g1.cell 4 rfl
        go_enter Tryd.func30, Tryd.ntmps30
        go_wp2_with fail
        refine (HRO.out _ b1).mono ?_
        rintro z w2 ⟨v2, rfl, o2, bb2⟩
        obtain ⟨xo, xc, hx2⟩ := o2.rd.shape
        subst hx2
        have r2 := o2.rd
        simp only at r2 ⊢
        clear y0 y1 y2 y3 x0 x1 x2 x3 x4 o2
        have q_2 := q1.later bb2
        have g_2 := g1.later bb2
        have c_2 := c1.later bb2
        have b0_2 := below_trans b1 bb2
        clear q1 g1 c1 b1 bb2
        have ap := below_alloc w2 (.cells #[.bool ts, .slice xo (Dg.dg 4294967296 td).length xc, .int .i64 tp, .bool tx, .bool false, .bool false] 37)
        have p2 := locE_new w2 [.bool ts, .slice xo (Dg.dg 4294967296 td).length xc, .int .i64 tp, .bool tx, .bool false, .bool false] 37
        have hPa : w.heap.size + 1 + 1 < w2.heap.size := c_2.lt
        have q_3 := q_2.later ap
        have g_3 := g_2.later ap
        have c_3 := c_2.later ap
        have r_3 := r2.later ap
        have b0_3 := below_trans b0_2 ap
        clear q_2 g_2 c_2 r2 b0_2 ap
        go_upto_region 2 with fail
        generalize w2.alloc (.cells #[.bool ts, .slice xo (Dg.dg 4294967296 td).length xc, .int .i64 tp, .bool tx, .bool false, .bool false] 37) = W2 at q_3 g_3 c_3 r_3 p2 b0_3 ⊢
        generalize w2.heap.size = PA at p2 hPa ⊢
        have y0 := p2.cell 0 rfl
        have y1 := p2.cell 1 rfl
        have y2 := p2.cell 2 rfl
        have y3 := p2.cell 3 rfl
        have y4 := p2.cell 4 rfl
        have y5 := p2.cell 5 rfl
        have x0 := g_3.cell 0 rfl
        have x1 := g_3.cell 1 rfl
        have x2 := g_3.cell 2 rfl
        have x3 := g_3.cell 3 rfl
        have x4 := g_3.cell 4 rfl
        go_wp2_with fail
        refine (HN1.out _ _ _ b0_3 r_3).mono ?_
        rintro z w3 ⟨v3, rfl, o3, bb3⟩
        have oL := o3.lower b0_3.size
        obtain ⟨so, sc, hx3⟩ := oL.rd.shape
        subst hx3
        clear o3 y0 y1 y2 y3 y4 y5 x0 x1 x2 x3 x4
        have q_4 := q_3.later bb3
        have g_4 := g_3.later bb3
        have c_4 := c_3.later bb3
        have r_4 := r_3.later bb3
        have p_4 := p2.later bb3
        have b0_4 := below_trans b0_3 bb3
        clear q_3 g_3 c_3 r_3 p2 b0_3 bb3
        have an := below_alloc w3 (.cells #[.bool rs, .slice so (Dg.dg 4294967296 rn).length sc, .int .i64 re] 25)
        have n3 := locE_new w3 [.bool rs, .slice so (Dg.dg 4294967296 rn).length sc, .int .i64 re] 25
        have hPb : w.heap.size + 1 + 1 < w3.heap.size := c_4.lt
        have q_5 := q_4.later an
        have g_5 := g_4.later an
        have c_5 := c_4.later an
        have r_5 := r_4.later an
        have p_5 := p_4.later an
        have o_5 := oL.later an
        have b0_5 := below_trans b0_4 an
        clear q_4 g_4 c_4 r_4 p_4 oL b0_4 an
        go_upto_region 5 with fail
        generalize w3.alloc (.cells #[.bool rs, .slice so (Dg.dg 4294967296 rn).length sc, .int .i64 re] 25) = W3 at q_5 g_5 c_5 r_5 p_5 o_5 n3 b0_5 ⊢
        generalize w3.heap.size = PB at n3 hPb ⊢
        have y0 := n3.cell 0 rfl
        have y1 := n3.cell 1 rfl
        have y2 := n3.cell 2 rfl
        have d0 := c_5.cell 0 rfl
        have f0 := c_5.free 0
        have d1 := c_5.cell 1 rfl
        have f1 := c_5.free 1
        have d2 := c_5.cell 2 rfl
        have f2 := c_5.free 2
        go_wp2
        have bu : But (w.heap.size + 1 + 1) W3 (((W3.setCell ⟨w.heap.size + 1 + 1, 0, none⟩ (.bool rs)).setCell ⟨w.heap.size + 1 + 1, 1, none⟩ (.slice so (Dg.dg 4294967296 rn).length sc)).setCell ⟨w.heap.size + 1 + 1, 2, none⟩ (.int .i64 re)) := ((but_set W3 (w.heap.size + 1 + 1) 0 (.bool rs)).trans (but_set _ (w.heap.size + 1 + 1) 1 (.slice so (Dg.dg 4294967296 rn).length sc))).trans (but_set _ (w.heap.size + 1 + 1) 2 (.int .i64 re))
        have cX : LocE (((W3.setCell ⟨w.heap.size + 1 + 1, 0, none⟩ (.bool rs)).setCell ⟨w.heap.size + 1 + 1, 1, none⟩ (.slice so (Dg.dg 4294967296 rn).length sc)).setCell ⟨w.heap.size + 1 + 1, 2, none⟩ (.int .i64 re)) (w.heap.size + 1 + 1) 25 [.bool rs, .slice so (Dg.dg 4294967296 rn).length sc, .int .i64 re] := ((c_5.set 0 (.bool rs)).set 1 (.slice so (Dg.dg 4294967296 rn).length sc)).set 2 (.int .i64 re)
        have bX := bu.below b0_5 (show w.heap.size ≤ w.heap.size + 1 + 1 by omega)
        have oX := bu.own o_5 c_5 (by decide)
        have s0 := cX.cell 0 rfl
        have s1 := cX.cell 1 rfl
        have s2 := cX.cell 2 rfl
        refine bodyPost_ret (v := .tuple #[.agg #[.bool rs, .slice so (Dg.dg 4294967296 rn).length sc, .int .i64 re], .bool (nc == 0)]) (by simp [results, Tryd.results30, go_sem, s0, s1, s2]) rfl ?_
        exact ⟨_, by simp, oX, bX⟩
      · skip
        have y0 := q1.cell 0 rfl
        have y1 := q1.cell 1 rfl
        have y2 := q1.cell 2 rfl
        have y3 := q1.cell 3 rfl
        have x0 := g1.cell 0 rfl
        have x1 := g1.cell 1 rfl
        have x2 := g1.cell 2 rfl
        have x3 := g1.cell 3 rfl
        have x4 := g1.cell 4 rfl
        go_enter Tryd.func30, Tryd.ntmps30
        go_wp2_with fail
        refine (HRO.out _ b1).mono ?_
        rintro z w2 ⟨v2, rfl, o2, bb2⟩
        obtain ⟨xo, xc, hx2⟩ := o2.rd.shape
        subst hx2
        have r2 := o2.rd
        simp only at r2 ⊢
        clear y0 y1 y2 y3 x0 x1 x2 x3 x4 o2
        have q_2 := q1.later bb2
        have g_2 := g1.later bb2
        have c_2 := c1.later bb2
        have b0_2 := below_trans b1 bb2
        clear q1 g1 c1 b1 bb2
        have ap := below_alloc w2 (.cells #[.bool ts, .slice xo (Dg.dg 4294967296 td).length xc, .int .i64 tp, .bool tx, .bool false, .bool true] 37)
        have p2 := locE_new w2 [.bool ts, .slice xo (Dg.dg 4294967296 td).length xc, .int .i64 tp, .bool tx, .bool false, .bool true] 37
        have hPa : w.heap.size + 1 + 1 < w2.heap.size := c_2.lt
        have q_3 := q_2.later ap
        have g_3 := g_2.later ap
        have c_3 := c_2.later ap
        have r_3 := r2.later ap
        have b0_3 := below_trans b0_2 ap
        clear q_2 g_2 c_2 r2 b0_2 ap
        go_upto_region 2 with fail
        generalize w2.alloc (.cells #[.bool ts, .slice xo (Dg.dg 4294967296 td).length xc, .int .i64 tp, .bool tx, .bool false, .bool true] 37) = W2 at q_3 g_3 c_3 r_3 p2 b0_3 ⊢
        generalize w2.heap.size = PA at p2 hPa ⊢
        have y0 := p2.cell 0 rfl
        have y1 := p2.cell 1 rfl
        have y2 := p2.cell 2 rfl
        have y3 := p2.cell 3 rfl
        have y4 := p2.cell 4 rfl
        have y5 := p2.cell 5 rfl
        have x0 := g_3.cell 0 rfl
        have x1 := g_3.cell 1 rfl
        have x2 := g_3.cell 2 rfl
        have x3 := g_3.cell 3 rfl
        have x4 := g_3.cell 4 rfl
        go_wp2_with fail
        refine (HN1.out _ _ _ b0_3 r_3).mono ?_
        rintro z w3 ⟨v3, rfl, o3, bb3⟩
        have oL := o3.lower b0_3.size
        obtain ⟨so, sc, hx3⟩ := oL.rd.shape
        subst hx3
        clear o3 y0 y1 y2 y3 y4 y5 x0 x1 x2 x3 x4
        have q_4 := q_3.later bb3
        have g_4 := g_3.later bb3
        have c_4 := c_3.later bb3
        have r_4 := r_3.later bb3
        have p_4 := p2.later bb3
        have b0_4 := below_trans b0_3 bb3
        clear q_3 g_3 c_3 r_3 p2 b0_3 bb3
        have an := below_alloc w3 (.cells #[.bool rs, .slice so (Dg.dg 4294967296 rn).length sc, .int .i64 re] 25)
        have n3 := locE_new w3 [.bool rs, .slice so (Dg.dg 4294967296 rn).length sc, .int .i64 re] 25
        have hPb : w.heap.size + 1 + 1 < w3.heap.size := c_4.lt
        have q_5 := q_4.later an
        have g_5 := g_4.later an
        have c_5 := c_4.later an
        have r_5 := r_4.later an
        have p_5 := p_4.later an
        have o_5 := oL.later an
        have b0_5 := below_trans b0_4 an
        clear q_4 g_4 c_4 r_4 p_4 oL b0_4 an
        go_upto_region 5 with fail
        generalize w3.alloc (.cells #[.bool rs, .slice so (Dg.dg 4294967296 rn).length sc, .int .i64 re] 25) = W3 at q_5 g_5 c_5 r_5 p_5 o_5 n3 b0_5 ⊢
        generalize w3.heap.size = PB at n3 hPb ⊢
        have y0 := n3.cell 0 rfl
        have y1 := n3.cell 1 rfl
        have y2 := n3.cell 2 rfl
        have d0 := c_5.cell 0 rfl
        have f0 := c_5.free 0
        have d1 := c_5.cell 1 rfl
        have f1 := c_5.free 1
        have d2 := c_5.cell 2 rfl
        have f2 := c_5.free 2
        go_wp2
        have bu : But (w.heap.size + 1 + 1) W3 (((W3.setCell ⟨w.heap.size + 1 + 1, 0, none⟩ (.bool rs)).setCell ⟨w.heap.size + 1 + 1, 1, none⟩ (.slice so (Dg.dg 4294967296 rn).length sc)).setCell ⟨w.heap.size + 1 + 1, 2, none⟩ (.int .i64 re)) := ((but_set W3 (w.heap.size + 1 + 1) 0 (.bool rs)).trans (but_set _ (w.heap.size + 1 + 1) 1 (.slice so (Dg.dg 4294967296 rn).length sc))).trans (but_set _ (w.heap.size + 1 + 1) 2 (.int .i64 re))
        have cX : LocE (((W3.setCell ⟨w.heap.size + 1 + 1, 0, none⟩ (.bool rs)).setCell ⟨w.heap.size + 1 + 1, 1, none⟩ (.slice so (Dg.dg 4294967296 rn).length sc)).setCell ⟨w.heap.size + 1 + 1, 2, none⟩ (.int .i64 re)) (w.heap.size + 1 + 1) 25 [.bool rs, .slice so (Dg.dg 4294967296 rn).length sc, .int .i64 re] := ((c_5.set 0 (.bool rs)).set 1 (.slice so (Dg.dg 4294967296 rn).length sc)).set 2 (.int .i64 re)
        have bX := bu.below b0_5 (show w.heap.size ≤ w.heap.size + 1 + 1 by omega)
        have oX := bu.own o_5 c_5 (by decide)
        have s0 := cX.cell 0 rfl
        have s1 := cX.cell 1 rfl
        have s2 := cX.cell 2 rfl
        refine bodyPost_ret (v := .tuple #[.agg #[.bool rs, .slice so (Dg.dg 4294967296 rn).length sc, .int .i64 re], .bool (nc == 0)]) (by simp [results, Tryd.results30, go_sem, s0, s1, s2]) rfl ?_
        exact ⟨_, by simp, oX, bX⟩
  · obtain ⟨h1, h2, h3⟩ := HZ.out rfl
    have hb := HB1.out rfl
    clear HB1 HB2 HNU HZ
    subst h1 h2 h3
    rcases hb with hb | ⟨hb, hv⟩ | ⟨hb, hv, hu, hg⟩
    · have hcf : (c == 0) = false := by simp [hb]
      have y0 := q1.cell 0 rfl
      have y1 := q1.cell 1 rfl
      have y2 := q1.cell 2 rfl
      have y3 := q1.cell 3 rfl
      have x0 := g1.cell 0 rfl
      have x1 := g1.cell 1 rfl
      have x2 := g1.cell 2 rfl
      have x3 := g1.cell 3 rfl
      have x4 := g1.cell 4 rfl
      go_enter Tryd.func30, Tryd.ntmps30
      go_wp2_with fail
      refine (HRO.out _ b1).mono ?_
      rintro z w2 ⟨v2, rfl, o2, bb2⟩
      obtain ⟨xo, xc, hx2⟩ := o2.rd.shape
      subst hx2
      have r2 := o2.rd
      simp only at r2 ⊢
      clear y0 y1 y2 y3 x0 x1 x2 x3 x4 o2
      have q_2 := q1.later bb2
      have g_2 := g1.later bb2
      have c_2 := c1.later bb2
      have b0_2 := below_trans b1 bb2
      clear q1 g1 c1 b1 bb2
      have ap := below_alloc w2 (.cells #[.bool ts, .slice xo (Dg.dg 4294967296 td).length xc, .int .i64 tp, .bool tx, .bool tv, .bool tu] 37)
      have p2 := locE_new w2 [.bool ts, .slice xo (Dg.dg 4294967296 td).length xc, .int .i64 tp, .bool tx, .bool tv, .bool tu] 37
      have hPa : w.heap.size + 1 + 1 < w2.heap.size := c_2.lt
      have q_3 := q_2.later ap
      have g_3 := g_2.later ap
      have c_3 := c_2.later ap
      have r_3 := r2.later ap
      have b0_3 := below_trans b0_2 ap
      clear q_2 g_2 c_2 r2 b0_2 ap
      go_upto_region 2 with fail
      generalize w2.alloc (.cells #[.bool ts, .slice xo (Dg.dg 4294967296 td).length xc, .int .i64 tp, .bool tx, .bool tv, .bool tu] 37) = W2 at q_3 g_3 c_3 r_3 p2 b0_3 ⊢
      generalize w2.heap.size = PA at p2 hPa ⊢
      have y0 := p2.cell 0 rfl
      have y1 := p2.cell 1 rfl
      have y2 := p2.cell 2 rfl
      have y3 := p2.cell 3 rfl
      have y4 := p2.cell 4 rfl
      have y5 := p2.cell 5 rfl
      have x0 := g_3.cell 0 rfl
      have x1 := g_3.cell 1 rfl
      have x2 := g_3.cell 2 rfl
      have x3 := g_3.cell 3 rfl
      have x4 := g_3.cell 4 rfl
      have d0 := c_3.cell 0 rfl
      have f0 := c_3.free 0
      have d1 := c_3.cell 1 rfl
      have f1 := c_3.free 1
      have d2 := c_3.cell 2 rfl
      have f2 := c_3.free 2
      go_wp2
      have bu : But (w.heap.size + 1 + 1) W2 (((W2.setCell ⟨w.heap.size + 1 + 1, 0, none⟩ (.bool false)).setCell ⟨w.heap.size + 1 + 1, 1, none⟩ (.slice none 0 0)).setCell ⟨w.heap.size + 1 + 1, 2, none⟩ (.int .i64 0)) := ((but_set W2 (w.heap.size + 1 + 1) 0 (.bool false)).trans (but_set _ (w.heap.size + 1 + 1) 1 (.slice none 0 0))).trans (but_set _ (w.heap.size + 1 + 1) 2 (.int .i64 0))
      have cX : LocE (((W2.setCell ⟨w.heap.size + 1 + 1, 0, none⟩ (.bool false)).setCell ⟨w.heap.size + 1 + 1, 1, none⟩ (.slice none 0 0)).setCell ⟨w.heap.size + 1 + 1, 2, none⟩ (.int .i64 0)) (w.heap.size + 1 + 1) 25 [.bool false, .slice none 0 0, .int .i64 0] := ((c_3.set 0 (.bool false)).set 1 (.slice none 0 0)).set 2 (.int .i64 0)
      have bX := bu.below b0_3 (show w.heap.size ≤ w.heap.size + 1 + 1 by omega)
      have s0 := cX.cell 0 rfl
      have s1 := cX.cell 1 rfl
      have s2 := cX.cell 2 rfl
      refine bodyPost_ret (v := .tuple #[.agg #[.bool false, .slice none 0 0, .int .i64 0], .bool false]) (by simp [results, Tryd.results30, go_sem, s0, s1, s2]) rfl ?_
      exact ⟨_, by simp, own_nil _ _ _ _, bX⟩
    · subst hb hv
      have y0 := q1.cell 0 rfl
      have y1 := q1.cell 1 rfl
      have y2 := q1.cell 2 rfl
      have y3 := q1.cell 3 rfl
      have x0 := g1.cell 0 rfl
      have x1 := g1.cell 1 rfl
      have x2 := g1.cell 2 rfl
      have x3 := g1.cell 3 rfl
      have x4 := g1.cell 4 rfl
      go_enter Tryd.func30, Tryd.ntmps30
      go_wp2_with fail
      refine (HRO.out _ b1).mono ?_
      rintro z w2 ⟨v2, rfl, o2, bb2⟩
      obtain ⟨xo, xc, hx2⟩ := o2.rd.shape
      subst hx2
      have r2 := o2.rd
      simp only at r2 ⊢
      clear y0 y1 y2 y3 x0 x1 x2 x3 x4 o2
      have q_2 := q1.later bb2
      have g_2 := g1.later bb2
      have c_2 := c1.later bb2
      have b0_2 := below_trans b1 bb2
      clear q1 g1 c1 b1 bb2
      have ap := below_alloc w2 (.cells #[.bool ts, .slice xo (Dg.dg 4294967296 td).length xc, .int .i64 tp, .bool tx, .bool true, .bool tu] 37)
      have p2 := locE_new w2 [.bool ts, .slice xo (Dg.dg 4294967296 td).length xc, .int .i64 tp, .bool tx, .bool true, .bool tu] 37
      have hPa : w.heap.size + 1 + 1 < w2.heap.size := c_2.lt
      have q_3 := q_2.later ap
      have g_3 := g_2.later ap
      have c_3 := c_2.later ap
      have r_3 := r2.later ap
      have b0_3 := below_trans b0_2 ap
      clear q_2 g_2 c_2 r2 b0_2 ap
      go_upto_region 2 with fail
      generalize w2.alloc (.cells #[.bool ts, .slice xo (Dg.dg 4294967296 td).length xc, .int .i64 tp, .bool tx, .bool true, .bool tu] 37) = W2 at q_3 g_3 c_3 r_3 p2 b0_3 ⊢
      generalize w2.heap.size = PA at p2 hPa ⊢
      have y0 := p2.cell 0 rfl
      have y1 := p2.cell 1 rfl
      have y2 := p2.cell 2 rfl
      have y3 := p2.cell 3 rfl
      have y4 := p2.cell 4 rfl
      have y5 := p2.cell 5 rfl
      have x0 := g_3.cell 0 rfl
      have x1 := g_3.cell 1 rfl
      have x2 := g_3.cell 2 rfl
      have x3 := g_3.cell 3 rfl
      have x4 := g_3.cell 4 rfl
      have d0 := c_3.cell 0 rfl
      have f0 := c_3.free 0
      have d1 := c_3.cell 1 rfl
      have f1 := c_3.free 1
      have d2 := c_3.cell 2 rfl
      have f2 := c_3.free 2
      go_wp2
      have bu : But (w.heap.size + 1 + 1) W2 (((W2.setCell ⟨w.heap.size + 1 + 1, 0, none⟩ (.bool false)).setCell ⟨w.heap.size + 1 + 1, 1, none⟩ (.slice none 0 0)).setCell ⟨w.heap.size + 1 + 1, 2, none⟩ (.int .i64 0)) := ((but_set W2 (w.heap.size + 1 + 1) 0 (.bool false)).trans (but_set _ (w.heap.size + 1 + 1) 1 (.slice none 0 0))).trans (but_set _ (w.heap.size + 1 + 1) 2 (.int .i64 0))
      have cX : LocE (((W2.setCell ⟨w.heap.size + 1 + 1, 0, none⟩ (.bool false)).setCell ⟨w.heap.size + 1 + 1, 1, none⟩ (.slice none 0 0)).setCell ⟨w.heap.size + 1 + 1, 2, none⟩ (.int .i64 0)) (w.heap.size + 1 + 1) 25 [.bool false, .slice none 0 0, .int .i64 0] := ((c_3.set 0 (.bool false)).set 1 (.slice none 0 0)).set 2 (.int .i64 0)
      have bX := bu.below b0_3 (show w.heap.size ≤ w.heap.size + 1 + 1 by omega)
      have s0 := cX.cell 0 rfl
      have s1 := cX.cell 1 rfl
      have s2 := cX.cell 2 rfl
      refine bodyPost_ret (v := .tuple #[.agg #[.bool false, .slice none 0 0, .int .i64 0], .bool false]) (by simp [results, Tryd.results30, go_sem, s0, s1, s2]) rfl ?_
      exact ⟨_, by simp, own_nil _ _ _ _, bX⟩
    · subst hb hv hu hg
      have y0 := q1.cell 0 rfl
      have y1 := q1.cell 1 rfl
      have y2 := q1.cell 2 rfl
      have y3 := q1.cell 3 rfl
      have x0 := g1.cell 0 rfl
      have x1 := g1.cell 1 rfl
      have x2 := g1.cell 2 rfl
      have x3 := g1.cell 3 rfl
      have x4 := g1.cell 4 rfl
      go_enter Tryd.func30, Tryd.ntmps30
      go_wp2_with fail
      refine (HRO.out _ b1).mono ?_
      rintro z w2 ⟨v2, rfl, o2, bb2⟩
      obtain ⟨xo, xc, hx2⟩ := o2.rd.shape
      subst hx2
      have r2 := o2.rd
      simp only at r2 ⊢
      clear y0 y1 y2 y3 x0 x1 x2 x3 x4 o2
      have q_2 := q1.later bb2
      have g_2 := g1.later bb2
      have c_2 := c1.later bb2
      have b0_2 := below_trans b1 bb2
      clear q1 g1 c1 b1 bb2
      have ap := below_alloc w2 (.cells #[.bool ts, .slice xo (Dg.dg 4294967296 td).length xc, .int .i64 tp, .bool tx, .bool false, .bool true] 37)
      have p2 := locE_new w2 [.bool ts, .slice xo (Dg.dg 4294967296 td).length xc, .int .i64 tp, .bool tx, .bool false, .bool true] 37
      have hPa : w.heap.size + 1 + 1 < w2.heap.size := c_2.lt
      have q_3 := q_2.later ap
      have g_3 := g_2.later ap
      have c_3 := c_2.later ap
      have r_3 := r2.later ap
      have b0_3 := below_trans b0_2 ap
      clear q_2 g_2 c_2 r2 b0_2 ap
      go_upto_region 2 with fail
      generalize w2.alloc (.cells #[.bool ts, .slice xo (Dg.dg 4294967296 td).length xc, .int .i64 tp, .bool tx, .bool false, .bool true] 37) = W2 at q_3 g_3 c_3 r_3 p2 b0_3 ⊢
      generalize w2.heap.size = PA at p2 hPa ⊢
      have y0 := p2.cell 0 rfl
      have y1 := p2.cell 1 rfl
      have y2 := p2.cell 2 rfl
      have y3 := p2.cell 3 rfl
      have y4 := p2.cell 4 rfl
      have y5 := p2.cell 5 rfl
      have x0 := g_3.cell 0 rfl
      have x1 := g_3.cell 1 rfl
      have x2 := g_3.cell 2 rfl
      have x3 := g_3.cell 3 rfl
      have x4 := g_3.cell 4 rfl
      have d0 := c_3.cell 0 rfl
      have f0 := c_3.free 0
      have d1 := c_3.cell 1 rfl
      have f1 := c_3.free 1
      have d2 := c_3.cell 2 rfl
      have f2 := c_3.free 2
      go_wp2
      have bu : But (w.heap.size + 1 + 1) W2 (((W2.setCell ⟨w.heap.size + 1 + 1, 0, none⟩ (.bool false)).setCell ⟨w.heap.size + 1 + 1, 1, none⟩ (.slice none 0 0)).setCell ⟨w.heap.size + 1 + 1, 2, none⟩ (.int .i64 0)) := ((but_set W2 (w.heap.size + 1 + 1) 0 (.bool false)).trans (but_set _ (w.heap.size + 1 + 1) 1 (.slice none 0 0))).trans (but_set _ (w.heap.size + 1 + 1) 2 (.int .i64 0))
      have cX : LocE (((W2.setCell ⟨w.heap.size + 1 + 1, 0, none⟩ (.bool false)).setCell ⟨w.heap.size + 1 + 1, 1, none⟩ (.slice none 0 0)).setCell ⟨w.heap.size + 1 + 1, 2, none⟩ (.int .i64 0)) (w.heap.size + 1 + 1) 25 [.bool false, .slice none 0 0, .int .i64 0] := ((c_3.set 0 (.bool false)).set 1 (.slice none 0 0)).set 2 (.int .i64 0)
      have bX := bu.below b0_3 (show w.heap.size ≤ w.heap.size + 1 + 1 by omega)
      have s0 := cX.cell 0 rfl
      have s1 := cX.cell 1 rfl
      have s2 := cX.cell 2 rfl
      refine bodyPost_ret (v := .tuple #[.agg #[.bool false, .slice none 0 0, .int .i64 0], .bool false]) (by simp [results, Tryd.results30, go_sem, s0, s1, s2]) rfl ?_
      exact ⟨_, by simp, own_nil _ _ _ _, bX⟩
end Go.Proofs.YtmjhlflemfkflaaDoor
/-
  Grids: the mathematics of GridKeeps.
-/
namespace Go.Proofs.YtmjhlflemfkflaaDoor
open Go.RowKit

theorem topQ_one {n : Nat} (h : n ≠ 0) (E : Int) : topQ n 1 E = (bitLen n : Int) - 1 + E := by
  obtain ⟨b1, b2, b3⟩ := bitLen_hi n h
  have t1 := (top_iff n 1 0 (bitLen n - 1) h (by omega)).1 (by simpa using b2)
  have t2 : ¬((bitLen n : Nat) : Int) ≤ topQ n 1 0 + ((0 : Nat) : Int) := fun c => by
    have := (top_iff n 1 0 (bitLen n) h (by omega)).2 c
    simp at this
    omega
  rw [topQ_zero]
  omega

/-- A number over a power that it holds: nothing is left, and it is the same number. -/
theorem one_parts (s : Bool) (n : Nat) (e k : Int) (hk : k ≤ e + (tz n : Int)) : numP n (e - k) % denP 1 (e - k) = 0 ∧ bare ⟨s, numP n (e - k) / denP 1 (e - k), k⟩ = bare ⟨s, n, e⟩ := by
  by_cases h0 : n = 0
  · subst h0
    have e1 : numP 0 (e - k) = 0 := by rw [numP_pow]; simp
    rw [e1]
    simp [bare]
  · by_cases hle : k ≤ e
    · have e1 : denP 1 (e - k) = 1 := by rw [denP_pow, show (-(e - k)).toNat = 0 by omega]
      rw [e1, numP_pow, Nat.mod_one, Nat.div_one]
      refine ⟨rfl, ?_⟩
      refine bare_of_V (K := (max (-k) 0).toNat) (by simp only; omega) (by simp only; omega) ?_
      rw [V_nat, V_nat]
      simp only
      rw [Nat.mul_assoc, ← Nat.pow_add, show (e - k).toNat + (k + ((max (-k) 0).toNat : Int)).toNat = (e + ((max (-k) 0).toNat : Int)).toNat by omega]
    · obtain ⟨m, hm⟩ := tz_spec h0
      obtain ⟨q, hq⟩ : ∃ q, n = q * 2 ^ (k - e).toNat := by
        refine ⟨2 ^ (tz n - (k - e).toNat) * (2 * m + 1), ?_⟩
        rw [Nat.mul_right_comm, ← Nat.pow_add, show tz n - (k - e).toNat + (k - e).toNat = tz n by omega]
        exact hm
      have e1 : numP n (e - k) = n := by rw [numP_pow, show (e - k).toNat = 0 by omega, Nat.pow_zero, Nat.mul_one]
      have e2 : denP 1 (e - k) = 2 ^ (k - e).toNat := by rw [denP_pow, Nat.one_mul, show -(e - k) = k - e by omega]
      rw [e1, e2, hq, Nat.mul_mod_left, Nat.mul_div_cancel _ (two_pos _)]
      refine ⟨rfl, ?_⟩
      refine bare_of_V (K := (max (-e) 0).toNat) (by simp only; omega) (by simp only; omega) ?_
      rw [V_nat, V_nat]
      simp only
      rw [Nat.mul_assoc, ← Nat.pow_add, show (k - e).toNat + (e + ((max (-e) 0).toNat : Int)).toNat = (k + ((max (-e) 0).toNat : Int)).toNat by omega]

/-- What the grid holds is rounded to itself. -/
theorem held_round {R D L G : Int} {gr s : Bool} {n : Nat} {e way : Int} (h1 : 1 ≤ D) (hLG : L ≤ G) (h0 : n ≠ 0) (hh : heldB R D L G gr n e = true) :
    (roundT R D L G gr s n 1 e way).ov = false ∧ ((roundT R D L G gr s n 1 e way).un = false ∨ gr = true) ∧ bare ⟨(roundT R D L G gr s n 1 e way).s, (roundT R D L G gr s n 1 e way).d, (widthN R : Int) * (roundT R D L G gr s n 1 e way).p⟩ = bare ⟨s, n, e⟩ := by
  have hM : (1 : Nat) ≠ 0 := by omega
  have hs : L ≤ spotK R D L gr n e ∧ spotK R D L gr n e ≤ G ∧ (widthN R : Int) * spotK R D L gr n e ≤ e + (tz n : Int) := by
    unfold heldB at hh
    rcases of_decide_eq_true hh with h | h
    · exact absurd h h0
    · exact h
  have hc : cutP R D L gr n 1 e = spotK R D L gr n e := by
    unfold cutP spotK
    rw [topQ_one h0]
  obtain ⟨p1, p2⟩ := one_parts s n e ((widthN R : Int) * spotK R D L gr n e) hs.2.2
  have hl : leftP R D L gr n 1 e = 0 := by
    unfold leftP shP
    rw [hc]
    exact p1
  have hd : digP R D L gr s n 1 e way = wholeP R D L gr n 1 e := by
    unfold digP
    rw [if_neg]
    rintro ⟨c, -⟩
    exact of_decide_eq_false c hl
  obtain ⟨c1, c2⟩ := dig_short R D L gr n 1 e h1 h0 hM (cutP R D L gr n 1 e)
  have hw : wholeP R D L gr n 1 e = numP n (e - (widthN R : Int) * spotK R D L gr n e) / denP 1 (e - (widthN R : Int) * spotK R D L gr n e) := by
    unfold wholeP shP
    rw [hc]
  rw [roundT_flat gr s n 1 e way h1 hLG h0 hM, hd, c1, c2, hc]
  refine ⟨decide_eq_false (by omega), ?_, ?_⟩
  · by_cases hg : gr = true
    · exact .inr hg
    · refine .inl (decide_eq_false fun c => ?_)
      have e1 : spotK R D L gr n e = powerR R D (topQ n 1 e) := by
        unfold spotK
        rw [topQ_one h0, if_neg]
        intro c2
        exact hg (Bool.and_eq_true_iff.1 c2).2
      omega
  · show bare ⟨s, wholeP R D L gr n 1 e, (widthN R : Int) * (if wholeP R D L gr n 1 e = 0 then 0 else spotK R D L gr n e)⟩ = _
    by_cases hz : wholeP R D L gr n 1 e = 0
    · rw [← p2, ← hw, hz]
      simp [bare]
    · rw [if_neg hz, hw, p2]

/-- What is rounded, if it is in the grid, lies at a spot of it. -/
theorem round_spot {R D L G : Int} {gr qs : Bool} {N M : Nat} {E way : Int} (h1 : 1 ≤ D) (hLG : L ≤ G) (hN : N ≠ 0) (hM : M ≠ 0) (ho : (roundT R D L G gr qs N M E way).ov = false) (hu : (roundT R D L G gr qs N M E way).un = false ∨ gr = true) :
    ((roundT R D L G gr qs N M E way).d = 0 ∧ (roundT R D L G gr qs N M E way).p = 0) ∨ ((roundT R D L G gr qs N M E way).d ≠ 0 ∧ L ≤ (roundT R D L G gr qs N M E way).p ∧ (roundT R D L G gr qs N M E way).p ≤ G ∧ (roundT R D L G gr qs N M E way).d < 2 ^ (widthN R * D.toNat) ∧ (2 ^ (widthN R * (D - 1).toNat) ≤ (roundT R D L G gr qs N M E way).d ∨ (gr = true ∧ (roundT R D L G gr qs N M E way).p = L))) := by
  rw [roundT_flat gr qs N M E way h1 hLG hN hM] at ho hu ⊢
  simp only at ho hu ⊢
  have hov := of_decide_eq_false ho
  by_cases hz : carD R D (digP R D L gr qs N M E way) = 0
  · exact .inl ⟨hz, if_pos hz⟩
  · refine .inr ⟨hz, ?_⟩
    rw [if_neg hz]
    have hwl := whole_lt R D L gr N M E h1 hN hM
    have hge := dig_ge R D L gr qs N M E way
    have hle : digP R D L gr qs N M E way ≤ wholeP R D L gr N M E + 1 := by
      unfold digP
      split <;> omega
    have hpw : 2 ^ (widthN R * (D - 1).toNat) < 2 ^ (widthN R * D.toNat) := by
      refine Nat.pow_lt_pow_right (by omega) ?_
      exact Nat.mul_lt_mul_of_pos_left (by omega) (by have := widthN_le R; omega)
    have hcut : L ≤ cutP R D L gr N M E ∧ (cutP R D L gr N M E = powerR R D (topQ N M E) ∨ (gr = true ∧ cutP R D L gr N M E = L)) := by
      unfold cutP
      by_cases hc : (decide (powerR R D (topQ N M E) < L) && gr) = true
      · rw [if_pos hc]
        exact ⟨Int.le_refl _, .inr ⟨(Bool.and_eq_true_iff.1 hc).2, rfl⟩⟩
      · rw [if_neg hc]
        refine ⟨?_, .inl rfl⟩
        rcases hu with hu | hu
        · have := of_decide_eq_false hu
          omega
        · rw [hu, Bool.and_true] at hc
          have : ¬powerR R D (topQ N M E) < L := fun c => hc (decide_eq_true c)
          omega
    unfold carD carP at *
    by_cases hq : digP R D L gr qs N M E way = 2 ^ (widthN R * D.toNat)
    · rw [if_pos hq] at hov ⊢
      rw [if_pos hq]
      exact ⟨by omega, by omega, hpw, .inl (Nat.le_refl _)⟩
    · rw [if_neg hq] at hov ⊢
      rw [if_neg hq]
      refine ⟨hcut.1, by omega, by omega, ?_⟩
      rcases hcut.2 with h | h
      · refine .inl (Nat.le_trans ?_ hge)
        have := mt (seek_iff R D (powerR R D (topQ N M E)) N M E h1 hN hM).1 (Int.lt_irrefl _)
        rw [lt_bits] at this
        unfold wholeP shP
        rw [h]
        omega
      · exact .inr h
end Go.Proofs.YtmjhlflemfkflaaDoor
/-
  Grids: the contract of rounded.
-/
namespace Go.Proofs.YtmjhlflemfkflaaDoor
open Go.RowKit

/-- Is what is rounded not in the grid? -/
def rndBad (xs ys : List Nat) (E R D L G : Int) (gr qs : Bool) (way : Int) : Bool :=
  !decide (roundC xs ys E R D L G way = 0) || (roundP xs ys E R D L G gr qs way).ov || ((roundP xs ys E R D L G gr qs way).un && !gr)

/-- What is rounded, as a number. -/
def rndT (xs ys : List Nat) (E R D L G : Int) (gr qs : Bool) (way : Int) : Trip :=
  if rndBad xs ys E R D L G gr qs way = true then ⟨false, 0, 0⟩ else bare ⟨(roundP xs ys E R D L G gr qs way).s, (roundP xs ys E R D L G gr qs way).d, (widthN R : Int) * (roundP xs ys E R D L G gr qs way).p⟩

theorem rnd_parts {xs ys : List Nat} {E R D L G : Int} {gr qs : Bool} {way : Int} (h : rndBad xs ys E R D L G gr qs way = false) : roundC xs ys E R D L G way = 0 ∧ (roundP xs ys E R D L G gr qs way).ov = false ∧ ((roundP xs ys E R D L G gr qs way).un = false ∨ gr = true) := by
  unfold rndBad at h
  simp only [Bool.or_eq_false_iff, Bool.and_eq_false_iff, Bool.not_eq_false', decide_eq_true_iff] at h
  exact ⟨h.1.1, h.1.2, h.2⟩

theorem roundC_all {xs ys : List Nat} {E R D L G way : Int} (h : roundC xs ys E R D L G way = 0) : ratioC xs ys E = 0 ∧ gridC R D L G = 0 ∧ isWay way = true := by
  unfold roundC at h
  by_cases h1 : wrongG (ratioC xs ys E) (gridC R D L G) = 0
  · rw [if_pos h1] at h
    obtain ⟨a, b⟩ := wrongG_zero h1
    refine ⟨a, b, ?_⟩
    by_cases h3 : isWay way = true
    · exact h3
    · rw [if_neg h3] at h
      cases h
  · rw [if_neg h1] at h
    exact absurd h h1

theorem gvl_ne {xs : List Nat} (sa : Dg.Small 4294967296 xs) (h : chk xs = 0) (hl : ¬xs.length = 0) : Dg.vl 4294967296 xs ≠ 0 := fun c => by
  have ex : Dg.dg 4294967296 (Dg.vl 4294967296 xs) = xs := Dg.dg_vl _ (by omega) _ sa (chk_zero h).1
  rw [c] at ex
  rw [← ex] at hl
  exact hl rfl

/-- A place that is in the grid. -/
def InSpot (R D L G : Int) (gr : Bool) (d : Nat) (p : Int) : Prop :=
  (d = 0 ∧ p = 0) ∨ (d ≠ 0 ∧ L ≤ p ∧ p ≤ G ∧ d < 2 ^ (widthN R * D.toNat) ∧ (2 ^ (widthN R * (D - 1).toNat) ≤ d ∨ (gr = true ∧ p = L)))

theorem rnd_spot {xs ys : List Nat} {E R D L G : Int} {gr qs : Bool} {way : Int} (sa : Dg.Small 4294967296 xs) (sb : Dg.Small 4294967296 ys) (h : rndBad xs ys E R D L G gr qs way = false) : gridC R D L G = 0 ∧ InSpot R D L G gr (roundP xs ys E R D L G gr qs way).d (roundP xs ys E R D L G gr qs way).p := by
  obtain ⟨h1, h2, h3⟩ := rnd_parts h
  obtain ⟨c1, c2, c3⟩ := roundC_all h1
  refine ⟨c2, ?_⟩
  obtain ⟨-, d1, -, -, -, -, -, lg, -⟩ := gridC_zero c2
  obtain ⟨a1, a2, hl, -, -⟩ := ratioC_zero c1
  have hP : roundP xs ys E R D L G gr qs way = if xs.length = 0 then ⟨false, 0, 0, true, false, false⟩ else roundT R D L G gr qs (Dg.vl 4294967296 xs) (Dg.vl 4294967296 ys) E way := if_pos h1
  by_cases hz : xs.length = 0
  · rw [if_pos hz] at hP
    rw [hP]
    exact .inl ⟨rfl, rfl⟩
  · rw [if_neg hz] at hP
    rw [hP] at h2 h3 ⊢
    exact round_spot d1 lg (gvl_ne sa a1 hz) (gvl_ne sb a2 (by omega)) h2 h3

theorem two_len {d k L : Nat} (h : d < 2 ^ k) (hk : k ≤ 32 * L) : (Dg.dg 4294967296 d).length ≤ L := by
  refine Dg.dg_len_le 4294967296 _ _ (by omega) (Nat.lt_of_lt_of_le h ?_)
  rw [show (4294967296 : Nat) = 2 ^ 32 from by decide, ← Nat.pow_mul]
  exact Nat.pow_le_pow_right (by omega) hk

theorem spot_fits {R D L G : Int} {gr : Bool} {d : Nat} {p : Int} (hg : gridC R D L G = 0) (h : InSpot R D L G gr d p) :
    (Dg.dg 4294967296 d).length ≤ 15 ∧ -17000 ≤ p ∧ p ≤ 17000 ∧ -17000 ≤ (widthN R : Int) * p ∧ (widthN R : Int) * p ≤ 17000 ∧ tz d ≤ 480 := by
  obtain ⟨hR, d1, d2, l1, l2, g1, g2, lg, l16⟩ := gridC_zero hg
  rcases h with ⟨rfl, rfl⟩ | ⟨h0, h1, h2, h3, -⟩
  · refine ⟨Nat.zero_le _, by omega, by omega, by simp, by simp, ?_⟩
    exact Nat.le_trans (tz_fits 0 0 (Nat.le_refl _)) (by omega)
  · have hw := Nat.mul_le_mul (widthN_le R).2 (show D.toNat ≤ 120 by omega)
    have hl : (Dg.dg 4294967296 d).length ≤ 15 := two_len h3 (by omega)
    have := tz_fits d 15 hl
    refine ⟨hl, by omega, by omega, ?_, ?_, by omega⟩ <;> (unfold widthN; split <;> simp <;> omega)

theorem spot_short {R D L G : Int} {gr s : Bool} {d : Nat} {p : Int} (hg : gridC R D L G = 0) (h : InSpot R D L G gr d p) :
    dbothR (placeC (Dg.dg 4294967296 d) p R D L G) ⟨s, Dg.vl 4294967296 (Dg.dg 4294967296 d), (widthN R : Int) * p⟩ = (bare ⟨s, d, (widthN R : Int) * p⟩, 0) := by
  obtain ⟨l, p1, p2, w1, w2, tzl⟩ := spot_fits hg h
  have hp : placeC (Dg.dg 4294967296 d) p R D L G = 0 := placeC_fine ((dchk_zero (dchk_of (n := d) (e := 0) (by omega) (by omega) (by omega))).1) hg (by unfold farB; simp; omega)
  rw [hp, Dg.vl_dg _ _ (by omega)]
  show shortT _ = _
  refine short_of ?_ ?_ ?_
  · exact Nat.le_trans (dg_len_mono _ _ d (by omega) (bare_n_le _)) (by omega)
  · by_cases h0 : d = 0
    · simp [bare, h0]
    · have := (bare_e_ge (t := ⟨s, d, (widthN R : Int) * p⟩) h0).2
      simp only at this
      omega
  · by_cases h0 : d = 0
    · simp [bare, h0]
    · have := (bare_e_ge (t := ⟨s, d, (widthN R : Int) * p⟩) h0).2
      simp only at this
      omega

theorem rounded_any (qs : Bool) (ao : Option Addr) (ca : Nat) (xs : List Nat) (bo : Option Addr) (cb : Nat) (ys : List Nat) (E R D L G : Int) (gr : Bool) (way : Int) (w : World) (ha : Rd w .u32 (.slice ao xs.length ca) xs) (hb : Rd w .u32 (.slice bo ys.length cb) ys) (sa : Dg.Small 4294967296 xs) (sb : Dg.Small 4294967296 ys) (hT : Tab w) :
    Calls Tryd.prog 30 #[.agg #[.bool qs, .slice ao xs.length ca, .slice bo ys.length cb, .int .i64 E], .agg #[.int .i64 R, .int .i64 D, .int .i64 L, .int .i64 G, .bool gr], .int .i64 way] w (RndRes w (rndT xs ys E R D L G gr qs way) (!rndBad xs ys E R D L G gr qs way)) := by
  have hsp := rnd_spot (E := E) (R := R) (D := D) (L := L) (G := G) (gr := gr) (qs := qs) (way := way) sa sb
  have hbad : rndBad xs ys E R D L G gr qs way = true → ¬roundC xs ys E R D L G way = 0 ∨ (roundC xs ys E R D L G way = 0 ∧ (roundP xs ys E R D L G gr qs way).ov = true) ∨ (roundC xs ys E R D L G way = 0 ∧ (roundP xs ys E R D L G gr qs way).ov = false ∧ (roundP xs ys E R D L G gr qs way).un = true ∧ gr = false) := fun h => by
    unfold rndBad at h
    by_cases h1 : roundC xs ys E R D L G way = 0
    · cases hov : (roundP xs ys E R D L G gr qs way).ov
      · rw [hov, decide_eq_true h1] at h
        simp at h
        exact .inr (.inr ⟨h1, rfl, h.1, h.2⟩)
      · exact .inr (.inl ⟨h1, rfl⟩)
    · exact .inl h1
  have hgood := rnd_parts (xs := xs) (ys := ys) (E := E) (R := R) (D := D) (L := L) (G := G) (gr := gr) (qs := qs) (way := way)
  obtain ⟨⟨rs, rn, re⟩, hr⟩ : ∃ t, rndT xs ys E R D L G gr qs way = t := ⟨_, rfl⟩
  have hz : rndBad xs ys E R D L G gr qs way = true → rs = false ∧ rn = 0 ∧ re = 0 := fun h => by
    unfold rndT at hr
    rw [if_pos h] at hr
    simp only [Trip.mk.injEq] at hr
    exact ⟨hr.1.symm, hr.2.1.symm, hr.2.2.symm⟩
  have hn : rndBad xs ys E R D L G gr qs way = false → bare ⟨(roundP xs ys E R D L G gr qs way).s, (roundP xs ys E R D L G gr qs way).d, (widthN R : Int) * (roundP xs ys E R D L G gr qs way).p⟩ = ⟨rs, rn, re⟩ := fun h => by
    rw [← hr]
    unfold rndT
    rw [if_neg (by rw [h]; decide)]
  obtain ⟨⟨ts, td, tp, tx, tv, tu⟩, hP⟩ : ∃ T, roundP xs ys E R D L G gr qs way = T := ⟨_, rfl⟩
  rw [hP] at hsp hbad hgood hn
  obtain ⟨bad, hB⟩ : ∃ b, rndBad xs ys E R D L G gr qs way = b := ⟨_, rfl⟩
  rw [hB] at hsp hbad hgood hz hn
  rw [hr, hB]
  simp only at hsp hbad hgood hn
  have hx : (!bad && ((0 : Int) == 0)) = !bad := by simp
  rw [← hx]
  refine roundedW qs ao xs.length ca bo ys.length cb E R D L G gr way (roundC xs ys E R D L G way) ts td tp tx tv tu 0 rs rn re bad w hbad hgood (fun w1 b => ?_) (fun h xo xc w1 b r => ?_) hz
  · rw [← hP]
    exact gRound_any qs ao ca xs bo cb ys E R D L G gr way w1 (ha.later b) (hb.later b) sa sb
  · obtain ⟨c2, hi⟩ := hsp h
    have := gNumber_any R D L G gr ts xo xc (Dg.dg 4294967296 td) tp tx tv tu w1 r (Dg.small_dg _ _ (by omega)) (hT.later b)
    rw [spot_short c2 hi, hn h] at this
    exact this
end Go.Proofs.YtmjhlflemfkflaaDoor

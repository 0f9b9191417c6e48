/-
  Texts laid together: As2.
-/
import Derived.Test.YtnhackdjplppjaaGreatDoorAc40
set_option maxRecDepth 100000
namespace Go.Proofs.YtnhackdjplppjaaGreatDoor
open Go.RowKit
def OpRes (w : World) (c : Int) (g : Bool) (t : Trip) (z : Ending) (w' : World) : Prop :=
 ∃ v, z = .returned (.agg #[.int .i64 c, .bool g, .bool t.s, v, .int .i64 t.e]) ∧ Rd w' .u32 v (Dg.dg 4294967296 t.n) ∧ Below w.heap.size w w'
def OpRes2 (w : World) (c : Int) (g : Bool) (t : Trip) (fl : Int) (z : Ending) (w' : World) : Prop :=
 ∃ v, z = .returned (.tuple #[.agg #[.int .i64 c, .bool g, .bool t.s, v, .int .i64 t.e], .int .i64 fl]) ∧ Rd w' .u32 v (Dg.dg 4294967296 t.n) ∧ Below w.heap.size w w'
def numC (t : Trip) : Int := if t.n = 0 then 1 else 2
def numG (t : Trip) (ng : Bool) : Bool := if t.n = 0 then ng else t.s
def numT (t : Trip) : Trip := if t.n = 0 then ⟨false, 0, 0⟩ else t
set_option maxHeartbeats 3200000 in
theorem numberOf_any (t : Trip) (ng : Bool) (to0 : Option Addr) (tc : Nat) (w : World) (hr : Rd w .u32 (.slice to0 (Dg.dg 4294967296 t.n).length tc) (Dg.dg 4294967296 t.n)) :
  Calls Tryz.prog 110 #[.agg #[.bool t.s, .slice to0 (Dg.dg 4294967296 t.n).length tc, .int .i64 t.e], .bool ng] w (OpRes w (numC t) (numG t ng) (numT t)) := by
 have HS : Hid (∀ w1, Below w.heap.size w w1 → Calls Tryz.prog 166 #[.agg #[.bool t.s, .slice to0 (Dg.dg 4294967296 t.n).length tc, .int .i64 t.e]] w1 fun z w' => z = .returned (.int .i64 (signT t)) ∧ Below w1.heap.size w1 w') := fun w1 b => dsign_any _ t w1 ⟨_, rfl, hr.later b⟩
 have ax := below_alloc w (.cells #[.bool t.s, .slice to0 (Dg.dg 4294967296 t.n).length tc, .int .i64 t.e] 96)
 have ao := below_alloc (w.alloc (.cells #[.bool t.s, .slice to0 (Dg.dg 4294967296 t.n).length tc, .int .i64 t.e] 96)) (.cells #[.int .i64 0, .bool false, .bool false, .slice none 0 0, .int .i64 0] 98)
 have x0 := (locE_new w [.bool t.s, .slice to0 (Dg.dg 4294967296 t.n).length tc, .int .i64 t.e] 96).later ao
 have o0 := locE_new (w.alloc (.cells #[.bool t.s, .slice to0 (Dg.dg 4294967296 t.n).length tc, .int .i64 t.e] 96)) [.int .i64 0, .bool false, .bool false, .slice none 0 0, .int .i64 0] 98
 rw [World.size_alloc] at o0
 have b0 := below_trans ax ao
 have r0 := hr.later b0
 clear ax ao hr
 unfold numC numG numT
 by_cases h0 : t.n = 0
 ·rw [if_pos h0, if_pos h0, if_pos h0]
  have hs : signT t = 0 := if_pos h0
  rw [hs] at HS
  clear h0 hs
  go_enter Tryz.func110, Tryz.ntmps110
  go_upto_region 1 with fail
  generalize (w.alloc (.cells #[.bool t.s, .slice to0 (Dg.dg 4294967296 t.n).length tc, .int .i64 t.e] 96)).alloc (.cells #[.int .i64 0, .bool false, .bool false, .slice none 0 0, .int .i64 0] 98) = W0 at x0 o0 b0 r0 ⊢
  obtain ⟨y0, y1, y2⟩ := x0.cs3
  go_wp2_with fail
  refine (HS.out _ b0).mono ?_
  rintro z w1 ⟨rfl, b1⟩
  have o1 := o0.later b1
  have b01 := below_trans b0 b1
  clear y0 y1 y2 x0 o0 b0 b1 HS r0
  have cR : LocE (((((w1.setCell ⟨w.heap.size + 1, 0, none⟩ (.int .i64 1)).setCell ⟨w.heap.size + 1, 1, none⟩ (.bool ng)).setCell ⟨w.heap.size + 1, 2, none⟩ (.bool false)).setCell ⟨w.heap.size + 1, 3, none⟩ (.slice none 0 0)).setCell ⟨w.heap.size + 1, 4, none⟩ (.int .i64 0)) (w.heap.size + 1) 98 [.int .i64 1, .bool ng, .bool false, .slice none 0 0, .int .i64 0] := (((((o1.set 0 (.int .i64 1)).set 1 (.bool ng)).set 2 (.bool false)).set 3 (.slice none 0 0)).set 4 (.int .i64 0))
  have bu := ((((but_set w1 (w.heap.size + 1) 0 (.int .i64 1)).trans (but_set _ (w.heap.size + 1) 1 (.bool ng))).trans (but_set _ (w.heap.size + 1) 2 (.bool false))).trans (but_set _ (w.heap.size + 1) 3 (.slice none 0 0))).trans (but_set _ (w.heap.size + 1) 4 (.int .i64 0))
  have bR := bu.below b01 (by omega)
  have hl := run_loadVar_mid (P := Tryz.prog) _ (w.heap.size + 1) 0 98 [.int .i64 1, .bool ng, .bool false, .slice none 0 0, .int .i64 0] _ cR.range Tryz.underlying98 rfl (by kernel_rfl)
  have HH : Hid (_ ∧ _) := ⟨hl, bR⟩
  obtain ⟨z0, z1, z2, z3, z4⟩ := o1.cs5
  have fz0 := o1.free 0
  have fz1 := o1.free 1
  have fz2 := o1.free 2
  have fz3 := o1.free 3
  have fz4 := o1.free 4
  clear hl bR bu cR
  clear o1 b01
  go_wp2
  obtain ⟨hl, bR⟩ := HH.out
  exact bodyPost_ret (results_one Tryz.results110 rfl hl) rfl ⟨_, rfl, rd_nil _ _, bR⟩
 ·rw [if_neg h0, if_neg h0, if_neg h0]
  obtain ⟨sg, hs⟩ : ∃ s, signT t = s := ⟨_, rfl⟩
  have hs1 : (sg == 0) = false := by
   rw [← hs]
   unfold signT
   rw [if_neg h0]
   cases t.s <;> rfl
  rw [hs] at HS
  clear h0 hs
  go_enter Tryz.func110, Tryz.ntmps110
  go_upto_region 1 with fail
  generalize (w.alloc (.cells #[.bool t.s, .slice to0 (Dg.dg 4294967296 t.n).length tc, .int .i64 t.e] 96)).alloc (.cells #[.int .i64 0, .bool false, .bool false, .slice none 0 0, .int .i64 0] 98) = W0 at x0 o0 b0 r0 ⊢
  obtain ⟨y0, y1, y2⟩ := x0.cs3
  go_wp2_with fail
  refine (HS.out _ b0).mono ?_
  rintro z w1 ⟨rfl, b1⟩
  have o1 := o0.later b1
  have x1 := x0.later b1
  have r1 := r0.later b1
  have b01 := below_trans b0 b1
  clear y0 y1 y2 x0 o0 b0 b1 HS r0
  obtain ⟨y0, y1, y2⟩ := x1.cs3
  have cR : LocE (((((w1.setCell ⟨w.heap.size + 1, 0, none⟩ (.int .i64 2)).setCell ⟨w.heap.size + 1, 1, none⟩ (.bool t.s)).setCell ⟨w.heap.size + 1, 2, none⟩ (.bool t.s)).setCell ⟨w.heap.size + 1, 3, none⟩ (.slice to0 (Dg.dg 4294967296 t.n).length tc)).setCell ⟨w.heap.size + 1, 4, none⟩ (.int .i64 t.e)) (w.heap.size + 1) 98 [.int .i64 2, .bool t.s, .bool t.s, .slice to0 (Dg.dg 4294967296 t.n).length tc, .int .i64 t.e] := (((((o1.set 0 (.int .i64 2)).set 1 (.bool t.s)).set 2 (.bool t.s)).set 3 (.slice to0 (Dg.dg 4294967296 t.n).length tc)).set 4 (.int .i64 t.e))
  have bu := ((((but_set w1 (w.heap.size + 1) 0 (.int .i64 2)).trans (but_set _ (w.heap.size + 1) 1 (.bool t.s))).trans (but_set _ (w.heap.size + 1) 2 (.bool t.s))).trans (but_set _ (w.heap.size + 1) 3 (.slice to0 (Dg.dg 4294967296 t.n).length tc))).trans (but_set _ (w.heap.size + 1) 4 (.int .i64 t.e))
  have bR := bu.below b01 (by omega)
  have rR := bu.rd r1 (rd_offU r1 o1 (by simp))
  have hl := run_loadVar_mid (P := Tryz.prog) _ (w.heap.size + 1) 0 98 [.int .i64 2, .bool t.s, .bool t.s, .slice to0 (Dg.dg 4294967296 t.n).length tc, .int .i64 t.e] _ cR.range Tryz.underlying98 rfl (by kernel_rfl)
  have HH : Hid (_ ∧ _ ∧ _) := ⟨hl, rR, bR⟩
  obtain ⟨z0, z1, z2, z3, z4⟩ := o1.cs5
  have fz0 := o1.free 0
  have fz1 := o1.free 1
  have fz2 := o1.free 2
  have fz3 := o1.free 3
  have fz4 := o1.free 4
  clear hl bR bu cR rR
  clear o1 b01 x1 r1
  go_wp2
  obtain ⟨hl, rR, bR⟩ := HH.out
  exact bodyPost_ret (results_one Tryz.results110 rfl hl) rfl ⟨_, rfl, rR, bR⟩
set_option maxHeartbeats 6400000 in
theorem dsum_num (n wy fam R D L G cx cy : Int) (gr gx gy : Bool) (x y : Trip) (xo yo : Option Addr) (xc yc : Nat) (sg : Bool) (w : World) (hsg : sg = if gx = gy then gx else decide (wy = 5)) (hx : (cx == 3) = false) (hy : (cy == 3) = false)
  (HP : ∀ w1, Below w.heap.size w w1 → Calls Tryz.prog 111 #[.agg #[.bool x.s, .slice xo (Dg.dg 4294967296 x.n).length xc, .int .i64 x.e], .agg #[.bool y.s, .slice yo (Dg.dg 4294967296 y.n).length yc, .int .i64 y.e]] w1 (DRes w1 (plusT x y))) :
  Calls Tryz.prog 55 #[.agg #[.int .i64 n, .int .i64 wy, .int .i64 fam, .int .i64 R, .int .i64 D, .int .i64 L, .int .i64 G, .bool gr], .agg #[.int .i64 cx, .bool gx, .bool x.s, .slice xo (Dg.dg 4294967296 x.n).length xc, .int .i64 x.e], .agg #[.int .i64 cy, .bool gy, .bool y.s, .slice yo (Dg.dg 4294967296 y.n).length yc, .int .i64 y.e]] w (OpRes2 w (numC (plusT x y)) (numG (plusT x y) sg) (numT (plusT x y)) 0) := by
 replace HP : Hid _ := HP
 have HSg : Hid (sg = if gx = gy then gx else decide (wy = 5)) := hsg
 clear hsg
 have HX : Hid (∀ w1, Calls Tryz.prog 109 #[.agg #[.int .i64 cx, .bool gx, .bool x.s, .slice xo (Dg.dg 4294967296 x.n).length xc, .int .i64 x.e]] w1 fun z w' => z = .returned (.bool (cx == 3)) ∧ Below w1.heap.size w1 w') := fun w1 => oinfinite_any _ _ _ _ _ _ _ w1
 have HY : Hid (∀ w1, Calls Tryz.prog 109 #[.agg #[.int .i64 cy, .bool gy, .bool y.s, .slice yo (Dg.dg 4294967296 y.n).length yc, .int .i64 y.e]] w1 fun z w' => z = .returned (.bool (cy == 3)) ∧ Below w1.heap.size w1 w') := fun w1 => oinfinite_any _ _ _ _ _ _ _ w1
 have HN : Hid (∀ to0 tc ng w1, Rd w1 .u32 (.slice to0 (Dg.dg 4294967296 (plusT x y).n).length tc) (Dg.dg 4294967296 (plusT x y).n) → Calls Tryz.prog 110 #[.agg #[.bool (plusT x y).s, .slice to0 (Dg.dg 4294967296 (plusT x y).n).length tc, .int .i64 (plusT x y).e], .bool ng] w1 (OpRes w1 (numC (plusT x y)) (numG (plusT x y) ng) (numT (plusT x y)))) := fun to0 tc ng w1 h => numberOf_any (plusT x y) ng to0 tc w1 h
 rw [hx] at HX
 rw [hy] at HY
 have a1 := below_alloc w (.cells #[.int .i64 n, .int .i64 wy, .int .i64 fam, .int .i64 R, .int .i64 D, .int .i64 L, .int .i64 G, .bool gr] 93)
 have a2 := below_alloc (w.alloc (.cells #[.int .i64 n, .int .i64 wy, .int .i64 fam, .int .i64 R, .int .i64 D, .int .i64 L, .int .i64 G, .bool gr] 93)) (.cells #[.int .i64 cx, .bool gx, .bool x.s, .slice xo (Dg.dg 4294967296 x.n).length xc, .int .i64 x.e] 98)
 have a3 := below_alloc ((w.alloc (.cells #[.int .i64 n, .int .i64 wy, .int .i64 fam, .int .i64 R, .int .i64 D, .int .i64 L, .int .i64 G, .bool gr] 93)).alloc (.cells #[.int .i64 cx, .bool gx, .bool x.s, .slice xo (Dg.dg 4294967296 x.n).length xc, .int .i64 x.e] 98)) (.cells #[.int .i64 cy, .bool gy, .bool y.s, .slice yo (Dg.dg 4294967296 y.n).length yc, .int .i64 y.e] 98)
 have a4 := below_alloc (((w.alloc (.cells #[.int .i64 n, .int .i64 wy, .int .i64 fam, .int .i64 R, .int .i64 D, .int .i64 L, .int .i64 G, .bool gr] 93)).alloc (.cells #[.int .i64 cx, .bool gx, .bool x.s, .slice xo (Dg.dg 4294967296 x.n).length xc, .int .i64 x.e] 98)).alloc (.cells #[.int .i64 cy, .bool gy, .bool y.s, .slice yo (Dg.dg 4294967296 y.n).length yc, .int .i64 y.e] 98)) (.cells #[.int .i64 0, .bool false, .bool false, .slice none 0 0, .int .i64 0] 98)
 have d0 := (((locE_new w [.int .i64 n, .int .i64 wy, .int .i64 fam, .int .i64 R, .int .i64 D, .int .i64 L, .int .i64 G, .bool gr] 93).later a2).later a3).later a4
 have x0 := ((locE_new (w.alloc (.cells #[.int .i64 n, .int .i64 wy, .int .i64 fam, .int .i64 R, .int .i64 D, .int .i64 L, .int .i64 G, .bool gr] 93)) [.int .i64 cx, .bool gx, .bool x.s, .slice xo (Dg.dg 4294967296 x.n).length xc, .int .i64 x.e] 98).later a3).later a4
 have y0 := (locE_new ((w.alloc (.cells #[.int .i64 n, .int .i64 wy, .int .i64 fam, .int .i64 R, .int .i64 D, .int .i64 L, .int .i64 G, .bool gr] 93)).alloc (.cells #[.int .i64 cx, .bool gx, .bool x.s, .slice xo (Dg.dg 4294967296 x.n).length xc, .int .i64 x.e] 98)) [.int .i64 cy, .bool gy, .bool y.s, .slice yo (Dg.dg 4294967296 y.n).length yc, .int .i64 y.e] 98).later a4
 have o0 := locE_new (((w.alloc (.cells #[.int .i64 n, .int .i64 wy, .int .i64 fam, .int .i64 R, .int .i64 D, .int .i64 L, .int .i64 G, .bool gr] 93)).alloc (.cells #[.int .i64 cx, .bool gx, .bool x.s, .slice xo (Dg.dg 4294967296 x.n).length xc, .int .i64 x.e] 98)).alloc (.cells #[.int .i64 cy, .bool gy, .bool y.s, .slice yo (Dg.dg 4294967296 y.n).length yc, .int .i64 y.e] 98)) [.int .i64 0, .bool false, .bool false, .slice none 0 0, .int .i64 0] 98
 rw [World.size_alloc] at x0
 rw [World.size_alloc, World.size_alloc] at y0
 rw [World.size_alloc, World.size_alloc, World.size_alloc] at o0
 have b0 := below_trans (below_trans (below_trans a1 a2) a3) a4
 clear a1 a2 a3 a4 hx hy
 obtain ⟨t, ht⟩ : ∃ t, plusT x y = t := ⟨_, rfl⟩
 rw [ht] at HP HN ⊢
 clear ht
 go_enter Tryz.func55, Tryz.ntmps55
 go_upto_block 0 with fail
 generalize (((w.alloc (.cells #[.int .i64 n, .int .i64 wy, .int .i64 fam, .int .i64 R, .int .i64 D, .int .i64 L, .int .i64 G, .bool gr] 93)).alloc (.cells #[.int .i64 cx, .bool gx, .bool x.s, .slice xo (Dg.dg 4294967296 x.n).length xc, .int .i64 x.e] 98)).alloc (.cells #[.int .i64 cy, .bool gy, .bool y.s, .slice yo (Dg.dg 4294967296 y.n).length yc, .int .i64 y.e] 98)).alloc (.cells #[.int .i64 0, .bool false, .bool false, .slice none 0 0, .int .i64 0] 98) = W0 at d0 x0 y0 o0 b0 ⊢
 obtain ⟨u0, u1, u2, u3, u4⟩ := x0.cs5
 go_wp2_with fail
 refine (HX.out _).mono ?_
 rintro z w1 ⟨rfl, b1⟩
 have d1 := d0.later b1; have x1 := x0.later b1; have y1 := y0.later b1; have o1 := o0.later b1; have b01 := below_trans b0 b1
 clear d0 x0 y0 o0 b0 b1 u0 u1 u2 u3 u4
 obtain ⟨u0, u1, u2, u3, u4⟩ := x1.cs5
 obtain ⟨v0, v1, v2, v3, v4⟩ := y1.cs5
 go_wp2_with fail
 refine (HX.out _).mono ?_
 rintro z w2 ⟨rfl, b2⟩
 have d2 := d1.later b2; have x2 := x1.later b2; have y2 := y1.later b2; have o2 := o1.later b2; have b02 := below_trans b01 b2
 clear d1 x1 y1 o1 b01 b2 u0 u1 u2 u3 u4 v0 v1 v2 v3 v4
 obtain ⟨v0, v1, v2, v3, v4⟩ := y2.cs5
 go_wp2_with fail
 refine (HY.out _).mono ?_
 rintro z w3 ⟨rfl, b3⟩
 have d3 := d2.later b3; have x3 := x2.later b3; have y3 := y2.later b3; have o3 := o2.later b3; have b03 := below_trans b02 b3
 clear d2 x2 y2 o2 b02 b3 v0 v1 v2 v3 v4 HX HY
 go_upto_region 7 with fail
 obtain ⟨u0, u1, u2, u3, u4⟩ := x3.cs5
 obtain ⟨v0, v1, v2, v3, v4⟩ := y3.cs5
 have q1 := d3.cell 1 rfl
 have HNs : Hid (∀ to0 tc w1, Rd w1 .u32 (.slice to0 (Dg.dg 4294967296 t.n).length tc) (Dg.dg 4294967296 t.n) → Calls Tryz.prog 110 #[.agg #[.bool t.s, .slice to0 (Dg.dg 4294967296 t.n).length tc, .int .i64 t.e], .bool sg] w1 (OpRes w1 (numC t) (numG t sg) (numT t))) := fun to0 tc w1 h => HN.out to0 tc sg w1 h
 obtain ⟨c, hcE⟩ : ∃ c, numC t = c := ⟨_, rfl⟩
 obtain ⟨g, hgE⟩ : ∃ c, numG t sg = c := ⟨_, rfl⟩
 obtain ⟨tt, htE⟩ : ∃ c, numT t = c := ⟨_, rfl⟩
 rw [hcE, hgE, htE] at HNs
 have HE : Hid (numC t = c ∧ numG t sg = g ∧ numT t = tt) := ⟨hcE, hgE, htE⟩
 clear hcE hgE htE HN
 by_cases hg : gx = gy
 ·have h1 := HSg.out
  rw [if_pos hg] at h1
  subst hg
  rw [h1] at HNs
  clear HSg h1
  go_wp2_with fail
  refine (HP.out _ b03).mono ?_
  rintro z w4 ⟨p4, rfl, o4, b4⟩
  obtain ⟨po, pc, hv⟩ := o4.rd.shape
  subst hv
  have r4 := o4.rd
  have o5 := o3.later b4
  have b04 := below_trans b03 b4
  clear u0 u1 u2 u3 u4 v0 v1 v2 v3 v4 q1 d3 x3 y3 o3 b03 b4 o4 HP
  go_wp2_with fail
  refine (HNs.out _ _ _ r4).mono ?_
  rintro z w6 ⟨p6, rfl, r6, b6⟩
  obtain ⟨ro, rc, hv⟩ := r6.shape
  subst hv
  have o6 := o5.later b6
  have b06 := below_trans b04 b6
  clear o5 b04 b6 r4 HNs
  have cR : LocE (((((w6.setCell ⟨w.heap.size + 1 + 1 + 1, 0, none⟩ (.int .i64 c)).setCell ⟨w.heap.size + 1 + 1 + 1, 1, none⟩ (.bool g)).setCell ⟨w.heap.size + 1 + 1 + 1, 2, none⟩ (.bool tt.s)).setCell ⟨w.heap.size + 1 + 1 + 1, 3, none⟩ (.slice ro (Dg.dg 4294967296 tt.n).length rc)).setCell ⟨w.heap.size + 1 + 1 + 1, 4, none⟩ (.int .i64 tt.e)) (w.heap.size + 1 + 1 + 1) 98 [.int .i64 c, .bool g, .bool tt.s, .slice ro (Dg.dg 4294967296 tt.n).length rc, .int .i64 tt.e] := (((((o6.set 0 (.int .i64 c)).set 1 (.bool g)).set 2 (.bool tt.s)).set 3 (.slice ro (Dg.dg 4294967296 tt.n).length rc)).set 4 (.int .i64 tt.e))
  have bu := ((((but_set w6 (w.heap.size + 1 + 1 + 1) 0 (.int .i64 c)).trans (but_set _ (w.heap.size + 1 + 1 + 1) 1 (.bool g))).trans (but_set _ (w.heap.size + 1 + 1 + 1) 2 (.bool tt.s))).trans (but_set _ (w.heap.size + 1 + 1 + 1) 3 (.slice ro (Dg.dg 4294967296 tt.n).length rc))).trans (but_set _ (w.heap.size + 1 + 1 + 1) 4 (.int .i64 tt.e))
  have bR := bu.below b06 (by omega)
  have rR := bu.rd r6 (rd_offU r6 o6 (by simp))
  have hl := run_loadVar_mid (P := Tryz.prog) _ (w.heap.size + 1 + 1 + 1) 0 98 [.int .i64 c, .bool g, .bool tt.s, .slice ro (Dg.dg 4294967296 tt.n).length rc, .int .i64 tt.e] _ cR.range Tryz.underlying98 rfl (by kernel_rfl)
  have HH : Hid (_ ∧ _ ∧ _) := ⟨hl, rR, bR⟩
  obtain ⟨z0, z1, z2, z3, z4⟩ := o6.cs5
  have fz0 := o6.free 0
  have fz1 := o6.free 1
  have fz2 := o6.free 2
  have fz3 := o6.free 3
  have fz4 := o6.free 4
  clear hl bR bu cR rR
  clear o6 b06 r6
  go_wp2
  obtain ⟨hl, rR, bR⟩ := HH.out
  obtain ⟨e1, e2, e3⟩ := HE.out
  rw [e1, e2, e3]
  exact bodyPost_ret (results_two Tryz.results55 rfl rfl hl) rfl ⟨_, rfl, rR, bR⟩
 ·have h1 := HSg.out
  rw [if_neg hg] at h1
  have hgn : gx = !gy := by cases gx <;> cases gy <;> simp_all
  subst hgn
  by_cases h5 : wy = 5
  ·subst h5
   rw [decide_eq_true rfl] at h1
   rw [h1] at HNs
   clear HSg hg h1
   cases gy
   all_goals
    go_wp2_with fail
    refine (HP.out _ b03).mono ?_
    rintro z w4 ⟨p4, rfl, o4, b4⟩
    obtain ⟨po, pc, hv⟩ := o4.rd.shape
    subst hv
    have r4 := o4.rd
    have o5 := o3.later b4
    have b04 := below_trans b03 b4
    clear u0 u1 u2 u3 u4 v0 v1 v2 v3 v4 q1 d3 x3 y3 o3 b03 b4 o4 HP
    go_wp2_with fail
    refine (HNs.out _ _ _ r4).mono ?_
    rintro z w6 ⟨p6, rfl, r6, b6⟩
    obtain ⟨ro, rc, hv⟩ := r6.shape
    subst hv
    have o6 := o5.later b6
    have b06 := below_trans b04 b6
    clear o5 b04 b6 r4 HNs
    have cR : LocE (((((w6.setCell ⟨w.heap.size + 1 + 1 + 1, 0, none⟩ (.int .i64 c)).setCell ⟨w.heap.size + 1 + 1 + 1, 1, none⟩ (.bool g)).setCell ⟨w.heap.size + 1 + 1 + 1, 2, none⟩ (.bool tt.s)).setCell ⟨w.heap.size + 1 + 1 + 1, 3, none⟩ (.slice ro (Dg.dg 4294967296 tt.n).length rc)).setCell ⟨w.heap.size + 1 + 1 + 1, 4, none⟩ (.int .i64 tt.e)) (w.heap.size + 1 + 1 + 1) 98 [.int .i64 c, .bool g, .bool tt.s, .slice ro (Dg.dg 4294967296 tt.n).length rc, .int .i64 tt.e] := (((((o6.set 0 (.int .i64 c)).set 1 (.bool g)).set 2 (.bool tt.s)).set 3 (.slice ro (Dg.dg 4294967296 tt.n).length rc)).set 4 (.int .i64 tt.e))
    have bu := ((((but_set w6 (w.heap.size + 1 + 1 + 1) 0 (.int .i64 c)).trans (but_set _ (w.heap.size + 1 + 1 + 1) 1 (.bool g))).trans (but_set _ (w.heap.size + 1 + 1 + 1) 2 (.bool tt.s))).trans (but_set _ (w.heap.size + 1 + 1 + 1) 3 (.slice ro (Dg.dg 4294967296 tt.n).length rc))).trans (but_set _ (w.heap.size + 1 + 1 + 1) 4 (.int .i64 tt.e))
    have bR := bu.below b06 (by omega)
    have rR := bu.rd r6 (rd_offU r6 o6 (by simp))
    have hl := run_loadVar_mid (P := Tryz.prog) _ (w.heap.size + 1 + 1 + 1) 0 98 [.int .i64 c, .bool g, .bool tt.s, .slice ro (Dg.dg 4294967296 tt.n).length rc, .int .i64 tt.e] _ cR.range Tryz.underlying98 rfl (by kernel_rfl)
    have HH : Hid (_ ∧ _ ∧ _) := ⟨hl, rR, bR⟩
    obtain ⟨z0, z1, z2, z3, z4⟩ := o6.cs5
    have fz0 := o6.free 0
    have fz1 := o6.free 1
    have fz2 := o6.free 2
    have fz3 := o6.free 3
    have fz4 := o6.free 4
    clear hl bR bu cR rR
    clear o6 b06 r6
    go_wp2
    obtain ⟨hl, rR, bR⟩ := HH.out
    obtain ⟨e1, e2, e3⟩ := HE.out
    rw [e1, e2, e3]
    exact bodyPost_ret (results_two Tryz.results55 rfl rfl hl) rfl ⟨_, rfl, rR, bR⟩
  ·rw [decide_eq_false h5] at h1
   have h5b : (wy == 5) = false := by simpa using h5
   rw [h1] at HNs
   clear HSg hg h1 h5
   cases gy
   all_goals
    go_wp2_with fail
    refine (HP.out _ b03).mono ?_
    rintro z w4 ⟨p4, rfl, o4, b4⟩
    obtain ⟨po, pc, hv⟩ := o4.rd.shape
    subst hv
    have r4 := o4.rd
    have o5 := o3.later b4
    have b04 := below_trans b03 b4
    clear u0 u1 u2 u3 u4 v0 v1 v2 v3 v4 q1 d3 x3 y3 o3 b03 b4 o4 HP
    go_wp2_with fail
    refine (HNs.out _ _ _ r4).mono ?_
    rintro z w6 ⟨p6, rfl, r6, b6⟩
    obtain ⟨ro, rc, hv⟩ := r6.shape
    subst hv
    have o6 := o5.later b6
    have b06 := below_trans b04 b6
    clear o5 b04 b6 r4 HNs
    have cR : LocE (((((w6.setCell ⟨w.heap.size + 1 + 1 + 1, 0, none⟩ (.int .i64 c)).setCell ⟨w.heap.size + 1 + 1 + 1, 1, none⟩ (.bool g)).setCell ⟨w.heap.size + 1 + 1 + 1, 2, none⟩ (.bool tt.s)).setCell ⟨w.heap.size + 1 + 1 + 1, 3, none⟩ (.slice ro (Dg.dg 4294967296 tt.n).length rc)).setCell ⟨w.heap.size + 1 + 1 + 1, 4, none⟩ (.int .i64 tt.e)) (w.heap.size + 1 + 1 + 1) 98 [.int .i64 c, .bool g, .bool tt.s, .slice ro (Dg.dg 4294967296 tt.n).length rc, .int .i64 tt.e] := (((((o6.set 0 (.int .i64 c)).set 1 (.bool g)).set 2 (.bool tt.s)).set 3 (.slice ro (Dg.dg 4294967296 tt.n).length rc)).set 4 (.int .i64 tt.e))
    have bu := ((((but_set w6 (w.heap.size + 1 + 1 + 1) 0 (.int .i64 c)).trans (but_set _ (w.heap.size + 1 + 1 + 1) 1 (.bool g))).trans (but_set _ (w.heap.size + 1 + 1 + 1) 2 (.bool tt.s))).trans (but_set _ (w.heap.size + 1 + 1 + 1) 3 (.slice ro (Dg.dg 4294967296 tt.n).length rc))).trans (but_set _ (w.heap.size + 1 + 1 + 1) 4 (.int .i64 tt.e))
    have bR := bu.below b06 (by omega)
    have rR := bu.rd r6 (rd_offU r6 o6 (by simp))
    have hl := run_loadVar_mid (P := Tryz.prog) _ (w.heap.size + 1 + 1 + 1) 0 98 [.int .i64 c, .bool g, .bool tt.s, .slice ro (Dg.dg 4294967296 tt.n).length rc, .int .i64 tt.e] _ cR.range Tryz.underlying98 rfl (by kernel_rfl)
    have HH : Hid (_ ∧ _ ∧ _) := ⟨hl, rR, bR⟩
    obtain ⟨z0, z1, z2, z3, z4⟩ := o6.cs5
    have fz0 := o6.free 0
    have fz1 := o6.free 1
    have fz2 := o6.free 2
    have fz3 := o6.free 3
    have fz4 := o6.free 4
    clear hl bR bu cR rR
    clear o6 b06 r6
    go_wp2
    obtain ⟨hl, rR, bR⟩ := HH.out
    obtain ⟨e1, e2, e3⟩ := HE.out
    rw [e1, e2, e3]
    exact bodyPost_ret (results_two Tryz.results55 rfl rfl hl) rfl ⟨_, rfl, rR, bR⟩
end Go.Proofs.YtnhackdjplppjaaGreatDoor

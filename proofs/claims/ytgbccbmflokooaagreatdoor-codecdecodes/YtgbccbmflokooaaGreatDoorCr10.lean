/-
  The reference's values as api's.
-/
import Derived.Test.YtgbccbmflokooaaGreatDoorCr4
import Derived.Test.YtgbccbmflokooaaGreatDoorDf1
import Derived.Deep.Cut
namespace Go.Proofs.YtgbccbmflokooaaGreatDoor
open Go.RowKit

set_option maxRecDepth 100000 in
set_option maxHeartbeats 3200000 in
theorem sameValue_true (c p : Int) (g : Bool) (ao bo : Option Addr) (zs : List Nat) (ca cb : Nat) (w : World) (ha : Rd w .u32 (.slice ao zs.length ca) zs) (hb : Rd w .u32 (.slice bo zs.length cb) zs) :
    Calls Tryz.prog 13 #[.agg #[.int .i64 c, .bool g, .slice ao zs.length ca, .int .i64 p], .agg #[.int .i64 c, .bool g, .slice bo zs.length cb, .int .i64 p]] w fun z w' => z = .returned (.bool true) ∧ Below w.heap.size w w' := by
  have b0 := below_trans (below_alloc w (.cells #[.int .i64 c, .bool g, .slice ao zs.length ca, .int .i64 p] 25)) (below_alloc _ (.cells #[.int .i64 c, .bool g, .slice bo zs.length cb, .int .i64 p] 25))
  have hs := same_any _ _ zs zs _ (ha.later b0) (hb.later b0)
  rw [decide_eq_true (rfl : zs = zs)] at hs
  have HS : Hid (Calls Tryz.prog 36 #[.slice ao zs.length ca, .slice bo zs.length cb] ((w.alloc (.cells #[.int .i64 c, .bool g, .slice ao zs.length ca, .int .i64 p] 25)).alloc (.cells #[.int .i64 c, .bool g, .slice bo zs.length cb, .int .i64 p] 25)) fun e w' => e = .returned (.bool true) ∧ Below ((w.alloc (.cells #[.int .i64 c, .bool g, .slice ao zs.length ca, .int .i64 p] 25)).alloc (.cells #[.int .i64 c, .bool g, .slice bo zs.length cb, .int .i64 p] 25)).heap.size ((w.alloc (.cells #[.int .i64 c, .bool g, .slice ao zs.length ca, .int .i64 p] 25)).alloc (.cells #[.int .i64 c, .bool g, .slice bo zs.length cb, .int .i64 p] 25)) w') := hs
  clear hs ha hb
  cases g
  all_goals go_enter Tryz.func13, Tryz.ntmps13
  all_goals go_wp2_with fail
  all_goals (refine Calls.mono HS.out ?_; rintro z w1 ⟨rfl, b1⟩; go_wp2; go_ret; exact ⟨rfl, below_trans b0 b1⟩)

set_option maxRecDepth 100000 in
set_option maxHeartbeats 3200000 in
theorem toValue_other (n c : Int) (g ts : Bool) (so : Option Addr) (tn sc : Nat) (te : Int) (w : World) (hc : c ≠ 2) :
    Calls Tryz.prog 11 #[.int .i64 n, .agg #[.int .i64 c, .bool g, .bool ts, .slice so (Dg.dg 65536 tn).length sc, .int .i64 te]] w fun z w' => z = .returned (.agg #[.int .i64 c, .bool g, .slice none 0 0, .int .i64 0]) ∧ Below w.heap.size w w' := by
  have hcb : (c == 2) = false := by simpa using hc
  have bv := below_alloc w (.cells #[.int .i64 c, .bool g, .bool ts, .slice so (Dg.dg 65536 tn).length sc, .int .i64 te] 34)
  have bz := below_alloc (w.alloc (.cells #[.int .i64 c, .bool g, .bool ts, .slice so (Dg.dg 65536 tn).length sc, .int .i64 te] 34)) (.cells #[.int .i64 0, .bool false, .slice none 0 0, .int .i64 0] 25)
  have bo := below_alloc ((w.alloc (.cells #[.int .i64 c, .bool g, .bool ts, .slice so (Dg.dg 65536 tn).length sc, .int .i64 te] 34)).alloc (.cells #[.int .i64 0, .bool false, .slice none 0 0, .int .i64 0] 25)) (.cells #[.int .i64 c, .bool g, .slice none 0 0, .int .i64 0] 25)
  have qv0 := ((locE_new w [.int .i64 c, .bool g, .bool ts, .slice so (Dg.dg 65536 tn).length sc, .int .i64 te] 34).later bz).later bo
  have qz0 := (locE_new (w.alloc (.cells #[.int .i64 c, .bool g, .bool ts, .slice so (Dg.dg 65536 tn).length sc, .int .i64 te] 34)) [.int .i64 0, .bool false, .slice none 0 0, .int .i64 0] 25).later bo
  have qo0 := locE_new ((w.alloc (.cells #[.int .i64 c, .bool g, .bool ts, .slice so (Dg.dg 65536 tn).length sc, .int .i64 te] 34)).alloc (.cells #[.int .i64 0, .bool false, .slice none 0 0, .int .i64 0] 25)) [.int .i64 c, .bool g, .slice none 0 0, .int .i64 0] 25
  have b0 := below_trans (below_trans bv bz) bo
  rw [World.size_alloc] at qz0
  rw [World.size_alloc, World.size_alloc] at qo0
  clear bv bz bo
  have x0 := qv0.cell 0 rfl; have x1 := qv0.cell 1 rfl; have x2 := qv0.cell 2 rfl; have x3 := qv0.cell 3 rfl; have x4 := qv0.cell 4 rfl; have y0 := qz0.cell 0 rfl; have y1 := qz0.cell 1 rfl; have y2 := qz0.cell 2 rfl; have y3 := qz0.cell 3 rfl; have o0 := qo0.cell 0 rfl; have o1 := qo0.cell 1 rfl; have o2 := qo0.cell 2 rfl; have o3 := qo0.cell 3 rfl
  go_enter Tryz.func11, Tryz.ntmps11
  go_upto_region 7 with fail
  generalize (((w.alloc (.cells #[.int .i64 c, .bool g, .bool ts, .slice so (Dg.dg 65536 tn).length sc, .int .i64 te] 34)).alloc (.cells #[.int .i64 0, .bool false, .slice none 0 0, .int .i64 0] 25)).alloc (.cells #[.int .i64 c, .bool g, .slice none 0 0, .int .i64 0] 25)) = w5 at *
  clear x0 x1 x2 x3 x4 y0 y1 y2 y3 o0 o1 o2 o3
  have y0 := qz0.cell 0 rfl; have y1 := qz0.cell 1 rfl; have y2 := qz0.cell 2 rfl; have y3 := qz0.cell 3 rfl; have o0 := qo0.cell 0 rfl; have o1 := qo0.cell 1 rfl; have o2 := qo0.cell 2 rfl; have o3 := qo0.cell 3 rfl; have j0 := qz0.free 0; have j1 := qz0.free 1; have j2 := qz0.free 2; have j3 := qz0.free 3
  have bu := (((but_set w5 (w.heap.size + 1) 0 (.int .i64 c)).trans (but_set _ (w.heap.size + 1) 1 (.bool g))).trans (but_set _ (w.heap.size + 1) 2 (.slice none 0 0))).trans (but_set _ (w.heap.size + 1) 3 (.int .i64 0))
  have cR : LocE ((((w5.setCell ⟨w.heap.size + 1, 0, none⟩ (.int .i64 c)).setCell ⟨w.heap.size + 1, 1, none⟩ (.bool g)).setCell ⟨w.heap.size + 1, 2, none⟩ (.slice none 0 0)).setCell ⟨w.heap.size + 1, 3, none⟩ (.int .i64 0)) (w.heap.size + 1) 25 [.int .i64 c, .bool g, .slice none 0 0, .int .i64 0] := ((((qz0.set 0 (.int .i64 c)).set 1 (.bool g)).set 2 (.slice none 0 0)).set 3 (.int .i64 0))
  have bR := bu.below b0 (Nat.le_succ _)
  have rR : True := trivial
  have hl := run_loadVar_mid (P := Tryz.prog) _ (w.heap.size + 1) 0 25 [.int .i64 c, .bool g, .slice none 0 0, .int .i64 0] _ cR.range Tryz.underlying25 rfl (by kernel_rfl)
  have HH : Hid (_ ∧ _ ∧ _) := ⟨hl, rR, bR⟩
  clear hl rR bR cR bu qv0 qz0 qo0 b0
  go_wp2
  obtain ⟨hl, rR, bR⟩ := HH.out
  exact bodyPost_ret (results_one Tryz.results11 rfl hl) rfl ⟨rfl, bR⟩

set_option maxRecDepth 100000 in
set_option maxHeartbeats 6400000 in
theorem toValue_1 (n : Int) (sz ex fr : Nat) (R D L G fam : Int) (gr : Bool) (g ts : Bool) (so : Option Addr) (tn sc : Nat) (te : Int) (m : Nat) (w : World) (hr : Rd w .i64 (.slice so (Dg.dg 65536 tn).length sc) (Dg.dg 65536 tn)) (htn : tn < 340282366920938463463374607431768211456) (he1 : -79000 ≤ te) (he2 : te ≤ 100000) (hm : m = tn)
    (HF : ∀ w1, Calls Tryz.prog 19 #[.int .i64 n] w1 fun z w' => z = .returned (.tuple #[.agg #[.int .i64 (sz : Int), .int .i64 (ex : Int), .int .i64 (fr : Int), .int .i64 R, .int .i64 D, .int .i64 L, .int .i64 G, .bool gr, .int .i64 fam], .bool true]) ∧ Below w1.heap.size w1 w')
    (HWI : ∀ w1, Calls Tryz.prog 31 #[.agg #[.int .i64 R, .int .i64 D, .int .i64 L, .int .i64 G, .bool gr]] w1 fun z w' => z = .returned (.int .i64 1) ∧ Below w1.heap.size w1 w') :
    Calls Tryz.prog 11 #[.int .i64 n, .agg #[.int .i64 2, .bool g, .bool ts, .slice so (Dg.dg 65536 tn).length sc, .int .i64 te]] w fun z w' => ∃ v, z = .returned (.agg #[.int .i64 2, .bool g, v, .int .i64 te]) ∧ Rd w' .u32 v (Dg.dg 4294967296 m) ∧ Below w.heap.size w w' := by
  have HF' : Hid (∀ w1, Calls Tryz.prog 19 #[.int .i64 n] w1 fun z w' => z = .returned (.tuple #[.agg #[.int .i64 (sz : Int), .int .i64 (ex : Int), .int .i64 (fr : Int), .int .i64 R, .int .i64 D, .int .i64 L, .int .i64 G, .bool gr, .int .i64 fam], .bool true]) ∧ Below w1.heap.size w1 w') := HF
  have HW' : Hid (∀ w1, Calls Tryz.prog 31 #[.agg #[.int .i64 R, .int .i64 D, .int .i64 L, .int .i64 G, .bool gr]] w1 fun z w' => z = .returned (.int .i64 1) ∧ Below w1.heap.size w1 w') := HWI
  have hln : (Dg.dg 65536 tn).length ≤ 8 := Dg.dg_len_le 65536 tn 8 (by omega) htn
  clear HF HWI
  have bv := below_alloc w (.cells #[.int .i64 2, .bool g, .bool ts, .slice so (Dg.dg 65536 tn).length sc, .int .i64 te] 34)
  have bz := below_alloc (w.alloc (.cells #[.int .i64 2, .bool g, .bool ts, .slice so (Dg.dg 65536 tn).length sc, .int .i64 te] 34)) (.cells #[.int .i64 0, .bool false, .slice none 0 0, .int .i64 0] 25)
  have bo := below_alloc ((w.alloc (.cells #[.int .i64 2, .bool g, .bool ts, .slice so (Dg.dg 65536 tn).length sc, .int .i64 te] 34)).alloc (.cells #[.int .i64 0, .bool false, .slice none 0 0, .int .i64 0] 25)) (.cells #[.int .i64 2, .bool g, .slice none 0 0, .int .i64 0] 25)
  have qv0 := ((locE_new w [.int .i64 2, .bool g, .bool ts, .slice so (Dg.dg 65536 tn).length sc, .int .i64 te] 34).later bz).later bo
  have qz0 := (locE_new (w.alloc (.cells #[.int .i64 2, .bool g, .bool ts, .slice so (Dg.dg 65536 tn).length sc, .int .i64 te] 34)) [.int .i64 0, .bool false, .slice none 0 0, .int .i64 0] 25).later bo
  have qo0 := locE_new ((w.alloc (.cells #[.int .i64 2, .bool g, .bool ts, .slice so (Dg.dg 65536 tn).length sc, .int .i64 te] 34)).alloc (.cells #[.int .i64 0, .bool false, .slice none 0 0, .int .i64 0] 25)) [.int .i64 2, .bool g, .slice none 0 0, .int .i64 0] 25
  have b0 := below_trans (below_trans bv bz) bo
  rw [World.size_alloc] at qz0
  rw [World.size_alloc, World.size_alloc] at qo0
  clear bv bz bo
  have hk1 : -80000 ≤ te := by omega
  have hk2 : te ≤ 200000 := by omega
  have HFl : Hid (∀ w1, Below w.heap.size w w1 → Calls Tryz.prog 35 #[.agg #[.bool false, .slice so (Dg.dg 65536 tn).length sc, .int .i64 (0)]] w1 (RNum w1 m)) := fun w1 b1 => by
    have := floorOf_any _ ⟨false, tn, 0⟩ w1 ⟨_, rfl, hr.later b1⟩ (by show (Dg.dg 65536 tn).length ≤ 100000; omega) (by show -1000000 ≤ 0; omega) (by show 0 ≤ 1000000; omega)
    have e0 : shN tn 0 = tn := by unfold shN; simp
    rw [hm]
    simp only [e0] at this
    exact this
  have hml : (Dg.dg 65536 m).length ≤ 70000 := by rw [hm]; omega
  have HTo : Hid (∀ v w1, Rd w1 .i64 v (Dg.dg 65536 m) → Calls Tryz.prog 34 #[v] w1 (Num w1 m)) := fun v w1 h => by
    have := to_any v _ w1 h (Dg.small_dg 65536 m (by omega)) (Dg.norm_dg 65536 m (by omega)) (by omega)
    rw [Dg.vl_dg 65536 m (by omega)] at this
    exact this
  clear hm
  have x0 := qv0.cell 0 rfl; have x1 := qv0.cell 1 rfl; have x2 := qv0.cell 2 rfl; have x3 := qv0.cell 3 rfl; have x4 := qv0.cell 4 rfl; have o0 := qo0.cell 0 rfl; have o1 := qo0.cell 1 rfl; have o2 := qo0.cell 2 rfl; have o3 := qo0.cell 3 rfl
  go_enter Tryz.func11, Tryz.ntmps11
  go_wp2_with fail
  refine (HF'.out _).mono ?_
  rintro z w1 ⟨rfl, b1⟩
  have bf := below_alloc w1 (.cells #[.int .i64 (sz : Int), .int .i64 (ex : Int), .int .i64 (fr : Int), .int .i64 R, .int .i64 D, .int .i64 L, .int .i64 G, .bool gr, .int .i64 fam] 53)
  have qv1 := (qv0.later b1).later bf
  have qz1 := (qz0.later b1).later bf
  have qo1 := (qo0.later b1).later bf
  have f1 := locE_new w1 [.int .i64 (sz : Int), .int .i64 (ex : Int), .int .i64 (fr : Int), .int .i64 R, .int .i64 D, .int .i64 L, .int .i64 G, .bool gr, .int .i64 fam] 53
  have b01 := below_trans (below_trans b0 b1) bf
  clear qv0 qz0 qo0 b0 b1 bf x0 x1 x2 x3 x4 o0 o1 o2 o3
  have f0 := f1.cell 0 rfl; have ff1 := f1.cell 1 rfl; have f2 := f1.cell 2 rfl; have f3 := f1.cell 3 rfl; have f4 := f1.cell 4 rfl; have f5 := f1.cell 5 rfl; have f6 := f1.cell 6 rfl; have f7 := f1.cell 7 rfl; have f8 := f1.cell 8 rfl
  go_wp2_with fail
  refine (HW'.out _).mono ?_
  rintro z w2 ⟨rfl, b2⟩
  have qv2 := qv1.later b2
  have qz2 := qz1.later b2
  have qo2 := qo1.later b2
  have b02 := below_trans b01 b2
  clear qv1 qz1 qo1 f1 b01 b2 f0 ff1 f2 f3 f4 f5 f6 f7 f8
  have x0 := qv2.cell 0 rfl; have x1 := qv2.cell 1 rfl; have x2 := qv2.cell 2 rfl; have x3 := qv2.cell 3 rfl; have x4 := qv2.cell 4 rfl
  go_wp2_with fail
  go_quiet (fail)
  have bd : Below w2.heap.size w2 (w2.drewN nq) := below_drewN (Below.refl _ _) _
  have qv3 := qv2.later bd
  have qz3 := qz2.later bd
  have qo3 := qo2.later bd
  have b03 := below_trans b02 bd
  clear qv2 qz2 qo2 b02 bd x0 x1 x2 x3 x4
  generalize w2.drewN nq = w3 at *
  have x0 := qv3.cell 0 rfl; have x1 := qv3.cell 1 rfl; have x2 := qv3.cell 2 rfl; have x3 := qv3.cell 3 rfl; have x4 := qv3.cell 4 rfl
  go_wp2_with fail
  refine (HFl.out _ b03).mono ?_
  rintro z w4 ⟨v4, rfl, r4, b4⟩
  obtain ⟨fo, fc, hv4⟩ := r4.shape
  subst hv4
  go_wp2_with fail
  refine (HTo.out _ _ r4).mono ?_
  rintro z w5 ⟨v5, rfl, own5, b5⟩
  obtain ⟨lo, lc, hv5⟩ := own5.rd.shape
  subst hv5
  have qz5 := (qz3.later b4).later b5
  have qo5 := (qo3.later b4).later b5
  have b05 := below_trans (below_trans b03 b4) b5
  have r5 := own5.rd
  clear qv3 qz3 qo3 b03 b4 b5 x0 x1 x2 x3 x4 r4 own5 HFl HTo HF' HW'
  have o0 := qo5.cell 0 rfl; have o1 := qo5.cell 1 rfl; have o2 := qo5.cell 2 rfl; have o3 := qo5.cell 3 rfl
  have jo0 := qo5.free 0; have jo1 := qo5.free 1; have jo2 := qo5.free 2; have jo3 := qo5.free 3
  go_upto_region 7 with fail
  have hoz : w.heap.size + 1 + 1 ≠ w.heap.size + 1 := Nat.succ_ne_self _
  have bu6 := (but_set w5 (w.heap.size + 1 + 1) 2 (.slice lo (Dg.dg 4294967296 m).length lc)).trans (but_set _ (w.heap.size + 1 + 1) 3 (.int .i64 te))
  have ov6 := rd_offE r5 (Dg.norm_dg _ _ (by omega)) qo5 (fun x hx n hn => by simp at hx; rcases hx with rfl | rfl | rfl | rfl <;> simp)
  have r6 := bu6.rd r5 ov6
  have qz6 := (qz5.off hoz 2 (.slice lo (Dg.dg 4294967296 m).length lc)).off hoz 3 (.int .i64 te)
  have qo6 : LocE ((w5.setCell ⟨w.heap.size + 1 + 1, 2, none⟩ (.slice lo (Dg.dg 4294967296 m).length lc)).setCell ⟨w.heap.size + 1 + 1, 3, none⟩ (.int .i64 te)) (w.heap.size + 1 + 1) 25 [.int .i64 2, .bool g, .slice lo (Dg.dg 4294967296 m).length lc, .int .i64 te] := (qo5.set 2 (.slice lo (Dg.dg 4294967296 m).length lc)).set 3 (.int .i64 te)
  have b06 := bu6.below b05 (by omega)
  clear bu6 ov6 r5 qz5 qo5 b05 o0 jo0 o1 jo1 o2 jo2 o3 jo3
  generalize ((w5.setCell ⟨w.heap.size + 1 + 1, 2, none⟩ (.slice lo (Dg.dg 4294967296 m).length lc)).setCell ⟨w.heap.size + 1 + 1, 3, none⟩ (.int .i64 te)) = w6 at *
  have o0 := qo6.cell 0 rfl; have o1 := qo6.cell 1 rfl; have o2 := qo6.cell 2 rfl; have o3 := qo6.cell 3 rfl
  have y0 := qz6.cell 0 rfl; have y1 := qz6.cell 1 rfl; have y2 := qz6.cell 2 rfl; have y3 := qz6.cell 3 rfl; have j0 := qz6.free 0; have j1 := qz6.free 1; have j2 := qz6.free 2; have j3 := qz6.free 3
  have bu := (((but_set w6 (w.heap.size + 1) 0 (.int .i64 2)).trans (but_set _ (w.heap.size + 1) 1 (.bool g))).trans (but_set _ (w.heap.size + 1) 2 (.slice lo (Dg.dg 4294967296 m).length lc))).trans (but_set _ (w.heap.size + 1) 3 (.int .i64 te))
  have cR : LocE ((((w6.setCell ⟨w.heap.size + 1, 0, none⟩ (.int .i64 2)).setCell ⟨w.heap.size + 1, 1, none⟩ (.bool g)).setCell ⟨w.heap.size + 1, 2, none⟩ (.slice lo (Dg.dg 4294967296 m).length lc)).setCell ⟨w.heap.size + 1, 3, none⟩ (.int .i64 te)) (w.heap.size + 1) 25 [.int .i64 2, .bool g, .slice lo (Dg.dg 4294967296 m).length lc, .int .i64 te] := ((((qz6.set 0 (.int .i64 2)).set 1 (.bool g)).set 2 (.slice lo (Dg.dg 4294967296 m).length lc)).set 3 (.int .i64 te))
  have bR := bu.below b06 (Nat.le_succ _)
  have rR := bu.rd r6 (rd_offE r6 (Dg.norm_dg _ _ (by omega)) qz6 (fun x hx n hn => by simp at hx; rcases hx with rfl | rfl | rfl | rfl <;> simp <;> omega))
  have hl := run_loadVar_mid (P := Tryz.prog) _ (w.heap.size + 1) 0 25 [.int .i64 2, .bool g, .slice lo (Dg.dg 4294967296 m).length lc, .int .i64 te] _ cR.range Tryz.underlying25 rfl (by kernel_rfl)
  have HH : Hid (_ ∧ _ ∧ _) := ⟨hl, rR, bR⟩
  clear hl rR bR cR bu qz6 qo6 b06 r6
  go_wp2
  obtain ⟨hl, rR, bR⟩ := HH.out
  exact bodyPost_ret (results_one Tryz.results11 rfl hl) rfl ⟨_, rfl, rR, bR⟩

set_option maxRecDepth 100000 in
set_option maxHeartbeats 6400000 in
theorem toValue_4 (n : Int) (sz ex fr : Nat) (R D L G fam : Int) (gr : Bool) (g ts : Bool) (so : Option Addr) (tn sc : Nat) (te k : Int) (m : Nat) (w : World) (hr : Rd w .i64 (.slice so (Dg.dg 65536 tn).length sc) (Dg.dg 65536 tn)) (htn : tn < 340282366920938463463374607431768211456) (he1 : -79000 ≤ te) (he2 : te ≤ 100000) (hk : 4 * k ≤ te ∧ te < 4 * k + 4) (hm : m = shN tn (te - 4 * k))
    (HF : ∀ w1, Calls Tryz.prog 19 #[.int .i64 n] w1 fun z w' => z = .returned (.tuple #[.agg #[.int .i64 (sz : Int), .int .i64 (ex : Int), .int .i64 (fr : Int), .int .i64 R, .int .i64 D, .int .i64 L, .int .i64 G, .bool gr, .int .i64 fam], .bool true]) ∧ Below w1.heap.size w1 w')
    (HWI : ∀ w1, Calls Tryz.prog 31 #[.agg #[.int .i64 R, .int .i64 D, .int .i64 L, .int .i64 G, .bool gr]] w1 fun z w' => z = .returned (.int .i64 4) ∧ Below w1.heap.size w1 w') :
    Calls Tryz.prog 11 #[.int .i64 n, .agg #[.int .i64 2, .bool g, .bool ts, .slice so (Dg.dg 65536 tn).length sc, .int .i64 te]] w fun z w' => ∃ v, z = .returned (.agg #[.int .i64 2, .bool g, v, .int .i64 k]) ∧ Rd w' .u32 v (Dg.dg 4294967296 m) ∧ Below w.heap.size w w' := by
  have HF' : Hid (∀ w1, Calls Tryz.prog 19 #[.int .i64 n] w1 fun z w' => z = .returned (.tuple #[.agg #[.int .i64 (sz : Int), .int .i64 (ex : Int), .int .i64 (fr : Int), .int .i64 R, .int .i64 D, .int .i64 L, .int .i64 G, .bool gr, .int .i64 fam], .bool true]) ∧ Below w1.heap.size w1 w') := HF
  have HW' : Hid (∀ w1, Calls Tryz.prog 31 #[.agg #[.int .i64 R, .int .i64 D, .int .i64 L, .int .i64 G, .bool gr]] w1 fun z w' => z = .returned (.int .i64 4) ∧ Below w1.heap.size w1 w') := HWI
  have hln : (Dg.dg 65536 tn).length ≤ 8 := Dg.dg_len_le 65536 tn 8 (by omega) htn
  clear HF HWI
  have bv := below_alloc w (.cells #[.int .i64 2, .bool g, .bool ts, .slice so (Dg.dg 65536 tn).length sc, .int .i64 te] 34)
  have bz := below_alloc (w.alloc (.cells #[.int .i64 2, .bool g, .bool ts, .slice so (Dg.dg 65536 tn).length sc, .int .i64 te] 34)) (.cells #[.int .i64 0, .bool false, .slice none 0 0, .int .i64 0] 25)
  have bo := below_alloc ((w.alloc (.cells #[.int .i64 2, .bool g, .bool ts, .slice so (Dg.dg 65536 tn).length sc, .int .i64 te] 34)).alloc (.cells #[.int .i64 0, .bool false, .slice none 0 0, .int .i64 0] 25)) (.cells #[.int .i64 2, .bool g, .slice none 0 0, .int .i64 0] 25)
  have qv0 := ((locE_new w [.int .i64 2, .bool g, .bool ts, .slice so (Dg.dg 65536 tn).length sc, .int .i64 te] 34).later bz).later bo
  have qz0 := (locE_new (w.alloc (.cells #[.int .i64 2, .bool g, .bool ts, .slice so (Dg.dg 65536 tn).length sc, .int .i64 te] 34)) [.int .i64 0, .bool false, .slice none 0 0, .int .i64 0] 25).later bo
  have qo0 := locE_new ((w.alloc (.cells #[.int .i64 2, .bool g, .bool ts, .slice so (Dg.dg 65536 tn).length sc, .int .i64 te] 34)).alloc (.cells #[.int .i64 0, .bool false, .slice none 0 0, .int .i64 0] 25)) [.int .i64 2, .bool g, .slice none 0 0, .int .i64 0] 25
  have b0 := below_trans (below_trans bv bz) bo
  rw [World.size_alloc] at qz0
  rw [World.size_alloc, World.size_alloc] at qo0
  clear bv bz bo
  have hk1 : -80000 ≤ k := by omega
  have hk2 : k ≤ 200000 := by omega
  have hkw : IntKind.i64.wrap (4 * k) = 4 * k := IntWalk.i64_in _ ⟨by omega, by omega⟩
  have hd1 : -10 ≤ te - 4 * k := by omega
  have hd2 : te - 4 * k ≤ 10 := by omega
  have hdw : IntKind.i64.wrap (te - 4 * k) = te - 4 * k := IntWalk.i64_in _ ⟨by omega, by omega⟩
  have HFl : Hid (∀ w1, Below w.heap.size w w1 → Calls Tryz.prog 35 #[.agg #[.bool false, .slice so (Dg.dg 65536 tn).length sc, .int .i64 (te - 4 * k)]] w1 (RNum w1 m)) := fun w1 b1 => by
    have := floorOf_any _ ⟨false, tn, te - 4 * k⟩ w1 ⟨_, rfl, hr.later b1⟩ (by show (Dg.dg 65536 tn).length ≤ 100000; omega) (by show -1000000 ≤ te - 4 * k; omega) (by show te - 4 * k ≤ 1000000; omega)
    rw [hm]
    exact this
  have hml : (Dg.dg 65536 m).length ≤ 70000 := by
    have := shN_len2 (N := tn) (n := te - 4 * k) hln (by omega) (by omega)
    rw [← hm] at this
    omega
  have HTo : Hid (∀ v w1, Rd w1 .i64 v (Dg.dg 65536 m) → Calls Tryz.prog 34 #[v] w1 (Num w1 m)) := fun v w1 h => by
    have := to_any v _ w1 h (Dg.small_dg 65536 m (by omega)) (Dg.norm_dg 65536 m (by omega)) (by omega)
    rw [Dg.vl_dg 65536 m (by omega)] at this
    exact this
  clear hm
  have x0 := qv0.cell 0 rfl; have x1 := qv0.cell 1 rfl; have x2 := qv0.cell 2 rfl; have x3 := qv0.cell 3 rfl; have x4 := qv0.cell 4 rfl; have o0 := qo0.cell 0 rfl; have o1 := qo0.cell 1 rfl; have o2 := qo0.cell 2 rfl; have o3 := qo0.cell 3 rfl
  go_enter Tryz.func11, Tryz.ntmps11
  go_wp2_with fail
  refine (HF'.out _).mono ?_
  rintro z w1 ⟨rfl, b1⟩
  have bf := below_alloc w1 (.cells #[.int .i64 (sz : Int), .int .i64 (ex : Int), .int .i64 (fr : Int), .int .i64 R, .int .i64 D, .int .i64 L, .int .i64 G, .bool gr, .int .i64 fam] 53)
  have qv1 := (qv0.later b1).later bf
  have qz1 := (qz0.later b1).later bf
  have qo1 := (qo0.later b1).later bf
  have f1 := locE_new w1 [.int .i64 (sz : Int), .int .i64 (ex : Int), .int .i64 (fr : Int), .int .i64 R, .int .i64 D, .int .i64 L, .int .i64 G, .bool gr, .int .i64 fam] 53
  have b01 := below_trans (below_trans b0 b1) bf
  clear qv0 qz0 qo0 b0 b1 bf x0 x1 x2 x3 x4 o0 o1 o2 o3
  have f0 := f1.cell 0 rfl; have ff1 := f1.cell 1 rfl; have f2 := f1.cell 2 rfl; have f3 := f1.cell 3 rfl; have f4 := f1.cell 4 rfl; have f5 := f1.cell 5 rfl; have f6 := f1.cell 6 rfl; have f7 := f1.cell 7 rfl; have f8 := f1.cell 8 rfl
  go_wp2_with fail
  refine (HW'.out _).mono ?_
  rintro z w2 ⟨rfl, b2⟩
  have qv2 := qv1.later b2
  have qz2 := qz1.later b2
  have qo2 := qo1.later b2
  have b02 := below_trans b01 b2
  clear qv1 qz1 qo1 f1 b01 b2 f0 ff1 f2 f3 f4 f5 f6 f7 f8
  have x0 := qv2.cell 0 rfl; have x1 := qv2.cell 1 rfl; have x2 := qv2.cell 2 rfl; have x3 := qv2.cell 3 rfl; have x4 := qv2.cell 4 rfl
  have hq1 : (te + 80000) / 4 = k + 20000 := by omega
  go_wp2_with fail
  go_quiet (fail)
  have bd : Below w2.heap.size w2 (w2.drewN nq) := below_drewN (Below.refl _ _) _
  have qv3 := qv2.later bd
  have qz3 := qz2.later bd
  have qo3 := qo2.later bd
  have b03 := below_trans b02 bd
  clear qv2 qz2 qo2 b02 bd x0 x1 x2 x3 x4
  generalize w2.drewN nq = w3 at *
  have x0 := qv3.cell 0 rfl; have x1 := qv3.cell 1 rfl; have x2 := qv3.cell 2 rfl; have x3 := qv3.cell 3 rfl; have x4 := qv3.cell 4 rfl
  go_wp2_with fail
  refine (HFl.out _ b03).mono ?_
  rintro z w4 ⟨v4, rfl, r4, b4⟩
  obtain ⟨fo, fc, hv4⟩ := r4.shape
  subst hv4
  go_wp2_with fail
  refine (HTo.out _ _ r4).mono ?_
  rintro z w5 ⟨v5, rfl, own5, b5⟩
  obtain ⟨lo, lc, hv5⟩ := own5.rd.shape
  subst hv5
  have qz5 := (qz3.later b4).later b5
  have qo5 := (qo3.later b4).later b5
  have b05 := below_trans (below_trans b03 b4) b5
  have r5 := own5.rd
  clear qv3 qz3 qo3 b03 b4 b5 x0 x1 x2 x3 x4 r4 own5 HFl HTo HF' HW'
  have o0 := qo5.cell 0 rfl; have o1 := qo5.cell 1 rfl; have o2 := qo5.cell 2 rfl; have o3 := qo5.cell 3 rfl
  have jo0 := qo5.free 0; have jo1 := qo5.free 1; have jo2 := qo5.free 2; have jo3 := qo5.free 3
  go_upto_region 7 with fail
  have hoz : w.heap.size + 1 + 1 ≠ w.heap.size + 1 := Nat.succ_ne_self _
  have bu6 := (but_set w5 (w.heap.size + 1 + 1) 2 (.slice lo (Dg.dg 4294967296 m).length lc)).trans (but_set _ (w.heap.size + 1 + 1) 3 (.int .i64 k))
  have ov6 := rd_offE r5 (Dg.norm_dg _ _ (by omega)) qo5 (fun x hx n hn => by simp at hx; rcases hx with rfl | rfl | rfl | rfl <;> simp)
  have r6 := bu6.rd r5 ov6
  have qz6 := (qz5.off hoz 2 (.slice lo (Dg.dg 4294967296 m).length lc)).off hoz 3 (.int .i64 k)
  have qo6 : LocE ((w5.setCell ⟨w.heap.size + 1 + 1, 2, none⟩ (.slice lo (Dg.dg 4294967296 m).length lc)).setCell ⟨w.heap.size + 1 + 1, 3, none⟩ (.int .i64 k)) (w.heap.size + 1 + 1) 25 [.int .i64 2, .bool g, .slice lo (Dg.dg 4294967296 m).length lc, .int .i64 k] := (qo5.set 2 (.slice lo (Dg.dg 4294967296 m).length lc)).set 3 (.int .i64 k)
  have b06 := bu6.below b05 (by omega)
  clear bu6 ov6 r5 qz5 qo5 b05 o0 jo0 o1 jo1 o2 jo2 o3 jo3
  generalize ((w5.setCell ⟨w.heap.size + 1 + 1, 2, none⟩ (.slice lo (Dg.dg 4294967296 m).length lc)).setCell ⟨w.heap.size + 1 + 1, 3, none⟩ (.int .i64 k)) = w6 at *
  have o0 := qo6.cell 0 rfl; have o1 := qo6.cell 1 rfl; have o2 := qo6.cell 2 rfl; have o3 := qo6.cell 3 rfl
  have y0 := qz6.cell 0 rfl; have y1 := qz6.cell 1 rfl; have y2 := qz6.cell 2 rfl; have y3 := qz6.cell 3 rfl; have j0 := qz6.free 0; have j1 := qz6.free 1; have j2 := qz6.free 2; have j3 := qz6.free 3
  have bu := (((but_set w6 (w.heap.size + 1) 0 (.int .i64 2)).trans (but_set _ (w.heap.size + 1) 1 (.bool g))).trans (but_set _ (w.heap.size + 1) 2 (.slice lo (Dg.dg 4294967296 m).length lc))).trans (but_set _ (w.heap.size + 1) 3 (.int .i64 k))
  have cR : LocE ((((w6.setCell ⟨w.heap.size + 1, 0, none⟩ (.int .i64 2)).setCell ⟨w.heap.size + 1, 1, none⟩ (.bool g)).setCell ⟨w.heap.size + 1, 2, none⟩ (.slice lo (Dg.dg 4294967296 m).length lc)).setCell ⟨w.heap.size + 1, 3, none⟩ (.int .i64 k)) (w.heap.size + 1) 25 [.int .i64 2, .bool g, .slice lo (Dg.dg 4294967296 m).length lc, .int .i64 k] := ((((qz6.set 0 (.int .i64 2)).set 1 (.bool g)).set 2 (.slice lo (Dg.dg 4294967296 m).length lc)).set 3 (.int .i64 k))
  have bR := bu.below b06 (Nat.le_succ _)
  have rR := bu.rd r6 (rd_offE r6 (Dg.norm_dg _ _ (by omega)) qz6 (fun x hx n hn => by simp at hx; rcases hx with rfl | rfl | rfl | rfl <;> simp <;> omega))
  have hl := run_loadVar_mid (P := Tryz.prog) _ (w.heap.size + 1) 0 25 [.int .i64 2, .bool g, .slice lo (Dg.dg 4294967296 m).length lc, .int .i64 k] _ cR.range Tryz.underlying25 rfl (by kernel_rfl)
  have HH : Hid (_ ∧ _ ∧ _) := ⟨hl, rR, bR⟩
  clear hl rR bR cR bu qz6 qo6 b06 r6
  go_wp2
  obtain ⟨hl, rR, bR⟩ := HH.out
  exact bodyPost_ret (results_one Tryz.results11 rfl hl) rfl ⟨_, rfl, rR, bR⟩

end Go.Proofs.YtgbccbmflokooaaGreatDoor

/-
  Texts laid together: Gg9, Gg10.
-/
import Derived.Test.YtmjhlflemfkflaaDoorGg
import Derived.Test.YtmjhlflemfkflaaDoorGb
import Derived.Test.YtmjhlflemfkflaaDoorGr8
import Derived.Test.YtmjhlflemfkflaaDoorDe
/-
  Grids: the walk of GridGrows.
-/
namespace Go.Proofs.YtmjhlflemfkflaaDoor
open Go.RowKit

set_option maxRecDepth 100000 in
set_option maxHeartbeats 12800000 in
theorem gridGrowsW (qs : Bool) (ao : Option Addr) (la ca : Nat) (bo : Option Addr) (lb cb : Nat) (E : Int) (rs : Bool) (no : Option Addr) (nl nc : Nat) (mo : Option Addr) (ml mc : Nat) (F R D L G : Int) (gr : Bool) (way : Int) (oka okb : Bool) (xs : Bool) (xn : Nat) (xe : Int) (ys : Bool) (yn : Nat) (ye : Int) (N1 M1 N2 M2 : Nat) (A1 A2 A3 A4 : Trip) (ps : Bool) (pn : Nat) (pe : Int) (us : Bool) (un : Nat) (ue c more : Int) (w : World)
    (HBG : ∀ w1, Calls Tryd.prog 21 #[] w1 fun z w' => z = .returned (.bool true) ∧ Below w1.heap.size w1 w')
    (HRA : ∀ w1, Below w.heap.size w w1 → Calls Tryd.prog 30 #[.agg #[.bool qs, .slice ao la ca, .slice bo lb cb, .int .i64 E], .agg #[.int .i64 R, .int .i64 D, .int .i64 L, .int .i64 G, .bool gr], .int .i64 way] w1 (RndRes w1 ⟨xs, xn, xe⟩ oka))
    (HRB : ∀ w1, Below w.heap.size w w1 → Calls Tryd.prog 30 #[.agg #[.bool rs, .slice no nl nc, .slice mo ml mc, .int .i64 F], .agg #[.int .i64 R, .int .i64 D, .int .i64 L, .int .i64 G, .bool gr], .int .i64 way] w1 (RndRes w1 ⟨ys, yn, ye⟩ okb))
    (HO1 : oka = true → ∀ w1, Below w.heap.size w w1 → Calls Tryd.prog 19 #[.slice ao la ca] w1 (RNum w1 N1))
    (HO2 : okb = true → ∀ w1, Below w.heap.size w w1 → Calls Tryd.prog 19 #[.slice mo ml mc] w1 (RNum w1 M2))
    (HO3 : okb = true → ∀ w1, Below w.heap.size w w1 → Calls Tryd.prog 19 #[.slice no nl nc] w1 (RNum w1 N2))
    (HO4 : oka = true → ∀ w1, Below w.heap.size w w1 → Calls Tryd.prog 19 #[.slice bo lb cb] w1 (RNum w1 M1))
    (HB1 : oka = true → ∀ o k w1, Rd w1 .i64 (.slice o (Dg.dg 65536 N1).length k) (Dg.dg 65536 N1) → Calls Tryd.prog 18 #[.agg #[.bool qs, .slice o (Dg.dg 65536 N1).length k, .int .i64 E]] w1 (RDRes w1 A1))
    (HB2 : okb = true → ∀ o k w1, Rd w1 .i64 (.slice o (Dg.dg 65536 M2).length k) (Dg.dg 65536 M2) → Calls Tryd.prog 18 #[.agg #[.bool false, .slice o (Dg.dg 65536 M2).length k, .int .i64 0]] w1 (RDRes w1 A2))
    (HB3 : okb = true → ∀ o k w1, Rd w1 .i64 (.slice o (Dg.dg 65536 N2).length k) (Dg.dg 65536 N2) → Calls Tryd.prog 18 #[.agg #[.bool rs, .slice o (Dg.dg 65536 N2).length k, .int .i64 F]] w1 (RDRes w1 A3))
    (HB4 : oka = true → ∀ o k w1, Rd w1 .i64 (.slice o (Dg.dg 65536 M1).length k) (Dg.dg 65536 M1) → Calls Tryd.prog 18 #[.agg #[.bool false, .slice o (Dg.dg 65536 M1).length k, .int .i64 0]] w1 (RDRes w1 A4))
    (HT : oka = true → okb = true → ∀ o k o' k' w1, Rd w1 .i64 (.slice o (Dg.dg 65536 A1.n).length k) (Dg.dg 65536 A1.n) → Rd w1 .i64 (.slice o' (Dg.dg 65536 A2.n).length k') (Dg.dg 65536 A2.n) → Calls Tryd.prog 35 #[.agg #[.bool A1.s, .slice o (Dg.dg 65536 A1.n).length k, .int .i64 A1.e], .agg #[.bool A2.s, .slice o' (Dg.dg 65536 A2.n).length k', .int .i64 A2.e]] w1 (RDRes w1 ⟨ps, pn, pe⟩))
    (HU : oka = true → okb = true → ∀ o k o' k' w1, Rd w1 .i64 (.slice o (Dg.dg 65536 A3.n).length k) (Dg.dg 65536 A3.n) → Rd w1 .i64 (.slice o' (Dg.dg 65536 A4.n).length k') (Dg.dg 65536 A4.n) → Calls Tryd.prog 35 #[.agg #[.bool A3.s, .slice o (Dg.dg 65536 A3.n).length k, .int .i64 A3.e], .agg #[.bool A4.s, .slice o' (Dg.dg 65536 A4.n).length k', .int .i64 A4.e]] w1 (RDRes w1 ⟨us, un, ue⟩))
    (HC : oka = true → okb = true → ∀ o k o' k' w1, Rd w1 .u32 (.slice o (Dg.dg 4294967296 xn).length k) (Dg.dg 4294967296 xn) → Rd w1 .u32 (.slice o' (Dg.dg 4294967296 yn).length k') (Dg.dg 4294967296 yn) → Calls Tryd.prog 36 #[.agg #[.bool xs, .slice o (Dg.dg 4294967296 xn).length k, .int .i64 xe], .agg #[.bool ys, .slice o' (Dg.dg 4294967296 yn).length k', .int .i64 ye]] w1 fun z w' => z = .returned (.tuple #[.int .i64 c, .int .i64 0]) ∧ Below w1.heap.size w1 w')
    (HM : oka = true → okb = true → ∀ o k o' k' w1, Rd w1 .i64 (.slice o (Dg.dg 65536 pn).length k) (Dg.dg 65536 pn) → Rd w1 .i64 (.slice o' (Dg.dg 65536 un).length k') (Dg.dg 65536 un) → Calls Tryd.prog 37 #[.agg #[.bool ps, .slice o (Dg.dg 65536 pn).length k, .int .i64 pe], .agg #[.bool us, .slice o' (Dg.dg 65536 un).length k', .int .i64 ue]] w1 fun z w' => z = .returned (.int .i64 more) ∧ Below w1.heap.size w1 w')
    (HE : oka = true → okb = true → (more < 0 ∧ c ≤ 0) ∨ (0 < more ∧ 0 ≤ c) ∨ (more = 0 ∧ c = 0)) :
    Calls Tryd.prog 9 #[.agg #[.bool qs, .slice ao la ca, .slice bo lb cb, .int .i64 E], .agg #[.bool rs, .slice no nl nc, .slice mo ml mc, .int .i64 F], .agg #[.int .i64 R, .int .i64 D, .int .i64 L, .int .i64 G, .bool gr], .int .i64 way] w fun z w' => z = .returned (.bool true) ∧ Below w.heap.size w w' := by
  replace HBG : Hid _ := HBG
  replace HRA : Hid _ := HRA
  replace HRB : Hid _ := HRB
  replace HO1 : Hid _ := HO1
  replace HO2 : Hid _ := HO2
  replace HO3 : Hid _ := HO3
  replace HO4 : Hid _ := HO4
  replace HB1 : Hid _ := HB1
  replace HB2 : Hid _ := HB2
  replace HB3 : Hid _ := HB3
  replace HB4 : Hid _ := HB4
  replace HT : Hid _ := HT
  replace HU : Hid _ := HU
  replace HC : Hid _ := HC
  replace HM : Hid _ := HM
  replace HE : Hid _ := HE
  have b1 := below_trans (below_trans (below_alloc w (.cells #[.bool qs, .slice ao la ca, .slice bo lb cb, .int .i64 E] 62)) (below_alloc _ (.cells #[.bool rs, .slice no nl nc, .slice mo ml mc, .int .i64 F] 62))) (below_alloc _ (.cells #[.int .i64 R, .int .i64 D, .int .i64 L, .int .i64 G, .bool gr] 39))
  have q1 := ((locE_new w [.bool qs, .slice ao la ca, .slice bo lb cb, .int .i64 E] 62).later (below_alloc _ (.cells #[.bool rs, .slice no nl nc, .slice mo ml mc, .int .i64 F] 62))).later (below_alloc _ (.cells #[.int .i64 R, .int .i64 D, .int .i64 L, .int .i64 G, .bool gr] 39))
  have r1 := (locE_new (w.alloc (.cells #[.bool qs, .slice ao la ca, .slice bo lb cb, .int .i64 E] 62)) [.bool rs, .slice no nl nc, .slice mo ml mc, .int .i64 F] 62).later (below_alloc _ (.cells #[.int .i64 R, .int .i64 D, .int .i64 L, .int .i64 G, .bool gr] 39))
  have g1 := locE_new ((w.alloc (.cells #[.bool qs, .slice ao la ca, .slice bo lb cb, .int .i64 E] 62)).alloc (.cells #[.bool rs, .slice no nl nc, .slice mo ml mc, .int .i64 F] 62)) [.int .i64 R, .int .i64 D, .int .i64 L, .int .i64 G, .bool gr] 39
  simp only [World.size_alloc] at r1 g1
  go_enter Tryd.func9, Tryd.ntmps9
  go_wp2_with fail
  refine (HBG.out _).mono ?_
  rintro z w2 ⟨rfl, bb2⟩
  have q_2 := q1.later bb2
  have r_2 := r1.later bb2
  have g_2 := g1.later bb2
  have b0_2 := below_trans b1 bb2
  clear q1 r1 g1 b1 bb2
  have x0 := q_2.cell 0 rfl
  have x1 := q_2.cell 1 rfl
  have x2 := q_2.cell 2 rfl
  have x3 := q_2.cell 3 rfl
  have y0 := g_2.cell 0 rfl
  have y1 := g_2.cell 1 rfl
  have y2 := g_2.cell 2 rfl
  have y3 := g_2.cell 3 rfl
  have y4 := g_2.cell 4 rfl
  go_wp2_with fail
  refine (HRA.out _ b0_2).mono ?_
  rintro z w3 ⟨vw3, rfl, ow3, bbw3⟩
  obtain ⟨xo, xc, hvw3⟩ := ow3.rd.shape
  subst hvw3
  have rw3 := ow3.rd
  simp only at rw3 ⊢
  clear ow3 x0 x1 x2 x3 y0 y1 y2 y3 y4
  have q_3 := q_2.later bbw3
  have r_3 := r_2.later bbw3
  have g_3 := g_2.later bbw3
  have b0_3 := below_trans b0_2 bbw3
  clear q_2 r_2 g_2 b0_2 bbw3
  have alw3 := below_alloc w3 (.cells #[.bool xs, .slice xo (Dg.dg 4294967296 xn).length xc, .int .i64 xe] 25)
  have nw3 := locE_new w3 [.bool xs, .slice xo (Dg.dg 4294967296 xn).length xc, .int .i64 xe] 25
  have q_4 := q_3.later alw3
  have r_4 := r_3.later alw3
  have g_4 := g_3.later alw3
  have rx_4 := rw3.later alw3
  have b0_4 := below_trans b0_3 alw3
  clear q_3 r_3 g_3 rw3 b0_3 alw3
  go_upto_region 4 with fail
  generalize w3.alloc (.cells #[.bool xs, .slice xo (Dg.dg 4294967296 xn).length xc, .int .i64 xe] 25) = W3 at q_4 r_4 g_4 rx_4 nw3 b0_4 ⊢
  generalize w3.heap.size = PX at nw3 ⊢
  have x0 := r_4.cell 0 rfl
  have x1 := r_4.cell 1 rfl
  have x2 := r_4.cell 2 rfl
  have x3 := r_4.cell 3 rfl
  have y0 := g_4.cell 0 rfl
  have y1 := g_4.cell 1 rfl
  have y2 := g_4.cell 2 rfl
  have y3 := g_4.cell 3 rfl
  have y4 := g_4.cell 4 rfl
  go_wp2_with fail
  refine (HRB.out _ b0_4).mono ?_
  rintro z w4 ⟨vw4, rfl, ow4, bbw4⟩
  obtain ⟨yo, yc, hvw4⟩ := ow4.rd.shape
  subst hvw4
  have rw4 := ow4.rd
  simp only at rw4 ⊢
  clear ow4 x0 x1 x2 x3 y0 y1 y2 y3 y4
  have q_5 := q_4.later bbw4
  have r_5 := r_4.later bbw4
  have g_5 := g_4.later bbw4
  have rx_5 := rx_4.later bbw4
  have nx_5 := nw3.later bbw4
  have b0_5 := below_trans b0_4 bbw4
  clear q_4 r_4 g_4 rx_4 nw3 b0_4 bbw4
  have alw4 := below_alloc w4 (.cells #[.bool ys, .slice yo (Dg.dg 4294967296 yn).length yc, .int .i64 ye] 25)
  have nw4 := locE_new w4 [.bool ys, .slice yo (Dg.dg 4294967296 yn).length yc, .int .i64 ye] 25
  have q_6 := q_5.later alw4
  have r_6 := r_5.later alw4
  have g_6 := g_5.later alw4
  have rx_6 := rx_5.later alw4
  have nx_6 := nx_5.later alw4
  have ry_6 := rw4.later alw4
  have b0_6 := below_trans b0_5 alw4
  clear q_5 r_5 g_5 rx_5 nx_5 rw4 b0_5 alw4
  go_upto_region 5 with fail
  generalize w4.alloc (.cells #[.bool ys, .slice yo (Dg.dg 4294967296 yn).length yc, .int .i64 ye] 25) = W4 at q_6 r_6 g_6 rx_6 nx_6 ry_6 nw4 b0_6 ⊢
  generalize w4.heap.size = PY at nw4 ⊢
  cases oka
  · go_wp2
    go_ret
    exact ⟨rfl, b0_6⟩
  cases okb
  · go_wp2
    go_ret
    exact ⟨rfl, b0_6⟩
  replace HO1 : Hid _ := HO1.out rfl
  replace HO2 : Hid _ := HO2.out rfl
  replace HO3 : Hid _ := HO3.out rfl
  replace HO4 : Hid _ := HO4.out rfl
  replace HB1 : Hid _ := HB1.out rfl
  replace HB2 : Hid _ := HB2.out rfl
  replace HB3 : Hid _ := HB3.out rfl
  replace HB4 : Hid _ := HB4.out rfl
  replace HT : Hid _ := HT.out rfl rfl
  replace HU : Hid _ := HU.out rfl rfl
  replace HC : Hid _ := HC.out rfl rfl
  replace HM : Hid _ := HM.out rfl rfl
  replace HE : Hid _ := HE.out rfl rfl
  have F0 : GrowF qs ao la ca bo lb cb E rs no nl nc mo ml mc F xs xo xn xc xe ys yo yn yc ye PX PY w W4 := ⟨q_6, r_6, nx_6, nw4, rx_6, ry_6, b0_6⟩
  clear q_6 r_6 g_6 rx_6 nx_6 ry_6 nw4 b0_6 HBG HRA HRB
  go_upto_region 7 with fail
  have F1 : GrowF qs ao la ca bo lb cb E rs no nl nc mo ml mc F xs xo xn xc xe ys yo yn yc ye PX PY w W4.drew := F0.later ((Below.refl _ _).drew)
  have F2 : GrowF qs ao la ca bo lb cb E rs no nl nc mo ml mc F xs xo xn xc xe ys yo yn yc ye PX PY w (W4.alloc (.cells #[.bool false, .slice none 0 0, .int .i64 0] 46)).drew := (F0.new (.cells #[.bool false, .slice none 0 0, .int .i64 0] 46)).later ((Below.refl _ _).drew)
  have D2 : NewD w (W4.alloc (.cells #[.bool false, .slice none 0 0, .int .i64 0] 46)).drew W4.heap.size := (newD_new (GrowF.below F0)).later ((Below.refl _ _).drew)
  obtain ⟨⟨e0, e1, e2⟩, e3⟩ := F1.cellsA
  obtain ⟨⟨f0, f1, f2⟩, f3⟩ := F2.cellsA
  have nn0 : W4.heap.size ≠ w.heap.size := Nat.ne_of_gt F0.1.lt
  have nn1 : W4.heap.size ≠ w.heap.size + 1 := Nat.ne_of_gt F0.2.1.lt
  go_cut [13] (fun s13 wy => ProdS qs ao la ca bo lb cb E rs no nl nc mo ml mc F xs xo xn xc xe ys yo yn yc ye PX PY w s13 ps pn pe wy)
  case first =>
    go_wp2_with fail
    go_region_held3 (fun wq => (wq.cell? ⟨w.heap.size, 0, none⟩ = some (.bool qs) ∧ wq.cell? ⟨w.heap.size, 1, none⟩ = some (.slice ao la ca) ∧ wq.cell? ⟨w.heap.size, 3, none⟩ = some (.int .i64 E)) ∧ wq.cell? ⟨w.heap.size + 1, 2, none⟩ = some (.slice mo ml mc)) (go_keep) (first
      | (go_at_call 19; (with_reducible (refine (HO1.out _ (GrowF.below (by first | assumption | exact GrowF.new (by assumption) _))).mono ?_)); rintro z wq ⟨v, rfl, rv, bb⟩; obtain ⟨o1, k1, hv⟩ := rv.shape; subst hv; have Fq := GrowF.later (by first | assumption | exact GrowF.new (by assumption) _) bb; obtain ⟨⟨c0, c1, c2⟩, c3⟩ := Fq.cellsA; have mm0 : wq.heap.size ≠ w.heap.size := Nat.ne_of_gt Fq.1.lt; have mm1 : wq.heap.size ≠ w.heap.size + 1 := Nat.ne_of_gt Fq.2.1.lt; have Fz := GrowF.new Fq (.cells #[.bool false, .slice none 0 0, .int .i64 0] 46); obtain ⟨⟨z0, z1, z2⟩, z3⟩ := Fz.cellsA; (first | (have hrow : Rd wq .i64 _ (Dg.dg 65536 M2) := Rd.later (by first | assumption | exact Rd.later (by assumption) (below_alloc _ _)) bb) | skip); (first | (have hrow : Rd wq .i64 _ (Dg.dg 65536 A2.n) := Rd.later (by first | assumption | exact Rd.later (by assumption) (below_alloc _ _)) bb) | skip); (first | (have hnew : NewD w wq _ := NewD.later (by assumption) bb; have n0 := hnew.1.cell 0 rfl; have n1 := hnew.1.cell 1 rfl; have n2 := hnew.1.cell 2 rfl; have g0 := hnew.1.free 0; have g1 := hnew.1.free 1; have g2 := hnew.1.free 2) | (have hnew : NewD w wq _ := NewD.later (newD_new (GrowF.below (by assumption))) bb; have n0 := hnew.1.cell 0 rfl; have n1 := hnew.1.cell 1 rfl; have n2 := hnew.1.cell 2 rfl; have g0 := hnew.1.free 0; have g1 := hnew.1.free 1; have g2 := hnew.1.free 2) | skip))
      | (go_at_call 19; (with_reducible (refine (HO2.out _ (GrowF.below (by first | assumption | exact GrowF.new (by assumption) _))).mono ?_)); rintro z wq ⟨v, rfl, rv, bb⟩; obtain ⟨o2, k2, hv⟩ := rv.shape; subst hv; have Fq := GrowF.later (by first | assumption | exact GrowF.new (by assumption) _) bb; obtain ⟨⟨c0, c1, c2⟩, c3⟩ := Fq.cellsA; have mm0 : wq.heap.size ≠ w.heap.size := Nat.ne_of_gt Fq.1.lt; have mm1 : wq.heap.size ≠ w.heap.size + 1 := Nat.ne_of_gt Fq.2.1.lt; have Fz := GrowF.new Fq (.cells #[.bool false, .slice none 0 0, .int .i64 0] 46); obtain ⟨⟨z0, z1, z2⟩, z3⟩ := Fz.cellsA; (first | (have hrow : Rd wq .i64 _ (Dg.dg 65536 N1) := Rd.later (by first | assumption | exact Rd.later (by assumption) (below_alloc _ _)) bb) | skip); (first | (have hrow : Rd wq .i64 _ (Dg.dg 65536 A1.n) := Rd.later (by first | assumption | exact Rd.later (by assumption) (below_alloc _ _)) bb) | skip); (first | (have hnew : NewD w wq _ := NewD.later (by assumption) bb; have n0 := hnew.1.cell 0 rfl; have n1 := hnew.1.cell 1 rfl; have n2 := hnew.1.cell 2 rfl; have g0 := hnew.1.free 0; have g1 := hnew.1.free 1; have g2 := hnew.1.free 2) | (have hnew : NewD w wq _ := NewD.later (newD_new (GrowF.below (by assumption))) bb; have n0 := hnew.1.cell 0 rfl; have n1 := hnew.1.cell 1 rfl; have n2 := hnew.1.cell 2 rfl; have g0 := hnew.1.free 0; have g1 := hnew.1.free 1; have g2 := hnew.1.free 2) | skip))
      | (go_at_call 18; (with_reducible (refine (HB1.out _ _ _ (by first | assumption | exact Rd.later (by assumption) (below_alloc _ _))).mono ?_)); rintro z wq ⟨v, rfl, rv, bb⟩; obtain ⟨o3, k3, hv⟩ := rv.shape; subst hv; have Fq := GrowF.later (by first | assumption | exact GrowF.new (by assumption) _) bb; obtain ⟨⟨c0, c1, c2⟩, c3⟩ := Fq.cellsA; have mm0 : wq.heap.size ≠ w.heap.size := Nat.ne_of_gt Fq.1.lt; have mm1 : wq.heap.size ≠ w.heap.size + 1 := Nat.ne_of_gt Fq.2.1.lt; have Fz := GrowF.new Fq (.cells #[.bool false, .slice none 0 0, .int .i64 0] 46); obtain ⟨⟨z0, z1, z2⟩, z3⟩ := Fz.cellsA; (first | (have hrow : Rd wq .i64 _ (Dg.dg 65536 M2) := Rd.later (by first | assumption | exact Rd.later (by assumption) (below_alloc _ _)) bb) | skip); (first | (have hrow : Rd wq .i64 _ (Dg.dg 65536 A2.n) := Rd.later (by first | assumption | exact Rd.later (by assumption) (below_alloc _ _)) bb) | skip); (first | (have hnew : NewD w wq _ := NewD.later (by assumption) bb; have n0 := hnew.1.cell 0 rfl; have n1 := hnew.1.cell 1 rfl; have n2 := hnew.1.cell 2 rfl; have g0 := hnew.1.free 0; have g1 := hnew.1.free 1; have g2 := hnew.1.free 2) | (have hnew : NewD w wq _ := NewD.later (newD_new (GrowF.below (by assumption))) bb; have n0 := hnew.1.cell 0 rfl; have n1 := hnew.1.cell 1 rfl; have n2 := hnew.1.cell 2 rfl; have g0 := hnew.1.free 0; have g1 := hnew.1.free 1; have g2 := hnew.1.free 2) | skip))
      | (go_at_call 18; (with_reducible (refine (HB2.out _ _ _ (by first | assumption | exact Rd.later (by assumption) (below_alloc _ _))).mono ?_)); rintro z wq ⟨v, rfl, rv, bb⟩; obtain ⟨o4, k4, hv⟩ := rv.shape; subst hv; have Fq := GrowF.later (by first | assumption | exact GrowF.new (by assumption) _) bb; obtain ⟨⟨c0, c1, c2⟩, c3⟩ := Fq.cellsA; have mm0 : wq.heap.size ≠ w.heap.size := Nat.ne_of_gt Fq.1.lt; have mm1 : wq.heap.size ≠ w.heap.size + 1 := Nat.ne_of_gt Fq.2.1.lt; have Fz := GrowF.new Fq (.cells #[.bool false, .slice none 0 0, .int .i64 0] 46); obtain ⟨⟨z0, z1, z2⟩, z3⟩ := Fz.cellsA; (first | (have hrow : Rd wq .i64 _ (Dg.dg 65536 N1) := Rd.later (by first | assumption | exact Rd.later (by assumption) (below_alloc _ _)) bb) | skip); (first | (have hrow : Rd wq .i64 _ (Dg.dg 65536 A1.n) := Rd.later (by first | assumption | exact Rd.later (by assumption) (below_alloc _ _)) bb) | skip); (first | (have hnew : NewD w wq _ := NewD.later (by assumption) bb; have n0 := hnew.1.cell 0 rfl; have n1 := hnew.1.cell 1 rfl; have n2 := hnew.1.cell 2 rfl; have g0 := hnew.1.free 0; have g1 := hnew.1.free 1; have g2 := hnew.1.free 2) | (have hnew : NewD w wq _ := NewD.later (newD_new (GrowF.below (by assumption))) bb; have n0 := hnew.1.cell 0 rfl; have n1 := hnew.1.cell 1 rfl; have n2 := hnew.1.cell 2 rfl; have g0 := hnew.1.free 0; have g1 := hnew.1.free 1; have g2 := hnew.1.free 2) | skip))
      | (go_at_call 35; (with_reducible (refine (HT.out _ _ _ _ _ (by first | assumption | exact Rd.later (by assumption) (below_alloc _ _)) (by first | assumption | exact Rd.later (by assumption) (below_alloc _ _))).mono ?_)); rintro z wq ⟨v, rfl, rv, bb⟩; obtain ⟨o5, k5, hv⟩ := rv.shape; subst hv; have Fq := GrowF.later (by first | assumption | exact GrowF.new (by assumption) _) bb; obtain ⟨⟨c0, c1, c2⟩, c3⟩ := Fq.cellsA; have mm0 : wq.heap.size ≠ w.heap.size := Nat.ne_of_gt Fq.1.lt; have mm1 : wq.heap.size ≠ w.heap.size + 1 := Nat.ne_of_gt Fq.2.1.lt; have Fz := GrowF.new Fq (.cells #[.bool false, .slice none 0 0, .int .i64 0] 46); obtain ⟨⟨z0, z1, z2⟩, z3⟩ := Fz.cellsA; (first | (have hnew : NewD w wq _ := NewD.later (by assumption) bb; have n0 := hnew.1.cell 0 rfl; have n1 := hnew.1.cell 1 rfl; have n2 := hnew.1.cell 2 rfl; have g0 := hnew.1.free 0; have g1 := hnew.1.free 1; have g2 := hnew.1.free 2) | (have hnew : NewD w wq _ := NewD.later (newD_new (GrowF.below (by assumption))) bb; have n0 := hnew.1.cell 0 rfl; have n1 := hnew.1.cell 1 rfl; have n2 := hnew.1.cell 2 rfl; have g0 := hnew.1.free 0; have g1 := hnew.1.free 1; have g2 := hnew.1.free 2) | skip)))
    all_goals (go_wp2_with fail)
    all_goals (first | (go_meet; exact prod_new (by assumption) (by assumption)) | (go_meet; exact prod_set (by assumption) (by assumption) (by assumption)))
  case rest =>
    clear F1 F2 D2 e0 e1 e2 e3 f0 f1 f2 f3 nn0 nn1
    obtain ⟨F9, pb, vo, vc, rfl, lp, rp⟩ := hcut
    clear F0 HO1 HO2 HB1 HB2 HT
    have F0 : GrowG qs ao la ca bo lb cb E rs no nl nc mo ml mc F xs xo xn xc xe ys yo yn yc ye PX PY pb ps vo pn vc pe wc.heap.size w wc := ⟨F9, lp, rp, lp.lt, F9.below.size, Nat.le_refl _⟩
    clear F9 lp rp
    go_upto_region 8 with fail
    have F1 : GrowG qs ao la ca bo lb cb E rs no nl nc mo ml mc F xs xo xn xc xe ys yo yn yc ye PX PY pb ps vo pn vc pe wc.heap.size w wc.drew := F0.later ((Below.refl _ _).drew)
    have F2 : GrowG qs ao la ca bo lb cb E rs no nl nc mo ml mc F xs xo xn xc xe ys yo yn yc ye PX PY pb ps vo pn vc pe wc.heap.size w (wc.alloc (.cells #[.bool false, .slice none 0 0, .int .i64 0] 46)).drew := (F0.new (.cells #[.bool false, .slice none 0 0, .int .i64 0] 46)).later ((Below.refl _ _).drew)
    have D2 : NewE wc.heap.size (wc.alloc (.cells #[.bool false, .slice none 0 0, .int .i64 0] 46)).drew wc.heap.size := (newE_new (GrowG.size F0)).later ((Below.refl _ _).drew)
    obtain ⟨⟨e0, e1, e2⟩, e3⟩ := F1.1.cellsB
    obtain ⟨⟨f0, f1, f2⟩, f3⟩ := F2.1.cellsB
    have nn0 : wc.heap.size ≠ w.heap.size := Nat.ne_of_gt F0.1.1.lt
    have nn1 : wc.heap.size ≠ w.heap.size + 1 := Nat.ne_of_gt F0.1.2.1.lt
    go_cut [14] (fun s14 wz => ProdT qs ao la ca bo lb cb E rs no nl nc mo ml mc F xs xo xn xc xe ys yo yn yc ye PX PY pb ps vo pn vc pe wc.heap.size w s14 us un ue wz)
    case first =>
      go_wp2_with fail
      go_region_held3 (fun wq => (wq.cell? ⟨w.heap.size + 1, 0, none⟩ = some (.bool rs) ∧ wq.cell? ⟨w.heap.size + 1, 1, none⟩ = some (.slice no nl nc) ∧ wq.cell? ⟨w.heap.size + 1, 3, none⟩ = some (.int .i64 F)) ∧ wq.cell? ⟨w.heap.size, 2, none⟩ = some (.slice bo lb cb)) (go_keep) (first
        | (go_at_call 19; (with_reducible (refine (HO3.out _ (GrowG.below (by first | assumption | exact GrowG.new (by assumption) _))).mono ?_)); rintro z wq ⟨v, rfl, rv, bb⟩; obtain ⟨o1, k1, hv⟩ := rv.shape; subst hv; have Fq := GrowG.later (by first | assumption | exact GrowG.new (by assumption) _) bb; obtain ⟨⟨c0, c1, c2⟩, c3⟩ := Fq.1.cellsB; have mm0 : wq.heap.size ≠ w.heap.size := Nat.ne_of_gt Fq.1.1.lt; have mm1 : wq.heap.size ≠ w.heap.size + 1 := Nat.ne_of_gt Fq.1.2.1.lt; have Fz := GrowG.new Fq (.cells #[.bool false, .slice none 0 0, .int .i64 0] 46); obtain ⟨⟨z0, z1, z2⟩, z3⟩ := Fz.1.cellsB; (first | (have hrow : Rd wq .i64 _ (Dg.dg 65536 M1) := Rd.later (by first | assumption | exact Rd.later (by assumption) (below_alloc _ _)) bb) | skip); (first | (have hrow : Rd wq .i64 _ (Dg.dg 65536 A4.n) := Rd.later (by first | assumption | exact Rd.later (by assumption) (below_alloc _ _)) bb) | skip); (first | (have hnew : NewE wc.heap.size wq _ := NewE.later (by assumption) bb; have n0 := hnew.1.cell 0 rfl; have n1 := hnew.1.cell 1 rfl; have n2 := hnew.1.cell 2 rfl; have g0 := hnew.1.free 0; have g1 := hnew.1.free 1; have g2 := hnew.1.free 2) | (have hnew : NewE wc.heap.size wq _ := NewE.later (newE_new (GrowG.size (by assumption))) bb; have n0 := hnew.1.cell 0 rfl; have n1 := hnew.1.cell 1 rfl; have n2 := hnew.1.cell 2 rfl; have g0 := hnew.1.free 0; have g1 := hnew.1.free 1; have g2 := hnew.1.free 2) | skip))
        | (go_at_call 19; (with_reducible (refine (HO4.out _ (GrowG.below (by first | assumption | exact GrowG.new (by assumption) _))).mono ?_)); rintro z wq ⟨v, rfl, rv, bb⟩; obtain ⟨o2, k2, hv⟩ := rv.shape; subst hv; have Fq := GrowG.later (by first | assumption | exact GrowG.new (by assumption) _) bb; obtain ⟨⟨c0, c1, c2⟩, c3⟩ := Fq.1.cellsB; have mm0 : wq.heap.size ≠ w.heap.size := Nat.ne_of_gt Fq.1.1.lt; have mm1 : wq.heap.size ≠ w.heap.size + 1 := Nat.ne_of_gt Fq.1.2.1.lt; have Fz := GrowG.new Fq (.cells #[.bool false, .slice none 0 0, .int .i64 0] 46); obtain ⟨⟨z0, z1, z2⟩, z3⟩ := Fz.1.cellsB; (first | (have hrow : Rd wq .i64 _ (Dg.dg 65536 N2) := Rd.later (by first | assumption | exact Rd.later (by assumption) (below_alloc _ _)) bb) | skip); (first | (have hrow : Rd wq .i64 _ (Dg.dg 65536 A3.n) := Rd.later (by first | assumption | exact Rd.later (by assumption) (below_alloc _ _)) bb) | skip); (first | (have hnew : NewE wc.heap.size wq _ := NewE.later (by assumption) bb; have n0 := hnew.1.cell 0 rfl; have n1 := hnew.1.cell 1 rfl; have n2 := hnew.1.cell 2 rfl; have g0 := hnew.1.free 0; have g1 := hnew.1.free 1; have g2 := hnew.1.free 2) | (have hnew : NewE wc.heap.size wq _ := NewE.later (newE_new (GrowG.size (by assumption))) bb; have n0 := hnew.1.cell 0 rfl; have n1 := hnew.1.cell 1 rfl; have n2 := hnew.1.cell 2 rfl; have g0 := hnew.1.free 0; have g1 := hnew.1.free 1; have g2 := hnew.1.free 2) | skip))
        | (go_at_call 18; (with_reducible (refine (HB3.out _ _ _ (by first | assumption | exact Rd.later (by assumption) (below_alloc _ _))).mono ?_)); rintro z wq ⟨v, rfl, rv, bb⟩; obtain ⟨o3, k3, hv⟩ := rv.shape; subst hv; have Fq := GrowG.later (by first | assumption | exact GrowG.new (by assumption) _) bb; obtain ⟨⟨c0, c1, c2⟩, c3⟩ := Fq.1.cellsB; have mm0 : wq.heap.size ≠ w.heap.size := Nat.ne_of_gt Fq.1.1.lt; have mm1 : wq.heap.size ≠ w.heap.size + 1 := Nat.ne_of_gt Fq.1.2.1.lt; have Fz := GrowG.new Fq (.cells #[.bool false, .slice none 0 0, .int .i64 0] 46); obtain ⟨⟨z0, z1, z2⟩, z3⟩ := Fz.1.cellsB; (first | (have hrow : Rd wq .i64 _ (Dg.dg 65536 M1) := Rd.later (by first | assumption | exact Rd.later (by assumption) (below_alloc _ _)) bb) | skip); (first | (have hrow : Rd wq .i64 _ (Dg.dg 65536 A4.n) := Rd.later (by first | assumption | exact Rd.later (by assumption) (below_alloc _ _)) bb) | skip); (first | (have hnew : NewE wc.heap.size wq _ := NewE.later (by assumption) bb; have n0 := hnew.1.cell 0 rfl; have n1 := hnew.1.cell 1 rfl; have n2 := hnew.1.cell 2 rfl; have g0 := hnew.1.free 0; have g1 := hnew.1.free 1; have g2 := hnew.1.free 2) | (have hnew : NewE wc.heap.size wq _ := NewE.later (newE_new (GrowG.size (by assumption))) bb; have n0 := hnew.1.cell 0 rfl; have n1 := hnew.1.cell 1 rfl; have n2 := hnew.1.cell 2 rfl; have g0 := hnew.1.free 0; have g1 := hnew.1.free 1; have g2 := hnew.1.free 2) | skip))
        | (go_at_call 18; (with_reducible (refine (HB4.out _ _ _ (by first | assumption | exact Rd.later (by assumption) (below_alloc _ _))).mono ?_)); rintro z wq ⟨v, rfl, rv, bb⟩; obtain ⟨o4, k4, hv⟩ := rv.shape; subst hv; have Fq := GrowG.later (by first | assumption | exact GrowG.new (by assumption) _) bb; obtain ⟨⟨c0, c1, c2⟩, c3⟩ := Fq.1.cellsB; have mm0 : wq.heap.size ≠ w.heap.size := Nat.ne_of_gt Fq.1.1.lt; have mm1 : wq.heap.size ≠ w.heap.size + 1 := Nat.ne_of_gt Fq.1.2.1.lt; have Fz := GrowG.new Fq (.cells #[.bool false, .slice none 0 0, .int .i64 0] 46); obtain ⟨⟨z0, z1, z2⟩, z3⟩ := Fz.1.cellsB; (first | (have hrow : Rd wq .i64 _ (Dg.dg 65536 N2) := Rd.later (by first | assumption | exact Rd.later (by assumption) (below_alloc _ _)) bb) | skip); (first | (have hrow : Rd wq .i64 _ (Dg.dg 65536 A3.n) := Rd.later (by first | assumption | exact Rd.later (by assumption) (below_alloc _ _)) bb) | skip); (first | (have hnew : NewE wc.heap.size wq _ := NewE.later (by assumption) bb; have n0 := hnew.1.cell 0 rfl; have n1 := hnew.1.cell 1 rfl; have n2 := hnew.1.cell 2 rfl; have g0 := hnew.1.free 0; have g1 := hnew.1.free 1; have g2 := hnew.1.free 2) | (have hnew : NewE wc.heap.size wq _ := NewE.later (newE_new (GrowG.size (by assumption))) bb; have n0 := hnew.1.cell 0 rfl; have n1 := hnew.1.cell 1 rfl; have n2 := hnew.1.cell 2 rfl; have g0 := hnew.1.free 0; have g1 := hnew.1.free 1; have g2 := hnew.1.free 2) | skip))
        | (go_at_call 35; (with_reducible (refine (HU.out _ _ _ _ _ (by first | assumption | exact Rd.later (by assumption) (below_alloc _ _)) (by first | assumption | exact Rd.later (by assumption) (below_alloc _ _))).mono ?_)); rintro z wq ⟨v, rfl, rv, bb⟩; obtain ⟨o5, k5, hv⟩ := rv.shape; subst hv; have Fq := GrowG.later (by first | assumption | exact GrowG.new (by assumption) _) bb; obtain ⟨⟨c0, c1, c2⟩, c3⟩ := Fq.1.cellsB; have mm0 : wq.heap.size ≠ w.heap.size := Nat.ne_of_gt Fq.1.1.lt; have mm1 : wq.heap.size ≠ w.heap.size + 1 := Nat.ne_of_gt Fq.1.2.1.lt; have Fz := GrowG.new Fq (.cells #[.bool false, .slice none 0 0, .int .i64 0] 46); obtain ⟨⟨z0, z1, z2⟩, z3⟩ := Fz.1.cellsB; (first | (have hnew : NewE wc.heap.size wq _ := NewE.later (by assumption) bb; have n0 := hnew.1.cell 0 rfl; have n1 := hnew.1.cell 1 rfl; have n2 := hnew.1.cell 2 rfl; have g0 := hnew.1.free 0; have g1 := hnew.1.free 1; have g2 := hnew.1.free 2) | (have hnew : NewE wc.heap.size wq _ := NewE.later (newE_new (GrowG.size (by assumption))) bb; have n0 := hnew.1.cell 0 rfl; have n1 := hnew.1.cell 1 rfl; have n2 := hnew.1.cell 2 rfl; have g0 := hnew.1.free 0; have g1 := hnew.1.free 1; have g2 := hnew.1.free 2) | skip)))
      all_goals (go_wp2_with fail)
      all_goals (first | (go_meet; exact prodT_new (by assumption) (by assumption)) | (go_meet; exact prodT_set (by assumption) (by assumption) (by assumption)))
    case rest =>
      clear F1 F2 D2 e0 e1 e2 e3 f0 f1 f2 f3 nn0 nn1
      obtain ⟨⟨⟨-, -, lx, ly, rx, ry, bz⟩, lp, rp, -, -, -⟩, qb, uo, uc, rfl, lq, rq⟩ := hcut
      clear F0 HO3 HO4 HB3 HB4 HU
      have x0 := lx.cell 0 rfl
      have x1 := lx.cell 1 rfl
      have x2 := lx.cell 2 rfl
      have y0 := ly.cell 0 rfl
      have y1 := ly.cell 1 rfl
      have y2 := ly.cell 2 rfl
      go_wp2_with fail
      refine (HC.out _ _ _ _ _ rx ry).mono ?_
      rintro z wc ⟨rfl, bbc⟩
      clear x0 x1 x2 y0 y1 y2
      have x_51 := lx.later bbc
      have y_51 := ly.later bbc
      have rx_51 := rx.later bbc
      have ry_51 := ry.later bbc
      have p_51 := lp.later bbc
      have rp_51 := rp.later bbc
      have q_51 := lq.later bbc
      have rq_51 := rq.later bbc
      have b0_51 := below_trans bz bbc
      clear lx ly rx ry lp rp lq rq bz bbc
      have x0 := p_51.cell 0 rfl
      have x1 := p_51.cell 1 rfl
      have x2 := p_51.cell 2 rfl
      have y0 := q_51.cell 0 rfl
      have y1 := q_51.cell 1 rfl
      have y2 := q_51.cell 2 rfl
      go_wp2_with fail
      refine (HM.out _ _ _ _ _ rp_51 rq_51).mono ?_
      rintro z wd ⟨rfl, bbd⟩
      clear x0 x1 x2 y0 y1 y2
      have x_52 := x_51.later bbd
      have y_52 := y_51.later bbd
      have rx_52 := rx_51.later bbd
      have ry_52 := ry_51.later bbd
      have p_52 := p_51.later bbd
      have rp_52 := rp_51.later bbd
      have q_52 := q_51.later bbd
      have rq_52 := rq_51.later bbd
      have b0_52 := below_trans b0_51 bbd
      clear x_51 y_51 rx_51 ry_51 p_51 rp_51 q_51 rq_51 b0_51 bbd
      have HX := HE.out
      clear HE HC HM
      rcases HX with ⟨h1, h2⟩ | ⟨h1, h2⟩ | ⟨rfl, rfl⟩
      · have h3 : ¬ 0 < more := by omega
        have h4 : more ≠ 0 := by omega
        go_wp2
        go_ret
        exact ⟨by simp, b0_52⟩
      · have h3 : ¬ more < 0 := by omega
        have h4 : more ≠ 0 := by omega
        go_wp2
        go_ret
        exact ⟨by simp, b0_52⟩
      · go_wp2
        go_ret
        exact ⟨by simp, b0_52⟩
end Go.Proofs.YtmjhlflemfkflaaDoor
/-
  Grids: the walk of GridGrows, paid.
-/
namespace Go.Proofs.YtmjhlflemfkflaaDoor
open Go.RowKit

theorem gprod_len {xs vs : List Nat} (sa : Dg.Small 4294967296 xs) (sv : Dg.Small 4294967296 vs) (l1 : xs.length ≤ 1200) (l2 : vs.length ≤ 1200) : (Dg.dg 4294967296 (Dg.vl 4294967296 xs * Dg.vl 4294967296 vs)).length ≤ 2400 := by
  refine Nat.le_trans (Dg.dg_len_le 4294967296 _ (xs.length + vs.length) (by omega) ?_) (by omega)
  rw [Nat.pow_add]
  exact Nat.mul_lt_mul'' (Dg.vl_lt _ _ sa) (Dg.vl_lt _ _ sv)

theorem gprod_fits {n : Nat} (h : (Dg.dg 4294967296 n).length ≤ 2400) (s : Bool) {E : Int} (e1 : -20000 ≤ E) (e2 : E ≤ 20000) :
    (Dg.dg 65536 (bare ⟨s, n, E⟩).n).length ≤ 30000 ∧ -200000 ≤ (bare ⟨s, n, E⟩).e ∧ (bare ⟨s, n, E⟩).e ≤ 200000 := by
  have h3 := tz_fits n 2400 h
  have h4 := dg16_len n 2400 h
  unfold bare
  split
  · exact ⟨by show ([] : List Nat).length ≤ 30000; simp, by simp, by simp⟩
  · refine ⟨Nat.le_trans (dg_len_mono 65536 _ n (by omega) (Nat.div_le_self _ _)) (by omega), ?_, ?_⟩
    · simp only; omega
    · simp only; omega

theorem gprod_is (s : Bool) (n m : Nat) (E : Int) : bare (timesT (bare ⟨s, n, E⟩) (bare ⟨false, m, 0⟩)) = bare ⟨s, n * m, E⟩ := by
  rw [← bare_times]
  unfold timesT
  simp

/-- What a ratio that was rounded is. -/
theorem rnd_ratio {xs ys : List Nat} {E R D L G : Int} {gr qs : Bool} {way : Int} (sa : Dg.Small 4294967296 xs) (sb : Dg.Small 4294967296 ys) (h : rndBad xs ys E R D L G gr qs way = false) :
    xs.length ≤ 1200 ∧ ys.length ≤ 1200 ∧ -20000 ≤ E ∧ E ≤ 20000 ∧ dchk (Dg.dg 4294967296 (rndT xs ys E R D L G gr qs way).n) (rndT xs ys E R D L G gr qs way).e = 0 := by
  obtain ⟨h1, -, -⟩ := rnd_parts h
  obtain ⟨c1, -, -⟩ := roundC_all h1
  obtain ⟨a1, a2, -, a3, a4⟩ := ratioC_zero c1
  refine ⟨(chk_zero a1).2, (chk_zero a2).2, a3, a4, ?_⟩
  obtain ⟨g0, hi⟩ := rnd_spot sa sb h
  unfold rndT
  rw [if_neg (by rw [h]; decide)]
  exact spot_dchk g0 hi

theorem glen16 {xs : List Nat} (sa : Dg.Small 4294967296 xs) (l : xs.length ≤ 1200) : (Dg.dg 4294967296 (Dg.vl 4294967296 xs)).length ≤ 1200 :=
  Nat.le_trans (Dg.dg_len_le 4294967296 _ _ (by omega) (Dg.vl_lt _ _ sa)) l

theorem gridGrows_walk (qs : Bool) (ao : Option Addr) (ca : Nat) (xs : List Nat) (bo : Option Addr) (cb : Nat) (ys : List Nat) (E : Int) (rs : Bool) (no : Option Addr) (nc : Nat) (us : List Nat) (mo : Option Addr) (mc : Nat) (vs : List Nat) (F R D L G : Int) (gr : Bool) (way : Int) (w : World)
    (ha : Rd w .u32 (.slice ao xs.length ca) xs) (sa : Dg.Small 4294967296 xs) (hb : Rd w .u32 (.slice bo ys.length cb) ys) (sb : Dg.Small 4294967296 ys) (hu : Rd w .u32 (.slice no us.length nc) us) (su : Dg.Small 4294967296 us) (hv : Rd w .u32 (.slice mo vs.length mc) vs) (sv : Dg.Small 4294967296 vs) (hT : Tab w) :
    Calls Tryd.prog 9 #[.agg #[.bool qs, .slice ao xs.length ca, .slice bo ys.length cb, .int .i64 E], .agg #[.bool rs, .slice no us.length nc, .slice mo vs.length mc, .int .i64 F], .agg #[.int .i64 R, .int .i64 D, .int .i64 L, .int .i64 G, .bool gr], .int .i64 way] w fun z w' => z = .returned (.bool true) ∧ Below w.heap.size w w' := by
  obtain ⟨⟨zs, zn, ze⟩, hz⟩ : ∃ t, rndT xs ys E R D L G gr qs way = t := ⟨_, rfl⟩
  obtain ⟨⟨ts, tn, te⟩, ht⟩ : ∃ t, rndT us vs F R D L G gr rs way = t := ⟨_, rfl⟩
  obtain ⟨⟨p0, p1, p2⟩, hp⟩ : ∃ t, bare ⟨qs, Dg.vl 4294967296 xs * Dg.vl 4294967296 vs, E⟩ = t := ⟨_, rfl⟩
  obtain ⟨⟨q0, q1, q2⟩, hq⟩ : ∃ t, bare ⟨rs, Dg.vl 4294967296 us * Dg.vl 4294967296 ys, F⟩ = t := ⟨_, rfl⟩
  have f1 : (!rndBad xs ys E R D L G gr qs way) = true → xs.length ≤ 1200 ∧ ys.length ≤ 1200 ∧ -20000 ≤ E ∧ E ≤ 20000 ∧ dchk (Dg.dg 4294967296 zn) ze = 0 := fun h => by
    have := rnd_ratio sa sb (show rndBad xs ys E R D L G gr qs way = false by simpa using h)
    rw [hz] at this
    exact this
  have f2 : (!rndBad us vs F R D L G gr rs way) = true → us.length ≤ 1200 ∧ vs.length ≤ 1200 ∧ -20000 ≤ F ∧ F ≤ 20000 ∧ dchk (Dg.dg 4294967296 tn) te = 0 := fun h => by
    have := rnd_ratio su sv (show rndBad us vs F R D L G gr rs way = false by simpa using h)
    rw [ht] at this
    exact this
  refine gridGrowsW qs ao _ ca bo _ cb E rs no _ nc mo _ mc F R D L G gr way (!rndBad xs ys E R D L G gr qs way) (!rndBad us vs F R D L G gr rs way) zs zn ze ts tn te (Dg.vl 4294967296 xs) (Dg.vl 4294967296 ys) (Dg.vl 4294967296 us) (Dg.vl 4294967296 vs)
    (bare ⟨qs, Dg.vl 4294967296 xs, E⟩) (bare ⟨false, Dg.vl 4294967296 vs, 0⟩) (bare ⟨rs, Dg.vl 4294967296 us, F⟩) (bare ⟨false, Dg.vl 4294967296 ys, 0⟩) p0 p1 p2 q0 q1 q2
    (signT (plusT ⟨zs, zn, ze⟩ (negT ⟨ts, tn, te⟩))) (signT (plusT ⟨qs, Dg.vl 4294967296 xs * Dg.vl 4294967296 vs, E⟩ (negT ⟨rs, Dg.vl 4294967296 us * Dg.vl 4294967296 ys, F⟩))) w gbegun_any ?_ ?_ ?_ ?_ ?_ ?_ ?_ ?_ ?_ ?_ ?_ ?_ ?_ ?_ ?_
  · intro w1 b
    rw [← hz]
    exact rounded_any qs ao ca xs bo cb ys E R D L G gr way w1 (ha.later b) (hb.later b) sa sb (hT.later b)
  · intro w1 b
    rw [← ht]
    exact rounded_any rs no nc us mo mc vs F R D L G gr way w1 (hu.later b) (hv.later b) su sv (hT.later b)
  · intro h w1 b
    have := f1 h
    exact of_any _ xs w1 (ha.later b) sa (by omega)
  · intro h w1 b
    have := f2 h
    exact of_any _ vs w1 (hv.later b) sv (by omega)
  · intro h w1 b
    have := f2 h
    exact of_any _ us w1 (hu.later b) su (by omega)
  · intro h w1 b
    have := f1 h
    exact of_any _ ys w1 (hb.later b) sb (by omega)
  · intro h o k w1 r
    obtain ⟨l1, l2, e1, e2, -⟩ := f1 h
    have := dg16_len _ _ (glen16 sa l1)
    exact bared_any _ ⟨qs, Dg.vl 4294967296 xs, E⟩ w1 ⟨_, rfl, r⟩ (by simp only; omega) (by simp only; omega) (by simp only; omega)
  · intro h o k w1 r
    obtain ⟨l1, l2, e1, e2, -⟩ := f2 h
    have := dg16_len _ _ (glen16 sv l2)
    exact bared_any _ ⟨false, Dg.vl 4294967296 vs, 0⟩ w1 ⟨_, rfl, r⟩ (by simp only; omega) (by simp only; omega) (by simp only; omega)
  · intro h o k w1 r
    obtain ⟨l1, l2, e1, e2, -⟩ := f2 h
    have := dg16_len _ _ (glen16 su l1)
    exact bared_any _ ⟨rs, Dg.vl 4294967296 us, F⟩ w1 ⟨_, rfl, r⟩ (by simp only; omega) (by simp only; omega) (by simp only; omega)
  · intro h o k w1 r
    obtain ⟨l1, l2, e1, e2, -⟩ := f1 h
    have := dg16_len _ _ (glen16 sb l2)
    exact bared_any _ ⟨false, Dg.vl 4294967296 ys, 0⟩ w1 ⟨_, rfl, r⟩ (by simp only; omega) (by simp only; omega) (by simp only; omega)
  · intro h h' o k o' k' w1 r1 r2
    obtain ⟨l1, l2, e1, e2, -⟩ := f1 h
    obtain ⟨m1, m2, d1, d2, -⟩ := f2 h'
    obtain ⟨x1, x2, x3⟩ := bare_fits (t := ⟨qs, Dg.vl 4294967296 xs, E⟩) (glen16 sa l1) e1 e2
    obtain ⟨y1, y2, y3⟩ := bare_fits (t := ⟨false, Dg.vl 4294967296 vs, 0⟩) (glen16 sv m2) (by simp) (by simp)
    have := refdtimes_any _ _ _ _ w1 ⟨_, rfl, r1⟩ ⟨_, rfl, r2⟩ (by omega) (by omega) (by omega) (by omega) (by omega) (by omega)
    rw [gprod_is, hp] at this
    exact this
  · intro h h' o k o' k' w1 r1 r2
    obtain ⟨l1, l2, e1, e2, -⟩ := f1 h
    obtain ⟨m1, m2, d1, d2, -⟩ := f2 h'
    obtain ⟨x1, x2, x3⟩ := bare_fits (t := ⟨rs, Dg.vl 4294967296 us, F⟩) (glen16 su m1) d1 d2
    obtain ⟨y1, y2, y3⟩ := bare_fits (t := ⟨false, Dg.vl 4294967296 ys, 0⟩) (glen16 sb l2) (by simp) (by simp)
    have := refdtimes_any _ _ _ _ w1 ⟨_, rfl, r1⟩ ⟨_, rfl, r2⟩ (by omega) (by omega) (by omega) (by omega) (by omega) (by omega)
    rw [gprod_is, hq] at this
    exact this
  · intro h h' o k o' k' w1 r1 r2
    obtain ⟨-, -, -, -, k1⟩ := f1 h
    obtain ⟨-, -, -, -, k2⟩ := f2 h'
    have k3 : dchk2 (Dg.dg 4294967296 zn) ze (Dg.dg 4294967296 tn) te = 0 := (if_pos k1).trans k2
    have := dyCompare_any zs o k _ ze ts o' k' _ te w1 r1 r2 (Dg.small_dg _ _ (by omega)) (Dg.small_dg _ _ (by omega))
    rw [k3, Dg.vl_dg _ _ (by omega), Dg.vl_dg _ _ (by omega), show ∀ a b, dcmpR 0 a b = signT (plusT a (negT b)) from fun a b => if_pos rfl] at this
    exact this
  · intro h h' o k o' k' w1 r1 r2
    obtain ⟨l1, l2, e1, e2, -⟩ := f1 h
    obtain ⟨m1, m2, d1, d2, -⟩ := f2 h'
    obtain ⟨x1, x2, x3⟩ := gprod_fits (gprod_len sa sv l1 m2) qs e1 e2
    obtain ⟨y1, y2, y3⟩ := gprod_fits (gprod_len su sb m1 l2) rs d1 d2
    have hs := sign_ref ⟨qs, Dg.vl 4294967296 xs * Dg.vl 4294967296 vs, E⟩ ⟨rs, Dg.vl 4294967296 us * Dg.vl 4294967296 ys, F⟩
    rw [hp] at x1 x2 x3 hs
    rw [hq] at y1 y2 y3 hs
    rw [← hs]
    exact refdcmp_any _ _ ⟨p0, p1, p2⟩ ⟨q0, q1, q2⟩ w1 ⟨_, rfl, r1⟩ ⟨_, rfl, r2⟩ x1 y1 x2 x3 y2 y3
  · intro h h'
    obtain ⟨g1, g2, g3⟩ := grows_cmp sa sb su sv (show rndBad xs ys E R D L G gr qs way = false by simpa using h) (show rndBad us vs F R D L G gr rs way = false by simpa using h') rfl rfl
    rw [hz, ht] at g1 g2 g3
    generalize signT (plusT ⟨qs, Dg.vl 4294967296 xs * Dg.vl 4294967296 vs, E⟩ (negT ⟨rs, Dg.vl 4294967296 us * Dg.vl 4294967296 ys, F⟩)) = more at g1 g2 g3 ⊢
    rcases Int.lt_trichotomy more 0 with h0 | h0 | h0
    · exact .inl ⟨h0, g1 h0⟩
    · exact .inr (.inr ⟨h0, g3 h0⟩)
    · exact .inr (.inl ⟨h0, g2 h0⟩)
end Go.Proofs.YtmjhlflemfkflaaDoor

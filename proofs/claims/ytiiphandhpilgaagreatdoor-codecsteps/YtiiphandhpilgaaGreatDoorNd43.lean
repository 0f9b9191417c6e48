/-
  Texts laid together: Nx1, Nx2.
-/
import Derived.Test.YtiiphandhpilgaaGreatDoorNd42
set_option maxRecDepth 100000
namespace Go.Proofs.YtiiphandhpilgaaGreatDoor
open Go.RowKit
set_option maxHeartbeats 3200000 in
theorem next_bad (n : Int) (er : Int) (her : er ≠ 0) (s : ByteArray) (up : Bool) (w : World)
  (HR : ∀ w1, Calls Tryz.prog 37 #[.int .i64 n, .string s] w1 fun z w' => z = .returned (.tuple #[.agg #[.int .i64 0, .int .i64 0, .int .i64 0, .int .i64 0, .bool false, .int .i64 0, .int .i64 0, .int .i64 0, .nilFunc], .agg #[.bool false, .int .i64 0, .int .u64 0], .int .i64 er]) ∧ Below w1.heap.size w1 w') :
  Calls Tryz.prog 10 #[.int .i64 n, .string s, .bool up] w fun z w' => z = .returned (.tuple #[.string ⟨#[]⟩, .int .i64 er]) ∧ Below w.heap.size w w' := by
 have hsn := hsn_z
 replace HR : Hid _ := HR
 have he : (er == 0) = false := by simpa using her
 clear her
 go_enter Tryz.func10, Tryz.ntmps10
 go_wp2_with fail
 refine (HR.out _).mono ?_
 rintro z w1 ⟨rfl, b1⟩
 have bl := below_alloc w1 (.cells #[.int .i64 0, .int .i64 0, .int .i64 0, .int .i64 0, .bool false, .int .i64 0, .int .i64 0, .int .i64 0, .nilFunc] 63)
 have bf := below_alloc (w1.alloc (.cells #[.int .i64 0, .int .i64 0, .int .i64 0, .int .i64 0, .bool false, .int .i64 0, .int .i64 0, .int .i64 0, .nilFunc] 63)) (.cells #[.bool false, .int .i64 0, .int .u64 0] 82)
 have bR := below_trans (below_trans b1 bl) bf
 clear b1 bl bf HR
 go_wp2
 go_ret2
 exact ⟨rfl, bR⟩
set_option maxHeartbeats 3200000 in
theorem next_cls (n R D L G fam : Int) (gr up : Bool) (sz ex F : Nat) (ng : Bool) (e f : Nat) (c : Int) (gg : Bool) (m : Nat) (p : Int) (s : ByteArray) (w : World) (hc : c = 3 ∨ c = 4 ∨ c = 5)
  (HR : ∀ w1, Calls Tryz.prog 37 #[.int .i64 n, .string s] w1 fun z w' => z = .returned (.tuple #[.agg #[.int .i64 R, .int .i64 D, .int .i64 L, .int .i64 G, .bool gr, .int .i64 (sz : Int), .int .i64 (ex : Int), .int .i64 fam, .func (.func F) #[] #[]], .agg #[.bool ng, .int .i64 (e : Int), .int .u64 (f : Int)], .int .i64 0]) ∧ Below w1.heap.size w1 w')
  (HV : ∀ w1, Calls Tryz.prog 38 #[.agg #[.int .i64 R, .int .i64 D, .int .i64 L, .int .i64 G, .bool gr, .int .i64 (sz : Int), .int .i64 (ex : Int), .int .i64 fam, .func (.func F) #[] #[]], .agg #[.bool ng, .int .i64 (e : Int), .int .u64 (f : Int)]] w1 (ValRes w1 c gg m p)) :
  Calls Tryz.prog 10 #[.int .i64 n, .string s, .bool up] w fun z w' => z = .returned (.tuple #[.string ⟨#[]⟩, .int .i64 4]) ∧ Below w.heap.size w w' := by
 have hsf := hsf_z
 replace HR : Hid _ := HR
 replace HV : Hid _ := HV
 go_enter Tryz.func10, Tryz.ntmps10
 go_wp2_with fail
 refine (HR.out _).mono ?_
 rintro z w1 ⟨rfl, bb1⟩
 clear HR
 have al_l := below_alloc w1 (.cells #[.int .i64 R, .int .i64 D, .int .i64 L, .int .i64 G, .bool gr, .int .i64 (sz : Int), .int .i64 (ex : Int), .int .i64 fam, .func (.func F) #[] #[]] 63)
 have ln_l := locE_new w1 [.int .i64 R, .int .i64 D, .int .i64 L, .int .i64 G, .bool gr, .int .i64 (sz : Int), .int .i64 (ex : Int), .int .i64 fam, .func (.func F) #[] #[]] 63
 have b0_2 := below_trans bb1 al_l
 clear bb1 al_l
 have al_f := below_alloc (w1.alloc (.cells #[.int .i64 R, .int .i64 D, .int .i64 L, .int .i64 G, .bool gr, .int .i64 (sz : Int), .int .i64 (ex : Int), .int .i64 fam, .func (.func F) #[] #[]] 63)) (.cells #[.bool ng, .int .i64 (e : Int), .int .u64 (f : Int)] 82)
 have ln_f := locE_new (w1.alloc (.cells #[.int .i64 R, .int .i64 D, .int .i64 L, .int .i64 G, .bool gr, .int .i64 (sz : Int), .int .i64 (ex : Int), .int .i64 fam, .func (.func F) #[] #[]] 63)) [.bool ng, .int .i64 (e : Int), .int .u64 (f : Int)] 82
 have l_3 := ln_l.later al_f
 have b0_3 := below_trans b0_2 al_f
 clear ln_l b0_2 al_f
 go_wp2_with fail
 refine (HV.out _).mono ?_
 rintro z w2 ⟨v, rfl, r2, bb2⟩
 obtain ⟨vo, vc, hv⟩ := r2.shape
 subst hv
 clear HV
 have l_4 := l_3.later bb2
 have f_4 := ln_f.later bb2
 have b0_4 := below_trans b0_3 bb2
 clear l_3 ln_f b0_3 bb2
 have al_PV := below_alloc w2 (.cells #[.int .i64 c, .bool gg, .slice vo (Dg.dg 4294967296 m).length vc, .int .i64 p] 25)
 have ln_PV := locE_new w2 [.int .i64 c, .bool gg, .slice vo (Dg.dg 4294967296 m).length vc, .int .i64 p] 25
 have l_5 := l_4.later al_PV
 have f_5 := f_4.later al_PV
 have rv_5 := r2.later al_PV
 have b0_5 := below_trans b0_4 al_PV
 clear l_4 f_4 r2 b0_4 al_PV
 go_upto_region 5 with fail
 generalize w2.alloc (.cells #[.int .i64 c, .bool gg, .slice vo (Dg.dg 4294967296 m).length vc, .int .i64 p] 25) = W2 at l_5 f_5 rv_5 ln_PV b0_5 ⊢
 generalize w2.heap.size = PV at ln_PV  ⊢
 obtain ⟨y0, y1, y2, y3⟩ := ln_PV.cs4
 have bR := b0_5
 clear l_5 f_5 rv_5 ln_PV b0_5
 rcases hc with rfl | rfl | rfl
 all_goals go_wp2
 all_goals go_ret2
 all_goals exact ⟨rfl, bR⟩
set_option maxHeartbeats 6400000 in
theorem next_num (n R D L G fam : Int) (gr up : Bool) (sz ex F : Nat) (ng : Bool) (e f : Nat) (c : Int) (gg : Bool) (m : Nat) (p : Int) (xs : Bool) (xn : Nat) (xe : Int) (ys : Bool) (yn : Nat) (ye yc er : Int) (st s : ByteArray) (w : World) (hc : c = 1 ∨ c = 2)
  (HR : ∀ w1, Calls Tryz.prog 37 #[.int .i64 n, .string s] w1 fun z w' => z = .returned (.tuple #[.agg #[.int .i64 R, .int .i64 D, .int .i64 L, .int .i64 G, .bool gr, .int .i64 (sz : Int), .int .i64 (ex : Int), .int .i64 fam, .func (.func F) #[] #[]], .agg #[.bool ng, .int .i64 (e : Int), .int .u64 (f : Int)], .int .i64 0]) ∧ Below w1.heap.size w1 w')
  (HV : ∀ w1, Calls Tryz.prog 38 #[.agg #[.int .i64 R, .int .i64 D, .int .i64 L, .int .i64 G, .bool gr, .int .i64 (sz : Int), .int .i64 (ex : Int), .int .i64 fam, .func (.func F) #[] #[]], .agg #[.bool ng, .int .i64 (e : Int), .int .u64 (f : Int)]] w1 (ValRes w1 c gg m p))
  (HN : ∀ vo vc w1, Below w.heap.size w w1 → Rd w1 .u32 (.slice vo (Dg.dg 4294967296 m).length vc) (Dg.dg 4294967296 m) → Calls Tryz.prog 39 #[.agg #[.int .i64 R, .int .i64 D, .int .i64 L, .int .i64 G, .bool gr, .int .i64 (sz : Int), .int .i64 (ex : Int), .int .i64 fam, .func (.func F) #[] #[]], .agg #[.int .i64 c, .bool gg, .slice vo (Dg.dg 4294967296 m).length vc, .int .i64 p]] w1 (DAns w1 (⟨xs, xn, xe⟩, 0)))
  (HS : ∀ xo xk w1, Below w.heap.size w w1 → Rd w1 .u32 (.slice xo (Dg.dg 4294967296 xn).length xk) (Dg.dg 4294967296 xn) → Calls Tryz.prog 40 #[.agg #[.bool xs, .slice xo (Dg.dg 4294967296 xn).length xk, .int .i64 xe], .agg #[.int .i64 R, .int .i64 D, .int .i64 L, .int .i64 G, .bool gr], .bool up] w1 (DAns w1 (⟨ys, yn, ye⟩, yc)))
  (HH : yc = 0 → ∀ yo yk w1, Below w.heap.size w w1 → Rd w1 .u32 (.slice yo (Dg.dg 4294967296 yn).length yk) (Dg.dg 4294967296 yn) → Calls Tryz.prog 41 #[.agg #[.int .i64 R, .int .i64 D, .int .i64 L, .int .i64 G, .bool gr, .int .i64 (sz : Int), .int .i64 (ex : Int), .int .i64 fam, .func (.func F) #[] #[]], .agg #[.bool ys, .slice yo (Dg.dg 4294967296 yn).length yk, .int .i64 ye]] w1 fun z w' => z = .returned (.tuple #[.string st, .int .i64 er]) ∧ Below w1.heap.size w1 w')
  (HZ : yc ≠ 0 → st = ⟨#[]⟩ ∧ er = yc) :
  Calls Tryz.prog 10 #[.int .i64 n, .string s, .bool up] w fun z w' => z = .returned (.tuple #[.string st, .int .i64 er]) ∧ Below w.heap.size w w' := by
 replace HN : Hid _ := HN
 replace HS : Hid _ := HS
 replace HH : Hid _ := HH
 replace HZ : Hid _ := HZ
 have hsf := hsf_z
 replace HR : Hid _ := HR
 replace HV : Hid _ := HV
 go_enter Tryz.func10, Tryz.ntmps10
 go_wp2_with fail
 refine (HR.out _).mono ?_
 rintro z w1 ⟨rfl, bb1⟩
 clear HR
 have al_l := below_alloc w1 (.cells #[.int .i64 R, .int .i64 D, .int .i64 L, .int .i64 G, .bool gr, .int .i64 (sz : Int), .int .i64 (ex : Int), .int .i64 fam, .func (.func F) #[] #[]] 63)
 have ln_l := locE_new w1 [.int .i64 R, .int .i64 D, .int .i64 L, .int .i64 G, .bool gr, .int .i64 (sz : Int), .int .i64 (ex : Int), .int .i64 fam, .func (.func F) #[] #[]] 63
 have b0_2 := below_trans bb1 al_l
 clear bb1 al_l
 have al_f := below_alloc (w1.alloc (.cells #[.int .i64 R, .int .i64 D, .int .i64 L, .int .i64 G, .bool gr, .int .i64 (sz : Int), .int .i64 (ex : Int), .int .i64 fam, .func (.func F) #[] #[]] 63)) (.cells #[.bool ng, .int .i64 (e : Int), .int .u64 (f : Int)] 82)
 have ln_f := locE_new (w1.alloc (.cells #[.int .i64 R, .int .i64 D, .int .i64 L, .int .i64 G, .bool gr, .int .i64 (sz : Int), .int .i64 (ex : Int), .int .i64 fam, .func (.func F) #[] #[]] 63)) [.bool ng, .int .i64 (e : Int), .int .u64 (f : Int)] 82
 have l_3 := ln_l.later al_f
 have b0_3 := below_trans b0_2 al_f
 clear ln_l b0_2 al_f
 go_wp2_with fail
 refine (HV.out _).mono ?_
 rintro z w2 ⟨v, rfl, r2, bb2⟩
 obtain ⟨vo, vc, hv⟩ := r2.shape
 subst hv
 clear HV
 have l_4 := l_3.later bb2
 have f_4 := ln_f.later bb2
 have b0_4 := below_trans b0_3 bb2
 clear l_3 ln_f b0_3 bb2
 have al_PV := below_alloc w2 (.cells #[.int .i64 c, .bool gg, .slice vo (Dg.dg 4294967296 m).length vc, .int .i64 p] 25)
 have ln_PV := locE_new w2 [.int .i64 c, .bool gg, .slice vo (Dg.dg 4294967296 m).length vc, .int .i64 p] 25
 have l_5 := l_4.later al_PV
 have f_5 := f_4.later al_PV
 have rv_5 := r2.later al_PV
 have b0_5 := below_trans b0_4 al_PV
 clear l_4 f_4 r2 b0_4 al_PV
 go_upto_region 5 with fail
 generalize w2.alloc (.cells #[.int .i64 c, .bool gg, .slice vo (Dg.dg 4294967296 m).length vc, .int .i64 p] 25) = W2 at l_5 f_5 rv_5 ln_PV b0_5 ⊢
 generalize w2.heap.size = PV at ln_PV  ⊢
 rcases hc with rfl | rfl
 ·skip
  obtain ⟨x0, x1, x2, x3, x4, x5, x6, x7, x8⟩ := l_5.cs9
  obtain ⟨y0, y1, y2, y3⟩ := ln_PV.cs4
  go_wp2_with fail
  refine (HN.out _ _ _ b0_5 rv_5).mono ?_
  rintro z w3 ⟨v3, rfl, o3, bb3⟩
  obtain ⟨xo, xk, hv3⟩ := o3.rd.shape
  subst hv3
  have r3 := o3.rd
  simp only at r3 ⊢
  clear o3 HN x0 x1 x2 x3 x4 x5 x6 x7 x8 y0 y1 y2 y3
  have l_101 := l_5.later bb3
  have b0_101 := below_trans b0_5 bb3
  clear l_5 b0_5 bb3
  have al_PX := below_alloc w3 (.cells #[.bool xs, .slice xo (Dg.dg 4294967296 xn).length xk, .int .i64 xe] 87)
  have ln_PX := locE_new w3 [.bool xs, .slice xo (Dg.dg 4294967296 xn).length xk, .int .i64 xe] 87
  have l_102 := l_101.later al_PX
  have rx_102 := r3.later al_PX
  have b0_102 := below_trans b0_101 al_PX
  clear l_101 r3 b0_101 al_PX
  go_upto_region 8 with fail
  generalize w3.alloc (.cells #[.bool xs, .slice xo (Dg.dg 4294967296 xn).length xk, .int .i64 xe] 87) = W3 at l_102 rx_102 ln_PX b0_102 ⊢
  generalize w3.heap.size = PX at ln_PX  ⊢
  obtain ⟨x0, x1, x2, x3, x4⟩ := l_102.cs5
  obtain ⟨y0, y1, y2⟩ := ln_PX.cs3
  go_wp2_with fail
  refine (HS.out _ _ _ b0_102 rx_102).mono ?_
  rintro z w4 ⟨v4, rfl, o4, bb4⟩
  obtain ⟨yo, yk, hv4⟩ := o4.rd.shape
  subst hv4
  have r4 := o4.rd
  simp only at r4 ⊢
  clear o4 HS x0 x1 x2 x3 x4 y0 y1 y2
  have l_103 := l_102.later bb4
  have b0_103 := below_trans b0_102 bb4
  clear l_102 b0_102 bb4
  have al_PY := below_alloc w4 (.cells #[.bool ys, .slice yo (Dg.dg 4294967296 yn).length yk, .int .i64 ye] 87)
  have ln_PY := locE_new w4 [.bool ys, .slice yo (Dg.dg 4294967296 yn).length yk, .int .i64 ye] 87
  have l_104 := l_103.later al_PY
  have ry_104 := r4.later al_PY
  have b0_104 := below_trans b0_103 al_PY
  clear l_103 r4 b0_103 al_PY
  go_upto_region 11 with fail
  generalize w4.alloc (.cells #[.bool ys, .slice yo (Dg.dg 4294967296 yn).length yk, .int .i64 ye] 87) = W4 at l_104 ry_104 ln_PY b0_104 ⊢
  generalize w4.heap.size = PY at ln_PY  ⊢
  by_cases hy : yc = 0
  ·have HH1 : Hid _ := HH.out hy
   subst hy
   clear HH HZ
   obtain ⟨x0, x1, x2, x3, x4, x5, x6, x7, x8⟩ := l_104.cs9
   obtain ⟨y0, y1, y2⟩ := ln_PY.cs3
   go_wp2_with fail
   refine (HH1.out _ _ _ b0_104 ry_104).mono ?_
   rintro z w5 ⟨rfl, bb5⟩
   have bR := below_trans b0_104 bb5
   go_wp2
   go_ret2
   exact ⟨rfl, bR⟩
  ·obtain ⟨h1, h2⟩ := HZ.out hy
   have hyf : (yc == 0) = false := by simpa using hy
   subst h1 h2
   clear HH HZ
   have bR := b0_104
   go_wp2
   go_ret2
   exact ⟨rfl, bR⟩
 ·skip
  obtain ⟨x0, x1, x2, x3, x4, x5, x6, x7, x8⟩ := l_5.cs9
  obtain ⟨y0, y1, y2, y3⟩ := ln_PV.cs4
  go_wp2_with fail
  refine (HN.out _ _ _ b0_5 rv_5).mono ?_
  rintro z w3 ⟨v3, rfl, o3, bb3⟩
  obtain ⟨xo, xk, hv3⟩ := o3.rd.shape
  subst hv3
  have r3 := o3.rd
  simp only at r3 ⊢
  clear o3 HN x0 x1 x2 x3 x4 x5 x6 x7 x8 y0 y1 y2 y3
  have l_101 := l_5.later bb3
  have b0_101 := below_trans b0_5 bb3
  clear l_5 b0_5 bb3
  have al_PX := below_alloc w3 (.cells #[.bool xs, .slice xo (Dg.dg 4294967296 xn).length xk, .int .i64 xe] 87)
  have ln_PX := locE_new w3 [.bool xs, .slice xo (Dg.dg 4294967296 xn).length xk, .int .i64 xe] 87
  have l_102 := l_101.later al_PX
  have rx_102 := r3.later al_PX
  have b0_102 := below_trans b0_101 al_PX
  clear l_101 r3 b0_101 al_PX
  go_upto_region 8 with fail
  generalize w3.alloc (.cells #[.bool xs, .slice xo (Dg.dg 4294967296 xn).length xk, .int .i64 xe] 87) = W3 at l_102 rx_102 ln_PX b0_102 ⊢
  generalize w3.heap.size = PX at ln_PX  ⊢
  obtain ⟨x0, x1, x2, x3, x4⟩ := l_102.cs5
  obtain ⟨y0, y1, y2⟩ := ln_PX.cs3
  go_wp2_with fail
  refine (HS.out _ _ _ b0_102 rx_102).mono ?_
  rintro z w4 ⟨v4, rfl, o4, bb4⟩
  obtain ⟨yo, yk, hv4⟩ := o4.rd.shape
  subst hv4
  have r4 := o4.rd
  simp only at r4 ⊢
  clear o4 HS x0 x1 x2 x3 x4 y0 y1 y2
  have l_103 := l_102.later bb4
  have b0_103 := below_trans b0_102 bb4
  clear l_102 b0_102 bb4
  have al_PY := below_alloc w4 (.cells #[.bool ys, .slice yo (Dg.dg 4294967296 yn).length yk, .int .i64 ye] 87)
  have ln_PY := locE_new w4 [.bool ys, .slice yo (Dg.dg 4294967296 yn).length yk, .int .i64 ye] 87
  have l_104 := l_103.later al_PY
  have ry_104 := r4.later al_PY
  have b0_104 := below_trans b0_103 al_PY
  clear l_103 r4 b0_103 al_PY
  go_upto_region 11 with fail
  generalize w4.alloc (.cells #[.bool ys, .slice yo (Dg.dg 4294967296 yn).length yk, .int .i64 ye] 87) = W4 at l_104 ry_104 ln_PY b0_104 ⊢
  generalize w4.heap.size = PY at ln_PY  ⊢
  by_cases hy : yc = 0
  ·have HH1 : Hid _ := HH.out hy
   subst hy
   clear HH HZ
   obtain ⟨x0, x1, x2, x3, x4, x5, x6, x7, x8⟩ := l_104.cs9
   obtain ⟨y0, y1, y2⟩ := ln_PY.cs3
   go_wp2_with fail
   refine (HH1.out _ _ _ b0_104 ry_104).mono ?_
   rintro z w5 ⟨rfl, bb5⟩
   have bR := below_trans b0_104 bb5
   go_wp2
   go_ret2
   exact ⟨rfl, bR⟩
  ·obtain ⟨h1, h2⟩ := HZ.out hy
   have hyf : (yc == 0) = false := by simpa using hy
   subst h1 h2
   clear HH HZ
   have bR := b0_104
   go_wp2
   go_ret2
   exact ⟨rfl, bR⟩
end Go.Proofs.YtiiphandhpilgaaGreatDoor
namespace Go.Proofs.YtiiphandhpilgaaGreatDoor
open Go.RowKit
theorem prev_spot {R D L G : Int} {gr : Bool} {d : Nat} {k : Int} (h1 : 1 ≤ D) (hk : L ≤ k) (hG : k ≤ G) (hd : d < 2 ^ (widthN R * D.toNat)) (hf : 2 ^ (widthN R * (D - 1).toNat) ≤ d ∨ (gr = true ∧ k = L)) :
  nearK R D L d k ≤ G ∧ (nearD R D L gr d k = 0 ∨ InSpot R D L G gr (nearD R D L gr d k) (nearK R D L d k)) := by
 have hpw : 2 ^ (widthN R * (D - 1).toNat) < 2 ^ (widthN R * D.toNat) := by
  refine Nat.pow_lt_pow_right (by omega) ?_
  exact Nat.mul_lt_mul_of_pos_left (by omega) (by have := widthN_le R; omega)
 have hp0 := two_pos (widthN R * (D - 1).toNat)
 unfold nearD nearK
 by_cases hc : d = 2 ^ (widthN R * (D - 1).toNat)
 ·rw [if_pos hc, if_pos hc]
  by_cases hl : L < k
  ·rw [if_pos hl, if_pos hl]
   exact ⟨by omega, .inr (.inr ⟨by omega, by omega, by omega, by omega, .inl (by omega)⟩)⟩
  ·rw [if_neg hl, if_neg hl]
   refine ⟨by omega, ?_⟩
   by_cases hgr : gr = true
   ·rw [if_pos hgr]
    by_cases hz : d - 1 = 0
    ·exact .inl hz
    ·exact .inr (.inr ⟨hz, by omega, by omega, by omega, .inr ⟨hgr, rfl⟩⟩)
   ·rw [if_neg hgr]
    exact .inl rfl
 ·rw [if_neg hc, if_neg hc]
  refine ⟨hG, ?_⟩
  by_cases hz : d - 1 = 0
  ·exact .inl hz
  ·refine .inr (.inr ⟨hz, hk, hG, by omega, ?_⟩)
   rcases hf with hf | hf
   ·exact .inl (by omega)
   ·exact .inr hf
theorem shortT_nil (s : Bool) (e : Int) : shortT ⟨s, 0, e⟩ = (⟨false, 0, 0⟩, 0) := by
 have hb : bare ⟨s, 0, e⟩ = ⟨false, 0, 0⟩ := by simp [bare]
 unfold shortT
 rw [hb]
 simp only
 rw [show Dg.dg 4294967296 0 = [] from (Dg.dg_nil_iff _ _ (by omega)).2 rfl]
 rfl
theorem step_spot {R D L G : Int} {gr s up : Bool} {n : Nat} {e : Int} (hg : gridC R D L G = 0) (hd : dchk (Dg.dg 4294967296 n) e = 0) (hh : heldB R D L G gr n e = true) :
  stepR R D L G gr s up (Dg.dg 4294967296 n) e = (⟨false, 0, 0⟩, 5) ∨ ∃ s' d p, stepR R D L G gr s up (Dg.dg 4294967296 n) e = (bare ⟨s', d, (widthN R : Int) * p⟩, 0) ∧ InSpot R D L G gr d p := by
 obtain ⟨-, d1, -, -, -, -, -, lg, -⟩ := gridC_zero hg
 unfold stepR
 rw [Dg.vl_dg _ _ (by omega), if_pos (show onC (dchk (Dg.dg 4294967296 n) e) (gridC R D L G) = 0 from (if_pos hd).trans hg), if_pos hh]
 by_cases hG : G < stepK R D L G gr s up (Dg.dg 4294967296 n).length n e
 ·rw [if_pos hG]
  exact .inl rfl
 ·rw [if_neg hG]
  refine .inr ?_
  have fin : ∀ {d : Nat} {p : Int}, stepD R D L G gr s up (Dg.dg 4294967296 n).length n e = d → stepK R D L G gr s up (Dg.dg 4294967296 n).length n e = p → (d = 0 ∨ InSpot R D L G gr d p) → ∃ s' d' p', shortT ⟨stepN s up (Dg.dg 4294967296 n).length, stepD R D L G gr s up (Dg.dg 4294967296 n).length n e, (widthN R : Int) * stepK R D L G gr s up (Dg.dg 4294967296 n).length n e⟩ = (bare ⟨s', d', (widthN R : Int) * p'⟩, 0) ∧ InSpot R D L G gr d' p' := by
   intro d p h1 h2 h3
   rw [h1, h2]
   rcases h3 with h3 | h3
   ·subst h3
    refine ⟨false, 0, 0, ?_, .inl ⟨rfl, rfl⟩⟩
    rw [shortT_nil]
    simp [bare]
   ·exact ⟨_, d, p, spot_shortT _ hg h3, h3⟩
  by_cases h0 : n = 0
  ·subst h0
   have hl : (Dg.dg 4294967296 0).length = 0 := by rw [(Dg.dg_nil_iff _ _ (by omega)).2 rfl]; rfl
   rw [hl] at hG fin ⊢
   have hN : ¬ stepN s up 0 = up := by
    rw [show stepN s up 0 = !up from if_pos rfl]
    cases up <;> decide
   have hD : stepD R D L G gr s up 0 0 e = farD R D gr 0 := (if_neg hN).trans (by rw [show fD R D L G gr 0 e = 0 from if_pos rfl])
   have hK : stepK R D L G gr s up 0 0 e = farK R D L gr 0 L := (if_neg hN).trans (by rw [show fD R D L G gr 0 e = 0 from if_pos rfl, show fK R D L G gr 0 e = L from if_pos rfl])
   refine fin hD hK (.inr ?_)
   rw [hK] at hG
   cases gr
   ·rw [show farD R D false 0 = 2 ^ (widthN R * (D - 1).toNat) from if_pos ⟨rfl, rfl⟩, show farK R D L false 0 L = L from if_pos ⟨rfl, rfl⟩]
    have hp0 := two_pos (widthN R * (D - 1).toNat)
    refine .inr ⟨by omega, Int.le_refl _, lg, ?_, .inl (Nat.le_refl _)⟩
    refine Nat.pow_lt_pow_right (by omega) ?_
    exact Nat.mul_lt_mul_of_pos_left (by omega) (by have := widthN_le R; omega)
   ·obtain ⟨n1, n2⟩ := far_next (R := R) (D := D) (L := L) (gr := true) (d := 0) (p := L) (.inr rfl)
    rw [n1, n2]
    rw [n2] at hG
    exact .inr (next_spot d1 (Int.le_refl _) (by omega) (two_pos _) (.inr ⟨rfl, rfl⟩))
  ·have hl : ¬ (Dg.dg 4294967296 n).length = 0 := fun c => h0 (dg_len_zero.1 c)
   obtain ⟨f1, f2, f3, f4, f5, f6, -⟩ := found_spot d1 h0 hh
   have ff := found_full d1 h0 hh
   have hN : stepN s up (Dg.dg 4294967296 n).length = s := if_neg hl
   by_cases hsu : s = up
   ·have hD : stepD R D L G gr s up (Dg.dg 4294967296 n).length n e = nearD R D L gr (findD R D L gr n e) (spotK R D L gr n e) := by
     unfold stepD
     rw [hN, if_pos hsu, f1, f2]
    have hK : stepK R D L G gr s up (Dg.dg 4294967296 n).length n e = nearK R D L (findD R D L gr n e) (spotK R D L gr n e) := by
     unfold stepK
     rw [hN, if_pos hsu, f1, f2]
    exact fin hD hK (prev_spot d1 f5 f6 f4 ff).2
   ·obtain ⟨n1, n2⟩ := far_next (R := R) (D := D) (L := L) (gr := gr) (d := findD R D L gr n e) (p := spotK R D L gr n e) (.inl f3)
    have hD : stepD R D L G gr s up (Dg.dg 4294967296 n).length n e = carD R D (findD R D L gr n e + 1) := by
     unfold stepD
     rw [hN, if_neg hsu, f1, n1]
    have hK : stepK R D L G gr s up (Dg.dg 4294967296 n).length n e = carP R D (findD R D L gr n e + 1) (spotK R D L gr n e) := by
     unfold stepK
     rw [hN, if_neg hsu, f1, f2, n2]
    rw [hK] at hG
    exact fin hD hK (.inr (.inr (next_spot d1 f5 (by omega) f4 ff)))
def nxT (k : Nat) (s : ByteArray) : Trip := refT k (fldN k s) (fldE k s) (fldF k s)
theorem wdI_is {k : Nat} (hk : 1 ≤ k ∧ k ≤ 8) : wdI (rdN k : Int) = (widthN (rdN k : Int) : Int) := by
 rcases eight hk with rfl | rfl | rfl | rfl | rfl | rfl | rfl | rfl <;> decide
theorem refT_zero {k : Nat} (hk : 1 ≤ k ∧ k ≤ 8) {ng : Bool} {E F : Nat} (hc : clsN k ng E F = 1) : refT k ng E F = ⟨false, 0, 0⟩ := by
 have key : ∀ (s : Bool) (e : Int), bare ⟨s, 0, e⟩ = ⟨false, 0, 0⟩ := fun s e => by simp [bare]
 have h2 : 2 ≤ 2 ^ exN k := by
  rcases eight hk with rfl | rfl | rfl | rfl | rfl | rfl | rfl | rfl <;> decide
 unfold clsN at hc
 unfold refT
 by_cases h3 : k ≤ 3
 ·rw [if_pos h3] at hc
  by_cases he : E = 0
  ·rw [if_pos he] at hc
   by_cases hf : F = 0
   ·subst he hf
    by_cases h4 : k = 3
    ·rw [if_pos h4, if_neg (by rintro (h | h) <;> omega)]
     exact key _ _
    ·rw [if_neg h4, if_pos (by omega), if_neg (by omega), if_neg (by omega)]
     exact key _ _
   ·rw [if_neg hf] at hc
    omega
  ·rw [if_neg he] at hc
   exfalso
   repeat' split at hc
   all_goals omega
 ·rw [if_neg h3] at hc
  rw [if_neg (show ¬ k = 3 by omega), if_neg (show ¬ k ≤ 2 by omega)]
  by_cases h5 : k ≤ 5
  ·rw [if_pos h5] at hc ⊢
   by_cases hf : F = 0
   ·subst hf
    exact key _ _
   ·rw [if_neg hf] at hc
    omega
  ·rw [if_neg h5] at hc ⊢
   by_cases he : E = 0
   ·rw [if_pos he]
   ·rw [if_neg he] at hc
    omega
theorem plc_range {k : Nat} (hk : 1 ≤ k ∧ k ≤ 8) {E : Nat} (hE : E < 2 ^ exN k) : -16445 ≤ (widthN (rdN k : Int) : Int) * plcP k E ∧ (widthN (rdN k : Int) : Int) * plcP k E ≤ 16400 ∧ -16445 ≤ plcP k E ∧ plcP k E ≤ 16400 := by
 have hf : (rdN k = 16 ∧ widthN (rdN k : Int) = 4 ∧ -78 ≤ lsI k ∧ lsI k ≤ 0 ∧ 2 ^ exN k = 128) ∨ (rdN k ≠ 16 ∧ widthN (rdN k : Int) = 1 ∧ -16445 ≤ lsI k ∧ lsI k + ((2 ^ exN k : Nat) : Int) ≤ 16400) := by
  rcases eight hk with rfl | rfl | rfl | rfl | rfl | rfl | rfl | rfl <;> decide
 unfold plcP
 rcases hf with ⟨h1, h2, h3, h4, h5⟩ | ⟨h1, h2, h3, h4⟩
 ·rw [if_pos h1, h2]
  omega
 ·rw [if_neg h1, h2]
  split <;> omega
theorem valM_lt {k : Nat} (hk : 1 ≤ k ∧ k ≤ 8) (ng : Bool) (E : Nat) {F : Nat} (hF : F < 2 ^ 64) : valM k ng E F < 2 ^ 64 := by
 unfold valM
 split
 ·exact Nat.lt_of_le_of_lt (strip_le _ _ _ _) (plcN_lt hk E hF)
 ·decide
theorem valP_in {k : Nat} (hk : 1 ≤ k ∧ k ≤ 8) {ng : Bool} {E F : Nat} (hE : E < 2 ^ exN k) (hF : F < 2 ^ frN k) (hc : clsN k ng E F = 2) :
  -16445 ≤ (refT k ng E F).e ∧ (refT k ng E F).e ≤ 16464 ∧ -16460 ≤ valP k ng E F ∧ valP k ng E F ≤ 16464 := by
 have h64 := frN_64 hk hF
 obtain ⟨p1, p2, -, -⟩ := plc_range hk hE
 have hT := refT_num hk hE hF hc
 rw [wdI_is hk] at hT
 have hp := plcN_pos hc
 have hl := plcN_lt hk E h64
 have hb := bare_small (t := ⟨ng, plcN k E F, (widthN (rdN k : Int) : Int) * plcP k E⟩) (Nat.ne_of_gt hp)
 have hbl : bitLen (plcN k E F) ≤ 64 := bitLen_le_of _ _ hl
 rw [← hT] at hb
 simp only at hb
 obtain ⟨-, b1, b2⟩ := hb
 refine ⟨by omega, by omega, ?_⟩
 have hr : rdN k = 2 ∨ rdN k = 16 := by
  rcases eight hk with rfl | rfl | rfl | rfl | rfl | rfl | rfl | rfl <;> decide
 rcases hr with hr | hr
 ·have := (val2 hk hE hF h64 hc hr).2
  omega
 ·have := val16 hk hE hF h64 hc hr
  omega
theorem num_is {k : Nat} (hk : 1 ≤ k ∧ k ≤ 8) (s : ByteArray) (hc : clsN k (fldN k s) (fldE k s) (fldF k s) = 1 ∨ clsN k (fldN k s) (fldE k s) (fldF k s) = 2) :
  dbothR (placeC (Dg.dg 4294967296 (valM k (fldN k s) (fldE k s) (fldF k s))) (valP k (fldN k s) (fldE k s) (fldF k s)) (rdN k : Int) (dgN k : Int) (lsI k) (gsI k)) ⟨valG k (fldN k s) (fldE k s) (fldF k s), Dg.vl 4294967296 (Dg.dg 4294967296 (valM k (fldN k s) (fldE k s) (fldF k s))), (widthN (rdN k : Int) : Int) * valP k (fldN k s) (fldE k s) (fldF k s)⟩ = (nxT k s, 0) := by
 obtain ⟨s1, s2⟩ := fld_lt k s
 have h64 := frN_64 hk s2
 have hgr := (fmt_fit hk).2.2.2.2.2.2.2.2.2.2.2
 unfold nxT
 generalize fldN k s = ng at *
 generalize fldE k s = E at *
 generalize fldF k s = F at *
 rw [Dg.vl_dg _ _ (by omega)]
 have hm : (Dg.dg 4294967296 (valM k ng E F)).length ≤ 2 := Dg.dg_len_le 4294967296 _ 2 (by omega) (Nat.lt_of_lt_of_le (valM_lt hk ng E h64) (by decide))
 have hck : chk (Dg.dg 4294967296 (valM k ng E F)) = 0 := (dchk_zero (dchk_of (n := valM k ng E F) (e := 0) (by omega) (by omega) (by omega))).1
 rcases hc with hc | hc
 ·have hM : valM k ng E F = 0 := if_neg (by omega)
  have hP : valP k ng E F = 0 := if_neg (by omega)
  rw [hP, placeC_fine hck hgr (by decide), hM, refT_zero hk hc]
  exact shortT_nil _ _
 ·obtain ⟨v1, v2, v3, v4⟩ := valP_in hk s1 s2 hc
  rw [placeC_fine hck hgr (by unfold farB; simp; omega)]
  have hb := back_value hk s1 s2 h64 hc (Nat.ne_of_gt (plcN_pos hc))
  have hT := refT_num hk s1 s2 hc
  rw [wdI_is hk] at hT
  have hG : valG k ng E F = ng := by
   unfold valG
   rw [if_pos (by omega)]
  rw [hG]
  show shortT _ = _
  rw [hT, ← hb]
  rw [hT, ← hb] at v1 v2
  exact short_of (Nat.le_trans (dg_len_mono _ _ _ (by omega) (bare_n_le _)) (by simp only; omega)) (by omega) (by omega)
def nxR (k : Nat) (s : ByteArray) (up : Bool) : Trip × Int := stepR (rdN k : Int) (dgN k : Int) (lsI k) (gsI k) (decide (k ≤ 3)) (nxT k s).s up (Dg.dg 4294967296 (nxT k s).n) (nxT k s).e
def nxS (k : Nat) (t : Trip) : ByteArray := if t.n = 0 then strOf (wrtB k false 0 0) else strOf (wrtB k t.s (heE (rdN k : Int) (lsI k) (leadN k) (plT k t.s t.n t.e)) (plT k t.s t.n t.e).d)
def nextE (n : Int) (s : ByteArray) (up : Bool) : Int := if patC n s = 0 then (if decC n s = 1 ∨ decC n s = 2 then (nxR n.toNat s up).2 else 4) else patC n s
def nextS (n : Int) (s : ByteArray) (up : Bool) : ByteArray := if nextE n s up = 0 then nxS n.toNat (nxR n.toNat s up).1 else ⟨#[]⟩
theorem nx_num {k : Nat} (hk : 1 ≤ k ∧ k ≤ 8) (s : ByteArray) (hc : clsN k (fldN k s) (fldE k s) (fldF k s) = 1 ∨ clsN k (fldN k s) (fldE k s) (fldF k s) = 2) :
  dchk (Dg.dg 4294967296 (nxT k s).n) (nxT k s).e = 0 ∧ bare ⟨(nxT k s).s, (nxT k s).n, (nxT k s).e⟩ = nxT k s := by
 obtain ⟨h1, h2⟩ := en_short (num_is hk s hc)
 refine ⟨h2, ?_⟩
 rw [show (⟨(nxT k s).s, (nxT k s).n, (nxT k s).e⟩ : Trip) = nxT k s from rfl, h1]
 exact bare_bare _
theorem nx_step {k : Nat} (hk : 1 ≤ k ∧ k ≤ 8) (s : ByteArray) (up : Bool) (hc : clsN k (fldN k s) (fldE k s) (fldF k s) = 1 ∨ clsN k (fldN k s) (fldE k s) (fldF k s) = 2) (h : (nxR k s up).2 = 0) :
  heldB (rdN k : Int) (dgN k : Int) (lsI k) (gsI k) (decide (k ≤ 3)) (nxT k s).n (nxT k s).e = true ∧ ∃ s' d p, (nxR k s up).1 = bare ⟨s', d, (widthN (rdN k : Int) : Int) * p⟩ ∧ InSpot (rdN k : Int) (dgN k : Int) (lsI k) (gsI k) (decide (k ≤ 3)) d p := by
 obtain ⟨h1, h2⟩ := nx_num hk s hc
 have hgr := (fmt_fit hk).2.2.2.2.2.2.2.2.2.2.2
 by_cases hh : heldB (rdN k : Int) (dgN k : Int) (lsI k) (gsI k) (decide (k ≤ 3)) (nxT k s).n (nxT k s).e = true
 ·refine ⟨hh, ?_⟩
  rcases step_spot (s := (nxT k s).s) (up := up) hgr h1 hh with hs | ⟨s', d, p, h3, h4⟩
  ·unfold nxR at h
   rw [hs] at h
   omega
  ·unfold nxR
   rw [h3]
   exact ⟨s', d, p, rfl, h4⟩
 ·exfalso
  unfold nxR stepR at h
  rw [Dg.vl_dg _ _ (by omega), if_pos (show onC (dchk (Dg.dg 4294967296 (nxT k s).n) (nxT k s).e) (gridC (rdN k : Int) (dgN k : Int) (lsI k) (gsI k)) = 0 from (if_pos h1).trans hgr), if_neg hh] at h
  omega
end Go.Proofs.YtiiphandhpilgaaGreatDoor

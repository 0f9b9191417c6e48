/-
  Patterns: Next.
-/
import Derived.Test.YtiiphandhpilgaaGreatDoorNb14
set_option maxRecDepth 100000
namespace Go.Proofs.YtiiphandhpilgaaGreatDoor
open Go.RowKit
set_option maxHeartbeats 3200000 in
theorem next_bad (n : Int) (er : Int) (her : er ≠ 0) (s : ByteArray) (up : Bool) (w : World)
  (HR : ∀ w1, Calls Tryz.prog 37 #[.int .i64 n, .string s] w1 fun z w' => z = .returned (.tuple #[.agg #[.int .i64 0, .int .i64 0, .int .i64 0, .int .i64 0, .bool false, .int .i64 0, .int .i64 0, .int .i64 0, .nilFunc], .agg #[.bool false, .int .i64 0, .int .u64 0], .int .i64 er]) ∧ Below w1.heap.size w1 w') :
  Calls Tryz.prog 10 #[.int .i64 n, .string s, .bool up] w fun z w' => z = .returned (.tuple #[.string ⟨#[]⟩, .int .i64 er]) ∧ Below w.heap.size w w' := by
 have hsn := hsn_z
 replace HR : Hid _ := HR
 have he : (er == 0) = false := by simpa using her
 clear her
 go_enter Tryz.func10, Tryz.ntmps10
 go_wp2_with fail
 refine (HR.out _).mono ?_
 rintro z w1 ⟨rfl, b1⟩
 have bl := below_alloc w1 (.cells #[.int .i64 0, .int .i64 0, .int .i64 0, .int .i64 0, .bool false, .int .i64 0, .int .i64 0, .int .i64 0, .nilFunc] 63)
 have bf := below_alloc (w1.alloc (.cells #[.int .i64 0, .int .i64 0, .int .i64 0, .int .i64 0, .bool false, .int .i64 0, .int .i64 0, .int .i64 0, .nilFunc] 63)) (.cells #[.bool false, .int .i64 0, .int .u64 0] 82)
 have bR := below_trans (below_trans b1 bl) bf
 clear b1 bl bf HR
 go_wp2
 go_ret2
 exact ⟨rfl, bR⟩
set_option maxHeartbeats 3200000 in
theorem next_cls (n R D L G fam : Int) (gr up : Bool) (sz ex F : Nat) (ng : Bool) (e f : Nat) (c : Int) (gg : Bool) (m : Nat) (p : Int) (s : ByteArray) (w : World) (hc : c = 3 ∨ c = 4 ∨ c = 5)
  (HR : ∀ w1, Calls Tryz.prog 37 #[.int .i64 n, .string s] w1 fun z w' => z = .returned (.tuple #[.agg #[.int .i64 R, .int .i64 D, .int .i64 L, .int .i64 G, .bool gr, .int .i64 (sz : Int), .int .i64 (ex : Int), .int .i64 fam, .func (.func F) #[] #[]], .agg #[.bool ng, .int .i64 (e : Int), .int .u64 (f : Int)], .int .i64 0]) ∧ Below w1.heap.size w1 w')
  (HV : ∀ w1, Calls Tryz.prog 38 #[.agg #[.int .i64 R, .int .i64 D, .int .i64 L, .int .i64 G, .bool gr, .int .i64 (sz : Int), .int .i64 (ex : Int), .int .i64 fam, .func (.func F) #[] #[]], .agg #[.bool ng, .int .i64 (e : Int), .int .u64 (f : Int)]] w1 (ValRes w1 c gg m p)) :
  Calls Tryz.prog 10 #[.int .i64 n, .string s, .bool up] w fun z w' => z = .returned (.tuple #[.string ⟨#[]⟩, .int .i64 4]) ∧ Below w.heap.size w w' := by
 have hsf := hsf_z
 replace HR : Hid _ := HR
 replace HV : Hid _ := HV
 go_enter Tryz.func10, Tryz.ntmps10
 go_wp2_with fail
 refine (HR.out _).mono ?_
 rintro z w1 ⟨rfl, bb1⟩
 clear HR
 have al_l := below_alloc w1 (.cells #[.int .i64 R, .int .i64 D, .int .i64 L, .int .i64 G, .bool gr, .int .i64 (sz : Int), .int .i64 (ex : Int), .int .i64 fam, .func (.func F) #[] #[]] 63)
 have ln_l := locE_new w1 [.int .i64 R, .int .i64 D, .int .i64 L, .int .i64 G, .bool gr, .int .i64 (sz : Int), .int .i64 (ex : Int), .int .i64 fam, .func (.func F) #[] #[]] 63
 have b0_2 := below_trans bb1 al_l
 clear bb1 al_l
 have al_f := below_alloc (w1.alloc (.cells #[.int .i64 R, .int .i64 D, .int .i64 L, .int .i64 G, .bool gr, .int .i64 (sz : Int), .int .i64 (ex : Int), .int .i64 fam, .func (.func F) #[] #[]] 63)) (.cells #[.bool ng, .int .i64 (e : Int), .int .u64 (f : Int)] 82)
 have ln_f := locE_new (w1.alloc (.cells #[.int .i64 R, .int .i64 D, .int .i64 L, .int .i64 G, .bool gr, .int .i64 (sz : Int), .int .i64 (ex : Int), .int .i64 fam, .func (.func F) #[] #[]] 63)) [.bool ng, .int .i64 (e : Int), .int .u64 (f : Int)] 82
 have l_3 := ln_l.later al_f
 have b0_3 := below_trans b0_2 al_f
 clear ln_l b0_2 al_f
 go_wp2_with fail
 refine (HV.out _).mono ?_
 rintro z w2 ⟨v, rfl, r2, bb2⟩
 obtain ⟨vo, vc, hv⟩ := r2.shape
 subst hv
 clear HV
 have l_4 := l_3.later bb2
 have f_4 := ln_f.later bb2
 have b0_4 := below_trans b0_3 bb2
 clear l_3 ln_f b0_3 bb2
 have al_PV := below_alloc w2 (.cells #[.int .i64 c, .bool gg, .slice vo (Dg.dg 4294967296 m).length vc, .int .i64 p] 25)
 have ln_PV := locE_new w2 [.int .i64 c, .bool gg, .slice vo (Dg.dg 4294967296 m).length vc, .int .i64 p] 25
 have l_5 := l_4.later al_PV
 have f_5 := f_4.later al_PV
 have rv_5 := r2.later al_PV
 have b0_5 := below_trans b0_4 al_PV
 clear l_4 f_4 r2 b0_4 al_PV
 go_upto_region 5 with fail
 generalize w2.alloc (.cells #[.int .i64 c, .bool gg, .slice vo (Dg.dg 4294967296 m).length vc, .int .i64 p] 25) = W2 at l_5 f_5 rv_5 ln_PV b0_5 ⊢
 generalize w2.heap.size = PV at ln_PV  ⊢
 obtain ⟨y0, y1, y2, y3⟩ := ln_PV.cs4
 have bR := b0_5
 clear l_5 f_5 rv_5 ln_PV b0_5
 rcases hc with rfl | rfl | rfl
 all_goals go_wp2
 all_goals go_ret2
 all_goals exact ⟨rfl, bR⟩
set_option maxHeartbeats 6400000 in
theorem next_num (n R D L G fam : Int) (gr up : Bool) (sz ex F : Nat) (ng : Bool) (e f : Nat) (c : Int) (gg : Bool) (m : Nat) (p : Int) (xs : Bool) (xn : Nat) (xe : Int) (ys : Bool) (yn : Nat) (ye yc er : Int) (st s : ByteArray) (w : World) (hc : c = 1 ∨ c = 2)
  (HR : ∀ w1, Calls Tryz.prog 37 #[.int .i64 n, .string s] w1 fun z w' => z = .returned (.tuple #[.agg #[.int .i64 R, .int .i64 D, .int .i64 L, .int .i64 G, .bool gr, .int .i64 (sz : Int), .int .i64 (ex : Int), .int .i64 fam, .func (.func F) #[] #[]], .agg #[.bool ng, .int .i64 (e : Int), .int .u64 (f : Int)], .int .i64 0]) ∧ Below w1.heap.size w1 w')
  (HV : ∀ w1, Calls Tryz.prog 38 #[.agg #[.int .i64 R, .int .i64 D, .int .i64 L, .int .i64 G, .bool gr, .int .i64 (sz : Int), .int .i64 (ex : Int), .int .i64 fam, .func (.func F) #[] #[]], .agg #[.bool ng, .int .i64 (e : Int), .int .u64 (f : Int)]] w1 (ValRes w1 c gg m p))
  (HN : ∀ vo vc w1, Below w.heap.size w w1 → Rd w1 .u32 (.slice vo (Dg.dg 4294967296 m).length vc) (Dg.dg 4294967296 m) → Calls Tryz.prog 39 #[.agg #[.int .i64 R, .int .i64 D, .int .i64 L, .int .i64 G, .bool gr, .int .i64 (sz : Int), .int .i64 (ex : Int), .int .i64 fam, .func (.func F) #[] #[]], .agg #[.int .i64 c, .bool gg, .slice vo (Dg.dg 4294967296 m).length vc, .int .i64 p]] w1 (DAns w1 (⟨xs, xn, xe⟩, 0)))
  (HS : ∀ xo xk w1, Below w.heap.size w w1 → Rd w1 .u32 (.slice xo (Dg.dg 4294967296 xn).length xk) (Dg.dg 4294967296 xn) → Calls Tryz.prog 40 #[.agg #[.bool xs, .slice xo (Dg.dg 4294967296 xn).length xk, .int .i64 xe], .agg #[.int .i64 R, .int .i64 D, .int .i64 L, .int .i64 G, .bool gr], .bool up] w1 (DAns w1 (⟨ys, yn, ye⟩, yc)))
  (HH : yc = 0 → ∀ yo yk w1, Below w.heap.size w w1 → Rd w1 .u32 (.slice yo (Dg.dg 4294967296 yn).length yk) (Dg.dg 4294967296 yn) → Calls Tryz.prog 41 #[.agg #[.int .i64 R, .int .i64 D, .int .i64 L, .int .i64 G, .bool gr, .int .i64 (sz : Int), .int .i64 (ex : Int), .int .i64 fam, .func (.func F) #[] #[]], .agg #[.bool ys, .slice yo (Dg.dg 4294967296 yn).length yk, .int .i64 ye]] w1 fun z w' => z = .returned (.tuple #[.string st, .int .i64 er]) ∧ Below w1.heap.size w1 w')
  (HZ : yc ≠ 0 → st = ⟨#[]⟩ ∧ er = yc) :
  Calls Tryz.prog 10 #[.int .i64 n, .string s, .bool up] w fun z w' => z = .returned (.tuple #[.string st, .int .i64 er]) ∧ Below w.heap.size w w' := by
 replace HN : Hid _ := HN
 replace HS : Hid _ := HS
 replace HH : Hid _ := HH
 replace HZ : Hid _ := HZ
 have hsf := hsf_z
 replace HR : Hid _ := HR
 replace HV : Hid _ := HV
 go_enter Tryz.func10, Tryz.ntmps10
 go_wp2_with fail
 refine (HR.out _).mono ?_
 rintro z w1 ⟨rfl, bb1⟩
 clear HR
 have al_l := below_alloc w1 (.cells #[.int .i64 R, .int .i64 D, .int .i64 L, .int .i64 G, .bool gr, .int .i64 (sz : Int), .int .i64 (ex : Int), .int .i64 fam, .func (.func F) #[] #[]] 63)
 have ln_l := locE_new w1 [.int .i64 R, .int .i64 D, .int .i64 L, .int .i64 G, .bool gr, .int .i64 (sz : Int), .int .i64 (ex : Int), .int .i64 fam, .func (.func F) #[] #[]] 63
 have b0_2 := below_trans bb1 al_l
 clear bb1 al_l
 have al_f := below_alloc (w1.alloc (.cells #[.int .i64 R, .int .i64 D, .int .i64 L, .int .i64 G, .bool gr, .int .i64 (sz : Int), .int .i64 (ex : Int), .int .i64 fam, .func (.func F) #[] #[]] 63)) (.cells #[.bool ng, .int .i64 (e : Int), .int .u64 (f : Int)] 82)
 have ln_f := locE_new (w1.alloc (.cells #[.int .i64 R, .int .i64 D, .int .i64 L, .int .i64 G, .bool gr, .int .i64 (sz : Int), .int .i64 (ex : Int), .int .i64 fam, .func (.func F) #[] #[]] 63)) [.bool ng, .int .i64 (e : Int), .int .u64 (f : Int)] 82
 have l_3 := ln_l.later al_f
 have b0_3 := below_trans b0_2 al_f
 clear ln_l b0_2 al_f
 go_wp2_with fail
 refine (HV.out _).mono ?_
 rintro z w2 ⟨v, rfl, r2, bb2⟩
 obtain ⟨vo, vc, hv⟩ := r2.shape
 subst hv
 clear HV
 have l_4 := l_3.later bb2
 have f_4 := ln_f.later bb2
 have b0_4 := below_trans b0_3 bb2
 clear l_3 ln_f b0_3 bb2
 have al_PV := below_alloc w2 (.cells #[.int .i64 c, .bool gg, .slice vo (Dg.dg 4294967296 m).length vc, .int .i64 p] 25)
 have ln_PV := locE_new w2 [.int .i64 c, .bool gg, .slice vo (Dg.dg 4294967296 m).length vc, .int .i64 p] 25
 have l_5 := l_4.later al_PV
 have f_5 := f_4.later al_PV
 have rv_5 := r2.later al_PV
 have b0_5 := below_trans b0_4 al_PV
 clear l_4 f_4 r2 b0_4 al_PV
 go_upto_region 5 with fail
 generalize w2.alloc (.cells #[.int .i64 c, .bool gg, .slice vo (Dg.dg 4294967296 m).length vc, .int .i64 p] 25) = W2 at l_5 f_5 rv_5 ln_PV b0_5 ⊢
 generalize w2.heap.size = PV at ln_PV  ⊢
 rcases hc with rfl | rfl
 ·skip
  obtain ⟨x0, x1, x2, x3, x4, x5, x6, x7, x8⟩ := l_5.cs9
  obtain ⟨y0, y1, y2, y3⟩ := ln_PV.cs4
  go_wp2_with fail
  refine (HN.out _ _ _ b0_5 rv_5).mono ?_
  rintro z w3 ⟨v3, rfl, o3, bb3⟩
  obtain ⟨xo, xk, hv3⟩ := o3.rd.shape
  subst hv3
  have r3 := o3.rd
  simp only at r3 ⊢
  clear o3 HN x0 x1 x2 x3 x4 x5 x6 x7 x8 y0 y1 y2 y3
  have l_101 := l_5.later bb3
  have b0_101 := below_trans b0_5 bb3
  clear l_5 b0_5 bb3
  have al_PX := below_alloc w3 (.cells #[.bool xs, .slice xo (Dg.dg 4294967296 xn).length xk, .int .i64 xe] 87)
  have ln_PX := locE_new w3 [.bool xs, .slice xo (Dg.dg 4294967296 xn).length xk, .int .i64 xe] 87
  have l_102 := l_101.later al_PX
  have rx_102 := r3.later al_PX
  have b0_102 := below_trans b0_101 al_PX
  clear l_101 r3 b0_101 al_PX
  go_upto_region 8 with fail
  generalize w3.alloc (.cells #[.bool xs, .slice xo (Dg.dg 4294967296 xn).length xk, .int .i64 xe] 87) = W3 at l_102 rx_102 ln_PX b0_102 ⊢
  generalize w3.heap.size = PX at ln_PX  ⊢
  obtain ⟨x0, x1, x2, x3, x4⟩ := l_102.cs5
  obtain ⟨y0, y1, y2⟩ := ln_PX.cs3
  go_wp2_with fail
  refine (HS.out _ _ _ b0_102 rx_102).mono ?_
  rintro z w4 ⟨v4, rfl, o4, bb4⟩
  obtain ⟨yo, yk, hv4⟩ := o4.rd.shape
  subst hv4
  have r4 := o4.rd
  simp only at r4 ⊢
  clear o4 HS x0 x1 x2 x3 x4 y0 y1 y2
  have l_103 := l_102.later bb4
  have b0_103 := below_trans b0_102 bb4
  clear l_102 b0_102 bb4
  have al_PY := below_alloc w4 (.cells #[.bool ys, .slice yo (Dg.dg 4294967296 yn).length yk, .int .i64 ye] 87)
  have ln_PY := locE_new w4 [.bool ys, .slice yo (Dg.dg 4294967296 yn).length yk, .int .i64 ye] 87
  have l_104 := l_103.later al_PY
  have ry_104 := r4.later al_PY
  have b0_104 := below_trans b0_103 al_PY
  clear l_103 r4 b0_103 al_PY
  go_upto_region 11 with fail
  generalize w4.alloc (.cells #[.bool ys, .slice yo (Dg.dg 4294967296 yn).length yk, .int .i64 ye] 87) = W4 at l_104 ry_104 ln_PY b0_104 ⊢
  generalize w4.heap.size = PY at ln_PY  ⊢
  by_cases hy : yc = 0
  ·have HH1 : Hid _ := HH.out hy
   subst hy
   clear HH HZ
   obtain ⟨x0, x1, x2, x3, x4, x5, x6, x7, x8⟩ := l_104.cs9
   obtain ⟨y0, y1, y2⟩ := ln_PY.cs3
   go_wp2_with fail
   refine (HH1.out _ _ _ b0_104 ry_104).mono ?_
   rintro z w5 ⟨rfl, bb5⟩
   have bR := below_trans b0_104 bb5
   go_wp2
   go_ret2
   exact ⟨rfl, bR⟩
  ·obtain ⟨h1, h2⟩ := HZ.out hy
   have hyf : (yc == 0) = false := by simpa using hy
   subst h1 h2
   clear HH HZ
   have bR := b0_104
   go_wp2
   go_ret2
   exact ⟨rfl, bR⟩
 ·skip
  obtain ⟨x0, x1, x2, x3, x4, x5, x6, x7, x8⟩ := l_5.cs9
  obtain ⟨y0, y1, y2, y3⟩ := ln_PV.cs4
  go_wp2_with fail
  refine (HN.out _ _ _ b0_5 rv_5).mono ?_
  rintro z w3 ⟨v3, rfl, o3, bb3⟩
  obtain ⟨xo, xk, hv3⟩ := o3.rd.shape
  subst hv3
  have r3 := o3.rd
  simp only at r3 ⊢
  clear o3 HN x0 x1 x2 x3 x4 x5 x6 x7 x8 y0 y1 y2 y3
  have l_101 := l_5.later bb3
  have b0_101 := below_trans b0_5 bb3
  clear l_5 b0_5 bb3
  have al_PX := below_alloc w3 (.cells #[.bool xs, .slice xo (Dg.dg 4294967296 xn).length xk, .int .i64 xe] 87)
  have ln_PX := locE_new w3 [.bool xs, .slice xo (Dg.dg 4294967296 xn).length xk, .int .i64 xe] 87
  have l_102 := l_101.later al_PX
  have rx_102 := r3.later al_PX
  have b0_102 := below_trans b0_101 al_PX
  clear l_101 r3 b0_101 al_PX
  go_upto_region 8 with fail
  generalize w3.alloc (.cells #[.bool xs, .slice xo (Dg.dg 4294967296 xn).length xk, .int .i64 xe] 87) = W3 at l_102 rx_102 ln_PX b0_102 ⊢
  generalize w3.heap.size = PX at ln_PX  ⊢
  obtain ⟨x0, x1, x2, x3, x4⟩ := l_102.cs5
  obtain ⟨y0, y1, y2⟩ := ln_PX.cs3
  go_wp2_with fail
  refine (HS.out _ _ _ b0_102 rx_102).mono ?_
  rintro z w4 ⟨v4, rfl, o4, bb4⟩
  obtain ⟨yo, yk, hv4⟩ := o4.rd.shape
  subst hv4
  have r4 := o4.rd
  simp only at r4 ⊢
  clear o4 HS x0 x1 x2 x3 x4 y0 y1 y2
  have l_103 := l_102.later bb4
  have b0_103 := below_trans b0_102 bb4
  clear l_102 b0_102 bb4
  have al_PY := below_alloc w4 (.cells #[.bool ys, .slice yo (Dg.dg 4294967296 yn).length yk, .int .i64 ye] 87)
  have ln_PY := locE_new w4 [.bool ys, .slice yo (Dg.dg 4294967296 yn).length yk, .int .i64 ye] 87
  have l_104 := l_103.later al_PY
  have ry_104 := r4.later al_PY
  have b0_104 := below_trans b0_103 al_PY
  clear l_103 r4 b0_103 al_PY
  go_upto_region 11 with fail
  generalize w4.alloc (.cells #[.bool ys, .slice yo (Dg.dg 4294967296 yn).length yk, .int .i64 ye] 87) = W4 at l_104 ry_104 ln_PY b0_104 ⊢
  generalize w4.heap.size = PY at ln_PY  ⊢
  by_cases hy : yc = 0
  ·have HH1 : Hid _ := HH.out hy
   subst hy
   clear HH HZ
   obtain ⟨x0, x1, x2, x3, x4, x5, x6, x7, x8⟩ := l_104.cs9
   obtain ⟨y0, y1, y2⟩ := ln_PY.cs3
   go_wp2_with fail
   refine (HH1.out _ _ _ b0_104 ry_104).mono ?_
   rintro z w5 ⟨rfl, bb5⟩
   have bR := below_trans b0_104 bb5
   go_wp2
   go_ret2
   exact ⟨rfl, bR⟩
  ·obtain ⟨h1, h2⟩ := HZ.out hy
   have hyf : (yc == 0) = false := by simpa using hy
   subst h1 h2
   clear HH HZ
   have bR := b0_104
   go_wp2
   go_ret2
   exact ⟨rfl, bR⟩
end Go.Proofs.YtiiphandhpilgaaGreatDoor

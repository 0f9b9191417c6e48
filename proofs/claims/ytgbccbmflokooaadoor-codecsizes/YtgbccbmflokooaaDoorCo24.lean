/-
  Sizes and grids of formats: the law's walk.
-/
import Derived.Test.YtgbccbmflokooaaDoorCo23
import Derived.Test.YtgbccbmflokooaaDoorCo5
namespace Go.Proofs.YtgbccbmflokooaaDoor
open Go.RowKit

set_option maxRecDepth 100000 in
set_option maxHeartbeats 3200000 in
theorem codecSizes_none (n : Int) (w : World) (h : famC n = 0) : Calls Tryd.prog 3 #[.int .i64 n] w fun z w' => z = .returned (.bool true) ∧ Below w.heap.size w w' := by
  have HS : Hid (∀ w1, Calls Tryd.prog 5 #[.int .i64 n] w1 fun z w' => z = .returned (.tuple #[.int .i64 0, .int .i64 6]) ∧ Below w1.heap.size w1 w') := fun w1 => size_none n w1 h
  have HG : Hid (∀ w1, Calls Tryd.prog 6 #[.int .i64 n] w1 fun z w' => z = .returned (.tuple #[.agg #[.int .i64 0, .int .i64 0, .int .i64 0, .int .i64 0, .bool false], .int .i64 6]) ∧ Below w1.heap.size w1 w') := fun w1 => cgrid_none n w1 h
  have HF : Hid (∀ w1, Calls Tryd.prog 7 #[.int .i64 n] w1 fun z w' => z = .returned (.tuple #[.agg #[.int .i64 0, .int .i64 0, .int .i64 0, .int .i64 0, .int .i64 0, .int .i64 0, .int .i64 0, .bool false, .int .i64 0], .bool false]) ∧ Below w1.heap.size w1 w') := fun w1 => format_none n w1 h
  have HB : Hid (∀ w1, Calls Tryd.prog 8 #[] w1 fun z w' => z = .returned (.bool true) ∧ Below w1.heap.size w1 w') := codecBegun_any
  go_enter Tryd.func3, Tryd.ntmps3
  go_wp2_with fail
  refine (HS.out _).mono ?_
  rintro z w1 ⟨rfl, b1⟩
  go_wp2_with fail
  refine (HG.out _).mono ?_
  rintro z w2 ⟨rfl, b2⟩
  have ba := below_alloc w2 (.cells #[.int .i64 0, .int .i64 0, .int .i64 0, .int .i64 0, .bool false] 26)
  have g2 := locE_new w2 [.int .i64 0, .int .i64 0, .int .i64 0, .int .i64 0, .bool false] 26
  have b02 := below_trans (below_trans b1 b2) ba
  go_wp2_with fail
  refine (HF.out _).mono ?_
  rintro z w3 ⟨rfl, b3⟩
  have bc := below_alloc w3 (.cells #[.int .i64 0, .int .i64 0, .int .i64 0, .int .i64 0, .int .i64 0, .int .i64 0, .int .i64 0, .bool false, .int .i64 0] 30)
  have g3 := (g2.later b3).later bc
  have f3 := locE_new w3 [.int .i64 0, .int .i64 0, .int .i64 0, .int .i64 0, .int .i64 0, .int .i64 0, .int .i64 0, .bool false, .int .i64 0] 30
  have b03 := below_trans (below_trans b02 b3) bc
  clear b1 b2 ba b02 b3 bc g2 HS HG HF
  go_wp2_with fail
  refine (HB.out _).mono ?_
  rintro z w4 ⟨rfl, b4⟩
  have g4 := g3.later b4
  have f4 := f3.later b4
  have b04 := below_trans b03 b4
  have x0 := g4.cell 0 rfl; have x1 := g4.cell 1 rfl; have x2 := g4.cell 2 rfl; have x3 := g4.cell 3 rfl; have x4 := g4.cell 4 rfl; have y0 := f4.cell 0 rfl; have y1 := f4.cell 1 rfl; have y2 := f4.cell 2 rfl; have y3 := f4.cell 3 rfl; have y4 := f4.cell 4 rfl; have y5 := f4.cell 5 rfl; have y6 := f4.cell 6 rfl; have y7 := f4.cell 7 rfl; have y8 := f4.cell 8 rfl
  generalize w2.heap.size = p at *
  generalize w3.heap.size = q at *
  clear g3 f3 b03 b4 g4 f4
  go_wp2
  go_ret
  exact ⟨rfl, b04⟩

set_option maxRecDepth 100000 in
set_option maxHeartbeats 3200000 in
theorem codecSizes_1 (w : World) : Calls Tryd.prog 3 #[.int .i64 1] w fun z w' => z = .returned (.bool true) ∧ Below w.heap.size w w' := by
  have HS : Hid (∀ w1, Calls Tryd.prog 5 #[.int .i64 1] w1 fun z w' => z = .returned (.tuple #[.int .i64 4, .int .i64 0]) ∧ Below w1.heap.size w1 w') := fun w1 => size_1 w1
  have HG : Hid (∀ w1, Calls Tryd.prog 6 #[.int .i64 1] w1 fun z w' => z = .returned (.tuple #[.agg #[.int .i64 2, .int .i64 24, .int .i64 (-149), .int .i64 104, .bool true], .int .i64 0]) ∧ Below w1.heap.size w1 w') := fun w1 => cgrid_1 w1
  have HF : Hid (∀ w1, Calls Tryd.prog 7 #[.int .i64 1] w1 fun z w' => z = .returned (.tuple #[.agg #[.int .i64 4, .int .i64 8, .int .i64 23, .int .i64 2, .int .i64 24, .int .i64 (-149), .int .i64 104, .bool true, .int .i64 1], .bool true]) ∧ Below w1.heap.size w1 w') := fun w1 => format_1 w1
  have HB : Hid (∀ w1, Calls Tryd.prog 8 #[] w1 fun z w' => z = .returned (.bool true) ∧ Below w1.heap.size w1 w') := codecBegun_any
  go_enter Tryd.func3, Tryd.ntmps3
  go_wp2_with fail
  refine (HS.out _).mono ?_
  rintro z w1 ⟨rfl, b1⟩
  go_wp2_with fail
  refine (HG.out _).mono ?_
  rintro z w2 ⟨rfl, b2⟩
  have ba := below_alloc w2 (.cells #[.int .i64 2, .int .i64 24, .int .i64 (-149), .int .i64 104, .bool true] 26)
  have g2 := locE_new w2 [.int .i64 2, .int .i64 24, .int .i64 (-149), .int .i64 104, .bool true] 26
  have b02 := below_trans (below_trans b1 b2) ba
  go_wp2_with fail
  refine (HF.out _).mono ?_
  rintro z w3 ⟨rfl, b3⟩
  have bc := below_alloc w3 (.cells #[.int .i64 4, .int .i64 8, .int .i64 23, .int .i64 2, .int .i64 24, .int .i64 (-149), .int .i64 104, .bool true, .int .i64 1] 30)
  have g3 := (g2.later b3).later bc
  have f3 := locE_new w3 [.int .i64 4, .int .i64 8, .int .i64 23, .int .i64 2, .int .i64 24, .int .i64 (-149), .int .i64 104, .bool true, .int .i64 1] 30
  have b03 := below_trans (below_trans b02 b3) bc
  clear b1 b2 ba b02 b3 bc g2 HS HG HF
  go_wp2_with fail
  refine (HB.out _).mono ?_
  rintro z w4 ⟨rfl, b4⟩
  have g4 := g3.later b4
  have f4 := f3.later b4
  have b04 := below_trans b03 b4
  have x0 := g4.cell 0 rfl; have x1 := g4.cell 1 rfl; have x2 := g4.cell 2 rfl; have x3 := g4.cell 3 rfl; have x4 := g4.cell 4 rfl; have y0 := f4.cell 0 rfl; have y1 := f4.cell 1 rfl; have y2 := f4.cell 2 rfl; have y3 := f4.cell 3 rfl; have y4 := f4.cell 4 rfl; have y5 := f4.cell 5 rfl; have y6 := f4.cell 6 rfl; have y7 := f4.cell 7 rfl; have y8 := f4.cell 8 rfl
  generalize w2.heap.size = p at *
  generalize w3.heap.size = q at *
  clear g3 f3 b03 b4 g4 f4
  go_wp2
  go_ret
  exact ⟨rfl, b04⟩

set_option maxRecDepth 100000 in
set_option maxHeartbeats 3200000 in
theorem codecSizes_2 (w : World) : Calls Tryd.prog 3 #[.int .i64 2] w fun z w' => z = .returned (.bool true) ∧ Below w.heap.size w w' := by
  have HS : Hid (∀ w1, Calls Tryd.prog 5 #[.int .i64 2] w1 fun z w' => z = .returned (.tuple #[.int .i64 8, .int .i64 0]) ∧ Below w1.heap.size w1 w') := fun w1 => size_2 w1
  have HG : Hid (∀ w1, Calls Tryd.prog 6 #[.int .i64 2] w1 fun z w' => z = .returned (.tuple #[.agg #[.int .i64 2, .int .i64 53, .int .i64 (-1074), .int .i64 971, .bool true], .int .i64 0]) ∧ Below w1.heap.size w1 w') := fun w1 => cgrid_2 w1
  have HF : Hid (∀ w1, Calls Tryd.prog 7 #[.int .i64 2] w1 fun z w' => z = .returned (.tuple #[.agg #[.int .i64 8, .int .i64 11, .int .i64 52, .int .i64 2, .int .i64 53, .int .i64 (-1074), .int .i64 971, .bool true, .int .i64 1], .bool true]) ∧ Below w1.heap.size w1 w') := fun w1 => format_2 w1
  have HB : Hid (∀ w1, Calls Tryd.prog 8 #[] w1 fun z w' => z = .returned (.bool true) ∧ Below w1.heap.size w1 w') := codecBegun_any
  go_enter Tryd.func3, Tryd.ntmps3
  go_wp2_with fail
  refine (HS.out _).mono ?_
  rintro z w1 ⟨rfl, b1⟩
  go_wp2_with fail
  refine (HG.out _).mono ?_
  rintro z w2 ⟨rfl, b2⟩
  have ba := below_alloc w2 (.cells #[.int .i64 2, .int .i64 53, .int .i64 (-1074), .int .i64 971, .bool true] 26)
  have g2 := locE_new w2 [.int .i64 2, .int .i64 53, .int .i64 (-1074), .int .i64 971, .bool true] 26
  have b02 := below_trans (below_trans b1 b2) ba
  go_wp2_with fail
  refine (HF.out _).mono ?_
  rintro z w3 ⟨rfl, b3⟩
  have bc := below_alloc w3 (.cells #[.int .i64 8, .int .i64 11, .int .i64 52, .int .i64 2, .int .i64 53, .int .i64 (-1074), .int .i64 971, .bool true, .int .i64 1] 30)
  have g3 := (g2.later b3).later bc
  have f3 := locE_new w3 [.int .i64 8, .int .i64 11, .int .i64 52, .int .i64 2, .int .i64 53, .int .i64 (-1074), .int .i64 971, .bool true, .int .i64 1] 30
  have b03 := below_trans (below_trans b02 b3) bc
  clear b1 b2 ba b02 b3 bc g2 HS HG HF
  go_wp2_with fail
  refine (HB.out _).mono ?_
  rintro z w4 ⟨rfl, b4⟩
  have g4 := g3.later b4
  have f4 := f3.later b4
  have b04 := below_trans b03 b4
  have x0 := g4.cell 0 rfl; have x1 := g4.cell 1 rfl; have x2 := g4.cell 2 rfl; have x3 := g4.cell 3 rfl; have x4 := g4.cell 4 rfl; have y0 := f4.cell 0 rfl; have y1 := f4.cell 1 rfl; have y2 := f4.cell 2 rfl; have y3 := f4.cell 3 rfl; have y4 := f4.cell 4 rfl; have y5 := f4.cell 5 rfl; have y6 := f4.cell 6 rfl; have y7 := f4.cell 7 rfl; have y8 := f4.cell 8 rfl
  generalize w2.heap.size = p at *
  generalize w3.heap.size = q at *
  clear g3 f3 b03 b4 g4 f4
  go_wp2
  go_ret
  exact ⟨rfl, b04⟩

set_option maxRecDepth 100000 in
set_option maxHeartbeats 3200000 in
theorem codecSizes_3 (w : World) : Calls Tryd.prog 3 #[.int .i64 3] w fun z w' => z = .returned (.bool true) ∧ Below w.heap.size w w' := by
  have HS : Hid (∀ w1, Calls Tryd.prog 5 #[.int .i64 3] w1 fun z w' => z = .returned (.tuple #[.int .i64 10, .int .i64 0]) ∧ Below w1.heap.size w1 w') := fun w1 => size_3 w1
  have HG : Hid (∀ w1, Calls Tryd.prog 6 #[.int .i64 3] w1 fun z w' => z = .returned (.tuple #[.agg #[.int .i64 2, .int .i64 64, .int .i64 (-16445), .int .i64 16320, .bool true], .int .i64 0]) ∧ Below w1.heap.size w1 w') := fun w1 => cgrid_3 w1
  have HF : Hid (∀ w1, Calls Tryd.prog 7 #[.int .i64 3] w1 fun z w' => z = .returned (.tuple #[.agg #[.int .i64 10, .int .i64 15, .int .i64 64, .int .i64 2, .int .i64 64, .int .i64 (-16445), .int .i64 16320, .bool true, .int .i64 1], .bool true]) ∧ Below w1.heap.size w1 w') := fun w1 => format_3 w1
  have HB : Hid (∀ w1, Calls Tryd.prog 8 #[] w1 fun z w' => z = .returned (.bool true) ∧ Below w1.heap.size w1 w') := codecBegun_any
  go_enter Tryd.func3, Tryd.ntmps3
  go_wp2_with fail
  refine (HS.out _).mono ?_
  rintro z w1 ⟨rfl, b1⟩
  go_wp2_with fail
  refine (HG.out _).mono ?_
  rintro z w2 ⟨rfl, b2⟩
  have ba := below_alloc w2 (.cells #[.int .i64 2, .int .i64 64, .int .i64 (-16445), .int .i64 16320, .bool true] 26)
  have g2 := locE_new w2 [.int .i64 2, .int .i64 64, .int .i64 (-16445), .int .i64 16320, .bool true] 26
  have b02 := below_trans (below_trans b1 b2) ba
  go_wp2_with fail
  refine (HF.out _).mono ?_
  rintro z w3 ⟨rfl, b3⟩
  have bc := below_alloc w3 (.cells #[.int .i64 10, .int .i64 15, .int .i64 64, .int .i64 2, .int .i64 64, .int .i64 (-16445), .int .i64 16320, .bool true, .int .i64 1] 30)
  have g3 := (g2.later b3).later bc
  have f3 := locE_new w3 [.int .i64 10, .int .i64 15, .int .i64 64, .int .i64 2, .int .i64 64, .int .i64 (-16445), .int .i64 16320, .bool true, .int .i64 1] 30
  have b03 := below_trans (below_trans b02 b3) bc
  clear b1 b2 ba b02 b3 bc g2 HS HG HF
  go_wp2_with fail
  refine (HB.out _).mono ?_
  rintro z w4 ⟨rfl, b4⟩
  have g4 := g3.later b4
  have f4 := f3.later b4
  have b04 := below_trans b03 b4
  have x0 := g4.cell 0 rfl; have x1 := g4.cell 1 rfl; have x2 := g4.cell 2 rfl; have x3 := g4.cell 3 rfl; have x4 := g4.cell 4 rfl; have y0 := f4.cell 0 rfl; have y1 := f4.cell 1 rfl; have y2 := f4.cell 2 rfl; have y3 := f4.cell 3 rfl; have y4 := f4.cell 4 rfl; have y5 := f4.cell 5 rfl; have y6 := f4.cell 6 rfl; have y7 := f4.cell 7 rfl; have y8 := f4.cell 8 rfl
  generalize w2.heap.size = p at *
  generalize w3.heap.size = q at *
  clear g3 f3 b03 b4 g4 f4
  go_wp2
  go_ret
  exact ⟨rfl, b04⟩

set_option maxRecDepth 100000 in
set_option maxHeartbeats 3200000 in
theorem codecSizes_4 (w : World) : Calls Tryd.prog 3 #[.int .i64 4] w fun z w' => z = .returned (.bool true) ∧ Below w.heap.size w w' := by
  have HS : Hid (∀ w1, Calls Tryd.prog 5 #[.int .i64 4] w1 fun z w' => z = .returned (.tuple #[.int .i64 4, .int .i64 0]) ∧ Below w1.heap.size w1 w') := fun w1 => size_4 w1
  have HG : Hid (∀ w1, Calls Tryd.prog 6 #[.int .i64 4] w1 fun z w' => z = .returned (.tuple #[.agg #[.int .i64 16, .int .i64 6, .int .i64 (-70), .int .i64 57, .bool false], .int .i64 0]) ∧ Below w1.heap.size w1 w') := fun w1 => cgrid_4 w1
  have HF : Hid (∀ w1, Calls Tryd.prog 7 #[.int .i64 4] w1 fun z w' => z = .returned (.tuple #[.agg #[.int .i64 4, .int .i64 7, .int .i64 24, .int .i64 16, .int .i64 6, .int .i64 (-70), .int .i64 57, .bool false, .int .i64 2], .bool true]) ∧ Below w1.heap.size w1 w') := fun w1 => format_4 w1
  have HB : Hid (∀ w1, Calls Tryd.prog 8 #[] w1 fun z w' => z = .returned (.bool true) ∧ Below w1.heap.size w1 w') := codecBegun_any
  go_enter Tryd.func3, Tryd.ntmps3
  go_wp2_with fail
  refine (HS.out _).mono ?_
  rintro z w1 ⟨rfl, b1⟩
  go_wp2_with fail
  refine (HG.out _).mono ?_
  rintro z w2 ⟨rfl, b2⟩
  have ba := below_alloc w2 (.cells #[.int .i64 16, .int .i64 6, .int .i64 (-70), .int .i64 57, .bool false] 26)
  have g2 := locE_new w2 [.int .i64 16, .int .i64 6, .int .i64 (-70), .int .i64 57, .bool false] 26
  have b02 := below_trans (below_trans b1 b2) ba
  go_wp2_with fail
  refine (HF.out _).mono ?_
  rintro z w3 ⟨rfl, b3⟩
  have bc := below_alloc w3 (.cells #[.int .i64 4, .int .i64 7, .int .i64 24, .int .i64 16, .int .i64 6, .int .i64 (-70), .int .i64 57, .bool false, .int .i64 2] 30)
  have g3 := (g2.later b3).later bc
  have f3 := locE_new w3 [.int .i64 4, .int .i64 7, .int .i64 24, .int .i64 16, .int .i64 6, .int .i64 (-70), .int .i64 57, .bool false, .int .i64 2] 30
  have b03 := below_trans (below_trans b02 b3) bc
  clear b1 b2 ba b02 b3 bc g2 HS HG HF
  go_wp2_with fail
  refine (HB.out _).mono ?_
  rintro z w4 ⟨rfl, b4⟩
  have g4 := g3.later b4
  have f4 := f3.later b4
  have b04 := below_trans b03 b4
  have x0 := g4.cell 0 rfl; have x1 := g4.cell 1 rfl; have x2 := g4.cell 2 rfl; have x3 := g4.cell 3 rfl; have x4 := g4.cell 4 rfl; have y0 := f4.cell 0 rfl; have y1 := f4.cell 1 rfl; have y2 := f4.cell 2 rfl; have y3 := f4.cell 3 rfl; have y4 := f4.cell 4 rfl; have y5 := f4.cell 5 rfl; have y6 := f4.cell 6 rfl; have y7 := f4.cell 7 rfl; have y8 := f4.cell 8 rfl
  generalize w2.heap.size = p at *
  generalize w3.heap.size = q at *
  clear g3 f3 b03 b4 g4 f4
  go_wp2
  go_ret
  exact ⟨rfl, b04⟩

set_option maxRecDepth 100000 in
set_option maxHeartbeats 3200000 in
theorem codecSizes_5 (w : World) : Calls Tryd.prog 3 #[.int .i64 5] w fun z w' => z = .returned (.bool true) ∧ Below w.heap.size w w' := by
  have HS : Hid (∀ w1, Calls Tryd.prog 5 #[.int .i64 5] w1 fun z w' => z = .returned (.tuple #[.int .i64 8, .int .i64 0]) ∧ Below w1.heap.size w1 w') := fun w1 => size_5 w1
  have HG : Hid (∀ w1, Calls Tryd.prog 6 #[.int .i64 5] w1 fun z w' => z = .returned (.tuple #[.agg #[.int .i64 16, .int .i64 14, .int .i64 (-78), .int .i64 49, .bool false], .int .i64 0]) ∧ Below w1.heap.size w1 w') := fun w1 => cgrid_5 w1
  have HF : Hid (∀ w1, Calls Tryd.prog 7 #[.int .i64 5] w1 fun z w' => z = .returned (.tuple #[.agg #[.int .i64 8, .int .i64 7, .int .i64 56, .int .i64 16, .int .i64 14, .int .i64 (-78), .int .i64 49, .bool false, .int .i64 2], .bool true]) ∧ Below w1.heap.size w1 w') := fun w1 => format_5 w1
  have HB : Hid (∀ w1, Calls Tryd.prog 8 #[] w1 fun z w' => z = .returned (.bool true) ∧ Below w1.heap.size w1 w') := codecBegun_any
  go_enter Tryd.func3, Tryd.ntmps3
  go_wp2_with fail
  refine (HS.out _).mono ?_
  rintro z w1 ⟨rfl, b1⟩
  go_wp2_with fail
  refine (HG.out _).mono ?_
  rintro z w2 ⟨rfl, b2⟩
  have ba := below_alloc w2 (.cells #[.int .i64 16, .int .i64 14, .int .i64 (-78), .int .i64 49, .bool false] 26)
  have g2 := locE_new w2 [.int .i64 16, .int .i64 14, .int .i64 (-78), .int .i64 49, .bool false] 26
  have b02 := below_trans (below_trans b1 b2) ba
  go_wp2_with fail
  refine (HF.out _).mono ?_
  rintro z w3 ⟨rfl, b3⟩
  have bc := below_alloc w3 (.cells #[.int .i64 8, .int .i64 7, .int .i64 56, .int .i64 16, .int .i64 14, .int .i64 (-78), .int .i64 49, .bool false, .int .i64 2] 30)
  have g3 := (g2.later b3).later bc
  have f3 := locE_new w3 [.int .i64 8, .int .i64 7, .int .i64 56, .int .i64 16, .int .i64 14, .int .i64 (-78), .int .i64 49, .bool false, .int .i64 2] 30
  have b03 := below_trans (below_trans b02 b3) bc
  clear b1 b2 ba b02 b3 bc g2 HS HG HF
  go_wp2_with fail
  refine (HB.out _).mono ?_
  rintro z w4 ⟨rfl, b4⟩
  have g4 := g3.later b4
  have f4 := f3.later b4
  have b04 := below_trans b03 b4
  have x0 := g4.cell 0 rfl; have x1 := g4.cell 1 rfl; have x2 := g4.cell 2 rfl; have x3 := g4.cell 3 rfl; have x4 := g4.cell 4 rfl; have y0 := f4.cell 0 rfl; have y1 := f4.cell 1 rfl; have y2 := f4.cell 2 rfl; have y3 := f4.cell 3 rfl; have y4 := f4.cell 4 rfl; have y5 := f4.cell 5 rfl; have y6 := f4.cell 6 rfl; have y7 := f4.cell 7 rfl; have y8 := f4.cell 8 rfl
  generalize w2.heap.size = p at *
  generalize w3.heap.size = q at *
  clear g3 f3 b03 b4 g4 f4
  go_wp2
  go_ret
  exact ⟨rfl, b04⟩

set_option maxRecDepth 100000 in
set_option maxHeartbeats 3200000 in
theorem codecSizes_6 (w : World) : Calls Tryd.prog 3 #[.int .i64 6] w fun z w' => z = .returned (.bool true) ∧ Below w.heap.size w w' := by
  have HS : Hid (∀ w1, Calls Tryd.prog 5 #[.int .i64 6] w1 fun z w' => z = .returned (.tuple #[.int .i64 4, .int .i64 0]) ∧ Below w1.heap.size w1 w') := fun w1 => size_6 w1
  have HG : Hid (∀ w1, Calls Tryd.prog 6 #[.int .i64 6] w1 fun z w' => z = .returned (.tuple #[.agg #[.int .i64 2, .int .i64 24, .int .i64 (-151), .int .i64 103, .bool false], .int .i64 0]) ∧ Below w1.heap.size w1 w') := fun w1 => cgrid_6 w1
  have HF : Hid (∀ w1, Calls Tryd.prog 7 #[.int .i64 6] w1 fun z w' => z = .returned (.tuple #[.agg #[.int .i64 4, .int .i64 8, .int .i64 23, .int .i64 2, .int .i64 24, .int .i64 (-151), .int .i64 103, .bool false, .int .i64 3], .bool true]) ∧ Below w1.heap.size w1 w') := fun w1 => format_6 w1
  have HB : Hid (∀ w1, Calls Tryd.prog 8 #[] w1 fun z w' => z = .returned (.bool true) ∧ Below w1.heap.size w1 w') := codecBegun_any
  go_enter Tryd.func3, Tryd.ntmps3
  go_wp2_with fail
  refine (HS.out _).mono ?_
  rintro z w1 ⟨rfl, b1⟩
  go_wp2_with fail
  refine (HG.out _).mono ?_
  rintro z w2 ⟨rfl, b2⟩
  have ba := below_alloc w2 (.cells #[.int .i64 2, .int .i64 24, .int .i64 (-151), .int .i64 103, .bool false] 26)
  have g2 := locE_new w2 [.int .i64 2, .int .i64 24, .int .i64 (-151), .int .i64 103, .bool false] 26
  have b02 := below_trans (below_trans b1 b2) ba
  go_wp2_with fail
  refine (HF.out _).mono ?_
  rintro z w3 ⟨rfl, b3⟩
  have bc := below_alloc w3 (.cells #[.int .i64 4, .int .i64 8, .int .i64 23, .int .i64 2, .int .i64 24, .int .i64 (-151), .int .i64 103, .bool false, .int .i64 3] 30)
  have g3 := (g2.later b3).later bc
  have f3 := locE_new w3 [.int .i64 4, .int .i64 8, .int .i64 23, .int .i64 2, .int .i64 24, .int .i64 (-151), .int .i64 103, .bool false, .int .i64 3] 30
  have b03 := below_trans (below_trans b02 b3) bc
  clear b1 b2 ba b02 b3 bc g2 HS HG HF
  go_wp2_with fail
  refine (HB.out _).mono ?_
  rintro z w4 ⟨rfl, b4⟩
  have g4 := g3.later b4
  have f4 := f3.later b4
  have b04 := below_trans b03 b4
  have x0 := g4.cell 0 rfl; have x1 := g4.cell 1 rfl; have x2 := g4.cell 2 rfl; have x3 := g4.cell 3 rfl; have x4 := g4.cell 4 rfl; have y0 := f4.cell 0 rfl; have y1 := f4.cell 1 rfl; have y2 := f4.cell 2 rfl; have y3 := f4.cell 3 rfl; have y4 := f4.cell 4 rfl; have y5 := f4.cell 5 rfl; have y6 := f4.cell 6 rfl; have y7 := f4.cell 7 rfl; have y8 := f4.cell 8 rfl
  generalize w2.heap.size = p at *
  generalize w3.heap.size = q at *
  clear g3 f3 b03 b4 g4 f4
  go_wp2
  go_ret
  exact ⟨rfl, b04⟩

set_option maxRecDepth 100000 in
set_option maxHeartbeats 3200000 in
theorem codecSizes_7 (w : World) : Calls Tryd.prog 3 #[.int .i64 7] w fun z w' => z = .returned (.bool true) ∧ Below w.heap.size w w' := by
  have HS : Hid (∀ w1, Calls Tryd.prog 5 #[.int .i64 7] w1 fun z w' => z = .returned (.tuple #[.int .i64 8, .int .i64 0]) ∧ Below w1.heap.size w1 w') := fun w1 => size_7 w1
  have HG : Hid (∀ w1, Calls Tryd.prog 6 #[.int .i64 7] w1 fun z w' => z = .returned (.tuple #[.agg #[.int .i64 2, .int .i64 56, .int .i64 (-183), .int .i64 71, .bool false], .int .i64 0]) ∧ Below w1.heap.size w1 w') := fun w1 => cgrid_7 w1
  have HF : Hid (∀ w1, Calls Tryd.prog 7 #[.int .i64 7] w1 fun z w' => z = .returned (.tuple #[.agg #[.int .i64 8, .int .i64 8, .int .i64 55, .int .i64 2, .int .i64 56, .int .i64 (-183), .int .i64 71, .bool false, .int .i64 3], .bool true]) ∧ Below w1.heap.size w1 w') := fun w1 => format_7 w1
  have HB : Hid (∀ w1, Calls Tryd.prog 8 #[] w1 fun z w' => z = .returned (.bool true) ∧ Below w1.heap.size w1 w') := codecBegun_any
  go_enter Tryd.func3, Tryd.ntmps3
  go_wp2_with fail
  refine (HS.out _).mono ?_
  rintro z w1 ⟨rfl, b1⟩
  go_wp2_with fail
  refine (HG.out _).mono ?_
  rintro z w2 ⟨rfl, b2⟩
  have ba := below_alloc w2 (.cells #[.int .i64 2, .int .i64 56, .int .i64 (-183), .int .i64 71, .bool false] 26)
  have g2 := locE_new w2 [.int .i64 2, .int .i64 56, .int .i64 (-183), .int .i64 71, .bool false] 26
  have b02 := below_trans (below_trans b1 b2) ba
  go_wp2_with fail
  refine (HF.out _).mono ?_
  rintro z w3 ⟨rfl, b3⟩
  have bc := below_alloc w3 (.cells #[.int .i64 8, .int .i64 8, .int .i64 55, .int .i64 2, .int .i64 56, .int .i64 (-183), .int .i64 71, .bool false, .int .i64 3] 30)
  have g3 := (g2.later b3).later bc
  have f3 := locE_new w3 [.int .i64 8, .int .i64 8, .int .i64 55, .int .i64 2, .int .i64 56, .int .i64 (-183), .int .i64 71, .bool false, .int .i64 3] 30
  have b03 := below_trans (below_trans b02 b3) bc
  clear b1 b2 ba b02 b3 bc g2 HS HG HF
  go_wp2_with fail
  refine (HB.out _).mono ?_
  rintro z w4 ⟨rfl, b4⟩
  have g4 := g3.later b4
  have f4 := f3.later b4
  have b04 := below_trans b03 b4
  have x0 := g4.cell 0 rfl; have x1 := g4.cell 1 rfl; have x2 := g4.cell 2 rfl; have x3 := g4.cell 3 rfl; have x4 := g4.cell 4 rfl; have y0 := f4.cell 0 rfl; have y1 := f4.cell 1 rfl; have y2 := f4.cell 2 rfl; have y3 := f4.cell 3 rfl; have y4 := f4.cell 4 rfl; have y5 := f4.cell 5 rfl; have y6 := f4.cell 6 rfl; have y7 := f4.cell 7 rfl; have y8 := f4.cell 8 rfl
  generalize w2.heap.size = p at *
  generalize w3.heap.size = q at *
  clear g3 f3 b03 b4 g4 f4
  go_wp2
  go_ret
  exact ⟨rfl, b04⟩

set_option maxRecDepth 100000 in
set_option maxHeartbeats 3200000 in
theorem codecSizes_8 (w : World) : Calls Tryd.prog 3 #[.int .i64 8] w fun z w' => z = .returned (.bool true) ∧ Below w.heap.size w w' := by
  have HS : Hid (∀ w1, Calls Tryd.prog 5 #[.int .i64 8] w1 fun z w' => z = .returned (.tuple #[.int .i64 8, .int .i64 0]) ∧ Below w1.heap.size w1 w') := fun w1 => size_8 w1
  have HG : Hid (∀ w1, Calls Tryd.prog 6 #[.int .i64 8] w1 fun z w' => z = .returned (.tuple #[.agg #[.int .i64 2, .int .i64 53, .int .i64 (-1076), .int .i64 970, .bool false], .int .i64 0]) ∧ Below w1.heap.size w1 w') := fun w1 => cgrid_8 w1
  have HF : Hid (∀ w1, Calls Tryd.prog 7 #[.int .i64 8] w1 fun z w' => z = .returned (.tuple #[.agg #[.int .i64 8, .int .i64 11, .int .i64 52, .int .i64 2, .int .i64 53, .int .i64 (-1076), .int .i64 970, .bool false, .int .i64 3], .bool true]) ∧ Below w1.heap.size w1 w') := fun w1 => format_8 w1
  have HB : Hid (∀ w1, Calls Tryd.prog 8 #[] w1 fun z w' => z = .returned (.bool true) ∧ Below w1.heap.size w1 w') := codecBegun_any
  go_enter Tryd.func3, Tryd.ntmps3
  go_wp2_with fail
  refine (HS.out _).mono ?_
  rintro z w1 ⟨rfl, b1⟩
  go_wp2_with fail
  refine (HG.out _).mono ?_
  rintro z w2 ⟨rfl, b2⟩
  have ba := below_alloc w2 (.cells #[.int .i64 2, .int .i64 53, .int .i64 (-1076), .int .i64 970, .bool false] 26)
  have g2 := locE_new w2 [.int .i64 2, .int .i64 53, .int .i64 (-1076), .int .i64 970, .bool false] 26
  have b02 := below_trans (below_trans b1 b2) ba
  go_wp2_with fail
  refine (HF.out _).mono ?_
  rintro z w3 ⟨rfl, b3⟩
  have bc := below_alloc w3 (.cells #[.int .i64 8, .int .i64 11, .int .i64 52, .int .i64 2, .int .i64 53, .int .i64 (-1076), .int .i64 970, .bool false, .int .i64 3] 30)
  have g3 := (g2.later b3).later bc
  have f3 := locE_new w3 [.int .i64 8, .int .i64 11, .int .i64 52, .int .i64 2, .int .i64 53, .int .i64 (-1076), .int .i64 970, .bool false, .int .i64 3] 30
  have b03 := below_trans (below_trans b02 b3) bc
  clear b1 b2 ba b02 b3 bc g2 HS HG HF
  go_wp2_with fail
  refine (HB.out _).mono ?_
  rintro z w4 ⟨rfl, b4⟩
  have g4 := g3.later b4
  have f4 := f3.later b4
  have b04 := below_trans b03 b4
  have x0 := g4.cell 0 rfl; have x1 := g4.cell 1 rfl; have x2 := g4.cell 2 rfl; have x3 := g4.cell 3 rfl; have x4 := g4.cell 4 rfl; have y0 := f4.cell 0 rfl; have y1 := f4.cell 1 rfl; have y2 := f4.cell 2 rfl; have y3 := f4.cell 3 rfl; have y4 := f4.cell 4 rfl; have y5 := f4.cell 5 rfl; have y6 := f4.cell 6 rfl; have y7 := f4.cell 7 rfl; have y8 := f4.cell 8 rfl
  generalize w2.heap.size = p at *
  generalize w3.heap.size = q at *
  clear g3 f3 b03 b4 g4 f4
  go_wp2
  go_ret
  exact ⟨rfl, b04⟩

theorem codecSizes_walk (n : Int) (w : World) : Calls Tryd.prog 3 #[.int .i64 n] w fun z w' => z = .returned (.bool true) ∧ Below w.heap.size w w' := by
  by_cases hf : famC n = 0
  · exact codecSizes_none n w hf
  · obtain ⟨h1, h2, h3⟩ := famC_in hf
    obtain ⟨k, rfl⟩ : ∃ k : Nat, n = (k : Int) := ⟨n.toNat, h3.symm⟩
    rw [Int.toNat_natCast] at h1 h2
    rcases eight ⟨h1, h2⟩ with rfl | rfl | rfl | rfl | rfl | rfl | rfl | rfl
    · exact codecSizes_1 w
    · exact codecSizes_2 w
    · exact codecSizes_3 w
    · exact codecSizes_4 w
    · exact codecSizes_5 w
    · exact codecSizes_6 w
    · exact codecSizes_7 w
    · exact codecSizes_8 w
end Go.Proofs.YtgbccbmflokooaaDoor

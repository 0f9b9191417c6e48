/-
  Texts laid together: Co4, Cr2, Ce2, Ef1.
-/
import Derived.Deep.RegionWith
import Derived.Laws.OwnMore
import Derived.Deep.AppendLies
import Derived.Deep.DeepCutAuto
import Derived.Deep.CutBlock
import Derived.Test.YtnhackdjplppjaaGreatDoorAt07
set_option maxRecDepth 100000
namespace Go.Proofs.YtnhackdjplppjaaGreatDoor
open Go.RowKit
set_option maxHeartbeats 1600000 in
theorem cgrid_none (n : Int) (w : World) (h : famC n = 0) : Calls Tryz.prog 50 #[.int .i64 n] w fun z w' => z = .returned (.tuple #[.agg #[.int .i64 0, .int .i64 0, .int .i64 0, .int .i64 0, .bool false], .int .i64 6]) ∧ Below w.heap.size w w' := by
 have HL : Hid (∀ w1, Calls Tryz.prog 97 #[.int .i64 n] w1 fun z w' => z = .returned (.tuple #[.agg #[.int .i64 0, .int .i64 0, .int .i64 0, .int .i64 0, .bool false, .int .i64 0, .int .i64 0, .int .i64 0, .nilFunc], .int .i64 6]) ∧ Below w1.heap.size w1 w') := fun w1 => layoutOf_none n w1 h
 have hsf := hsf_z
 have hsn := hsn_z
 have l0 := locE_new w [.int .i64 0, .int .i64 0, .int .i64 0, .int .i64 0, .bool false] 56
 have b0 := below_alloc w (.cells #[.int .i64 0, .int .i64 0, .int .i64 0, .int .i64 0, .bool false] 56)
 go_enter Tryz.func50, Tryz.ntmps50
 go_wp2_with fail
 refine (HL.out _).mono ?_
 rintro z w2 ⟨rfl, b2⟩
 have l3 := (l0.later b2).later (below_alloc w2 (.cells #[.int .i64 0, .int .i64 0, .int .i64 0, .int .i64 0, .bool false, .int .i64 0, .int .i64 0, .int .i64 0, .nilFunc] 144))
 have cR : LocE ((((((w2.alloc (.cells #[.int .i64 0, .int .i64 0, .int .i64 0, .int .i64 0, .bool false, .int .i64 0, .int .i64 0, .int .i64 0, .nilFunc] 144)).setCell ⟨w.heap.size, 0, none⟩ (.int .i64 0)).setCell ⟨w.heap.size, 1, none⟩ (.int .i64 0)).setCell ⟨w.heap.size, 2, none⟩ (.int .i64 0)).setCell ⟨w.heap.size, 3, none⟩ (.int .i64 0)).setCell ⟨w.heap.size, 4, none⟩ (.bool false)) w.heap.size 56 [.int .i64 0, .int .i64 0, .int .i64 0, .int .i64 0, .bool false] := (((((l3.set 0 (.int .i64 0)).set 1 (.int .i64 0)).set 2 (.int .i64 0)).set 3 (.int .i64 0)).set 4 (.bool false))
 have bR := (((((but_set (w2.alloc (.cells #[.int .i64 0, .int .i64 0, .int .i64 0, .int .i64 0, .bool false, .int .i64 0, .int .i64 0, .int .i64 0, .nilFunc] 144)) w.heap.size 0 (.int .i64 0)).trans (but_set _ w.heap.size 1 (.int .i64 0))).trans (but_set _ w.heap.size 2 (.int .i64 0))).trans (but_set _ w.heap.size 3 (.int .i64 0))).trans (but_set _ w.heap.size 4 (.bool false))).below (below_trans (below_trans b0 b2) (below_alloc w2 (.cells #[.int .i64 0, .int .i64 0, .int .i64 0, .int .i64 0, .bool false, .int .i64 0, .int .i64 0, .int .i64 0, .nilFunc] 144))) (Nat.le_refl _)
 have hl := run_loadVar_mid (P := Tryz.prog) _ w.heap.size 0 56 [.int .i64 0, .int .i64 0, .int .i64 0, .int .i64 0, .bool false] _ cR.range Tryz.underlying56 rfl (by kernel_rfl)
 have HH : Hid (_ ∧ _) := ⟨hl, bR⟩
 have x0 := l3.cell 0 rfl
 have f0 := l3.free 0
 have x1 := l3.cell 1 rfl
 have f1 := l3.free 1
 have x2 := l3.cell 2 rfl
 have f2 := l3.free 2
 have x3 := l3.cell 3 rfl
 have f3 := l3.free 3
 have x4 := l3.cell 4 rfl
 have f4 := l3.free 4
 have hne : w2.heap.size ≠ w.heap.size := Nat.ne_of_gt (l0.later b2).lt
 clear hl bR cR l0 l3 b0 b2 HL
 go_wp2
 obtain ⟨hl, bR⟩ := HH.out
 exact bodyPost_ret (results_two Tryz.results50 rfl rfl hl) rfl ⟨rfl, bR⟩
set_option maxHeartbeats 1600000 in
theorem cgrid_1 (w : World) : Calls Tryz.prog 50 #[.int .i64 1] w fun z w' => z = .returned (.tuple #[.agg #[.int .i64 2, .int .i64 24, .int .i64 (-149), .int .i64 104, .bool true], .int .i64 0]) ∧ Below w.heap.size w w' := by
 have HL : Hid (∀ w1, Calls Tryz.prog 97 #[.int .i64 1] w1 fun z w' => z = .returned (.tuple #[.agg #[.int .i64 2, .int .i64 24, .int .i64 (-149), .int .i64 104, .bool true, .int .i64 4, .int .i64 8, .int .i64 1, .func (.func 200) #[] #[]], .int .i64 0]) ∧ Below w1.heap.size w1 w') := fun w1 => layoutOf_1 w1
 have hsf := hsf_z
 have hsn := hsn_z
 have l0 := locE_new w [.int .i64 0, .int .i64 0, .int .i64 0, .int .i64 0, .bool false] 56
 have b0 := below_alloc w (.cells #[.int .i64 0, .int .i64 0, .int .i64 0, .int .i64 0, .bool false] 56)
 go_enter Tryz.func50, Tryz.ntmps50
 go_wp2_with fail
 refine (HL.out _).mono ?_
 rintro z w2 ⟨rfl, b2⟩
 have l3 := (l0.later b2).later (below_alloc w2 (.cells #[.int .i64 2, .int .i64 24, .int .i64 (-149), .int .i64 104, .bool true, .int .i64 4, .int .i64 8, .int .i64 1, .func (.func 200) #[] #[]] 144))
 have cR : LocE ((((((w2.alloc (.cells #[.int .i64 2, .int .i64 24, .int .i64 (-149), .int .i64 104, .bool true, .int .i64 4, .int .i64 8, .int .i64 1, .func (.func 200) #[] #[]] 144)).setCell ⟨w.heap.size, 0, none⟩ (.int .i64 2)).setCell ⟨w.heap.size, 1, none⟩ (.int .i64 24)).setCell ⟨w.heap.size, 2, none⟩ (.int .i64 (-149))).setCell ⟨w.heap.size, 3, none⟩ (.int .i64 104)).setCell ⟨w.heap.size, 4, none⟩ (.bool true)) w.heap.size 56 [.int .i64 2, .int .i64 24, .int .i64 (-149), .int .i64 104, .bool true] := (((((l3.set 0 (.int .i64 2)).set 1 (.int .i64 24)).set 2 (.int .i64 (-149))).set 3 (.int .i64 104)).set 4 (.bool true))
 have bR := (((((but_set (w2.alloc (.cells #[.int .i64 2, .int .i64 24, .int .i64 (-149), .int .i64 104, .bool true, .int .i64 4, .int .i64 8, .int .i64 1, .func (.func 200) #[] #[]] 144)) w.heap.size 0 (.int .i64 2)).trans (but_set _ w.heap.size 1 (.int .i64 24))).trans (but_set _ w.heap.size 2 (.int .i64 (-149)))).trans (but_set _ w.heap.size 3 (.int .i64 104))).trans (but_set _ w.heap.size 4 (.bool true))).below (below_trans (below_trans b0 b2) (below_alloc w2 (.cells #[.int .i64 2, .int .i64 24, .int .i64 (-149), .int .i64 104, .bool true, .int .i64 4, .int .i64 8, .int .i64 1, .func (.func 200) #[] #[]] 144))) (Nat.le_refl _)
 have hl := run_loadVar_mid (P := Tryz.prog) _ w.heap.size 0 56 [.int .i64 2, .int .i64 24, .int .i64 (-149), .int .i64 104, .bool true] _ cR.range Tryz.underlying56 rfl (by kernel_rfl)
 have HH : Hid (_ ∧ _) := ⟨hl, bR⟩
 have x0 := l3.cell 0 rfl
 have f0 := l3.free 0
 have x1 := l3.cell 1 rfl
 have f1 := l3.free 1
 have x2 := l3.cell 2 rfl
 have f2 := l3.free 2
 have x3 := l3.cell 3 rfl
 have f3 := l3.free 3
 have x4 := l3.cell 4 rfl
 have f4 := l3.free 4
 have hne : w2.heap.size ≠ w.heap.size := Nat.ne_of_gt (l0.later b2).lt
 clear hl bR cR l0 l3 b0 b2 HL
 go_wp2
 obtain ⟨hl, bR⟩ := HH.out
 exact bodyPost_ret (results_two Tryz.results50 rfl rfl hl) rfl ⟨rfl, bR⟩
set_option maxHeartbeats 1600000 in
theorem cgrid_2 (w : World) : Calls Tryz.prog 50 #[.int .i64 2] w fun z w' => z = .returned (.tuple #[.agg #[.int .i64 2, .int .i64 53, .int .i64 (-1074), .int .i64 971, .bool true], .int .i64 0]) ∧ Below w.heap.size w w' := by
 have HL : Hid (∀ w1, Calls Tryz.prog 97 #[.int .i64 2] w1 fun z w' => z = .returned (.tuple #[.agg #[.int .i64 2, .int .i64 53, .int .i64 (-1074), .int .i64 971, .bool true, .int .i64 8, .int .i64 11, .int .i64 1, .func (.func 200) #[] #[]], .int .i64 0]) ∧ Below w1.heap.size w1 w') := fun w1 => layoutOf_2 w1
 have hsf := hsf_z
 have hsn := hsn_z
 have l0 := locE_new w [.int .i64 0, .int .i64 0, .int .i64 0, .int .i64 0, .bool false] 56
 have b0 := below_alloc w (.cells #[.int .i64 0, .int .i64 0, .int .i64 0, .int .i64 0, .bool false] 56)
 go_enter Tryz.func50, Tryz.ntmps50
 go_wp2_with fail
 refine (HL.out _).mono ?_
 rintro z w2 ⟨rfl, b2⟩
 have l3 := (l0.later b2).later (below_alloc w2 (.cells #[.int .i64 2, .int .i64 53, .int .i64 (-1074), .int .i64 971, .bool true, .int .i64 8, .int .i64 11, .int .i64 1, .func (.func 200) #[] #[]] 144))
 have cR : LocE ((((((w2.alloc (.cells #[.int .i64 2, .int .i64 53, .int .i64 (-1074), .int .i64 971, .bool true, .int .i64 8, .int .i64 11, .int .i64 1, .func (.func 200) #[] #[]] 144)).setCell ⟨w.heap.size, 0, none⟩ (.int .i64 2)).setCell ⟨w.heap.size, 1, none⟩ (.int .i64 53)).setCell ⟨w.heap.size, 2, none⟩ (.int .i64 (-1074))).setCell ⟨w.heap.size, 3, none⟩ (.int .i64 971)).setCell ⟨w.heap.size, 4, none⟩ (.bool true)) w.heap.size 56 [.int .i64 2, .int .i64 53, .int .i64 (-1074), .int .i64 971, .bool true] := (((((l3.set 0 (.int .i64 2)).set 1 (.int .i64 53)).set 2 (.int .i64 (-1074))).set 3 (.int .i64 971)).set 4 (.bool true))
 have bR := (((((but_set (w2.alloc (.cells #[.int .i64 2, .int .i64 53, .int .i64 (-1074), .int .i64 971, .bool true, .int .i64 8, .int .i64 11, .int .i64 1, .func (.func 200) #[] #[]] 144)) w.heap.size 0 (.int .i64 2)).trans (but_set _ w.heap.size 1 (.int .i64 53))).trans (but_set _ w.heap.size 2 (.int .i64 (-1074)))).trans (but_set _ w.heap.size 3 (.int .i64 971))).trans (but_set _ w.heap.size 4 (.bool true))).below (below_trans (below_trans b0 b2) (below_alloc w2 (.cells #[.int .i64 2, .int .i64 53, .int .i64 (-1074), .int .i64 971, .bool true, .int .i64 8, .int .i64 11, .int .i64 1, .func (.func 200) #[] #[]] 144))) (Nat.le_refl _)
 have hl := run_loadVar_mid (P := Tryz.prog) _ w.heap.size 0 56 [.int .i64 2, .int .i64 53, .int .i64 (-1074), .int .i64 971, .bool true] _ cR.range Tryz.underlying56 rfl (by kernel_rfl)
 have HH : Hid (_ ∧ _) := ⟨hl, bR⟩
 have x0 := l3.cell 0 rfl
 have f0 := l3.free 0
 have x1 := l3.cell 1 rfl
 have f1 := l3.free 1
 have x2 := l3.cell 2 rfl
 have f2 := l3.free 2
 have x3 := l3.cell 3 rfl
 have f3 := l3.free 3
 have x4 := l3.cell 4 rfl
 have f4 := l3.free 4
 have hne : w2.heap.size ≠ w.heap.size := Nat.ne_of_gt (l0.later b2).lt
 clear hl bR cR l0 l3 b0 b2 HL
 go_wp2
 obtain ⟨hl, bR⟩ := HH.out
 exact bodyPost_ret (results_two Tryz.results50 rfl rfl hl) rfl ⟨rfl, bR⟩
set_option maxHeartbeats 1600000 in
theorem cgrid_3 (w : World) : Calls Tryz.prog 50 #[.int .i64 3] w fun z w' => z = .returned (.tuple #[.agg #[.int .i64 2, .int .i64 64, .int .i64 (-16445), .int .i64 16320, .bool true], .int .i64 0]) ∧ Below w.heap.size w w' := by
 have HL : Hid (∀ w1, Calls Tryz.prog 97 #[.int .i64 3] w1 fun z w' => z = .returned (.tuple #[.agg #[.int .i64 2, .int .i64 64, .int .i64 (-16445), .int .i64 16320, .bool true, .int .i64 10, .int .i64 15, .int .i64 1, .func (.func 201) #[] #[]], .int .i64 0]) ∧ Below w1.heap.size w1 w') := fun w1 => layoutOf_3 w1
 have hsf := hsf_z
 have hsn := hsn_z
 have l0 := locE_new w [.int .i64 0, .int .i64 0, .int .i64 0, .int .i64 0, .bool false] 56
 have b0 := below_alloc w (.cells #[.int .i64 0, .int .i64 0, .int .i64 0, .int .i64 0, .bool false] 56)
 go_enter Tryz.func50, Tryz.ntmps50
 go_wp2_with fail
 refine (HL.out _).mono ?_
 rintro z w2 ⟨rfl, b2⟩
 have l3 := (l0.later b2).later (below_alloc w2 (.cells #[.int .i64 2, .int .i64 64, .int .i64 (-16445), .int .i64 16320, .bool true, .int .i64 10, .int .i64 15, .int .i64 1, .func (.func 201) #[] #[]] 144))
 have cR : LocE ((((((w2.alloc (.cells #[.int .i64 2, .int .i64 64, .int .i64 (-16445), .int .i64 16320, .bool true, .int .i64 10, .int .i64 15, .int .i64 1, .func (.func 201) #[] #[]] 144)).setCell ⟨w.heap.size, 0, none⟩ (.int .i64 2)).setCell ⟨w.heap.size, 1, none⟩ (.int .i64 64)).setCell ⟨w.heap.size, 2, none⟩ (.int .i64 (-16445))).setCell ⟨w.heap.size, 3, none⟩ (.int .i64 16320)).setCell ⟨w.heap.size, 4, none⟩ (.bool true)) w.heap.size 56 [.int .i64 2, .int .i64 64, .int .i64 (-16445), .int .i64 16320, .bool true] := (((((l3.set 0 (.int .i64 2)).set 1 (.int .i64 64)).set 2 (.int .i64 (-16445))).set 3 (.int .i64 16320)).set 4 (.bool true))
 have bR := (((((but_set (w2.alloc (.cells #[.int .i64 2, .int .i64 64, .int .i64 (-16445), .int .i64 16320, .bool true, .int .i64 10, .int .i64 15, .int .i64 1, .func (.func 201) #[] #[]] 144)) w.heap.size 0 (.int .i64 2)).trans (but_set _ w.heap.size 1 (.int .i64 64))).trans (but_set _ w.heap.size 2 (.int .i64 (-16445)))).trans (but_set _ w.heap.size 3 (.int .i64 16320))).trans (but_set _ w.heap.size 4 (.bool true))).below (below_trans (below_trans b0 b2) (below_alloc w2 (.cells #[.int .i64 2, .int .i64 64, .int .i64 (-16445), .int .i64 16320, .bool true, .int .i64 10, .int .i64 15, .int .i64 1, .func (.func 201) #[] #[]] 144))) (Nat.le_refl _)
 have hl := run_loadVar_mid (P := Tryz.prog) _ w.heap.size 0 56 [.int .i64 2, .int .i64 64, .int .i64 (-16445), .int .i64 16320, .bool true] _ cR.range Tryz.underlying56 rfl (by kernel_rfl)
 have HH : Hid (_ ∧ _) := ⟨hl, bR⟩
 have x0 := l3.cell 0 rfl
 have f0 := l3.free 0
 have x1 := l3.cell 1 rfl
 have f1 := l3.free 1
 have x2 := l3.cell 2 rfl
 have f2 := l3.free 2
 have x3 := l3.cell 3 rfl
 have f3 := l3.free 3
 have x4 := l3.cell 4 rfl
 have f4 := l3.free 4
 have hne : w2.heap.size ≠ w.heap.size := Nat.ne_of_gt (l0.later b2).lt
 clear hl bR cR l0 l3 b0 b2 HL
 go_wp2
 obtain ⟨hl, bR⟩ := HH.out
 exact bodyPost_ret (results_two Tryz.results50 rfl rfl hl) rfl ⟨rfl, bR⟩
set_option maxHeartbeats 1600000 in
theorem cgrid_4 (w : World) : Calls Tryz.prog 50 #[.int .i64 4] w fun z w' => z = .returned (.tuple #[.agg #[.int .i64 16, .int .i64 6, .int .i64 (-70), .int .i64 57, .bool false], .int .i64 0]) ∧ Below w.heap.size w w' := by
 have HL : Hid (∀ w1, Calls Tryz.prog 97 #[.int .i64 4] w1 fun z w' => z = .returned (.tuple #[.agg #[.int .i64 16, .int .i64 6, .int .i64 (-70), .int .i64 57, .bool false, .int .i64 4, .int .i64 7, .int .i64 2, .func (.func 200) #[] #[]], .int .i64 0]) ∧ Below w1.heap.size w1 w') := fun w1 => layoutOf_4 w1
 have hsf := hsf_z
 have hsn := hsn_z
 have l0 := locE_new w [.int .i64 0, .int .i64 0, .int .i64 0, .int .i64 0, .bool false] 56
 have b0 := below_alloc w (.cells #[.int .i64 0, .int .i64 0, .int .i64 0, .int .i64 0, .bool false] 56)
 go_enter Tryz.func50, Tryz.ntmps50
 go_wp2_with fail
 refine (HL.out _).mono ?_
 rintro z w2 ⟨rfl, b2⟩
 have l3 := (l0.later b2).later (below_alloc w2 (.cells #[.int .i64 16, .int .i64 6, .int .i64 (-70), .int .i64 57, .bool false, .int .i64 4, .int .i64 7, .int .i64 2, .func (.func 200) #[] #[]] 144))
 have cR : LocE ((((((w2.alloc (.cells #[.int .i64 16, .int .i64 6, .int .i64 (-70), .int .i64 57, .bool false, .int .i64 4, .int .i64 7, .int .i64 2, .func (.func 200) #[] #[]] 144)).setCell ⟨w.heap.size, 0, none⟩ (.int .i64 16)).setCell ⟨w.heap.size, 1, none⟩ (.int .i64 6)).setCell ⟨w.heap.size, 2, none⟩ (.int .i64 (-70))).setCell ⟨w.heap.size, 3, none⟩ (.int .i64 57)).setCell ⟨w.heap.size, 4, none⟩ (.bool false)) w.heap.size 56 [.int .i64 16, .int .i64 6, .int .i64 (-70), .int .i64 57, .bool false] := (((((l3.set 0 (.int .i64 16)).set 1 (.int .i64 6)).set 2 (.int .i64 (-70))).set 3 (.int .i64 57)).set 4 (.bool false))
 have bR := (((((but_set (w2.alloc (.cells #[.int .i64 16, .int .i64 6, .int .i64 (-70), .int .i64 57, .bool false, .int .i64 4, .int .i64 7, .int .i64 2, .func (.func 200) #[] #[]] 144)) w.heap.size 0 (.int .i64 16)).trans (but_set _ w.heap.size 1 (.int .i64 6))).trans (but_set _ w.heap.size 2 (.int .i64 (-70)))).trans (but_set _ w.heap.size 3 (.int .i64 57))).trans (but_set _ w.heap.size 4 (.bool false))).below (below_trans (below_trans b0 b2) (below_alloc w2 (.cells #[.int .i64 16, .int .i64 6, .int .i64 (-70), .int .i64 57, .bool false, .int .i64 4, .int .i64 7, .int .i64 2, .func (.func 200) #[] #[]] 144))) (Nat.le_refl _)
 have hl := run_loadVar_mid (P := Tryz.prog) _ w.heap.size 0 56 [.int .i64 16, .int .i64 6, .int .i64 (-70), .int .i64 57, .bool false] _ cR.range Tryz.underlying56 rfl (by kernel_rfl)
 have HH : Hid (_ ∧ _) := ⟨hl, bR⟩
 have x0 := l3.cell 0 rfl
 have f0 := l3.free 0
 have x1 := l3.cell 1 rfl
 have f1 := l3.free 1
 have x2 := l3.cell 2 rfl
 have f2 := l3.free 2
 have x3 := l3.cell 3 rfl
 have f3 := l3.free 3
 have x4 := l3.cell 4 rfl
 have f4 := l3.free 4
 have hne : w2.heap.size ≠ w.heap.size := Nat.ne_of_gt (l0.later b2).lt
 clear hl bR cR l0 l3 b0 b2 HL
 go_wp2
 obtain ⟨hl, bR⟩ := HH.out
 exact bodyPost_ret (results_two Tryz.results50 rfl rfl hl) rfl ⟨rfl, bR⟩
set_option maxHeartbeats 1600000 in
theorem cgrid_5 (w : World) : Calls Tryz.prog 50 #[.int .i64 5] w fun z w' => z = .returned (.tuple #[.agg #[.int .i64 16, .int .i64 14, .int .i64 (-78), .int .i64 49, .bool false], .int .i64 0]) ∧ Below w.heap.size w w' := by
 have HL : Hid (∀ w1, Calls Tryz.prog 97 #[.int .i64 5] w1 fun z w' => z = .returned (.tuple #[.agg #[.int .i64 16, .int .i64 14, .int .i64 (-78), .int .i64 49, .bool false, .int .i64 8, .int .i64 7, .int .i64 2, .func (.func 200) #[] #[]], .int .i64 0]) ∧ Below w1.heap.size w1 w') := fun w1 => layoutOf_5 w1
 have hsf := hsf_z
 have hsn := hsn_z
 have l0 := locE_new w [.int .i64 0, .int .i64 0, .int .i64 0, .int .i64 0, .bool false] 56
 have b0 := below_alloc w (.cells #[.int .i64 0, .int .i64 0, .int .i64 0, .int .i64 0, .bool false] 56)
 go_enter Tryz.func50, Tryz.ntmps50
 go_wp2_with fail
 refine (HL.out _).mono ?_
 rintro z w2 ⟨rfl, b2⟩
 have l3 := (l0.later b2).later (below_alloc w2 (.cells #[.int .i64 16, .int .i64 14, .int .i64 (-78), .int .i64 49, .bool false, .int .i64 8, .int .i64 7, .int .i64 2, .func (.func 200) #[] #[]] 144))
 have cR : LocE ((((((w2.alloc (.cells #[.int .i64 16, .int .i64 14, .int .i64 (-78), .int .i64 49, .bool false, .int .i64 8, .int .i64 7, .int .i64 2, .func (.func 200) #[] #[]] 144)).setCell ⟨w.heap.size, 0, none⟩ (.int .i64 16)).setCell ⟨w.heap.size, 1, none⟩ (.int .i64 14)).setCell ⟨w.heap.size, 2, none⟩ (.int .i64 (-78))).setCell ⟨w.heap.size, 3, none⟩ (.int .i64 49)).setCell ⟨w.heap.size, 4, none⟩ (.bool false)) w.heap.size 56 [.int .i64 16, .int .i64 14, .int .i64 (-78), .int .i64 49, .bool false] := (((((l3.set 0 (.int .i64 16)).set 1 (.int .i64 14)).set 2 (.int .i64 (-78))).set 3 (.int .i64 49)).set 4 (.bool false))
 have bR := (((((but_set (w2.alloc (.cells #[.int .i64 16, .int .i64 14, .int .i64 (-78), .int .i64 49, .bool false, .int .i64 8, .int .i64 7, .int .i64 2, .func (.func 200) #[] #[]] 144)) w.heap.size 0 (.int .i64 16)).trans (but_set _ w.heap.size 1 (.int .i64 14))).trans (but_set _ w.heap.size 2 (.int .i64 (-78)))).trans (but_set _ w.heap.size 3 (.int .i64 49))).trans (but_set _ w.heap.size 4 (.bool false))).below (below_trans (below_trans b0 b2) (below_alloc w2 (.cells #[.int .i64 16, .int .i64 14, .int .i64 (-78), .int .i64 49, .bool false, .int .i64 8, .int .i64 7, .int .i64 2, .func (.func 200) #[] #[]] 144))) (Nat.le_refl _)
 have hl := run_loadVar_mid (P := Tryz.prog) _ w.heap.size 0 56 [.int .i64 16, .int .i64 14, .int .i64 (-78), .int .i64 49, .bool false] _ cR.range Tryz.underlying56 rfl (by kernel_rfl)
 have HH : Hid (_ ∧ _) := ⟨hl, bR⟩
 have x0 := l3.cell 0 rfl
 have f0 := l3.free 0
 have x1 := l3.cell 1 rfl
 have f1 := l3.free 1
 have x2 := l3.cell 2 rfl
 have f2 := l3.free 2
 have x3 := l3.cell 3 rfl
 have f3 := l3.free 3
 have x4 := l3.cell 4 rfl
 have f4 := l3.free 4
 have hne : w2.heap.size ≠ w.heap.size := Nat.ne_of_gt (l0.later b2).lt
 clear hl bR cR l0 l3 b0 b2 HL
 go_wp2
 obtain ⟨hl, bR⟩ := HH.out
 exact bodyPost_ret (results_two Tryz.results50 rfl rfl hl) rfl ⟨rfl, bR⟩
set_option maxHeartbeats 1600000 in
theorem cgrid_6 (w : World) : Calls Tryz.prog 50 #[.int .i64 6] w fun z w' => z = .returned (.tuple #[.agg #[.int .i64 2, .int .i64 24, .int .i64 (-151), .int .i64 103, .bool false], .int .i64 0]) ∧ Below w.heap.size w w' := by
 have HL : Hid (∀ w1, Calls Tryz.prog 97 #[.int .i64 6] w1 fun z w' => z = .returned (.tuple #[.agg #[.int .i64 2, .int .i64 24, .int .i64 (-151), .int .i64 103, .bool false, .int .i64 4, .int .i64 8, .int .i64 3, .func (.func 203) #[] #[]], .int .i64 0]) ∧ Below w1.heap.size w1 w') := fun w1 => layoutOf_6 w1
 have hsf := hsf_z
 have hsn := hsn_z
 have l0 := locE_new w [.int .i64 0, .int .i64 0, .int .i64 0, .int .i64 0, .bool false] 56
 have b0 := below_alloc w (.cells #[.int .i64 0, .int .i64 0, .int .i64 0, .int .i64 0, .bool false] 56)
 go_enter Tryz.func50, Tryz.ntmps50
 go_wp2_with fail
 refine (HL.out _).mono ?_
 rintro z w2 ⟨rfl, b2⟩
 have l3 := (l0.later b2).later (below_alloc w2 (.cells #[.int .i64 2, .int .i64 24, .int .i64 (-151), .int .i64 103, .bool false, .int .i64 4, .int .i64 8, .int .i64 3, .func (.func 203) #[] #[]] 144))
 have cR : LocE ((((((w2.alloc (.cells #[.int .i64 2, .int .i64 24, .int .i64 (-151), .int .i64 103, .bool false, .int .i64 4, .int .i64 8, .int .i64 3, .func (.func 203) #[] #[]] 144)).setCell ⟨w.heap.size, 0, none⟩ (.int .i64 2)).setCell ⟨w.heap.size, 1, none⟩ (.int .i64 24)).setCell ⟨w.heap.size, 2, none⟩ (.int .i64 (-151))).setCell ⟨w.heap.size, 3, none⟩ (.int .i64 103)).setCell ⟨w.heap.size, 4, none⟩ (.bool false)) w.heap.size 56 [.int .i64 2, .int .i64 24, .int .i64 (-151), .int .i64 103, .bool false] := (((((l3.set 0 (.int .i64 2)).set 1 (.int .i64 24)).set 2 (.int .i64 (-151))).set 3 (.int .i64 103)).set 4 (.bool false))
 have bR := (((((but_set (w2.alloc (.cells #[.int .i64 2, .int .i64 24, .int .i64 (-151), .int .i64 103, .bool false, .int .i64 4, .int .i64 8, .int .i64 3, .func (.func 203) #[] #[]] 144)) w.heap.size 0 (.int .i64 2)).trans (but_set _ w.heap.size 1 (.int .i64 24))).trans (but_set _ w.heap.size 2 (.int .i64 (-151)))).trans (but_set _ w.heap.size 3 (.int .i64 103))).trans (but_set _ w.heap.size 4 (.bool false))).below (below_trans (below_trans b0 b2) (below_alloc w2 (.cells #[.int .i64 2, .int .i64 24, .int .i64 (-151), .int .i64 103, .bool false, .int .i64 4, .int .i64 8, .int .i64 3, .func (.func 203) #[] #[]] 144))) (Nat.le_refl _)
 have hl := run_loadVar_mid (P := Tryz.prog) _ w.heap.size 0 56 [.int .i64 2, .int .i64 24, .int .i64 (-151), .int .i64 103, .bool false] _ cR.range Tryz.underlying56 rfl (by kernel_rfl)
 have HH : Hid (_ ∧ _) := ⟨hl, bR⟩
 have x0 := l3.cell 0 rfl
 have f0 := l3.free 0
 have x1 := l3.cell 1 rfl
 have f1 := l3.free 1
 have x2 := l3.cell 2 rfl
 have f2 := l3.free 2
 have x3 := l3.cell 3 rfl
 have f3 := l3.free 3
 have x4 := l3.cell 4 rfl
 have f4 := l3.free 4
 have hne : w2.heap.size ≠ w.heap.size := Nat.ne_of_gt (l0.later b2).lt
 clear hl bR cR l0 l3 b0 b2 HL
 go_wp2
 obtain ⟨hl, bR⟩ := HH.out
 exact bodyPost_ret (results_two Tryz.results50 rfl rfl hl) rfl ⟨rfl, bR⟩
set_option maxHeartbeats 1600000 in
theorem cgrid_7 (w : World) : Calls Tryz.prog 50 #[.int .i64 7] w fun z w' => z = .returned (.tuple #[.agg #[.int .i64 2, .int .i64 56, .int .i64 (-183), .int .i64 71, .bool false], .int .i64 0]) ∧ Below w.heap.size w w' := by
 have HL : Hid (∀ w1, Calls Tryz.prog 97 #[.int .i64 7] w1 fun z w' => z = .returned (.tuple #[.agg #[.int .i64 2, .int .i64 56, .int .i64 (-183), .int .i64 71, .bool false, .int .i64 8, .int .i64 8, .int .i64 3, .func (.func 203) #[] #[]], .int .i64 0]) ∧ Below w1.heap.size w1 w') := fun w1 => layoutOf_7 w1
 have hsf := hsf_z
 have hsn := hsn_z
 have l0 := locE_new w [.int .i64 0, .int .i64 0, .int .i64 0, .int .i64 0, .bool false] 56
 have b0 := below_alloc w (.cells #[.int .i64 0, .int .i64 0, .int .i64 0, .int .i64 0, .bool false] 56)
 go_enter Tryz.func50, Tryz.ntmps50
 go_wp2_with fail
 refine (HL.out _).mono ?_
 rintro z w2 ⟨rfl, b2⟩
 have l3 := (l0.later b2).later (below_alloc w2 (.cells #[.int .i64 2, .int .i64 56, .int .i64 (-183), .int .i64 71, .bool false, .int .i64 8, .int .i64 8, .int .i64 3, .func (.func 203) #[] #[]] 144))
 have cR : LocE ((((((w2.alloc (.cells #[.int .i64 2, .int .i64 56, .int .i64 (-183), .int .i64 71, .bool false, .int .i64 8, .int .i64 8, .int .i64 3, .func (.func 203) #[] #[]] 144)).setCell ⟨w.heap.size, 0, none⟩ (.int .i64 2)).setCell ⟨w.heap.size, 1, none⟩ (.int .i64 56)).setCell ⟨w.heap.size, 2, none⟩ (.int .i64 (-183))).setCell ⟨w.heap.size, 3, none⟩ (.int .i64 71)).setCell ⟨w.heap.size, 4, none⟩ (.bool false)) w.heap.size 56 [.int .i64 2, .int .i64 56, .int .i64 (-183), .int .i64 71, .bool false] := (((((l3.set 0 (.int .i64 2)).set 1 (.int .i64 56)).set 2 (.int .i64 (-183))).set 3 (.int .i64 71)).set 4 (.bool false))
 have bR := (((((but_set (w2.alloc (.cells #[.int .i64 2, .int .i64 56, .int .i64 (-183), .int .i64 71, .bool false, .int .i64 8, .int .i64 8, .int .i64 3, .func (.func 203) #[] #[]] 144)) w.heap.size 0 (.int .i64 2)).trans (but_set _ w.heap.size 1 (.int .i64 56))).trans (but_set _ w.heap.size 2 (.int .i64 (-183)))).trans (but_set _ w.heap.size 3 (.int .i64 71))).trans (but_set _ w.heap.size 4 (.bool false))).below (below_trans (below_trans b0 b2) (below_alloc w2 (.cells #[.int .i64 2, .int .i64 56, .int .i64 (-183), .int .i64 71, .bool false, .int .i64 8, .int .i64 8, .int .i64 3, .func (.func 203) #[] #[]] 144))) (Nat.le_refl _)
 have hl := run_loadVar_mid (P := Tryz.prog) _ w.heap.size 0 56 [.int .i64 2, .int .i64 56, .int .i64 (-183), .int .i64 71, .bool false] _ cR.range Tryz.underlying56 rfl (by kernel_rfl)
 have HH : Hid (_ ∧ _) := ⟨hl, bR⟩
 have x0 := l3.cell 0 rfl
 have f0 := l3.free 0
 have x1 := l3.cell 1 rfl
 have f1 := l3.free 1
 have x2 := l3.cell 2 rfl
 have f2 := l3.free 2
 have x3 := l3.cell 3 rfl
 have f3 := l3.free 3
 have x4 := l3.cell 4 rfl
 have f4 := l3.free 4
 have hne : w2.heap.size ≠ w.heap.size := Nat.ne_of_gt (l0.later b2).lt
 clear hl bR cR l0 l3 b0 b2 HL
 go_wp2
 obtain ⟨hl, bR⟩ := HH.out
 exact bodyPost_ret (results_two Tryz.results50 rfl rfl hl) rfl ⟨rfl, bR⟩
set_option maxHeartbeats 1600000 in
theorem cgrid_8 (w : World) : Calls Tryz.prog 50 #[.int .i64 8] w fun z w' => z = .returned (.tuple #[.agg #[.int .i64 2, .int .i64 53, .int .i64 (-1076), .int .i64 970, .bool false], .int .i64 0]) ∧ Below w.heap.size w w' := by
 have HL : Hid (∀ w1, Calls Tryz.prog 97 #[.int .i64 8] w1 fun z w' => z = .returned (.tuple #[.agg #[.int .i64 2, .int .i64 53, .int .i64 (-1076), .int .i64 970, .bool false, .int .i64 8, .int .i64 11, .int .i64 3, .func (.func 203) #[] #[]], .int .i64 0]) ∧ Below w1.heap.size w1 w') := fun w1 => layoutOf_8 w1
 have hsf := hsf_z
 have hsn := hsn_z
 have l0 := locE_new w [.int .i64 0, .int .i64 0, .int .i64 0, .int .i64 0, .bool false] 56
 have b0 := below_alloc w (.cells #[.int .i64 0, .int .i64 0, .int .i64 0, .int .i64 0, .bool false] 56)
 go_enter Tryz.func50, Tryz.ntmps50
 go_wp2_with fail
 refine (HL.out _).mono ?_
 rintro z w2 ⟨rfl, b2⟩
 have l3 := (l0.later b2).later (below_alloc w2 (.cells #[.int .i64 2, .int .i64 53, .int .i64 (-1076), .int .i64 970, .bool false, .int .i64 8, .int .i64 11, .int .i64 3, .func (.func 203) #[] #[]] 144))
 have cR : LocE ((((((w2.alloc (.cells #[.int .i64 2, .int .i64 53, .int .i64 (-1076), .int .i64 970, .bool false, .int .i64 8, .int .i64 11, .int .i64 3, .func (.func 203) #[] #[]] 144)).setCell ⟨w.heap.size, 0, none⟩ (.int .i64 2)).setCell ⟨w.heap.size, 1, none⟩ (.int .i64 53)).setCell ⟨w.heap.size, 2, none⟩ (.int .i64 (-1076))).setCell ⟨w.heap.size, 3, none⟩ (.int .i64 970)).setCell ⟨w.heap.size, 4, none⟩ (.bool false)) w.heap.size 56 [.int .i64 2, .int .i64 53, .int .i64 (-1076), .int .i64 970, .bool false] := (((((l3.set 0 (.int .i64 2)).set 1 (.int .i64 53)).set 2 (.int .i64 (-1076))).set 3 (.int .i64 970)).set 4 (.bool false))
 have bR := (((((but_set (w2.alloc (.cells #[.int .i64 2, .int .i64 53, .int .i64 (-1076), .int .i64 970, .bool false, .int .i64 8, .int .i64 11, .int .i64 3, .func (.func 203) #[] #[]] 144)) w.heap.size 0 (.int .i64 2)).trans (but_set _ w.heap.size 1 (.int .i64 53))).trans (but_set _ w.heap.size 2 (.int .i64 (-1076)))).trans (but_set _ w.heap.size 3 (.int .i64 970))).trans (but_set _ w.heap.size 4 (.bool false))).below (below_trans (below_trans b0 b2) (below_alloc w2 (.cells #[.int .i64 2, .int .i64 53, .int .i64 (-1076), .int .i64 970, .bool false, .int .i64 8, .int .i64 11, .int .i64 3, .func (.func 203) #[] #[]] 144))) (Nat.le_refl _)
 have hl := run_loadVar_mid (P := Tryz.prog) _ w.heap.size 0 56 [.int .i64 2, .int .i64 53, .int .i64 (-1076), .int .i64 970, .bool false] _ cR.range Tryz.underlying56 rfl (by kernel_rfl)
 have HH : Hid (_ ∧ _) := ⟨hl, bR⟩
 have x0 := l3.cell 0 rfl
 have f0 := l3.free 0
 have x1 := l3.cell 1 rfl
 have f1 := l3.free 1
 have x2 := l3.cell 2 rfl
 have f2 := l3.free 2
 have x3 := l3.cell 3 rfl
 have f3 := l3.free 3
 have x4 := l3.cell 4 rfl
 have f4 := l3.free 4
 have hne : w2.heap.size ≠ w.heap.size := Nat.ne_of_gt (l0.later b2).lt
 clear hl bR cR l0 l3 b0 b2 HL
 go_wp2
 obtain ⟨hl, bR⟩ := HH.out
 exact bodyPost_ret (results_two Tryz.results50 rfl rfl hl) rfl ⟨rfl, bR⟩
end Go.Proofs.YtnhackdjplppjaaGreatDoor
namespace Go.Proofs.YtnhackdjplppjaaGreatDoor
open Go.RowKit
def OwnB (w : World) (base : Nat) (v : Value) (bs : List Bool) : Prop := w.ownsRow base 4 1 v bs.length (bs.map Value.bool)
theorem Tryz.infoB : (Tryz.prog.info? 4).map (fun i => (i.zero, i.size, i.bytes)) = some (some (.bool false), 1, 1) := by kernel_rfl
theorem OwnB.later {w w' : World} {base : Nat} {v : Value} {bs : List Bool} (h : OwnB w base v bs) (hb : Below w.heap.size w w') : OwnB w' base v bs := by
 obtain ⟨hl, h2⟩ := h
 refine ⟨hl, ?_⟩
 rcases h2 with h2 | ⟨g, cap, cur, hv, hbg, hh, r⟩
 ·exact .inl h2
 ·refine .inr ⟨g, cap, cur, hv, hbg, ?_, r⟩
  rw [hb.block g ?_]
  ·exact hh
  ·rw [Array.getElem?_eq_some_iff] at hh
   exact hh.1
end Go.Proofs.YtnhackdjplppjaaGreatDoor
namespace Go.Proofs.YtnhackdjplppjaaGreatDoor
open Go.RowKit
theorem OwnB.store {w : World} {base g n cap : Nat} {bs : List Bool} (h : OwnB w base (.slice (some ⟨g, 0, none⟩) n cap) bs) (hn : n = bs.length) (j : Nat) (x : Bool) :
  OwnB (w.setCell ⟨g, j, none⟩ (.bool x)) base (.slice (some ⟨g, 0, none⟩) n cap) (bs.set j x) := by
 subst hn
 have := (World.ownsRow.stored h j (.bool x)).1
 unfold OwnB
 rw [List.length_set, List.map_set]
 exact this
theorem OwnB.free {w : World} {base g n cap : Nat} {bs : List Bool} (h : OwnB w base (.slice (some ⟨g, 0, none⟩) n cap) bs) (hn : n = bs.length) (j : Nat) : w.frozen? ⟨g, j, none⟩ = false := by
 subst hn
 exact World.ownsRow.frozenAt h j
theorem OwnB.block {w : World} {base g n cap : Nat} {bs : List Bool} (h : OwnB w base (.slice (some ⟨g, 0, none⟩) n cap) bs) (hn : n = bs.length) : base ≤ g ∧ g < w.heap.size := by
 subst hn
 exact World.ownsRow.lt h g rfl
theorem OwnB.cell {w : World} {base g n cap : Nat} {bs : List Bool} (h : OwnB w base (.slice (some ⟨g, 0, none⟩) n cap) bs) (hn : n = bs.length) (j : Nat) (hj : j < bs.length) : w.cell? ⟨g, j, none⟩ = some (.bool (bs.getD j false)) := by
 subst hn
 have hc := World.ownsRow.cellAt h j (by omega)
 rw [hc, List.getElem?_map, List.getElem?_eq_getElem hj]
 simp [List.getD_eq_getElem?_getD, hj]
end Go.Proofs.YtnhackdjplppjaaGreatDoor
namespace Go.Proofs.YtnhackdjplppjaaGreatDoor
open Go.RowKit
theorem step_run_append {P : Program} {ops : Array Oper} {o : Oper} {a : Act} {w : World} {K : Act → World → Prop} {Q : Exit → Act → World → Prop} {E : Prop}
  (hg : o.guard = none) (s x : Operand) (t : TypeId) (hop : o.op = Op.call { callee := Callee.builtin Builtin.append, args := #[s, x], argTypes := #[t, t] })
  (v u v' : Value) (w' : World) (hs : a.eval s = v) (hx : a.eval x = u) (hr : (Builtin.append_ #[t, t] o.type #[v, u]).run P w = .ok v' w') (hK : K (a.put o.dst v') w') :
  if Region.wanted o (yielded ops a.tmps) = true then Oper.wp P o a w K Q else E := by
 have hw : Region.wanted o (yielded ops a.tmps) = true := by simp [Region.wanted, hg]
 rw [if_pos hw]
 unfold Oper.wp
 simp [execOp, hop, resolve, invoke, builtin, hs, hx, hr, Result.andThen]
 exact hK
end Go.Proofs.YtnhackdjplppjaaGreatDoor

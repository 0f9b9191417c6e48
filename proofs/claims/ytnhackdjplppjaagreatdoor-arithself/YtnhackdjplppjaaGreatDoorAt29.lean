/-
  Texts laid together: Co4, Cr1, Cr2, Ce2, Ef1, Cr3, Ce3, Ce4.
-/
import Derived.Deep.RegionWith
import Derived.Laws.OwnMore
import Derived.Deep.AppendLies
import Derived.Deep.DeepCutAuto
import Derived.Deep.CutBlock
import Derived.Test.YtnhackdjplppjaaGreatDoorAt18
set_option maxRecDepth 100000
namespace Go.Proofs.YtnhackdjplppjaaGreatDoor
open Go.RowKit
set_option maxHeartbeats 1600000 in
theorem cgrid_none (n : Int) (w : World) (h : famC n = 0) : Calls Tryz.prog 50 #[.int .i64 n] w fun z w' => z = .returned (.tuple #[.agg #[.int .i64 0, .int .i64 0, .int .i64 0, .int .i64 0, .bool false], .int .i64 6]) ∧ Below w.heap.size w w' := by
 have HL : Hid (∀ w1, Calls Tryz.prog 97 #[.int .i64 n] w1 fun z w' => z = .returned (.tuple #[.agg #[.int .i64 0, .int .i64 0, .int .i64 0, .int .i64 0, .bool false, .int .i64 0, .int .i64 0, .int .i64 0, .nilFunc], .int .i64 6]) ∧ Below w1.heap.size w1 w') := fun w1 => layoutOf_none n w1 h
 have hsf := hsf_z
 have hsn := hsn_z
 have l0 := locE_new w [.int .i64 0, .int .i64 0, .int .i64 0, .int .i64 0, .bool false] 56
 have b0 := below_alloc w (.cells #[.int .i64 0, .int .i64 0, .int .i64 0, .int .i64 0, .bool false] 56)
 go_enter Tryz.func50, Tryz.ntmps50
 go_wp2_with fail
 refine (HL.out _).mono ?_
 rintro z w2 ⟨rfl, b2⟩
 have l3 := (l0.later b2).later (below_alloc w2 (.cells #[.int .i64 0, .int .i64 0, .int .i64 0, .int .i64 0, .bool false, .int .i64 0, .int .i64 0, .int .i64 0, .nilFunc] 144))
 have cR : LocE ((((((w2.alloc (.cells #[.int .i64 0, .int .i64 0, .int .i64 0, .int .i64 0, .bool false, .int .i64 0, .int .i64 0, .int .i64 0, .nilFunc] 144)).setCell ⟨w.heap.size, 0, none⟩ (.int .i64 0)).setCell ⟨w.heap.size, 1, none⟩ (.int .i64 0)).setCell ⟨w.heap.size, 2, none⟩ (.int .i64 0)).setCell ⟨w.heap.size, 3, none⟩ (.int .i64 0)).setCell ⟨w.heap.size, 4, none⟩ (.bool false)) w.heap.size 56 [.int .i64 0, .int .i64 0, .int .i64 0, .int .i64 0, .bool false] := (((((l3.set 0 (.int .i64 0)).set 1 (.int .i64 0)).set 2 (.int .i64 0)).set 3 (.int .i64 0)).set 4 (.bool false))
 have bR := (((((but_set (w2.alloc (.cells #[.int .i64 0, .int .i64 0, .int .i64 0, .int .i64 0, .bool false, .int .i64 0, .int .i64 0, .int .i64 0, .nilFunc] 144)) w.heap.size 0 (.int .i64 0)).trans (but_set _ w.heap.size 1 (.int .i64 0))).trans (but_set _ w.heap.size 2 (.int .i64 0))).trans (but_set _ w.heap.size 3 (.int .i64 0))).trans (but_set _ w.heap.size 4 (.bool false))).below (below_trans (below_trans b0 b2) (below_alloc w2 (.cells #[.int .i64 0, .int .i64 0, .int .i64 0, .int .i64 0, .bool false, .int .i64 0, .int .i64 0, .int .i64 0, .nilFunc] 144))) (Nat.le_refl _)
 have hl := run_loadVar_mid (P := Tryz.prog) _ w.heap.size 0 56 [.int .i64 0, .int .i64 0, .int .i64 0, .int .i64 0, .bool false] _ cR.range Tryz.underlying56 rfl (by kernel_rfl)
 have HH : Hid (_ ∧ _) := ⟨hl, bR⟩
 have x0 := l3.cell 0 rfl
 have f0 := l3.free 0
 have x1 := l3.cell 1 rfl
 have f1 := l3.free 1
 have x2 := l3.cell 2 rfl
 have f2 := l3.free 2
 have x3 := l3.cell 3 rfl
 have f3 := l3.free 3
 have x4 := l3.cell 4 rfl
 have f4 := l3.free 4
 have hne : w2.heap.size ≠ w.heap.size := Nat.ne_of_gt (l0.later b2).lt
 clear hl bR cR l0 l3 b0 b2 HL
 go_wp2
 obtain ⟨hl, bR⟩ := HH.out
 exact bodyPost_ret (results_two Tryz.results50 rfl rfl hl) rfl ⟨rfl, bR⟩
set_option maxHeartbeats 1600000 in
theorem cgrid_1 (w : World) : Calls Tryz.prog 50 #[.int .i64 1] w fun z w' => z = .returned (.tuple #[.agg #[.int .i64 2, .int .i64 24, .int .i64 (-149), .int .i64 104, .bool true], .int .i64 0]) ∧ Below w.heap.size w w' := by
 have HL : Hid (∀ w1, Calls Tryz.prog 97 #[.int .i64 1] w1 fun z w' => z = .returned (.tuple #[.agg #[.int .i64 2, .int .i64 24, .int .i64 (-149), .int .i64 104, .bool true, .int .i64 4, .int .i64 8, .int .i64 1, .func (.func 200) #[] #[]], .int .i64 0]) ∧ Below w1.heap.size w1 w') := fun w1 => layoutOf_1 w1
 have hsf := hsf_z
 have hsn := hsn_z
 have l0 := locE_new w [.int .i64 0, .int .i64 0, .int .i64 0, .int .i64 0, .bool false] 56
 have b0 := below_alloc w (.cells #[.int .i64 0, .int .i64 0, .int .i64 0, .int .i64 0, .bool false] 56)
 go_enter Tryz.func50, Tryz.ntmps50
 go_wp2_with fail
 refine (HL.out _).mono ?_
 rintro z w2 ⟨rfl, b2⟩
 have l3 := (l0.later b2).later (below_alloc w2 (.cells #[.int .i64 2, .int .i64 24, .int .i64 (-149), .int .i64 104, .bool true, .int .i64 4, .int .i64 8, .int .i64 1, .func (.func 200) #[] #[]] 144))
 have cR : LocE ((((((w2.alloc (.cells #[.int .i64 2, .int .i64 24, .int .i64 (-149), .int .i64 104, .bool true, .int .i64 4, .int .i64 8, .int .i64 1, .func (.func 200) #[] #[]] 144)).setCell ⟨w.heap.size, 0, none⟩ (.int .i64 2)).setCell ⟨w.heap.size, 1, none⟩ (.int .i64 24)).setCell ⟨w.heap.size, 2, none⟩ (.int .i64 (-149))).setCell ⟨w.heap.size, 3, none⟩ (.int .i64 104)).setCell ⟨w.heap.size, 4, none⟩ (.bool true)) w.heap.size 56 [.int .i64 2, .int .i64 24, .int .i64 (-149), .int .i64 104, .bool true] := (((((l3.set 0 (.int .i64 2)).set 1 (.int .i64 24)).set 2 (.int .i64 (-149))).set 3 (.int .i64 104)).set 4 (.bool true))
 have bR := (((((but_set (w2.alloc (.cells #[.int .i64 2, .int .i64 24, .int .i64 (-149), .int .i64 104, .bool true, .int .i64 4, .int .i64 8, .int .i64 1, .func (.func 200) #[] #[]] 144)) w.heap.size 0 (.int .i64 2)).trans (but_set _ w.heap.size 1 (.int .i64 24))).trans (but_set _ w.heap.size 2 (.int .i64 (-149)))).trans (but_set _ w.heap.size 3 (.int .i64 104))).trans (but_set _ w.heap.size 4 (.bool true))).below (below_trans (below_trans b0 b2) (below_alloc w2 (.cells #[.int .i64 2, .int .i64 24, .int .i64 (-149), .int .i64 104, .bool true, .int .i64 4, .int .i64 8, .int .i64 1, .func (.func 200) #[] #[]] 144))) (Nat.le_refl _)
 have hl := run_loadVar_mid (P := Tryz.prog) _ w.heap.size 0 56 [.int .i64 2, .int .i64 24, .int .i64 (-149), .int .i64 104, .bool true] _ cR.range Tryz.underlying56 rfl (by kernel_rfl)
 have HH : Hid (_ ∧ _) := ⟨hl, bR⟩
 have x0 := l3.cell 0 rfl
 have f0 := l3.free 0
 have x1 := l3.cell 1 rfl
 have f1 := l3.free 1
 have x2 := l3.cell 2 rfl
 have f2 := l3.free 2
 have x3 := l3.cell 3 rfl
 have f3 := l3.free 3
 have x4 := l3.cell 4 rfl
 have f4 := l3.free 4
 have hne : w2.heap.size ≠ w.heap.size := Nat.ne_of_gt (l0.later b2).lt
 clear hl bR cR l0 l3 b0 b2 HL
 go_wp2
 obtain ⟨hl, bR⟩ := HH.out
 exact bodyPost_ret (results_two Tryz.results50 rfl rfl hl) rfl ⟨rfl, bR⟩
set_option maxHeartbeats 1600000 in
theorem cgrid_2 (w : World) : Calls Tryz.prog 50 #[.int .i64 2] w fun z w' => z = .returned (.tuple #[.agg #[.int .i64 2, .int .i64 53, .int .i64 (-1074), .int .i64 971, .bool true], .int .i64 0]) ∧ Below w.heap.size w w' := by
 have HL : Hid (∀ w1, Calls Tryz.prog 97 #[.int .i64 2] w1 fun z w' => z = .returned (.tuple #[.agg #[.int .i64 2, .int .i64 53, .int .i64 (-1074), .int .i64 971, .bool true, .int .i64 8, .int .i64 11, .int .i64 1, .func (.func 200) #[] #[]], .int .i64 0]) ∧ Below w1.heap.size w1 w') := fun w1 => layoutOf_2 w1
 have hsf := hsf_z
 have hsn := hsn_z
 have l0 := locE_new w [.int .i64 0, .int .i64 0, .int .i64 0, .int .i64 0, .bool false] 56
 have b0 := below_alloc w (.cells #[.int .i64 0, .int .i64 0, .int .i64 0, .int .i64 0, .bool false] 56)
 go_enter Tryz.func50, Tryz.ntmps50
 go_wp2_with fail
 refine (HL.out _).mono ?_
 rintro z w2 ⟨rfl, b2⟩
 have l3 := (l0.later b2).later (below_alloc w2 (.cells #[.int .i64 2, .int .i64 53, .int .i64 (-1074), .int .i64 971, .bool true, .int .i64 8, .int .i64 11, .int .i64 1, .func (.func 200) #[] #[]] 144))
 have cR : LocE ((((((w2.alloc (.cells #[.int .i64 2, .int .i64 53, .int .i64 (-1074), .int .i64 971, .bool true, .int .i64 8, .int .i64 11, .int .i64 1, .func (.func 200) #[] #[]] 144)).setCell ⟨w.heap.size, 0, none⟩ (.int .i64 2)).setCell ⟨w.heap.size, 1, none⟩ (.int .i64 53)).setCell ⟨w.heap.size, 2, none⟩ (.int .i64 (-1074))).setCell ⟨w.heap.size, 3, none⟩ (.int .i64 971)).setCell ⟨w.heap.size, 4, none⟩ (.bool true)) w.heap.size 56 [.int .i64 2, .int .i64 53, .int .i64 (-1074), .int .i64 971, .bool true] := (((((l3.set 0 (.int .i64 2)).set 1 (.int .i64 53)).set 2 (.int .i64 (-1074))).set 3 (.int .i64 971)).set 4 (.bool true))
 have bR := (((((but_set (w2.alloc (.cells #[.int .i64 2, .int .i64 53, .int .i64 (-1074), .int .i64 971, .bool true, .int .i64 8, .int .i64 11, .int .i64 1, .func (.func 200) #[] #[]] 144)) w.heap.size 0 (.int .i64 2)).trans (but_set _ w.heap.size 1 (.int .i64 53))).trans (but_set _ w.heap.size 2 (.int .i64 (-1074)))).trans (but_set _ w.heap.size 3 (.int .i64 971))).trans (but_set _ w.heap.size 4 (.bool true))).below (below_trans (below_trans b0 b2) (below_alloc w2 (.cells #[.int .i64 2, .int .i64 53, .int .i64 (-1074), .int .i64 971, .bool true, .int .i64 8, .int .i64 11, .int .i64 1, .func (.func 200) #[] #[]] 144))) (Nat.le_refl _)
 have hl := run_loadVar_mid (P := Tryz.prog) _ w.heap.size 0 56 [.int .i64 2, .int .i64 53, .int .i64 (-1074), .int .i64 971, .bool true] _ cR.range Tryz.underlying56 rfl (by kernel_rfl)
 have HH : Hid (_ ∧ _) := ⟨hl, bR⟩
 have x0 := l3.cell 0 rfl
 have f0 := l3.free 0
 have x1 := l3.cell 1 rfl
 have f1 := l3.free 1
 have x2 := l3.cell 2 rfl
 have f2 := l3.free 2
 have x3 := l3.cell 3 rfl
 have f3 := l3.free 3
 have x4 := l3.cell 4 rfl
 have f4 := l3.free 4
 have hne : w2.heap.size ≠ w.heap.size := Nat.ne_of_gt (l0.later b2).lt
 clear hl bR cR l0 l3 b0 b2 HL
 go_wp2
 obtain ⟨hl, bR⟩ := HH.out
 exact bodyPost_ret (results_two Tryz.results50 rfl rfl hl) rfl ⟨rfl, bR⟩
set_option maxHeartbeats 1600000 in
theorem cgrid_3 (w : World) : Calls Tryz.prog 50 #[.int .i64 3] w fun z w' => z = .returned (.tuple #[.agg #[.int .i64 2, .int .i64 64, .int .i64 (-16445), .int .i64 16320, .bool true], .int .i64 0]) ∧ Below w.heap.size w w' := by
 have HL : Hid (∀ w1, Calls Tryz.prog 97 #[.int .i64 3] w1 fun z w' => z = .returned (.tuple #[.agg #[.int .i64 2, .int .i64 64, .int .i64 (-16445), .int .i64 16320, .bool true, .int .i64 10, .int .i64 15, .int .i64 1, .func (.func 201) #[] #[]], .int .i64 0]) ∧ Below w1.heap.size w1 w') := fun w1 => layoutOf_3 w1
 have hsf := hsf_z
 have hsn := hsn_z
 have l0 := locE_new w [.int .i64 0, .int .i64 0, .int .i64 0, .int .i64 0, .bool false] 56
 have b0 := below_alloc w (.cells #[.int .i64 0, .int .i64 0, .int .i64 0, .int .i64 0, .bool false] 56)
 go_enter Tryz.func50, Tryz.ntmps50
 go_wp2_with fail
 refine (HL.out _).mono ?_
 rintro z w2 ⟨rfl, b2⟩
 have l3 := (l0.later b2).later (below_alloc w2 (.cells #[.int .i64 2, .int .i64 64, .int .i64 (-16445), .int .i64 16320, .bool true, .int .i64 10, .int .i64 15, .int .i64 1, .func (.func 201) #[] #[]] 144))
 have cR : LocE ((((((w2.alloc (.cells #[.int .i64 2, .int .i64 64, .int .i64 (-16445), .int .i64 16320, .bool true, .int .i64 10, .int .i64 15, .int .i64 1, .func (.func 201) #[] #[]] 144)).setCell ⟨w.heap.size, 0, none⟩ (.int .i64 2)).setCell ⟨w.heap.size, 1, none⟩ (.int .i64 64)).setCell ⟨w.heap.size, 2, none⟩ (.int .i64 (-16445))).setCell ⟨w.heap.size, 3, none⟩ (.int .i64 16320)).setCell ⟨w.heap.size, 4, none⟩ (.bool true)) w.heap.size 56 [.int .i64 2, .int .i64 64, .int .i64 (-16445), .int .i64 16320, .bool true] := (((((l3.set 0 (.int .i64 2)).set 1 (.int .i64 64)).set 2 (.int .i64 (-16445))).set 3 (.int .i64 16320)).set 4 (.bool true))
 have bR := (((((but_set (w2.alloc (.cells #[.int .i64 2, .int .i64 64, .int .i64 (-16445), .int .i64 16320, .bool true, .int .i64 10, .int .i64 15, .int .i64 1, .func (.func 201) #[] #[]] 144)) w.heap.size 0 (.int .i64 2)).trans (but_set _ w.heap.size 1 (.int .i64 64))).trans (but_set _ w.heap.size 2 (.int .i64 (-16445)))).trans (but_set _ w.heap.size 3 (.int .i64 16320))).trans (but_set _ w.heap.size 4 (.bool true))).below (below_trans (below_trans b0 b2) (below_alloc w2 (.cells #[.int .i64 2, .int .i64 64, .int .i64 (-16445), .int .i64 16320, .bool true, .int .i64 10, .int .i64 15, .int .i64 1, .func (.func 201) #[] #[]] 144))) (Nat.le_refl _)
 have hl := run_loadVar_mid (P := Tryz.prog) _ w.heap.size 0 56 [.int .i64 2, .int .i64 64, .int .i64 (-16445), .int .i64 16320, .bool true] _ cR.range Tryz.underlying56 rfl (by kernel_rfl)
 have HH : Hid (_ ∧ _) := ⟨hl, bR⟩
 have x0 := l3.cell 0 rfl
 have f0 := l3.free 0
 have x1 := l3.cell 1 rfl
 have f1 := l3.free 1
 have x2 := l3.cell 2 rfl
 have f2 := l3.free 2
 have x3 := l3.cell 3 rfl
 have f3 := l3.free 3
 have x4 := l3.cell 4 rfl
 have f4 := l3.free 4
 have hne : w2.heap.size ≠ w.heap.size := Nat.ne_of_gt (l0.later b2).lt
 clear hl bR cR l0 l3 b0 b2 HL
 go_wp2
 obtain ⟨hl, bR⟩ := HH.out
 exact bodyPost_ret (results_two Tryz.results50 rfl rfl hl) rfl ⟨rfl, bR⟩
set_option maxHeartbeats 1600000 in
theorem cgrid_4 (w : World) : Calls Tryz.prog 50 #[.int .i64 4] w fun z w' => z = .returned (.tuple #[.agg #[.int .i64 16, .int .i64 6, .int .i64 (-70), .int .i64 57, .bool false], .int .i64 0]) ∧ Below w.heap.size w w' := by
 have HL : Hid (∀ w1, Calls Tryz.prog 97 #[.int .i64 4] w1 fun z w' => z = .returned (.tuple #[.agg #[.int .i64 16, .int .i64 6, .int .i64 (-70), .int .i64 57, .bool false, .int .i64 4, .int .i64 7, .int .i64 2, .func (.func 200) #[] #[]], .int .i64 0]) ∧ Below w1.heap.size w1 w') := fun w1 => layoutOf_4 w1
 have hsf := hsf_z
 have hsn := hsn_z
 have l0 := locE_new w [.int .i64 0, .int .i64 0, .int .i64 0, .int .i64 0, .bool false] 56
 have b0 := below_alloc w (.cells #[.int .i64 0, .int .i64 0, .int .i64 0, .int .i64 0, .bool false] 56)
 go_enter Tryz.func50, Tryz.ntmps50
 go_wp2_with fail
 refine (HL.out _).mono ?_
 rintro z w2 ⟨rfl, b2⟩
 have l3 := (l0.later b2).later (below_alloc w2 (.cells #[.int .i64 16, .int .i64 6, .int .i64 (-70), .int .i64 57, .bool false, .int .i64 4, .int .i64 7, .int .i64 2, .func (.func 200) #[] #[]] 144))
 have cR : LocE ((((((w2.alloc (.cells #[.int .i64 16, .int .i64 6, .int .i64 (-70), .int .i64 57, .bool false, .int .i64 4, .int .i64 7, .int .i64 2, .func (.func 200) #[] #[]] 144)).setCell ⟨w.heap.size, 0, none⟩ (.int .i64 16)).setCell ⟨w.heap.size, 1, none⟩ (.int .i64 6)).setCell ⟨w.heap.size, 2, none⟩ (.int .i64 (-70))).setCell ⟨w.heap.size, 3, none⟩ (.int .i64 57)).setCell ⟨w.heap.size, 4, none⟩ (.bool false)) w.heap.size 56 [.int .i64 16, .int .i64 6, .int .i64 (-70), .int .i64 57, .bool false] := (((((l3.set 0 (.int .i64 16)).set 1 (.int .i64 6)).set 2 (.int .i64 (-70))).set 3 (.int .i64 57)).set 4 (.bool false))
 have bR := (((((but_set (w2.alloc (.cells #[.int .i64 16, .int .i64 6, .int .i64 (-70), .int .i64 57, .bool false, .int .i64 4, .int .i64 7, .int .i64 2, .func (.func 200) #[] #[]] 144)) w.heap.size 0 (.int .i64 16)).trans (but_set _ w.heap.size 1 (.int .i64 6))).trans (but_set _ w.heap.size 2 (.int .i64 (-70)))).trans (but_set _ w.heap.size 3 (.int .i64 57))).trans (but_set _ w.heap.size 4 (.bool false))).below (below_trans (below_trans b0 b2) (below_alloc w2 (.cells #[.int .i64 16, .int .i64 6, .int .i64 (-70), .int .i64 57, .bool false, .int .i64 4, .int .i64 7, .int .i64 2, .func (.func 200) #[] #[]] 144))) (Nat.le_refl _)
 have hl := run_loadVar_mid (P := Tryz.prog) _ w.heap.size 0 56 [.int .i64 16, .int .i64 6, .int .i64 (-70), .int .i64 57, .bool false] _ cR.range Tryz.underlying56 rfl (by kernel_rfl)
 have HH : Hid (_ ∧ _) := ⟨hl, bR⟩
 have x0 := l3.cell 0 rfl
 have f0 := l3.free 0
 have x1 := l3.cell 1 rfl
 have f1 := l3.free 1
 have x2 := l3.cell 2 rfl
 have f2 := l3.free 2
 have x3 := l3.cell 3 rfl
 have f3 := l3.free 3
 have x4 := l3.cell 4 rfl
 have f4 := l3.free 4
 have hne : w2.heap.size ≠ w.heap.size := Nat.ne_of_gt (l0.later b2).lt
 clear hl bR cR l0 l3 b0 b2 HL
 go_wp2
 obtain ⟨hl, bR⟩ := HH.out
 exact bodyPost_ret (results_two Tryz.results50 rfl rfl hl) rfl ⟨rfl, bR⟩
set_option maxHeartbeats 1600000 in
theorem cgrid_5 (w : World) : Calls Tryz.prog 50 #[.int .i64 5] w fun z w' => z = .returned (.tuple #[.agg #[.int .i64 16, .int .i64 14, .int .i64 (-78), .int .i64 49, .bool false], .int .i64 0]) ∧ Below w.heap.size w w' := by
 have HL : Hid (∀ w1, Calls Tryz.prog 97 #[.int .i64 5] w1 fun z w' => z = .returned (.tuple #[.agg #[.int .i64 16, .int .i64 14, .int .i64 (-78), .int .i64 49, .bool false, .int .i64 8, .int .i64 7, .int .i64 2, .func (.func 200) #[] #[]], .int .i64 0]) ∧ Below w1.heap.size w1 w') := fun w1 => layoutOf_5 w1
 have hsf := hsf_z
 have hsn := hsn_z
 have l0 := locE_new w [.int .i64 0, .int .i64 0, .int .i64 0, .int .i64 0, .bool false] 56
 have b0 := below_alloc w (.cells #[.int .i64 0, .int .i64 0, .int .i64 0, .int .i64 0, .bool false] 56)
 go_enter Tryz.func50, Tryz.ntmps50
 go_wp2_with fail
 refine (HL.out _).mono ?_
 rintro z w2 ⟨rfl, b2⟩
 have l3 := (l0.later b2).later (below_alloc w2 (.cells #[.int .i64 16, .int .i64 14, .int .i64 (-78), .int .i64 49, .bool false, .int .i64 8, .int .i64 7, .int .i64 2, .func (.func 200) #[] #[]] 144))
 have cR : LocE ((((((w2.alloc (.cells #[.int .i64 16, .int .i64 14, .int .i64 (-78), .int .i64 49, .bool false, .int .i64 8, .int .i64 7, .int .i64 2, .func (.func 200) #[] #[]] 144)).setCell ⟨w.heap.size, 0, none⟩ (.int .i64 16)).setCell ⟨w.heap.size, 1, none⟩ (.int .i64 14)).setCell ⟨w.heap.size, 2, none⟩ (.int .i64 (-78))).setCell ⟨w.heap.size, 3, none⟩ (.int .i64 49)).setCell ⟨w.heap.size, 4, none⟩ (.bool false)) w.heap.size 56 [.int .i64 16, .int .i64 14, .int .i64 (-78), .int .i64 49, .bool false] := (((((l3.set 0 (.int .i64 16)).set 1 (.int .i64 14)).set 2 (.int .i64 (-78))).set 3 (.int .i64 49)).set 4 (.bool false))
 have bR := (((((but_set (w2.alloc (.cells #[.int .i64 16, .int .i64 14, .int .i64 (-78), .int .i64 49, .bool false, .int .i64 8, .int .i64 7, .int .i64 2, .func (.func 200) #[] #[]] 144)) w.heap.size 0 (.int .i64 16)).trans (but_set _ w.heap.size 1 (.int .i64 14))).trans (but_set _ w.heap.size 2 (.int .i64 (-78)))).trans (but_set _ w.heap.size 3 (.int .i64 49))).trans (but_set _ w.heap.size 4 (.bool false))).below (below_trans (below_trans b0 b2) (below_alloc w2 (.cells #[.int .i64 16, .int .i64 14, .int .i64 (-78), .int .i64 49, .bool false, .int .i64 8, .int .i64 7, .int .i64 2, .func (.func 200) #[] #[]] 144))) (Nat.le_refl _)
 have hl := run_loadVar_mid (P := Tryz.prog) _ w.heap.size 0 56 [.int .i64 16, .int .i64 14, .int .i64 (-78), .int .i64 49, .bool false] _ cR.range Tryz.underlying56 rfl (by kernel_rfl)
 have HH : Hid (_ ∧ _) := ⟨hl, bR⟩
 have x0 := l3.cell 0 rfl
 have f0 := l3.free 0
 have x1 := l3.cell 1 rfl
 have f1 := l3.free 1
 have x2 := l3.cell 2 rfl
 have f2 := l3.free 2
 have x3 := l3.cell 3 rfl
 have f3 := l3.free 3
 have x4 := l3.cell 4 rfl
 have f4 := l3.free 4
 have hne : w2.heap.size ≠ w.heap.size := Nat.ne_of_gt (l0.later b2).lt
 clear hl bR cR l0 l3 b0 b2 HL
 go_wp2
 obtain ⟨hl, bR⟩ := HH.out
 exact bodyPost_ret (results_two Tryz.results50 rfl rfl hl) rfl ⟨rfl, bR⟩
set_option maxHeartbeats 1600000 in
theorem cgrid_6 (w : World) : Calls Tryz.prog 50 #[.int .i64 6] w fun z w' => z = .returned (.tuple #[.agg #[.int .i64 2, .int .i64 24, .int .i64 (-151), .int .i64 103, .bool false], .int .i64 0]) ∧ Below w.heap.size w w' := by
 have HL : Hid (∀ w1, Calls Tryz.prog 97 #[.int .i64 6] w1 fun z w' => z = .returned (.tuple #[.agg #[.int .i64 2, .int .i64 24, .int .i64 (-151), .int .i64 103, .bool false, .int .i64 4, .int .i64 8, .int .i64 3, .func (.func 203) #[] #[]], .int .i64 0]) ∧ Below w1.heap.size w1 w') := fun w1 => layoutOf_6 w1
 have hsf := hsf_z
 have hsn := hsn_z
 have l0 := locE_new w [.int .i64 0, .int .i64 0, .int .i64 0, .int .i64 0, .bool false] 56
 have b0 := below_alloc w (.cells #[.int .i64 0, .int .i64 0, .int .i64 0, .int .i64 0, .bool false] 56)
 go_enter Tryz.func50, Tryz.ntmps50
 go_wp2_with fail
 refine (HL.out _).mono ?_
 rintro z w2 ⟨rfl, b2⟩
 have l3 := (l0.later b2).later (below_alloc w2 (.cells #[.int .i64 2, .int .i64 24, .int .i64 (-151), .int .i64 103, .bool false, .int .i64 4, .int .i64 8, .int .i64 3, .func (.func 203) #[] #[]] 144))
 have cR : LocE ((((((w2.alloc (.cells #[.int .i64 2, .int .i64 24, .int .i64 (-151), .int .i64 103, .bool false, .int .i64 4, .int .i64 8, .int .i64 3, .func (.func 203) #[] #[]] 144)).setCell ⟨w.heap.size, 0, none⟩ (.int .i64 2)).setCell ⟨w.heap.size, 1, none⟩ (.int .i64 24)).setCell ⟨w.heap.size, 2, none⟩ (.int .i64 (-151))).setCell ⟨w.heap.size, 3, none⟩ (.int .i64 103)).setCell ⟨w.heap.size, 4, none⟩ (.bool false)) w.heap.size 56 [.int .i64 2, .int .i64 24, .int .i64 (-151), .int .i64 103, .bool false] := (((((l3.set 0 (.int .i64 2)).set 1 (.int .i64 24)).set 2 (.int .i64 (-151))).set 3 (.int .i64 103)).set 4 (.bool false))
 have bR := (((((but_set (w2.alloc (.cells #[.int .i64 2, .int .i64 24, .int .i64 (-151), .int .i64 103, .bool false, .int .i64 4, .int .i64 8, .int .i64 3, .func (.func 203) #[] #[]] 144)) w.heap.size 0 (.int .i64 2)).trans (but_set _ w.heap.size 1 (.int .i64 24))).trans (but_set _ w.heap.size 2 (.int .i64 (-151)))).trans (but_set _ w.heap.size 3 (.int .i64 103))).trans (but_set _ w.heap.size 4 (.bool false))).below (below_trans (below_trans b0 b2) (below_alloc w2 (.cells #[.int .i64 2, .int .i64 24, .int .i64 (-151), .int .i64 103, .bool false, .int .i64 4, .int .i64 8, .int .i64 3, .func (.func 203) #[] #[]] 144))) (Nat.le_refl _)
 have hl := run_loadVar_mid (P := Tryz.prog) _ w.heap.size 0 56 [.int .i64 2, .int .i64 24, .int .i64 (-151), .int .i64 103, .bool false] _ cR.range Tryz.underlying56 rfl (by kernel_rfl)
 have HH : Hid (_ ∧ _) := ⟨hl, bR⟩
 have x0 := l3.cell 0 rfl
 have f0 := l3.free 0
 have x1 := l3.cell 1 rfl
 have f1 := l3.free 1
 have x2 := l3.cell 2 rfl
 have f2 := l3.free 2
 have x3 := l3.cell 3 rfl
 have f3 := l3.free 3
 have x4 := l3.cell 4 rfl
 have f4 := l3.free 4
 have hne : w2.heap.size ≠ w.heap.size := Nat.ne_of_gt (l0.later b2).lt
 clear hl bR cR l0 l3 b0 b2 HL
 go_wp2
 obtain ⟨hl, bR⟩ := HH.out
 exact bodyPost_ret (results_two Tryz.results50 rfl rfl hl) rfl ⟨rfl, bR⟩
set_option maxHeartbeats 1600000 in
theorem cgrid_7 (w : World) : Calls Tryz.prog 50 #[.int .i64 7] w fun z w' => z = .returned (.tuple #[.agg #[.int .i64 2, .int .i64 56, .int .i64 (-183), .int .i64 71, .bool false], .int .i64 0]) ∧ Below w.heap.size w w' := by
 have HL : Hid (∀ w1, Calls Tryz.prog 97 #[.int .i64 7] w1 fun z w' => z = .returned (.tuple #[.agg #[.int .i64 2, .int .i64 56, .int .i64 (-183), .int .i64 71, .bool false, .int .i64 8, .int .i64 8, .int .i64 3, .func (.func 203) #[] #[]], .int .i64 0]) ∧ Below w1.heap.size w1 w') := fun w1 => layoutOf_7 w1
 have hsf := hsf_z
 have hsn := hsn_z
 have l0 := locE_new w [.int .i64 0, .int .i64 0, .int .i64 0, .int .i64 0, .bool false] 56
 have b0 := below_alloc w (.cells #[.int .i64 0, .int .i64 0, .int .i64 0, .int .i64 0, .bool false] 56)
 go_enter Tryz.func50, Tryz.ntmps50
 go_wp2_with fail
 refine (HL.out _).mono ?_
 rintro z w2 ⟨rfl, b2⟩
 have l3 := (l0.later b2).later (below_alloc w2 (.cells #[.int .i64 2, .int .i64 56, .int .i64 (-183), .int .i64 71, .bool false, .int .i64 8, .int .i64 8, .int .i64 3, .func (.func 203) #[] #[]] 144))
 have cR : LocE ((((((w2.alloc (.cells #[.int .i64 2, .int .i64 56, .int .i64 (-183), .int .i64 71, .bool false, .int .i64 8, .int .i64 8, .int .i64 3, .func (.func 203) #[] #[]] 144)).setCell ⟨w.heap.size, 0, none⟩ (.int .i64 2)).setCell ⟨w.heap.size, 1, none⟩ (.int .i64 56)).setCell ⟨w.heap.size, 2, none⟩ (.int .i64 (-183))).setCell ⟨w.heap.size, 3, none⟩ (.int .i64 71)).setCell ⟨w.heap.size, 4, none⟩ (.bool false)) w.heap.size 56 [.int .i64 2, .int .i64 56, .int .i64 (-183), .int .i64 71, .bool false] := (((((l3.set 0 (.int .i64 2)).set 1 (.int .i64 56)).set 2 (.int .i64 (-183))).set 3 (.int .i64 71)).set 4 (.bool false))
 have bR := (((((but_set (w2.alloc (.cells #[.int .i64 2, .int .i64 56, .int .i64 (-183), .int .i64 71, .bool false, .int .i64 8, .int .i64 8, .int .i64 3, .func (.func 203) #[] #[]] 144)) w.heap.size 0 (.int .i64 2)).trans (but_set _ w.heap.size 1 (.int .i64 56))).trans (but_set _ w.heap.size 2 (.int .i64 (-183)))).trans (but_set _ w.heap.size 3 (.int .i64 71))).trans (but_set _ w.heap.size 4 (.bool false))).below (below_trans (below_trans b0 b2) (below_alloc w2 (.cells #[.int .i64 2, .int .i64 56, .int .i64 (-183), .int .i64 71, .bool false, .int .i64 8, .int .i64 8, .int .i64 3, .func (.func 203) #[] #[]] 144))) (Nat.le_refl _)
 have hl := run_loadVar_mid (P := Tryz.prog) _ w.heap.size 0 56 [.int .i64 2, .int .i64 56, .int .i64 (-183), .int .i64 71, .bool false] _ cR.range Tryz.underlying56 rfl (by kernel_rfl)
 have HH : Hid (_ ∧ _) := ⟨hl, bR⟩
 have x0 := l3.cell 0 rfl
 have f0 := l3.free 0
 have x1 := l3.cell 1 rfl
 have f1 := l3.free 1
 have x2 := l3.cell 2 rfl
 have f2 := l3.free 2
 have x3 := l3.cell 3 rfl
 have f3 := l3.free 3
 have x4 := l3.cell 4 rfl
 have f4 := l3.free 4
 have hne : w2.heap.size ≠ w.heap.size := Nat.ne_of_gt (l0.later b2).lt
 clear hl bR cR l0 l3 b0 b2 HL
 go_wp2
 obtain ⟨hl, bR⟩ := HH.out
 exact bodyPost_ret (results_two Tryz.results50 rfl rfl hl) rfl ⟨rfl, bR⟩
set_option maxHeartbeats 1600000 in
theorem cgrid_8 (w : World) : Calls Tryz.prog 50 #[.int .i64 8] w fun z w' => z = .returned (.tuple #[.agg #[.int .i64 2, .int .i64 53, .int .i64 (-1076), .int .i64 970, .bool false], .int .i64 0]) ∧ Below w.heap.size w w' := by
 have HL : Hid (∀ w1, Calls Tryz.prog 97 #[.int .i64 8] w1 fun z w' => z = .returned (.tuple #[.agg #[.int .i64 2, .int .i64 53, .int .i64 (-1076), .int .i64 970, .bool false, .int .i64 8, .int .i64 11, .int .i64 3, .func (.func 203) #[] #[]], .int .i64 0]) ∧ Below w1.heap.size w1 w') := fun w1 => layoutOf_8 w1
 have hsf := hsf_z
 have hsn := hsn_z
 have l0 := locE_new w [.int .i64 0, .int .i64 0, .int .i64 0, .int .i64 0, .bool false] 56
 have b0 := below_alloc w (.cells #[.int .i64 0, .int .i64 0, .int .i64 0, .int .i64 0, .bool false] 56)
 go_enter Tryz.func50, Tryz.ntmps50
 go_wp2_with fail
 refine (HL.out _).mono ?_
 rintro z w2 ⟨rfl, b2⟩
 have l3 := (l0.later b2).later (below_alloc w2 (.cells #[.int .i64 2, .int .i64 53, .int .i64 (-1076), .int .i64 970, .bool false, .int .i64 8, .int .i64 11, .int .i64 3, .func (.func 203) #[] #[]] 144))
 have cR : LocE ((((((w2.alloc (.cells #[.int .i64 2, .int .i64 53, .int .i64 (-1076), .int .i64 970, .bool false, .int .i64 8, .int .i64 11, .int .i64 3, .func (.func 203) #[] #[]] 144)).setCell ⟨w.heap.size, 0, none⟩ (.int .i64 2)).setCell ⟨w.heap.size, 1, none⟩ (.int .i64 53)).setCell ⟨w.heap.size, 2, none⟩ (.int .i64 (-1076))).setCell ⟨w.heap.size, 3, none⟩ (.int .i64 970)).setCell ⟨w.heap.size, 4, none⟩ (.bool false)) w.heap.size 56 [.int .i64 2, .int .i64 53, .int .i64 (-1076), .int .i64 970, .bool false] := (((((l3.set 0 (.int .i64 2)).set 1 (.int .i64 53)).set 2 (.int .i64 (-1076))).set 3 (.int .i64 970)).set 4 (.bool false))
 have bR := (((((but_set (w2.alloc (.cells #[.int .i64 2, .int .i64 53, .int .i64 (-1076), .int .i64 970, .bool false, .int .i64 8, .int .i64 11, .int .i64 3, .func (.func 203) #[] #[]] 144)) w.heap.size 0 (.int .i64 2)).trans (but_set _ w.heap.size 1 (.int .i64 53))).trans (but_set _ w.heap.size 2 (.int .i64 (-1076)))).trans (but_set _ w.heap.size 3 (.int .i64 970))).trans (but_set _ w.heap.size 4 (.bool false))).below (below_trans (below_trans b0 b2) (below_alloc w2 (.cells #[.int .i64 2, .int .i64 53, .int .i64 (-1076), .int .i64 970, .bool false, .int .i64 8, .int .i64 11, .int .i64 3, .func (.func 203) #[] #[]] 144))) (Nat.le_refl _)
 have hl := run_loadVar_mid (P := Tryz.prog) _ w.heap.size 0 56 [.int .i64 2, .int .i64 53, .int .i64 (-1076), .int .i64 970, .bool false] _ cR.range Tryz.underlying56 rfl (by kernel_rfl)
 have HH : Hid (_ ∧ _) := ⟨hl, bR⟩
 have x0 := l3.cell 0 rfl
 have f0 := l3.free 0
 have x1 := l3.cell 1 rfl
 have f1 := l3.free 1
 have x2 := l3.cell 2 rfl
 have f2 := l3.free 2
 have x3 := l3.cell 3 rfl
 have f3 := l3.free 3
 have x4 := l3.cell 4 rfl
 have f4 := l3.free 4
 have hne : w2.heap.size ≠ w.heap.size := Nat.ne_of_gt (l0.later b2).lt
 clear hl bR cR l0 l3 b0 b2 HL
 go_wp2
 obtain ⟨hl, bR⟩ := HH.out
 exact bodyPost_ret (results_two Tryz.results50 rfl rfl hl) rfl ⟨rfl, bR⟩
end Go.Proofs.YtnhackdjplppjaaGreatDoor
namespace Go.Proofs.YtnhackdjplppjaaGreatDoor
open Go.RowKit
def plN (k i : Nat) : Nat := if k = 3 then szN k - 1 - i else if 6 ≤ k then i + 1 - 2 * (i % 2) else i
theorem plN_at (k : Nat) (zs : List Nat) (i : Nat) (hk : zs.length = szN k) (hi : i < zs.length) : (turnB k zs).getD i 0 = zs.getD (plN k i) 0 := by
 unfold turnB plN
 by_cases h3 : k = 3
 ·rw [if_pos h3, if_pos h3, List.getD_eq_getElem?_getD, List.getElem?_reverse hi, ← List.getD_eq_getElem?_getD, hk]
 ·rw [if_neg h3, if_neg h3]
  by_cases h6 : 6 ≤ k
  ·rw [if_pos h6, if_pos h6, turnW_at zs i hi]
  ·rw [if_neg h6, if_neg h6]
theorem plN_lt {k i : Nat} (hk : 1 ≤ k ∧ k ≤ 8) (hi : i < szN k) : plN k i < szN k := by
 obtain ⟨m, hm⟩ := (sizes_fit hk).2.2.2.2.1
 unfold plN
 split
 ·omega
 ·split <;> omega
end Go.Proofs.YtnhackdjplppjaaGreatDoor
namespace Go.Proofs.YtnhackdjplppjaaGreatDoor
open Go.RowKit
def OwnB (w : World) (base : Nat) (v : Value) (bs : List Bool) : Prop := w.ownsRow base 4 1 v bs.length (bs.map Value.bool)
theorem Tryz.infoB : (Tryz.prog.info? 4).map (fun i => (i.zero, i.size, i.bytes)) = some (some (.bool false), 1, 1) := by kernel_rfl
theorem OwnB.later {w w' : World} {base : Nat} {v : Value} {bs : List Bool} (h : OwnB w base v bs) (hb : Below w.heap.size w w') : OwnB w' base v bs := by
 obtain ⟨hl, h2⟩ := h
 refine ⟨hl, ?_⟩
 rcases h2 with h2 | ⟨g, cap, cur, hv, hbg, hh, r⟩
 ·exact .inl h2
 ·refine .inr ⟨g, cap, cur, hv, hbg, ?_, r⟩
  rw [hb.block g ?_]
  ·exact hh
  ·rw [Array.getElem?_eq_some_iff] at hh
   exact hh.1
end Go.Proofs.YtnhackdjplppjaaGreatDoor
namespace Go.Proofs.YtnhackdjplppjaaGreatDoor
open Go.RowKit
theorem OwnB.store {w : World} {base g n cap : Nat} {bs : List Bool} (h : OwnB w base (.slice (some ⟨g, 0, none⟩) n cap) bs) (hn : n = bs.length) (j : Nat) (x : Bool) :
  OwnB (w.setCell ⟨g, j, none⟩ (.bool x)) base (.slice (some ⟨g, 0, none⟩) n cap) (bs.set j x) := by
 subst hn
 have := (World.ownsRow.stored h j (.bool x)).1
 unfold OwnB
 rw [List.length_set, List.map_set]
 exact this
theorem OwnB.free {w : World} {base g n cap : Nat} {bs : List Bool} (h : OwnB w base (.slice (some ⟨g, 0, none⟩) n cap) bs) (hn : n = bs.length) (j : Nat) : w.frozen? ⟨g, j, none⟩ = false := by
 subst hn
 exact World.ownsRow.frozenAt h j
theorem OwnB.block {w : World} {base g n cap : Nat} {bs : List Bool} (h : OwnB w base (.slice (some ⟨g, 0, none⟩) n cap) bs) (hn : n = bs.length) : base ≤ g ∧ g < w.heap.size := by
 subst hn
 exact World.ownsRow.lt h g rfl
theorem OwnB.cell {w : World} {base g n cap : Nat} {bs : List Bool} (h : OwnB w base (.slice (some ⟨g, 0, none⟩) n cap) bs) (hn : n = bs.length) (j : Nat) (hj : j < bs.length) : w.cell? ⟨g, j, none⟩ = some (.bool (bs.getD j false)) := by
 subst hn
 have hc := World.ownsRow.cellAt h j (by omega)
 rw [hc, List.getElem?_map, List.getElem?_eq_getElem hj]
 simp [List.getD_eq_getElem?_getD, hj]
end Go.Proofs.YtnhackdjplppjaaGreatDoor
namespace Go.Proofs.YtnhackdjplppjaaGreatDoor
open Go.RowKit
theorem step_run_append {P : Program} {ops : Array Oper} {o : Oper} {a : Act} {w : World} {K : Act → World → Prop} {Q : Exit → Act → World → Prop} {E : Prop}
  (hg : o.guard = none) (s x : Operand) (t : TypeId) (hop : o.op = Op.call { callee := Callee.builtin Builtin.append, args := #[s, x], argTypes := #[t, t] })
  (v u v' : Value) (w' : World) (hs : a.eval s = v) (hx : a.eval x = u) (hr : (Builtin.append_ #[t, t] o.type #[v, u]).run P w = .ok v' w') (hK : K (a.put o.dst v') w') :
  if Region.wanted o (yielded ops a.tmps) = true then Oper.wp P o a w K Q else E := by
 have hw : Region.wanted o (yielded ops a.tmps) = true := by simp [Region.wanted, hg]
 rw [if_pos hw]
 unfold Oper.wp
 simp [execOp, hop, resolve, invoke, builtin, hs, hx, hr, Result.andThen]
 exact hK
end Go.Proofs.YtnhackdjplppjaaGreatDoor
namespace Go.Proofs.YtnhackdjplppjaaGreatDoor
open Go.RowKit
def valB (bf : Nat → Bool) : Nat → Nat
 | 0 => 0
 | n + 1 => valB bf n * 2 + if bf n then 1 else 0
theorem valB_lt (bf : Nat → Bool) : ∀ n, valB bf n < 2 ^ n
 | 0 => by simp [valB]
 | n + 1 => by
  have := valB_lt bf n
  rw [valB, Nat.pow_succ]
  split <;> omega
end Go.Proofs.YtnhackdjplppjaaGreatDoor
namespace Go.Proofs.YtnhackdjplppjaaGreatDoor
open Go.RowKit
def byL (bf : Nat → Bool) (n : Nat) : List Nat := (List.range n).map fun i => valB (fun j => bf (8 * i + j)) 8
theorem byL_len (bf : Nat → Bool) (n : Nat) : (byL bf n).length = n := by simp [byL]
theorem byL_at (bf : Nat → Bool) (n i : Nat) (h : i < n) : (byL bf n).getD i 0 = valB (fun j => bf (8 * i + j)) 8 := by
 simp [byL, List.getD_eq_getElem?_getD, h]
theorem plN_twice {k i : Nat} (hk : 1 ≤ k ∧ k ≤ 8) (hi : i < szN k) : plN k (plN k i) = i := by
 obtain ⟨m, hm⟩ := (sizes_fit hk).2.2.2.2.1
 unfold plN
 by_cases h3 : k = 3
 ·rw [if_pos h3, if_pos h3]
  omega
 ·rw [if_neg h3, if_neg h3]
  by_cases h6 : 6 ≤ k
  ·rw [if_pos h6, if_pos h6]
   omega
  ·rw [if_neg h6, if_neg h6]
end Go.Proofs.YtnhackdjplppjaaGreatDoor
namespace Go.Proofs.YtnhackdjplppjaaGreatDoor
open Go.RowKit
theorem bitB_test (zs : List Nat) (i : Nat) : bitB zs i = ((zs.getD (i / 8) 0).testBit (7 - i % 8)).toNat := by
 unfold bitB
 rw [Nat.testBit_eq_decide_div_mod_eq]
 have h := Nat.mod_lt (zs.getD (i / 8) 0 / 2 ^ (7 - i % 8)) (show 0 < 2 by omega)
 rcases (show zs.getD (i / 8) 0 / 2 ^ (7 - i % 8) % 2 = 0 ∨ zs.getD (i / 8) 0 / 2 ^ (7 - i % 8) % 2 = 1 by omega) with e | e <;> rw [e] <;> rfl
theorem testBit_put (y b t u : Nat) (hb : b < 2) : (y ||| b * 2 ^ t).testBit u = (y.testBit u || (decide (b = 1) && decide (t = u))) := by
 rw [Nat.testBit_or]
 rcases (show b = 0 ∨ b = 1 by omega) with rfl | rfl
 ·simp
 ·rw [Nat.one_mul, Nat.testBit_two_pow]
  simp
theorem bitB_put (zs : List Nat) (p b i : Nat) (hb : b < 2) (hp : p / 8 < zs.length) : bitB (zs.set (p / 8) (zs.getD (p / 8) 0 ||| b * 2 ^ (7 - p % 8))) i = if i = p then (if b = 1 then 1 else bitB zs i) else bitB zs i := by
 rw [bitB_test, bitB_test, Dg.getD_set _ _ _ _ hp]
 by_cases h8 : p / 8 = i / 8
 ·rw [if_pos h8, testBit_put _ _ _ _ hb, h8]
  by_cases hi : i = p
  ·subst hi
   rw [if_pos rfl]
   rcases (show b = 0 ∨ b = 1 by omega) with rfl | rfl
   ·simp
   ·simp
  ·rw [if_neg hi, decide_eq_false (show ¬ 7 - p % 8 = 7 - i % 8 by omega)]
   simp
 ·rw [if_neg h8, if_neg (show ¬ i = p from fun e => h8 (by rw [e]))]
theorem bitB_setB (f : Nat) : ∀ (c x : Nat) (zs : List Nat) (i : Nat), f + c ≤ 8 * zs.length → bitB (setB f c x zs) i = if f ≤ i ∧ i < f + c then (if x / 2 ^ (f + c - 1 - i) % 2 = 1 then 1 else bitB zs i) else bitB zs i
 | 0, x, zs, i, _ => by
  rw [setB, if_neg (by omega)]
 | c + 1, x, zs, i, h => by
  rw [setB, bitB_setB f c (x / 2) _ i (by rw [List.length_set]; omega), bitB_put _ _ _ _ (Nat.mod_lt _ (by omega)) (by omega)]
  by_cases h1 : f ≤ i ∧ i < f + c
  ·rw [if_pos h1, if_pos (show f ≤ i ∧ i < f + (c + 1) by omega), if_neg (show ¬ i = f + c by omega), Nat.div_div_eq_div_mul, ← Nat.pow_succ', show (f + c - 1 - i).succ = f + (c + 1) - 1 - i from by omega]
  ·rw [if_neg h1]
   by_cases h2 : i = f + c
   ·rw [if_pos h2, if_pos (show f ≤ i ∧ i < f + (c + 1) by omega), show f + (c + 1) - 1 - i = 0 from by omega, Nat.pow_zero, Nat.div_one]
   ·rw [if_neg h2, if_neg (show ¬ (f ≤ i ∧ i < f + (c + 1)) by omega)]
theorem byte_bits (y : Nat) (h : y < 256) : valB (fun j => decide (y / 2 ^ (7 - j) % 2 = 1)) 8 = y := by
 have e : ∀ n, (if decide (n % 2 = 1) = true then 1 else 0) = n % 2 := fun n => by
  rcases (show n % 2 = 0 ∨ n % 2 = 1 by omega) with h | h <;> rw [h] <;> rfl
 simp only [valB, e]
 omega
theorem valB_congr {f g : Nat → Bool} : ∀ n, (∀ j, j < n → f j = g j) → valB f n = valB g n
 | 0, _ => rfl
 | n + 1, h => by
  rw [valB, valB, valB_congr n (fun j hj => h j (by omega)), h n (by omega)]
theorem bytes_bits (zs : List Nat) (hs : Dg.Small 256 zs) : zs = byL (fun i => decide (bitB zs i = 1)) zs.length := by
 apply List.ext_getElem (by rw [byL_len])
 intro p hp1 hp2
 have e1 : zs.getD p 0 = zs[p] := by simp [List.getD_eq_getElem?_getD, hp1]
 have e2 : (byL (fun i => decide (bitB zs i = 1)) zs.length).getD p 0 = (byL (fun i => decide (bitB zs i = 1)) zs.length)[p] := by simp only [List.getD_eq_getElem?_getD, List.getElem?_eq_getElem hp2, Option.getD_some]
 rw [← e1, ← e2, byL_at _ _ _ hp1]
 refine (byte_bits (zs.getD p 0) (hs p)).symm.trans (valB_congr 8 (fun j hj => ?_))
 unfold bitB
 rw [show (8 * p + j) / 8 = p from by omega, show (8 * p + j) % 8 = j from by omega]
theorem byL_congr {f g : Nat → Bool} (n : Nat) (h : ∀ i, i < 8 * n → f i = g i) : byL f n = byL g n := by
 unfold byL
 apply List.map_congr_left
 intro i hi
 have := List.mem_range.1 hi
 exact valB_congr 8 (fun j hj => h _ (by omega))
theorem bitB_zeros (n i : Nat) : bitB (List.replicate n 0) i = 0 := by
 unfold bitB
 have : (List.replicate n 0).getD (i / 8) 0 = 0 := by
  by_cases h : i / 8 < n
  ·simp [List.getD_eq_getElem?_getD, h]
  ·simp [List.getD_eq_getElem?_getD, h]
 rw [this]
 simp
def patF (ex fr : Nat) (ng : Bool) (e f : Nat) (i : Nat) : Bool :=
 if i = 0 then ng else if i ≤ ex then decide (e / 2 ^ (ex - i) % 2 = 1) else decide (f / 2 ^ (ex + fr - i) % 2 = 1)
theorem wrtB_bits {k : Nat} (hk : 1 ≤ k ∧ k ≤ 8) (ng : Bool) (e f : Nat) : wrtB k ng e f = turnB k (byL (patF (exN k) (frN k) ng e f) (szN k)) := by
 obtain ⟨h1, h2, h3, h4, -, h7⟩ := sizes_fit hk
 unfold wrtB
 congr 1
 have sm0 : Dg.Small 256 (List.replicate (szN k) 0) := by
  intro i
  by_cases hi : i < szN k
  ·simp [List.getD_eq_getElem?_getD, hi]
  ·simp [List.getD_eq_getElem?_getD, hi]
 have key : ∀ zs : List Nat, zs.length = szN k → Dg.Small 256 zs → (∀ i, bitB zs i = if i = 0 ∧ ng = true then 1 else 0) → setB (1 + exN k) (frN k) f (setB 1 (exN k) e zs) = byL (patF (exN k) (frN k) ng e f) (szN k) := fun zs hl hs hb => by
  have hl2 : (setB (1 + exN k) (frN k) f (setB 1 (exN k) e zs)).length = szN k := by rw [setB_len, setB_len, hl]
  rw [bytes_bits _ (setB_small _ _ _ _ (setB_small _ _ _ _ hs)), hl2]
  refine byL_congr _ (fun i hi => ?_)
  rw [bitB_setB _ _ _ _ _ (by rw [setB_len]; omega), bitB_setB _ _ _ _ _ (by omega), hb i]
  unfold patF
  by_cases h0 : i = 0
  ·subst h0
   rw [if_neg (by omega), if_neg (by omega), if_pos rfl]
   cases ng <;> rfl
  ·rw [if_neg h0]
   have hz : (if i = 0 ∧ ng = true then 1 else 0) = 0 := if_neg (fun h => h0 h.1)
   rw [hz]
   by_cases hx : i ≤ exN k
   ·rw [if_pos hx, if_neg (by omega), if_pos (show 1 ≤ i ∧ i < 1 + exN k by omega), show 1 + exN k - 1 - i = exN k - i from by omega]
    split
    ·rename_i h; rw [h]
    ·rename_i h; rw [decide_eq_false h]; rfl
   ·rw [if_neg hx, if_pos (show 1 + exN k ≤ i ∧ i < 1 + exN k + frN k by omega), if_neg (show ¬ (1 ≤ i ∧ i < 1 + exN k) by omega), show 1 + exN k + frN k - 1 - i = exN k + frN k - i from by omega]
    split
    ·rename_i h; rw [h]
    ·rename_i h; rw [decide_eq_false h]; rfl
 cases ng
 ·rw [if_neg (by simp)]
  exact key _ List.length_replicate sm0 (fun i => by rw [bitB_zeros]; simp)
 ·rw [if_pos rfl]
  refine key _ (by rw [setB_len]; exact List.length_replicate) (setB_small _ _ _ _ sm0) (fun i => ?_)
  rw [bitB_setB _ _ _ _ _ (by rw [List.length_replicate]; omega), bitB_zeros]
  by_cases h0 : i = 0
  ·subst h0
   rfl
  ·rw [if_neg (by omega), if_neg (fun h => h0 h.1)]
end Go.Proofs.YtnhackdjplppjaaGreatDoor

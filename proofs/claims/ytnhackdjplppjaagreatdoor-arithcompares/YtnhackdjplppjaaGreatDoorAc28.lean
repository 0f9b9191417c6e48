/-
  Texts laid together: Co5, Cr1.
-/
import Derived.Test.YtnhackdjplppjaaGreatDoorAc09
set_option maxRecDepth 100000
namespace Go.Proofs.YtnhackdjplppjaaGreatDoor
open Go.RowKit
set_option maxHeartbeats 1600000 in
theorem fmtTwo_any (a b c d e f g : Int) (w : World) : Calls Tryz.prog 89 #[.int .i64 a, .int .i64 b, .int .i64 c, .int .i64 d, .int .i64 e, .int .i64 f, .int .i64 g] w fun z w' => z = .returned (.agg #[.int .i64 a, .int .i64 b, .int .i64 c, .int .i64 2, .int .i64 d, .int .i64 e, .int .i64 f, .bool (g == 1), .int .i64 g]) ∧ Below w.heap.size w w' := by
 go_enter Tryz.func89, Tryz.ntmps89
 go_wp2
 go_returns
 exact ⟨rfl, below_alloc _ _⟩
set_option maxHeartbeats 3200000 in
theorem format_none (n : Int) (w : World) (h : famC n = 0) : Calls Tryz.prog 35 #[.int .i64 n] w fun z w' => z = .returned (.tuple #[.agg #[.int .i64 0, .int .i64 0, .int .i64 0, .int .i64 0, .int .i64 0, .int .i64 0, .int .i64 0, .bool false, .int .i64 0], .bool false]) ∧ Below w.heap.size w w' := by
 have hn : n < 1 ∨ 8 < n := by
  unfold famC at h
  by_cases c : n < 1 ∨ 8 < n
  ·exact c
  ·rw [if_neg c] at h
   split at h
   ·omega
   ·split at h <;> omega
 clear h
 have e1 : (n == 1) = false := by simp; omega
 have e2 : (n == 2) = false := by simp; omega
 have e3 : (n == 3) = false := by simp; omega
 have e4 : (n == 4) = false := by simp; omega
 have e5 : (n == 5) = false := by simp; omega
 have e6 : (n == 6) = false := by simp; omega
 have e7 : (n == 7) = false := by simp; omega
 have e8 : (n == 8) = false := by simp; omega
 have l0 := locE_new w [.int .i64 0, .int .i64 0, .int .i64 0, .int .i64 0, .int .i64 0, .int .i64 0, .int .i64 0, .bool false, .int .i64 0] 58
 have b0 := below_alloc w (.cells #[.int .i64 0, .int .i64 0, .int .i64 0, .int .i64 0, .int .i64 0, .int .i64 0, .int .i64 0, .bool false, .int .i64 0] 58)
 have hl := run_loadVar_mid (P := Tryz.prog) _ w.heap.size 0 58 [.int .i64 0, .int .i64 0, .int .i64 0, .int .i64 0, .int .i64 0, .int .i64 0, .int .i64 0, .bool false, .int .i64 0] _ l0.range Tryz.underlying58 rfl (by kernel_rfl)
 have HH : Hid (_ ∧ _) := ⟨hl, b0⟩
 clear hl b0 l0
 go_enter Tryz.func35, Tryz.ntmps35
 go_wp2
 obtain ⟨hl, bR⟩ := HH.out
 exact bodyPost_ret (results_two Tryz.results35 rfl rfl hl) rfl ⟨rfl, bR⟩
set_option maxHeartbeats 3200000 in
theorem format_1 (w : World) : Calls Tryz.prog 35 #[.int .i64 1] w fun z w' => z = .returned (.tuple #[.agg #[.int .i64 4, .int .i64 8, .int .i64 23, .int .i64 2, .int .i64 24, .int .i64 (-149), .int .i64 104, .bool true, .int .i64 1], .bool true]) ∧ Below w.heap.size w w' := by
 have HT : Hid (∀ w1, Calls Tryz.prog 89 #[.int .i64 4, .int .i64 8, .int .i64 23, .int .i64 24, .int .i64 (-149), .int .i64 104, .int .i64 1] w1 fun z w' => z = .returned (.agg #[.int .i64 4, .int .i64 8, .int .i64 23, .int .i64 2, .int .i64 24, .int .i64 (-149), .int .i64 104, .bool true, .int .i64 1]) ∧ Below w1.heap.size w1 w') := fun w1 => fmtTwo_any _ _ _ _ _ _ _ w1
 have l0 := locE_new w [.int .i64 0, .int .i64 0, .int .i64 0, .int .i64 0, .int .i64 0, .int .i64 0, .int .i64 0, .bool false, .int .i64 0] 58
 have b0 := below_alloc w (.cells #[.int .i64 0, .int .i64 0, .int .i64 0, .int .i64 0, .int .i64 0, .int .i64 0, .int .i64 0, .bool false, .int .i64 0] 58)
 go_enter Tryz.func35, Tryz.ntmps35
 go_wp2_with fail
 refine (HT.out _).mono ?_
 rintro z w2 ⟨rfl, b2⟩
 have l2 := l0.later b2
 have cR : LocE (((((((((w2.setCell ⟨w.heap.size, 0, none⟩ (.int .i64 4)).setCell ⟨w.heap.size, 1, none⟩ (.int .i64 8)).setCell ⟨w.heap.size, 2, none⟩ (.int .i64 23)).setCell ⟨w.heap.size, 3, none⟩ (.int .i64 2)).setCell ⟨w.heap.size, 4, none⟩ (.int .i64 24)).setCell ⟨w.heap.size, 5, none⟩ (.int .i64 (-149))).setCell ⟨w.heap.size, 6, none⟩ (.int .i64 104)).setCell ⟨w.heap.size, 7, none⟩ (.bool true)).setCell ⟨w.heap.size, 8, none⟩ (.int .i64 1)) w.heap.size 58 [.int .i64 4, .int .i64 8, .int .i64 23, .int .i64 2, .int .i64 24, .int .i64 (-149), .int .i64 104, .bool true, .int .i64 1] := (((((((((l2.set 0 (.int .i64 4)).set 1 (.int .i64 8)).set 2 (.int .i64 23)).set 3 (.int .i64 2)).set 4 (.int .i64 24)).set 5 (.int .i64 (-149))).set 6 (.int .i64 104)).set 7 (.bool true)).set 8 (.int .i64 1))
 have bR := (((((((((but_set w2 w.heap.size 0 (.int .i64 4)).trans (but_set _ w.heap.size 1 (.int .i64 8))).trans (but_set _ w.heap.size 2 (.int .i64 23))).trans (but_set _ w.heap.size 3 (.int .i64 2))).trans (but_set _ w.heap.size 4 (.int .i64 24))).trans (but_set _ w.heap.size 5 (.int .i64 (-149)))).trans (but_set _ w.heap.size 6 (.int .i64 104))).trans (but_set _ w.heap.size 7 (.bool true))).trans (but_set _ w.heap.size 8 (.int .i64 1))).below (below_trans b0 b2) (Nat.le_refl _)
 have hl := run_loadVar_mid (P := Tryz.prog) _ w.heap.size 0 58 [.int .i64 4, .int .i64 8, .int .i64 23, .int .i64 2, .int .i64 24, .int .i64 (-149), .int .i64 104, .bool true, .int .i64 1] _ cR.range Tryz.underlying58 rfl (by kernel_rfl)
 have HH : Hid (_ ∧ _) := ⟨hl, bR⟩
 have x0 := l2.cell 0 rfl
 have f0 := l2.free 0
 have x1 := l2.cell 1 rfl
 have f1 := l2.free 1
 have x2 := l2.cell 2 rfl
 have f2 := l2.free 2
 have x3 := l2.cell 3 rfl
 have f3 := l2.free 3
 have x4 := l2.cell 4 rfl
 have f4 := l2.free 4
 have x5 := l2.cell 5 rfl
 have f5 := l2.free 5
 have x6 := l2.cell 6 rfl
 have f6 := l2.free 6
 have x7 := l2.cell 7 rfl
 have f7 := l2.free 7
 have x8 := l2.cell 8 rfl
 have f8 := l2.free 8
 clear hl bR cR l0 l2 b0 b2 HT
 go_wp2
 obtain ⟨hl, bR⟩ := HH.out
 exact bodyPost_ret (results_two Tryz.results35 rfl rfl hl) rfl ⟨rfl, bR⟩
set_option maxHeartbeats 3200000 in
theorem format_2 (w : World) : Calls Tryz.prog 35 #[.int .i64 2] w fun z w' => z = .returned (.tuple #[.agg #[.int .i64 8, .int .i64 11, .int .i64 52, .int .i64 2, .int .i64 53, .int .i64 (-1074), .int .i64 971, .bool true, .int .i64 1], .bool true]) ∧ Below w.heap.size w w' := by
 have HT : Hid (∀ w1, Calls Tryz.prog 89 #[.int .i64 8, .int .i64 11, .int .i64 52, .int .i64 53, .int .i64 (-1074), .int .i64 971, .int .i64 1] w1 fun z w' => z = .returned (.agg #[.int .i64 8, .int .i64 11, .int .i64 52, .int .i64 2, .int .i64 53, .int .i64 (-1074), .int .i64 971, .bool true, .int .i64 1]) ∧ Below w1.heap.size w1 w') := fun w1 => fmtTwo_any _ _ _ _ _ _ _ w1
 have l0 := locE_new w [.int .i64 0, .int .i64 0, .int .i64 0, .int .i64 0, .int .i64 0, .int .i64 0, .int .i64 0, .bool false, .int .i64 0] 58
 have b0 := below_alloc w (.cells #[.int .i64 0, .int .i64 0, .int .i64 0, .int .i64 0, .int .i64 0, .int .i64 0, .int .i64 0, .bool false, .int .i64 0] 58)
 go_enter Tryz.func35, Tryz.ntmps35
 go_wp2_with fail
 refine (HT.out _).mono ?_
 rintro z w2 ⟨rfl, b2⟩
 have l2 := l0.later b2
 have cR : LocE (((((((((w2.setCell ⟨w.heap.size, 0, none⟩ (.int .i64 8)).setCell ⟨w.heap.size, 1, none⟩ (.int .i64 11)).setCell ⟨w.heap.size, 2, none⟩ (.int .i64 52)).setCell ⟨w.heap.size, 3, none⟩ (.int .i64 2)).setCell ⟨w.heap.size, 4, none⟩ (.int .i64 53)).setCell ⟨w.heap.size, 5, none⟩ (.int .i64 (-1074))).setCell ⟨w.heap.size, 6, none⟩ (.int .i64 971)).setCell ⟨w.heap.size, 7, none⟩ (.bool true)).setCell ⟨w.heap.size, 8, none⟩ (.int .i64 1)) w.heap.size 58 [.int .i64 8, .int .i64 11, .int .i64 52, .int .i64 2, .int .i64 53, .int .i64 (-1074), .int .i64 971, .bool true, .int .i64 1] := (((((((((l2.set 0 (.int .i64 8)).set 1 (.int .i64 11)).set 2 (.int .i64 52)).set 3 (.int .i64 2)).set 4 (.int .i64 53)).set 5 (.int .i64 (-1074))).set 6 (.int .i64 971)).set 7 (.bool true)).set 8 (.int .i64 1))
 have bR := (((((((((but_set w2 w.heap.size 0 (.int .i64 8)).trans (but_set _ w.heap.size 1 (.int .i64 11))).trans (but_set _ w.heap.size 2 (.int .i64 52))).trans (but_set _ w.heap.size 3 (.int .i64 2))).trans (but_set _ w.heap.size 4 (.int .i64 53))).trans (but_set _ w.heap.size 5 (.int .i64 (-1074)))).trans (but_set _ w.heap.size 6 (.int .i64 971))).trans (but_set _ w.heap.size 7 (.bool true))).trans (but_set _ w.heap.size 8 (.int .i64 1))).below (below_trans b0 b2) (Nat.le_refl _)
 have hl := run_loadVar_mid (P := Tryz.prog) _ w.heap.size 0 58 [.int .i64 8, .int .i64 11, .int .i64 52, .int .i64 2, .int .i64 53, .int .i64 (-1074), .int .i64 971, .bool true, .int .i64 1] _ cR.range Tryz.underlying58 rfl (by kernel_rfl)
 have HH : Hid (_ ∧ _) := ⟨hl, bR⟩
 have x0 := l2.cell 0 rfl
 have f0 := l2.free 0
 have x1 := l2.cell 1 rfl
 have f1 := l2.free 1
 have x2 := l2.cell 2 rfl
 have f2 := l2.free 2
 have x3 := l2.cell 3 rfl
 have f3 := l2.free 3
 have x4 := l2.cell 4 rfl
 have f4 := l2.free 4
 have x5 := l2.cell 5 rfl
 have f5 := l2.free 5
 have x6 := l2.cell 6 rfl
 have f6 := l2.free 6
 have x7 := l2.cell 7 rfl
 have f7 := l2.free 7
 have x8 := l2.cell 8 rfl
 have f8 := l2.free 8
 clear hl bR cR l0 l2 b0 b2 HT
 go_wp2
 obtain ⟨hl, bR⟩ := HH.out
 exact bodyPost_ret (results_two Tryz.results35 rfl rfl hl) rfl ⟨rfl, bR⟩
set_option maxHeartbeats 3200000 in
theorem format_3 (w : World) : Calls Tryz.prog 35 #[.int .i64 3] w fun z w' => z = .returned (.tuple #[.agg #[.int .i64 10, .int .i64 15, .int .i64 64, .int .i64 2, .int .i64 64, .int .i64 (-16445), .int .i64 16320, .bool true, .int .i64 1], .bool true]) ∧ Below w.heap.size w w' := by
 have HT : Hid (∀ w1, Calls Tryz.prog 89 #[.int .i64 10, .int .i64 15, .int .i64 64, .int .i64 64, .int .i64 (-16445), .int .i64 16320, .int .i64 1] w1 fun z w' => z = .returned (.agg #[.int .i64 10, .int .i64 15, .int .i64 64, .int .i64 2, .int .i64 64, .int .i64 (-16445), .int .i64 16320, .bool true, .int .i64 1]) ∧ Below w1.heap.size w1 w') := fun w1 => fmtTwo_any _ _ _ _ _ _ _ w1
 have l0 := locE_new w [.int .i64 0, .int .i64 0, .int .i64 0, .int .i64 0, .int .i64 0, .int .i64 0, .int .i64 0, .bool false, .int .i64 0] 58
 have b0 := below_alloc w (.cells #[.int .i64 0, .int .i64 0, .int .i64 0, .int .i64 0, .int .i64 0, .int .i64 0, .int .i64 0, .bool false, .int .i64 0] 58)
 go_enter Tryz.func35, Tryz.ntmps35
 go_wp2_with fail
 refine (HT.out _).mono ?_
 rintro z w2 ⟨rfl, b2⟩
 have l2 := l0.later b2
 have cR : LocE (((((((((w2.setCell ⟨w.heap.size, 0, none⟩ (.int .i64 10)).setCell ⟨w.heap.size, 1, none⟩ (.int .i64 15)).setCell ⟨w.heap.size, 2, none⟩ (.int .i64 64)).setCell ⟨w.heap.size, 3, none⟩ (.int .i64 2)).setCell ⟨w.heap.size, 4, none⟩ (.int .i64 64)).setCell ⟨w.heap.size, 5, none⟩ (.int .i64 (-16445))).setCell ⟨w.heap.size, 6, none⟩ (.int .i64 16320)).setCell ⟨w.heap.size, 7, none⟩ (.bool true)).setCell ⟨w.heap.size, 8, none⟩ (.int .i64 1)) w.heap.size 58 [.int .i64 10, .int .i64 15, .int .i64 64, .int .i64 2, .int .i64 64, .int .i64 (-16445), .int .i64 16320, .bool true, .int .i64 1] := (((((((((l2.set 0 (.int .i64 10)).set 1 (.int .i64 15)).set 2 (.int .i64 64)).set 3 (.int .i64 2)).set 4 (.int .i64 64)).set 5 (.int .i64 (-16445))).set 6 (.int .i64 16320)).set 7 (.bool true)).set 8 (.int .i64 1))
 have bR := (((((((((but_set w2 w.heap.size 0 (.int .i64 10)).trans (but_set _ w.heap.size 1 (.int .i64 15))).trans (but_set _ w.heap.size 2 (.int .i64 64))).trans (but_set _ w.heap.size 3 (.int .i64 2))).trans (but_set _ w.heap.size 4 (.int .i64 64))).trans (but_set _ w.heap.size 5 (.int .i64 (-16445)))).trans (but_set _ w.heap.size 6 (.int .i64 16320))).trans (but_set _ w.heap.size 7 (.bool true))).trans (but_set _ w.heap.size 8 (.int .i64 1))).below (below_trans b0 b2) (Nat.le_refl _)
 have hl := run_loadVar_mid (P := Tryz.prog) _ w.heap.size 0 58 [.int .i64 10, .int .i64 15, .int .i64 64, .int .i64 2, .int .i64 64, .int .i64 (-16445), .int .i64 16320, .bool true, .int .i64 1] _ cR.range Tryz.underlying58 rfl (by kernel_rfl)
 have HH : Hid (_ ∧ _) := ⟨hl, bR⟩
 have x0 := l2.cell 0 rfl
 have f0 := l2.free 0
 have x1 := l2.cell 1 rfl
 have f1 := l2.free 1
 have x2 := l2.cell 2 rfl
 have f2 := l2.free 2
 have x3 := l2.cell 3 rfl
 have f3 := l2.free 3
 have x4 := l2.cell 4 rfl
 have f4 := l2.free 4
 have x5 := l2.cell 5 rfl
 have f5 := l2.free 5
 have x6 := l2.cell 6 rfl
 have f6 := l2.free 6
 have x7 := l2.cell 7 rfl
 have f7 := l2.free 7
 have x8 := l2.cell 8 rfl
 have f8 := l2.free 8
 clear hl bR cR l0 l2 b0 b2 HT
 go_wp2
 obtain ⟨hl, bR⟩ := HH.out
 exact bodyPost_ret (results_two Tryz.results35 rfl rfl hl) rfl ⟨rfl, bR⟩
set_option maxHeartbeats 3200000 in
theorem format_4 (w : World) : Calls Tryz.prog 35 #[.int .i64 4] w fun z w' => z = .returned (.tuple #[.agg #[.int .i64 4, .int .i64 7, .int .i64 24, .int .i64 16, .int .i64 6, .int .i64 (-70), .int .i64 57, .bool false, .int .i64 2], .bool true]) ∧ Below w.heap.size w w' := by
 have l0 := locE_new w [.int .i64 4, .int .i64 7, .int .i64 24, .int .i64 16, .int .i64 6, .int .i64 (-70), .int .i64 57, .bool false, .int .i64 2] 58
 have b0 := below_alloc w (.cells #[.int .i64 4, .int .i64 7, .int .i64 24, .int .i64 16, .int .i64 6, .int .i64 (-70), .int .i64 57, .bool false, .int .i64 2] 58)
 have hl := run_loadVar_mid (P := Tryz.prog) _ w.heap.size 0 58 [.int .i64 4, .int .i64 7, .int .i64 24, .int .i64 16, .int .i64 6, .int .i64 (-70), .int .i64 57, .bool false, .int .i64 2] _ l0.range Tryz.underlying58 rfl (by kernel_rfl)
 have HH : Hid (_ ∧ _) := ⟨hl, b0⟩
 clear hl b0 l0
 go_enter Tryz.func35, Tryz.ntmps35
 go_wp2
 obtain ⟨hl, bR⟩ := HH.out
 exact bodyPost_ret (results_two Tryz.results35 rfl rfl hl) rfl ⟨rfl, bR⟩
set_option maxHeartbeats 3200000 in
theorem format_5 (w : World) : Calls Tryz.prog 35 #[.int .i64 5] w fun z w' => z = .returned (.tuple #[.agg #[.int .i64 8, .int .i64 7, .int .i64 56, .int .i64 16, .int .i64 14, .int .i64 (-78), .int .i64 49, .bool false, .int .i64 2], .bool true]) ∧ Below w.heap.size w w' := by
 have l0 := locE_new w [.int .i64 8, .int .i64 7, .int .i64 56, .int .i64 16, .int .i64 14, .int .i64 (-78), .int .i64 49, .bool false, .int .i64 2] 58
 have b0 := below_alloc w (.cells #[.int .i64 8, .int .i64 7, .int .i64 56, .int .i64 16, .int .i64 14, .int .i64 (-78), .int .i64 49, .bool false, .int .i64 2] 58)
 have hl := run_loadVar_mid (P := Tryz.prog) _ w.heap.size 0 58 [.int .i64 8, .int .i64 7, .int .i64 56, .int .i64 16, .int .i64 14, .int .i64 (-78), .int .i64 49, .bool false, .int .i64 2] _ l0.range Tryz.underlying58 rfl (by kernel_rfl)
 have HH : Hid (_ ∧ _) := ⟨hl, b0⟩
 clear hl b0 l0
 go_enter Tryz.func35, Tryz.ntmps35
 go_wp2
 obtain ⟨hl, bR⟩ := HH.out
 exact bodyPost_ret (results_two Tryz.results35 rfl rfl hl) rfl ⟨rfl, bR⟩
set_option maxHeartbeats 3200000 in
theorem format_6 (w : World) : Calls Tryz.prog 35 #[.int .i64 6] w fun z w' => z = .returned (.tuple #[.agg #[.int .i64 4, .int .i64 8, .int .i64 23, .int .i64 2, .int .i64 24, .int .i64 (-151), .int .i64 103, .bool false, .int .i64 3], .bool true]) ∧ Below w.heap.size w w' := by
 have HT : Hid (∀ w1, Calls Tryz.prog 89 #[.int .i64 4, .int .i64 8, .int .i64 23, .int .i64 24, .int .i64 (-151), .int .i64 103, .int .i64 3] w1 fun z w' => z = .returned (.agg #[.int .i64 4, .int .i64 8, .int .i64 23, .int .i64 2, .int .i64 24, .int .i64 (-151), .int .i64 103, .bool false, .int .i64 3]) ∧ Below w1.heap.size w1 w') := fun w1 => fmtTwo_any _ _ _ _ _ _ _ w1
 have l0 := locE_new w [.int .i64 0, .int .i64 0, .int .i64 0, .int .i64 0, .int .i64 0, .int .i64 0, .int .i64 0, .bool false, .int .i64 0] 58
 have b0 := below_alloc w (.cells #[.int .i64 0, .int .i64 0, .int .i64 0, .int .i64 0, .int .i64 0, .int .i64 0, .int .i64 0, .bool false, .int .i64 0] 58)
 go_enter Tryz.func35, Tryz.ntmps35
 go_wp2_with fail
 refine (HT.out _).mono ?_
 rintro z w2 ⟨rfl, b2⟩
 have l2 := l0.later b2
 have cR : LocE (((((((((w2.setCell ⟨w.heap.size, 0, none⟩ (.int .i64 4)).setCell ⟨w.heap.size, 1, none⟩ (.int .i64 8)).setCell ⟨w.heap.size, 2, none⟩ (.int .i64 23)).setCell ⟨w.heap.size, 3, none⟩ (.int .i64 2)).setCell ⟨w.heap.size, 4, none⟩ (.int .i64 24)).setCell ⟨w.heap.size, 5, none⟩ (.int .i64 (-151))).setCell ⟨w.heap.size, 6, none⟩ (.int .i64 103)).setCell ⟨w.heap.size, 7, none⟩ (.bool false)).setCell ⟨w.heap.size, 8, none⟩ (.int .i64 3)) w.heap.size 58 [.int .i64 4, .int .i64 8, .int .i64 23, .int .i64 2, .int .i64 24, .int .i64 (-151), .int .i64 103, .bool false, .int .i64 3] := (((((((((l2.set 0 (.int .i64 4)).set 1 (.int .i64 8)).set 2 (.int .i64 23)).set 3 (.int .i64 2)).set 4 (.int .i64 24)).set 5 (.int .i64 (-151))).set 6 (.int .i64 103)).set 7 (.bool false)).set 8 (.int .i64 3))
 have bR := (((((((((but_set w2 w.heap.size 0 (.int .i64 4)).trans (but_set _ w.heap.size 1 (.int .i64 8))).trans (but_set _ w.heap.size 2 (.int .i64 23))).trans (but_set _ w.heap.size 3 (.int .i64 2))).trans (but_set _ w.heap.size 4 (.int .i64 24))).trans (but_set _ w.heap.size 5 (.int .i64 (-151)))).trans (but_set _ w.heap.size 6 (.int .i64 103))).trans (but_set _ w.heap.size 7 (.bool false))).trans (but_set _ w.heap.size 8 (.int .i64 3))).below (below_trans b0 b2) (Nat.le_refl _)
 have hl := run_loadVar_mid (P := Tryz.prog) _ w.heap.size 0 58 [.int .i64 4, .int .i64 8, .int .i64 23, .int .i64 2, .int .i64 24, .int .i64 (-151), .int .i64 103, .bool false, .int .i64 3] _ cR.range Tryz.underlying58 rfl (by kernel_rfl)
 have HH : Hid (_ ∧ _) := ⟨hl, bR⟩
 have x0 := l2.cell 0 rfl
 have f0 := l2.free 0
 have x1 := l2.cell 1 rfl
 have f1 := l2.free 1
 have x2 := l2.cell 2 rfl
 have f2 := l2.free 2
 have x3 := l2.cell 3 rfl
 have f3 := l2.free 3
 have x4 := l2.cell 4 rfl
 have f4 := l2.free 4
 have x5 := l2.cell 5 rfl
 have f5 := l2.free 5
 have x6 := l2.cell 6 rfl
 have f6 := l2.free 6
 have x7 := l2.cell 7 rfl
 have f7 := l2.free 7
 have x8 := l2.cell 8 rfl
 have f8 := l2.free 8
 clear hl bR cR l0 l2 b0 b2 HT
 go_wp2
 obtain ⟨hl, bR⟩ := HH.out
 exact bodyPost_ret (results_two Tryz.results35 rfl rfl hl) rfl ⟨rfl, bR⟩
set_option maxHeartbeats 3200000 in
theorem format_7 (w : World) : Calls Tryz.prog 35 #[.int .i64 7] w fun z w' => z = .returned (.tuple #[.agg #[.int .i64 8, .int .i64 8, .int .i64 55, .int .i64 2, .int .i64 56, .int .i64 (-183), .int .i64 71, .bool false, .int .i64 3], .bool true]) ∧ Below w.heap.size w w' := by
 have HT : Hid (∀ w1, Calls Tryz.prog 89 #[.int .i64 8, .int .i64 8, .int .i64 55, .int .i64 56, .int .i64 (-183), .int .i64 71, .int .i64 3] w1 fun z w' => z = .returned (.agg #[.int .i64 8, .int .i64 8, .int .i64 55, .int .i64 2, .int .i64 56, .int .i64 (-183), .int .i64 71, .bool false, .int .i64 3]) ∧ Below w1.heap.size w1 w') := fun w1 => fmtTwo_any _ _ _ _ _ _ _ w1
 have l0 := locE_new w [.int .i64 0, .int .i64 0, .int .i64 0, .int .i64 0, .int .i64 0, .int .i64 0, .int .i64 0, .bool false, .int .i64 0] 58
 have b0 := below_alloc w (.cells #[.int .i64 0, .int .i64 0, .int .i64 0, .int .i64 0, .int .i64 0, .int .i64 0, .int .i64 0, .bool false, .int .i64 0] 58)
 go_enter Tryz.func35, Tryz.ntmps35
 go_wp2_with fail
 refine (HT.out _).mono ?_
 rintro z w2 ⟨rfl, b2⟩
 have l2 := l0.later b2
 have cR : LocE (((((((((w2.setCell ⟨w.heap.size, 0, none⟩ (.int .i64 8)).setCell ⟨w.heap.size, 1, none⟩ (.int .i64 8)).setCell ⟨w.heap.size, 2, none⟩ (.int .i64 55)).setCell ⟨w.heap.size, 3, none⟩ (.int .i64 2)).setCell ⟨w.heap.size, 4, none⟩ (.int .i64 56)).setCell ⟨w.heap.size, 5, none⟩ (.int .i64 (-183))).setCell ⟨w.heap.size, 6, none⟩ (.int .i64 71)).setCell ⟨w.heap.size, 7, none⟩ (.bool false)).setCell ⟨w.heap.size, 8, none⟩ (.int .i64 3)) w.heap.size 58 [.int .i64 8, .int .i64 8, .int .i64 55, .int .i64 2, .int .i64 56, .int .i64 (-183), .int .i64 71, .bool false, .int .i64 3] := (((((((((l2.set 0 (.int .i64 8)).set 1 (.int .i64 8)).set 2 (.int .i64 55)).set 3 (.int .i64 2)).set 4 (.int .i64 56)).set 5 (.int .i64 (-183))).set 6 (.int .i64 71)).set 7 (.bool false)).set 8 (.int .i64 3))
 have bR := (((((((((but_set w2 w.heap.size 0 (.int .i64 8)).trans (but_set _ w.heap.size 1 (.int .i64 8))).trans (but_set _ w.heap.size 2 (.int .i64 55))).trans (but_set _ w.heap.size 3 (.int .i64 2))).trans (but_set _ w.heap.size 4 (.int .i64 56))).trans (but_set _ w.heap.size 5 (.int .i64 (-183)))).trans (but_set _ w.heap.size 6 (.int .i64 71))).trans (but_set _ w.heap.size 7 (.bool false))).trans (but_set _ w.heap.size 8 (.int .i64 3))).below (below_trans b0 b2) (Nat.le_refl _)
 have hl := run_loadVar_mid (P := Tryz.prog) _ w.heap.size 0 58 [.int .i64 8, .int .i64 8, .int .i64 55, .int .i64 2, .int .i64 56, .int .i64 (-183), .int .i64 71, .bool false, .int .i64 3] _ cR.range Tryz.underlying58 rfl (by kernel_rfl)
 have HH : Hid (_ ∧ _) := ⟨hl, bR⟩
 have x0 := l2.cell 0 rfl
 have f0 := l2.free 0
 have x1 := l2.cell 1 rfl
 have f1 := l2.free 1
 have x2 := l2.cell 2 rfl
 have f2 := l2.free 2
 have x3 := l2.cell 3 rfl
 have f3 := l2.free 3
 have x4 := l2.cell 4 rfl
 have f4 := l2.free 4
 have x5 := l2.cell 5 rfl
 have f5 := l2.free 5
 have x6 := l2.cell 6 rfl
 have f6 := l2.free 6
 have x7 := l2.cell 7 rfl
 have f7 := l2.free 7
 have x8 := l2.cell 8 rfl
 have f8 := l2.free 8
 clear hl bR cR l0 l2 b0 b2 HT
 go_wp2
 obtain ⟨hl, bR⟩ := HH.out
 exact bodyPost_ret (results_two Tryz.results35 rfl rfl hl) rfl ⟨rfl, bR⟩
set_option maxHeartbeats 3200000 in
theorem format_8 (w : World) : Calls Tryz.prog 35 #[.int .i64 8] w fun z w' => z = .returned (.tuple #[.agg #[.int .i64 8, .int .i64 11, .int .i64 52, .int .i64 2, .int .i64 53, .int .i64 (-1076), .int .i64 970, .bool false, .int .i64 3], .bool true]) ∧ Below w.heap.size w w' := by
 have HT : Hid (∀ w1, Calls Tryz.prog 89 #[.int .i64 8, .int .i64 11, .int .i64 52, .int .i64 53, .int .i64 (-1076), .int .i64 970, .int .i64 3] w1 fun z w' => z = .returned (.agg #[.int .i64 8, .int .i64 11, .int .i64 52, .int .i64 2, .int .i64 53, .int .i64 (-1076), .int .i64 970, .bool false, .int .i64 3]) ∧ Below w1.heap.size w1 w') := fun w1 => fmtTwo_any _ _ _ _ _ _ _ w1
 have l0 := locE_new w [.int .i64 0, .int .i64 0, .int .i64 0, .int .i64 0, .int .i64 0, .int .i64 0, .int .i64 0, .bool false, .int .i64 0] 58
 have b0 := below_alloc w (.cells #[.int .i64 0, .int .i64 0, .int .i64 0, .int .i64 0, .int .i64 0, .int .i64 0, .int .i64 0, .bool false, .int .i64 0] 58)
 go_enter Tryz.func35, Tryz.ntmps35
 go_wp2_with fail
 refine (HT.out _).mono ?_
 rintro z w2 ⟨rfl, b2⟩
 have l2 := l0.later b2
 have cR : LocE (((((((((w2.setCell ⟨w.heap.size, 0, none⟩ (.int .i64 8)).setCell ⟨w.heap.size, 1, none⟩ (.int .i64 11)).setCell ⟨w.heap.size, 2, none⟩ (.int .i64 52)).setCell ⟨w.heap.size, 3, none⟩ (.int .i64 2)).setCell ⟨w.heap.size, 4, none⟩ (.int .i64 53)).setCell ⟨w.heap.size, 5, none⟩ (.int .i64 (-1076))).setCell ⟨w.heap.size, 6, none⟩ (.int .i64 970)).setCell ⟨w.heap.size, 7, none⟩ (.bool false)).setCell ⟨w.heap.size, 8, none⟩ (.int .i64 3)) w.heap.size 58 [.int .i64 8, .int .i64 11, .int .i64 52, .int .i64 2, .int .i64 53, .int .i64 (-1076), .int .i64 970, .bool false, .int .i64 3] := (((((((((l2.set 0 (.int .i64 8)).set 1 (.int .i64 11)).set 2 (.int .i64 52)).set 3 (.int .i64 2)).set 4 (.int .i64 53)).set 5 (.int .i64 (-1076))).set 6 (.int .i64 970)).set 7 (.bool false)).set 8 (.int .i64 3))
 have bR := (((((((((but_set w2 w.heap.size 0 (.int .i64 8)).trans (but_set _ w.heap.size 1 (.int .i64 11))).trans (but_set _ w.heap.size 2 (.int .i64 52))).trans (but_set _ w.heap.size 3 (.int .i64 2))).trans (but_set _ w.heap.size 4 (.int .i64 53))).trans (but_set _ w.heap.size 5 (.int .i64 (-1076)))).trans (but_set _ w.heap.size 6 (.int .i64 970))).trans (but_set _ w.heap.size 7 (.bool false))).trans (but_set _ w.heap.size 8 (.int .i64 3))).below (below_trans b0 b2) (Nat.le_refl _)
 have hl := run_loadVar_mid (P := Tryz.prog) _ w.heap.size 0 58 [.int .i64 8, .int .i64 11, .int .i64 52, .int .i64 2, .int .i64 53, .int .i64 (-1076), .int .i64 970, .bool false, .int .i64 3] _ cR.range Tryz.underlying58 rfl (by kernel_rfl)
 have HH : Hid (_ ∧ _) := ⟨hl, bR⟩
 have x0 := l2.cell 0 rfl
 have f0 := l2.free 0
 have x1 := l2.cell 1 rfl
 have f1 := l2.free 1
 have x2 := l2.cell 2 rfl
 have f2 := l2.free 2
 have x3 := l2.cell 3 rfl
 have f3 := l2.free 3
 have x4 := l2.cell 4 rfl
 have f4 := l2.free 4
 have x5 := l2.cell 5 rfl
 have f5 := l2.free 5
 have x6 := l2.cell 6 rfl
 have f6 := l2.free 6
 have x7 := l2.cell 7 rfl
 have f7 := l2.free 7
 have x8 := l2.cell 8 rfl
 have f8 := l2.free 8
 clear hl bR cR l0 l2 b0 b2 HT
 go_wp2
 obtain ⟨hl, bR⟩ := HH.out
 exact bodyPost_ret (results_two Tryz.results35 rfl rfl hl) rfl ⟨rfl, bR⟩
end Go.Proofs.YtnhackdjplppjaaGreatDoor
namespace Go.Proofs.YtnhackdjplppjaaGreatDoor
open Go.RowKit
def fmtV : Nat → List Value
 | 1 => [.int .i64 4, .int .i64 8, .int .i64 23, .int .i64 2, .int .i64 24, .int .i64 (-149), .int .i64 104, .bool true, .int .i64 1]
 | 2 => [.int .i64 8, .int .i64 11, .int .i64 52, .int .i64 2, .int .i64 53, .int .i64 (-1074), .int .i64 971, .bool true, .int .i64 1]
 | 3 => [.int .i64 10, .int .i64 15, .int .i64 64, .int .i64 2, .int .i64 64, .int .i64 (-16445), .int .i64 16320, .bool true, .int .i64 1]
 | 4 => [.int .i64 4, .int .i64 7, .int .i64 24, .int .i64 16, .int .i64 6, .int .i64 (-70), .int .i64 57, .bool false, .int .i64 2]
 | 5 => [.int .i64 8, .int .i64 7, .int .i64 56, .int .i64 16, .int .i64 14, .int .i64 (-78), .int .i64 49, .bool false, .int .i64 2]
 | 6 => [.int .i64 4, .int .i64 8, .int .i64 23, .int .i64 2, .int .i64 24, .int .i64 (-151), .int .i64 103, .bool false, .int .i64 3]
 | 7 => [.int .i64 8, .int .i64 8, .int .i64 55, .int .i64 2, .int .i64 56, .int .i64 (-183), .int .i64 71, .bool false, .int .i64 3]
 | 8 => [.int .i64 8, .int .i64 11, .int .i64 52, .int .i64 2, .int .i64 53, .int .i64 (-1076), .int .i64 970, .bool false, .int .i64 3]
 | _ => [.int .i64 0, .int .i64 0, .int .i64 0, .int .i64 0, .int .i64 0, .int .i64 0, .int .i64 0, .bool false, .int .i64 0]
theorem format_any (k : Nat) (hk : 1 ≤ k ∧ k ≤ 8) (w : World) : Calls Tryz.prog 35 #[.int .i64 (k : Int)] w fun z w' => z = .returned (.tuple #[.agg (fmtV k).toArray, .bool true]) ∧ Below w.heap.size w w' := by
 rcases eight hk with rfl | rfl | rfl | rfl | rfl | rfl | rfl | rfl
 ·exact format_1 w
 ·exact format_2 w
 ·exact format_3 w
 ·exact format_4 w
 ·exact format_5 w
 ·exact format_6 w
 ·exact format_7 w
 ·exact format_8 w
def plN (k i : Nat) : Nat := if k = 3 then szN k - 1 - i else if 6 ≤ k then i + 1 - 2 * (i % 2) else i
theorem plN_at (k : Nat) (zs : List Nat) (i : Nat) (hk : zs.length = szN k) (hi : i < zs.length) : (turnB k zs).getD i 0 = zs.getD (plN k i) 0 := by
 unfold turnB plN
 by_cases h3 : k = 3
 ·rw [if_pos h3, if_pos h3, List.getD_eq_getElem?_getD, List.getElem?_reverse hi, ← List.getD_eq_getElem?_getD, hk]
 ·rw [if_neg h3, if_neg h3]
  by_cases h6 : 6 ≤ k
  ·rw [if_pos h6, if_pos h6, turnW_at zs i hi]
  ·rw [if_neg h6, if_neg h6]
theorem plN_lt {k i : Nat} (hk : 1 ≤ k ∧ k ≤ 8) (hi : i < szN k) : plN k i < szN k := by
 obtain ⟨m, hm⟩ := (sizes_fit hk).2.2.2.2.1
 unfold plN
 split
 ·omega
 ·split <;> omega
set_option maxHeartbeats 1600000 in
theorem place_W (n : Int) (sz ex fr : Nat) (R D L G fam : Int) (gr : Bool) (i : Nat) (w : World) (hi : i < sz) (hsz : sz ≤ 10)
  (HF : ∀ w1, Calls Tryz.prog 35 #[.int .i64 n] w1 fun z w' => z = .returned (.tuple #[.agg #[.int .i64 (sz : Int), .int .i64 (ex : Int), .int .i64 (fr : Int), .int .i64 R, .int .i64 D, .int .i64 L, .int .i64 G, .bool gr, .int .i64 fam], .bool true]) ∧ Below w1.heap.size w1 w') :
  Calls Tryz.prog 171 #[.int .i64 n, .int .i64 (i : Int)] w fun z w' => z = .returned (.int .i64 (if n = 3 then (sz : Int) - 1 - i else if fam = 3 then (i : Int) + 1 - 2 * ((i : Int) % 2) else (i : Int))) ∧ Below w.heap.size w w' := by
 have HF' : Hid _ := HF
 clear HF
 by_cases h3 : n = 3
 ·subst h3
  rw [if_pos rfl]
  go_enter Tryz.func171, Tryz.ntmps171
  go_wp2_with fail
  refine (HF'.out _).mono ?_
  rintro z w1 ⟨rfl, b1⟩
  go_wp2
  go_ret
  exact ⟨by go_num, below_trans b1 (below_alloc _ _)⟩
 ·have hn : (n == 3) = false := by simpa using h3
  rw [if_neg h3]
  by_cases hf : fam = 3
  ·subst hf
   rw [if_pos rfl]
   clear h3
   go_enter Tryz.func171, Tryz.ntmps171
   go_wp2_with fail
   refine (HF'.out _).mono ?_
   rintro z w1 ⟨rfl, b1⟩
   go_wp2
   go_ret
   exact ⟨by go_num, below_trans b1 (below_alloc _ _)⟩
  ·have hfb : (fam == 3) = false := by simpa using hf
   rw [if_neg hf]
   clear h3 hf
   go_enter Tryz.func171, Tryz.ntmps171
   go_wp2_with fail
   refine (HF'.out _).mono ?_
   rintro z w1 ⟨rfl, b1⟩
   go_wp2
   go_ret
   exact ⟨rfl, below_trans b1 (below_alloc _ _)⟩
theorem place_any (k : Nat) (hk : 1 ≤ k ∧ k ≤ 8) (i : Nat) (hi : i < szN k) (w : World) : Calls Tryz.prog 171 #[.int .i64 (k : Int), .int .i64 (i : Int)] w fun z w' => z = .returned (.int .i64 ((plN k i : Nat) : Int)) ∧ Below w.heap.size w w' := by
 have HF := fun w1 => format_any k hk w1
 have hsz := (sizes_fit hk).2.2.1
 have key : ∀ x : Int, ((plN k i : Nat) : Int) = x → Calls Tryz.prog 171 #[.int .i64 (k : Int), .int .i64 (i : Int)] w (fun z w' => z = .returned (.int .i64 x) ∧ Below w.heap.size w w') → Calls Tryz.prog 171 #[.int .i64 (k : Int), .int .i64 (i : Int)] w (fun z w' => z = .returned (.int .i64 ((plN k i : Nat) : Int)) ∧ Below w.heap.size w w') := fun x hx h => by rw [hx]; exact h
 rcases eight hk with rfl | rfl | rfl | rfl | rfl | rfl | rfl | rfl
 ·exact key _ (by unfold plN; simp) (place_W _ _ _ _ _ _ _ _ _ _ i w hi hsz HF)
 ·exact key _ (by unfold plN; simp) (place_W _ _ _ _ _ _ _ _ _ _ i w hi hsz HF)
 ·exact key _ (by unfold plN; simp only [szN] at hi ⊢; simp; omega) (place_W _ _ _ _ _ _ _ _ _ _ i w hi hsz HF)
 ·exact key _ (by unfold plN; simp) (place_W _ _ _ _ _ _ _ _ _ _ i w hi hsz HF)
 ·exact key _ (by unfold plN; simp) (place_W _ _ _ _ _ _ _ _ _ _ i w hi hsz HF)
 ·exact key _ (by unfold plN; simp; omega) (place_W _ _ _ _ _ _ _ _ _ _ i w hi hsz HF)
 ·exact key _ (by unfold plN; simp; omega) (place_W _ _ _ _ _ _ _ _ _ _ i w hi hsz HF)
 ·exact key _ (by unfold plN; simp; omega) (place_W _ _ _ _ _ _ _ _ _ _ i w hi hsz HF)
set_option maxHeartbeats 1600000 in
theorem open_none (n : Int) (s : ByteArray) (w : World) (h : famC n = 0) : Calls Tryz.prog 56 #[.int .i64 n, .string s] w fun z w' => z = .returned (.int .i64 6) ∧ Below w.heap.size w w' := by
 have HF : Hid (∀ w1, Calls Tryz.prog 35 #[.int .i64 n] w1 fun z w' => z = .returned (.tuple #[.agg #[.int .i64 0, .int .i64 0, .int .i64 0, .int .i64 0, .int .i64 0, .int .i64 0, .int .i64 0, .bool false, .int .i64 0], .bool false]) ∧ Below w1.heap.size w1 w') := fun w1 => format_none n w1 h
 clear h
 go_enter Tryz.func56, Tryz.ntmps56
 go_wp2_with fail
 refine (HF.out _).mono ?_
 rintro z w1 ⟨rfl, b1⟩
 go_wp2
 go_ret
 exact ⟨rfl, below_trans b1 (below_alloc _ _)⟩
set_option maxHeartbeats 1600000 in
theorem open_W (n : Int) (sz ex fr : Nat) (R D L G fam : Int) (gr : Bool) (s : ByteArray) (w : World)
  (HF : ∀ w1, Calls Tryz.prog 35 #[.int .i64 n] w1 fun z w' => z = .returned (.tuple #[.agg #[.int .i64 (sz : Int), .int .i64 (ex : Int), .int .i64 (fr : Int), .int .i64 R, .int .i64 D, .int .i64 L, .int .i64 G, .bool gr, .int .i64 fam], .bool true]) ∧ Below w1.heap.size w1 w') :
  Calls Tryz.prog 56 #[.int .i64 n, .string s] w fun z w' => z = .returned (.int .i64 (if s.size = sz then 0 else 1)) ∧ Below w.heap.size w w' := by
 have HF' : Hid _ := HF
 clear HF
 by_cases hs : s.size = sz
 ·rw [if_pos hs]
  go_enter Tryz.func56, Tryz.ntmps56
  go_wp2_with fail
  refine (HF'.out _).mono ?_
  rintro z w1 ⟨rfl, b1⟩
  go_wp2
  go_ret
  exact ⟨rfl, below_trans b1 (below_alloc _ _)⟩
 ·rw [if_neg hs]
  have hb : ((s.size : Int) == (sz : Int)) = false := by simp; omega
  clear hs
  go_enter Tryz.func56, Tryz.ntmps56
  go_wp2_with fail
  refine (HF'.out _).mono ?_
  rintro z w1 ⟨rfl, b1⟩
  go_wp2
  go_ret
  exact ⟨rfl, below_trans b1 (below_alloc _ _)⟩
end Go.Proofs.YtnhackdjplppjaaGreatDoor

/-
  Texts laid together: Co3.
-/
import Derived.Test.YtiiphandhpilgaaDoorEb06
namespace Go.Proofs.YtiiphandhpilgaaDoor
open Go.RowKit
/-- What a function hands back that has two results: a struct that lies in a block, and a value. -/
theorem results_two {P : Program} {fn : Func} {a t : Nat} {ty : TypeId} {tmps : Array Value} {w : World} {b : Nat} {v u : Value} (hres : fn.results = #[.cell a ty, .tmp t]) (hp : tmps.getD a undef = .pointer (some ⟨b, 0, none⟩)) (hu : tmps.getD t undef = u) (hl : (loadVar ty ⟨b, 0, none⟩).run P w = .ok v w) : (results fn tmps).run P w = .ok (.tuple #[v, u]) w := by
  rw [Array.getD_eq_getD_getElem?] at hp hu
  unfold results
  simp [hres, hp, hu, asAddr, hl]

/-- What layoutOf answers. -/
def LayRes (w : World) (n : Nat) (c : Int) (e : Ending) (w' : World) : Prop :=
  e = .returned (.tuple #[.agg (layV n).toArray, .int .i64 c]) ∧ Below w.heap.size w w'

set_option maxRecDepth 100000 in
set_option maxHeartbeats 3200000 in
theorem layoutOf_none (n : Int) (w : World) (h : famC n = 0) : Calls Tryd.prog 10 #[.int .i64 n] w (LayRes w 0 6) := by
  have hf := family_any n
  rw [h] at hf
  have HF : Hid (∀ w1, Calls Tryd.prog 16 #[.int .i64 n] w1 fun z w' => z = .returned (.int .i64 0) ∧ w' = w1) := hf
  clear hf h
  have l0 := locE_new w [.int .i64 0, .int .i64 0, .int .i64 0, .int .i64 0, .bool false, .int .i64 0, .int .i64 0, .int .i64 0, .nilFunc] 44
  have hsn : ∀ (a : Addr) (W : World), (store a Value.nilFunc).run Tryd.prog W = stored Tryd.prog W a Value.nilFunc .plain := fun a W => run_store _ W a _ _ rfl
  have b0 := below_alloc w (.cells #[.int .i64 0, .int .i64 0, .int .i64 0, .int .i64 0, .bool false, .int .i64 0, .int .i64 0, .int .i64 0, .nilFunc] 44)
  have hl := run_loadVar_mid (P := Tryd.prog) _ w.heap.size 0 44 (layV 0) _ l0.range Tryd.underlying44 rfl (by kernel_rfl)
  have HH : Hid (_ ∧ _) := ⟨hl, b0⟩
  clear hl b0 l0
  go_enter Tryd.func10, Tryd.ntmps10
  go_wp2_with fail
  refine (HF.out _).mono ?_
  rintro z w' ⟨rfl, rfl⟩
  go_wp2
  obtain ⟨hl, bR⟩ := HH.out
  exact bodyPost_ret (results_two Tryd.results10 rfl rfl hl) rfl ⟨rfl, bR⟩

set_option maxRecDepth 100000 in
set_option maxHeartbeats 3200000 in
theorem layoutOf_1 (w : World) : Calls Tryd.prog 10 #[.int .i64 1] w (LayRes w 1 0) := by
  have HF : Hid (∀ w1, Calls Tryd.prog 16 #[.int .i64 1] w1 fun z w' => z = .returned (.int .i64 1) ∧ w' = w1) := family_any 1
  have HL : Hid (∀ w1, Calls Tryd.prog 17 #[] w1 fun z w' => z = .returned (.agg #[.int .i64 0, .int .i64 0, .int .i64 0, .int .i64 0, .bool false, .int .i64 0, .int .i64 0, .int .i64 0, .nilFunc, .int .i64 2, .int .i64 24, .int .i64 (-149), .int .i64 104, .bool true, .int .i64 4, .int .i64 8, .int .i64 1, .func (.func 28) #[] #[], .int .i64 2, .int .i64 53, .int .i64 (-1074), .int .i64 971, .bool true, .int .i64 8, .int .i64 11, .int .i64 1, .func (.func 28) #[] #[], .int .i64 2, .int .i64 64, .int .i64 (-16445), .int .i64 16320, .bool true, .int .i64 10, .int .i64 15, .int .i64 1, .func (.func 29) #[] #[], .int .i64 16, .int .i64 6, .int .i64 (-70), .int .i64 57, .bool false, .int .i64 4, .int .i64 7, .int .i64 2, .func (.func 28) #[] #[], .int .i64 16, .int .i64 14, .int .i64 (-78), .int .i64 49, .bool false, .int .i64 8, .int .i64 7, .int .i64 2, .func (.func 28) #[] #[], .int .i64 2, .int .i64 24, .int .i64 (-151), .int .i64 103, .bool false, .int .i64 4, .int .i64 8, .int .i64 3, .func (.func 31) #[] #[], .int .i64 2, .int .i64 56, .int .i64 (-183), .int .i64 71, .bool false, .int .i64 8, .int .i64 8, .int .i64 3, .func (.func 31) #[] #[], .int .i64 2, .int .i64 53, .int .i64 (-1076), .int .i64 970, .bool false, .int .i64 8, .int .i64 11, .int .i64 3, .func (.func 31) #[] #[]]) ∧ Below w1.heap.size w1 w') := layouts_any
  have hsf : ∀ (a : Addr) (W : World) (g : Fn), (store a (Value.func g #[] #[])).run Tryd.prog W = stored Tryd.prog W a (Value.func g #[] #[]) .plain := fun a W g => run_store _ W a _ _ rfl
  have hix : ∀ W : World, (Instr.index 56 (.agg #[.int .i64 0, .int .i64 0, .int .i64 0, .int .i64 0, .bool false, .int .i64 0, .int .i64 0, .int .i64 0, .nilFunc, .int .i64 2, .int .i64 24, .int .i64 (-149), .int .i64 104, .bool true, .int .i64 4, .int .i64 8, .int .i64 1, .func (.func 28) #[] #[], .int .i64 2, .int .i64 53, .int .i64 (-1074), .int .i64 971, .bool true, .int .i64 8, .int .i64 11, .int .i64 1, .func (.func 28) #[] #[], .int .i64 2, .int .i64 64, .int .i64 (-16445), .int .i64 16320, .bool true, .int .i64 10, .int .i64 15, .int .i64 1, .func (.func 29) #[] #[], .int .i64 16, .int .i64 6, .int .i64 (-70), .int .i64 57, .bool false, .int .i64 4, .int .i64 7, .int .i64 2, .func (.func 28) #[] #[], .int .i64 16, .int .i64 14, .int .i64 (-78), .int .i64 49, .bool false, .int .i64 8, .int .i64 7, .int .i64 2, .func (.func 28) #[] #[], .int .i64 2, .int .i64 24, .int .i64 (-151), .int .i64 103, .bool false, .int .i64 4, .int .i64 8, .int .i64 3, .func (.func 31) #[] #[], .int .i64 2, .int .i64 56, .int .i64 (-183), .int .i64 71, .bool false, .int .i64 8, .int .i64 8, .int .i64 3, .func (.func 31) #[] #[], .int .i64 2, .int .i64 53, .int .i64 (-1076), .int .i64 970, .bool false, .int .i64 8, .int .i64 11, .int .i64 3, .func (.func 31) #[] #[]]) (.int .i64 1)).run Tryd.prog W = .ok (.agg #[.int .i64 2, .int .i64 24, .int .i64 (-149), .int .i64 104, .bool true, .int .i64 4, .int .i64 8, .int .i64 1, .func (.func 28) #[] #[]]) W := fun W => by kernel_rfl
  have l0 := locE_new w [.int .i64 0, .int .i64 0, .int .i64 0, .int .i64 0, .bool false, .int .i64 0, .int .i64 0, .int .i64 0, .nilFunc] 44
  have b0 := below_alloc w (.cells #[.int .i64 0, .int .i64 0, .int .i64 0, .int .i64 0, .bool false, .int .i64 0, .int .i64 0, .int .i64 0, .nilFunc] 44)
  go_enter Tryd.func10, Tryd.ntmps10
  go_wp2_with fail
  refine (HF.out _).mono ?_
  rintro z w' ⟨rfl, rfl⟩
  go_wp2_with fail
  refine (HL.out _).mono ?_
  rintro z w2 ⟨rfl, b2⟩
  have l2 := l0.later b2
  have cR : LocE (((((((((w2.setCell ⟨w.heap.size, 0, none⟩ (.int .i64 2)).setCell ⟨w.heap.size, 1, none⟩ (.int .i64 24)).setCell ⟨w.heap.size, 2, none⟩ (.int .i64 (-149))).setCell ⟨w.heap.size, 3, none⟩ (.int .i64 104)).setCell ⟨w.heap.size, 4, none⟩ (.bool true)).setCell ⟨w.heap.size, 5, none⟩ (.int .i64 4)).setCell ⟨w.heap.size, 6, none⟩ (.int .i64 8)).setCell ⟨w.heap.size, 7, none⟩ (.int .i64 1)).setCell ⟨w.heap.size, 8, none⟩ (.func (.func 28) #[] #[])) w.heap.size 44 (layV 1) := (((((((((l2.set 0 (.int .i64 2)).set 1 (.int .i64 24)).set 2 (.int .i64 (-149))).set 3 (.int .i64 104)).set 4 (.bool true)).set 5 (.int .i64 4)).set 6 (.int .i64 8)).set 7 (.int .i64 1)).set 8 (.func (.func 28) #[] #[]))
  have bR := (((((((((but_set w2 w.heap.size 0 (.int .i64 2)).trans (but_set _ w.heap.size 1 (.int .i64 24))).trans (but_set _ w.heap.size 2 (.int .i64 (-149)))).trans (but_set _ w.heap.size 3 (.int .i64 104))).trans (but_set _ w.heap.size 4 (.bool true))).trans (but_set _ w.heap.size 5 (.int .i64 4))).trans (but_set _ w.heap.size 6 (.int .i64 8))).trans (but_set _ w.heap.size 7 (.int .i64 1))).trans (but_set _ w.heap.size 8 (.func (.func 28) #[] #[]))).below (below_trans b0 b2) (Nat.le_refl _)
  have hl := run_loadVar_mid (P := Tryd.prog) _ w.heap.size 0 44 (layV 1) _ cR.range Tryd.underlying44 rfl (by kernel_rfl)
  have HH : Hid (_ ∧ _) := ⟨hl, bR⟩
  have x0 := l2.cell 0 rfl
  have f0 := l2.free 0
  have x1 := l2.cell 1 rfl
  have f1 := l2.free 1
  have x2 := l2.cell 2 rfl
  have f2 := l2.free 2
  have x3 := l2.cell 3 rfl
  have f3 := l2.free 3
  have x4 := l2.cell 4 rfl
  have f4 := l2.free 4
  have x5 := l2.cell 5 rfl
  have f5 := l2.free 5
  have x6 := l2.cell 6 rfl
  have f6 := l2.free 6
  have x7 := l2.cell 7 rfl
  have f7 := l2.free 7
  have x8 := l2.cell 8 rfl
  have f8 := l2.free 8
  clear hl bR cR l0 l2 b0 b2 HF HL
  go_wp2
  obtain ⟨hl, bR⟩ := HH.out
  exact bodyPost_ret (results_two Tryd.results10 rfl rfl hl) rfl ⟨rfl, bR⟩

set_option maxRecDepth 100000 in
set_option maxHeartbeats 3200000 in
theorem layoutOf_2 (w : World) : Calls Tryd.prog 10 #[.int .i64 2] w (LayRes w 2 0) := by
  have HF : Hid (∀ w1, Calls Tryd.prog 16 #[.int .i64 2] w1 fun z w' => z = .returned (.int .i64 1) ∧ w' = w1) := family_any 2
  have HL : Hid (∀ w1, Calls Tryd.prog 17 #[] w1 fun z w' => z = .returned (.agg #[.int .i64 0, .int .i64 0, .int .i64 0, .int .i64 0, .bool false, .int .i64 0, .int .i64 0, .int .i64 0, .nilFunc, .int .i64 2, .int .i64 24, .int .i64 (-149), .int .i64 104, .bool true, .int .i64 4, .int .i64 8, .int .i64 1, .func (.func 28) #[] #[], .int .i64 2, .int .i64 53, .int .i64 (-1074), .int .i64 971, .bool true, .int .i64 8, .int .i64 11, .int .i64 1, .func (.func 28) #[] #[], .int .i64 2, .int .i64 64, .int .i64 (-16445), .int .i64 16320, .bool true, .int .i64 10, .int .i64 15, .int .i64 1, .func (.func 29) #[] #[], .int .i64 16, .int .i64 6, .int .i64 (-70), .int .i64 57, .bool false, .int .i64 4, .int .i64 7, .int .i64 2, .func (.func 28) #[] #[], .int .i64 16, .int .i64 14, .int .i64 (-78), .int .i64 49, .bool false, .int .i64 8, .int .i64 7, .int .i64 2, .func (.func 28) #[] #[], .int .i64 2, .int .i64 24, .int .i64 (-151), .int .i64 103, .bool false, .int .i64 4, .int .i64 8, .int .i64 3, .func (.func 31) #[] #[], .int .i64 2, .int .i64 56, .int .i64 (-183), .int .i64 71, .bool false, .int .i64 8, .int .i64 8, .int .i64 3, .func (.func 31) #[] #[], .int .i64 2, .int .i64 53, .int .i64 (-1076), .int .i64 970, .bool false, .int .i64 8, .int .i64 11, .int .i64 3, .func (.func 31) #[] #[]]) ∧ Below w1.heap.size w1 w') := layouts_any
  have hsf : ∀ (a : Addr) (W : World) (g : Fn), (store a (Value.func g #[] #[])).run Tryd.prog W = stored Tryd.prog W a (Value.func g #[] #[]) .plain := fun a W g => run_store _ W a _ _ rfl
  have hix : ∀ W : World, (Instr.index 56 (.agg #[.int .i64 0, .int .i64 0, .int .i64 0, .int .i64 0, .bool false, .int .i64 0, .int .i64 0, .int .i64 0, .nilFunc, .int .i64 2, .int .i64 24, .int .i64 (-149), .int .i64 104, .bool true, .int .i64 4, .int .i64 8, .int .i64 1, .func (.func 28) #[] #[], .int .i64 2, .int .i64 53, .int .i64 (-1074), .int .i64 971, .bool true, .int .i64 8, .int .i64 11, .int .i64 1, .func (.func 28) #[] #[], .int .i64 2, .int .i64 64, .int .i64 (-16445), .int .i64 16320, .bool true, .int .i64 10, .int .i64 15, .int .i64 1, .func (.func 29) #[] #[], .int .i64 16, .int .i64 6, .int .i64 (-70), .int .i64 57, .bool false, .int .i64 4, .int .i64 7, .int .i64 2, .func (.func 28) #[] #[], .int .i64 16, .int .i64 14, .int .i64 (-78), .int .i64 49, .bool false, .int .i64 8, .int .i64 7, .int .i64 2, .func (.func 28) #[] #[], .int .i64 2, .int .i64 24, .int .i64 (-151), .int .i64 103, .bool false, .int .i64 4, .int .i64 8, .int .i64 3, .func (.func 31) #[] #[], .int .i64 2, .int .i64 56, .int .i64 (-183), .int .i64 71, .bool false, .int .i64 8, .int .i64 8, .int .i64 3, .func (.func 31) #[] #[], .int .i64 2, .int .i64 53, .int .i64 (-1076), .int .i64 970, .bool false, .int .i64 8, .int .i64 11, .int .i64 3, .func (.func 31) #[] #[]]) (.int .i64 2)).run Tryd.prog W = .ok (.agg #[.int .i64 2, .int .i64 53, .int .i64 (-1074), .int .i64 971, .bool true, .int .i64 8, .int .i64 11, .int .i64 1, .func (.func 28) #[] #[]]) W := fun W => by kernel_rfl
  have l0 := locE_new w [.int .i64 0, .int .i64 0, .int .i64 0, .int .i64 0, .bool false, .int .i64 0, .int .i64 0, .int .i64 0, .nilFunc] 44
  have b0 := below_alloc w (.cells #[.int .i64 0, .int .i64 0, .int .i64 0, .int .i64 0, .bool false, .int .i64 0, .int .i64 0, .int .i64 0, .nilFunc] 44)
  go_enter Tryd.func10, Tryd.ntmps10
  go_wp2_with fail
  refine (HF.out _).mono ?_
  rintro z w' ⟨rfl, rfl⟩
  go_wp2_with fail
  refine (HL.out _).mono ?_
  rintro z w2 ⟨rfl, b2⟩
  have l2 := l0.later b2
  have cR : LocE (((((((((w2.setCell ⟨w.heap.size, 0, none⟩ (.int .i64 2)).setCell ⟨w.heap.size, 1, none⟩ (.int .i64 53)).setCell ⟨w.heap.size, 2, none⟩ (.int .i64 (-1074))).setCell ⟨w.heap.size, 3, none⟩ (.int .i64 971)).setCell ⟨w.heap.size, 4, none⟩ (.bool true)).setCell ⟨w.heap.size, 5, none⟩ (.int .i64 8)).setCell ⟨w.heap.size, 6, none⟩ (.int .i64 11)).setCell ⟨w.heap.size, 7, none⟩ (.int .i64 1)).setCell ⟨w.heap.size, 8, none⟩ (.func (.func 28) #[] #[])) w.heap.size 44 (layV 2) := (((((((((l2.set 0 (.int .i64 2)).set 1 (.int .i64 53)).set 2 (.int .i64 (-1074))).set 3 (.int .i64 971)).set 4 (.bool true)).set 5 (.int .i64 8)).set 6 (.int .i64 11)).set 7 (.int .i64 1)).set 8 (.func (.func 28) #[] #[]))
  have bR := (((((((((but_set w2 w.heap.size 0 (.int .i64 2)).trans (but_set _ w.heap.size 1 (.int .i64 53))).trans (but_set _ w.heap.size 2 (.int .i64 (-1074)))).trans (but_set _ w.heap.size 3 (.int .i64 971))).trans (but_set _ w.heap.size 4 (.bool true))).trans (but_set _ w.heap.size 5 (.int .i64 8))).trans (but_set _ w.heap.size 6 (.int .i64 11))).trans (but_set _ w.heap.size 7 (.int .i64 1))).trans (but_set _ w.heap.size 8 (.func (.func 28) #[] #[]))).below (below_trans b0 b2) (Nat.le_refl _)
  have hl := run_loadVar_mid (P := Tryd.prog) _ w.heap.size 0 44 (layV 2) _ cR.range Tryd.underlying44 rfl (by kernel_rfl)
  have HH : Hid (_ ∧ _) := ⟨hl, bR⟩
  have x0 := l2.cell 0 rfl
  have f0 := l2.free 0
  have x1 := l2.cell 1 rfl
  have f1 := l2.free 1
  have x2 := l2.cell 2 rfl
  have f2 := l2.free 2
  have x3 := l2.cell 3 rfl
  have f3 := l2.free 3
  have x4 := l2.cell 4 rfl
  have f4 := l2.free 4
  have x5 := l2.cell 5 rfl
  have f5 := l2.free 5
  have x6 := l2.cell 6 rfl
  have f6 := l2.free 6
  have x7 := l2.cell 7 rfl
  have f7 := l2.free 7
  have x8 := l2.cell 8 rfl
  have f8 := l2.free 8
  clear hl bR cR l0 l2 b0 b2 HF HL
  go_wp2
  obtain ⟨hl, bR⟩ := HH.out
  exact bodyPost_ret (results_two Tryd.results10 rfl rfl hl) rfl ⟨rfl, bR⟩

set_option maxRecDepth 100000 in
set_option maxHeartbeats 3200000 in
theorem layoutOf_3 (w : World) : Calls Tryd.prog 10 #[.int .i64 3] w (LayRes w 3 0) := by
  have HF : Hid (∀ w1, Calls Tryd.prog 16 #[.int .i64 3] w1 fun z w' => z = .returned (.int .i64 1) ∧ w' = w1) := family_any 3
  have HL : Hid (∀ w1, Calls Tryd.prog 17 #[] w1 fun z w' => z = .returned (.agg #[.int .i64 0, .int .i64 0, .int .i64 0, .int .i64 0, .bool false, .int .i64 0, .int .i64 0, .int .i64 0, .nilFunc, .int .i64 2, .int .i64 24, .int .i64 (-149), .int .i64 104, .bool true, .int .i64 4, .int .i64 8, .int .i64 1, .func (.func 28) #[] #[], .int .i64 2, .int .i64 53, .int .i64 (-1074), .int .i64 971, .bool true, .int .i64 8, .int .i64 11, .int .i64 1, .func (.func 28) #[] #[], .int .i64 2, .int .i64 64, .int .i64 (-16445), .int .i64 16320, .bool true, .int .i64 10, .int .i64 15, .int .i64 1, .func (.func 29) #[] #[], .int .i64 16, .int .i64 6, .int .i64 (-70), .int .i64 57, .bool false, .int .i64 4, .int .i64 7, .int .i64 2, .func (.func 28) #[] #[], .int .i64 16, .int .i64 14, .int .i64 (-78), .int .i64 49, .bool false, .int .i64 8, .int .i64 7, .int .i64 2, .func (.func 28) #[] #[], .int .i64 2, .int .i64 24, .int .i64 (-151), .int .i64 103, .bool false, .int .i64 4, .int .i64 8, .int .i64 3, .func (.func 31) #[] #[], .int .i64 2, .int .i64 56, .int .i64 (-183), .int .i64 71, .bool false, .int .i64 8, .int .i64 8, .int .i64 3, .func (.func 31) #[] #[], .int .i64 2, .int .i64 53, .int .i64 (-1076), .int .i64 970, .bool false, .int .i64 8, .int .i64 11, .int .i64 3, .func (.func 31) #[] #[]]) ∧ Below w1.heap.size w1 w') := layouts_any
  have hsf : ∀ (a : Addr) (W : World) (g : Fn), (store a (Value.func g #[] #[])).run Tryd.prog W = stored Tryd.prog W a (Value.func g #[] #[]) .plain := fun a W g => run_store _ W a _ _ rfl
  have hix : ∀ W : World, (Instr.index 56 (.agg #[.int .i64 0, .int .i64 0, .int .i64 0, .int .i64 0, .bool false, .int .i64 0, .int .i64 0, .int .i64 0, .nilFunc, .int .i64 2, .int .i64 24, .int .i64 (-149), .int .i64 104, .bool true, .int .i64 4, .int .i64 8, .int .i64 1, .func (.func 28) #[] #[], .int .i64 2, .int .i64 53, .int .i64 (-1074), .int .i64 971, .bool true, .int .i64 8, .int .i64 11, .int .i64 1, .func (.func 28) #[] #[], .int .i64 2, .int .i64 64, .int .i64 (-16445), .int .i64 16320, .bool true, .int .i64 10, .int .i64 15, .int .i64 1, .func (.func 29) #[] #[], .int .i64 16, .int .i64 6, .int .i64 (-70), .int .i64 57, .bool false, .int .i64 4, .int .i64 7, .int .i64 2, .func (.func 28) #[] #[], .int .i64 16, .int .i64 14, .int .i64 (-78), .int .i64 49, .bool false, .int .i64 8, .int .i64 7, .int .i64 2, .func (.func 28) #[] #[], .int .i64 2, .int .i64 24, .int .i64 (-151), .int .i64 103, .bool false, .int .i64 4, .int .i64 8, .int .i64 3, .func (.func 31) #[] #[], .int .i64 2, .int .i64 56, .int .i64 (-183), .int .i64 71, .bool false, .int .i64 8, .int .i64 8, .int .i64 3, .func (.func 31) #[] #[], .int .i64 2, .int .i64 53, .int .i64 (-1076), .int .i64 970, .bool false, .int .i64 8, .int .i64 11, .int .i64 3, .func (.func 31) #[] #[]]) (.int .i64 3)).run Tryd.prog W = .ok (.agg #[.int .i64 2, .int .i64 64, .int .i64 (-16445), .int .i64 16320, .bool true, .int .i64 10, .int .i64 15, .int .i64 1, .func (.func 29) #[] #[]]) W := fun W => by kernel_rfl
  have l0 := locE_new w [.int .i64 0, .int .i64 0, .int .i64 0, .int .i64 0, .bool false, .int .i64 0, .int .i64 0, .int .i64 0, .nilFunc] 44
  have b0 := below_alloc w (.cells #[.int .i64 0, .int .i64 0, .int .i64 0, .int .i64 0, .bool false, .int .i64 0, .int .i64 0, .int .i64 0, .nilFunc] 44)
  go_enter Tryd.func10, Tryd.ntmps10
  go_wp2_with fail
  refine (HF.out _).mono ?_
  rintro z w' ⟨rfl, rfl⟩
  go_wp2_with fail
  refine (HL.out _).mono ?_
  rintro z w2 ⟨rfl, b2⟩
  have l2 := l0.later b2
  have cR : LocE (((((((((w2.setCell ⟨w.heap.size, 0, none⟩ (.int .i64 2)).setCell ⟨w.heap.size, 1, none⟩ (.int .i64 64)).setCell ⟨w.heap.size, 2, none⟩ (.int .i64 (-16445))).setCell ⟨w.heap.size, 3, none⟩ (.int .i64 16320)).setCell ⟨w.heap.size, 4, none⟩ (.bool true)).setCell ⟨w.heap.size, 5, none⟩ (.int .i64 10)).setCell ⟨w.heap.size, 6, none⟩ (.int .i64 15)).setCell ⟨w.heap.size, 7, none⟩ (.int .i64 1)).setCell ⟨w.heap.size, 8, none⟩ (.func (.func 29) #[] #[])) w.heap.size 44 (layV 3) := (((((((((l2.set 0 (.int .i64 2)).set 1 (.int .i64 64)).set 2 (.int .i64 (-16445))).set 3 (.int .i64 16320)).set 4 (.bool true)).set 5 (.int .i64 10)).set 6 (.int .i64 15)).set 7 (.int .i64 1)).set 8 (.func (.func 29) #[] #[]))
  have bR := (((((((((but_set w2 w.heap.size 0 (.int .i64 2)).trans (but_set _ w.heap.size 1 (.int .i64 64))).trans (but_set _ w.heap.size 2 (.int .i64 (-16445)))).trans (but_set _ w.heap.size 3 (.int .i64 16320))).trans (but_set _ w.heap.size 4 (.bool true))).trans (but_set _ w.heap.size 5 (.int .i64 10))).trans (but_set _ w.heap.size 6 (.int .i64 15))).trans (but_set _ w.heap.size 7 (.int .i64 1))).trans (but_set _ w.heap.size 8 (.func (.func 29) #[] #[]))).below (below_trans b0 b2) (Nat.le_refl _)
  have hl := run_loadVar_mid (P := Tryd.prog) _ w.heap.size 0 44 (layV 3) _ cR.range Tryd.underlying44 rfl (by kernel_rfl)
  have HH : Hid (_ ∧ _) := ⟨hl, bR⟩
  have x0 := l2.cell 0 rfl
  have f0 := l2.free 0
  have x1 := l2.cell 1 rfl
  have f1 := l2.free 1
  have x2 := l2.cell 2 rfl
  have f2 := l2.free 2
  have x3 := l2.cell 3 rfl
  have f3 := l2.free 3
  have x4 := l2.cell 4 rfl
  have f4 := l2.free 4
  have x5 := l2.cell 5 rfl
  have f5 := l2.free 5
  have x6 := l2.cell 6 rfl
  have f6 := l2.free 6
  have x7 := l2.cell 7 rfl
  have f7 := l2.free 7
  have x8 := l2.cell 8 rfl
  have f8 := l2.free 8
  clear hl bR cR l0 l2 b0 b2 HF HL
  go_wp2
  obtain ⟨hl, bR⟩ := HH.out
  exact bodyPost_ret (results_two Tryd.results10 rfl rfl hl) rfl ⟨rfl, bR⟩

set_option maxRecDepth 100000 in
set_option maxHeartbeats 3200000 in
theorem layoutOf_4 (w : World) : Calls Tryd.prog 10 #[.int .i64 4] w (LayRes w 4 0) := by
  have HF : Hid (∀ w1, Calls Tryd.prog 16 #[.int .i64 4] w1 fun z w' => z = .returned (.int .i64 2) ∧ w' = w1) := family_any 4
  have HL : Hid (∀ w1, Calls Tryd.prog 17 #[] w1 fun z w' => z = .returned (.agg #[.int .i64 0, .int .i64 0, .int .i64 0, .int .i64 0, .bool false, .int .i64 0, .int .i64 0, .int .i64 0, .nilFunc, .int .i64 2, .int .i64 24, .int .i64 (-149), .int .i64 104, .bool true, .int .i64 4, .int .i64 8, .int .i64 1, .func (.func 28) #[] #[], .int .i64 2, .int .i64 53, .int .i64 (-1074), .int .i64 971, .bool true, .int .i64 8, .int .i64 11, .int .i64 1, .func (.func 28) #[] #[], .int .i64 2, .int .i64 64, .int .i64 (-16445), .int .i64 16320, .bool true, .int .i64 10, .int .i64 15, .int .i64 1, .func (.func 29) #[] #[], .int .i64 16, .int .i64 6, .int .i64 (-70), .int .i64 57, .bool false, .int .i64 4, .int .i64 7, .int .i64 2, .func (.func 28) #[] #[], .int .i64 16, .int .i64 14, .int .i64 (-78), .int .i64 49, .bool false, .int .i64 8, .int .i64 7, .int .i64 2, .func (.func 28) #[] #[], .int .i64 2, .int .i64 24, .int .i64 (-151), .int .i64 103, .bool false, .int .i64 4, .int .i64 8, .int .i64 3, .func (.func 31) #[] #[], .int .i64 2, .int .i64 56, .int .i64 (-183), .int .i64 71, .bool false, .int .i64 8, .int .i64 8, .int .i64 3, .func (.func 31) #[] #[], .int .i64 2, .int .i64 53, .int .i64 (-1076), .int .i64 970, .bool false, .int .i64 8, .int .i64 11, .int .i64 3, .func (.func 31) #[] #[]]) ∧ Below w1.heap.size w1 w') := layouts_any
  have hsf : ∀ (a : Addr) (W : World) (g : Fn), (store a (Value.func g #[] #[])).run Tryd.prog W = stored Tryd.prog W a (Value.func g #[] #[]) .plain := fun a W g => run_store _ W a _ _ rfl
  have hix : ∀ W : World, (Instr.index 56 (.agg #[.int .i64 0, .int .i64 0, .int .i64 0, .int .i64 0, .bool false, .int .i64 0, .int .i64 0, .int .i64 0, .nilFunc, .int .i64 2, .int .i64 24, .int .i64 (-149), .int .i64 104, .bool true, .int .i64 4, .int .i64 8, .int .i64 1, .func (.func 28) #[] #[], .int .i64 2, .int .i64 53, .int .i64 (-1074), .int .i64 971, .bool true, .int .i64 8, .int .i64 11, .int .i64 1, .func (.func 28) #[] #[], .int .i64 2, .int .i64 64, .int .i64 (-16445), .int .i64 16320, .bool true, .int .i64 10, .int .i64 15, .int .i64 1, .func (.func 29) #[] #[], .int .i64 16, .int .i64 6, .int .i64 (-70), .int .i64 57, .bool false, .int .i64 4, .int .i64 7, .int .i64 2, .func (.func 28) #[] #[], .int .i64 16, .int .i64 14, .int .i64 (-78), .int .i64 49, .bool false, .int .i64 8, .int .i64 7, .int .i64 2, .func (.func 28) #[] #[], .int .i64 2, .int .i64 24, .int .i64 (-151), .int .i64 103, .bool false, .int .i64 4, .int .i64 8, .int .i64 3, .func (.func 31) #[] #[], .int .i64 2, .int .i64 56, .int .i64 (-183), .int .i64 71, .bool false, .int .i64 8, .int .i64 8, .int .i64 3, .func (.func 31) #[] #[], .int .i64 2, .int .i64 53, .int .i64 (-1076), .int .i64 970, .bool false, .int .i64 8, .int .i64 11, .int .i64 3, .func (.func 31) #[] #[]]) (.int .i64 4)).run Tryd.prog W = .ok (.agg #[.int .i64 16, .int .i64 6, .int .i64 (-70), .int .i64 57, .bool false, .int .i64 4, .int .i64 7, .int .i64 2, .func (.func 28) #[] #[]]) W := fun W => by kernel_rfl
  have l0 := locE_new w [.int .i64 0, .int .i64 0, .int .i64 0, .int .i64 0, .bool false, .int .i64 0, .int .i64 0, .int .i64 0, .nilFunc] 44
  have b0 := below_alloc w (.cells #[.int .i64 0, .int .i64 0, .int .i64 0, .int .i64 0, .bool false, .int .i64 0, .int .i64 0, .int .i64 0, .nilFunc] 44)
  go_enter Tryd.func10, Tryd.ntmps10
  go_wp2_with fail
  refine (HF.out _).mono ?_
  rintro z w' ⟨rfl, rfl⟩
  go_wp2_with fail
  refine (HL.out _).mono ?_
  rintro z w2 ⟨rfl, b2⟩
  have l2 := l0.later b2
  have cR : LocE (((((((((w2.setCell ⟨w.heap.size, 0, none⟩ (.int .i64 16)).setCell ⟨w.heap.size, 1, none⟩ (.int .i64 6)).setCell ⟨w.heap.size, 2, none⟩ (.int .i64 (-70))).setCell ⟨w.heap.size, 3, none⟩ (.int .i64 57)).setCell ⟨w.heap.size, 4, none⟩ (.bool false)).setCell ⟨w.heap.size, 5, none⟩ (.int .i64 4)).setCell ⟨w.heap.size, 6, none⟩ (.int .i64 7)).setCell ⟨w.heap.size, 7, none⟩ (.int .i64 2)).setCell ⟨w.heap.size, 8, none⟩ (.func (.func 28) #[] #[])) w.heap.size 44 (layV 4) := (((((((((l2.set 0 (.int .i64 16)).set 1 (.int .i64 6)).set 2 (.int .i64 (-70))).set 3 (.int .i64 57)).set 4 (.bool false)).set 5 (.int .i64 4)).set 6 (.int .i64 7)).set 7 (.int .i64 2)).set 8 (.func (.func 28) #[] #[]))
  have bR := (((((((((but_set w2 w.heap.size 0 (.int .i64 16)).trans (but_set _ w.heap.size 1 (.int .i64 6))).trans (but_set _ w.heap.size 2 (.int .i64 (-70)))).trans (but_set _ w.heap.size 3 (.int .i64 57))).trans (but_set _ w.heap.size 4 (.bool false))).trans (but_set _ w.heap.size 5 (.int .i64 4))).trans (but_set _ w.heap.size 6 (.int .i64 7))).trans (but_set _ w.heap.size 7 (.int .i64 2))).trans (but_set _ w.heap.size 8 (.func (.func 28) #[] #[]))).below (below_trans b0 b2) (Nat.le_refl _)
  have hl := run_loadVar_mid (P := Tryd.prog) _ w.heap.size 0 44 (layV 4) _ cR.range Tryd.underlying44 rfl (by kernel_rfl)
  have HH : Hid (_ ∧ _) := ⟨hl, bR⟩
  have x0 := l2.cell 0 rfl
  have f0 := l2.free 0
  have x1 := l2.cell 1 rfl
  have f1 := l2.free 1
  have x2 := l2.cell 2 rfl
  have f2 := l2.free 2
  have x3 := l2.cell 3 rfl
  have f3 := l2.free 3
  have x4 := l2.cell 4 rfl
  have f4 := l2.free 4
  have x5 := l2.cell 5 rfl
  have f5 := l2.free 5
  have x6 := l2.cell 6 rfl
  have f6 := l2.free 6
  have x7 := l2.cell 7 rfl
  have f7 := l2.free 7
  have x8 := l2.cell 8 rfl
  have f8 := l2.free 8
  clear hl bR cR l0 l2 b0 b2 HF HL
  go_wp2
  obtain ⟨hl, bR⟩ := HH.out
  exact bodyPost_ret (results_two Tryd.results10 rfl rfl hl) rfl ⟨rfl, bR⟩

set_option maxRecDepth 100000 in
set_option maxHeartbeats 3200000 in
theorem layoutOf_5 (w : World) : Calls Tryd.prog 10 #[.int .i64 5] w (LayRes w 5 0) := by
  have HF : Hid (∀ w1, Calls Tryd.prog 16 #[.int .i64 5] w1 fun z w' => z = .returned (.int .i64 2) ∧ w' = w1) := family_any 5
  have HL : Hid (∀ w1, Calls Tryd.prog 17 #[] w1 fun z w' => z = .returned (.agg #[.int .i64 0, .int .i64 0, .int .i64 0, .int .i64 0, .bool false, .int .i64 0, .int .i64 0, .int .i64 0, .nilFunc, .int .i64 2, .int .i64 24, .int .i64 (-149), .int .i64 104, .bool true, .int .i64 4, .int .i64 8, .int .i64 1, .func (.func 28) #[] #[], .int .i64 2, .int .i64 53, .int .i64 (-1074), .int .i64 971, .bool true, .int .i64 8, .int .i64 11, .int .i64 1, .func (.func 28) #[] #[], .int .i64 2, .int .i64 64, .int .i64 (-16445), .int .i64 16320, .bool true, .int .i64 10, .int .i64 15, .int .i64 1, .func (.func 29) #[] #[], .int .i64 16, .int .i64 6, .int .i64 (-70), .int .i64 57, .bool false, .int .i64 4, .int .i64 7, .int .i64 2, .func (.func 28) #[] #[], .int .i64 16, .int .i64 14, .int .i64 (-78), .int .i64 49, .bool false, .int .i64 8, .int .i64 7, .int .i64 2, .func (.func 28) #[] #[], .int .i64 2, .int .i64 24, .int .i64 (-151), .int .i64 103, .bool false, .int .i64 4, .int .i64 8, .int .i64 3, .func (.func 31) #[] #[], .int .i64 2, .int .i64 56, .int .i64 (-183), .int .i64 71, .bool false, .int .i64 8, .int .i64 8, .int .i64 3, .func (.func 31) #[] #[], .int .i64 2, .int .i64 53, .int .i64 (-1076), .int .i64 970, .bool false, .int .i64 8, .int .i64 11, .int .i64 3, .func (.func 31) #[] #[]]) ∧ Below w1.heap.size w1 w') := layouts_any
  have hsf : ∀ (a : Addr) (W : World) (g : Fn), (store a (Value.func g #[] #[])).run Tryd.prog W = stored Tryd.prog W a (Value.func g #[] #[]) .plain := fun a W g => run_store _ W a _ _ rfl
  have hix : ∀ W : World, (Instr.index 56 (.agg #[.int .i64 0, .int .i64 0, .int .i64 0, .int .i64 0, .bool false, .int .i64 0, .int .i64 0, .int .i64 0, .nilFunc, .int .i64 2, .int .i64 24, .int .i64 (-149), .int .i64 104, .bool true, .int .i64 4, .int .i64 8, .int .i64 1, .func (.func 28) #[] #[], .int .i64 2, .int .i64 53, .int .i64 (-1074), .int .i64 971, .bool true, .int .i64 8, .int .i64 11, .int .i64 1, .func (.func 28) #[] #[], .int .i64 2, .int .i64 64, .int .i64 (-16445), .int .i64 16320, .bool true, .int .i64 10, .int .i64 15, .int .i64 1, .func (.func 29) #[] #[], .int .i64 16, .int .i64 6, .int .i64 (-70), .int .i64 57, .bool false, .int .i64 4, .int .i64 7, .int .i64 2, .func (.func 28) #[] #[], .int .i64 16, .int .i64 14, .int .i64 (-78), .int .i64 49, .bool false, .int .i64 8, .int .i64 7, .int .i64 2, .func (.func 28) #[] #[], .int .i64 2, .int .i64 24, .int .i64 (-151), .int .i64 103, .bool false, .int .i64 4, .int .i64 8, .int .i64 3, .func (.func 31) #[] #[], .int .i64 2, .int .i64 56, .int .i64 (-183), .int .i64 71, .bool false, .int .i64 8, .int .i64 8, .int .i64 3, .func (.func 31) #[] #[], .int .i64 2, .int .i64 53, .int .i64 (-1076), .int .i64 970, .bool false, .int .i64 8, .int .i64 11, .int .i64 3, .func (.func 31) #[] #[]]) (.int .i64 5)).run Tryd.prog W = .ok (.agg #[.int .i64 16, .int .i64 14, .int .i64 (-78), .int .i64 49, .bool false, .int .i64 8, .int .i64 7, .int .i64 2, .func (.func 28) #[] #[]]) W := fun W => by kernel_rfl
  have l0 := locE_new w [.int .i64 0, .int .i64 0, .int .i64 0, .int .i64 0, .bool false, .int .i64 0, .int .i64 0, .int .i64 0, .nilFunc] 44
  have b0 := below_alloc w (.cells #[.int .i64 0, .int .i64 0, .int .i64 0, .int .i64 0, .bool false, .int .i64 0, .int .i64 0, .int .i64 0, .nilFunc] 44)
  go_enter Tryd.func10, Tryd.ntmps10
  go_wp2_with fail
  refine (HF.out _).mono ?_
  rintro z w' ⟨rfl, rfl⟩
  go_wp2_with fail
  refine (HL.out _).mono ?_
  rintro z w2 ⟨rfl, b2⟩
  have l2 := l0.later b2
  have cR : LocE (((((((((w2.setCell ⟨w.heap.size, 0, none⟩ (.int .i64 16)).setCell ⟨w.heap.size, 1, none⟩ (.int .i64 14)).setCell ⟨w.heap.size, 2, none⟩ (.int .i64 (-78))).setCell ⟨w.heap.size, 3, none⟩ (.int .i64 49)).setCell ⟨w.heap.size, 4, none⟩ (.bool false)).setCell ⟨w.heap.size, 5, none⟩ (.int .i64 8)).setCell ⟨w.heap.size, 6, none⟩ (.int .i64 7)).setCell ⟨w.heap.size, 7, none⟩ (.int .i64 2)).setCell ⟨w.heap.size, 8, none⟩ (.func (.func 28) #[] #[])) w.heap.size 44 (layV 5) := (((((((((l2.set 0 (.int .i64 16)).set 1 (.int .i64 14)).set 2 (.int .i64 (-78))).set 3 (.int .i64 49)).set 4 (.bool false)).set 5 (.int .i64 8)).set 6 (.int .i64 7)).set 7 (.int .i64 2)).set 8 (.func (.func 28) #[] #[]))
  have bR := (((((((((but_set w2 w.heap.size 0 (.int .i64 16)).trans (but_set _ w.heap.size 1 (.int .i64 14))).trans (but_set _ w.heap.size 2 (.int .i64 (-78)))).trans (but_set _ w.heap.size 3 (.int .i64 49))).trans (but_set _ w.heap.size 4 (.bool false))).trans (but_set _ w.heap.size 5 (.int .i64 8))).trans (but_set _ w.heap.size 6 (.int .i64 7))).trans (but_set _ w.heap.size 7 (.int .i64 2))).trans (but_set _ w.heap.size 8 (.func (.func 28) #[] #[]))).below (below_trans b0 b2) (Nat.le_refl _)
  have hl := run_loadVar_mid (P := Tryd.prog) _ w.heap.size 0 44 (layV 5) _ cR.range Tryd.underlying44 rfl (by kernel_rfl)
  have HH : Hid (_ ∧ _) := ⟨hl, bR⟩
  have x0 := l2.cell 0 rfl
  have f0 := l2.free 0
  have x1 := l2.cell 1 rfl
  have f1 := l2.free 1
  have x2 := l2.cell 2 rfl
  have f2 := l2.free 2
  have x3 := l2.cell 3 rfl
  have f3 := l2.free 3
  have x4 := l2.cell 4 rfl
  have f4 := l2.free 4
  have x5 := l2.cell 5 rfl
  have f5 := l2.free 5
  have x6 := l2.cell 6 rfl
  have f6 := l2.free 6
  have x7 := l2.cell 7 rfl
  have f7 := l2.free 7
  have x8 := l2.cell 8 rfl
  have f8 := l2.free 8
  clear hl bR cR l0 l2 b0 b2 HF HL
  go_wp2
  obtain ⟨hl, bR⟩ := HH.out
  exact bodyPost_ret (results_two Tryd.results10 rfl rfl hl) rfl ⟨rfl, bR⟩

set_option maxRecDepth 100000 in
set_option maxHeartbeats 3200000 in
theorem layoutOf_6 (w : World) : Calls Tryd.prog 10 #[.int .i64 6] w (LayRes w 6 0) := by
  have HF : Hid (∀ w1, Calls Tryd.prog 16 #[.int .i64 6] w1 fun z w' => z = .returned (.int .i64 3) ∧ w' = w1) := family_any 6
  have HL : Hid (∀ w1, Calls Tryd.prog 17 #[] w1 fun z w' => z = .returned (.agg #[.int .i64 0, .int .i64 0, .int .i64 0, .int .i64 0, .bool false, .int .i64 0, .int .i64 0, .int .i64 0, .nilFunc, .int .i64 2, .int .i64 24, .int .i64 (-149), .int .i64 104, .bool true, .int .i64 4, .int .i64 8, .int .i64 1, .func (.func 28) #[] #[], .int .i64 2, .int .i64 53, .int .i64 (-1074), .int .i64 971, .bool true, .int .i64 8, .int .i64 11, .int .i64 1, .func (.func 28) #[] #[], .int .i64 2, .int .i64 64, .int .i64 (-16445), .int .i64 16320, .bool true, .int .i64 10, .int .i64 15, .int .i64 1, .func (.func 29) #[] #[], .int .i64 16, .int .i64 6, .int .i64 (-70), .int .i64 57, .bool false, .int .i64 4, .int .i64 7, .int .i64 2, .func (.func 28) #[] #[], .int .i64 16, .int .i64 14, .int .i64 (-78), .int .i64 49, .bool false, .int .i64 8, .int .i64 7, .int .i64 2, .func (.func 28) #[] #[], .int .i64 2, .int .i64 24, .int .i64 (-151), .int .i64 103, .bool false, .int .i64 4, .int .i64 8, .int .i64 3, .func (.func 31) #[] #[], .int .i64 2, .int .i64 56, .int .i64 (-183), .int .i64 71, .bool false, .int .i64 8, .int .i64 8, .int .i64 3, .func (.func 31) #[] #[], .int .i64 2, .int .i64 53, .int .i64 (-1076), .int .i64 970, .bool false, .int .i64 8, .int .i64 11, .int .i64 3, .func (.func 31) #[] #[]]) ∧ Below w1.heap.size w1 w') := layouts_any
  have hsf : ∀ (a : Addr) (W : World) (g : Fn), (store a (Value.func g #[] #[])).run Tryd.prog W = stored Tryd.prog W a (Value.func g #[] #[]) .plain := fun a W g => run_store _ W a _ _ rfl
  have hix : ∀ W : World, (Instr.index 56 (.agg #[.int .i64 0, .int .i64 0, .int .i64 0, .int .i64 0, .bool false, .int .i64 0, .int .i64 0, .int .i64 0, .nilFunc, .int .i64 2, .int .i64 24, .int .i64 (-149), .int .i64 104, .bool true, .int .i64 4, .int .i64 8, .int .i64 1, .func (.func 28) #[] #[], .int .i64 2, .int .i64 53, .int .i64 (-1074), .int .i64 971, .bool true, .int .i64 8, .int .i64 11, .int .i64 1, .func (.func 28) #[] #[], .int .i64 2, .int .i64 64, .int .i64 (-16445), .int .i64 16320, .bool true, .int .i64 10, .int .i64 15, .int .i64 1, .func (.func 29) #[] #[], .int .i64 16, .int .i64 6, .int .i64 (-70), .int .i64 57, .bool false, .int .i64 4, .int .i64 7, .int .i64 2, .func (.func 28) #[] #[], .int .i64 16, .int .i64 14, .int .i64 (-78), .int .i64 49, .bool false, .int .i64 8, .int .i64 7, .int .i64 2, .func (.func 28) #[] #[], .int .i64 2, .int .i64 24, .int .i64 (-151), .int .i64 103, .bool false, .int .i64 4, .int .i64 8, .int .i64 3, .func (.func 31) #[] #[], .int .i64 2, .int .i64 56, .int .i64 (-183), .int .i64 71, .bool false, .int .i64 8, .int .i64 8, .int .i64 3, .func (.func 31) #[] #[], .int .i64 2, .int .i64 53, .int .i64 (-1076), .int .i64 970, .bool false, .int .i64 8, .int .i64 11, .int .i64 3, .func (.func 31) #[] #[]]) (.int .i64 6)).run Tryd.prog W = .ok (.agg #[.int .i64 2, .int .i64 24, .int .i64 (-151), .int .i64 103, .bool false, .int .i64 4, .int .i64 8, .int .i64 3, .func (.func 31) #[] #[]]) W := fun W => by kernel_rfl
  have l0 := locE_new w [.int .i64 0, .int .i64 0, .int .i64 0, .int .i64 0, .bool false, .int .i64 0, .int .i64 0, .int .i64 0, .nilFunc] 44
  have b0 := below_alloc w (.cells #[.int .i64 0, .int .i64 0, .int .i64 0, .int .i64 0, .bool false, .int .i64 0, .int .i64 0, .int .i64 0, .nilFunc] 44)
  go_enter Tryd.func10, Tryd.ntmps10
  go_wp2_with fail
  refine (HF.out _).mono ?_
  rintro z w' ⟨rfl, rfl⟩
  go_wp2_with fail
  refine (HL.out _).mono ?_
  rintro z w2 ⟨rfl, b2⟩
  have l2 := l0.later b2
  have cR : LocE (((((((((w2.setCell ⟨w.heap.size, 0, none⟩ (.int .i64 2)).setCell ⟨w.heap.size, 1, none⟩ (.int .i64 24)).setCell ⟨w.heap.size, 2, none⟩ (.int .i64 (-151))).setCell ⟨w.heap.size, 3, none⟩ (.int .i64 103)).setCell ⟨w.heap.size, 4, none⟩ (.bool false)).setCell ⟨w.heap.size, 5, none⟩ (.int .i64 4)).setCell ⟨w.heap.size, 6, none⟩ (.int .i64 8)).setCell ⟨w.heap.size, 7, none⟩ (.int .i64 3)).setCell ⟨w.heap.size, 8, none⟩ (.func (.func 31) #[] #[])) w.heap.size 44 (layV 6) := (((((((((l2.set 0 (.int .i64 2)).set 1 (.int .i64 24)).set 2 (.int .i64 (-151))).set 3 (.int .i64 103)).set 4 (.bool false)).set 5 (.int .i64 4)).set 6 (.int .i64 8)).set 7 (.int .i64 3)).set 8 (.func (.func 31) #[] #[]))
  have bR := (((((((((but_set w2 w.heap.size 0 (.int .i64 2)).trans (but_set _ w.heap.size 1 (.int .i64 24))).trans (but_set _ w.heap.size 2 (.int .i64 (-151)))).trans (but_set _ w.heap.size 3 (.int .i64 103))).trans (but_set _ w.heap.size 4 (.bool false))).trans (but_set _ w.heap.size 5 (.int .i64 4))).trans (but_set _ w.heap.size 6 (.int .i64 8))).trans (but_set _ w.heap.size 7 (.int .i64 3))).trans (but_set _ w.heap.size 8 (.func (.func 31) #[] #[]))).below (below_trans b0 b2) (Nat.le_refl _)
  have hl := run_loadVar_mid (P := Tryd.prog) _ w.heap.size 0 44 (layV 6) _ cR.range Tryd.underlying44 rfl (by kernel_rfl)
  have HH : Hid (_ ∧ _) := ⟨hl, bR⟩
  have x0 := l2.cell 0 rfl
  have f0 := l2.free 0
  have x1 := l2.cell 1 rfl
  have f1 := l2.free 1
  have x2 := l2.cell 2 rfl
  have f2 := l2.free 2
  have x3 := l2.cell 3 rfl
  have f3 := l2.free 3
  have x4 := l2.cell 4 rfl
  have f4 := l2.free 4
  have x5 := l2.cell 5 rfl
  have f5 := l2.free 5
  have x6 := l2.cell 6 rfl
  have f6 := l2.free 6
  have x7 := l2.cell 7 rfl
  have f7 := l2.free 7
  have x8 := l2.cell 8 rfl
  have f8 := l2.free 8
  clear hl bR cR l0 l2 b0 b2 HF HL
  go_wp2
  obtain ⟨hl, bR⟩ := HH.out
  exact bodyPost_ret (results_two Tryd.results10 rfl rfl hl) rfl ⟨rfl, bR⟩

set_option maxRecDepth 100000 in
set_option maxHeartbeats 3200000 in
theorem layoutOf_7 (w : World) : Calls Tryd.prog 10 #[.int .i64 7] w (LayRes w 7 0) := by
  have HF : Hid (∀ w1, Calls Tryd.prog 16 #[.int .i64 7] w1 fun z w' => z = .returned (.int .i64 3) ∧ w' = w1) := family_any 7
  have HL : Hid (∀ w1, Calls Tryd.prog 17 #[] w1 fun z w' => z = .returned (.agg #[.int .i64 0, .int .i64 0, .int .i64 0, .int .i64 0, .bool false, .int .i64 0, .int .i64 0, .int .i64 0, .nilFunc, .int .i64 2, .int .i64 24, .int .i64 (-149), .int .i64 104, .bool true, .int .i64 4, .int .i64 8, .int .i64 1, .func (.func 28) #[] #[], .int .i64 2, .int .i64 53, .int .i64 (-1074), .int .i64 971, .bool true, .int .i64 8, .int .i64 11, .int .i64 1, .func (.func 28) #[] #[], .int .i64 2, .int .i64 64, .int .i64 (-16445), .int .i64 16320, .bool true, .int .i64 10, .int .i64 15, .int .i64 1, .func (.func 29) #[] #[], .int .i64 16, .int .i64 6, .int .i64 (-70), .int .i64 57, .bool false, .int .i64 4, .int .i64 7, .int .i64 2, .func (.func 28) #[] #[], .int .i64 16, .int .i64 14, .int .i64 (-78), .int .i64 49, .bool false, .int .i64 8, .int .i64 7, .int .i64 2, .func (.func 28) #[] #[], .int .i64 2, .int .i64 24, .int .i64 (-151), .int .i64 103, .bool false, .int .i64 4, .int .i64 8, .int .i64 3, .func (.func 31) #[] #[], .int .i64 2, .int .i64 56, .int .i64 (-183), .int .i64 71, .bool false, .int .i64 8, .int .i64 8, .int .i64 3, .func (.func 31) #[] #[], .int .i64 2, .int .i64 53, .int .i64 (-1076), .int .i64 970, .bool false, .int .i64 8, .int .i64 11, .int .i64 3, .func (.func 31) #[] #[]]) ∧ Below w1.heap.size w1 w') := layouts_any
  have hsf : ∀ (a : Addr) (W : World) (g : Fn), (store a (Value.func g #[] #[])).run Tryd.prog W = stored Tryd.prog W a (Value.func g #[] #[]) .plain := fun a W g => run_store _ W a _ _ rfl
  have hix : ∀ W : World, (Instr.index 56 (.agg #[.int .i64 0, .int .i64 0, .int .i64 0, .int .i64 0, .bool false, .int .i64 0, .int .i64 0, .int .i64 0, .nilFunc, .int .i64 2, .int .i64 24, .int .i64 (-149), .int .i64 104, .bool true, .int .i64 4, .int .i64 8, .int .i64 1, .func (.func 28) #[] #[], .int .i64 2, .int .i64 53, .int .i64 (-1074), .int .i64 971, .bool true, .int .i64 8, .int .i64 11, .int .i64 1, .func (.func 28) #[] #[], .int .i64 2, .int .i64 64, .int .i64 (-16445), .int .i64 16320, .bool true, .int .i64 10, .int .i64 15, .int .i64 1, .func (.func 29) #[] #[], .int .i64 16, .int .i64 6, .int .i64 (-70), .int .i64 57, .bool false, .int .i64 4, .int .i64 7, .int .i64 2, .func (.func 28) #[] #[], .int .i64 16, .int .i64 14, .int .i64 (-78), .int .i64 49, .bool false, .int .i64 8, .int .i64 7, .int .i64 2, .func (.func 28) #[] #[], .int .i64 2, .int .i64 24, .int .i64 (-151), .int .i64 103, .bool false, .int .i64 4, .int .i64 8, .int .i64 3, .func (.func 31) #[] #[], .int .i64 2, .int .i64 56, .int .i64 (-183), .int .i64 71, .bool false, .int .i64 8, .int .i64 8, .int .i64 3, .func (.func 31) #[] #[], .int .i64 2, .int .i64 53, .int .i64 (-1076), .int .i64 970, .bool false, .int .i64 8, .int .i64 11, .int .i64 3, .func (.func 31) #[] #[]]) (.int .i64 7)).run Tryd.prog W = .ok (.agg #[.int .i64 2, .int .i64 56, .int .i64 (-183), .int .i64 71, .bool false, .int .i64 8, .int .i64 8, .int .i64 3, .func (.func 31) #[] #[]]) W := fun W => by kernel_rfl
  have l0 := locE_new w [.int .i64 0, .int .i64 0, .int .i64 0, .int .i64 0, .bool false, .int .i64 0, .int .i64 0, .int .i64 0, .nilFunc] 44
  have b0 := below_alloc w (.cells #[.int .i64 0, .int .i64 0, .int .i64 0, .int .i64 0, .bool false, .int .i64 0, .int .i64 0, .int .i64 0, .nilFunc] 44)
  go_enter Tryd.func10, Tryd.ntmps10
  go_wp2_with fail
  refine (HF.out _).mono ?_
  rintro z w' ⟨rfl, rfl⟩
  go_wp2_with fail
  refine (HL.out _).mono ?_
  rintro z w2 ⟨rfl, b2⟩
  have l2 := l0.later b2
  have cR : LocE (((((((((w2.setCell ⟨w.heap.size, 0, none⟩ (.int .i64 2)).setCell ⟨w.heap.size, 1, none⟩ (.int .i64 56)).setCell ⟨w.heap.size, 2, none⟩ (.int .i64 (-183))).setCell ⟨w.heap.size, 3, none⟩ (.int .i64 71)).setCell ⟨w.heap.size, 4, none⟩ (.bool false)).setCell ⟨w.heap.size, 5, none⟩ (.int .i64 8)).setCell ⟨w.heap.size, 6, none⟩ (.int .i64 8)).setCell ⟨w.heap.size, 7, none⟩ (.int .i64 3)).setCell ⟨w.heap.size, 8, none⟩ (.func (.func 31) #[] #[])) w.heap.size 44 (layV 7) := (((((((((l2.set 0 (.int .i64 2)).set 1 (.int .i64 56)).set 2 (.int .i64 (-183))).set 3 (.int .i64 71)).set 4 (.bool false)).set 5 (.int .i64 8)).set 6 (.int .i64 8)).set 7 (.int .i64 3)).set 8 (.func (.func 31) #[] #[]))
  have bR := (((((((((but_set w2 w.heap.size 0 (.int .i64 2)).trans (but_set _ w.heap.size 1 (.int .i64 56))).trans (but_set _ w.heap.size 2 (.int .i64 (-183)))).trans (but_set _ w.heap.size 3 (.int .i64 71))).trans (but_set _ w.heap.size 4 (.bool false))).trans (but_set _ w.heap.size 5 (.int .i64 8))).trans (but_set _ w.heap.size 6 (.int .i64 8))).trans (but_set _ w.heap.size 7 (.int .i64 3))).trans (but_set _ w.heap.size 8 (.func (.func 31) #[] #[]))).below (below_trans b0 b2) (Nat.le_refl _)
  have hl := run_loadVar_mid (P := Tryd.prog) _ w.heap.size 0 44 (layV 7) _ cR.range Tryd.underlying44 rfl (by kernel_rfl)
  have HH : Hid (_ ∧ _) := ⟨hl, bR⟩
  have x0 := l2.cell 0 rfl
  have f0 := l2.free 0
  have x1 := l2.cell 1 rfl
  have f1 := l2.free 1
  have x2 := l2.cell 2 rfl
  have f2 := l2.free 2
  have x3 := l2.cell 3 rfl
  have f3 := l2.free 3
  have x4 := l2.cell 4 rfl
  have f4 := l2.free 4
  have x5 := l2.cell 5 rfl
  have f5 := l2.free 5
  have x6 := l2.cell 6 rfl
  have f6 := l2.free 6
  have x7 := l2.cell 7 rfl
  have f7 := l2.free 7
  have x8 := l2.cell 8 rfl
  have f8 := l2.free 8
  clear hl bR cR l0 l2 b0 b2 HF HL
  go_wp2
  obtain ⟨hl, bR⟩ := HH.out
  exact bodyPost_ret (results_two Tryd.results10 rfl rfl hl) rfl ⟨rfl, bR⟩

set_option maxRecDepth 100000 in
set_option maxHeartbeats 3200000 in
theorem layoutOf_8 (w : World) : Calls Tryd.prog 10 #[.int .i64 8] w (LayRes w 8 0) := by
  have HF : Hid (∀ w1, Calls Tryd.prog 16 #[.int .i64 8] w1 fun z w' => z = .returned (.int .i64 3) ∧ w' = w1) := family_any 8
  have HL : Hid (∀ w1, Calls Tryd.prog 17 #[] w1 fun z w' => z = .returned (.agg #[.int .i64 0, .int .i64 0, .int .i64 0, .int .i64 0, .bool false, .int .i64 0, .int .i64 0, .int .i64 0, .nilFunc, .int .i64 2, .int .i64 24, .int .i64 (-149), .int .i64 104, .bool true, .int .i64 4, .int .i64 8, .int .i64 1, .func (.func 28) #[] #[], .int .i64 2, .int .i64 53, .int .i64 (-1074), .int .i64 971, .bool true, .int .i64 8, .int .i64 11, .int .i64 1, .func (.func 28) #[] #[], .int .i64 2, .int .i64 64, .int .i64 (-16445), .int .i64 16320, .bool true, .int .i64 10, .int .i64 15, .int .i64 1, .func (.func 29) #[] #[], .int .i64 16, .int .i64 6, .int .i64 (-70), .int .i64 57, .bool false, .int .i64 4, .int .i64 7, .int .i64 2, .func (.func 28) #[] #[], .int .i64 16, .int .i64 14, .int .i64 (-78), .int .i64 49, .bool false, .int .i64 8, .int .i64 7, .int .i64 2, .func (.func 28) #[] #[], .int .i64 2, .int .i64 24, .int .i64 (-151), .int .i64 103, .bool false, .int .i64 4, .int .i64 8, .int .i64 3, .func (.func 31) #[] #[], .int .i64 2, .int .i64 56, .int .i64 (-183), .int .i64 71, .bool false, .int .i64 8, .int .i64 8, .int .i64 3, .func (.func 31) #[] #[], .int .i64 2, .int .i64 53, .int .i64 (-1076), .int .i64 970, .bool false, .int .i64 8, .int .i64 11, .int .i64 3, .func (.func 31) #[] #[]]) ∧ Below w1.heap.size w1 w') := layouts_any
  have hsf : ∀ (a : Addr) (W : World) (g : Fn), (store a (Value.func g #[] #[])).run Tryd.prog W = stored Tryd.prog W a (Value.func g #[] #[]) .plain := fun a W g => run_store _ W a _ _ rfl
  have hix : ∀ W : World, (Instr.index 56 (.agg #[.int .i64 0, .int .i64 0, .int .i64 0, .int .i64 0, .bool false, .int .i64 0, .int .i64 0, .int .i64 0, .nilFunc, .int .i64 2, .int .i64 24, .int .i64 (-149), .int .i64 104, .bool true, .int .i64 4, .int .i64 8, .int .i64 1, .func (.func 28) #[] #[], .int .i64 2, .int .i64 53, .int .i64 (-1074), .int .i64 971, .bool true, .int .i64 8, .int .i64 11, .int .i64 1, .func (.func 28) #[] #[], .int .i64 2, .int .i64 64, .int .i64 (-16445), .int .i64 16320, .bool true, .int .i64 10, .int .i64 15, .int .i64 1, .func (.func 29) #[] #[], .int .i64 16, .int .i64 6, .int .i64 (-70), .int .i64 57, .bool false, .int .i64 4, .int .i64 7, .int .i64 2, .func (.func 28) #[] #[], .int .i64 16, .int .i64 14, .int .i64 (-78), .int .i64 49, .bool false, .int .i64 8, .int .i64 7, .int .i64 2, .func (.func 28) #[] #[], .int .i64 2, .int .i64 24, .int .i64 (-151), .int .i64 103, .bool false, .int .i64 4, .int .i64 8, .int .i64 3, .func (.func 31) #[] #[], .int .i64 2, .int .i64 56, .int .i64 (-183), .int .i64 71, .bool false, .int .i64 8, .int .i64 8, .int .i64 3, .func (.func 31) #[] #[], .int .i64 2, .int .i64 53, .int .i64 (-1076), .int .i64 970, .bool false, .int .i64 8, .int .i64 11, .int .i64 3, .func (.func 31) #[] #[]]) (.int .i64 8)).run Tryd.prog W = .ok (.agg #[.int .i64 2, .int .i64 53, .int .i64 (-1076), .int .i64 970, .bool false, .int .i64 8, .int .i64 11, .int .i64 3, .func (.func 31) #[] #[]]) W := fun W => by kernel_rfl
  have l0 := locE_new w [.int .i64 0, .int .i64 0, .int .i64 0, .int .i64 0, .bool false, .int .i64 0, .int .i64 0, .int .i64 0, .nilFunc] 44
  have b0 := below_alloc w (.cells #[.int .i64 0, .int .i64 0, .int .i64 0, .int .i64 0, .bool false, .int .i64 0, .int .i64 0, .int .i64 0, .nilFunc] 44)
  go_enter Tryd.func10, Tryd.ntmps10
  go_wp2_with fail
  refine (HF.out _).mono ?_
  rintro z w' ⟨rfl, rfl⟩
  go_wp2_with fail
  refine (HL.out _).mono ?_
  rintro z w2 ⟨rfl, b2⟩
  have l2 := l0.later b2
  have cR : LocE (((((((((w2.setCell ⟨w.heap.size, 0, none⟩ (.int .i64 2)).setCell ⟨w.heap.size, 1, none⟩ (.int .i64 53)).setCell ⟨w.heap.size, 2, none⟩ (.int .i64 (-1076))).setCell ⟨w.heap.size, 3, none⟩ (.int .i64 970)).setCell ⟨w.heap.size, 4, none⟩ (.bool false)).setCell ⟨w.heap.size, 5, none⟩ (.int .i64 8)).setCell ⟨w.heap.size, 6, none⟩ (.int .i64 11)).setCell ⟨w.heap.size, 7, none⟩ (.int .i64 3)).setCell ⟨w.heap.size, 8, none⟩ (.func (.func 31) #[] #[])) w.heap.size 44 (layV 8) := (((((((((l2.set 0 (.int .i64 2)).set 1 (.int .i64 53)).set 2 (.int .i64 (-1076))).set 3 (.int .i64 970)).set 4 (.bool false)).set 5 (.int .i64 8)).set 6 (.int .i64 11)).set 7 (.int .i64 3)).set 8 (.func (.func 31) #[] #[]))
  have bR := (((((((((but_set w2 w.heap.size 0 (.int .i64 2)).trans (but_set _ w.heap.size 1 (.int .i64 53))).trans (but_set _ w.heap.size 2 (.int .i64 (-1076)))).trans (but_set _ w.heap.size 3 (.int .i64 970))).trans (but_set _ w.heap.size 4 (.bool false))).trans (but_set _ w.heap.size 5 (.int .i64 8))).trans (but_set _ w.heap.size 6 (.int .i64 11))).trans (but_set _ w.heap.size 7 (.int .i64 3))).trans (but_set _ w.heap.size 8 (.func (.func 31) #[] #[]))).below (below_trans b0 b2) (Nat.le_refl _)
  have hl := run_loadVar_mid (P := Tryd.prog) _ w.heap.size 0 44 (layV 8) _ cR.range Tryd.underlying44 rfl (by kernel_rfl)
  have HH : Hid (_ ∧ _) := ⟨hl, bR⟩
  have x0 := l2.cell 0 rfl
  have f0 := l2.free 0
  have x1 := l2.cell 1 rfl
  have f1 := l2.free 1
  have x2 := l2.cell 2 rfl
  have f2 := l2.free 2
  have x3 := l2.cell 3 rfl
  have f3 := l2.free 3
  have x4 := l2.cell 4 rfl
  have f4 := l2.free 4
  have x5 := l2.cell 5 rfl
  have f5 := l2.free 5
  have x6 := l2.cell 6 rfl
  have f6 := l2.free 6
  have x7 := l2.cell 7 rfl
  have f7 := l2.free 7
  have x8 := l2.cell 8 rfl
  have f8 := l2.free 8
  clear hl bR cR l0 l2 b0 b2 HF HL
  go_wp2
  obtain ⟨hl, bR⟩ := HH.out
  exact bodyPost_ret (results_two Tryd.results10 rfl rfl hl) rfl ⟨rfl, bR⟩

end Go.Proofs.YtiiphandhpilgaaDoor

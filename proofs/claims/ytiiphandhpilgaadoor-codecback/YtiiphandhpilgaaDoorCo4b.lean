/-
  Sizes of formats (for CodecBack).
-/
import Derived.Test.YtiiphandhpilgaaDoorEb07
namespace Go.Proofs.YtiiphandhpilgaaDoor
open Go.RowKit
set_option maxRecDepth 100000 in
set_option maxHeartbeats 1600000 in
theorem csz_1 (w : World) : Calls Tryd.prog 7 #[.int .i64 1] w fun z w' => z = .returned (.tuple #[.int .i64 4, .int .i64 0]) ∧ Below w.heap.size w w' := by
  have HL : Hid (∀ w1, Calls Tryd.prog 10 #[.int .i64 1] w1 fun z w' => z = .returned (.tuple #[.agg #[.int .i64 2, .int .i64 24, .int .i64 (-149), .int .i64 104, .bool true, .int .i64 4, .int .i64 8, .int .i64 1, .func (.func 28) #[] #[]], .int .i64 0]) ∧ Below w1.heap.size w1 w') := fun w1 => layoutOf_1 w1
  have hsf : ∀ (a : Addr) (W : World) (g : Fn), (store a (Value.func g #[] #[])).run Tryd.prog W = stored Tryd.prog W a (Value.func g #[] #[]) .plain := fun a W g => run_store _ W a _ _ rfl
  have hsn : ∀ (a : Addr) (W : World), (store a Value.nilFunc).run Tryd.prog W = stored Tryd.prog W a Value.nilFunc .plain := fun a W => run_store _ W a _ _ rfl
  go_enter Tryd.func7, Tryd.ntmps7
  go_wp2_with fail
  refine (HL.out _).mono ?_
  rintro z w2 ⟨rfl, b2⟩
  go_wp2
  go_ret2
  exact ⟨rfl, below_trans b2 (below_alloc _ _)⟩

set_option maxRecDepth 100000 in
set_option maxHeartbeats 1600000 in
theorem csz_2 (w : World) : Calls Tryd.prog 7 #[.int .i64 2] w fun z w' => z = .returned (.tuple #[.int .i64 8, .int .i64 0]) ∧ Below w.heap.size w w' := by
  have HL : Hid (∀ w1, Calls Tryd.prog 10 #[.int .i64 2] w1 fun z w' => z = .returned (.tuple #[.agg #[.int .i64 2, .int .i64 53, .int .i64 (-1074), .int .i64 971, .bool true, .int .i64 8, .int .i64 11, .int .i64 1, .func (.func 28) #[] #[]], .int .i64 0]) ∧ Below w1.heap.size w1 w') := fun w1 => layoutOf_2 w1
  have hsf : ∀ (a : Addr) (W : World) (g : Fn), (store a (Value.func g #[] #[])).run Tryd.prog W = stored Tryd.prog W a (Value.func g #[] #[]) .plain := fun a W g => run_store _ W a _ _ rfl
  have hsn : ∀ (a : Addr) (W : World), (store a Value.nilFunc).run Tryd.prog W = stored Tryd.prog W a Value.nilFunc .plain := fun a W => run_store _ W a _ _ rfl
  go_enter Tryd.func7, Tryd.ntmps7
  go_wp2_with fail
  refine (HL.out _).mono ?_
  rintro z w2 ⟨rfl, b2⟩
  go_wp2
  go_ret2
  exact ⟨rfl, below_trans b2 (below_alloc _ _)⟩

set_option maxRecDepth 100000 in
set_option maxHeartbeats 1600000 in
theorem csz_3 (w : World) : Calls Tryd.prog 7 #[.int .i64 3] w fun z w' => z = .returned (.tuple #[.int .i64 10, .int .i64 0]) ∧ Below w.heap.size w w' := by
  have HL : Hid (∀ w1, Calls Tryd.prog 10 #[.int .i64 3] w1 fun z w' => z = .returned (.tuple #[.agg #[.int .i64 2, .int .i64 64, .int .i64 (-16445), .int .i64 16320, .bool true, .int .i64 10, .int .i64 15, .int .i64 1, .func (.func 29) #[] #[]], .int .i64 0]) ∧ Below w1.heap.size w1 w') := fun w1 => layoutOf_3 w1
  have hsf : ∀ (a : Addr) (W : World) (g : Fn), (store a (Value.func g #[] #[])).run Tryd.prog W = stored Tryd.prog W a (Value.func g #[] #[]) .plain := fun a W g => run_store _ W a _ _ rfl
  have hsn : ∀ (a : Addr) (W : World), (store a Value.nilFunc).run Tryd.prog W = stored Tryd.prog W a Value.nilFunc .plain := fun a W => run_store _ W a _ _ rfl
  go_enter Tryd.func7, Tryd.ntmps7
  go_wp2_with fail
  refine (HL.out _).mono ?_
  rintro z w2 ⟨rfl, b2⟩
  go_wp2
  go_ret2
  exact ⟨rfl, below_trans b2 (below_alloc _ _)⟩

set_option maxRecDepth 100000 in
set_option maxHeartbeats 1600000 in
theorem csz_4 (w : World) : Calls Tryd.prog 7 #[.int .i64 4] w fun z w' => z = .returned (.tuple #[.int .i64 4, .int .i64 0]) ∧ Below w.heap.size w w' := by
  have HL : Hid (∀ w1, Calls Tryd.prog 10 #[.int .i64 4] w1 fun z w' => z = .returned (.tuple #[.agg #[.int .i64 16, .int .i64 6, .int .i64 (-70), .int .i64 57, .bool false, .int .i64 4, .int .i64 7, .int .i64 2, .func (.func 28) #[] #[]], .int .i64 0]) ∧ Below w1.heap.size w1 w') := fun w1 => layoutOf_4 w1
  have hsf : ∀ (a : Addr) (W : World) (g : Fn), (store a (Value.func g #[] #[])).run Tryd.prog W = stored Tryd.prog W a (Value.func g #[] #[]) .plain := fun a W g => run_store _ W a _ _ rfl
  have hsn : ∀ (a : Addr) (W : World), (store a Value.nilFunc).run Tryd.prog W = stored Tryd.prog W a Value.nilFunc .plain := fun a W => run_store _ W a _ _ rfl
  go_enter Tryd.func7, Tryd.ntmps7
  go_wp2_with fail
  refine (HL.out _).mono ?_
  rintro z w2 ⟨rfl, b2⟩
  go_wp2
  go_ret2
  exact ⟨rfl, below_trans b2 (below_alloc _ _)⟩

set_option maxRecDepth 100000 in
set_option maxHeartbeats 1600000 in
theorem csz_5 (w : World) : Calls Tryd.prog 7 #[.int .i64 5] w fun z w' => z = .returned (.tuple #[.int .i64 8, .int .i64 0]) ∧ Below w.heap.size w w' := by
  have HL : Hid (∀ w1, Calls Tryd.prog 10 #[.int .i64 5] w1 fun z w' => z = .returned (.tuple #[.agg #[.int .i64 16, .int .i64 14, .int .i64 (-78), .int .i64 49, .bool false, .int .i64 8, .int .i64 7, .int .i64 2, .func (.func 28) #[] #[]], .int .i64 0]) ∧ Below w1.heap.size w1 w') := fun w1 => layoutOf_5 w1
  have hsf : ∀ (a : Addr) (W : World) (g : Fn), (store a (Value.func g #[] #[])).run Tryd.prog W = stored Tryd.prog W a (Value.func g #[] #[]) .plain := fun a W g => run_store _ W a _ _ rfl
  have hsn : ∀ (a : Addr) (W : World), (store a Value.nilFunc).run Tryd.prog W = stored Tryd.prog W a Value.nilFunc .plain := fun a W => run_store _ W a _ _ rfl
  go_enter Tryd.func7, Tryd.ntmps7
  go_wp2_with fail
  refine (HL.out _).mono ?_
  rintro z w2 ⟨rfl, b2⟩
  go_wp2
  go_ret2
  exact ⟨rfl, below_trans b2 (below_alloc _ _)⟩

set_option maxRecDepth 100000 in
set_option maxHeartbeats 1600000 in
theorem csz_6 (w : World) : Calls Tryd.prog 7 #[.int .i64 6] w fun z w' => z = .returned (.tuple #[.int .i64 4, .int .i64 0]) ∧ Below w.heap.size w w' := by
  have HL : Hid (∀ w1, Calls Tryd.prog 10 #[.int .i64 6] w1 fun z w' => z = .returned (.tuple #[.agg #[.int .i64 2, .int .i64 24, .int .i64 (-151), .int .i64 103, .bool false, .int .i64 4, .int .i64 8, .int .i64 3, .func (.func 31) #[] #[]], .int .i64 0]) ∧ Below w1.heap.size w1 w') := fun w1 => layoutOf_6 w1
  have hsf : ∀ (a : Addr) (W : World) (g : Fn), (store a (Value.func g #[] #[])).run Tryd.prog W = stored Tryd.prog W a (Value.func g #[] #[]) .plain := fun a W g => run_store _ W a _ _ rfl
  have hsn : ∀ (a : Addr) (W : World), (store a Value.nilFunc).run Tryd.prog W = stored Tryd.prog W a Value.nilFunc .plain := fun a W => run_store _ W a _ _ rfl
  go_enter Tryd.func7, Tryd.ntmps7
  go_wp2_with fail
  refine (HL.out _).mono ?_
  rintro z w2 ⟨rfl, b2⟩
  go_wp2
  go_ret2
  exact ⟨rfl, below_trans b2 (below_alloc _ _)⟩

set_option maxRecDepth 100000 in
set_option maxHeartbeats 1600000 in
theorem csz_7 (w : World) : Calls Tryd.prog 7 #[.int .i64 7] w fun z w' => z = .returned (.tuple #[.int .i64 8, .int .i64 0]) ∧ Below w.heap.size w w' := by
  have HL : Hid (∀ w1, Calls Tryd.prog 10 #[.int .i64 7] w1 fun z w' => z = .returned (.tuple #[.agg #[.int .i64 2, .int .i64 56, .int .i64 (-183), .int .i64 71, .bool false, .int .i64 8, .int .i64 8, .int .i64 3, .func (.func 31) #[] #[]], .int .i64 0]) ∧ Below w1.heap.size w1 w') := fun w1 => layoutOf_7 w1
  have hsf : ∀ (a : Addr) (W : World) (g : Fn), (store a (Value.func g #[] #[])).run Tryd.prog W = stored Tryd.prog W a (Value.func g #[] #[]) .plain := fun a W g => run_store _ W a _ _ rfl
  have hsn : ∀ (a : Addr) (W : World), (store a Value.nilFunc).run Tryd.prog W = stored Tryd.prog W a Value.nilFunc .plain := fun a W => run_store _ W a _ _ rfl
  go_enter Tryd.func7, Tryd.ntmps7
  go_wp2_with fail
  refine (HL.out _).mono ?_
  rintro z w2 ⟨rfl, b2⟩
  go_wp2
  go_ret2
  exact ⟨rfl, below_trans b2 (below_alloc _ _)⟩

set_option maxRecDepth 100000 in
set_option maxHeartbeats 1600000 in
theorem csz_8 (w : World) : Calls Tryd.prog 7 #[.int .i64 8] w fun z w' => z = .returned (.tuple #[.int .i64 8, .int .i64 0]) ∧ Below w.heap.size w w' := by
  have HL : Hid (∀ w1, Calls Tryd.prog 10 #[.int .i64 8] w1 fun z w' => z = .returned (.tuple #[.agg #[.int .i64 2, .int .i64 53, .int .i64 (-1076), .int .i64 970, .bool false, .int .i64 8, .int .i64 11, .int .i64 3, .func (.func 31) #[] #[]], .int .i64 0]) ∧ Below w1.heap.size w1 w') := fun w1 => layoutOf_8 w1
  have hsf : ∀ (a : Addr) (W : World) (g : Fn), (store a (Value.func g #[] #[])).run Tryd.prog W = stored Tryd.prog W a (Value.func g #[] #[]) .plain := fun a W g => run_store _ W a _ _ rfl
  have hsn : ∀ (a : Addr) (W : World), (store a Value.nilFunc).run Tryd.prog W = stored Tryd.prog W a Value.nilFunc .plain := fun a W => run_store _ W a _ _ rfl
  go_enter Tryd.func7, Tryd.ntmps7
  go_wp2_with fail
  refine (HL.out _).mono ?_
  rintro z w2 ⟨rfl, b2⟩
  go_wp2
  go_ret2
  exact ⟨rfl, below_trans b2 (below_alloc _ _)⟩

end Go.Proofs.YtiiphandhpilgaaDoor

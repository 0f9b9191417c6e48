/-
  Texts laid together: Co9.
-/
import Derived.Deep.RegionHeld3
import Derived.Test.YtiiphandhpilgaaDoorEb07
namespace Go.Proofs.YtiiphandhpilgaaDoor
open Go.RowKit
/-- Bytes of a format. -/
def szN : Nat → Nat
  | 1 => 4 | 2 => 8 | 3 => 10 | 4 => 4 | 5 => 8 | 6 => 4 | 7 => 8 | 8 => 8 | _ => 0
/-- Bits of E. -/
def exN : Nat → Nat
  | 1 => 8 | 2 => 11 | 3 => 15 | 4 => 7 | 5 => 7 | 6 => 8 | 7 => 8 | 8 => 11 | _ => 0
/-- Digits of a format. -/
def dgN : Nat → Nat
  | 1 => 24 | 2 => 53 | 3 => 64 | 4 => 6 | 5 => 14 | 6 => 24 | 7 => 56 | 8 => 53 | _ => 0
/-- The radix of a format. -/
def rdN : Nat → Nat
  | 4 => 16 | 5 => 16 | _ => 2
/-- The least power. -/
def lsI : Nat → Int
  | 1 => -149 | 2 => -1074 | 3 => -16445 | 4 => -70 | 5 => -78 | 6 => -151 | 7 => -183 | 8 => -1076 | _ => 0
/-- Bits of F. -/
def frN (k : Nat) : Nat := 8 * szN k - 1 - exN k
def onesN (k : Nat) : Nat := 2 ^ exN k - 1
def leadN (k : Nat) : Nat := 2 ^ (dgN k - 1)
def wrN (k : Nat) : Nat := if k = 3 then 2 ^ 63 else if k = 4 then 2 ^ 5 else if k = 5 then 2 ^ 13 else 0

theorem eight {k : Nat} (h : 1 ≤ k ∧ k ≤ 8) : k = 1 ∨ k = 2 ∨ k = 3 ∨ k = 4 ∨ k = 5 ∨ k = 6 ∨ k = 7 ∨ k = 8 := by omega

set_option maxRecDepth 100000 in
theorem zeroOr_any (b : Bool) (w : World) : Calls Tryd.prog 43 #[.bool b] w fun z w' => z = .returned (.int .i64 (if b then 1 else 2)) ∧ w' = w := by
  cases b
  · go_enter Tryd.func43, Tryd.ntmps43
    go_wp2
    go_ret
    exact ⟨rfl, rfl⟩
  · go_enter Tryd.func43, Tryd.ntmps43
    go_wp2
    go_ret
    exact ⟨rfl, rfl⟩

set_option maxRecDepth 100000 in
set_option maxHeartbeats 1600000 in
theorem lfraction_1 (w : World) : Calls Tryd.prog 40 #[.agg #[.int .i64 2, .int .i64 24, .int .i64 (-149), .int .i64 104, .bool true, .int .i64 4, .int .i64 8, .int .i64 1, .func (.func 28) #[] #[]]] w fun z w' => z = .returned (.int .i64 23) ∧ Below w.heap.size w w' := by
  have hsf : ∀ (a : Addr) (W : World) (g : Fn), (store a (Value.func g #[] #[])).run Tryd.prog W = stored Tryd.prog W a (Value.func g #[] #[]) .plain := fun a W g => run_store _ W a _ _ rfl
  go_enter Tryd.func40, Tryd.ntmps40
  go_wp2
  go_ret
  exact ⟨rfl, below_alloc _ _⟩

set_option maxRecDepth 100000 in
set_option maxHeartbeats 1600000 in
theorem lfraction_2 (w : World) : Calls Tryd.prog 40 #[.agg #[.int .i64 2, .int .i64 53, .int .i64 (-1074), .int .i64 971, .bool true, .int .i64 8, .int .i64 11, .int .i64 1, .func (.func 28) #[] #[]]] w fun z w' => z = .returned (.int .i64 52) ∧ Below w.heap.size w w' := by
  have hsf : ∀ (a : Addr) (W : World) (g : Fn), (store a (Value.func g #[] #[])).run Tryd.prog W = stored Tryd.prog W a (Value.func g #[] #[]) .plain := fun a W g => run_store _ W a _ _ rfl
  go_enter Tryd.func40, Tryd.ntmps40
  go_wp2
  go_ret
  exact ⟨rfl, below_alloc _ _⟩

set_option maxRecDepth 100000 in
set_option maxHeartbeats 1600000 in
theorem lfraction_3 (w : World) : Calls Tryd.prog 40 #[.agg #[.int .i64 2, .int .i64 64, .int .i64 (-16445), .int .i64 16320, .bool true, .int .i64 10, .int .i64 15, .int .i64 1, .func (.func 29) #[] #[]]] w fun z w' => z = .returned (.int .i64 64) ∧ Below w.heap.size w w' := by
  have hsf : ∀ (a : Addr) (W : World) (g : Fn), (store a (Value.func g #[] #[])).run Tryd.prog W = stored Tryd.prog W a (Value.func g #[] #[]) .plain := fun a W g => run_store _ W a _ _ rfl
  go_enter Tryd.func40, Tryd.ntmps40
  go_wp2
  go_ret
  exact ⟨rfl, below_alloc _ _⟩

set_option maxRecDepth 100000 in
set_option maxHeartbeats 1600000 in
theorem lfraction_4 (w : World) : Calls Tryd.prog 40 #[.agg #[.int .i64 16, .int .i64 6, .int .i64 (-70), .int .i64 57, .bool false, .int .i64 4, .int .i64 7, .int .i64 2, .func (.func 28) #[] #[]]] w fun z w' => z = .returned (.int .i64 24) ∧ Below w.heap.size w w' := by
  have hsf : ∀ (a : Addr) (W : World) (g : Fn), (store a (Value.func g #[] #[])).run Tryd.prog W = stored Tryd.prog W a (Value.func g #[] #[]) .plain := fun a W g => run_store _ W a _ _ rfl
  go_enter Tryd.func40, Tryd.ntmps40
  go_wp2
  go_ret
  exact ⟨rfl, below_alloc _ _⟩

set_option maxRecDepth 100000 in
set_option maxHeartbeats 1600000 in
theorem lfraction_5 (w : World) : Calls Tryd.prog 40 #[.agg #[.int .i64 16, .int .i64 14, .int .i64 (-78), .int .i64 49, .bool false, .int .i64 8, .int .i64 7, .int .i64 2, .func (.func 28) #[] #[]]] w fun z w' => z = .returned (.int .i64 56) ∧ Below w.heap.size w w' := by
  have hsf : ∀ (a : Addr) (W : World) (g : Fn), (store a (Value.func g #[] #[])).run Tryd.prog W = stored Tryd.prog W a (Value.func g #[] #[]) .plain := fun a W g => run_store _ W a _ _ rfl
  go_enter Tryd.func40, Tryd.ntmps40
  go_wp2
  go_ret
  exact ⟨rfl, below_alloc _ _⟩

set_option maxRecDepth 100000 in
set_option maxHeartbeats 1600000 in
theorem lfraction_6 (w : World) : Calls Tryd.prog 40 #[.agg #[.int .i64 2, .int .i64 24, .int .i64 (-151), .int .i64 103, .bool false, .int .i64 4, .int .i64 8, .int .i64 3, .func (.func 31) #[] #[]]] w fun z w' => z = .returned (.int .i64 23) ∧ Below w.heap.size w w' := by
  have hsf : ∀ (a : Addr) (W : World) (g : Fn), (store a (Value.func g #[] #[])).run Tryd.prog W = stored Tryd.prog W a (Value.func g #[] #[]) .plain := fun a W g => run_store _ W a _ _ rfl
  go_enter Tryd.func40, Tryd.ntmps40
  go_wp2
  go_ret
  exact ⟨rfl, below_alloc _ _⟩

set_option maxRecDepth 100000 in
set_option maxHeartbeats 1600000 in
theorem lfraction_7 (w : World) : Calls Tryd.prog 40 #[.agg #[.int .i64 2, .int .i64 56, .int .i64 (-183), .int .i64 71, .bool false, .int .i64 8, .int .i64 8, .int .i64 3, .func (.func 31) #[] #[]]] w fun z w' => z = .returned (.int .i64 55) ∧ Below w.heap.size w w' := by
  have hsf : ∀ (a : Addr) (W : World) (g : Fn), (store a (Value.func g #[] #[])).run Tryd.prog W = stored Tryd.prog W a (Value.func g #[] #[]) .plain := fun a W g => run_store _ W a _ _ rfl
  go_enter Tryd.func40, Tryd.ntmps40
  go_wp2
  go_ret
  exact ⟨rfl, below_alloc _ _⟩

set_option maxRecDepth 100000 in
set_option maxHeartbeats 1600000 in
theorem lfraction_8 (w : World) : Calls Tryd.prog 40 #[.agg #[.int .i64 2, .int .i64 53, .int .i64 (-1076), .int .i64 970, .bool false, .int .i64 8, .int .i64 11, .int .i64 3, .func (.func 31) #[] #[]]] w fun z w' => z = .returned (.int .i64 52) ∧ Below w.heap.size w w' := by
  have hsf : ∀ (a : Addr) (W : World) (g : Fn), (store a (Value.func g #[] #[])).run Tryd.prog W = stored Tryd.prog W a (Value.func g #[] #[]) .plain := fun a W g => run_store _ W a _ _ rfl
  go_enter Tryd.func40, Tryd.ntmps40
  go_wp2
  go_ret
  exact ⟨rfl, below_alloc _ _⟩

set_option maxRecDepth 100000 in
set_option maxHeartbeats 1600000 in
theorem lones_1 (w : World) : Calls Tryd.prog 36 #[.agg #[.int .i64 2, .int .i64 24, .int .i64 (-149), .int .i64 104, .bool true, .int .i64 4, .int .i64 8, .int .i64 1, .func (.func 28) #[] #[]]] w fun z w' => z = .returned (.int .i64 255) ∧ Below w.heap.size w w' := by
  have hsf : ∀ (a : Addr) (W : World) (g : Fn), (store a (Value.func g #[] #[])).run Tryd.prog W = stored Tryd.prog W a (Value.func g #[] #[]) .plain := fun a W g => run_store _ W a _ _ rfl
  go_enter Tryd.func36, Tryd.ntmps36
  go_wp2
  go_ret
  exact ⟨rfl, below_alloc _ _⟩

set_option maxRecDepth 100000 in
set_option maxHeartbeats 1600000 in
theorem lones_2 (w : World) : Calls Tryd.prog 36 #[.agg #[.int .i64 2, .int .i64 53, .int .i64 (-1074), .int .i64 971, .bool true, .int .i64 8, .int .i64 11, .int .i64 1, .func (.func 28) #[] #[]]] w fun z w' => z = .returned (.int .i64 2047) ∧ Below w.heap.size w w' := by
  have hsf : ∀ (a : Addr) (W : World) (g : Fn), (store a (Value.func g #[] #[])).run Tryd.prog W = stored Tryd.prog W a (Value.func g #[] #[]) .plain := fun a W g => run_store _ W a _ _ rfl
  go_enter Tryd.func36, Tryd.ntmps36
  go_wp2
  go_ret
  exact ⟨rfl, below_alloc _ _⟩

set_option maxRecDepth 100000 in
set_option maxHeartbeats 1600000 in
theorem lones_3 (w : World) : Calls Tryd.prog 36 #[.agg #[.int .i64 2, .int .i64 64, .int .i64 (-16445), .int .i64 16320, .bool true, .int .i64 10, .int .i64 15, .int .i64 1, .func (.func 29) #[] #[]]] w fun z w' => z = .returned (.int .i64 32767) ∧ Below w.heap.size w w' := by
  have hsf : ∀ (a : Addr) (W : World) (g : Fn), (store a (Value.func g #[] #[])).run Tryd.prog W = stored Tryd.prog W a (Value.func g #[] #[]) .plain := fun a W g => run_store _ W a _ _ rfl
  go_enter Tryd.func36, Tryd.ntmps36
  go_wp2
  go_ret
  exact ⟨rfl, below_alloc _ _⟩

set_option maxRecDepth 100000 in
set_option maxHeartbeats 1600000 in
theorem lones_4 (w : World) : Calls Tryd.prog 36 #[.agg #[.int .i64 16, .int .i64 6, .int .i64 (-70), .int .i64 57, .bool false, .int .i64 4, .int .i64 7, .int .i64 2, .func (.func 28) #[] #[]]] w fun z w' => z = .returned (.int .i64 127) ∧ Below w.heap.size w w' := by
  have hsf : ∀ (a : Addr) (W : World) (g : Fn), (store a (Value.func g #[] #[])).run Tryd.prog W = stored Tryd.prog W a (Value.func g #[] #[]) .plain := fun a W g => run_store _ W a _ _ rfl
  go_enter Tryd.func36, Tryd.ntmps36
  go_wp2
  go_ret
  exact ⟨rfl, below_alloc _ _⟩

set_option maxRecDepth 100000 in
set_option maxHeartbeats 1600000 in
theorem lones_5 (w : World) : Calls Tryd.prog 36 #[.agg #[.int .i64 16, .int .i64 14, .int .i64 (-78), .int .i64 49, .bool false, .int .i64 8, .int .i64 7, .int .i64 2, .func (.func 28) #[] #[]]] w fun z w' => z = .returned (.int .i64 127) ∧ Below w.heap.size w w' := by
  have hsf : ∀ (a : Addr) (W : World) (g : Fn), (store a (Value.func g #[] #[])).run Tryd.prog W = stored Tryd.prog W a (Value.func g #[] #[]) .plain := fun a W g => run_store _ W a _ _ rfl
  go_enter Tryd.func36, Tryd.ntmps36
  go_wp2
  go_ret
  exact ⟨rfl, below_alloc _ _⟩

set_option maxRecDepth 100000 in
set_option maxHeartbeats 1600000 in
theorem lones_6 (w : World) : Calls Tryd.prog 36 #[.agg #[.int .i64 2, .int .i64 24, .int .i64 (-151), .int .i64 103, .bool false, .int .i64 4, .int .i64 8, .int .i64 3, .func (.func 31) #[] #[]]] w fun z w' => z = .returned (.int .i64 255) ∧ Below w.heap.size w w' := by
  have hsf : ∀ (a : Addr) (W : World) (g : Fn), (store a (Value.func g #[] #[])).run Tryd.prog W = stored Tryd.prog W a (Value.func g #[] #[]) .plain := fun a W g => run_store _ W a _ _ rfl
  go_enter Tryd.func36, Tryd.ntmps36
  go_wp2
  go_ret
  exact ⟨rfl, below_alloc _ _⟩

set_option maxRecDepth 100000 in
set_option maxHeartbeats 1600000 in
theorem lones_7 (w : World) : Calls Tryd.prog 36 #[.agg #[.int .i64 2, .int .i64 56, .int .i64 (-183), .int .i64 71, .bool false, .int .i64 8, .int .i64 8, .int .i64 3, .func (.func 31) #[] #[]]] w fun z w' => z = .returned (.int .i64 255) ∧ Below w.heap.size w w' := by
  have hsf : ∀ (a : Addr) (W : World) (g : Fn), (store a (Value.func g #[] #[])).run Tryd.prog W = stored Tryd.prog W a (Value.func g #[] #[]) .plain := fun a W g => run_store _ W a _ _ rfl
  go_enter Tryd.func36, Tryd.ntmps36
  go_wp2
  go_ret
  exact ⟨rfl, below_alloc _ _⟩

set_option maxRecDepth 100000 in
set_option maxHeartbeats 1600000 in
theorem lones_8 (w : World) : Calls Tryd.prog 36 #[.agg #[.int .i64 2, .int .i64 53, .int .i64 (-1076), .int .i64 970, .bool false, .int .i64 8, .int .i64 11, .int .i64 3, .func (.func 31) #[] #[]]] w fun z w' => z = .returned (.int .i64 2047) ∧ Below w.heap.size w w' := by
  have hsf : ∀ (a : Addr) (W : World) (g : Fn), (store a (Value.func g #[] #[])).run Tryd.prog W = stored Tryd.prog W a (Value.func g #[] #[]) .plain := fun a W g => run_store _ W a _ _ rfl
  go_enter Tryd.func36, Tryd.ntmps36
  go_wp2
  go_ret
  exact ⟨rfl, below_alloc _ _⟩

set_option maxRecDepth 100000 in
set_option maxHeartbeats 1600000 in
theorem llead_1 (w : World) : Calls Tryd.prog 38 #[.agg #[.int .i64 2, .int .i64 24, .int .i64 (-149), .int .i64 104, .bool true, .int .i64 4, .int .i64 8, .int .i64 1, .func (.func 28) #[] #[]]] w fun z w' => z = .returned (.int .u64 8388608) ∧ Below w.heap.size w w' := by
  have hsf : ∀ (a : Addr) (W : World) (g : Fn), (store a (Value.func g #[] #[])).run Tryd.prog W = stored Tryd.prog W a (Value.func g #[] #[]) .plain := fun a W g => run_store _ W a _ _ rfl
  go_enter Tryd.func38, Tryd.ntmps38
  go_wp2
  go_ret
  exact ⟨rfl, below_alloc _ _⟩

set_option maxRecDepth 100000 in
set_option maxHeartbeats 1600000 in
theorem llead_2 (w : World) : Calls Tryd.prog 38 #[.agg #[.int .i64 2, .int .i64 53, .int .i64 (-1074), .int .i64 971, .bool true, .int .i64 8, .int .i64 11, .int .i64 1, .func (.func 28) #[] #[]]] w fun z w' => z = .returned (.int .u64 4503599627370496) ∧ Below w.heap.size w w' := by
  have hsf : ∀ (a : Addr) (W : World) (g : Fn), (store a (Value.func g #[] #[])).run Tryd.prog W = stored Tryd.prog W a (Value.func g #[] #[]) .plain := fun a W g => run_store _ W a _ _ rfl
  go_enter Tryd.func38, Tryd.ntmps38
  go_wp2
  go_ret
  exact ⟨rfl, below_alloc _ _⟩

set_option maxRecDepth 100000 in
set_option maxHeartbeats 1600000 in
theorem llead_3 (w : World) : Calls Tryd.prog 38 #[.agg #[.int .i64 2, .int .i64 64, .int .i64 (-16445), .int .i64 16320, .bool true, .int .i64 10, .int .i64 15, .int .i64 1, .func (.func 29) #[] #[]]] w fun z w' => z = .returned (.int .u64 9223372036854775808) ∧ Below w.heap.size w w' := by
  have hsf : ∀ (a : Addr) (W : World) (g : Fn), (store a (Value.func g #[] #[])).run Tryd.prog W = stored Tryd.prog W a (Value.func g #[] #[]) .plain := fun a W g => run_store _ W a _ _ rfl
  go_enter Tryd.func38, Tryd.ntmps38
  go_wp2
  go_ret
  exact ⟨rfl, below_alloc _ _⟩

set_option maxRecDepth 100000 in
set_option maxHeartbeats 1600000 in
theorem llead_4 (w : World) : Calls Tryd.prog 38 #[.agg #[.int .i64 16, .int .i64 6, .int .i64 (-70), .int .i64 57, .bool false, .int .i64 4, .int .i64 7, .int .i64 2, .func (.func 28) #[] #[]]] w fun z w' => z = .returned (.int .u64 32) ∧ Below w.heap.size w w' := by
  have hsf : ∀ (a : Addr) (W : World) (g : Fn), (store a (Value.func g #[] #[])).run Tryd.prog W = stored Tryd.prog W a (Value.func g #[] #[]) .plain := fun a W g => run_store _ W a _ _ rfl
  go_enter Tryd.func38, Tryd.ntmps38
  go_wp2
  go_ret
  exact ⟨rfl, below_alloc _ _⟩

set_option maxRecDepth 100000 in
set_option maxHeartbeats 1600000 in
theorem llead_5 (w : World) : Calls Tryd.prog 38 #[.agg #[.int .i64 16, .int .i64 14, .int .i64 (-78), .int .i64 49, .bool false, .int .i64 8, .int .i64 7, .int .i64 2, .func (.func 28) #[] #[]]] w fun z w' => z = .returned (.int .u64 8192) ∧ Below w.heap.size w w' := by
  have hsf : ∀ (a : Addr) (W : World) (g : Fn), (store a (Value.func g #[] #[])).run Tryd.prog W = stored Tryd.prog W a (Value.func g #[] #[]) .plain := fun a W g => run_store _ W a _ _ rfl
  go_enter Tryd.func38, Tryd.ntmps38
  go_wp2
  go_ret
  exact ⟨rfl, below_alloc _ _⟩

set_option maxRecDepth 100000 in
set_option maxHeartbeats 1600000 in
theorem llead_6 (w : World) : Calls Tryd.prog 38 #[.agg #[.int .i64 2, .int .i64 24, .int .i64 (-151), .int .i64 103, .bool false, .int .i64 4, .int .i64 8, .int .i64 3, .func (.func 31) #[] #[]]] w fun z w' => z = .returned (.int .u64 8388608) ∧ Below w.heap.size w w' := by
  have hsf : ∀ (a : Addr) (W : World) (g : Fn), (store a (Value.func g #[] #[])).run Tryd.prog W = stored Tryd.prog W a (Value.func g #[] #[]) .plain := fun a W g => run_store _ W a _ _ rfl
  go_enter Tryd.func38, Tryd.ntmps38
  go_wp2
  go_ret
  exact ⟨rfl, below_alloc _ _⟩

set_option maxRecDepth 100000 in
set_option maxHeartbeats 1600000 in
theorem llead_7 (w : World) : Calls Tryd.prog 38 #[.agg #[.int .i64 2, .int .i64 56, .int .i64 (-183), .int .i64 71, .bool false, .int .i64 8, .int .i64 8, .int .i64 3, .func (.func 31) #[] #[]]] w fun z w' => z = .returned (.int .u64 36028797018963968) ∧ Below w.heap.size w w' := by
  have hsf : ∀ (a : Addr) (W : World) (g : Fn), (store a (Value.func g #[] #[])).run Tryd.prog W = stored Tryd.prog W a (Value.func g #[] #[]) .plain := fun a W g => run_store _ W a _ _ rfl
  go_enter Tryd.func38, Tryd.ntmps38
  go_wp2
  go_ret
  exact ⟨rfl, below_alloc _ _⟩

set_option maxRecDepth 100000 in
set_option maxHeartbeats 1600000 in
theorem llead_8 (w : World) : Calls Tryd.prog 38 #[.agg #[.int .i64 2, .int .i64 53, .int .i64 (-1076), .int .i64 970, .bool false, .int .i64 8, .int .i64 11, .int .i64 3, .func (.func 31) #[] #[]]] w fun z w' => z = .returned (.int .u64 4503599627370496) ∧ Below w.heap.size w w' := by
  have hsf : ∀ (a : Addr) (W : World) (g : Fn), (store a (Value.func g #[] #[])).run Tryd.prog W = stored Tryd.prog W a (Value.func g #[] #[]) .plain := fun a W g => run_store _ W a _ _ rfl
  go_enter Tryd.func38, Tryd.ntmps38
  go_wp2
  go_ret
  exact ⟨rfl, below_alloc _ _⟩

set_option maxRecDepth 100000 in
set_option maxHeartbeats 1600000 in
theorem lwritten_1 (w : World) : Calls Tryd.prog 37 #[.agg #[.int .i64 2, .int .i64 24, .int .i64 (-149), .int .i64 104, .bool true, .int .i64 4, .int .i64 8, .int .i64 1, .func (.func 28) #[] #[]]] w fun z w' => z = .returned (.int .u64 0) ∧ Below w.heap.size w w' := by
  have hsf : ∀ (a : Addr) (W : World) (g : Fn), (store a (Value.func g #[] #[])).run Tryd.prog W = stored Tryd.prog W a (Value.func g #[] #[]) .plain := fun a W g => run_store _ W a _ _ rfl
  have HF : Hid (∀ w1, Calls Tryd.prog 40 #[.agg #[.int .i64 2, .int .i64 24, .int .i64 (-149), .int .i64 104, .bool true, .int .i64 4, .int .i64 8, .int .i64 1, .func (.func 28) #[] #[]]] w1 fun z w' => z = .returned (.int .i64 23) ∧ Below w1.heap.size w1 w') := lfraction_1
  have HL : Hid (∀ w1, Calls Tryd.prog 38 #[.agg #[.int .i64 2, .int .i64 24, .int .i64 (-149), .int .i64 104, .bool true, .int .i64 4, .int .i64 8, .int .i64 1, .func (.func 28) #[] #[]]] w1 fun z w' => z = .returned (.int .u64 8388608) ∧ Below w1.heap.size w1 w') := llead_1
  have l0 := locE_new w [.int .i64 2, .int .i64 24, .int .i64 (-149), .int .i64 104, .bool true, .int .i64 4, .int .i64 8, .int .i64 1, .func (.func 28) #[] #[]] 44
  have b0 := below_alloc w (.cells #[.int .i64 2, .int .i64 24, .int .i64 (-149), .int .i64 104, .bool true, .int .i64 4, .int .i64 8, .int .i64 1, .func (.func 28) #[] #[]] 44)
  have x0 := l0.cell 0 rfl; have x1 := l0.cell 1 rfl; have x2 := l0.cell 2 rfl; have x3 := l0.cell 3 rfl; have x4 := l0.cell 4 rfl; have x5 := l0.cell 5 rfl; have x6 := l0.cell 6 rfl; have x7 := l0.cell 7 rfl; have x8 := l0.cell 8 rfl
  go_enter Tryd.func37, Tryd.ntmps37
  go_wp2_with fail
  go_region_held3 (fun wq => wq.cell? ⟨w.heap.size, 0, none⟩ = some (.int .i64 2) ∧ wq.cell? ⟨w.heap.size, 1, none⟩ = some (.int .i64 24) ∧ wq.cell? ⟨w.heap.size, 2, none⟩ = some (.int .i64 (-149)) ∧ wq.cell? ⟨w.heap.size, 3, none⟩ = some (.int .i64 104) ∧ wq.cell? ⟨w.heap.size, 4, none⟩ = some (.bool true) ∧ wq.cell? ⟨w.heap.size, 5, none⟩ = some (.int .i64 4) ∧ wq.cell? ⟨w.heap.size, 6, none⟩ = some (.int .i64 8) ∧ wq.cell? ⟨w.heap.size, 7, none⟩ = some (.int .i64 1) ∧ wq.cell? ⟨w.heap.size, 8, none⟩ = some (.func (.func 28) #[] #[])) (go_keep) (first
    | (go_at_call 40; refine (HF.out _).mono ?_; rintro z w2 ⟨rfl, b2⟩; have l2 := l0.drew.later b2; have y0 := l2.cell 0 rfl; have y1 := l2.cell 1 rfl; have y2 := l2.cell 2 rfl; have y3 := l2.cell 3 rfl; have y4 := l2.cell 4 rfl; have y5 := l2.cell 5 rfl; have y6 := l2.cell 6 rfl; have y7 := l2.cell 7 rfl; have y8 := l2.cell 8 rfl))
  all_goals go_wp2
  all_goals go_ret
  all_goals exact ⟨rfl, below_trans b0.drew b2⟩

set_option maxRecDepth 100000 in
set_option maxHeartbeats 1600000 in
theorem lwritten_2 (w : World) : Calls Tryd.prog 37 #[.agg #[.int .i64 2, .int .i64 53, .int .i64 (-1074), .int .i64 971, .bool true, .int .i64 8, .int .i64 11, .int .i64 1, .func (.func 28) #[] #[]]] w fun z w' => z = .returned (.int .u64 0) ∧ Below w.heap.size w w' := by
  have hsf : ∀ (a : Addr) (W : World) (g : Fn), (store a (Value.func g #[] #[])).run Tryd.prog W = stored Tryd.prog W a (Value.func g #[] #[]) .plain := fun a W g => run_store _ W a _ _ rfl
  have HF : Hid (∀ w1, Calls Tryd.prog 40 #[.agg #[.int .i64 2, .int .i64 53, .int .i64 (-1074), .int .i64 971, .bool true, .int .i64 8, .int .i64 11, .int .i64 1, .func (.func 28) #[] #[]]] w1 fun z w' => z = .returned (.int .i64 52) ∧ Below w1.heap.size w1 w') := lfraction_2
  have HL : Hid (∀ w1, Calls Tryd.prog 38 #[.agg #[.int .i64 2, .int .i64 53, .int .i64 (-1074), .int .i64 971, .bool true, .int .i64 8, .int .i64 11, .int .i64 1, .func (.func 28) #[] #[]]] w1 fun z w' => z = .returned (.int .u64 4503599627370496) ∧ Below w1.heap.size w1 w') := llead_2
  have l0 := locE_new w [.int .i64 2, .int .i64 53, .int .i64 (-1074), .int .i64 971, .bool true, .int .i64 8, .int .i64 11, .int .i64 1, .func (.func 28) #[] #[]] 44
  have b0 := below_alloc w (.cells #[.int .i64 2, .int .i64 53, .int .i64 (-1074), .int .i64 971, .bool true, .int .i64 8, .int .i64 11, .int .i64 1, .func (.func 28) #[] #[]] 44)
  have x0 := l0.cell 0 rfl; have x1 := l0.cell 1 rfl; have x2 := l0.cell 2 rfl; have x3 := l0.cell 3 rfl; have x4 := l0.cell 4 rfl; have x5 := l0.cell 5 rfl; have x6 := l0.cell 6 rfl; have x7 := l0.cell 7 rfl; have x8 := l0.cell 8 rfl
  go_enter Tryd.func37, Tryd.ntmps37
  go_wp2_with fail
  go_region_held3 (fun wq => wq.cell? ⟨w.heap.size, 0, none⟩ = some (.int .i64 2) ∧ wq.cell? ⟨w.heap.size, 1, none⟩ = some (.int .i64 53) ∧ wq.cell? ⟨w.heap.size, 2, none⟩ = some (.int .i64 (-1074)) ∧ wq.cell? ⟨w.heap.size, 3, none⟩ = some (.int .i64 971) ∧ wq.cell? ⟨w.heap.size, 4, none⟩ = some (.bool true) ∧ wq.cell? ⟨w.heap.size, 5, none⟩ = some (.int .i64 8) ∧ wq.cell? ⟨w.heap.size, 6, none⟩ = some (.int .i64 11) ∧ wq.cell? ⟨w.heap.size, 7, none⟩ = some (.int .i64 1) ∧ wq.cell? ⟨w.heap.size, 8, none⟩ = some (.func (.func 28) #[] #[])) (go_keep) (first
    | (go_at_call 40; refine (HF.out _).mono ?_; rintro z w2 ⟨rfl, b2⟩; have l2 := l0.drew.later b2; have y0 := l2.cell 0 rfl; have y1 := l2.cell 1 rfl; have y2 := l2.cell 2 rfl; have y3 := l2.cell 3 rfl; have y4 := l2.cell 4 rfl; have y5 := l2.cell 5 rfl; have y6 := l2.cell 6 rfl; have y7 := l2.cell 7 rfl; have y8 := l2.cell 8 rfl))
  all_goals go_wp2
  all_goals go_ret
  all_goals exact ⟨rfl, below_trans b0.drew b2⟩

set_option maxRecDepth 100000 in
set_option maxHeartbeats 1600000 in
theorem lwritten_3 (w : World) : Calls Tryd.prog 37 #[.agg #[.int .i64 2, .int .i64 64, .int .i64 (-16445), .int .i64 16320, .bool true, .int .i64 10, .int .i64 15, .int .i64 1, .func (.func 29) #[] #[]]] w fun z w' => z = .returned (.int .u64 9223372036854775808) ∧ Below w.heap.size w w' := by
  have hsf : ∀ (a : Addr) (W : World) (g : Fn), (store a (Value.func g #[] #[])).run Tryd.prog W = stored Tryd.prog W a (Value.func g #[] #[]) .plain := fun a W g => run_store _ W a _ _ rfl
  have HF : Hid (∀ w1, Calls Tryd.prog 40 #[.agg #[.int .i64 2, .int .i64 64, .int .i64 (-16445), .int .i64 16320, .bool true, .int .i64 10, .int .i64 15, .int .i64 1, .func (.func 29) #[] #[]]] w1 fun z w' => z = .returned (.int .i64 64) ∧ Below w1.heap.size w1 w') := lfraction_3
  have HL : Hid (∀ w1, Calls Tryd.prog 38 #[.agg #[.int .i64 2, .int .i64 64, .int .i64 (-16445), .int .i64 16320, .bool true, .int .i64 10, .int .i64 15, .int .i64 1, .func (.func 29) #[] #[]]] w1 fun z w' => z = .returned (.int .u64 9223372036854775808) ∧ Below w1.heap.size w1 w') := llead_3
  have l0 := locE_new w [.int .i64 2, .int .i64 64, .int .i64 (-16445), .int .i64 16320, .bool true, .int .i64 10, .int .i64 15, .int .i64 1, .func (.func 29) #[] #[]] 44
  have b0 := below_alloc w (.cells #[.int .i64 2, .int .i64 64, .int .i64 (-16445), .int .i64 16320, .bool true, .int .i64 10, .int .i64 15, .int .i64 1, .func (.func 29) #[] #[]] 44)
  have x0 := l0.cell 0 rfl; have x1 := l0.cell 1 rfl; have x2 := l0.cell 2 rfl; have x3 := l0.cell 3 rfl; have x4 := l0.cell 4 rfl; have x5 := l0.cell 5 rfl; have x6 := l0.cell 6 rfl; have x7 := l0.cell 7 rfl; have x8 := l0.cell 8 rfl
  go_enter Tryd.func37, Tryd.ntmps37
  go_wp2_with fail
  go_region_held3 (fun wq => wq.cell? ⟨w.heap.size, 0, none⟩ = some (.int .i64 2) ∧ wq.cell? ⟨w.heap.size, 1, none⟩ = some (.int .i64 64) ∧ wq.cell? ⟨w.heap.size, 2, none⟩ = some (.int .i64 (-16445)) ∧ wq.cell? ⟨w.heap.size, 3, none⟩ = some (.int .i64 16320) ∧ wq.cell? ⟨w.heap.size, 4, none⟩ = some (.bool true) ∧ wq.cell? ⟨w.heap.size, 5, none⟩ = some (.int .i64 10) ∧ wq.cell? ⟨w.heap.size, 6, none⟩ = some (.int .i64 15) ∧ wq.cell? ⟨w.heap.size, 7, none⟩ = some (.int .i64 1) ∧ wq.cell? ⟨w.heap.size, 8, none⟩ = some (.func (.func 29) #[] #[])) (go_keep) (first
    | (go_at_call 40; refine (HF.out _).mono ?_; rintro z w2 ⟨rfl, b2⟩; have l2 := l0.drew.later b2; have y0 := l2.cell 0 rfl; have y1 := l2.cell 1 rfl; have y2 := l2.cell 2 rfl; have y3 := l2.cell 3 rfl; have y4 := l2.cell 4 rfl; have y5 := l2.cell 5 rfl; have y6 := l2.cell 6 rfl; have y7 := l2.cell 7 rfl; have y8 := l2.cell 8 rfl))
  all_goals go_wp2_with fail
  all_goals (refine (HL.out _).mono ?_; rintro z w3 ⟨rfl, b3⟩; go_wp2; go_ret; exact ⟨rfl, below_trans (below_trans b0.drew b2) b3⟩)

set_option maxRecDepth 100000 in
set_option maxHeartbeats 1600000 in
theorem lwritten_4 (w : World) : Calls Tryd.prog 37 #[.agg #[.int .i64 16, .int .i64 6, .int .i64 (-70), .int .i64 57, .bool false, .int .i64 4, .int .i64 7, .int .i64 2, .func (.func 28) #[] #[]]] w fun z w' => z = .returned (.int .u64 32) ∧ Below w.heap.size w w' := by
  have hsf : ∀ (a : Addr) (W : World) (g : Fn), (store a (Value.func g #[] #[])).run Tryd.prog W = stored Tryd.prog W a (Value.func g #[] #[]) .plain := fun a W g => run_store _ W a _ _ rfl
  have HF : Hid (∀ w1, Calls Tryd.prog 40 #[.agg #[.int .i64 16, .int .i64 6, .int .i64 (-70), .int .i64 57, .bool false, .int .i64 4, .int .i64 7, .int .i64 2, .func (.func 28) #[] #[]]] w1 fun z w' => z = .returned (.int .i64 24) ∧ Below w1.heap.size w1 w') := lfraction_4
  have HL : Hid (∀ w1, Calls Tryd.prog 38 #[.agg #[.int .i64 16, .int .i64 6, .int .i64 (-70), .int .i64 57, .bool false, .int .i64 4, .int .i64 7, .int .i64 2, .func (.func 28) #[] #[]]] w1 fun z w' => z = .returned (.int .u64 32) ∧ Below w1.heap.size w1 w') := llead_4
  have l0 := locE_new w [.int .i64 16, .int .i64 6, .int .i64 (-70), .int .i64 57, .bool false, .int .i64 4, .int .i64 7, .int .i64 2, .func (.func 28) #[] #[]] 44
  have b0 := below_alloc w (.cells #[.int .i64 16, .int .i64 6, .int .i64 (-70), .int .i64 57, .bool false, .int .i64 4, .int .i64 7, .int .i64 2, .func (.func 28) #[] #[]] 44)
  have x0 := l0.cell 0 rfl; have x1 := l0.cell 1 rfl; have x2 := l0.cell 2 rfl; have x3 := l0.cell 3 rfl; have x4 := l0.cell 4 rfl; have x5 := l0.cell 5 rfl; have x6 := l0.cell 6 rfl; have x7 := l0.cell 7 rfl; have x8 := l0.cell 8 rfl
  go_enter Tryd.func37, Tryd.ntmps37
  go_wp2_with fail
  go_region_held3 (fun wq => wq.cell? ⟨w.heap.size, 0, none⟩ = some (.int .i64 16) ∧ wq.cell? ⟨w.heap.size, 1, none⟩ = some (.int .i64 6) ∧ wq.cell? ⟨w.heap.size, 2, none⟩ = some (.int .i64 (-70)) ∧ wq.cell? ⟨w.heap.size, 3, none⟩ = some (.int .i64 57) ∧ wq.cell? ⟨w.heap.size, 4, none⟩ = some (.bool false) ∧ wq.cell? ⟨w.heap.size, 5, none⟩ = some (.int .i64 4) ∧ wq.cell? ⟨w.heap.size, 6, none⟩ = some (.int .i64 7) ∧ wq.cell? ⟨w.heap.size, 7, none⟩ = some (.int .i64 2) ∧ wq.cell? ⟨w.heap.size, 8, none⟩ = some (.func (.func 28) #[] #[])) (go_keep) (first
    | (go_at_call 40; refine (HF.out _).mono ?_; rintro z w2 ⟨rfl, b2⟩; have l2 := l0.drew.later b2; have y0 := l2.cell 0 rfl; have y1 := l2.cell 1 rfl; have y2 := l2.cell 2 rfl; have y3 := l2.cell 3 rfl; have y4 := l2.cell 4 rfl; have y5 := l2.cell 5 rfl; have y6 := l2.cell 6 rfl; have y7 := l2.cell 7 rfl; have y8 := l2.cell 8 rfl))
  all_goals go_wp2_with fail
  all_goals (refine (HL.out _).mono ?_; rintro z w3 ⟨rfl, b3⟩; go_wp2; go_ret; exact ⟨rfl, below_trans (below_trans b0.drew b2) b3⟩)

set_option maxRecDepth 100000 in
set_option maxHeartbeats 1600000 in
theorem lwritten_5 (w : World) : Calls Tryd.prog 37 #[.agg #[.int .i64 16, .int .i64 14, .int .i64 (-78), .int .i64 49, .bool false, .int .i64 8, .int .i64 7, .int .i64 2, .func (.func 28) #[] #[]]] w fun z w' => z = .returned (.int .u64 8192) ∧ Below w.heap.size w w' := by
  have hsf : ∀ (a : Addr) (W : World) (g : Fn), (store a (Value.func g #[] #[])).run Tryd.prog W = stored Tryd.prog W a (Value.func g #[] #[]) .plain := fun a W g => run_store _ W a _ _ rfl
  have HF : Hid (∀ w1, Calls Tryd.prog 40 #[.agg #[.int .i64 16, .int .i64 14, .int .i64 (-78), .int .i64 49, .bool false, .int .i64 8, .int .i64 7, .int .i64 2, .func (.func 28) #[] #[]]] w1 fun z w' => z = .returned (.int .i64 56) ∧ Below w1.heap.size w1 w') := lfraction_5
  have HL : Hid (∀ w1, Calls Tryd.prog 38 #[.agg #[.int .i64 16, .int .i64 14, .int .i64 (-78), .int .i64 49, .bool false, .int .i64 8, .int .i64 7, .int .i64 2, .func (.func 28) #[] #[]]] w1 fun z w' => z = .returned (.int .u64 8192) ∧ Below w1.heap.size w1 w') := llead_5
  have l0 := locE_new w [.int .i64 16, .int .i64 14, .int .i64 (-78), .int .i64 49, .bool false, .int .i64 8, .int .i64 7, .int .i64 2, .func (.func 28) #[] #[]] 44
  have b0 := below_alloc w (.cells #[.int .i64 16, .int .i64 14, .int .i64 (-78), .int .i64 49, .bool false, .int .i64 8, .int .i64 7, .int .i64 2, .func (.func 28) #[] #[]] 44)
  have x0 := l0.cell 0 rfl; have x1 := l0.cell 1 rfl; have x2 := l0.cell 2 rfl; have x3 := l0.cell 3 rfl; have x4 := l0.cell 4 rfl; have x5 := l0.cell 5 rfl; have x6 := l0.cell 6 rfl; have x7 := l0.cell 7 rfl; have x8 := l0.cell 8 rfl
  go_enter Tryd.func37, Tryd.ntmps37
  go_wp2_with fail
  go_region_held3 (fun wq => wq.cell? ⟨w.heap.size, 0, none⟩ = some (.int .i64 16) ∧ wq.cell? ⟨w.heap.size, 1, none⟩ = some (.int .i64 14) ∧ wq.cell? ⟨w.heap.size, 2, none⟩ = some (.int .i64 (-78)) ∧ wq.cell? ⟨w.heap.size, 3, none⟩ = some (.int .i64 49) ∧ wq.cell? ⟨w.heap.size, 4, none⟩ = some (.bool false) ∧ wq.cell? ⟨w.heap.size, 5, none⟩ = some (.int .i64 8) ∧ wq.cell? ⟨w.heap.size, 6, none⟩ = some (.int .i64 7) ∧ wq.cell? ⟨w.heap.size, 7, none⟩ = some (.int .i64 2) ∧ wq.cell? ⟨w.heap.size, 8, none⟩ = some (.func (.func 28) #[] #[])) (go_keep) (first
    | (go_at_call 40; refine (HF.out _).mono ?_; rintro z w2 ⟨rfl, b2⟩; have l2 := l0.drew.later b2; have y0 := l2.cell 0 rfl; have y1 := l2.cell 1 rfl; have y2 := l2.cell 2 rfl; have y3 := l2.cell 3 rfl; have y4 := l2.cell 4 rfl; have y5 := l2.cell 5 rfl; have y6 := l2.cell 6 rfl; have y7 := l2.cell 7 rfl; have y8 := l2.cell 8 rfl))
  all_goals go_wp2_with fail
  all_goals (refine (HL.out _).mono ?_; rintro z w3 ⟨rfl, b3⟩; go_wp2; go_ret; exact ⟨rfl, below_trans (below_trans b0.drew b2) b3⟩)

set_option maxRecDepth 100000 in
set_option maxHeartbeats 1600000 in
theorem lwritten_6 (w : World) : Calls Tryd.prog 37 #[.agg #[.int .i64 2, .int .i64 24, .int .i64 (-151), .int .i64 103, .bool false, .int .i64 4, .int .i64 8, .int .i64 3, .func (.func 31) #[] #[]]] w fun z w' => z = .returned (.int .u64 0) ∧ Below w.heap.size w w' := by
  have hsf : ∀ (a : Addr) (W : World) (g : Fn), (store a (Value.func g #[] #[])).run Tryd.prog W = stored Tryd.prog W a (Value.func g #[] #[]) .plain := fun a W g => run_store _ W a _ _ rfl
  have HF : Hid (∀ w1, Calls Tryd.prog 40 #[.agg #[.int .i64 2, .int .i64 24, .int .i64 (-151), .int .i64 103, .bool false, .int .i64 4, .int .i64 8, .int .i64 3, .func (.func 31) #[] #[]]] w1 fun z w' => z = .returned (.int .i64 23) ∧ Below w1.heap.size w1 w') := lfraction_6
  have HL : Hid (∀ w1, Calls Tryd.prog 38 #[.agg #[.int .i64 2, .int .i64 24, .int .i64 (-151), .int .i64 103, .bool false, .int .i64 4, .int .i64 8, .int .i64 3, .func (.func 31) #[] #[]]] w1 fun z w' => z = .returned (.int .u64 8388608) ∧ Below w1.heap.size w1 w') := llead_6
  have l0 := locE_new w [.int .i64 2, .int .i64 24, .int .i64 (-151), .int .i64 103, .bool false, .int .i64 4, .int .i64 8, .int .i64 3, .func (.func 31) #[] #[]] 44
  have b0 := below_alloc w (.cells #[.int .i64 2, .int .i64 24, .int .i64 (-151), .int .i64 103, .bool false, .int .i64 4, .int .i64 8, .int .i64 3, .func (.func 31) #[] #[]] 44)
  have x0 := l0.cell 0 rfl; have x1 := l0.cell 1 rfl; have x2 := l0.cell 2 rfl; have x3 := l0.cell 3 rfl; have x4 := l0.cell 4 rfl; have x5 := l0.cell 5 rfl; have x6 := l0.cell 6 rfl; have x7 := l0.cell 7 rfl; have x8 := l0.cell 8 rfl
  go_enter Tryd.func37, Tryd.ntmps37
  go_wp2_with fail
  go_region_held3 (fun wq => wq.cell? ⟨w.heap.size, 0, none⟩ = some (.int .i64 2) ∧ wq.cell? ⟨w.heap.size, 1, none⟩ = some (.int .i64 24) ∧ wq.cell? ⟨w.heap.size, 2, none⟩ = some (.int .i64 (-151)) ∧ wq.cell? ⟨w.heap.size, 3, none⟩ = some (.int .i64 103) ∧ wq.cell? ⟨w.heap.size, 4, none⟩ = some (.bool false) ∧ wq.cell? ⟨w.heap.size, 5, none⟩ = some (.int .i64 4) ∧ wq.cell? ⟨w.heap.size, 6, none⟩ = some (.int .i64 8) ∧ wq.cell? ⟨w.heap.size, 7, none⟩ = some (.int .i64 3) ∧ wq.cell? ⟨w.heap.size, 8, none⟩ = some (.func (.func 31) #[] #[])) (go_keep) (first
    | (go_at_call 40; refine (HF.out _).mono ?_; rintro z w2 ⟨rfl, b2⟩; have l2 := l0.drew.later b2; have y0 := l2.cell 0 rfl; have y1 := l2.cell 1 rfl; have y2 := l2.cell 2 rfl; have y3 := l2.cell 3 rfl; have y4 := l2.cell 4 rfl; have y5 := l2.cell 5 rfl; have y6 := l2.cell 6 rfl; have y7 := l2.cell 7 rfl; have y8 := l2.cell 8 rfl))
  all_goals go_wp2
  all_goals go_ret
  all_goals exact ⟨rfl, below_trans b0.drew b2⟩

set_option maxRecDepth 100000 in
set_option maxHeartbeats 1600000 in
theorem lwritten_7 (w : World) : Calls Tryd.prog 37 #[.agg #[.int .i64 2, .int .i64 56, .int .i64 (-183), .int .i64 71, .bool false, .int .i64 8, .int .i64 8, .int .i64 3, .func (.func 31) #[] #[]]] w fun z w' => z = .returned (.int .u64 0) ∧ Below w.heap.size w w' := by
  have hsf : ∀ (a : Addr) (W : World) (g : Fn), (store a (Value.func g #[] #[])).run Tryd.prog W = stored Tryd.prog W a (Value.func g #[] #[]) .plain := fun a W g => run_store _ W a _ _ rfl
  have HF : Hid (∀ w1, Calls Tryd.prog 40 #[.agg #[.int .i64 2, .int .i64 56, .int .i64 (-183), .int .i64 71, .bool false, .int .i64 8, .int .i64 8, .int .i64 3, .func (.func 31) #[] #[]]] w1 fun z w' => z = .returned (.int .i64 55) ∧ Below w1.heap.size w1 w') := lfraction_7
  have HL : Hid (∀ w1, Calls Tryd.prog 38 #[.agg #[.int .i64 2, .int .i64 56, .int .i64 (-183), .int .i64 71, .bool false, .int .i64 8, .int .i64 8, .int .i64 3, .func (.func 31) #[] #[]]] w1 fun z w' => z = .returned (.int .u64 36028797018963968) ∧ Below w1.heap.size w1 w') := llead_7
  have l0 := locE_new w [.int .i64 2, .int .i64 56, .int .i64 (-183), .int .i64 71, .bool false, .int .i64 8, .int .i64 8, .int .i64 3, .func (.func 31) #[] #[]] 44
  have b0 := below_alloc w (.cells #[.int .i64 2, .int .i64 56, .int .i64 (-183), .int .i64 71, .bool false, .int .i64 8, .int .i64 8, .int .i64 3, .func (.func 31) #[] #[]] 44)
  have x0 := l0.cell 0 rfl; have x1 := l0.cell 1 rfl; have x2 := l0.cell 2 rfl; have x3 := l0.cell 3 rfl; have x4 := l0.cell 4 rfl; have x5 := l0.cell 5 rfl; have x6 := l0.cell 6 rfl; have x7 := l0.cell 7 rfl; have x8 := l0.cell 8 rfl
  go_enter Tryd.func37, Tryd.ntmps37
  go_wp2_with fail
  go_region_held3 (fun wq => wq.cell? ⟨w.heap.size, 0, none⟩ = some (.int .i64 2) ∧ wq.cell? ⟨w.heap.size, 1, none⟩ = some (.int .i64 56) ∧ wq.cell? ⟨w.heap.size, 2, none⟩ = some (.int .i64 (-183)) ∧ wq.cell? ⟨w.heap.size, 3, none⟩ = some (.int .i64 71) ∧ wq.cell? ⟨w.heap.size, 4, none⟩ = some (.bool false) ∧ wq.cell? ⟨w.heap.size, 5, none⟩ = some (.int .i64 8) ∧ wq.cell? ⟨w.heap.size, 6, none⟩ = some (.int .i64 8) ∧ wq.cell? ⟨w.heap.size, 7, none⟩ = some (.int .i64 3) ∧ wq.cell? ⟨w.heap.size, 8, none⟩ = some (.func (.func 31) #[] #[])) (go_keep) (first
    | (go_at_call 40; refine (HF.out _).mono ?_; rintro z w2 ⟨rfl, b2⟩; have l2 := l0.drew.later b2; have y0 := l2.cell 0 rfl; have y1 := l2.cell 1 rfl; have y2 := l2.cell 2 rfl; have y3 := l2.cell 3 rfl; have y4 := l2.cell 4 rfl; have y5 := l2.cell 5 rfl; have y6 := l2.cell 6 rfl; have y7 := l2.cell 7 rfl; have y8 := l2.cell 8 rfl))
  all_goals go_wp2
  all_goals go_ret
  all_goals exact ⟨rfl, below_trans b0.drew b2⟩

set_option maxRecDepth 100000 in
set_option maxHeartbeats 1600000 in
theorem lwritten_8 (w : World) : Calls Tryd.prog 37 #[.agg #[.int .i64 2, .int .i64 53, .int .i64 (-1076), .int .i64 970, .bool false, .int .i64 8, .int .i64 11, .int .i64 3, .func (.func 31) #[] #[]]] w fun z w' => z = .returned (.int .u64 0) ∧ Below w.heap.size w w' := by
  have hsf : ∀ (a : Addr) (W : World) (g : Fn), (store a (Value.func g #[] #[])).run Tryd.prog W = stored Tryd.prog W a (Value.func g #[] #[]) .plain := fun a W g => run_store _ W a _ _ rfl
  have HF : Hid (∀ w1, Calls Tryd.prog 40 #[.agg #[.int .i64 2, .int .i64 53, .int .i64 (-1076), .int .i64 970, .bool false, .int .i64 8, .int .i64 11, .int .i64 3, .func (.func 31) #[] #[]]] w1 fun z w' => z = .returned (.int .i64 52) ∧ Below w1.heap.size w1 w') := lfraction_8
  have HL : Hid (∀ w1, Calls Tryd.prog 38 #[.agg #[.int .i64 2, .int .i64 53, .int .i64 (-1076), .int .i64 970, .bool false, .int .i64 8, .int .i64 11, .int .i64 3, .func (.func 31) #[] #[]]] w1 fun z w' => z = .returned (.int .u64 4503599627370496) ∧ Below w1.heap.size w1 w') := llead_8
  have l0 := locE_new w [.int .i64 2, .int .i64 53, .int .i64 (-1076), .int .i64 970, .bool false, .int .i64 8, .int .i64 11, .int .i64 3, .func (.func 31) #[] #[]] 44
  have b0 := below_alloc w (.cells #[.int .i64 2, .int .i64 53, .int .i64 (-1076), .int .i64 970, .bool false, .int .i64 8, .int .i64 11, .int .i64 3, .func (.func 31) #[] #[]] 44)
  have x0 := l0.cell 0 rfl; have x1 := l0.cell 1 rfl; have x2 := l0.cell 2 rfl; have x3 := l0.cell 3 rfl; have x4 := l0.cell 4 rfl; have x5 := l0.cell 5 rfl; have x6 := l0.cell 6 rfl; have x7 := l0.cell 7 rfl; have x8 := l0.cell 8 rfl
  go_enter Tryd.func37, Tryd.ntmps37
  go_wp2_with fail
  go_region_held3 (fun wq => wq.cell? ⟨w.heap.size, 0, none⟩ = some (.int .i64 2) ∧ wq.cell? ⟨w.heap.size, 1, none⟩ = some (.int .i64 53) ∧ wq.cell? ⟨w.heap.size, 2, none⟩ = some (.int .i64 (-1076)) ∧ wq.cell? ⟨w.heap.size, 3, none⟩ = some (.int .i64 970) ∧ wq.cell? ⟨w.heap.size, 4, none⟩ = some (.bool false) ∧ wq.cell? ⟨w.heap.size, 5, none⟩ = some (.int .i64 8) ∧ wq.cell? ⟨w.heap.size, 6, none⟩ = some (.int .i64 11) ∧ wq.cell? ⟨w.heap.size, 7, none⟩ = some (.int .i64 3) ∧ wq.cell? ⟨w.heap.size, 8, none⟩ = some (.func (.func 31) #[] #[])) (go_keep) (first
    | (go_at_call 40; refine (HF.out _).mono ?_; rintro z w2 ⟨rfl, b2⟩; have l2 := l0.drew.later b2; have y0 := l2.cell 0 rfl; have y1 := l2.cell 1 rfl; have y2 := l2.cell 2 rfl; have y3 := l2.cell 3 rfl; have y4 := l2.cell 4 rfl; have y5 := l2.cell 5 rfl; have y6 := l2.cell 6 rfl; have y7 := l2.cell 7 rfl; have y8 := l2.cell 8 rfl))
  all_goals go_wp2
  all_goals go_ret
  all_goals exact ⟨rfl, below_trans b0.drew b2⟩

theorem lfraction_any (k : Nat) (hk : 1 ≤ k ∧ k ≤ 8) (w : World) : Calls Tryd.prog 40 #[.agg (layV k).toArray] w fun z w' => z = .returned (.int .i64 ((frN k : Nat) : Int)) ∧ Below w.heap.size w w' := by
  rcases eight hk with rfl | rfl | rfl | rfl | rfl | rfl | rfl | rfl
  · exact lfraction_1 w
  · exact lfraction_2 w
  · exact lfraction_3 w
  · exact lfraction_4 w
  · exact lfraction_5 w
  · exact lfraction_6 w
  · exact lfraction_7 w
  · exact lfraction_8 w
theorem lones_any (k : Nat) (hk : 1 ≤ k ∧ k ≤ 8) (w : World) : Calls Tryd.prog 36 #[.agg (layV k).toArray] w fun z w' => z = .returned (.int .i64 ((onesN k : Nat) : Int)) ∧ Below w.heap.size w w' := by
  rcases eight hk with rfl | rfl | rfl | rfl | rfl | rfl | rfl | rfl
  · exact lones_1 w
  · exact lones_2 w
  · exact lones_3 w
  · exact lones_4 w
  · exact lones_5 w
  · exact lones_6 w
  · exact lones_7 w
  · exact lones_8 w
theorem llead_any (k : Nat) (hk : 1 ≤ k ∧ k ≤ 8) (w : World) : Calls Tryd.prog 38 #[.agg (layV k).toArray] w fun z w' => z = .returned (.int .u64 ((leadN k : Nat) : Int)) ∧ Below w.heap.size w w' := by
  rcases eight hk with rfl | rfl | rfl | rfl | rfl | rfl | rfl | rfl
  · exact llead_1 w
  · exact llead_2 w
  · exact llead_3 w
  · exact llead_4 w
  · exact llead_5 w
  · exact llead_6 w
  · exact llead_7 w
  · exact llead_8 w
theorem lwritten_any (k : Nat) (hk : 1 ≤ k ∧ k ≤ 8) (w : World) : Calls Tryd.prog 37 #[.agg (layV k).toArray] w fun z w' => z = .returned (.int .u64 ((wrN k : Nat) : Int)) ∧ Below w.heap.size w w' := by
  rcases eight hk with rfl | rfl | rfl | rfl | rfl | rfl | rfl | rfl
  · exact lwritten_1 w
  · exact lwritten_2 w
  · exact lwritten_3 w
  · exact lwritten_4 w
  · exact lwritten_5 w
  · exact lwritten_6 w
  · exact lwritten_7 w
  · exact lwritten_8 w
end Go.Proofs.YtiiphandhpilgaaDoor

/-
  Texts laid together: Co12.
-/
import Derived.Test.YtiiphandhpilgaaDoorEb13
namespace Go.Proofs.YtiiphandhpilgaaDoor
open Go.RowKit
set_option maxRecDepth 100000 in
set_option maxHeartbeats 1600000 in
theorem lclass_1 (ng : Bool) (e f : Nat) (w : World) (hf : f < 18446744073709551616) : Calls Tryd.prog 25 #[.agg #[.int .i64 2, .int .i64 24, .int .i64 (-149), .int .i64 104, .bool true, .int .i64 4, .int .i64 8, .int .i64 1, .func (.func 28) #[] #[]], .agg #[.bool ng, .int .i64 (e : Int), .int .u64 (f : Int)]] w fun z w' => z = .returned (.int .i64 ((clsN 1 ng e f : Nat) : Int)) ∧ Below w.heap.size w w' := by
  have hsf : ∀ (a : Addr) (W : World) (g : Fn), (store a (Value.func g #[] #[])).run Tryd.prog W = stored Tryd.prog W a (Value.func g #[] #[]) .plain := fun a W g => run_store _ W a _ _ rfl
  have l0 := (locE_new w [.int .i64 2, .int .i64 24, .int .i64 (-149), .int .i64 104, .bool true, .int .i64 4, .int .i64 8, .int .i64 1, .func (.func 28) #[] #[]] 44).later (below_alloc _ (.cells #[.bool ng, .int .i64 (e : Int), .int .u64 (f : Int)] 51))
  have m0 := locE_new (w.alloc (.cells #[.int .i64 2, .int .i64 24, .int .i64 (-149), .int .i64 104, .bool true, .int .i64 4, .int .i64 8, .int .i64 1, .func (.func 28) #[] #[]] 44)) [.bool ng, .int .i64 (e : Int), .int .u64 (f : Int)] 51
  have b0 := below_trans (below_alloc w (.cells #[.int .i64 2, .int .i64 24, .int .i64 (-149), .int .i64 104, .bool true, .int .i64 4, .int .i64 8, .int .i64 1, .func (.func 28) #[] #[]] 44)) (below_alloc _ (.cells #[.bool ng, .int .i64 (e : Int), .int .u64 (f : Int)] 51))
  rw [World.size_alloc] at m0
  have HC : Hid (∀ w1, Calls Tryd.prog 42 #[.agg #[.int .i64 2, .int .i64 24, .int .i64 (-149), .int .i64 104, .bool true, .int .i64 4, .int .i64 8, .int .i64 1, .func (.func 28) #[] #[]], .agg #[.bool ng, .int .i64 (e : Int), .int .u64 (f : Int)]] w1 fun z w' => z = .returned (.int .i64 ((clsN 1 ng e f : Nat) : Int)) ∧ Below w1.heap.size w1 w') := fun w1 => ci_1 ng e f w1 hf
  obtain ⟨c, hc⟩ : ∃ c, clsN 1 ng e f = c := ⟨_, rfl⟩
  rw [hc] at HC ⊢
  clear hc
  go_enter Tryd.func25, Tryd.ntmps25
  go_wp2_with fail
  refine (HC.out _).mono ?_
  rintro z w1 ⟨rfl, b1⟩
  go_wp2
  go_ret
  exact ⟨rfl, below_trans b0 b1⟩

set_option maxRecDepth 100000 in
set_option maxHeartbeats 1600000 in
theorem lclass_2 (ng : Bool) (e f : Nat) (w : World) (hf : f < 18446744073709551616) : Calls Tryd.prog 25 #[.agg #[.int .i64 2, .int .i64 53, .int .i64 (-1074), .int .i64 971, .bool true, .int .i64 8, .int .i64 11, .int .i64 1, .func (.func 28) #[] #[]], .agg #[.bool ng, .int .i64 (e : Int), .int .u64 (f : Int)]] w fun z w' => z = .returned (.int .i64 ((clsN 2 ng e f : Nat) : Int)) ∧ Below w.heap.size w w' := by
  have hsf : ∀ (a : Addr) (W : World) (g : Fn), (store a (Value.func g #[] #[])).run Tryd.prog W = stored Tryd.prog W a (Value.func g #[] #[]) .plain := fun a W g => run_store _ W a _ _ rfl
  have l0 := (locE_new w [.int .i64 2, .int .i64 53, .int .i64 (-1074), .int .i64 971, .bool true, .int .i64 8, .int .i64 11, .int .i64 1, .func (.func 28) #[] #[]] 44).later (below_alloc _ (.cells #[.bool ng, .int .i64 (e : Int), .int .u64 (f : Int)] 51))
  have m0 := locE_new (w.alloc (.cells #[.int .i64 2, .int .i64 53, .int .i64 (-1074), .int .i64 971, .bool true, .int .i64 8, .int .i64 11, .int .i64 1, .func (.func 28) #[] #[]] 44)) [.bool ng, .int .i64 (e : Int), .int .u64 (f : Int)] 51
  have b0 := below_trans (below_alloc w (.cells #[.int .i64 2, .int .i64 53, .int .i64 (-1074), .int .i64 971, .bool true, .int .i64 8, .int .i64 11, .int .i64 1, .func (.func 28) #[] #[]] 44)) (below_alloc _ (.cells #[.bool ng, .int .i64 (e : Int), .int .u64 (f : Int)] 51))
  rw [World.size_alloc] at m0
  have HC : Hid (∀ w1, Calls Tryd.prog 42 #[.agg #[.int .i64 2, .int .i64 53, .int .i64 (-1074), .int .i64 971, .bool true, .int .i64 8, .int .i64 11, .int .i64 1, .func (.func 28) #[] #[]], .agg #[.bool ng, .int .i64 (e : Int), .int .u64 (f : Int)]] w1 fun z w' => z = .returned (.int .i64 ((clsN 2 ng e f : Nat) : Int)) ∧ Below w1.heap.size w1 w') := fun w1 => ci_2 ng e f w1 hf
  obtain ⟨c, hc⟩ : ∃ c, clsN 2 ng e f = c := ⟨_, rfl⟩
  rw [hc] at HC ⊢
  clear hc
  go_enter Tryd.func25, Tryd.ntmps25
  go_wp2_with fail
  refine (HC.out _).mono ?_
  rintro z w1 ⟨rfl, b1⟩
  go_wp2
  go_ret
  exact ⟨rfl, below_trans b0 b1⟩

set_option maxRecDepth 100000 in
set_option maxHeartbeats 1600000 in
theorem lclass_3 (ng : Bool) (e f : Nat) (w : World) (hf : f < 18446744073709551616) : Calls Tryd.prog 25 #[.agg #[.int .i64 2, .int .i64 64, .int .i64 (-16445), .int .i64 16320, .bool true, .int .i64 10, .int .i64 15, .int .i64 1, .func (.func 29) #[] #[]], .agg #[.bool ng, .int .i64 (e : Int), .int .u64 (f : Int)]] w fun z w' => z = .returned (.int .i64 ((clsN 3 ng e f : Nat) : Int)) ∧ Below w.heap.size w w' := by
  have hsf : ∀ (a : Addr) (W : World) (g : Fn), (store a (Value.func g #[] #[])).run Tryd.prog W = stored Tryd.prog W a (Value.func g #[] #[]) .plain := fun a W g => run_store _ W a _ _ rfl
  have l0 := (locE_new w [.int .i64 2, .int .i64 64, .int .i64 (-16445), .int .i64 16320, .bool true, .int .i64 10, .int .i64 15, .int .i64 1, .func (.func 29) #[] #[]] 44).later (below_alloc _ (.cells #[.bool ng, .int .i64 (e : Int), .int .u64 (f : Int)] 51))
  have m0 := locE_new (w.alloc (.cells #[.int .i64 2, .int .i64 64, .int .i64 (-16445), .int .i64 16320, .bool true, .int .i64 10, .int .i64 15, .int .i64 1, .func (.func 29) #[] #[]] 44)) [.bool ng, .int .i64 (e : Int), .int .u64 (f : Int)] 51
  have b0 := below_trans (below_alloc w (.cells #[.int .i64 2, .int .i64 64, .int .i64 (-16445), .int .i64 16320, .bool true, .int .i64 10, .int .i64 15, .int .i64 1, .func (.func 29) #[] #[]] 44)) (below_alloc _ (.cells #[.bool ng, .int .i64 (e : Int), .int .u64 (f : Int)] 51))
  rw [World.size_alloc] at m0
  have HC : Hid (∀ w1, Calls Tryd.prog 42 #[.agg #[.int .i64 2, .int .i64 64, .int .i64 (-16445), .int .i64 16320, .bool true, .int .i64 10, .int .i64 15, .int .i64 1, .func (.func 29) #[] #[]], .agg #[.bool ng, .int .i64 (e : Int), .int .u64 (f : Int)]] w1 fun z w' => z = .returned (.int .i64 ((clsN 3 ng e f : Nat) : Int)) ∧ Below w1.heap.size w1 w') := fun w1 => ci_3 ng e f w1 hf
  obtain ⟨c, hc⟩ : ∃ c, clsN 3 ng e f = c := ⟨_, rfl⟩
  rw [hc] at HC ⊢
  clear hc
  go_enter Tryd.func25, Tryd.ntmps25
  go_wp2_with fail
  refine (HC.out _).mono ?_
  rintro z w1 ⟨rfl, b1⟩
  go_wp2
  go_ret
  exact ⟨rfl, below_trans b0 b1⟩

set_option maxRecDepth 100000 in
set_option maxHeartbeats 1600000 in
theorem lclass_4 (ng : Bool) (e f : Nat) (w : World) (_hf : f < 18446744073709551616) : Calls Tryd.prog 25 #[.agg #[.int .i64 16, .int .i64 6, .int .i64 (-70), .int .i64 57, .bool false, .int .i64 4, .int .i64 7, .int .i64 2, .func (.func 28) #[] #[]], .agg #[.bool ng, .int .i64 (e : Int), .int .u64 (f : Int)]] w fun z w' => z = .returned (.int .i64 ((clsN 4 ng e f : Nat) : Int)) ∧ Below w.heap.size w w' := by
  have hsf : ∀ (a : Addr) (W : World) (g : Fn), (store a (Value.func g #[] #[])).run Tryd.prog W = stored Tryd.prog W a (Value.func g #[] #[]) .plain := fun a W g => run_store _ W a _ _ rfl
  have l0 := (locE_new w [.int .i64 16, .int .i64 6, .int .i64 (-70), .int .i64 57, .bool false, .int .i64 4, .int .i64 7, .int .i64 2, .func (.func 28) #[] #[]] 44).later (below_alloc _ (.cells #[.bool ng, .int .i64 (e : Int), .int .u64 (f : Int)] 51))
  have m0 := locE_new (w.alloc (.cells #[.int .i64 16, .int .i64 6, .int .i64 (-70), .int .i64 57, .bool false, .int .i64 4, .int .i64 7, .int .i64 2, .func (.func 28) #[] #[]] 44)) [.bool ng, .int .i64 (e : Int), .int .u64 (f : Int)] 51
  have b0 := below_trans (below_alloc w (.cells #[.int .i64 16, .int .i64 6, .int .i64 (-70), .int .i64 57, .bool false, .int .i64 4, .int .i64 7, .int .i64 2, .func (.func 28) #[] #[]] 44)) (below_alloc _ (.cells #[.bool ng, .int .i64 (e : Int), .int .u64 (f : Int)] 51))
  rw [World.size_alloc] at m0
  have HZ : Hid (∀ b w1, Calls Tryd.prog 43 #[.bool b] w1 fun z w' => z = .returned (.int .i64 (if b then 1 else 2)) ∧ w' = w1) := fun b w1 => zeroOr_any b w1
  unfold clsN
  rw [if_neg (by decide), if_pos (by decide)]
  by_cases h : f = 0
  · subst h
    go_enter Tryd.func25, Tryd.ntmps25
    go_wp2_with fail
    refine (HZ.out true _).mono ?_
    rintro z w1 ⟨rfl, rfl⟩
    go_wp2
    go_ret
    exact ⟨rfl, b0⟩
  · have h1 : ((f : Int) == 0) = false := by simp; omega
    rw [if_neg h]
    clear h
    go_enter Tryd.func25, Tryd.ntmps25
    go_wp2_with fail
    refine (HZ.out false _).mono ?_
    rintro z w1 ⟨rfl, rfl⟩
    go_wp2
    go_ret
    exact ⟨rfl, b0⟩

set_option maxRecDepth 100000 in
set_option maxHeartbeats 1600000 in
theorem lclass_5 (ng : Bool) (e f : Nat) (w : World) (_hf : f < 18446744073709551616) : Calls Tryd.prog 25 #[.agg #[.int .i64 16, .int .i64 14, .int .i64 (-78), .int .i64 49, .bool false, .int .i64 8, .int .i64 7, .int .i64 2, .func (.func 28) #[] #[]], .agg #[.bool ng, .int .i64 (e : Int), .int .u64 (f : Int)]] w fun z w' => z = .returned (.int .i64 ((clsN 5 ng e f : Nat) : Int)) ∧ Below w.heap.size w w' := by
  have hsf : ∀ (a : Addr) (W : World) (g : Fn), (store a (Value.func g #[] #[])).run Tryd.prog W = stored Tryd.prog W a (Value.func g #[] #[]) .plain := fun a W g => run_store _ W a _ _ rfl
  have l0 := (locE_new w [.int .i64 16, .int .i64 14, .int .i64 (-78), .int .i64 49, .bool false, .int .i64 8, .int .i64 7, .int .i64 2, .func (.func 28) #[] #[]] 44).later (below_alloc _ (.cells #[.bool ng, .int .i64 (e : Int), .int .u64 (f : Int)] 51))
  have m0 := locE_new (w.alloc (.cells #[.int .i64 16, .int .i64 14, .int .i64 (-78), .int .i64 49, .bool false, .int .i64 8, .int .i64 7, .int .i64 2, .func (.func 28) #[] #[]] 44)) [.bool ng, .int .i64 (e : Int), .int .u64 (f : Int)] 51
  have b0 := below_trans (below_alloc w (.cells #[.int .i64 16, .int .i64 14, .int .i64 (-78), .int .i64 49, .bool false, .int .i64 8, .int .i64 7, .int .i64 2, .func (.func 28) #[] #[]] 44)) (below_alloc _ (.cells #[.bool ng, .int .i64 (e : Int), .int .u64 (f : Int)] 51))
  rw [World.size_alloc] at m0
  have HZ : Hid (∀ b w1, Calls Tryd.prog 43 #[.bool b] w1 fun z w' => z = .returned (.int .i64 (if b then 1 else 2)) ∧ w' = w1) := fun b w1 => zeroOr_any b w1
  unfold clsN
  rw [if_neg (by decide), if_pos (by decide)]
  by_cases h : f = 0
  · subst h
    go_enter Tryd.func25, Tryd.ntmps25
    go_wp2_with fail
    refine (HZ.out true _).mono ?_
    rintro z w1 ⟨rfl, rfl⟩
    go_wp2
    go_ret
    exact ⟨rfl, b0⟩
  · have h1 : ((f : Int) == 0) = false := by simp; omega
    rw [if_neg h]
    clear h
    go_enter Tryd.func25, Tryd.ntmps25
    go_wp2_with fail
    refine (HZ.out false _).mono ?_
    rintro z w1 ⟨rfl, rfl⟩
    go_wp2
    go_ret
    exact ⟨rfl, b0⟩

set_option maxRecDepth 100000 in
set_option maxHeartbeats 1600000 in
theorem lclass_6 (ng : Bool) (e f : Nat) (w : World) (_hf : f < 18446744073709551616) : Calls Tryd.prog 25 #[.agg #[.int .i64 2, .int .i64 24, .int .i64 (-151), .int .i64 103, .bool false, .int .i64 4, .int .i64 8, .int .i64 3, .func (.func 31) #[] #[]], .agg #[.bool ng, .int .i64 (e : Int), .int .u64 (f : Int)]] w fun z w' => z = .returned (.int .i64 ((clsN 6 ng e f : Nat) : Int)) ∧ Below w.heap.size w w' := by
  have hsf : ∀ (a : Addr) (W : World) (g : Fn), (store a (Value.func g #[] #[])).run Tryd.prog W = stored Tryd.prog W a (Value.func g #[] #[]) .plain := fun a W g => run_store _ W a _ _ rfl
  have l0 := (locE_new w [.int .i64 2, .int .i64 24, .int .i64 (-151), .int .i64 103, .bool false, .int .i64 4, .int .i64 8, .int .i64 3, .func (.func 31) #[] #[]] 44).later (below_alloc _ (.cells #[.bool ng, .int .i64 (e : Int), .int .u64 (f : Int)] 51))
  have m0 := locE_new (w.alloc (.cells #[.int .i64 2, .int .i64 24, .int .i64 (-151), .int .i64 103, .bool false, .int .i64 4, .int .i64 8, .int .i64 3, .func (.func 31) #[] #[]] 44)) [.bool ng, .int .i64 (e : Int), .int .u64 (f : Int)] 51
  have b0 := below_trans (below_alloc w (.cells #[.int .i64 2, .int .i64 24, .int .i64 (-151), .int .i64 103, .bool false, .int .i64 4, .int .i64 8, .int .i64 3, .func (.func 31) #[] #[]] 44)) (below_alloc _ (.cells #[.bool ng, .int .i64 (e : Int), .int .u64 (f : Int)] 51))
  rw [World.size_alloc] at m0
  have HZ : Hid (∀ b w1, Calls Tryd.prog 43 #[.bool b] w1 fun z w' => z = .returned (.int .i64 (if b then 1 else 2)) ∧ w' = w1) := fun b w1 => zeroOr_any b w1
  unfold clsN
  rw [if_neg (by decide), if_neg (by decide)]
  by_cases h : e = 0
  · subst h
    rw [if_pos rfl]
    cases ng
    · go_enter Tryd.func25, Tryd.ntmps25
      go_wp2_with fail
      refine (HZ.out true _).mono ?_
      rintro z w1 ⟨rfl, rfl⟩
      go_wp2
      go_ret
      exact ⟨rfl, b0⟩
    · go_enter Tryd.func25, Tryd.ntmps25
      go_wp2
      go_ret
      exact ⟨rfl, b0⟩
  · have h1 : ((e : Int) == 0) = false := by simp; omega
    rw [if_neg h]
    clear h
    cases ng
    all_goals
      go_enter Tryd.func25, Tryd.ntmps25
      go_wp2_with fail
      refine (HZ.out false _).mono ?_
      rintro z w1 ⟨rfl, rfl⟩
      go_wp2
      go_ret
      exact ⟨rfl, b0⟩

set_option maxRecDepth 100000 in
set_option maxHeartbeats 1600000 in
theorem lclass_7 (ng : Bool) (e f : Nat) (w : World) (_hf : f < 18446744073709551616) : Calls Tryd.prog 25 #[.agg #[.int .i64 2, .int .i64 56, .int .i64 (-183), .int .i64 71, .bool false, .int .i64 8, .int .i64 8, .int .i64 3, .func (.func 31) #[] #[]], .agg #[.bool ng, .int .i64 (e : Int), .int .u64 (f : Int)]] w fun z w' => z = .returned (.int .i64 ((clsN 7 ng e f : Nat) : Int)) ∧ Below w.heap.size w w' := by
  have hsf : ∀ (a : Addr) (W : World) (g : Fn), (store a (Value.func g #[] #[])).run Tryd.prog W = stored Tryd.prog W a (Value.func g #[] #[]) .plain := fun a W g => run_store _ W a _ _ rfl
  have l0 := (locE_new w [.int .i64 2, .int .i64 56, .int .i64 (-183), .int .i64 71, .bool false, .int .i64 8, .int .i64 8, .int .i64 3, .func (.func 31) #[] #[]] 44).later (below_alloc _ (.cells #[.bool ng, .int .i64 (e : Int), .int .u64 (f : Int)] 51))
  have m0 := locE_new (w.alloc (.cells #[.int .i64 2, .int .i64 56, .int .i64 (-183), .int .i64 71, .bool false, .int .i64 8, .int .i64 8, .int .i64 3, .func (.func 31) #[] #[]] 44)) [.bool ng, .int .i64 (e : Int), .int .u64 (f : Int)] 51
  have b0 := below_trans (below_alloc w (.cells #[.int .i64 2, .int .i64 56, .int .i64 (-183), .int .i64 71, .bool false, .int .i64 8, .int .i64 8, .int .i64 3, .func (.func 31) #[] #[]] 44)) (below_alloc _ (.cells #[.bool ng, .int .i64 (e : Int), .int .u64 (f : Int)] 51))
  rw [World.size_alloc] at m0
  have HZ : Hid (∀ b w1, Calls Tryd.prog 43 #[.bool b] w1 fun z w' => z = .returned (.int .i64 (if b then 1 else 2)) ∧ w' = w1) := fun b w1 => zeroOr_any b w1
  unfold clsN
  rw [if_neg (by decide), if_neg (by decide)]
  by_cases h : e = 0
  · subst h
    rw [if_pos rfl]
    cases ng
    · go_enter Tryd.func25, Tryd.ntmps25
      go_wp2_with fail
      refine (HZ.out true _).mono ?_
      rintro z w1 ⟨rfl, rfl⟩
      go_wp2
      go_ret
      exact ⟨rfl, b0⟩
    · go_enter Tryd.func25, Tryd.ntmps25
      go_wp2
      go_ret
      exact ⟨rfl, b0⟩
  · have h1 : ((e : Int) == 0) = false := by simp; omega
    rw [if_neg h]
    clear h
    cases ng
    all_goals
      go_enter Tryd.func25, Tryd.ntmps25
      go_wp2_with fail
      refine (HZ.out false _).mono ?_
      rintro z w1 ⟨rfl, rfl⟩
      go_wp2
      go_ret
      exact ⟨rfl, b0⟩

set_option maxRecDepth 100000 in
set_option maxHeartbeats 1600000 in
theorem lclass_8 (ng : Bool) (e f : Nat) (w : World) (_hf : f < 18446744073709551616) : Calls Tryd.prog 25 #[.agg #[.int .i64 2, .int .i64 53, .int .i64 (-1076), .int .i64 970, .bool false, .int .i64 8, .int .i64 11, .int .i64 3, .func (.func 31) #[] #[]], .agg #[.bool ng, .int .i64 (e : Int), .int .u64 (f : Int)]] w fun z w' => z = .returned (.int .i64 ((clsN 8 ng e f : Nat) : Int)) ∧ Below w.heap.size w w' := by
  have hsf : ∀ (a : Addr) (W : World) (g : Fn), (store a (Value.func g #[] #[])).run Tryd.prog W = stored Tryd.prog W a (Value.func g #[] #[]) .plain := fun a W g => run_store _ W a _ _ rfl
  have l0 := (locE_new w [.int .i64 2, .int .i64 53, .int .i64 (-1076), .int .i64 970, .bool false, .int .i64 8, .int .i64 11, .int .i64 3, .func (.func 31) #[] #[]] 44).later (below_alloc _ (.cells #[.bool ng, .int .i64 (e : Int), .int .u64 (f : Int)] 51))
  have m0 := locE_new (w.alloc (.cells #[.int .i64 2, .int .i64 53, .int .i64 (-1076), .int .i64 970, .bool false, .int .i64 8, .int .i64 11, .int .i64 3, .func (.func 31) #[] #[]] 44)) [.bool ng, .int .i64 (e : Int), .int .u64 (f : Int)] 51
  have b0 := below_trans (below_alloc w (.cells #[.int .i64 2, .int .i64 53, .int .i64 (-1076), .int .i64 970, .bool false, .int .i64 8, .int .i64 11, .int .i64 3, .func (.func 31) #[] #[]] 44)) (below_alloc _ (.cells #[.bool ng, .int .i64 (e : Int), .int .u64 (f : Int)] 51))
  rw [World.size_alloc] at m0
  have HZ : Hid (∀ b w1, Calls Tryd.prog 43 #[.bool b] w1 fun z w' => z = .returned (.int .i64 (if b then 1 else 2)) ∧ w' = w1) := fun b w1 => zeroOr_any b w1
  unfold clsN
  rw [if_neg (by decide), if_neg (by decide)]
  by_cases h : e = 0
  · subst h
    rw [if_pos rfl]
    cases ng
    · go_enter Tryd.func25, Tryd.ntmps25
      go_wp2_with fail
      refine (HZ.out true _).mono ?_
      rintro z w1 ⟨rfl, rfl⟩
      go_wp2
      go_ret
      exact ⟨rfl, b0⟩
    · go_enter Tryd.func25, Tryd.ntmps25
      go_wp2
      go_ret
      exact ⟨rfl, b0⟩
  · have h1 : ((e : Int) == 0) = false := by simp; omega
    rw [if_neg h]
    clear h
    cases ng
    all_goals
      go_enter Tryd.func25, Tryd.ntmps25
      go_wp2_with fail
      refine (HZ.out false _).mono ?_
      rintro z w1 ⟨rfl, rfl⟩
      go_wp2
      go_ret
      exact ⟨rfl, b0⟩

theorem lclass_any (k : Nat) (hk : 1 ≤ k ∧ k ≤ 8) (ng : Bool) (e f : Nat) (w : World) (hf : f < 18446744073709551616) : Calls Tryd.prog 25 #[.agg (layV k).toArray, .agg #[.bool ng, .int .i64 (e : Int), .int .u64 (f : Int)]] w fun z w' => z = .returned (.int .i64 ((clsN k ng e f : Nat) : Int)) ∧ Below w.heap.size w w' := by
  rcases eight hk with rfl | rfl | rfl | rfl | rfl | rfl | rfl | rfl
  · exact lclass_1 ng e f w hf
  · exact lclass_2 ng e f w hf
  · exact lclass_3 ng e f w hf
  · exact lclass_4 ng e f w hf
  · exact lclass_5 ng e f w hf
  · exact lclass_6 ng e f w hf
  · exact lclass_7 ng e f w hf
  · exact lclass_8 ng e f w hf

/-- The D of a number, and its power, by its fields. -/
def plcN (k e f : Nat) : Nat := if rdN k = 16 then f else if e = 0 then f else f ||| leadN k
def plcP (k e : Nat) : Int := if rdN k = 16 then lsI k + e else if e = 0 then lsI k else lsI k + e - 1

set_option maxRecDepth 100000 in
set_option maxHeartbeats 1600000 in
theorem lplace_1 (ng : Bool) (e f : Nat) (w : World) (hf : f < 18446744073709551616) (he : e < 65536) : Calls Tryd.prog 26 #[.agg #[.int .i64 2, .int .i64 24, .int .i64 (-149), .int .i64 104, .bool true, .int .i64 4, .int .i64 8, .int .i64 1, .func (.func 28) #[] #[]], .agg #[.bool ng, .int .i64 (e : Int), .int .u64 (f : Int)]] w fun z w' => z = .returned (.tuple #[.int .u64 ((plcN 1 e f : Nat) : Int), .int .i64 (plcP 1 e)]) ∧ Below w.heap.size w w' := by
  have hsf : ∀ (a : Addr) (W : World) (g : Fn), (store a (Value.func g #[] #[])).run Tryd.prog W = stored Tryd.prog W a (Value.func g #[] #[]) .plain := fun a W g => run_store _ W a _ _ rfl
  have l0 := (locE_new w [.int .i64 2, .int .i64 24, .int .i64 (-149), .int .i64 104, .bool true, .int .i64 4, .int .i64 8, .int .i64 1, .func (.func 28) #[] #[]] 44).later (below_alloc _ (.cells #[.bool ng, .int .i64 (e : Int), .int .u64 (f : Int)] 51))
  have m0 := locE_new (w.alloc (.cells #[.int .i64 2, .int .i64 24, .int .i64 (-149), .int .i64 104, .bool true, .int .i64 4, .int .i64 8, .int .i64 1, .func (.func 28) #[] #[]] 44)) [.bool ng, .int .i64 (e : Int), .int .u64 (f : Int)] 51
  have b0 := below_trans (below_alloc w (.cells #[.int .i64 2, .int .i64 24, .int .i64 (-149), .int .i64 104, .bool true, .int .i64 4, .int .i64 8, .int .i64 1, .func (.func 28) #[] #[]] 44)) (below_alloc _ (.cells #[.bool ng, .int .i64 (e : Int), .int .u64 (f : Int)] 51))
  rw [World.size_alloc] at m0
  have HL : Hid (∀ w1, Calls Tryd.prog 38 #[.agg #[.int .i64 2, .int .i64 24, .int .i64 (-149), .int .i64 104, .bool true, .int .i64 4, .int .i64 8, .int .i64 1, .func (.func 28) #[] #[]]] w1 fun z w' => z = .returned (.int .u64 8388608) ∧ Below w1.heap.size w1 w') := llead_1
  unfold plcN plcP
  rw [if_neg (show ¬ rdN 1 = 16 by decide), if_neg (show ¬ rdN 1 = 16 by decide), show lsI 1 = (-149) from rfl]
  by_cases h : e = 0
  · subst h
    rw [if_pos rfl, if_pos rfl]
    go_enter Tryd.func26, Tryd.ntmps26
    go_wp2
    go_quiet (fail)
    go_wp2
    go_ret2
    exact ⟨rfl, below_drewN b0 _⟩
  · have h1 : ((e : Int) == 0) = false := by simp; omega
    rw [if_neg h, if_neg h]
    have ho : bits .or .u64 (f : Int) 8388608 = ((f ||| leadN 1 : Nat) : Int) := u64_or_nat f (leadN 1) hf (by decide)
    obtain ⟨d, hd⟩ : ∃ d, f ||| leadN 1 = d := ⟨_, rfl⟩
    rw [hd] at ho ⊢
    have hw1 : IntKind.i64.wrap ((-149) + (e : Int)) = (-149) + (e : Int) := IntWalk.i64_in _ ⟨by omega, by omega⟩
    have hw2 : IntKind.i64.wrap ((-149) + (e : Int) - 1) = (-149) + (e : Int) - 1 := IntWalk.i64_in _ ⟨by omega, by omega⟩
    clear h hd
    have x0 := l0.cell 0 rfl; have x1 := l0.cell 1 rfl; have x2 := l0.cell 2 rfl; have x3 := l0.cell 3 rfl; have x4 := l0.cell 4 rfl; have x5 := l0.cell 5 rfl; have x6 := l0.cell 6 rfl; have x7 := l0.cell 7 rfl; have x8 := l0.cell 8 rfl
    have u0 := m0.cell 0 rfl; have u1 := m0.cell 1 rfl; have u2 := m0.cell 2 rfl
    go_enter Tryd.func26, Tryd.ntmps26
    go_wp2_with fail
    go_region_held3 (fun wq => (wq.cell? ⟨w.heap.size, 0, none⟩ = some (.int .i64 2) ∧ wq.cell? ⟨w.heap.size, 1, none⟩ = some (.int .i64 24) ∧ wq.cell? ⟨w.heap.size, 2, none⟩ = some (.int .i64 (-149)) ∧ wq.cell? ⟨w.heap.size, 3, none⟩ = some (.int .i64 104) ∧ wq.cell? ⟨w.heap.size, 4, none⟩ = some (.bool true) ∧ wq.cell? ⟨w.heap.size, 5, none⟩ = some (.int .i64 4) ∧ wq.cell? ⟨w.heap.size, 6, none⟩ = some (.int .i64 8) ∧ wq.cell? ⟨w.heap.size, 7, none⟩ = some (.int .i64 1) ∧ wq.cell? ⟨w.heap.size, 8, none⟩ = some (.func (.func 28) #[] #[])) ∧ (wq.cell? ⟨w.heap.size + 1, 0, none⟩ = some (.bool ng) ∧ wq.cell? ⟨w.heap.size + 1, 1, none⟩ = some (.int .i64 (e : Int)) ∧ wq.cell? ⟨w.heap.size + 1, 2, none⟩ = some (.int .u64 (f : Int)))) (go_keep) (first
      | (go_at_call 38; refine (HL.out _).mono ?_; rintro z w2 ⟨rfl, b2⟩; have l2 := l0.drew.later b2; have m2 := m0.drew.later b2; have b02 := below_trans b0.drew b2; have y0 := l2.cell 0 rfl; have y1 := l2.cell 1 rfl; have y2 := l2.cell 2 rfl; have y3 := l2.cell 3 rfl; have y4 := l2.cell 4 rfl; have y5 := l2.cell 5 rfl; have y6 := l2.cell 6 rfl; have y7 := l2.cell 7 rfl; have y8 := l2.cell 8 rfl; have v0 := m2.cell 0 rfl; have v1 := m2.cell 1 rfl; have v2 := m2.cell 2 rfl))
    all_goals go_wp2
    all_goals go_ret2
    all_goals exact ⟨by first | rfl | simp [Act.put], b02⟩

set_option maxRecDepth 100000 in
set_option maxHeartbeats 1600000 in
theorem lplace_2 (ng : Bool) (e f : Nat) (w : World) (hf : f < 18446744073709551616) (he : e < 65536) : Calls Tryd.prog 26 #[.agg #[.int .i64 2, .int .i64 53, .int .i64 (-1074), .int .i64 971, .bool true, .int .i64 8, .int .i64 11, .int .i64 1, .func (.func 28) #[] #[]], .agg #[.bool ng, .int .i64 (e : Int), .int .u64 (f : Int)]] w fun z w' => z = .returned (.tuple #[.int .u64 ((plcN 2 e f : Nat) : Int), .int .i64 (plcP 2 e)]) ∧ Below w.heap.size w w' := by
  have hsf : ∀ (a : Addr) (W : World) (g : Fn), (store a (Value.func g #[] #[])).run Tryd.prog W = stored Tryd.prog W a (Value.func g #[] #[]) .plain := fun a W g => run_store _ W a _ _ rfl
  have l0 := (locE_new w [.int .i64 2, .int .i64 53, .int .i64 (-1074), .int .i64 971, .bool true, .int .i64 8, .int .i64 11, .int .i64 1, .func (.func 28) #[] #[]] 44).later (below_alloc _ (.cells #[.bool ng, .int .i64 (e : Int), .int .u64 (f : Int)] 51))
  have m0 := locE_new (w.alloc (.cells #[.int .i64 2, .int .i64 53, .int .i64 (-1074), .int .i64 971, .bool true, .int .i64 8, .int .i64 11, .int .i64 1, .func (.func 28) #[] #[]] 44)) [.bool ng, .int .i64 (e : Int), .int .u64 (f : Int)] 51
  have b0 := below_trans (below_alloc w (.cells #[.int .i64 2, .int .i64 53, .int .i64 (-1074), .int .i64 971, .bool true, .int .i64 8, .int .i64 11, .int .i64 1, .func (.func 28) #[] #[]] 44)) (below_alloc _ (.cells #[.bool ng, .int .i64 (e : Int), .int .u64 (f : Int)] 51))
  rw [World.size_alloc] at m0
  have HL : Hid (∀ w1, Calls Tryd.prog 38 #[.agg #[.int .i64 2, .int .i64 53, .int .i64 (-1074), .int .i64 971, .bool true, .int .i64 8, .int .i64 11, .int .i64 1, .func (.func 28) #[] #[]]] w1 fun z w' => z = .returned (.int .u64 4503599627370496) ∧ Below w1.heap.size w1 w') := llead_2
  unfold plcN plcP
  rw [if_neg (show ¬ rdN 2 = 16 by decide), if_neg (show ¬ rdN 2 = 16 by decide), show lsI 2 = (-1074) from rfl]
  by_cases h : e = 0
  · subst h
    rw [if_pos rfl, if_pos rfl]
    go_enter Tryd.func26, Tryd.ntmps26
    go_wp2
    go_quiet (fail)
    go_wp2
    go_ret2
    exact ⟨rfl, below_drewN b0 _⟩
  · have h1 : ((e : Int) == 0) = false := by simp; omega
    rw [if_neg h, if_neg h]
    have ho : bits .or .u64 (f : Int) 4503599627370496 = ((f ||| leadN 2 : Nat) : Int) := u64_or_nat f (leadN 2) hf (by decide)
    obtain ⟨d, hd⟩ : ∃ d, f ||| leadN 2 = d := ⟨_, rfl⟩
    rw [hd] at ho ⊢
    have hw1 : IntKind.i64.wrap ((-1074) + (e : Int)) = (-1074) + (e : Int) := IntWalk.i64_in _ ⟨by omega, by omega⟩
    have hw2 : IntKind.i64.wrap ((-1074) + (e : Int) - 1) = (-1074) + (e : Int) - 1 := IntWalk.i64_in _ ⟨by omega, by omega⟩
    clear h hd
    have x0 := l0.cell 0 rfl; have x1 := l0.cell 1 rfl; have x2 := l0.cell 2 rfl; have x3 := l0.cell 3 rfl; have x4 := l0.cell 4 rfl; have x5 := l0.cell 5 rfl; have x6 := l0.cell 6 rfl; have x7 := l0.cell 7 rfl; have x8 := l0.cell 8 rfl
    have u0 := m0.cell 0 rfl; have u1 := m0.cell 1 rfl; have u2 := m0.cell 2 rfl
    go_enter Tryd.func26, Tryd.ntmps26
    go_wp2_with fail
    go_region_held3 (fun wq => (wq.cell? ⟨w.heap.size, 0, none⟩ = some (.int .i64 2) ∧ wq.cell? ⟨w.heap.size, 1, none⟩ = some (.int .i64 53) ∧ wq.cell? ⟨w.heap.size, 2, none⟩ = some (.int .i64 (-1074)) ∧ wq.cell? ⟨w.heap.size, 3, none⟩ = some (.int .i64 971) ∧ wq.cell? ⟨w.heap.size, 4, none⟩ = some (.bool true) ∧ wq.cell? ⟨w.heap.size, 5, none⟩ = some (.int .i64 8) ∧ wq.cell? ⟨w.heap.size, 6, none⟩ = some (.int .i64 11) ∧ wq.cell? ⟨w.heap.size, 7, none⟩ = some (.int .i64 1) ∧ wq.cell? ⟨w.heap.size, 8, none⟩ = some (.func (.func 28) #[] #[])) ∧ (wq.cell? ⟨w.heap.size + 1, 0, none⟩ = some (.bool ng) ∧ wq.cell? ⟨w.heap.size + 1, 1, none⟩ = some (.int .i64 (e : Int)) ∧ wq.cell? ⟨w.heap.size + 1, 2, none⟩ = some (.int .u64 (f : Int)))) (go_keep) (first
      | (go_at_call 38; refine (HL.out _).mono ?_; rintro z w2 ⟨rfl, b2⟩; have l2 := l0.drew.later b2; have m2 := m0.drew.later b2; have b02 := below_trans b0.drew b2; have y0 := l2.cell 0 rfl; have y1 := l2.cell 1 rfl; have y2 := l2.cell 2 rfl; have y3 := l2.cell 3 rfl; have y4 := l2.cell 4 rfl; have y5 := l2.cell 5 rfl; have y6 := l2.cell 6 rfl; have y7 := l2.cell 7 rfl; have y8 := l2.cell 8 rfl; have v0 := m2.cell 0 rfl; have v1 := m2.cell 1 rfl; have v2 := m2.cell 2 rfl))
    all_goals go_wp2
    all_goals go_ret2
    all_goals exact ⟨by first | rfl | simp [Act.put], b02⟩

set_option maxRecDepth 100000 in
set_option maxHeartbeats 1600000 in
theorem lplace_3 (ng : Bool) (e f : Nat) (w : World) (hf : f < 18446744073709551616) (he : e < 65536) : Calls Tryd.prog 26 #[.agg #[.int .i64 2, .int .i64 64, .int .i64 (-16445), .int .i64 16320, .bool true, .int .i64 10, .int .i64 15, .int .i64 1, .func (.func 29) #[] #[]], .agg #[.bool ng, .int .i64 (e : Int), .int .u64 (f : Int)]] w fun z w' => z = .returned (.tuple #[.int .u64 ((plcN 3 e f : Nat) : Int), .int .i64 (plcP 3 e)]) ∧ Below w.heap.size w w' := by
  have hsf : ∀ (a : Addr) (W : World) (g : Fn), (store a (Value.func g #[] #[])).run Tryd.prog W = stored Tryd.prog W a (Value.func g #[] #[]) .plain := fun a W g => run_store _ W a _ _ rfl
  have l0 := (locE_new w [.int .i64 2, .int .i64 64, .int .i64 (-16445), .int .i64 16320, .bool true, .int .i64 10, .int .i64 15, .int .i64 1, .func (.func 29) #[] #[]] 44).later (below_alloc _ (.cells #[.bool ng, .int .i64 (e : Int), .int .u64 (f : Int)] 51))
  have m0 := locE_new (w.alloc (.cells #[.int .i64 2, .int .i64 64, .int .i64 (-16445), .int .i64 16320, .bool true, .int .i64 10, .int .i64 15, .int .i64 1, .func (.func 29) #[] #[]] 44)) [.bool ng, .int .i64 (e : Int), .int .u64 (f : Int)] 51
  have b0 := below_trans (below_alloc w (.cells #[.int .i64 2, .int .i64 64, .int .i64 (-16445), .int .i64 16320, .bool true, .int .i64 10, .int .i64 15, .int .i64 1, .func (.func 29) #[] #[]] 44)) (below_alloc _ (.cells #[.bool ng, .int .i64 (e : Int), .int .u64 (f : Int)] 51))
  rw [World.size_alloc] at m0
  have HL : Hid (∀ w1, Calls Tryd.prog 38 #[.agg #[.int .i64 2, .int .i64 64, .int .i64 (-16445), .int .i64 16320, .bool true, .int .i64 10, .int .i64 15, .int .i64 1, .func (.func 29) #[] #[]]] w1 fun z w' => z = .returned (.int .u64 9223372036854775808) ∧ Below w1.heap.size w1 w') := llead_3
  unfold plcN plcP
  rw [if_neg (show ¬ rdN 3 = 16 by decide), if_neg (show ¬ rdN 3 = 16 by decide), show lsI 3 = (-16445) from rfl]
  by_cases h : e = 0
  · subst h
    rw [if_pos rfl, if_pos rfl]
    go_enter Tryd.func26, Tryd.ntmps26
    go_wp2
    go_quiet (fail)
    go_wp2
    go_ret2
    exact ⟨rfl, below_drewN b0 _⟩
  · have h1 : ((e : Int) == 0) = false := by simp; omega
    rw [if_neg h, if_neg h]
    have ho : bits .or .u64 (f : Int) 9223372036854775808 = ((f ||| leadN 3 : Nat) : Int) := u64_or_nat f (leadN 3) hf (by decide)
    obtain ⟨d, hd⟩ : ∃ d, f ||| leadN 3 = d := ⟨_, rfl⟩
    rw [hd] at ho ⊢
    have hw1 : IntKind.i64.wrap ((-16445) + (e : Int)) = (-16445) + (e : Int) := IntWalk.i64_in _ ⟨by omega, by omega⟩
    have hw2 : IntKind.i64.wrap ((-16445) + (e : Int) - 1) = (-16445) + (e : Int) - 1 := IntWalk.i64_in _ ⟨by omega, by omega⟩
    clear h hd
    have x0 := l0.cell 0 rfl; have x1 := l0.cell 1 rfl; have x2 := l0.cell 2 rfl; have x3 := l0.cell 3 rfl; have x4 := l0.cell 4 rfl; have x5 := l0.cell 5 rfl; have x6 := l0.cell 6 rfl; have x7 := l0.cell 7 rfl; have x8 := l0.cell 8 rfl
    have u0 := m0.cell 0 rfl; have u1 := m0.cell 1 rfl; have u2 := m0.cell 2 rfl
    go_enter Tryd.func26, Tryd.ntmps26
    go_wp2_with fail
    go_region_held3 (fun wq => (wq.cell? ⟨w.heap.size, 0, none⟩ = some (.int .i64 2) ∧ wq.cell? ⟨w.heap.size, 1, none⟩ = some (.int .i64 64) ∧ wq.cell? ⟨w.heap.size, 2, none⟩ = some (.int .i64 (-16445)) ∧ wq.cell? ⟨w.heap.size, 3, none⟩ = some (.int .i64 16320) ∧ wq.cell? ⟨w.heap.size, 4, none⟩ = some (.bool true) ∧ wq.cell? ⟨w.heap.size, 5, none⟩ = some (.int .i64 10) ∧ wq.cell? ⟨w.heap.size, 6, none⟩ = some (.int .i64 15) ∧ wq.cell? ⟨w.heap.size, 7, none⟩ = some (.int .i64 1) ∧ wq.cell? ⟨w.heap.size, 8, none⟩ = some (.func (.func 29) #[] #[])) ∧ (wq.cell? ⟨w.heap.size + 1, 0, none⟩ = some (.bool ng) ∧ wq.cell? ⟨w.heap.size + 1, 1, none⟩ = some (.int .i64 (e : Int)) ∧ wq.cell? ⟨w.heap.size + 1, 2, none⟩ = some (.int .u64 (f : Int)))) (go_keep) (first
      | (go_at_call 38; refine (HL.out _).mono ?_; rintro z w2 ⟨rfl, b2⟩; have l2 := l0.drew.later b2; have m2 := m0.drew.later b2; have b02 := below_trans b0.drew b2; have y0 := l2.cell 0 rfl; have y1 := l2.cell 1 rfl; have y2 := l2.cell 2 rfl; have y3 := l2.cell 3 rfl; have y4 := l2.cell 4 rfl; have y5 := l2.cell 5 rfl; have y6 := l2.cell 6 rfl; have y7 := l2.cell 7 rfl; have y8 := l2.cell 8 rfl; have v0 := m2.cell 0 rfl; have v1 := m2.cell 1 rfl; have v2 := m2.cell 2 rfl))
    all_goals go_wp2
    all_goals go_ret2
    all_goals exact ⟨by first | rfl | simp [Act.put], b02⟩

set_option maxRecDepth 100000 in
set_option maxHeartbeats 1600000 in
theorem lplace_4 (ng : Bool) (e f : Nat) (w : World) (_hf : f < 18446744073709551616) (he : e < 65536) : Calls Tryd.prog 26 #[.agg #[.int .i64 16, .int .i64 6, .int .i64 (-70), .int .i64 57, .bool false, .int .i64 4, .int .i64 7, .int .i64 2, .func (.func 28) #[] #[]], .agg #[.bool ng, .int .i64 (e : Int), .int .u64 (f : Int)]] w fun z w' => z = .returned (.tuple #[.int .u64 ((plcN 4 e f : Nat) : Int), .int .i64 (plcP 4 e)]) ∧ Below w.heap.size w w' := by
  have hsf : ∀ (a : Addr) (W : World) (g : Fn), (store a (Value.func g #[] #[])).run Tryd.prog W = stored Tryd.prog W a (Value.func g #[] #[]) .plain := fun a W g => run_store _ W a _ _ rfl
  have l0 := (locE_new w [.int .i64 16, .int .i64 6, .int .i64 (-70), .int .i64 57, .bool false, .int .i64 4, .int .i64 7, .int .i64 2, .func (.func 28) #[] #[]] 44).later (below_alloc _ (.cells #[.bool ng, .int .i64 (e : Int), .int .u64 (f : Int)] 51))
  have m0 := locE_new (w.alloc (.cells #[.int .i64 16, .int .i64 6, .int .i64 (-70), .int .i64 57, .bool false, .int .i64 4, .int .i64 7, .int .i64 2, .func (.func 28) #[] #[]] 44)) [.bool ng, .int .i64 (e : Int), .int .u64 (f : Int)] 51
  have b0 := below_trans (below_alloc w (.cells #[.int .i64 16, .int .i64 6, .int .i64 (-70), .int .i64 57, .bool false, .int .i64 4, .int .i64 7, .int .i64 2, .func (.func 28) #[] #[]] 44)) (below_alloc _ (.cells #[.bool ng, .int .i64 (e : Int), .int .u64 (f : Int)] 51))
  rw [World.size_alloc] at m0
  unfold plcN plcP
  rw [if_pos (show rdN 4 = 16 from rfl), if_pos (show rdN 4 = 16 from rfl), show lsI 4 = (-70) from rfl]
  go_enter Tryd.func26, Tryd.ntmps26
  go_wp2
  go_quiet (fail)
  go_wp2
  go_ret2
  exact ⟨rfl, below_drewN b0 _⟩

set_option maxRecDepth 100000 in
set_option maxHeartbeats 1600000 in
theorem lplace_5 (ng : Bool) (e f : Nat) (w : World) (_hf : f < 18446744073709551616) (he : e < 65536) : Calls Tryd.prog 26 #[.agg #[.int .i64 16, .int .i64 14, .int .i64 (-78), .int .i64 49, .bool false, .int .i64 8, .int .i64 7, .int .i64 2, .func (.func 28) #[] #[]], .agg #[.bool ng, .int .i64 (e : Int), .int .u64 (f : Int)]] w fun z w' => z = .returned (.tuple #[.int .u64 ((plcN 5 e f : Nat) : Int), .int .i64 (plcP 5 e)]) ∧ Below w.heap.size w w' := by
  have hsf : ∀ (a : Addr) (W : World) (g : Fn), (store a (Value.func g #[] #[])).run Tryd.prog W = stored Tryd.prog W a (Value.func g #[] #[]) .plain := fun a W g => run_store _ W a _ _ rfl
  have l0 := (locE_new w [.int .i64 16, .int .i64 14, .int .i64 (-78), .int .i64 49, .bool false, .int .i64 8, .int .i64 7, .int .i64 2, .func (.func 28) #[] #[]] 44).later (below_alloc _ (.cells #[.bool ng, .int .i64 (e : Int), .int .u64 (f : Int)] 51))
  have m0 := locE_new (w.alloc (.cells #[.int .i64 16, .int .i64 14, .int .i64 (-78), .int .i64 49, .bool false, .int .i64 8, .int .i64 7, .int .i64 2, .func (.func 28) #[] #[]] 44)) [.bool ng, .int .i64 (e : Int), .int .u64 (f : Int)] 51
  have b0 := below_trans (below_alloc w (.cells #[.int .i64 16, .int .i64 14, .int .i64 (-78), .int .i64 49, .bool false, .int .i64 8, .int .i64 7, .int .i64 2, .func (.func 28) #[] #[]] 44)) (below_alloc _ (.cells #[.bool ng, .int .i64 (e : Int), .int .u64 (f : Int)] 51))
  rw [World.size_alloc] at m0
  unfold plcN plcP
  rw [if_pos (show rdN 5 = 16 from rfl), if_pos (show rdN 5 = 16 from rfl), show lsI 5 = (-78) from rfl]
  go_enter Tryd.func26, Tryd.ntmps26
  go_wp2
  go_quiet (fail)
  go_wp2
  go_ret2
  exact ⟨rfl, below_drewN b0 _⟩

set_option maxRecDepth 100000 in
set_option maxHeartbeats 1600000 in
theorem lplace_6 (ng : Bool) (e f : Nat) (w : World) (hf : f < 18446744073709551616) (he : e < 65536) : Calls Tryd.prog 26 #[.agg #[.int .i64 2, .int .i64 24, .int .i64 (-151), .int .i64 103, .bool false, .int .i64 4, .int .i64 8, .int .i64 3, .func (.func 31) #[] #[]], .agg #[.bool ng, .int .i64 (e : Int), .int .u64 (f : Int)]] w fun z w' => z = .returned (.tuple #[.int .u64 ((plcN 6 e f : Nat) : Int), .int .i64 (plcP 6 e)]) ∧ Below w.heap.size w w' := by
  have hsf : ∀ (a : Addr) (W : World) (g : Fn), (store a (Value.func g #[] #[])).run Tryd.prog W = stored Tryd.prog W a (Value.func g #[] #[]) .plain := fun a W g => run_store _ W a _ _ rfl
  have l0 := (locE_new w [.int .i64 2, .int .i64 24, .int .i64 (-151), .int .i64 103, .bool false, .int .i64 4, .int .i64 8, .int .i64 3, .func (.func 31) #[] #[]] 44).later (below_alloc _ (.cells #[.bool ng, .int .i64 (e : Int), .int .u64 (f : Int)] 51))
  have m0 := locE_new (w.alloc (.cells #[.int .i64 2, .int .i64 24, .int .i64 (-151), .int .i64 103, .bool false, .int .i64 4, .int .i64 8, .int .i64 3, .func (.func 31) #[] #[]] 44)) [.bool ng, .int .i64 (e : Int), .int .u64 (f : Int)] 51
  have b0 := below_trans (below_alloc w (.cells #[.int .i64 2, .int .i64 24, .int .i64 (-151), .int .i64 103, .bool false, .int .i64 4, .int .i64 8, .int .i64 3, .func (.func 31) #[] #[]] 44)) (below_alloc _ (.cells #[.bool ng, .int .i64 (e : Int), .int .u64 (f : Int)] 51))
  rw [World.size_alloc] at m0
  have HL : Hid (∀ w1, Calls Tryd.prog 38 #[.agg #[.int .i64 2, .int .i64 24, .int .i64 (-151), .int .i64 103, .bool false, .int .i64 4, .int .i64 8, .int .i64 3, .func (.func 31) #[] #[]]] w1 fun z w' => z = .returned (.int .u64 8388608) ∧ Below w1.heap.size w1 w') := llead_6
  unfold plcN plcP
  rw [if_neg (show ¬ rdN 6 = 16 by decide), if_neg (show ¬ rdN 6 = 16 by decide), show lsI 6 = (-151) from rfl]
  by_cases h : e = 0
  · subst h
    rw [if_pos rfl, if_pos rfl]
    go_enter Tryd.func26, Tryd.ntmps26
    go_wp2
    go_quiet (fail)
    go_wp2
    go_ret2
    exact ⟨rfl, below_drewN b0 _⟩
  · have h1 : ((e : Int) == 0) = false := by simp; omega
    rw [if_neg h, if_neg h]
    have ho : bits .or .u64 (f : Int) 8388608 = ((f ||| leadN 6 : Nat) : Int) := u64_or_nat f (leadN 6) hf (by decide)
    obtain ⟨d, hd⟩ : ∃ d, f ||| leadN 6 = d := ⟨_, rfl⟩
    rw [hd] at ho ⊢
    have hw1 : IntKind.i64.wrap ((-151) + (e : Int)) = (-151) + (e : Int) := IntWalk.i64_in _ ⟨by omega, by omega⟩
    have hw2 : IntKind.i64.wrap ((-151) + (e : Int) - 1) = (-151) + (e : Int) - 1 := IntWalk.i64_in _ ⟨by omega, by omega⟩
    clear h hd
    have x0 := l0.cell 0 rfl; have x1 := l0.cell 1 rfl; have x2 := l0.cell 2 rfl; have x3 := l0.cell 3 rfl; have x4 := l0.cell 4 rfl; have x5 := l0.cell 5 rfl; have x6 := l0.cell 6 rfl; have x7 := l0.cell 7 rfl; have x8 := l0.cell 8 rfl
    have u0 := m0.cell 0 rfl; have u1 := m0.cell 1 rfl; have u2 := m0.cell 2 rfl
    go_enter Tryd.func26, Tryd.ntmps26
    go_wp2_with fail
    go_region_held3 (fun wq => (wq.cell? ⟨w.heap.size, 0, none⟩ = some (.int .i64 2) ∧ wq.cell? ⟨w.heap.size, 1, none⟩ = some (.int .i64 24) ∧ wq.cell? ⟨w.heap.size, 2, none⟩ = some (.int .i64 (-151)) ∧ wq.cell? ⟨w.heap.size, 3, none⟩ = some (.int .i64 103) ∧ wq.cell? ⟨w.heap.size, 4, none⟩ = some (.bool false) ∧ wq.cell? ⟨w.heap.size, 5, none⟩ = some (.int .i64 4) ∧ wq.cell? ⟨w.heap.size, 6, none⟩ = some (.int .i64 8) ∧ wq.cell? ⟨w.heap.size, 7, none⟩ = some (.int .i64 3) ∧ wq.cell? ⟨w.heap.size, 8, none⟩ = some (.func (.func 31) #[] #[])) ∧ (wq.cell? ⟨w.heap.size + 1, 0, none⟩ = some (.bool ng) ∧ wq.cell? ⟨w.heap.size + 1, 1, none⟩ = some (.int .i64 (e : Int)) ∧ wq.cell? ⟨w.heap.size + 1, 2, none⟩ = some (.int .u64 (f : Int)))) (go_keep) (first
      | (go_at_call 38; refine (HL.out _).mono ?_; rintro z w2 ⟨rfl, b2⟩; have l2 := l0.drew.later b2; have m2 := m0.drew.later b2; have b02 := below_trans b0.drew b2; have y0 := l2.cell 0 rfl; have y1 := l2.cell 1 rfl; have y2 := l2.cell 2 rfl; have y3 := l2.cell 3 rfl; have y4 := l2.cell 4 rfl; have y5 := l2.cell 5 rfl; have y6 := l2.cell 6 rfl; have y7 := l2.cell 7 rfl; have y8 := l2.cell 8 rfl; have v0 := m2.cell 0 rfl; have v1 := m2.cell 1 rfl; have v2 := m2.cell 2 rfl))
    all_goals go_wp2
    all_goals go_ret2
    all_goals exact ⟨by first | rfl | simp [Act.put], b02⟩

set_option maxRecDepth 100000 in
set_option maxHeartbeats 1600000 in
theorem lplace_7 (ng : Bool) (e f : Nat) (w : World) (hf : f < 18446744073709551616) (he : e < 65536) : Calls Tryd.prog 26 #[.agg #[.int .i64 2, .int .i64 56, .int .i64 (-183), .int .i64 71, .bool false, .int .i64 8, .int .i64 8, .int .i64 3, .func (.func 31) #[] #[]], .agg #[.bool ng, .int .i64 (e : Int), .int .u64 (f : Int)]] w fun z w' => z = .returned (.tuple #[.int .u64 ((plcN 7 e f : Nat) : Int), .int .i64 (plcP 7 e)]) ∧ Below w.heap.size w w' := by
  have hsf : ∀ (a : Addr) (W : World) (g : Fn), (store a (Value.func g #[] #[])).run Tryd.prog W = stored Tryd.prog W a (Value.func g #[] #[]) .plain := fun a W g => run_store _ W a _ _ rfl
  have l0 := (locE_new w [.int .i64 2, .int .i64 56, .int .i64 (-183), .int .i64 71, .bool false, .int .i64 8, .int .i64 8, .int .i64 3, .func (.func 31) #[] #[]] 44).later (below_alloc _ (.cells #[.bool ng, .int .i64 (e : Int), .int .u64 (f : Int)] 51))
  have m0 := locE_new (w.alloc (.cells #[.int .i64 2, .int .i64 56, .int .i64 (-183), .int .i64 71, .bool false, .int .i64 8, .int .i64 8, .int .i64 3, .func (.func 31) #[] #[]] 44)) [.bool ng, .int .i64 (e : Int), .int .u64 (f : Int)] 51
  have b0 := below_trans (below_alloc w (.cells #[.int .i64 2, .int .i64 56, .int .i64 (-183), .int .i64 71, .bool false, .int .i64 8, .int .i64 8, .int .i64 3, .func (.func 31) #[] #[]] 44)) (below_alloc _ (.cells #[.bool ng, .int .i64 (e : Int), .int .u64 (f : Int)] 51))
  rw [World.size_alloc] at m0
  have HL : Hid (∀ w1, Calls Tryd.prog 38 #[.agg #[.int .i64 2, .int .i64 56, .int .i64 (-183), .int .i64 71, .bool false, .int .i64 8, .int .i64 8, .int .i64 3, .func (.func 31) #[] #[]]] w1 fun z w' => z = .returned (.int .u64 36028797018963968) ∧ Below w1.heap.size w1 w') := llead_7
  unfold plcN plcP
  rw [if_neg (show ¬ rdN 7 = 16 by decide), if_neg (show ¬ rdN 7 = 16 by decide), show lsI 7 = (-183) from rfl]
  by_cases h : e = 0
  · subst h
    rw [if_pos rfl, if_pos rfl]
    go_enter Tryd.func26, Tryd.ntmps26
    go_wp2
    go_quiet (fail)
    go_wp2
    go_ret2
    exact ⟨rfl, below_drewN b0 _⟩
  · have h1 : ((e : Int) == 0) = false := by simp; omega
    rw [if_neg h, if_neg h]
    have ho : bits .or .u64 (f : Int) 36028797018963968 = ((f ||| leadN 7 : Nat) : Int) := u64_or_nat f (leadN 7) hf (by decide)
    obtain ⟨d, hd⟩ : ∃ d, f ||| leadN 7 = d := ⟨_, rfl⟩
    rw [hd] at ho ⊢
    have hw1 : IntKind.i64.wrap ((-183) + (e : Int)) = (-183) + (e : Int) := IntWalk.i64_in _ ⟨by omega, by omega⟩
    have hw2 : IntKind.i64.wrap ((-183) + (e : Int) - 1) = (-183) + (e : Int) - 1 := IntWalk.i64_in _ ⟨by omega, by omega⟩
    clear h hd
    have x0 := l0.cell 0 rfl; have x1 := l0.cell 1 rfl; have x2 := l0.cell 2 rfl; have x3 := l0.cell 3 rfl; have x4 := l0.cell 4 rfl; have x5 := l0.cell 5 rfl; have x6 := l0.cell 6 rfl; have x7 := l0.cell 7 rfl; have x8 := l0.cell 8 rfl
    have u0 := m0.cell 0 rfl; have u1 := m0.cell 1 rfl; have u2 := m0.cell 2 rfl
    go_enter Tryd.func26, Tryd.ntmps26
    go_wp2_with fail
    go_region_held3 (fun wq => (wq.cell? ⟨w.heap.size, 0, none⟩ = some (.int .i64 2) ∧ wq.cell? ⟨w.heap.size, 1, none⟩ = some (.int .i64 56) ∧ wq.cell? ⟨w.heap.size, 2, none⟩ = some (.int .i64 (-183)) ∧ wq.cell? ⟨w.heap.size, 3, none⟩ = some (.int .i64 71) ∧ wq.cell? ⟨w.heap.size, 4, none⟩ = some (.bool false) ∧ wq.cell? ⟨w.heap.size, 5, none⟩ = some (.int .i64 8) ∧ wq.cell? ⟨w.heap.size, 6, none⟩ = some (.int .i64 8) ∧ wq.cell? ⟨w.heap.size, 7, none⟩ = some (.int .i64 3) ∧ wq.cell? ⟨w.heap.size, 8, none⟩ = some (.func (.func 31) #[] #[])) ∧ (wq.cell? ⟨w.heap.size + 1, 0, none⟩ = some (.bool ng) ∧ wq.cell? ⟨w.heap.size + 1, 1, none⟩ = some (.int .i64 (e : Int)) ∧ wq.cell? ⟨w.heap.size + 1, 2, none⟩ = some (.int .u64 (f : Int)))) (go_keep) (first
      | (go_at_call 38; refine (HL.out _).mono ?_; rintro z w2 ⟨rfl, b2⟩; have l2 := l0.drew.later b2; have m2 := m0.drew.later b2; have b02 := below_trans b0.drew b2; have y0 := l2.cell 0 rfl; have y1 := l2.cell 1 rfl; have y2 := l2.cell 2 rfl; have y3 := l2.cell 3 rfl; have y4 := l2.cell 4 rfl; have y5 := l2.cell 5 rfl; have y6 := l2.cell 6 rfl; have y7 := l2.cell 7 rfl; have y8 := l2.cell 8 rfl; have v0 := m2.cell 0 rfl; have v1 := m2.cell 1 rfl; have v2 := m2.cell 2 rfl))
    all_goals go_wp2
    all_goals go_ret2
    all_goals exact ⟨by first | rfl | simp [Act.put], b02⟩

set_option maxRecDepth 100000 in
set_option maxHeartbeats 1600000 in
theorem lplace_8 (ng : Bool) (e f : Nat) (w : World) (hf : f < 18446744073709551616) (he : e < 65536) : Calls Tryd.prog 26 #[.agg #[.int .i64 2, .int .i64 53, .int .i64 (-1076), .int .i64 970, .bool false, .int .i64 8, .int .i64 11, .int .i64 3, .func (.func 31) #[] #[]], .agg #[.bool ng, .int .i64 (e : Int), .int .u64 (f : Int)]] w fun z w' => z = .returned (.tuple #[.int .u64 ((plcN 8 e f : Nat) : Int), .int .i64 (plcP 8 e)]) ∧ Below w.heap.size w w' := by
  have hsf : ∀ (a : Addr) (W : World) (g : Fn), (store a (Value.func g #[] #[])).run Tryd.prog W = stored Tryd.prog W a (Value.func g #[] #[]) .plain := fun a W g => run_store _ W a _ _ rfl
  have l0 := (locE_new w [.int .i64 2, .int .i64 53, .int .i64 (-1076), .int .i64 970, .bool false, .int .i64 8, .int .i64 11, .int .i64 3, .func (.func 31) #[] #[]] 44).later (below_alloc _ (.cells #[.bool ng, .int .i64 (e : Int), .int .u64 (f : Int)] 51))
  have m0 := locE_new (w.alloc (.cells #[.int .i64 2, .int .i64 53, .int .i64 (-1076), .int .i64 970, .bool false, .int .i64 8, .int .i64 11, .int .i64 3, .func (.func 31) #[] #[]] 44)) [.bool ng, .int .i64 (e : Int), .int .u64 (f : Int)] 51
  have b0 := below_trans (below_alloc w (.cells #[.int .i64 2, .int .i64 53, .int .i64 (-1076), .int .i64 970, .bool false, .int .i64 8, .int .i64 11, .int .i64 3, .func (.func 31) #[] #[]] 44)) (below_alloc _ (.cells #[.bool ng, .int .i64 (e : Int), .int .u64 (f : Int)] 51))
  rw [World.size_alloc] at m0
  have HL : Hid (∀ w1, Calls Tryd.prog 38 #[.agg #[.int .i64 2, .int .i64 53, .int .i64 (-1076), .int .i64 970, .bool false, .int .i64 8, .int .i64 11, .int .i64 3, .func (.func 31) #[] #[]]] w1 fun z w' => z = .returned (.int .u64 4503599627370496) ∧ Below w1.heap.size w1 w') := llead_8
  unfold plcN plcP
  rw [if_neg (show ¬ rdN 8 = 16 by decide), if_neg (show ¬ rdN 8 = 16 by decide), show lsI 8 = (-1076) from rfl]
  by_cases h : e = 0
  · subst h
    rw [if_pos rfl, if_pos rfl]
    go_enter Tryd.func26, Tryd.ntmps26
    go_wp2
    go_quiet (fail)
    go_wp2
    go_ret2
    exact ⟨rfl, below_drewN b0 _⟩
  · have h1 : ((e : Int) == 0) = false := by simp; omega
    rw [if_neg h, if_neg h]
    have ho : bits .or .u64 (f : Int) 4503599627370496 = ((f ||| leadN 8 : Nat) : Int) := u64_or_nat f (leadN 8) hf (by decide)
    obtain ⟨d, hd⟩ : ∃ d, f ||| leadN 8 = d := ⟨_, rfl⟩
    rw [hd] at ho ⊢
    have hw1 : IntKind.i64.wrap ((-1076) + (e : Int)) = (-1076) + (e : Int) := IntWalk.i64_in _ ⟨by omega, by omega⟩
    have hw2 : IntKind.i64.wrap ((-1076) + (e : Int) - 1) = (-1076) + (e : Int) - 1 := IntWalk.i64_in _ ⟨by omega, by omega⟩
    clear h hd
    have x0 := l0.cell 0 rfl; have x1 := l0.cell 1 rfl; have x2 := l0.cell 2 rfl; have x3 := l0.cell 3 rfl; have x4 := l0.cell 4 rfl; have x5 := l0.cell 5 rfl; have x6 := l0.cell 6 rfl; have x7 := l0.cell 7 rfl; have x8 := l0.cell 8 rfl
    have u0 := m0.cell 0 rfl; have u1 := m0.cell 1 rfl; have u2 := m0.cell 2 rfl
    go_enter Tryd.func26, Tryd.ntmps26
    go_wp2_with fail
    go_region_held3 (fun wq => (wq.cell? ⟨w.heap.size, 0, none⟩ = some (.int .i64 2) ∧ wq.cell? ⟨w.heap.size, 1, none⟩ = some (.int .i64 53) ∧ wq.cell? ⟨w.heap.size, 2, none⟩ = some (.int .i64 (-1076)) ∧ wq.cell? ⟨w.heap.size, 3, none⟩ = some (.int .i64 970) ∧ wq.cell? ⟨w.heap.size, 4, none⟩ = some (.bool false) ∧ wq.cell? ⟨w.heap.size, 5, none⟩ = some (.int .i64 8) ∧ wq.cell? ⟨w.heap.size, 6, none⟩ = some (.int .i64 11) ∧ wq.cell? ⟨w.heap.size, 7, none⟩ = some (.int .i64 3) ∧ wq.cell? ⟨w.heap.size, 8, none⟩ = some (.func (.func 31) #[] #[])) ∧ (wq.cell? ⟨w.heap.size + 1, 0, none⟩ = some (.bool ng) ∧ wq.cell? ⟨w.heap.size + 1, 1, none⟩ = some (.int .i64 (e : Int)) ∧ wq.cell? ⟨w.heap.size + 1, 2, none⟩ = some (.int .u64 (f : Int)))) (go_keep) (first
      | (go_at_call 38; refine (HL.out _).mono ?_; rintro z w2 ⟨rfl, b2⟩; have l2 := l0.drew.later b2; have m2 := m0.drew.later b2; have b02 := below_trans b0.drew b2; have y0 := l2.cell 0 rfl; have y1 := l2.cell 1 rfl; have y2 := l2.cell 2 rfl; have y3 := l2.cell 3 rfl; have y4 := l2.cell 4 rfl; have y5 := l2.cell 5 rfl; have y6 := l2.cell 6 rfl; have y7 := l2.cell 7 rfl; have y8 := l2.cell 8 rfl; have v0 := m2.cell 0 rfl; have v1 := m2.cell 1 rfl; have v2 := m2.cell 2 rfl))
    all_goals go_wp2
    all_goals go_ret2
    all_goals exact ⟨by first | rfl | simp [Act.put], b02⟩

theorem lplace_any (k : Nat) (hk : 1 ≤ k ∧ k ≤ 8) (ng : Bool) (e f : Nat) (w : World) (hf : f < 18446744073709551616) (he : e < 65536) : Calls Tryd.prog 26 #[.agg (layV k).toArray, .agg #[.bool ng, .int .i64 (e : Int), .int .u64 (f : Int)]] w fun z w' => z = .returned (.tuple #[.int .u64 ((plcN k e f : Nat) : Int), .int .i64 (plcP k e)]) ∧ Below w.heap.size w w' := by
  rcases eight hk with rfl | rfl | rfl | rfl | rfl | rfl | rfl | rfl
  · exact lplace_1 ng e f w hf he
  · exact lplace_2 ng e f w hf he
  · exact lplace_3 ng e f w hf he
  · exact lplace_4 ng e f w hf he
  · exact lplace_5 ng e f w hf he
  · exact lplace_6 ng e f w hf he
  · exact lplace_7 ng e f w hf he
  · exact lplace_8 ng e f w hf he
end Go.Proofs.YtiiphandhpilgaaDoor

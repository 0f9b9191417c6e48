/-
  Patterns: Encode.
-/
import Derived.Test.YtgbccbmflokooaaGreatDoorCo21
import Derived.Test.YtgbccbmflokooaaGreatDoorCo18
namespace Go.Proofs.YtgbccbmflokooaaGreatDoor
open Go.RowKit

set_option maxRecDepth 100000 in
set_option maxHeartbeats 3200000 in
theorem enc_none (n : Int)  (c p : Int) (ng : Bool) (ao : Option Addr) (dn dc : Nat) (w : World)
    (HL : ∀ w1, Calls Tryz.prog 38 #[.int .i64 n] w1 fun z w' => z = .returned (.tuple #[.agg #[.int .i64 0, .int .i64 0, .int .i64 0, .int .i64 0, .bool false, .int .i64 0, .int .i64 0, .int .i64 0, .nilFunc], .int .i64 6]) ∧ Below w1.heap.size w1 w')  :
    Calls Tryz.prog 15 #[.int .i64 n, .agg #[.int .i64 c, .bool ng, .slice ao dn dc, .int .i64 p]] w fun z w' => z = .returned (.tuple #[.string ⟨#[]⟩, .int .i64 6]) ∧ Below w.heap.size w w' := by
  have hsf : ∀ (a : Addr) (W : World) (g : Fn), (store a (Value.func g #[] #[])).run Tryz.prog W = stored Tryz.prog W a (Value.func g #[] #[]) .plain := fun a W g => run_store _ W a _ _ rfl
  have hsn : ∀ (a : Addr) (W : World), (store a Value.nilFunc).run Tryz.prog W = stored Tryz.prog W a Value.nilFunc .plain := fun a W => run_store _ W a _ _ rfl
  have m0 := locE_new w [.int .i64 c, .bool ng, .slice ao dn dc, .int .i64 p] 25
  have b0 := below_alloc w (.cells #[.int .i64 c, .bool ng, .slice ao dn dc, .int .i64 p] 25)
  have HL' : Hid (∀ w1, Calls Tryz.prog 38 #[.int .i64 n] w1 fun z w' => z = .returned (.tuple #[.agg #[.int .i64 0, .int .i64 0, .int .i64 0, .int .i64 0, .bool false, .int .i64 0, .int .i64 0, .int .i64 0, .nilFunc], .int .i64 6]) ∧ Below w1.heap.size w1 w') := HL
  clear HL
  go_enter Tryz.func15, Tryz.ntmps15
  go_wp2_with fail
  refine (HL'.out _).mono ?_
  rintro z w1 ⟨rfl, b1⟩
  have bq := below_alloc w1 (.cells #[.int .i64 0, .int .i64 0, .int .i64 0, .int .i64 0, .bool false, .int .i64 0, .int .i64 0, .int .i64 0, .nilFunc] 65)
  have m1 := (m0.later b1).later bq
  have q1 := locE_new w1 [.int .i64 0, .int .i64 0, .int .i64 0, .int .i64 0, .bool false, .int .i64 0, .int .i64 0, .int .i64 0, .nilFunc] 65
  have b01 := below_trans (below_trans b0 b1) bq
  have u0 := m1.cell 0 rfl; have u1 := m1.cell 1 rfl; have u2 := m1.cell 2 rfl; have u3 := m1.cell 3 rfl; have s0 := q1.cell 0 rfl; have s1 := q1.cell 1 rfl; have s2 := q1.cell 2 rfl; have s3 := q1.cell 3 rfl; have s4 := q1.cell 4 rfl; have s5 := q1.cell 5 rfl; have s6 := q1.cell 6 rfl; have s7 := q1.cell 7 rfl; have s8 := q1.cell 8 rfl
  clear m0 b0 b1 bq HL'
  go_wp2
  go_ret2
  exact ⟨rfl, b01⟩

set_option maxRecDepth 100000 in
set_option maxHeartbeats 3200000 in
theorem enc_low (n : Int) (R D L G fam : Int) (gr : Bool) (sz ex : Nat) (F : Nat) (c p : Int) (ng : Bool) (ao : Option Addr) (dn dc : Nat) (w : World)
    (HL : ∀ w1, Calls Tryz.prog 38 #[.int .i64 n] w1 fun z w' => z = .returned (.tuple #[.agg #[.int .i64 R, .int .i64 D, .int .i64 L, .int .i64 G, .bool gr, .int .i64 (sz : Int), .int .i64 (ex : Int), .int .i64 fam, .func (.func F) #[] #[]], .int .i64 0]) ∧ Below w1.heap.size w1 w') (hc : c < 1) :
    Calls Tryz.prog 15 #[.int .i64 n, .agg #[.int .i64 c, .bool ng, .slice ao dn dc, .int .i64 p]] w fun z w' => z = .returned (.tuple #[.string ⟨#[]⟩, .int .i64 6]) ∧ Below w.heap.size w w' := by
  have hsf : ∀ (a : Addr) (W : World) (g : Fn), (store a (Value.func g #[] #[])).run Tryz.prog W = stored Tryz.prog W a (Value.func g #[] #[]) .plain := fun a W g => run_store _ W a _ _ rfl
  have hsn : ∀ (a : Addr) (W : World), (store a Value.nilFunc).run Tryz.prog W = stored Tryz.prog W a Value.nilFunc .plain := fun a W => run_store _ W a _ _ rfl
  have m0 := locE_new w [.int .i64 c, .bool ng, .slice ao dn dc, .int .i64 p] 25
  have b0 := below_alloc w (.cells #[.int .i64 c, .bool ng, .slice ao dn dc, .int .i64 p] 25)
  have HL' : Hid (∀ w1, Calls Tryz.prog 38 #[.int .i64 n] w1 fun z w' => z = .returned (.tuple #[.agg #[.int .i64 R, .int .i64 D, .int .i64 L, .int .i64 G, .bool gr, .int .i64 (sz : Int), .int .i64 (ex : Int), .int .i64 fam, .func (.func F) #[] #[]], .int .i64 0]) ∧ Below w1.heap.size w1 w') := HL
  clear HL
  go_enter Tryz.func15, Tryz.ntmps15
  go_wp2_with fail
  refine (HL'.out _).mono ?_
  rintro z w1 ⟨rfl, b1⟩
  have bq := below_alloc w1 (.cells #[.int .i64 R, .int .i64 D, .int .i64 L, .int .i64 G, .bool gr, .int .i64 (sz : Int), .int .i64 (ex : Int), .int .i64 fam, .func (.func F) #[] #[]] 65)
  have m1 := (m0.later b1).later bq
  have q1 := locE_new w1 [.int .i64 R, .int .i64 D, .int .i64 L, .int .i64 G, .bool gr, .int .i64 (sz : Int), .int .i64 (ex : Int), .int .i64 fam, .func (.func F) #[] #[]] 65
  have b01 := below_trans (below_trans b0 b1) bq
  have u0 := m1.cell 0 rfl; have u1 := m1.cell 1 rfl; have u2 := m1.cell 2 rfl; have u3 := m1.cell 3 rfl; have s0 := q1.cell 0 rfl; have s1 := q1.cell 1 rfl; have s2 := q1.cell 2 rfl; have s3 := q1.cell 3 rfl; have s4 := q1.cell 4 rfl; have s5 := q1.cell 5 rfl; have s6 := q1.cell 6 rfl; have s7 := q1.cell 7 rfl; have s8 := q1.cell 8 rfl
  clear m0 b0 b1 bq HL'
  go_wp2
  go_ret2
  exact ⟨rfl, b01⟩

set_option maxRecDepth 100000 in
set_option maxHeartbeats 3200000 in
theorem enc_high (n : Int) (R D L G fam : Int) (gr : Bool) (sz ex : Nat) (F : Nat) (c p : Int) (ng : Bool) (ao : Option Addr) (dn dc : Nat) (w : World)
    (HL : ∀ w1, Calls Tryz.prog 38 #[.int .i64 n] w1 fun z w' => z = .returned (.tuple #[.agg #[.int .i64 R, .int .i64 D, .int .i64 L, .int .i64 G, .bool gr, .int .i64 (sz : Int), .int .i64 (ex : Int), .int .i64 fam, .func (.func F) #[] #[]], .int .i64 0]) ∧ Below w1.heap.size w1 w') (hc : 5 < c) :
    Calls Tryz.prog 15 #[.int .i64 n, .agg #[.int .i64 c, .bool ng, .slice ao dn dc, .int .i64 p]] w fun z w' => z = .returned (.tuple #[.string ⟨#[]⟩, .int .i64 6]) ∧ Below w.heap.size w w' := by
  have hc1 : ¬ c < 1 := by omega
  have hsf : ∀ (a : Addr) (W : World) (g : Fn), (store a (Value.func g #[] #[])).run Tryz.prog W = stored Tryz.prog W a (Value.func g #[] #[]) .plain := fun a W g => run_store _ W a _ _ rfl
  have hsn : ∀ (a : Addr) (W : World), (store a Value.nilFunc).run Tryz.prog W = stored Tryz.prog W a Value.nilFunc .plain := fun a W => run_store _ W a _ _ rfl
  have m0 := locE_new w [.int .i64 c, .bool ng, .slice ao dn dc, .int .i64 p] 25
  have b0 := below_alloc w (.cells #[.int .i64 c, .bool ng, .slice ao dn dc, .int .i64 p] 25)
  have HL' : Hid (∀ w1, Calls Tryz.prog 38 #[.int .i64 n] w1 fun z w' => z = .returned (.tuple #[.agg #[.int .i64 R, .int .i64 D, .int .i64 L, .int .i64 G, .bool gr, .int .i64 (sz : Int), .int .i64 (ex : Int), .int .i64 fam, .func (.func F) #[] #[]], .int .i64 0]) ∧ Below w1.heap.size w1 w') := HL
  clear HL
  go_enter Tryz.func15, Tryz.ntmps15
  go_wp2_with fail
  refine (HL'.out _).mono ?_
  rintro z w1 ⟨rfl, b1⟩
  have bq := below_alloc w1 (.cells #[.int .i64 R, .int .i64 D, .int .i64 L, .int .i64 G, .bool gr, .int .i64 (sz : Int), .int .i64 (ex : Int), .int .i64 fam, .func (.func F) #[] #[]] 65)
  have m1 := (m0.later b1).later bq
  have q1 := locE_new w1 [.int .i64 R, .int .i64 D, .int .i64 L, .int .i64 G, .bool gr, .int .i64 (sz : Int), .int .i64 (ex : Int), .int .i64 fam, .func (.func F) #[] #[]] 65
  have b01 := below_trans (below_trans b0 b1) bq
  have u0 := m1.cell 0 rfl; have u1 := m1.cell 1 rfl; have u2 := m1.cell 2 rfl; have u3 := m1.cell 3 rfl; have s0 := q1.cell 0 rfl; have s1 := q1.cell 1 rfl; have s2 := q1.cell 2 rfl; have s3 := q1.cell 3 rfl; have s4 := q1.cell 4 rfl; have s5 := q1.cell 5 rfl; have s6 := q1.cell 6 rfl; have s7 := q1.cell 7 rfl; have s8 := q1.cell 8 rfl
  clear m0 b0 b1 bq HL'
  go_wp2
  go_ret2
  exact ⟨rfl, b01⟩

set_option maxRecDepth 100000 in
set_option maxHeartbeats 3200000 in
theorem enc_digits (n : Int) (R D L G fam : Int) (gr : Bool) (sz ex : Nat) (F : Nat) (c p : Int) (ng : Bool) (ao : Option Addr) (dn dc : Nat) (w : World)
    (HL : ∀ w1, Calls Tryz.prog 38 #[.int .i64 n] w1 fun z w' => z = .returned (.tuple #[.agg #[.int .i64 R, .int .i64 D, .int .i64 L, .int .i64 G, .bool gr, .int .i64 (sz : Int), .int .i64 (ex : Int), .int .i64 fam, .func (.func F) #[] #[]], .int .i64 0]) ∧ Below w1.heap.size w1 w')
    (nc : Int) (HN : ∀ w1, Below w.heap.size w w1 → Calls Tryz.prog 39 #[.slice ao dn dc] w1 fun z w' => z = .returned (.int .i64 nc) ∧ Below w1.heap.size w1 w') (h1 : 1 ≤ c) (h5 : c ≤ 5) (hn : nc ≠ 0) :
    Calls Tryz.prog 15 #[.int .i64 n, .agg #[.int .i64 c, .bool ng, .slice ao dn dc, .int .i64 p]] w fun z w' => z = .returned (.tuple #[.string ⟨#[]⟩, .int .i64 nc]) ∧ Below w.heap.size w w' := by
  have HN' : Hid (∀ w1, Below w.heap.size w w1 → Calls Tryz.prog 39 #[.slice ao dn dc] w1 fun z w' => z = .returned (.int .i64 nc) ∧ Below w1.heap.size w1 w') := HN
  clear HN
  have hc1 : ¬ c < 1 := by omega
  have hc5 : ¬ 5 < c := by omega
  have hnb : (nc == 0) = false := by simpa using hn
  clear hn
  have hsf : ∀ (a : Addr) (W : World) (g : Fn), (store a (Value.func g #[] #[])).run Tryz.prog W = stored Tryz.prog W a (Value.func g #[] #[]) .plain := fun a W g => run_store _ W a _ _ rfl
  have hsn : ∀ (a : Addr) (W : World), (store a Value.nilFunc).run Tryz.prog W = stored Tryz.prog W a Value.nilFunc .plain := fun a W => run_store _ W a _ _ rfl
  have m0 := locE_new w [.int .i64 c, .bool ng, .slice ao dn dc, .int .i64 p] 25
  have b0 := below_alloc w (.cells #[.int .i64 c, .bool ng, .slice ao dn dc, .int .i64 p] 25)
  have HL' : Hid (∀ w1, Calls Tryz.prog 38 #[.int .i64 n] w1 fun z w' => z = .returned (.tuple #[.agg #[.int .i64 R, .int .i64 D, .int .i64 L, .int .i64 G, .bool gr, .int .i64 (sz : Int), .int .i64 (ex : Int), .int .i64 fam, .func (.func F) #[] #[]], .int .i64 0]) ∧ Below w1.heap.size w1 w') := HL
  clear HL
  go_enter Tryz.func15, Tryz.ntmps15
  go_wp2_with fail
  refine (HL'.out _).mono ?_
  rintro z w1 ⟨rfl, b1⟩
  have bq := below_alloc w1 (.cells #[.int .i64 R, .int .i64 D, .int .i64 L, .int .i64 G, .bool gr, .int .i64 (sz : Int), .int .i64 (ex : Int), .int .i64 fam, .func (.func F) #[] #[]] 65)
  have m1 := (m0.later b1).later bq
  have q1 := locE_new w1 [.int .i64 R, .int .i64 D, .int .i64 L, .int .i64 G, .bool gr, .int .i64 (sz : Int), .int .i64 (ex : Int), .int .i64 fam, .func (.func F) #[] #[]] 65
  have b01 := below_trans (below_trans b0 b1) bq
  have u0 := m1.cell 0 rfl; have u1 := m1.cell 1 rfl; have u2 := m1.cell 2 rfl; have u3 := m1.cell 3 rfl; have s0 := q1.cell 0 rfl; have s1 := q1.cell 1 rfl; have s2 := q1.cell 2 rfl; have s3 := q1.cell 3 rfl; have s4 := q1.cell 4 rfl; have s5 := q1.cell 5 rfl; have s6 := q1.cell 6 rfl; have s7 := q1.cell 7 rfl; have s8 := q1.cell 8 rfl
  clear m0 b0 b1 bq HL'
  go_wp2_with fail
  refine (HN'.out _ b01).mono ?_
  rintro z w2 ⟨rfl, b2⟩
  have m2 := m1.later b2
  have q2 := q1.later b2
  have b02 := below_trans b01 b2
  have v0 := m2.cell 0 rfl; have v1 := m2.cell 1 rfl; have v2 := m2.cell 2 rfl; have v3 := m2.cell 3 rfl; have t0 := q2.cell 0 rfl; have t1 := q2.cell 1 rfl; have t2 := q2.cell 2 rfl; have t3 := q2.cell 3 rfl; have t4 := q2.cell 4 rfl; have t5 := q2.cell 5 rfl; have t6 := q2.cell 6 rfl; have t7 := q2.cell 7 rfl; have t8 := q2.cell 8 rfl
  go_wp2
  go_ret2
  exact ⟨rfl, b02⟩

set_option maxRecDepth 100000 in
set_option maxHeartbeats 3200000 in
theorem enc_other (n : Int) (R D L G fam : Int) (gr : Bool) (sz ex : Nat) (F : Nat) (c p : Int) (ng : Bool) (ao : Option Addr) (dn dc : Nat) (w : World)
    (HL : ∀ w1, Calls Tryz.prog 38 #[.int .i64 n] w1 fun z w' => z = .returned (.tuple #[.agg #[.int .i64 R, .int .i64 D, .int .i64 L, .int .i64 G, .bool gr, .int .i64 (sz : Int), .int .i64 (ex : Int), .int .i64 fam, .func (.func F) #[] #[]], .int .i64 0]) ∧ Below w1.heap.size w1 w')
    (nc : Int) (HN : ∀ w1, Below w.heap.size w w1 → Calls Tryz.prog 39 #[.slice ao dn dc] w1 fun z w' => z = .returned (.int .i64 nc) ∧ Below w1.heap.size w1 w')
    (st : ByteArray) (er : Int) (HO : ∀ w1, Calls Tryz.prog 41 #[.agg #[.int .i64 R, .int .i64 D, .int .i64 L, .int .i64 G, .bool gr, .int .i64 (sz : Int), .int .i64 (ex : Int), .int .i64 fam, .func (.func F) #[] #[]], .agg #[.int .i64 c, .bool ng, .slice ao dn dc, .int .i64 p]] w1 fun z w' => z = .returned (.tuple #[.string st, .int .i64 er]) ∧ Below w1.heap.size w1 w') (h1 : 1 ≤ c) (h5 : c ≤ 5) (h2 : c ≠ 2) (hn : nc = 0) :
    Calls Tryz.prog 15 #[.int .i64 n, .agg #[.int .i64 c, .bool ng, .slice ao dn dc, .int .i64 p]] w fun z w' => z = .returned (.tuple #[.string st, .int .i64 er]) ∧ Below w.heap.size w w' := by
  subst hn
  have HN' : Hid (∀ w1, Below w.heap.size w w1 → Calls Tryz.prog 39 #[.slice ao dn dc] w1 fun z w' => z = .returned (.int .i64 0) ∧ Below w1.heap.size w1 w') := HN
  clear HN
  have hc1 : ¬ c < 1 := by omega
  have hc5 : ¬ 5 < c := by omega
  have HO' : Hid (∀ w1, Calls Tryz.prog 41 #[.agg #[.int .i64 R, .int .i64 D, .int .i64 L, .int .i64 G, .bool gr, .int .i64 (sz : Int), .int .i64 (ex : Int), .int .i64 fam, .func (.func F) #[] #[]], .agg #[.int .i64 c, .bool ng, .slice ao dn dc, .int .i64 p]] w1 fun z w' => z = .returned (.tuple #[.string st, .int .i64 er]) ∧ Below w1.heap.size w1 w') := HO
  clear HO
  have hcb : (c == 2) = false := by simpa using h2
  clear h2
  have hsf : ∀ (a : Addr) (W : World) (g : Fn), (store a (Value.func g #[] #[])).run Tryz.prog W = stored Tryz.prog W a (Value.func g #[] #[]) .plain := fun a W g => run_store _ W a _ _ rfl
  have hsn : ∀ (a : Addr) (W : World), (store a Value.nilFunc).run Tryz.prog W = stored Tryz.prog W a Value.nilFunc .plain := fun a W => run_store _ W a _ _ rfl
  have m0 := locE_new w [.int .i64 c, .bool ng, .slice ao dn dc, .int .i64 p] 25
  have b0 := below_alloc w (.cells #[.int .i64 c, .bool ng, .slice ao dn dc, .int .i64 p] 25)
  have HL' : Hid (∀ w1, Calls Tryz.prog 38 #[.int .i64 n] w1 fun z w' => z = .returned (.tuple #[.agg #[.int .i64 R, .int .i64 D, .int .i64 L, .int .i64 G, .bool gr, .int .i64 (sz : Int), .int .i64 (ex : Int), .int .i64 fam, .func (.func F) #[] #[]], .int .i64 0]) ∧ Below w1.heap.size w1 w') := HL
  clear HL
  go_enter Tryz.func15, Tryz.ntmps15
  go_wp2_with fail
  refine (HL'.out _).mono ?_
  rintro z w1 ⟨rfl, b1⟩
  have bq := below_alloc w1 (.cells #[.int .i64 R, .int .i64 D, .int .i64 L, .int .i64 G, .bool gr, .int .i64 (sz : Int), .int .i64 (ex : Int), .int .i64 fam, .func (.func F) #[] #[]] 65)
  have m1 := (m0.later b1).later bq
  have q1 := locE_new w1 [.int .i64 R, .int .i64 D, .int .i64 L, .int .i64 G, .bool gr, .int .i64 (sz : Int), .int .i64 (ex : Int), .int .i64 fam, .func (.func F) #[] #[]] 65
  have b01 := below_trans (below_trans b0 b1) bq
  have u0 := m1.cell 0 rfl; have u1 := m1.cell 1 rfl; have u2 := m1.cell 2 rfl; have u3 := m1.cell 3 rfl; have s0 := q1.cell 0 rfl; have s1 := q1.cell 1 rfl; have s2 := q1.cell 2 rfl; have s3 := q1.cell 3 rfl; have s4 := q1.cell 4 rfl; have s5 := q1.cell 5 rfl; have s6 := q1.cell 6 rfl; have s7 := q1.cell 7 rfl; have s8 := q1.cell 8 rfl
  clear m0 b0 b1 bq HL'
  go_wp2_with fail
  refine (HN'.out _ b01).mono ?_
  rintro z w2 ⟨rfl, b2⟩
  have m2 := m1.later b2
  have q2 := q1.later b2
  have b02 := below_trans b01 b2
  have v0 := m2.cell 0 rfl; have v1 := m2.cell 1 rfl; have v2 := m2.cell 2 rfl; have v3 := m2.cell 3 rfl; have t0 := q2.cell 0 rfl; have t1 := q2.cell 1 rfl; have t2 := q2.cell 2 rfl; have t3 := q2.cell 3 rfl; have t4 := q2.cell 4 rfl; have t5 := q2.cell 5 rfl; have t6 := q2.cell 6 rfl; have t7 := q2.cell 7 rfl; have t8 := q2.cell 8 rfl
  go_wp2_with fail
  refine (HO'.out _).mono ?_
  rintro z w3 ⟨rfl, b3⟩
  go_wp2
  go_ret2
  exact ⟨rfl, below_trans b02 b3⟩

/-- What Encode answers of what is no number: an error's number and a text. -/
def encOE (n : Int) (c dn : Nat) (nc : Int) (ng : Bool) (p : Int) : Int := if famC n = 0 then 6 else if nc ≠ 0 then nc else othE n.toNat c dn ng p
def encOS (n : Int) (c dn : Nat) (nc : Int) (ng : Bool) (p : Int) : ByteArray := if famC n = 0 then ⟨#[]⟩ else if nc ≠ 0 then ⟨#[]⟩ else othS n.toNat c dn ng p

theorem encode_other (n : Int) (c : Nat) (hc : c = 1 ∨ c = 3 ∨ c = 4 ∨ c = 5) (ng : Bool) (ao : Option Addr) (dn dc : Nat) (p nc : Int) (w : World) (HN : ∀ w1, Below w.heap.size w w1 → Calls Tryz.prog 39 #[.slice ao dn dc] w1 fun z w' => z = .returned (.int .i64 nc) ∧ Below w1.heap.size w1 w') :
    Calls Tryz.prog 15 #[.int .i64 n, .agg #[.int .i64 (c : Int), .bool ng, .slice ao dn dc, .int .i64 p]] w fun z w' => z = .returned (.tuple #[.string (encOS n c dn nc ng p), .int .i64 (encOE n c dn nc ng p)]) ∧ Below w.heap.size w w' := by
  unfold encOS encOE
  by_cases hf : famC n = 0
  · rw [if_pos hf, if_pos hf]
    exact enc_none n _ p ng ao dn dc w (fun w1 => layoutOf_none n w1 hf)
  · rw [if_neg hf, if_neg hf]
    obtain ⟨h1, h2, h3⟩ := famC_in hf
    obtain ⟨k, rfl⟩ : ∃ k : Nat, n = (k : Int) := ⟨n.toNat, h3.symm⟩
    rw [Int.toNat_natCast] at h1 h2 ⊢
    have HL := fun w1 => layoutOf_any k ⟨h1, h2⟩ w1
    by_cases hn : nc = 0
    · rw [if_neg (by omega), if_neg (by omega)]
      have HO := fun w1 => encodeOther_any k c ⟨h1, h2⟩ hc ng ao dn dc p w1
      generalize othS k c dn ng p = st at *
      generalize othE k c dn ng p = er at *
      rcases eight ⟨h1, h2⟩ with rfl | rfl | rfl | rfl | rfl | rfl | rfl | rfl
      all_goals exact enc_other _ _ _ _ _ _ _ _ _ _ _ p ng ao dn dc w HL nc HN st er HO (by omega) (by omega) (by omega) hn
    · rw [if_pos hn, if_pos hn]
      rcases eight ⟨h1, h2⟩ with rfl | rfl | rfl | rfl | rfl | rfl | rfl | rfl
      all_goals exact enc_digits _ _ _ _ _ _ _ _ _ _ _ p ng ao dn dc w HL nc HN (by omega) (by omega) hn
end Go.Proofs.YtgbccbmflokooaaGreatDoor

/-
  Texts laid together: Co22, Ce8, Ce1.
-/
import Derived.Test.YtiiphandhpilgaaDoorEb16
import Derived.Test.YtiiphandhpilgaaDoorEb21
import Derived.Test.YtiiphandhpilgaaDoorEb18
namespace Go.Proofs.YtiiphandhpilgaaDoor
open Go.RowKit
set_option maxRecDepth 100000 in
set_option maxHeartbeats 3200000 in
theorem enc_none (n : Int)  (c p : Int) (ng : Bool) (ao : Option Addr) (dn dc : Nat) (w : World)
    (HL : ∀ w1, Calls Tryd.prog 10 #[.int .i64 n] w1 fun z w' => z = .returned (.tuple #[.agg #[.int .i64 0, .int .i64 0, .int .i64 0, .int .i64 0, .bool false, .int .i64 0, .int .i64 0, .int .i64 0, .nilFunc], .int .i64 6]) ∧ Below w1.heap.size w1 w')  :
    Calls Tryd.prog 5 #[.int .i64 n, .agg #[.int .i64 c, .bool ng, .slice ao dn dc, .int .i64 p]] w fun z w' => z = .returned (.tuple #[.string ⟨#[]⟩, .int .i64 6]) ∧ Below w.heap.size w w' := by
  have hsf : ∀ (a : Addr) (W : World) (g : Fn), (store a (Value.func g #[] #[])).run Tryd.prog W = stored Tryd.prog W a (Value.func g #[] #[]) .plain := fun a W g => run_store _ W a _ _ rfl
  have hsn : ∀ (a : Addr) (W : World), (store a Value.nilFunc).run Tryd.prog W = stored Tryd.prog W a Value.nilFunc .plain := fun a W => run_store _ W a _ _ rfl
  have m0 := locE_new w [.int .i64 c, .bool ng, .slice ao dn dc, .int .i64 p] 25
  have b0 := below_alloc w (.cells #[.int .i64 c, .bool ng, .slice ao dn dc, .int .i64 p] 25)
  have HL' : Hid (∀ w1, Calls Tryd.prog 10 #[.int .i64 n] w1 fun z w' => z = .returned (.tuple #[.agg #[.int .i64 0, .int .i64 0, .int .i64 0, .int .i64 0, .bool false, .int .i64 0, .int .i64 0, .int .i64 0, .nilFunc], .int .i64 6]) ∧ Below w1.heap.size w1 w') := HL
  clear HL
  go_enter Tryd.func5, Tryd.ntmps5
  go_wp2_with fail
  refine (HL'.out _).mono ?_
  rintro z w1 ⟨rfl, b1⟩
  have bq := below_alloc w1 (.cells #[.int .i64 0, .int .i64 0, .int .i64 0, .int .i64 0, .bool false, .int .i64 0, .int .i64 0, .int .i64 0, .nilFunc] 44)
  have m1 := (m0.later b1).later bq
  have q1 := locE_new w1 [.int .i64 0, .int .i64 0, .int .i64 0, .int .i64 0, .bool false, .int .i64 0, .int .i64 0, .int .i64 0, .nilFunc] 44
  have b01 := below_trans (below_trans b0 b1) bq
  have u0 := m1.cell 0 rfl; have u1 := m1.cell 1 rfl; have u2 := m1.cell 2 rfl; have u3 := m1.cell 3 rfl; have s0 := q1.cell 0 rfl; have s1 := q1.cell 1 rfl; have s2 := q1.cell 2 rfl; have s3 := q1.cell 3 rfl; have s4 := q1.cell 4 rfl; have s5 := q1.cell 5 rfl; have s6 := q1.cell 6 rfl; have s7 := q1.cell 7 rfl; have s8 := q1.cell 8 rfl
  clear m0 b0 b1 bq HL'
  go_wp2
  go_ret2
  exact ⟨rfl, b01⟩

set_option maxRecDepth 100000 in
set_option maxHeartbeats 3200000 in
theorem enc_low (n : Int) (R D L G fam : Int) (gr : Bool) (sz ex : Nat) (F : Nat) (c p : Int) (ng : Bool) (ao : Option Addr) (dn dc : Nat) (w : World)
    (HL : ∀ w1, Calls Tryd.prog 10 #[.int .i64 n] w1 fun z w' => z = .returned (.tuple #[.agg #[.int .i64 R, .int .i64 D, .int .i64 L, .int .i64 G, .bool gr, .int .i64 (sz : Int), .int .i64 (ex : Int), .int .i64 fam, .func (.func F) #[] #[]], .int .i64 0]) ∧ Below w1.heap.size w1 w') (hc : c < 1) :
    Calls Tryd.prog 5 #[.int .i64 n, .agg #[.int .i64 c, .bool ng, .slice ao dn dc, .int .i64 p]] w fun z w' => z = .returned (.tuple #[.string ⟨#[]⟩, .int .i64 6]) ∧ Below w.heap.size w w' := by
  have hsf : ∀ (a : Addr) (W : World) (g : Fn), (store a (Value.func g #[] #[])).run Tryd.prog W = stored Tryd.prog W a (Value.func g #[] #[]) .plain := fun a W g => run_store _ W a _ _ rfl
  have hsn : ∀ (a : Addr) (W : World), (store a Value.nilFunc).run Tryd.prog W = stored Tryd.prog W a Value.nilFunc .plain := fun a W => run_store _ W a _ _ rfl
  have m0 := locE_new w [.int .i64 c, .bool ng, .slice ao dn dc, .int .i64 p] 25
  have b0 := below_alloc w (.cells #[.int .i64 c, .bool ng, .slice ao dn dc, .int .i64 p] 25)
  have HL' : Hid (∀ w1, Calls Tryd.prog 10 #[.int .i64 n] w1 fun z w' => z = .returned (.tuple #[.agg #[.int .i64 R, .int .i64 D, .int .i64 L, .int .i64 G, .bool gr, .int .i64 (sz : Int), .int .i64 (ex : Int), .int .i64 fam, .func (.func F) #[] #[]], .int .i64 0]) ∧ Below w1.heap.size w1 w') := HL
  clear HL
  go_enter Tryd.func5, Tryd.ntmps5
  go_wp2_with fail
  refine (HL'.out _).mono ?_
  rintro z w1 ⟨rfl, b1⟩
  have bq := below_alloc w1 (.cells #[.int .i64 R, .int .i64 D, .int .i64 L, .int .i64 G, .bool gr, .int .i64 (sz : Int), .int .i64 (ex : Int), .int .i64 fam, .func (.func F) #[] #[]] 44)
  have m1 := (m0.later b1).later bq
  have q1 := locE_new w1 [.int .i64 R, .int .i64 D, .int .i64 L, .int .i64 G, .bool gr, .int .i64 (sz : Int), .int .i64 (ex : Int), .int .i64 fam, .func (.func F) #[] #[]] 44
  have b01 := below_trans (below_trans b0 b1) bq
  have u0 := m1.cell 0 rfl; have u1 := m1.cell 1 rfl; have u2 := m1.cell 2 rfl; have u3 := m1.cell 3 rfl; have s0 := q1.cell 0 rfl; have s1 := q1.cell 1 rfl; have s2 := q1.cell 2 rfl; have s3 := q1.cell 3 rfl; have s4 := q1.cell 4 rfl; have s5 := q1.cell 5 rfl; have s6 := q1.cell 6 rfl; have s7 := q1.cell 7 rfl; have s8 := q1.cell 8 rfl
  clear m0 b0 b1 bq HL'
  go_wp2
  go_ret2
  exact ⟨rfl, b01⟩

set_option maxRecDepth 100000 in
set_option maxHeartbeats 3200000 in
theorem enc_high (n : Int) (R D L G fam : Int) (gr : Bool) (sz ex : Nat) (F : Nat) (c p : Int) (ng : Bool) (ao : Option Addr) (dn dc : Nat) (w : World)
    (HL : ∀ w1, Calls Tryd.prog 10 #[.int .i64 n] w1 fun z w' => z = .returned (.tuple #[.agg #[.int .i64 R, .int .i64 D, .int .i64 L, .int .i64 G, .bool gr, .int .i64 (sz : Int), .int .i64 (ex : Int), .int .i64 fam, .func (.func F) #[] #[]], .int .i64 0]) ∧ Below w1.heap.size w1 w') (hc : 5 < c) :
    Calls Tryd.prog 5 #[.int .i64 n, .agg #[.int .i64 c, .bool ng, .slice ao dn dc, .int .i64 p]] w fun z w' => z = .returned (.tuple #[.string ⟨#[]⟩, .int .i64 6]) ∧ Below w.heap.size w w' := by
  have hc1 : ¬ c < 1 := by omega
  have hsf : ∀ (a : Addr) (W : World) (g : Fn), (store a (Value.func g #[] #[])).run Tryd.prog W = stored Tryd.prog W a (Value.func g #[] #[]) .plain := fun a W g => run_store _ W a _ _ rfl
  have hsn : ∀ (a : Addr) (W : World), (store a Value.nilFunc).run Tryd.prog W = stored Tryd.prog W a Value.nilFunc .plain := fun a W => run_store _ W a _ _ rfl
  have m0 := locE_new w [.int .i64 c, .bool ng, .slice ao dn dc, .int .i64 p] 25
  have b0 := below_alloc w (.cells #[.int .i64 c, .bool ng, .slice ao dn dc, .int .i64 p] 25)
  have HL' : Hid (∀ w1, Calls Tryd.prog 10 #[.int .i64 n] w1 fun z w' => z = .returned (.tuple #[.agg #[.int .i64 R, .int .i64 D, .int .i64 L, .int .i64 G, .bool gr, .int .i64 (sz : Int), .int .i64 (ex : Int), .int .i64 fam, .func (.func F) #[] #[]], .int .i64 0]) ∧ Below w1.heap.size w1 w') := HL
  clear HL
  go_enter Tryd.func5, Tryd.ntmps5
  go_wp2_with fail
  refine (HL'.out _).mono ?_
  rintro z w1 ⟨rfl, b1⟩
  have bq := below_alloc w1 (.cells #[.int .i64 R, .int .i64 D, .int .i64 L, .int .i64 G, .bool gr, .int .i64 (sz : Int), .int .i64 (ex : Int), .int .i64 fam, .func (.func F) #[] #[]] 44)
  have m1 := (m0.later b1).later bq
  have q1 := locE_new w1 [.int .i64 R, .int .i64 D, .int .i64 L, .int .i64 G, .bool gr, .int .i64 (sz : Int), .int .i64 (ex : Int), .int .i64 fam, .func (.func F) #[] #[]] 44
  have b01 := below_trans (below_trans b0 b1) bq
  have u0 := m1.cell 0 rfl; have u1 := m1.cell 1 rfl; have u2 := m1.cell 2 rfl; have u3 := m1.cell 3 rfl; have s0 := q1.cell 0 rfl; have s1 := q1.cell 1 rfl; have s2 := q1.cell 2 rfl; have s3 := q1.cell 3 rfl; have s4 := q1.cell 4 rfl; have s5 := q1.cell 5 rfl; have s6 := q1.cell 6 rfl; have s7 := q1.cell 7 rfl; have s8 := q1.cell 8 rfl
  clear m0 b0 b1 bq HL'
  go_wp2
  go_ret2
  exact ⟨rfl, b01⟩

set_option maxRecDepth 100000 in
set_option maxHeartbeats 3200000 in
theorem enc_digits (n : Int) (R D L G fam : Int) (gr : Bool) (sz ex : Nat) (F : Nat) (c p : Int) (ng : Bool) (ao : Option Addr) (dn dc : Nat) (w : World)
    (HL : ∀ w1, Calls Tryd.prog 10 #[.int .i64 n] w1 fun z w' => z = .returned (.tuple #[.agg #[.int .i64 R, .int .i64 D, .int .i64 L, .int .i64 G, .bool gr, .int .i64 (sz : Int), .int .i64 (ex : Int), .int .i64 fam, .func (.func F) #[] #[]], .int .i64 0]) ∧ Below w1.heap.size w1 w')
    (nc : Int) (HN : ∀ w1, Below w.heap.size w w1 → Calls Tryd.prog 11 #[.slice ao dn dc] w1 fun z w' => z = .returned (.int .i64 nc) ∧ Below w1.heap.size w1 w') (h1 : 1 ≤ c) (h5 : c ≤ 5) (hn : nc ≠ 0) :
    Calls Tryd.prog 5 #[.int .i64 n, .agg #[.int .i64 c, .bool ng, .slice ao dn dc, .int .i64 p]] w fun z w' => z = .returned (.tuple #[.string ⟨#[]⟩, .int .i64 nc]) ∧ Below w.heap.size w w' := by
  have HN' : Hid (∀ w1, Below w.heap.size w w1 → Calls Tryd.prog 11 #[.slice ao dn dc] w1 fun z w' => z = .returned (.int .i64 nc) ∧ Below w1.heap.size w1 w') := HN
  clear HN
  have hc1 : ¬ c < 1 := by omega
  have hc5 : ¬ 5 < c := by omega
  have hnb : (nc == 0) = false := by simpa using hn
  clear hn
  have hsf : ∀ (a : Addr) (W : World) (g : Fn), (store a (Value.func g #[] #[])).run Tryd.prog W = stored Tryd.prog W a (Value.func g #[] #[]) .plain := fun a W g => run_store _ W a _ _ rfl
  have hsn : ∀ (a : Addr) (W : World), (store a Value.nilFunc).run Tryd.prog W = stored Tryd.prog W a Value.nilFunc .plain := fun a W => run_store _ W a _ _ rfl
  have m0 := locE_new w [.int .i64 c, .bool ng, .slice ao dn dc, .int .i64 p] 25
  have b0 := below_alloc w (.cells #[.int .i64 c, .bool ng, .slice ao dn dc, .int .i64 p] 25)
  have HL' : Hid (∀ w1, Calls Tryd.prog 10 #[.int .i64 n] w1 fun z w' => z = .returned (.tuple #[.agg #[.int .i64 R, .int .i64 D, .int .i64 L, .int .i64 G, .bool gr, .int .i64 (sz : Int), .int .i64 (ex : Int), .int .i64 fam, .func (.func F) #[] #[]], .int .i64 0]) ∧ Below w1.heap.size w1 w') := HL
  clear HL
  go_enter Tryd.func5, Tryd.ntmps5
  go_wp2_with fail
  refine (HL'.out _).mono ?_
  rintro z w1 ⟨rfl, b1⟩
  have bq := below_alloc w1 (.cells #[.int .i64 R, .int .i64 D, .int .i64 L, .int .i64 G, .bool gr, .int .i64 (sz : Int), .int .i64 (ex : Int), .int .i64 fam, .func (.func F) #[] #[]] 44)
  have m1 := (m0.later b1).later bq
  have q1 := locE_new w1 [.int .i64 R, .int .i64 D, .int .i64 L, .int .i64 G, .bool gr, .int .i64 (sz : Int), .int .i64 (ex : Int), .int .i64 fam, .func (.func F) #[] #[]] 44
  have b01 := below_trans (below_trans b0 b1) bq
  have u0 := m1.cell 0 rfl; have u1 := m1.cell 1 rfl; have u2 := m1.cell 2 rfl; have u3 := m1.cell 3 rfl; have s0 := q1.cell 0 rfl; have s1 := q1.cell 1 rfl; have s2 := q1.cell 2 rfl; have s3 := q1.cell 3 rfl; have s4 := q1.cell 4 rfl; have s5 := q1.cell 5 rfl; have s6 := q1.cell 6 rfl; have s7 := q1.cell 7 rfl; have s8 := q1.cell 8 rfl
  clear m0 b0 b1 bq HL'
  go_wp2_with fail
  refine (HN'.out _ b01).mono ?_
  rintro z w2 ⟨rfl, b2⟩
  have m2 := m1.later b2
  have q2 := q1.later b2
  have b02 := below_trans b01 b2
  have v0 := m2.cell 0 rfl; have v1 := m2.cell 1 rfl; have v2 := m2.cell 2 rfl; have v3 := m2.cell 3 rfl; have t0 := q2.cell 0 rfl; have t1 := q2.cell 1 rfl; have t2 := q2.cell 2 rfl; have t3 := q2.cell 3 rfl; have t4 := q2.cell 4 rfl; have t5 := q2.cell 5 rfl; have t6 := q2.cell 6 rfl; have t7 := q2.cell 7 rfl; have t8 := q2.cell 8 rfl
  go_wp2
  go_ret2
  exact ⟨rfl, b02⟩

set_option maxRecDepth 100000 in
set_option maxHeartbeats 3200000 in
theorem enc_other (n : Int) (R D L G fam : Int) (gr : Bool) (sz ex : Nat) (F : Nat) (c p : Int) (ng : Bool) (ao : Option Addr) (dn dc : Nat) (w : World)
    (HL : ∀ w1, Calls Tryd.prog 10 #[.int .i64 n] w1 fun z w' => z = .returned (.tuple #[.agg #[.int .i64 R, .int .i64 D, .int .i64 L, .int .i64 G, .bool gr, .int .i64 (sz : Int), .int .i64 (ex : Int), .int .i64 fam, .func (.func F) #[] #[]], .int .i64 0]) ∧ Below w1.heap.size w1 w')
    (nc : Int) (HN : ∀ w1, Below w.heap.size w w1 → Calls Tryd.prog 11 #[.slice ao dn dc] w1 fun z w' => z = .returned (.int .i64 nc) ∧ Below w1.heap.size w1 w')
    (st : ByteArray) (er : Int) (HO : ∀ w1, Calls Tryd.prog 13 #[.agg #[.int .i64 R, .int .i64 D, .int .i64 L, .int .i64 G, .bool gr, .int .i64 (sz : Int), .int .i64 (ex : Int), .int .i64 fam, .func (.func F) #[] #[]], .agg #[.int .i64 c, .bool ng, .slice ao dn dc, .int .i64 p]] w1 fun z w' => z = .returned (.tuple #[.string st, .int .i64 er]) ∧ Below w1.heap.size w1 w') (h1 : 1 ≤ c) (h5 : c ≤ 5) (h2 : c ≠ 2) (hn : nc = 0) :
    Calls Tryd.prog 5 #[.int .i64 n, .agg #[.int .i64 c, .bool ng, .slice ao dn dc, .int .i64 p]] w fun z w' => z = .returned (.tuple #[.string st, .int .i64 er]) ∧ Below w.heap.size w w' := by
  subst hn
  have HN' : Hid (∀ w1, Below w.heap.size w w1 → Calls Tryd.prog 11 #[.slice ao dn dc] w1 fun z w' => z = .returned (.int .i64 0) ∧ Below w1.heap.size w1 w') := HN
  clear HN
  have hc1 : ¬ c < 1 := by omega
  have hc5 : ¬ 5 < c := by omega
  have HO' : Hid (∀ w1, Calls Tryd.prog 13 #[.agg #[.int .i64 R, .int .i64 D, .int .i64 L, .int .i64 G, .bool gr, .int .i64 (sz : Int), .int .i64 (ex : Int), .int .i64 fam, .func (.func F) #[] #[]], .agg #[.int .i64 c, .bool ng, .slice ao dn dc, .int .i64 p]] w1 fun z w' => z = .returned (.tuple #[.string st, .int .i64 er]) ∧ Below w1.heap.size w1 w') := HO
  clear HO
  have hcb : (c == 2) = false := by simpa using h2
  clear h2
  have hsf : ∀ (a : Addr) (W : World) (g : Fn), (store a (Value.func g #[] #[])).run Tryd.prog W = stored Tryd.prog W a (Value.func g #[] #[]) .plain := fun a W g => run_store _ W a _ _ rfl
  have hsn : ∀ (a : Addr) (W : World), (store a Value.nilFunc).run Tryd.prog W = stored Tryd.prog W a Value.nilFunc .plain := fun a W => run_store _ W a _ _ rfl
  have m0 := locE_new w [.int .i64 c, .bool ng, .slice ao dn dc, .int .i64 p] 25
  have b0 := below_alloc w (.cells #[.int .i64 c, .bool ng, .slice ao dn dc, .int .i64 p] 25)
  have HL' : Hid (∀ w1, Calls Tryd.prog 10 #[.int .i64 n] w1 fun z w' => z = .returned (.tuple #[.agg #[.int .i64 R, .int .i64 D, .int .i64 L, .int .i64 G, .bool gr, .int .i64 (sz : Int), .int .i64 (ex : Int), .int .i64 fam, .func (.func F) #[] #[]], .int .i64 0]) ∧ Below w1.heap.size w1 w') := HL
  clear HL
  go_enter Tryd.func5, Tryd.ntmps5
  go_wp2_with fail
  refine (HL'.out _).mono ?_
  rintro z w1 ⟨rfl, b1⟩
  have bq := below_alloc w1 (.cells #[.int .i64 R, .int .i64 D, .int .i64 L, .int .i64 G, .bool gr, .int .i64 (sz : Int), .int .i64 (ex : Int), .int .i64 fam, .func (.func F) #[] #[]] 44)
  have m1 := (m0.later b1).later bq
  have q1 := locE_new w1 [.int .i64 R, .int .i64 D, .int .i64 L, .int .i64 G, .bool gr, .int .i64 (sz : Int), .int .i64 (ex : Int), .int .i64 fam, .func (.func F) #[] #[]] 44
  have b01 := below_trans (below_trans b0 b1) bq
  have u0 := m1.cell 0 rfl; have u1 := m1.cell 1 rfl; have u2 := m1.cell 2 rfl; have u3 := m1.cell 3 rfl; have s0 := q1.cell 0 rfl; have s1 := q1.cell 1 rfl; have s2 := q1.cell 2 rfl; have s3 := q1.cell 3 rfl; have s4 := q1.cell 4 rfl; have s5 := q1.cell 5 rfl; have s6 := q1.cell 6 rfl; have s7 := q1.cell 7 rfl; have s8 := q1.cell 8 rfl
  clear m0 b0 b1 bq HL'
  go_wp2_with fail
  refine (HN'.out _ b01).mono ?_
  rintro z w2 ⟨rfl, b2⟩
  have m2 := m1.later b2
  have q2 := q1.later b2
  have b02 := below_trans b01 b2
  have v0 := m2.cell 0 rfl; have v1 := m2.cell 1 rfl; have v2 := m2.cell 2 rfl; have v3 := m2.cell 3 rfl; have t0 := q2.cell 0 rfl; have t1 := q2.cell 1 rfl; have t2 := q2.cell 2 rfl; have t3 := q2.cell 3 rfl; have t4 := q2.cell 4 rfl; have t5 := q2.cell 5 rfl; have t6 := q2.cell 6 rfl; have t7 := q2.cell 7 rfl; have t8 := q2.cell 8 rfl
  go_wp2_with fail
  refine (HO'.out _).mono ?_
  rintro z w3 ⟨rfl, b3⟩
  go_wp2
  go_ret2
  exact ⟨rfl, below_trans b02 b3⟩

/-- What Encode answers of what is no number: an error's number and a text. -/
def encOE (n : Int) (c dn : Nat) (nc : Int) (ng : Bool) (p : Int) : Int := if famC n = 0 then 6 else if nc ≠ 0 then nc else othE n.toNat c dn ng p
def encOS (n : Int) (c dn : Nat) (nc : Int) (ng : Bool) (p : Int) : ByteArray := if famC n = 0 then ⟨#[]⟩ else if nc ≠ 0 then ⟨#[]⟩ else othS n.toNat c dn ng p

theorem encode_other (n : Int) (c : Nat) (hc : c = 1 ∨ c = 3 ∨ c = 4 ∨ c = 5) (ng : Bool) (ao : Option Addr) (dn dc : Nat) (p nc : Int) (w : World) (HN : ∀ w1, Below w.heap.size w w1 → Calls Tryd.prog 11 #[.slice ao dn dc] w1 fun z w' => z = .returned (.int .i64 nc) ∧ Below w1.heap.size w1 w') :
    Calls Tryd.prog 5 #[.int .i64 n, .agg #[.int .i64 (c : Int), .bool ng, .slice ao dn dc, .int .i64 p]] w fun z w' => z = .returned (.tuple #[.string (encOS n c dn nc ng p), .int .i64 (encOE n c dn nc ng p)]) ∧ Below w.heap.size w w' := by
  unfold encOS encOE
  by_cases hf : famC n = 0
  · rw [if_pos hf, if_pos hf]
    exact enc_none n _ p ng ao dn dc w (fun w1 => layoutOf_none n w1 hf)
  · rw [if_neg hf, if_neg hf]
    obtain ⟨h1, h2, h3⟩ := famC_in hf
    obtain ⟨k, rfl⟩ : ∃ k : Nat, n = (k : Int) := ⟨n.toNat, h3.symm⟩
    rw [Int.toNat_natCast] at h1 h2 ⊢
    have HL := fun w1 => layoutOf_any k ⟨h1, h2⟩ w1
    by_cases hn : nc = 0
    · rw [if_neg (by omega), if_neg (by omega)]
      have HO := fun w1 => encodeOther_any k c ⟨h1, h2⟩ hc ng ao dn dc p w1
      generalize othS k c dn ng p = st at *
      generalize othE k c dn ng p = er at *
      rcases eight ⟨h1, h2⟩ with rfl | rfl | rfl | rfl | rfl | rfl | rfl | rfl
      all_goals exact enc_other _ _ _ _ _ _ _ _ _ _ _ p ng ao dn dc w HL nc HN st er HO (by omega) (by omega) (by omega) hn
    · rw [if_pos hn, if_pos hn]
      rcases eight ⟨h1, h2⟩ with rfl | rfl | rfl | rfl | rfl | rfl | rfl | rfl
      all_goals exact enc_digits _ _ _ _ _ _ _ _ _ _ _ p ng ao dn dc w HL nc HN (by omega) (by omega) hn
end Go.Proofs.YtiiphandhpilgaaDoor
namespace Go.Proofs.YtiiphandhpilgaaDoor
open Go.RowKit
set_option maxRecDepth 100000 in
set_option maxHeartbeats 3200000 in
theorem enc_number (n : Int) (R D L G fam : Int) (gr : Bool) (sz ex : Nat) (F : Nat) (p : Int) (ng : Bool) (ao : Option Addr) (dn dc : Nat) (w : World)
    (HL : ∀ w1, Calls Tryd.prog 10 #[.int .i64 n] w1 fun z w' => z = .returned (.tuple #[.agg #[.int .i64 R, .int .i64 D, .int .i64 L, .int .i64 G, .bool gr, .int .i64 (sz : Int), .int .i64 (ex : Int), .int .i64 fam, .func (.func F) #[] #[]], .int .i64 0]) ∧ Below w1.heap.size w1 w')
    (nc : Int) (HN : ∀ w1, Below w.heap.size w w1 → Calls Tryd.prog 11 #[.slice ao dn dc] w1 fun z w' => z = .returned (.int .i64 nc) ∧ Below w1.heap.size w1 w')
    (st : ByteArray) (er : Int) (HO : ∀ w1, Below w.heap.size w w1 → Calls Tryd.prog 12 #[.agg #[.int .i64 R, .int .i64 D, .int .i64 L, .int .i64 G, .bool gr, .int .i64 (sz : Int), .int .i64 (ex : Int), .int .i64 fam, .func (.func F) #[] #[]], .agg #[.int .i64 2, .bool ng, .slice ao dn dc, .int .i64 p]] w1 fun z w' => z = .returned (.tuple #[.string st, .int .i64 er]) ∧ Below w1.heap.size w1 w') (hn : nc = 0) :
    Calls Tryd.prog 5 #[.int .i64 n, .agg #[.int .i64 2, .bool ng, .slice ao dn dc, .int .i64 p]] w fun z w' => z = .returned (.tuple #[.string st, .int .i64 er]) ∧ Below w.heap.size w w' := by
  subst hn
  have HN' : Hid (∀ w1, Below w.heap.size w w1 → Calls Tryd.prog 11 #[.slice ao dn dc] w1 fun z w' => z = .returned (.int .i64 0) ∧ Below w1.heap.size w1 w') := HN
  clear HN
  have HO' : Hid (∀ w1, Below w.heap.size w w1 → Calls Tryd.prog 12 #[.agg #[.int .i64 R, .int .i64 D, .int .i64 L, .int .i64 G, .bool gr, .int .i64 (sz : Int), .int .i64 (ex : Int), .int .i64 fam, .func (.func F) #[] #[]], .agg #[.int .i64 2, .bool ng, .slice ao dn dc, .int .i64 p]] w1 fun z w' => z = .returned (.tuple #[.string st, .int .i64 er]) ∧ Below w1.heap.size w1 w') := HO
  clear HO
  have hsf : ∀ (a : Addr) (W : World) (g : Fn), (store a (Value.func g #[] #[])).run Tryd.prog W = stored Tryd.prog W a (Value.func g #[] #[]) .plain := fun a W g => run_store _ W a _ _ rfl
  have hsn : ∀ (a : Addr) (W : World), (store a Value.nilFunc).run Tryd.prog W = stored Tryd.prog W a Value.nilFunc .plain := fun a W => run_store _ W a _ _ rfl
  have m0 := locE_new w [.int .i64 2, .bool ng, .slice ao dn dc, .int .i64 p] 25
  have b0 := below_alloc w (.cells #[.int .i64 2, .bool ng, .slice ao dn dc, .int .i64 p] 25)
  have HL' : Hid (∀ w1, Calls Tryd.prog 10 #[.int .i64 n] w1 fun z w' => z = .returned (.tuple #[.agg #[.int .i64 R, .int .i64 D, .int .i64 L, .int .i64 G, .bool gr, .int .i64 (sz : Int), .int .i64 (ex : Int), .int .i64 fam, .func (.func F) #[] #[]], .int .i64 0]) ∧ Below w1.heap.size w1 w') := HL
  clear HL
  go_enter Tryd.func5, Tryd.ntmps5
  go_wp2_with fail
  refine (HL'.out _).mono ?_
  rintro z w1 ⟨rfl, b1⟩
  have bq := below_alloc w1 (.cells #[.int .i64 R, .int .i64 D, .int .i64 L, .int .i64 G, .bool gr, .int .i64 (sz : Int), .int .i64 (ex : Int), .int .i64 fam, .func (.func F) #[] #[]] 44)
  have m1 := (m0.later b1).later bq
  have q1 := locE_new w1 [.int .i64 R, .int .i64 D, .int .i64 L, .int .i64 G, .bool gr, .int .i64 (sz : Int), .int .i64 (ex : Int), .int .i64 fam, .func (.func F) #[] #[]] 44
  have b01 := below_trans (below_trans b0 b1) bq
  have u0 := m1.cell 0 rfl; have u1 := m1.cell 1 rfl; have u2 := m1.cell 2 rfl; have u3 := m1.cell 3 rfl; have s0 := q1.cell 0 rfl; have s1 := q1.cell 1 rfl; have s2 := q1.cell 2 rfl; have s3 := q1.cell 3 rfl; have s4 := q1.cell 4 rfl; have s5 := q1.cell 5 rfl; have s6 := q1.cell 6 rfl; have s7 := q1.cell 7 rfl; have s8 := q1.cell 8 rfl
  clear m0 b0 b1 bq HL'
  go_wp2_with fail
  refine (HN'.out _ b01).mono ?_
  rintro z w2 ⟨rfl, b2⟩
  have m2 := m1.later b2
  have q2 := q1.later b2
  have b02 := below_trans b01 b2
  have v0 := m2.cell 0 rfl; have v1 := m2.cell 1 rfl; have v2 := m2.cell 2 rfl; have v3 := m2.cell 3 rfl; have t0 := q2.cell 0 rfl; have t1 := q2.cell 1 rfl; have t2 := q2.cell 2 rfl; have t3 := q2.cell 3 rfl; have t4 := q2.cell 4 rfl; have t5 := q2.cell 5 rfl; have t6 := q2.cell 6 rfl; have t7 := q2.cell 7 rfl; have t8 := q2.cell 8 rfl
  go_wp2_with fail
  refine (HO'.out _ b02).mono ?_
  rintro z w3 ⟨rfl, b3⟩
  go_wp2
  go_ret2
  exact ⟨rfl, below_trans b02 b3⟩

end Go.Proofs.YtiiphandhpilgaaDoor
namespace Go.Proofs.YtiiphandhpilgaaDoor
open Go.RowKit
theorem word_join (x a : Nat) (hx : x < 4294967296) (ha : a < 4294967296) : bits .or .u64 ((x : Int) * 4294967296) (a : Int) = ((a + 4294967296 * x : Nat) : Int) := by
  rw [show (x : Int) * 4294967296 = ((4294967296 * x : Nat) : Int) from by omega]
  rw [u64_or_nat _ _ (by omega) (by omega), nat_join 32 _ _ (by omega) (by omega)]
  congr 1
  omega

set_option maxRecDepth 100000 in
set_option maxHeartbeats 1600000 in
theorem word_any (va : Value) (xs : List Nat) (w : World) (ha : Rd w .u32 va xs) (sa : Dg.Small 4294967296 xs) (hl : xs.length ≤ 2) :
    Calls Tryd.prog 55 #[va] w fun z w' => z = .returned (.int .u64 ((Dg.vl 4294967296 xs : Nat) : Int)) ∧ w' = w := by
  obtain ⟨ao, ca, rfl, -, -, hca⟩ := ha
  go_enter Tryd.func55, Tryd.ntmps55
  go_wp2
  go_loop [3, 4] (fun xv iv => ∃ j x : Nat, j ≤ xs.length ∧ iv = .int .i64 ((j : Int) - 1) ∧ xv = .int .u64 (x : Int) ∧ Hid (x = Dg.vl 4294967296 (xs.drop j))) (fun _ iv => (intOf iv + 1).toNat)
  case atStart => exact ⟨xs.length, 0, Nat.le_refl _, by go_num, rfl, by rw [List.drop_of_length_le (Nat.le_refl _)]; rfl⟩
  case round =>
    obtain ⟨j, x, hj, rfl, rfl, HX⟩ := hrel
    by_cases h0 : 0 < j
    · obtain ⟨i, rfl⟩ : ∃ i, j = i + 1 := ⟨j - 1, by omega⟩
      rw [show ((i + 1 : Nat) : Int) - 1 = (i : Int) from by omega]
      obtain ⟨b, off, rfl, hcell⟩ := hca (by omega)
      have hc := hcell i (by omega)
      have hs := sa i
      have hx := HX.out
      have hxl : x < 4294967296 := by
        have h1 := Dg.vl_lt 4294967296 (xs.drop (i + 1)) (fun k => by
          rw [List.getD_eq_getElem?_getD, List.getElem?_drop, ← List.getD_eq_getElem?_getD]
          exact sa _)
        rw [← hx, List.length_drop] at h1
        have h2 : (4294967296 : Nat) ^ (xs.length - (i + 1)) ≤ 4294967296 ^ 1 := Nat.pow_le_pow_right (by omega) (by omega)
        omega
      have hst : Dg.vl 4294967296 (xs.drop i) = xs.getD i 0 + 4294967296 * x := by
        rw [hx, List.drop_eq_getElem_cons (show i < xs.length by omega), Dg.vl]
        simp [List.getD_eq_getElem?_getD, show i < xs.length by omega]
      obtain ⟨a, ea⟩ : ∃ a, xs.getD i 0 = a := ⟨_, rfl⟩
      rw [ea] at hc hs hst
      have hil : i < xs.length := by omega
      have HST : Hid _ := hst
      clear ea hst hx hcell hca HX
      go_wp2
      have hst := HST.out
      refine ⟨⟨i, a + 4294967296 * x, by omega, rfl, ?_, hst.symm⟩, ?_⟩
      · rw [word_join x a hxl hs]
      · simp only [intOf]
        omega
    · have hd : ¬ ((0 : Int) ≤ (j : Int) - 1) := by omega
      have HJ : Hid (j = 0) := (by omega : j = 0)
      go_wp2
      go_ret
      have h1 := HJ.out
      subst h1
      have := HX.out
      rw [List.drop_zero] at this
      rw [← this]
      exact ⟨rfl, rfl⟩
end Go.Proofs.YtiiphandhpilgaaDoor

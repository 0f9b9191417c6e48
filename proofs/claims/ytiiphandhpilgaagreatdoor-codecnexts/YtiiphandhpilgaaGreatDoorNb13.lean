/-
  Texts laid together: Co21, Dy3, Dy4, Ce5, Co15.
-/
import Derived.Laws.ResultCell
import Derived.Test.YtiiphandhpilgaaGreatDoorNb09
import Derived.Test.YtiiphandhpilgaaGreatDoorNb12
set_option maxRecDepth 100000
namespace Go.Proofs.YtiiphandhpilgaaGreatDoor
open Go.RowKit
set_option maxHeartbeats 3200000 in
theorem other_none (R D L G fam : Int) (gr : Bool) (sz ex : Nat) (F : Nat) (c p : Int) (ng : Bool) (ao : Option Addr) (dn dc : Nat) (sg0 : Bool) (se sf : Nat) (w : World)
  (HS : ∀ w1, Calls Tryz.prog 56 #[.agg #[.int .i64 R, .int .i64 D, .int .i64 L, .int .i64 G, .bool gr, .int .i64 (sz : Int), .int .i64 (ex : Int), .int .i64 fam, .func (.func F) #[] #[]], .int .i64 c] w1 fun z w' => z = .returned (.tuple #[.agg #[.bool sg0, .int .i64 (se : Int), .int .u64 (sf : Int)], .bool false]) ∧ Below w1.heap.size w1 w')  :
  Calls Tryz.prog 23 #[.agg #[.int .i64 R, .int .i64 D, .int .i64 L, .int .i64 G, .bool gr, .int .i64 (sz : Int), .int .i64 (ex : Int), .int .i64 fam, .func (.func F) #[] #[]], .agg #[.int .i64 c, .bool ng, .slice ao dn dc, .int .i64 p]] w fun z w' => z = .returned (.tuple #[.string ⟨#[]⟩, .int .i64 5]) ∧ Below w.heap.size w w' := by
 have hsf := hsf_z
 have bf := below_alloc (w.alloc (.cells #[.int .i64 R, .int .i64 D, .int .i64 L, .int .i64 G, .bool gr, .int .i64 (sz : Int), .int .i64 (ex : Int), .int .i64 fam, .func (.func F) #[] #[]] 63)) (.cells #[.int .i64 c, .bool ng, .slice ao dn dc, .int .i64 p] 25)
 have l0 := (locE_new w [.int .i64 R, .int .i64 D, .int .i64 L, .int .i64 G, .bool gr, .int .i64 (sz : Int), .int .i64 (ex : Int), .int .i64 fam, .func (.func F) #[] #[]] 63).later bf
 have m0 := locE_new (w.alloc (.cells #[.int .i64 R, .int .i64 D, .int .i64 L, .int .i64 G, .bool gr, .int .i64 (sz : Int), .int .i64 (ex : Int), .int .i64 fam, .func (.func F) #[] #[]] 63)) [.int .i64 c, .bool ng, .slice ao dn dc, .int .i64 p] 25
 have b0 := below_trans (below_alloc w (.cells #[.int .i64 R, .int .i64 D, .int .i64 L, .int .i64 G, .bool gr, .int .i64 (sz : Int), .int .i64 (ex : Int), .int .i64 fam, .func (.func F) #[] #[]] 63)) bf
 rw [World.size_alloc] at m0
 have HS' : Hid _ := HS
 clear HS bf
 go_enter Tryz.func23, Tryz.ntmps23
 go_wp2_with fail
 refine (HS'.out _).mono ?_
 rintro z w1 ⟨rfl, b1⟩
 have bq := below_alloc w1 (.cells #[.bool sg0, .int .i64 (se : Int), .int .u64 (sf : Int)] 82)
 have l1 := (l0.later b1).later bq
 have m1 := (m0.later b1).later bq
 have q1 := locE_new w1 [.bool sg0, .int .i64 (se : Int), .int .u64 (sf : Int)] 82
 have b01 := below_trans (below_trans b0 b1) bq
 obtain ⟨x0, x1, x2, x3, x4, x5, x6, x7, x8⟩ := l1.cs9
 obtain ⟨u0, u1, u2, u3⟩ := m1.cs4
 obtain ⟨s0, s1, s2⟩ := q1.cs3
 clear l0 m0 b0 b1 bq HS'
 go_wp2
 go_ret2
 exact ⟨rfl, b01⟩
set_option maxHeartbeats 3200000 in
theorem other_digits (R D L G fam : Int) (gr : Bool) (sz ex : Nat) (F : Nat) (c p : Int) (ng : Bool) (ao : Option Addr) (dn dc : Nat) (sg0 : Bool) (se sf : Nat) (w : World)
  (HS : ∀ w1, Calls Tryz.prog 56 #[.agg #[.int .i64 R, .int .i64 D, .int .i64 L, .int .i64 G, .bool gr, .int .i64 (sz : Int), .int .i64 (ex : Int), .int .i64 fam, .func (.func F) #[] #[]], .int .i64 c] w1 fun z w' => z = .returned (.tuple #[.agg #[.bool sg0, .int .i64 (se : Int), .int .u64 (sf : Int)], .bool true]) ∧ Below w1.heap.size w1 w') (hd : 0 < dn) :
  Calls Tryz.prog 23 #[.agg #[.int .i64 R, .int .i64 D, .int .i64 L, .int .i64 G, .bool gr, .int .i64 (sz : Int), .int .i64 (ex : Int), .int .i64 fam, .func (.func F) #[] #[]], .agg #[.int .i64 c, .bool ng, .slice ao dn dc, .int .i64 p]] w fun z w' => z = .returned (.tuple #[.string ⟨#[]⟩, .int .i64 4]) ∧ Below w.heap.size w w' := by
 have hdI : (0 : Int) < (dn : Int) := by omega
 have hsf := hsf_z
 have bf := below_alloc (w.alloc (.cells #[.int .i64 R, .int .i64 D, .int .i64 L, .int .i64 G, .bool gr, .int .i64 (sz : Int), .int .i64 (ex : Int), .int .i64 fam, .func (.func F) #[] #[]] 63)) (.cells #[.int .i64 c, .bool ng, .slice ao dn dc, .int .i64 p] 25)
 have l0 := (locE_new w [.int .i64 R, .int .i64 D, .int .i64 L, .int .i64 G, .bool gr, .int .i64 (sz : Int), .int .i64 (ex : Int), .int .i64 fam, .func (.func F) #[] #[]] 63).later bf
 have m0 := locE_new (w.alloc (.cells #[.int .i64 R, .int .i64 D, .int .i64 L, .int .i64 G, .bool gr, .int .i64 (sz : Int), .int .i64 (ex : Int), .int .i64 fam, .func (.func F) #[] #[]] 63)) [.int .i64 c, .bool ng, .slice ao dn dc, .int .i64 p] 25
 have b0 := below_trans (below_alloc w (.cells #[.int .i64 R, .int .i64 D, .int .i64 L, .int .i64 G, .bool gr, .int .i64 (sz : Int), .int .i64 (ex : Int), .int .i64 fam, .func (.func F) #[] #[]] 63)) bf
 rw [World.size_alloc] at m0
 have HS' : Hid _ := HS
 clear HS bf
 go_enter Tryz.func23, Tryz.ntmps23
 go_wp2_with fail
 refine (HS'.out _).mono ?_
 rintro z w1 ⟨rfl, b1⟩
 have bq := below_alloc w1 (.cells #[.bool sg0, .int .i64 (se : Int), .int .u64 (sf : Int)] 82)
 have l1 := (l0.later b1).later bq
 have m1 := (m0.later b1).later bq
 have q1 := locE_new w1 [.bool sg0, .int .i64 (se : Int), .int .u64 (sf : Int)] 82
 have b01 := below_trans (below_trans b0 b1) bq
 obtain ⟨x0, x1, x2, x3, x4, x5, x6, x7, x8⟩ := l1.cs9
 obtain ⟨u0, u1, u2, u3⟩ := m1.cs4
 obtain ⟨s0, s1, s2⟩ := q1.cs3
 clear l0 m0 b0 b1 bq HS'
 go_wp2
 go_ret2
 exact ⟨rfl, b01⟩
set_option maxHeartbeats 3200000 in
theorem other_power (R D L G fam : Int) (gr : Bool) (sz ex : Nat) (F : Nat) (c p : Int) (ng : Bool) (ao : Option Addr) (dn dc : Nat) (sg0 : Bool) (se sf : Nat) (w : World)
  (HS : ∀ w1, Calls Tryz.prog 56 #[.agg #[.int .i64 R, .int .i64 D, .int .i64 L, .int .i64 G, .bool gr, .int .i64 (sz : Int), .int .i64 (ex : Int), .int .i64 fam, .func (.func F) #[] #[]], .int .i64 c] w1 fun z w' => z = .returned (.tuple #[.agg #[.bool sg0, .int .i64 (se : Int), .int .u64 (sf : Int)], .bool true]) ∧ Below w1.heap.size w1 w') (hd : dn = 0) (hp : p ≠ 0) :
  Calls Tryz.prog 23 #[.agg #[.int .i64 R, .int .i64 D, .int .i64 L, .int .i64 G, .bool gr, .int .i64 (sz : Int), .int .i64 (ex : Int), .int .i64 fam, .func (.func F) #[] #[]], .agg #[.int .i64 c, .bool ng, .slice ao dn dc, .int .i64 p]] w fun z w' => z = .returned (.tuple #[.string ⟨#[]⟩, .int .i64 4]) ∧ Below w.heap.size w w' := by
 subst hd
 have hpb : (p == 0) = false := by simpa using hp
 have hsf := hsf_z
 have bf := below_alloc (w.alloc (.cells #[.int .i64 R, .int .i64 D, .int .i64 L, .int .i64 G, .bool gr, .int .i64 (sz : Int), .int .i64 (ex : Int), .int .i64 fam, .func (.func F) #[] #[]] 63)) (.cells #[.int .i64 c, .bool ng, .slice ao 0 dc, .int .i64 p] 25)
 have l0 := (locE_new w [.int .i64 R, .int .i64 D, .int .i64 L, .int .i64 G, .bool gr, .int .i64 (sz : Int), .int .i64 (ex : Int), .int .i64 fam, .func (.func F) #[] #[]] 63).later bf
 have m0 := locE_new (w.alloc (.cells #[.int .i64 R, .int .i64 D, .int .i64 L, .int .i64 G, .bool gr, .int .i64 (sz : Int), .int .i64 (ex : Int), .int .i64 fam, .func (.func F) #[] #[]] 63)) [.int .i64 c, .bool ng, .slice ao 0 dc, .int .i64 p] 25
 have b0 := below_trans (below_alloc w (.cells #[.int .i64 R, .int .i64 D, .int .i64 L, .int .i64 G, .bool gr, .int .i64 (sz : Int), .int .i64 (ex : Int), .int .i64 fam, .func (.func F) #[] #[]] 63)) bf
 rw [World.size_alloc] at m0
 have HS' : Hid _ := HS
 clear HS bf
 go_enter Tryz.func23, Tryz.ntmps23
 go_wp2_with fail
 refine (HS'.out _).mono ?_
 rintro z w1 ⟨rfl, b1⟩
 have bq := below_alloc w1 (.cells #[.bool sg0, .int .i64 (se : Int), .int .u64 (sf : Int)] 82)
 have l1 := (l0.later b1).later bq
 have m1 := (m0.later b1).later bq
 have q1 := locE_new w1 [.bool sg0, .int .i64 (se : Int), .int .u64 (sf : Int)] 82
 have b01 := below_trans (below_trans b0 b1) bq
 obtain ⟨x0, x1, x2, x3, x4, x5, x6, x7, x8⟩ := l1.cs9
 obtain ⟨u0, u1, u2, u3⟩ := m1.cs4
 obtain ⟨s0, s1, s2⟩ := q1.cs3
 clear l0 m0 b0 b1 bq HS'
 go_wp2
 go_ret2
 exact ⟨rfl, b01⟩
set_option maxHeartbeats 3200000 in
theorem other_sign (R D L G fam : Int) (gr : Bool) (sz ex : Nat) (F : Nat) (c p : Int) (ng : Bool) (ao : Option Addr) (dn dc : Nat) (sg0 : Bool) (se sf : Nat) (w : World)
  (HS : ∀ w1, Calls Tryz.prog 56 #[.agg #[.int .i64 R, .int .i64 D, .int .i64 L, .int .i64 G, .bool gr, .int .i64 (sz : Int), .int .i64 (ex : Int), .int .i64 fam, .func (.func F) #[] #[]], .int .i64 c] w1 fun z w' => z = .returned (.tuple #[.agg #[.bool sg0, .int .i64 (se : Int), .int .u64 (sf : Int)], .bool true]) ∧ Below w1.heap.size w1 w')
  (HG : ∀ w1, Calls Tryz.prog 57 #[.agg #[.int .i64 R, .int .i64 D, .int .i64 L, .int .i64 G, .bool gr, .int .i64 (sz : Int), .int .i64 (ex : Int), .int .i64 fam, .func (.func F) #[] #[]], .int .i64 c] w1 fun z w' => z = .returned (.bool false) ∧ Below w1.heap.size w1 w') (hd : dn = 0) (hp : p = 0) (hn : ng = true) :
  Calls Tryz.prog 23 #[.agg #[.int .i64 R, .int .i64 D, .int .i64 L, .int .i64 G, .bool gr, .int .i64 (sz : Int), .int .i64 (ex : Int), .int .i64 fam, .func (.func F) #[] #[]], .agg #[.int .i64 c, .bool ng, .slice ao dn dc, .int .i64 p]] w fun z w' => z = .returned (.tuple #[.string ⟨#[]⟩, .int .i64 4]) ∧ Below w.heap.size w w' := by
 subst hd hp hn
 have HG' : Hid _ := HG
 have hsf := hsf_z
 have bf := below_alloc (w.alloc (.cells #[.int .i64 R, .int .i64 D, .int .i64 L, .int .i64 G, .bool gr, .int .i64 (sz : Int), .int .i64 (ex : Int), .int .i64 fam, .func (.func F) #[] #[]] 63)) (.cells #[.int .i64 c, .bool true, .slice ao 0 dc, .int .i64 0] 25)
 have l0 := (locE_new w [.int .i64 R, .int .i64 D, .int .i64 L, .int .i64 G, .bool gr, .int .i64 (sz : Int), .int .i64 (ex : Int), .int .i64 fam, .func (.func F) #[] #[]] 63).later bf
 have m0 := locE_new (w.alloc (.cells #[.int .i64 R, .int .i64 D, .int .i64 L, .int .i64 G, .bool gr, .int .i64 (sz : Int), .int .i64 (ex : Int), .int .i64 fam, .func (.func F) #[] #[]] 63)) [.int .i64 c, .bool true, .slice ao 0 dc, .int .i64 0] 25
 have b0 := below_trans (below_alloc w (.cells #[.int .i64 R, .int .i64 D, .int .i64 L, .int .i64 G, .bool gr, .int .i64 (sz : Int), .int .i64 (ex : Int), .int .i64 fam, .func (.func F) #[] #[]] 63)) bf
 rw [World.size_alloc] at m0
 have HS' : Hid _ := HS
 clear HS bf
 go_enter Tryz.func23, Tryz.ntmps23
 go_wp2_with fail
 refine (HS'.out _).mono ?_
 rintro z w1 ⟨rfl, b1⟩
 have bq := below_alloc w1 (.cells #[.bool sg0, .int .i64 (se : Int), .int .u64 (sf : Int)] 82)
 have l1 := (l0.later b1).later bq
 have m1 := (m0.later b1).later bq
 have q1 := locE_new w1 [.bool sg0, .int .i64 (se : Int), .int .u64 (sf : Int)] 82
 have b01 := below_trans (below_trans b0 b1) bq
 obtain ⟨x0, x1, x2, x3, x4, x5, x6, x7, x8⟩ := l1.cs9
 obtain ⟨u0, u1, u2, u3⟩ := m1.cs4
 obtain ⟨s0, s1, s2⟩ := q1.cs3
 clear l0 m0 b0 b1 bq HS'
 go_wp2_with fail
 refine (HG'.out _).mono ?_
 rintro z w2 ⟨rfl, b2⟩
 have l2 := l1.later b2
 have m2 := m1.later b2
 have q2 := q1.later b2
 have b02 := below_trans b01 b2
 clear l1 m1 q1 b01 b2 x0 x1 x2 x3 x4 x5 x6 x7 x8 u0 u1 u2 u3 s0 s1 s2
 obtain ⟨x0, x1, x2, x3, x4, x5, x6, x7, x8⟩ := l2.cs9
 obtain ⟨u0, u1, u2, u3⟩ := m2.cs4
 obtain ⟨s0, s1, s2⟩ := q2.cs3
 go_wp2
 go_ret2
 exact ⟨rfl, b02⟩
set_option maxHeartbeats 3200000 in
theorem other_ok0 (R D L G fam : Int) (gr : Bool) (sz ex : Nat) (F : Nat) (c p : Int) (ng : Bool) (ao : Option Addr) (dn dc : Nat) (sg0 : Bool) (se sf : Nat) (w : World)
  (HS : ∀ w1, Calls Tryz.prog 56 #[.agg #[.int .i64 R, .int .i64 D, .int .i64 L, .int .i64 G, .bool gr, .int .i64 (sz : Int), .int .i64 (ex : Int), .int .i64 fam, .func (.func F) #[] #[]], .int .i64 c] w1 fun z w' => z = .returned (.tuple #[.agg #[.bool sg0, .int .i64 (se : Int), .int .u64 (sf : Int)], .bool true]) ∧ Below w1.heap.size w1 w')
  (st : ByteArray) (HW : ∀ w1, Calls Tryz.prog 58 #[.agg #[.int .i64 R, .int .i64 D, .int .i64 L, .int .i64 G, .bool gr, .int .i64 (sz : Int), .int .i64 (ex : Int), .int .i64 fam, .func (.func F) #[] #[]], .agg #[.bool (sg0 || ng), .int .i64 (se : Int), .int .u64 (sf : Int)]] w1 fun z w' => z = .returned (.string st) ∧ Below w1.heap.size w1 w') (hd : dn = 0) (hp : p = 0) (hn : ng = false) :
  Calls Tryz.prog 23 #[.agg #[.int .i64 R, .int .i64 D, .int .i64 L, .int .i64 G, .bool gr, .int .i64 (sz : Int), .int .i64 (ex : Int), .int .i64 fam, .func (.func F) #[] #[]], .agg #[.int .i64 c, .bool ng, .slice ao dn dc, .int .i64 p]] w fun z w' => z = .returned (.tuple #[.string st, .int .i64 0]) ∧ Below w.heap.size w w' := by
 subst hd hp hn
 have HW' : Hid _ := HW
 have hsf := hsf_z
 have bf := below_alloc (w.alloc (.cells #[.int .i64 R, .int .i64 D, .int .i64 L, .int .i64 G, .bool gr, .int .i64 (sz : Int), .int .i64 (ex : Int), .int .i64 fam, .func (.func F) #[] #[]] 63)) (.cells #[.int .i64 c, .bool false, .slice ao 0 dc, .int .i64 0] 25)
 have l0 := (locE_new w [.int .i64 R, .int .i64 D, .int .i64 L, .int .i64 G, .bool gr, .int .i64 (sz : Int), .int .i64 (ex : Int), .int .i64 fam, .func (.func F) #[] #[]] 63).later bf
 have m0 := locE_new (w.alloc (.cells #[.int .i64 R, .int .i64 D, .int .i64 L, .int .i64 G, .bool gr, .int .i64 (sz : Int), .int .i64 (ex : Int), .int .i64 fam, .func (.func F) #[] #[]] 63)) [.int .i64 c, .bool false, .slice ao 0 dc, .int .i64 0] 25
 have b0 := below_trans (below_alloc w (.cells #[.int .i64 R, .int .i64 D, .int .i64 L, .int .i64 G, .bool gr, .int .i64 (sz : Int), .int .i64 (ex : Int), .int .i64 fam, .func (.func F) #[] #[]] 63)) bf
 rw [World.size_alloc] at m0
 have HS' : Hid _ := HS
 clear HS bf
 go_enter Tryz.func23, Tryz.ntmps23
 go_wp2_with fail
 refine (HS'.out _).mono ?_
 rintro z w1 ⟨rfl, b1⟩
 have bq := below_alloc w1 (.cells #[.bool sg0, .int .i64 (se : Int), .int .u64 (sf : Int)] 82)
 have l1 := (l0.later b1).later bq
 have m1 := (m0.later b1).later bq
 have q1 := locE_new w1 [.bool sg0, .int .i64 (se : Int), .int .u64 (sf : Int)] 82
 have b01 := below_trans (below_trans b0 b1) bq
 obtain ⟨x0, x1, x2, x3, x4, x5, x6, x7, x8⟩ := l1.cs9
 obtain ⟨u0, u1, u2, u3⟩ := m1.cs4
 obtain ⟨s0, s1, s2⟩ := q1.cs3
 clear l0 m0 b0 b1 bq HS'
 clear HW
 cases sg0
 all_goals go_wp2_with fail
 all_goals (refine (HW'.out _).mono ?_; rintro z w3 ⟨rfl, b3⟩; go_wp2; go_ret2; exact ⟨rfl, below_trans b01 b3⟩)
set_option maxHeartbeats 3200000 in
theorem other_ok1 (R D L G fam : Int) (gr : Bool) (sz ex : Nat) (F : Nat) (c p : Int) (ng : Bool) (ao : Option Addr) (dn dc : Nat) (sg0 : Bool) (se sf : Nat) (w : World)
  (HS : ∀ w1, Calls Tryz.prog 56 #[.agg #[.int .i64 R, .int .i64 D, .int .i64 L, .int .i64 G, .bool gr, .int .i64 (sz : Int), .int .i64 (ex : Int), .int .i64 fam, .func (.func F) #[] #[]], .int .i64 c] w1 fun z w' => z = .returned (.tuple #[.agg #[.bool sg0, .int .i64 (se : Int), .int .u64 (sf : Int)], .bool true]) ∧ Below w1.heap.size w1 w')
  (HG : ∀ w1, Calls Tryz.prog 57 #[.agg #[.int .i64 R, .int .i64 D, .int .i64 L, .int .i64 G, .bool gr, .int .i64 (sz : Int), .int .i64 (ex : Int), .int .i64 fam, .func (.func F) #[] #[]], .int .i64 c] w1 fun z w' => z = .returned (.bool true) ∧ Below w1.heap.size w1 w')
  (st : ByteArray) (HW : ∀ w1, Calls Tryz.prog 58 #[.agg #[.int .i64 R, .int .i64 D, .int .i64 L, .int .i64 G, .bool gr, .int .i64 (sz : Int), .int .i64 (ex : Int), .int .i64 fam, .func (.func F) #[] #[]], .agg #[.bool (sg0 || ng), .int .i64 (se : Int), .int .u64 (sf : Int)]] w1 fun z w' => z = .returned (.string st) ∧ Below w1.heap.size w1 w') (hd : dn = 0) (hp : p = 0) (hn : ng = true) :
  Calls Tryz.prog 23 #[.agg #[.int .i64 R, .int .i64 D, .int .i64 L, .int .i64 G, .bool gr, .int .i64 (sz : Int), .int .i64 (ex : Int), .int .i64 fam, .func (.func F) #[] #[]], .agg #[.int .i64 c, .bool ng, .slice ao dn dc, .int .i64 p]] w fun z w' => z = .returned (.tuple #[.string st, .int .i64 0]) ∧ Below w.heap.size w w' := by
 subst hd hp hn
 have HG' : Hid _ := HG
 have HW' : Hid _ := HW
 have hsf := hsf_z
 have bf := below_alloc (w.alloc (.cells #[.int .i64 R, .int .i64 D, .int .i64 L, .int .i64 G, .bool gr, .int .i64 (sz : Int), .int .i64 (ex : Int), .int .i64 fam, .func (.func F) #[] #[]] 63)) (.cells #[.int .i64 c, .bool true, .slice ao 0 dc, .int .i64 0] 25)
 have l0 := (locE_new w [.int .i64 R, .int .i64 D, .int .i64 L, .int .i64 G, .bool gr, .int .i64 (sz : Int), .int .i64 (ex : Int), .int .i64 fam, .func (.func F) #[] #[]] 63).later bf
 have m0 := locE_new (w.alloc (.cells #[.int .i64 R, .int .i64 D, .int .i64 L, .int .i64 G, .bool gr, .int .i64 (sz : Int), .int .i64 (ex : Int), .int .i64 fam, .func (.func F) #[] #[]] 63)) [.int .i64 c, .bool true, .slice ao 0 dc, .int .i64 0] 25
 have b0 := below_trans (below_alloc w (.cells #[.int .i64 R, .int .i64 D, .int .i64 L, .int .i64 G, .bool gr, .int .i64 (sz : Int), .int .i64 (ex : Int), .int .i64 fam, .func (.func F) #[] #[]] 63)) bf
 rw [World.size_alloc] at m0
 have HS' : Hid _ := HS
 clear HS bf
 go_enter Tryz.func23, Tryz.ntmps23
 go_wp2_with fail
 refine (HS'.out _).mono ?_
 rintro z w1 ⟨rfl, b1⟩
 have bq := below_alloc w1 (.cells #[.bool sg0, .int .i64 (se : Int), .int .u64 (sf : Int)] 82)
 have l1 := (l0.later b1).later bq
 have m1 := (m0.later b1).later bq
 have q1 := locE_new w1 [.bool sg0, .int .i64 (se : Int), .int .u64 (sf : Int)] 82
 have b01 := below_trans (below_trans b0 b1) bq
 obtain ⟨x0, x1, x2, x3, x4, x5, x6, x7, x8⟩ := l1.cs9
 obtain ⟨u0, u1, u2, u3⟩ := m1.cs4
 obtain ⟨s0, s1, s2⟩ := q1.cs3
 have hlw : w.heap.size < w1.heap.size := (l0.later b1).lt
 clear l0 m0 b0 b1 bq HS'
 go_wp2_with fail
 refine (HG'.out _).mono ?_
 rintro z w2 ⟨rfl, b2⟩
 have l2 := l1.later b2
 have m2 := m1.later b2
 have q2 := q1.later b2
 have b02 := below_trans b01 b2
 clear l1 m1 q1 b01 b2 x0 x1 x2 x3 x4 x5 x6 x7 x8 u0 u1 u2 u3 s0 s1 s2
 obtain ⟨x0, x1, x2, x3, x4, x5, x6, x7, x8⟩ := l2.cs9
 obtain ⟨u0, u1, u2, u3⟩ := m2.cs4
 obtain ⟨s0, s1, s2⟩ := q2.cs3
 have k0 := q2.free 0
 have hne0 : w1.heap.size ≠ w.heap.size := Nat.ne_of_gt hlw
 have b03 := (but_set _ w1.heap.size 0 (.bool true)).below b02 (Nat.le_of_lt hlw)
 clear HW HG
 cases sg0
 all_goals go_wp2_with fail
 all_goals (refine (HW'.out _).mono ?_; rintro z w3 ⟨rfl, b3⟩; go_wp2; go_ret2; exact ⟨rfl, below_trans b03 b3⟩)
def othE (k c dn : Nat) (ng : Bool) (p : Int) : Int := if spcOk k c = false then 5 else if 0 < dn ∨ p ≠ 0 ∨ ng = true ∧ sgnOk k c = false then 4 else 0
def othS (k c dn : Nat) (ng : Bool) (p : Int) : ByteArray := if othE k c dn ng p = 0 then strOf (wrtB k (spcG k c || ng) (spcE k c) (spcF k c)) else ⟨#[]⟩
theorem spcE_small {k : Nat} (c : Nat) (hk : 1 ≤ k ∧ k ≤ 8) : spcE k c < 65536 := by
 have h : onesN k < 65536 := by rcases eight hk with rfl | rfl | rfl | rfl | rfl | rfl | rfl | rfl <;> decide
 unfold spcE
 split <;> omega
theorem spcF_small {k : Nat} (c : Nat) (hk : 1 ≤ k ∧ k ≤ 8) : spcF k c < 18446744073709551616 := by
 have h1 : wrN k < 2 ^ 64 := by rcases eight hk with rfl | rfl | rfl | rfl | rfl | rfl | rfl | rfl <;> decide
 have h2 : leadN k < 2 ^ 64 := by rcases eight hk with rfl | rfl | rfl | rfl | rfl | rfl | rfl | rfl <;> decide
 unfold spcF
 split
 ·split
  ·exact h1
  ·split
   ·exact Nat.or_lt_two_pow (n := 64) h1 (by omega)
   ·omega
 ·omega
theorem encodeOther_any (k c : Nat) (hk : 1 ≤ k ∧ k ≤ 8) (hc : c = 1 ∨ c = 3 ∨ c = 4 ∨ c = 5) (ng : Bool) (ao : Option Addr) (dn dc : Nat) (p : Int) (w : World) :
  Calls Tryz.prog 23 #[.agg (layV k).toArray, .agg #[.int .i64 (c : Int), .bool ng, .slice ao dn dc, .int .i64 p]] w fun z w' => z = .returned (.tuple #[.string (othS k c dn ng p), .int .i64 (othE k c dn ng p)]) ∧ Below w.heap.size w w' := by
 have HS := fun w1 => special_any k c hk hc w1
 have HG := fun w1 => signed_any k c hk hc w1
 have HW := fun w1 => cwrite_any k hk (spcG k c || ng) (spcE k c) (spcF k c) w1 (spcE_small c hk) (spcF_small c hk)
 have key : ∀ er, othE k c dn ng p = er → othS k c dn ng p = if er = 0 then strOf (wrtB k (spcG k c || ng) (spcE k c) (spcF k c)) else ⟨#[]⟩ := fun er h => by unfold othS; rw [h]
 by_cases hok : spcOk k c = false
 ·have hE : othE k c dn ng p = 5 := by unfold othE; rw [if_pos hok]
  rw [key 5 hE, hE, if_neg (by omega)]
  rw [hok] at HS
  generalize spcG k c = sg0 at *
  generalize spcE k c = se at *
  generalize spcF k c = sf at *
  clear HG HW key hE hok
  rcases eight hk with rfl | rfl | rfl | rfl | rfl | rfl | rfl | rfl
  all_goals exact other_none _ _ _ _ _ _ _ _ _ _ p ng ao dn dc sg0 se sf w HS
 ·have hok' : spcOk k c = true := by simpa using hok
  rw [hok'] at HS
  by_cases h1 : 0 < dn
  ·have hE : othE k c dn ng p = 4 := by unfold othE; rw [if_neg hok, if_pos (.inl h1)]
   rw [key 4 hE, hE, if_neg (by omega)]
   generalize spcG k c = sg0 at *
   generalize spcE k c = se at *
   generalize spcF k c = sf at *
   clear HG HW key hE hok hok'
   rcases eight hk with rfl | rfl | rfl | rfl | rfl | rfl | rfl | rfl
   all_goals exact other_digits _ _ _ _ _ _ _ _ _ _ p ng ao dn dc sg0 se sf w HS h1
  ·have hd : dn = 0 := by omega
   by_cases h2 : p = 0
   ·by_cases h3 : ng = true ∧ sgnOk k c = false
    ·have hE : othE k c dn ng p = 4 := by unfold othE; rw [if_neg hok, if_pos (.inr (.inr h3))]
     rw [key 4 hE, hE, if_neg (by omega)]
     rw [h3.2] at HG
     have hng := h3.1
     generalize spcG k c = sg0 at *
     generalize spcE k c = se at *
     generalize spcF k c = sf at *
     clear HW key hE hok hok' h3
     rcases eight hk with rfl | rfl | rfl | rfl | rfl | rfl | rfl | rfl
     all_goals exact other_sign _ _ _ _ _ _ _ _ _ _ p ng ao dn dc sg0 se sf w HS HG hd h2 hng
    ·have hE : othE k c dn ng p = 0 := by
      unfold othE
      rw [if_neg hok, if_neg]
      rintro (h | h | h)
      ·exact h1 h
      ·exact h h2
      ·exact h3 h
     rw [key 0 hE, hE, if_pos rfl]
     have hsg : ng = true → sgnOk k c = true := fun h => by
      cases hs : sgnOk k c
      ·exact absurd ⟨h, hs⟩ h3
      ·rfl
     generalize strOf (wrtB k (spcG k c || ng) (spcE k c) (spcF k c)) = st at *
     generalize spcG k c = sg0 at *
     generalize spcE k c = se at *
     generalize spcF k c = sf at *
     clear key hE hok hok' h3
     cases ng
     ·rcases eight hk with rfl | rfl | rfl | rfl | rfl | rfl | rfl | rfl
      all_goals exact other_ok0 _ _ _ _ _ _ _ _ _ _ p false ao dn dc sg0 se sf w HS st HW hd h2 rfl
     ·rw [hsg rfl] at HG
      rcases eight hk with rfl | rfl | rfl | rfl | rfl | rfl | rfl | rfl
      all_goals exact other_ok1 _ _ _ _ _ _ _ _ _ _ p true ao dn dc sg0 se sf w HS HG st HW hd h2 rfl
   ·have hE : othE k c dn ng p = 4 := by unfold othE; rw [if_neg hok, if_pos (.inr (.inl h2))]
    rw [key 4 hE, hE, if_neg (by omega)]
    generalize spcG k c = sg0 at *
    generalize spcE k c = se at *
    generalize spcF k c = sf at *
    clear HG HW key hE hok hok'
    rcases eight hk with rfl | rfl | rfl | rfl | rfl | rfl | rfl | rfl
    all_goals exact other_power _ _ _ _ _ _ _ _ _ _ p ng ao dn dc sg0 se sf w HS hd h2
end Go.Proofs.YtiiphandhpilgaaGreatDoor
namespace Go.Proofs.YtiiphandhpilgaaGreatDoor
open Go.RowKit
def shortT (t : Trip) : Trip × Int :=
 if 1200 < (Dg.dg 4294967296 (bare t).n).length then (⟨false, 0, 0⟩, 2) else if (bare t).e < -20000 ∨ 20000 < (bare t).e then (⟨false, 0, 0⟩, 3) else (bare t, 0)
def DAns (w : World) (r : Trip × Int) (e : Ending) (w' : World) : Prop :=
 ∃ s, e = .returned (.tuple #[.agg #[.bool r.1.s, s, .int .i64 r.1.e], .int .i64 r.2]) ∧ Own w' w.heap.size 79 .u32 s (Dg.dg 4294967296 r.1.n) ∧ Below w.heap.size w w'
theorem Loc.apart {w : World} {b c : Nat} {v0 v1 v2 : Value} (h : Loc w b v0 v1 v2) (hne : c ≠ b) (x0 x1 x2 : Value) :
  Loc (((w.setCell ⟨c, 0, none⟩ x0).setCell ⟨c, 1, none⟩ x1).setCell ⟨c, 2, none⟩ x2) b v0 v1 v2 := by
 obtain ⟨hl, ⟨c0, c1, c2⟩, f0, f1, f2⟩ := h
 refine ⟨by simpa using hl, ⟨?_, ?_, ?_⟩, by simpa using f0, by simpa using f1, by simpa using f2⟩
 ·rw [World.cell?_setCell_other (h := by simp), World.cell?_setCell_other (h := by simp), World.cell?_setCell_other (h := by simp)]; exact c0
 ·rw [World.cell?_setCell_other (h := by simp), World.cell?_setCell_other (h := by simp), World.cell?_setCell_other (h := by simp)]; exact c1
 ·rw [World.cell?_setCell_other (h := by simp), World.cell?_setCell_other (h := by simp), World.cell?_setCell_other (h := by simp)]; exact c2
theorem below_set3 {B b : Nat} {w w1 : World} (h : Below B w w1) (hb : B ≤ b) (x0 x1 x2 : Value) : Below B w (((w1.setCell ⟨b, 0, none⟩ x0).setCell ⟨b, 1, none⟩ x1).setCell ⟨b, 2, none⟩ x2) :=
 ((h.setCell (p := ⟨b, 0, none⟩) hb x0).setCell (p := ⟨b, 1, none⟩) hb x1).setCell (p := ⟨b, 2, none⟩) hb x2
set_option maxHeartbeats 1600000 in
theorem dshort_any (v : Value) (t : Trip) (w : World) (hv : Dv w v t) (hL : (Dg.dg 4294967296 t.n).length ≤ 500000) (he : -1000000 ≤ t.e ∧ t.e ≤ 1000000) (hT : Tab w) (htz : tz t.n ≤ 1000000) :
  Calls Tryz.prog 73 #[v] w (DAns w (shortT t)) := by
 have HB : Hid (∀ w1, Below w.heap.size w w1 → Calls Tryz.prog 109 #[v] w1 (DRes w1 (bare t))) := fun w1 b1 => dbare_any v t w1 (hv.later b1) hL he (hT.later b1) htz
 obtain ⟨s0, rfl, hr⟩ := hv
 obtain ⟨ao, ca, rfl⟩ := hr.shape
 obtain ⟨ts, n, e⟩ := t
 simp only at hr hL he htz ⊢ HB
 obtain ⟨m, hm⟩ : ∃ m, (Dg.dg 4294967296 n).length = m := ⟨_, rfl⟩
 rw [hm] at HB ⊢
 obtain ⟨⟨bs, bn, be⟩, hbt⟩ : ∃ bt, bare ⟨ts, n, e⟩ = bt := ⟨_, rfl⟩
 unfold shortT
 rw [hbt] at HB ⊢
 simp only at HB ⊢
 clear hbt hm hr hL he htz hT
 have l1 := (loc_new w (.bool ts) (.slice ao m ca) (.int .i64 e) 108).later (below_alloc _ (.cells #[.bool false, .slice none 0 0, .int .i64 0] 87))
 have l2 := loc_new (w.alloc (.cells #[.bool ts, .slice ao m ca, .int .i64 e] 108)) (.bool false) (.slice none 0 0) (.int .i64 0) 87
 have bA := below_trans (below_alloc w (.cells #[.bool ts, .slice ao m ca, .int .i64 e] 108)) (below_alloc _ (.cells #[.bool false, .slice none 0 0, .int .i64 0] 87))
 rw [World.size_alloc] at l2
 by_cases h1 : 1200 < (Dg.dg 4294967296 bn).length
 ·rw [if_pos h1]
  go_enter Tryz.func73, Tryz.ntmps73
  go_wp2_with fail
  refine (HB.out _ bA).mono ?_
  rintro x w1 ⟨s, rfl, own1, b1⟩
  have l1 := l1.later b1
  have l2 := l2.later b1
  have b01 := below_trans bA b1
  rw [World.size_alloc, World.size_alloc] at own1
  obtain ⟨so, sc, hs⟩ := own1.rd.shape
  subst hs
  obtain ⟨hl1, ⟨c0, c1, c2⟩, f0, f1, f2⟩ := id l1
  obtain ⟨hl2, ⟨d0, d1, d2⟩, k0, k1, k2⟩ := id l2
  clear bA b1 HB
  go_wp2
  obtain ⟨-, ⟨g0, g1, g2⟩, -⟩ := loc_set (l2.apart (c := w.heap.size) (by omega) (.bool bs) (.slice so (Dg.dg 4294967296 bn).length sc) (.int .i64 be)) (.bool false) (.slice none 0 0) (.int .i64 0)
  have b2 := below_set3 (below_set3 b01 (Nat.le_refl _) (.bool bs) (.slice so (Dg.dg 4294967296 bn).length sc) (.int .i64 be)) (show w.heap.size ≤ w.heap.size + 1 by omega) (.bool false) (.slice none 0 0) (.int .i64 0)
  refine bodyPost_ret (v := .tuple #[.agg #[(.bool false), (.slice none 0 0), (.int .i64 0)], .int .i64 2]) (by simp [results, Tryz.results73, go_sem, g0, g1, g2]) rfl ?_
  exact ⟨_, rfl, own_nil _ _ _ _, b2⟩
 ·rw [if_neg h1]
  by_cases h2 : be < -20000
  ·rw [if_pos (Or.inl h2)]
   go_enter Tryz.func73, Tryz.ntmps73
   go_wp2_with fail
   refine (HB.out _ bA).mono ?_
   rintro x w1 ⟨s, rfl, own1, b1⟩
   have l1 := l1.later b1
   have l2 := l2.later b1
   have b01 := below_trans bA b1
   rw [World.size_alloc, World.size_alloc] at own1
   obtain ⟨so, sc, hs⟩ := own1.rd.shape
   subst hs
   obtain ⟨hl1, ⟨c0, c1, c2⟩, f0, f1, f2⟩ := id l1
   obtain ⟨hl2, ⟨d0, d1, d2⟩, k0, k1, k2⟩ := id l2
   clear bA b1 HB
   go_wp2
   obtain ⟨-, ⟨g0, g1, g2⟩, -⟩ := loc_set (l2.apart (c := w.heap.size) (by omega) (.bool bs) (.slice so (Dg.dg 4294967296 bn).length sc) (.int .i64 be)) (.bool false) (.slice none 0 0) (.int .i64 0)
   have b2 := below_set3 (below_set3 b01 (Nat.le_refl _) (.bool bs) (.slice so (Dg.dg 4294967296 bn).length sc) (.int .i64 be)) (show w.heap.size ≤ w.heap.size + 1 by omega) (.bool false) (.slice none 0 0) (.int .i64 0)
   refine bodyPost_ret (v := .tuple #[.agg #[(.bool false), (.slice none 0 0), (.int .i64 0)], .int .i64 3]) (by simp [results, Tryz.results73, go_sem, g0, g1, g2]) rfl ?_
   exact ⟨_, rfl, own_nil _ _ _ _, b2⟩
  ·by_cases h3 : 20000 < be
   ·rw [if_pos (Or.inr h3)]
    go_enter Tryz.func73, Tryz.ntmps73
    go_wp2_with fail
    refine (HB.out _ bA).mono ?_
    rintro x w1 ⟨s, rfl, own1, b1⟩
    have l1 := l1.later b1
    have l2 := l2.later b1
    have b01 := below_trans bA b1
    rw [World.size_alloc, World.size_alloc] at own1
    obtain ⟨so, sc, hs⟩ := own1.rd.shape
    subst hs
    obtain ⟨hl1, ⟨c0, c1, c2⟩, f0, f1, f2⟩ := id l1
    obtain ⟨hl2, ⟨d0, d1, d2⟩, k0, k1, k2⟩ := id l2
    clear bA b1 HB
    go_wp2
    obtain ⟨-, ⟨g0, g1, g2⟩, -⟩ := loc_set (l2.apart (c := w.heap.size) (by omega) (.bool bs) (.slice so (Dg.dg 4294967296 bn).length sc) (.int .i64 be)) (.bool false) (.slice none 0 0) (.int .i64 0)
    have b2 := below_set3 (below_set3 b01 (Nat.le_refl _) (.bool bs) (.slice so (Dg.dg 4294967296 bn).length sc) (.int .i64 be)) (show w.heap.size ≤ w.heap.size + 1 by omega) (.bool false) (.slice none 0 0) (.int .i64 0)
    refine bodyPost_ret (v := .tuple #[.agg #[(.bool false), (.slice none 0 0), (.int .i64 0)], .int .i64 3]) (by simp [results, Tryz.results73, go_sem, g0, g1, g2]) rfl ?_
    exact ⟨_, rfl, own_nil _ _ _ _, b2⟩
   ·rw [if_neg (by omega)]
    go_enter Tryz.func73, Tryz.ntmps73
    go_wp2_with fail
    refine (HB.out _ bA).mono ?_
    rintro x w1 ⟨s, rfl, own1, b1⟩
    have l1 := l1.later b1
    have l2 := l2.later b1
    have b01 := below_trans bA b1
    rw [World.size_alloc, World.size_alloc] at own1
    obtain ⟨so, sc, hs⟩ := own1.rd.shape
    subst hs
    obtain ⟨hl1, ⟨c0, c1, c2⟩, f0, f1, f2⟩ := id l1
    obtain ⟨hl2, ⟨d0, d1, d2⟩, k0, k1, k2⟩ := id l2
    clear bA b1 HB
    go_wp2
    obtain ⟨-, ⟨g0, g1, g2⟩, -⟩ := loc_set (l2.apart (c := w.heap.size) (by omega) (.bool bs) (.slice so (Dg.dg 4294967296 bn).length sc) (.int .i64 be)) (.bool bs) (.slice so (Dg.dg 4294967296 bn).length sc) (.int .i64 be)
    have own2 := (own1.apart3 (b := w.heap.size) (by omega) (.bool bs) (.slice so (Dg.dg 4294967296 bn).length sc) (.int .i64 be)).apart3 (b := w.heap.size + 1) (by omega) (.bool bs) (.slice so (Dg.dg 4294967296 bn).length sc) (.int .i64 be)
    have b2 := below_set3 (below_set3 b01 (Nat.le_refl _) (.bool bs) (.slice so (Dg.dg 4294967296 bn).length sc) (.int .i64 be)) (show w.heap.size ≤ w.heap.size + 1 by omega) (.bool bs) (.slice so (Dg.dg 4294967296 bn).length sc) (.int .i64 be)
    refine bodyPost_ret (v := .tuple #[.agg #[(.bool bs), (.slice so (Dg.dg 4294967296 bn).length sc), (.int .i64 be)], .int .i64 0]) (by simp [results, Tryz.results73, go_sem, g0, g1, g2]) rfl ?_
    exact ⟨_, rfl, own2.lower (by omega), b2⟩
end Go.Proofs.YtiiphandhpilgaaGreatDoor
namespace Go.Proofs.YtiiphandhpilgaaGreatDoor
open Go.RowKit
theorem shN_up (n : Nat) (i : Int) (h : 0 ≤ i) : shN n i = n * 2 ^ i.toNat := by
 unfold shN
 rw [if_neg (by omega)]
end Go.Proofs.YtiiphandhpilgaaGreatDoor
namespace Go.Proofs.YtiiphandhpilgaaGreatDoor
open Go.RowKit
set_option maxHeartbeats 3200000 in
theorem lnumber_W (R D L G fam : Int) (gr : Bool) (sz ex : Nat) (F : Nat) (c p : Int) (ng : Bool) (ao : Option Addr) (dn dc : Nat) (r : Trip × Int) (w : World)
  (HN : ∀ w1, Below w.heap.size w w1 → Calls Tryz.prog 68 #[.agg #[.bool ng, .slice ao dn dc, .int .i64 p, .bool false, .bool false, .bool false], .agg #[.int .i64 R, .int .i64 D, .int .i64 L, .int .i64 G, .bool gr]] w1 (DAns w1 r)) :
  Calls Tryz.prog 39 #[.agg #[.int .i64 R, .int .i64 D, .int .i64 L, .int .i64 G, .bool gr, .int .i64 (sz : Int), .int .i64 (ex : Int), .int .i64 fam, .func (.func F) #[] #[]], .agg #[.int .i64 c, .bool ng, .slice ao dn dc, .int .i64 p]] w (DAns w r) := by
 have hsf := hsf_z
 have HN' : Hid _ := HN
 have bl := below_alloc w (.cells #[.int .i64 R, .int .i64 D, .int .i64 L, .int .i64 G, .bool gr, .int .i64 (sz : Int), .int .i64 (ex : Int), .int .i64 fam, .func (.func F) #[] #[]] 63)
 have bv := below_alloc (w.alloc (.cells #[.int .i64 R, .int .i64 D, .int .i64 L, .int .i64 G, .bool gr, .int .i64 (sz : Int), .int .i64 (ex : Int), .int .i64 fam, .func (.func F) #[] #[]] 63)) (.cells #[.int .i64 c, .bool ng, .slice ao dn dc, .int .i64 p] 25)
 have bd := below_alloc ((w.alloc (.cells #[.int .i64 R, .int .i64 D, .int .i64 L, .int .i64 G, .bool gr, .int .i64 (sz : Int), .int .i64 (ex : Int), .int .i64 fam, .func (.func F) #[] #[]] 63)).alloc (.cells #[.int .i64 c, .bool ng, .slice ao dn dc, .int .i64 p] 25)) (.cells #[.bool false, .slice none 0 0, .int .i64 0] 87)
 have d0 := locE_new ((w.alloc (.cells #[.int .i64 R, .int .i64 D, .int .i64 L, .int .i64 G, .bool gr, .int .i64 (sz : Int), .int .i64 (ex : Int), .int .i64 fam, .func (.func F) #[] #[]] 63)).alloc (.cells #[.int .i64 c, .bool ng, .slice ao dn dc, .int .i64 p] 25)) [.bool false, .slice none 0 0, .int .i64 0] 87
 have b0 := below_trans (below_trans bl bv) bd
 rw [World.size_alloc, World.size_alloc] at d0
 clear HN bl bv bd
 go_enter Tryz.func39, Tryz.ntmps39
 go_wp2_with fail
 refine (HN'.out _ b0).mono ?_
 rintro z w1 ⟨s1, rfl, own1, b1⟩
 obtain ⟨so, sc, hs1⟩ := own1.rd.shape
 subst hs1
 have d1 := d0.later b1
 have b01 := below_trans b0 b1
 have bu := ((but_set w1 (w.heap.size + 1 + 1) 0 (.bool r.1.s)).trans (but_set _ (w.heap.size + 1 + 1) 1 (.slice so (Dg.dg 4294967296 r.1.n).length sc))).trans (but_set _ (w.heap.size + 1 + 1) 2 (.int .i64 r.1.e))
 have cR : LocE (((w1.setCell ⟨w.heap.size + 1 + 1, 0, none⟩ (.bool r.1.s)).setCell ⟨w.heap.size + 1 + 1, 1, none⟩ (.slice so (Dg.dg 4294967296 r.1.n).length sc)).setCell ⟨w.heap.size + 1 + 1, 2, none⟩ (.int .i64 r.1.e)) (w.heap.size + 1 + 1) 87 [.bool r.1.s, .slice so (Dg.dg 4294967296 r.1.n).length sc, .int .i64 r.1.e] := (((d1.set 0 (.bool r.1.s)).set 1 (.slice so (Dg.dg 4294967296 r.1.n).length sc)).set 2 (.int .i64 r.1.e))
 have oR := (bu.own own1 d1 (by decide)).lower b0.size
 have bR := bu.below b01 (by omega)
 have hl := run_loadVar_mid (P := Tryz.prog) _ (w.heap.size + 1 + 1) 0 87 [.bool r.1.s, .slice so (Dg.dg 4294967296 r.1.n).length sc, .int .i64 r.1.e] _ cR.range Tryz.underlying87 rfl (by kernel_rfl)
 have HH : Hid (_ ∧ _ ∧ _) := ⟨hl, oR, bR⟩
 obtain ⟨x0, x1, x2⟩ := d1.cs3; have j0 := d1.free 0; have j1 := d1.free 1; have j2 := d1.free 2
 clear hl oR bR cR bu d1 d0 b01 b1 own1 b0
 go_wp2
 obtain ⟨hl, oR, bR⟩ := HH.out
 exact bodyPost_ret (results_two Tryz.results39 rfl rfl hl) rfl ⟨_, rfl, oR, bR⟩
end Go.Proofs.YtiiphandhpilgaaGreatDoor
namespace Go.Proofs.YtiiphandhpilgaaGreatDoor
open Go.RowKit
theorem word_digits (x : Nat) : Dg.vl 4294967296 [x % 4294967296, x / 4294967296] = x := by
 simp only [Dg.vl]
 omega
set_option maxHeartbeats 1600000 in
theorem fromWord_any (x : Nat) (hx : x < 18446744073709551616) (w : World) :
  Calls Tryz.prog 67 #[.int .u64 (x : Int)] w fun z w' => ∃ v, z = .returned v ∧ Own w' w.heap.size 79 .u32 v (Dg.dg 4294967296 x) ∧ Below w.heap.size w w' := by
 have hlo : (x : Int) % 4294967296 = ((x % 4294967296 : Nat) : Int) := by omega
 have hhi : (x : Int) / 4294967296 = ((x / 4294967296 : Nat) : Int) := by omega
 have hx2 : x / 4294967296 < 4294967296 := by omega
 have hx1 : x % 4294967296 < 4294967296 := Nat.mod_lt _ (by omega)
 have hd := word_digits x
 obtain ⟨lo, elo⟩ : ∃ n, x % 4294967296 = n := ⟨_, rfl⟩
 obtain ⟨hi, ehi⟩ : ∃ n, x / 4294967296 = n := ⟨_, rfl⟩
 rw [elo] at hlo hd hx1
 rw [ehi] at hhi hd hx2
 have own : Own (w.alloc (.cells #[.int .u32 (lo : Int), .int .u32 (hi : Int)] 79)) w.heap.size 79 .u32 (.slice (some ⟨w.heap.size, 0, none⟩) 2 2) [lo, hi] :=
  own_of_heap (zs := [lo, hi]) (heap_alloc_new _ _) (Nat.le_refl _) (by unfold maxLen; simp)
 have htr := trim_any (some ⟨w.heap.size, 0, none⟩) 2 2 [lo, hi] _ own.rd
 have hsm : Dg.Small 4294967296 [lo, hi] := by
  intro i
  match i with
  | 0 => exact hx1
  | 1 => exact hx2
  | i + 2 => simp
 have b0 := below_alloc w (.cells #[.int .u32 (lo : Int), .int .u32 (hi : Int)] 79)
 have HH : Hid (_ ∧ _) := ⟨hd, hsm⟩
 have hxI : (x : Int) < 18446744073709551616 := by omega
 clear elo ehi hd hsm
 go_enter Tryz.func67, Tryz.ntmps67
 go_wp2_with fail
 refine htr.mono ?_
 rintro z w1 ⟨n, rfl, ht, rfl⟩
 go_wp2
 go_ret
 obtain ⟨hd, hsm⟩ := HH.out
 refine ⟨_, rfl, ?_, b0⟩
 have := Dg.trim_eq 4294967296 (by omega) [lo, hi] n hsm ht.1 ht.2.1 ht.2.2
 rw [hd] at this
 rw [← this]
 exact own.take n ht.1
end Go.Proofs.YtiiphandhpilgaaGreatDoor

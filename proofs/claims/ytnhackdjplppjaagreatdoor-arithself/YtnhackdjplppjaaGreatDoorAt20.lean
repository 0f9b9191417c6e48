/-
  Texts laid together: Co21, Ce1.
-/
import Derived.Test.YtnhackdjplppjaaGreatDoorAt18
import Derived.Test.YtnhackdjplppjaaGreatDoorAt19
set_option maxRecDepth 100000
namespace Go.Proofs.YtnhackdjplppjaaGreatDoor
open Go.RowKit
set_option maxHeartbeats 3200000 in
theorem other_none (R D L G fam : Int) (gr : Bool) (sz ex : Nat) (F : Nat) (c p : Int) (ng : Bool) (ao : Option Addr) (dn dc : Nat) (sg0 : Bool) (se sf : Nat) (w : World)
  (HS : ∀ w1, Calls Tryz.prog 156 #[.agg #[.int .i64 R, .int .i64 D, .int .i64 L, .int .i64 G, .bool gr, .int .i64 (sz : Int), .int .i64 (ex : Int), .int .i64 fam, .func (.func F) #[] #[]], .int .i64 c] w1 fun z w' => z = .returned (.tuple #[.agg #[.bool sg0, .int .i64 (se : Int), .int .u64 (sf : Int)], .bool false]) ∧ Below w1.heap.size w1 w')  :
  Calls Tryz.prog 100 #[.agg #[.int .i64 R, .int .i64 D, .int .i64 L, .int .i64 G, .bool gr, .int .i64 (sz : Int), .int .i64 (ex : Int), .int .i64 fam, .func (.func F) #[] #[]], .agg #[.int .i64 c, .bool ng, .slice ao dn dc, .int .i64 p]] w fun z w' => z = .returned (.tuple #[.string ⟨#[]⟩, .int .i64 5]) ∧ Below w.heap.size w w' := by
 have hsf := hsf_z
 have bf := below_alloc (w.alloc (.cells #[.int .i64 R, .int .i64 D, .int .i64 L, .int .i64 G, .bool gr, .int .i64 (sz : Int), .int .i64 (ex : Int), .int .i64 fam, .func (.func F) #[] #[]] 144)) (.cells #[.int .i64 c, .bool ng, .slice ao dn dc, .int .i64 p] 73)
 have l0 := (locE_new w [.int .i64 R, .int .i64 D, .int .i64 L, .int .i64 G, .bool gr, .int .i64 (sz : Int), .int .i64 (ex : Int), .int .i64 fam, .func (.func F) #[] #[]] 144).later bf
 have m0 := locE_new (w.alloc (.cells #[.int .i64 R, .int .i64 D, .int .i64 L, .int .i64 G, .bool gr, .int .i64 (sz : Int), .int .i64 (ex : Int), .int .i64 fam, .func (.func F) #[] #[]] 144)) [.int .i64 c, .bool ng, .slice ao dn dc, .int .i64 p] 73
 have b0 := below_trans (below_alloc w (.cells #[.int .i64 R, .int .i64 D, .int .i64 L, .int .i64 G, .bool gr, .int .i64 (sz : Int), .int .i64 (ex : Int), .int .i64 fam, .func (.func F) #[] #[]] 144)) bf
 rw [World.size_alloc] at m0
 have HS' : Hid _ := HS
 clear HS bf
 go_enter Tryz.func100, Tryz.ntmps100
 go_wp2_with fail
 refine (HS'.out _).mono ?_
 rintro z w1 ⟨rfl, b1⟩
 have bq := below_alloc w1 (.cells #[.bool sg0, .int .i64 (se : Int), .int .u64 (sf : Int)] 147)
 have l1 := (l0.later b1).later bq
 have m1 := (m0.later b1).later bq
 have q1 := locE_new w1 [.bool sg0, .int .i64 (se : Int), .int .u64 (sf : Int)] 147
 have b01 := below_trans (below_trans b0 b1) bq
 obtain ⟨x0, x1, x2, x3, x4, x5, x6, x7, x8⟩ := l1.cs9
 obtain ⟨u0, u1, u2, u3⟩ := m1.cs4
 obtain ⟨s0, s1, s2⟩ := q1.cs3
 clear l0 m0 b0 b1 bq HS'
 go_wp2
 go_ret2
 exact ⟨rfl, b01⟩
set_option maxHeartbeats 3200000 in
theorem other_digits (R D L G fam : Int) (gr : Bool) (sz ex : Nat) (F : Nat) (c p : Int) (ng : Bool) (ao : Option Addr) (dn dc : Nat) (sg0 : Bool) (se sf : Nat) (w : World)
  (HS : ∀ w1, Calls Tryz.prog 156 #[.agg #[.int .i64 R, .int .i64 D, .int .i64 L, .int .i64 G, .bool gr, .int .i64 (sz : Int), .int .i64 (ex : Int), .int .i64 fam, .func (.func F) #[] #[]], .int .i64 c] w1 fun z w' => z = .returned (.tuple #[.agg #[.bool sg0, .int .i64 (se : Int), .int .u64 (sf : Int)], .bool true]) ∧ Below w1.heap.size w1 w') (hd : 0 < dn) :
  Calls Tryz.prog 100 #[.agg #[.int .i64 R, .int .i64 D, .int .i64 L, .int .i64 G, .bool gr, .int .i64 (sz : Int), .int .i64 (ex : Int), .int .i64 fam, .func (.func F) #[] #[]], .agg #[.int .i64 c, .bool ng, .slice ao dn dc, .int .i64 p]] w fun z w' => z = .returned (.tuple #[.string ⟨#[]⟩, .int .i64 4]) ∧ Below w.heap.size w w' := by
 have hdI : (0 : Int) < (dn : Int) := by omega
 have hsf := hsf_z
 have bf := below_alloc (w.alloc (.cells #[.int .i64 R, .int .i64 D, .int .i64 L, .int .i64 G, .bool gr, .int .i64 (sz : Int), .int .i64 (ex : Int), .int .i64 fam, .func (.func F) #[] #[]] 144)) (.cells #[.int .i64 c, .bool ng, .slice ao dn dc, .int .i64 p] 73)
 have l0 := (locE_new w [.int .i64 R, .int .i64 D, .int .i64 L, .int .i64 G, .bool gr, .int .i64 (sz : Int), .int .i64 (ex : Int), .int .i64 fam, .func (.func F) #[] #[]] 144).later bf
 have m0 := locE_new (w.alloc (.cells #[.int .i64 R, .int .i64 D, .int .i64 L, .int .i64 G, .bool gr, .int .i64 (sz : Int), .int .i64 (ex : Int), .int .i64 fam, .func (.func F) #[] #[]] 144)) [.int .i64 c, .bool ng, .slice ao dn dc, .int .i64 p] 73
 have b0 := below_trans (below_alloc w (.cells #[.int .i64 R, .int .i64 D, .int .i64 L, .int .i64 G, .bool gr, .int .i64 (sz : Int), .int .i64 (ex : Int), .int .i64 fam, .func (.func F) #[] #[]] 144)) bf
 rw [World.size_alloc] at m0
 have HS' : Hid _ := HS
 clear HS bf
 go_enter Tryz.func100, Tryz.ntmps100
 go_wp2_with fail
 refine (HS'.out _).mono ?_
 rintro z w1 ⟨rfl, b1⟩
 have bq := below_alloc w1 (.cells #[.bool sg0, .int .i64 (se : Int), .int .u64 (sf : Int)] 147)
 have l1 := (l0.later b1).later bq
 have m1 := (m0.later b1).later bq
 have q1 := locE_new w1 [.bool sg0, .int .i64 (se : Int), .int .u64 (sf : Int)] 147
 have b01 := below_trans (below_trans b0 b1) bq
 obtain ⟨x0, x1, x2, x3, x4, x5, x6, x7, x8⟩ := l1.cs9
 obtain ⟨u0, u1, u2, u3⟩ := m1.cs4
 obtain ⟨s0, s1, s2⟩ := q1.cs3
 clear l0 m0 b0 b1 bq HS'
 go_wp2
 go_ret2
 exact ⟨rfl, b01⟩
set_option maxHeartbeats 3200000 in
theorem other_power (R D L G fam : Int) (gr : Bool) (sz ex : Nat) (F : Nat) (c p : Int) (ng : Bool) (ao : Option Addr) (dn dc : Nat) (sg0 : Bool) (se sf : Nat) (w : World)
  (HS : ∀ w1, Calls Tryz.prog 156 #[.agg #[.int .i64 R, .int .i64 D, .int .i64 L, .int .i64 G, .bool gr, .int .i64 (sz : Int), .int .i64 (ex : Int), .int .i64 fam, .func (.func F) #[] #[]], .int .i64 c] w1 fun z w' => z = .returned (.tuple #[.agg #[.bool sg0, .int .i64 (se : Int), .int .u64 (sf : Int)], .bool true]) ∧ Below w1.heap.size w1 w') (hd : dn = 0) (hp : p ≠ 0) :
  Calls Tryz.prog 100 #[.agg #[.int .i64 R, .int .i64 D, .int .i64 L, .int .i64 G, .bool gr, .int .i64 (sz : Int), .int .i64 (ex : Int), .int .i64 fam, .func (.func F) #[] #[]], .agg #[.int .i64 c, .bool ng, .slice ao dn dc, .int .i64 p]] w fun z w' => z = .returned (.tuple #[.string ⟨#[]⟩, .int .i64 4]) ∧ Below w.heap.size w w' := by
 subst hd
 have hpb : (p == 0) = false := by simpa using hp
 have hsf := hsf_z
 have bf := below_alloc (w.alloc (.cells #[.int .i64 R, .int .i64 D, .int .i64 L, .int .i64 G, .bool gr, .int .i64 (sz : Int), .int .i64 (ex : Int), .int .i64 fam, .func (.func F) #[] #[]] 144)) (.cells #[.int .i64 c, .bool ng, .slice ao 0 dc, .int .i64 p] 73)
 have l0 := (locE_new w [.int .i64 R, .int .i64 D, .int .i64 L, .int .i64 G, .bool gr, .int .i64 (sz : Int), .int .i64 (ex : Int), .int .i64 fam, .func (.func F) #[] #[]] 144).later bf
 have m0 := locE_new (w.alloc (.cells #[.int .i64 R, .int .i64 D, .int .i64 L, .int .i64 G, .bool gr, .int .i64 (sz : Int), .int .i64 (ex : Int), .int .i64 fam, .func (.func F) #[] #[]] 144)) [.int .i64 c, .bool ng, .slice ao 0 dc, .int .i64 p] 73
 have b0 := below_trans (below_alloc w (.cells #[.int .i64 R, .int .i64 D, .int .i64 L, .int .i64 G, .bool gr, .int .i64 (sz : Int), .int .i64 (ex : Int), .int .i64 fam, .func (.func F) #[] #[]] 144)) bf
 rw [World.size_alloc] at m0
 have HS' : Hid _ := HS
 clear HS bf
 go_enter Tryz.func100, Tryz.ntmps100
 go_wp2_with fail
 refine (HS'.out _).mono ?_
 rintro z w1 ⟨rfl, b1⟩
 have bq := below_alloc w1 (.cells #[.bool sg0, .int .i64 (se : Int), .int .u64 (sf : Int)] 147)
 have l1 := (l0.later b1).later bq
 have m1 := (m0.later b1).later bq
 have q1 := locE_new w1 [.bool sg0, .int .i64 (se : Int), .int .u64 (sf : Int)] 147
 have b01 := below_trans (below_trans b0 b1) bq
 obtain ⟨x0, x1, x2, x3, x4, x5, x6, x7, x8⟩ := l1.cs9
 obtain ⟨u0, u1, u2, u3⟩ := m1.cs4
 obtain ⟨s0, s1, s2⟩ := q1.cs3
 clear l0 m0 b0 b1 bq HS'
 go_wp2
 go_ret2
 exact ⟨rfl, b01⟩
set_option maxHeartbeats 3200000 in
theorem other_sign (R D L G fam : Int) (gr : Bool) (sz ex : Nat) (F : Nat) (c p : Int) (ng : Bool) (ao : Option Addr) (dn dc : Nat) (sg0 : Bool) (se sf : Nat) (w : World)
  (HS : ∀ w1, Calls Tryz.prog 156 #[.agg #[.int .i64 R, .int .i64 D, .int .i64 L, .int .i64 G, .bool gr, .int .i64 (sz : Int), .int .i64 (ex : Int), .int .i64 fam, .func (.func F) #[] #[]], .int .i64 c] w1 fun z w' => z = .returned (.tuple #[.agg #[.bool sg0, .int .i64 (se : Int), .int .u64 (sf : Int)], .bool true]) ∧ Below w1.heap.size w1 w')
  (HG : ∀ w1, Calls Tryz.prog 157 #[.agg #[.int .i64 R, .int .i64 D, .int .i64 L, .int .i64 G, .bool gr, .int .i64 (sz : Int), .int .i64 (ex : Int), .int .i64 fam, .func (.func F) #[] #[]], .int .i64 c] w1 fun z w' => z = .returned (.bool false) ∧ Below w1.heap.size w1 w') (hd : dn = 0) (hp : p = 0) (hn : ng = true) :
  Calls Tryz.prog 100 #[.agg #[.int .i64 R, .int .i64 D, .int .i64 L, .int .i64 G, .bool gr, .int .i64 (sz : Int), .int .i64 (ex : Int), .int .i64 fam, .func (.func F) #[] #[]], .agg #[.int .i64 c, .bool ng, .slice ao dn dc, .int .i64 p]] w fun z w' => z = .returned (.tuple #[.string ⟨#[]⟩, .int .i64 4]) ∧ Below w.heap.size w w' := by
 subst hd hp hn
 have HG' : Hid _ := HG
 have hsf := hsf_z
 have bf := below_alloc (w.alloc (.cells #[.int .i64 R, .int .i64 D, .int .i64 L, .int .i64 G, .bool gr, .int .i64 (sz : Int), .int .i64 (ex : Int), .int .i64 fam, .func (.func F) #[] #[]] 144)) (.cells #[.int .i64 c, .bool true, .slice ao 0 dc, .int .i64 0] 73)
 have l0 := (locE_new w [.int .i64 R, .int .i64 D, .int .i64 L, .int .i64 G, .bool gr, .int .i64 (sz : Int), .int .i64 (ex : Int), .int .i64 fam, .func (.func F) #[] #[]] 144).later bf
 have m0 := locE_new (w.alloc (.cells #[.int .i64 R, .int .i64 D, .int .i64 L, .int .i64 G, .bool gr, .int .i64 (sz : Int), .int .i64 (ex : Int), .int .i64 fam, .func (.func F) #[] #[]] 144)) [.int .i64 c, .bool true, .slice ao 0 dc, .int .i64 0] 73
 have b0 := below_trans (below_alloc w (.cells #[.int .i64 R, .int .i64 D, .int .i64 L, .int .i64 G, .bool gr, .int .i64 (sz : Int), .int .i64 (ex : Int), .int .i64 fam, .func (.func F) #[] #[]] 144)) bf
 rw [World.size_alloc] at m0
 have HS' : Hid _ := HS
 clear HS bf
 go_enter Tryz.func100, Tryz.ntmps100
 go_wp2_with fail
 refine (HS'.out _).mono ?_
 rintro z w1 ⟨rfl, b1⟩
 have bq := below_alloc w1 (.cells #[.bool sg0, .int .i64 (se : Int), .int .u64 (sf : Int)] 147)
 have l1 := (l0.later b1).later bq
 have m1 := (m0.later b1).later bq
 have q1 := locE_new w1 [.bool sg0, .int .i64 (se : Int), .int .u64 (sf : Int)] 147
 have b01 := below_trans (below_trans b0 b1) bq
 obtain ⟨x0, x1, x2, x3, x4, x5, x6, x7, x8⟩ := l1.cs9
 obtain ⟨u0, u1, u2, u3⟩ := m1.cs4
 obtain ⟨s0, s1, s2⟩ := q1.cs3
 clear l0 m0 b0 b1 bq HS'
 go_wp2_with fail
 refine (HG'.out _).mono ?_
 rintro z w2 ⟨rfl, b2⟩
 have l2 := l1.later b2
 have m2 := m1.later b2
 have q2 := q1.later b2
 have b02 := below_trans b01 b2
 clear l1 m1 q1 b01 b2 x0 x1 x2 x3 x4 x5 x6 x7 x8 u0 u1 u2 u3 s0 s1 s2
 obtain ⟨x0, x1, x2, x3, x4, x5, x6, x7, x8⟩ := l2.cs9
 obtain ⟨u0, u1, u2, u3⟩ := m2.cs4
 obtain ⟨s0, s1, s2⟩ := q2.cs3
 go_wp2
 go_ret2
 exact ⟨rfl, b02⟩
set_option maxHeartbeats 3200000 in
theorem other_ok0 (R D L G fam : Int) (gr : Bool) (sz ex : Nat) (F : Nat) (c p : Int) (ng : Bool) (ao : Option Addr) (dn dc : Nat) (sg0 : Bool) (se sf : Nat) (w : World)
  (HS : ∀ w1, Calls Tryz.prog 156 #[.agg #[.int .i64 R, .int .i64 D, .int .i64 L, .int .i64 G, .bool gr, .int .i64 (sz : Int), .int .i64 (ex : Int), .int .i64 fam, .func (.func F) #[] #[]], .int .i64 c] w1 fun z w' => z = .returned (.tuple #[.agg #[.bool sg0, .int .i64 (se : Int), .int .u64 (sf : Int)], .bool true]) ∧ Below w1.heap.size w1 w')
  (st : ByteArray) (HW : ∀ w1, Calls Tryz.prog 158 #[.agg #[.int .i64 R, .int .i64 D, .int .i64 L, .int .i64 G, .bool gr, .int .i64 (sz : Int), .int .i64 (ex : Int), .int .i64 fam, .func (.func F) #[] #[]], .agg #[.bool (sg0 || ng), .int .i64 (se : Int), .int .u64 (sf : Int)]] w1 fun z w' => z = .returned (.string st) ∧ Below w1.heap.size w1 w') (hd : dn = 0) (hp : p = 0) (hn : ng = false) :
  Calls Tryz.prog 100 #[.agg #[.int .i64 R, .int .i64 D, .int .i64 L, .int .i64 G, .bool gr, .int .i64 (sz : Int), .int .i64 (ex : Int), .int .i64 fam, .func (.func F) #[] #[]], .agg #[.int .i64 c, .bool ng, .slice ao dn dc, .int .i64 p]] w fun z w' => z = .returned (.tuple #[.string st, .int .i64 0]) ∧ Below w.heap.size w w' := by
 subst hd hp hn
 have HW' : Hid _ := HW
 have hsf := hsf_z
 have bf := below_alloc (w.alloc (.cells #[.int .i64 R, .int .i64 D, .int .i64 L, .int .i64 G, .bool gr, .int .i64 (sz : Int), .int .i64 (ex : Int), .int .i64 fam, .func (.func F) #[] #[]] 144)) (.cells #[.int .i64 c, .bool false, .slice ao 0 dc, .int .i64 0] 73)
 have l0 := (locE_new w [.int .i64 R, .int .i64 D, .int .i64 L, .int .i64 G, .bool gr, .int .i64 (sz : Int), .int .i64 (ex : Int), .int .i64 fam, .func (.func F) #[] #[]] 144).later bf
 have m0 := locE_new (w.alloc (.cells #[.int .i64 R, .int .i64 D, .int .i64 L, .int .i64 G, .bool gr, .int .i64 (sz : Int), .int .i64 (ex : Int), .int .i64 fam, .func (.func F) #[] #[]] 144)) [.int .i64 c, .bool false, .slice ao 0 dc, .int .i64 0] 73
 have b0 := below_trans (below_alloc w (.cells #[.int .i64 R, .int .i64 D, .int .i64 L, .int .i64 G, .bool gr, .int .i64 (sz : Int), .int .i64 (ex : Int), .int .i64 fam, .func (.func F) #[] #[]] 144)) bf
 rw [World.size_alloc] at m0
 have HS' : Hid _ := HS
 clear HS bf
 go_enter Tryz.func100, Tryz.ntmps100
 go_wp2_with fail
 refine (HS'.out _).mono ?_
 rintro z w1 ⟨rfl, b1⟩
 have bq := below_alloc w1 (.cells #[.bool sg0, .int .i64 (se : Int), .int .u64 (sf : Int)] 147)
 have l1 := (l0.later b1).later bq
 have m1 := (m0.later b1).later bq
 have q1 := locE_new w1 [.bool sg0, .int .i64 (se : Int), .int .u64 (sf : Int)] 147
 have b01 := below_trans (below_trans b0 b1) bq
 obtain ⟨x0, x1, x2, x3, x4, x5, x6, x7, x8⟩ := l1.cs9
 obtain ⟨u0, u1, u2, u3⟩ := m1.cs4
 obtain ⟨s0, s1, s2⟩ := q1.cs3
 clear l0 m0 b0 b1 bq HS'
 clear HW
 cases sg0
 all_goals go_wp2_with fail
 all_goals (refine (HW'.out _).mono ?_; rintro z w3 ⟨rfl, b3⟩; go_wp2; go_ret2; exact ⟨rfl, below_trans b01 b3⟩)
set_option maxHeartbeats 3200000 in
theorem other_ok1 (R D L G fam : Int) (gr : Bool) (sz ex : Nat) (F : Nat) (c p : Int) (ng : Bool) (ao : Option Addr) (dn dc : Nat) (sg0 : Bool) (se sf : Nat) (w : World)
  (HS : ∀ w1, Calls Tryz.prog 156 #[.agg #[.int .i64 R, .int .i64 D, .int .i64 L, .int .i64 G, .bool gr, .int .i64 (sz : Int), .int .i64 (ex : Int), .int .i64 fam, .func (.func F) #[] #[]], .int .i64 c] w1 fun z w' => z = .returned (.tuple #[.agg #[.bool sg0, .int .i64 (se : Int), .int .u64 (sf : Int)], .bool true]) ∧ Below w1.heap.size w1 w')
  (HG : ∀ w1, Calls Tryz.prog 157 #[.agg #[.int .i64 R, .int .i64 D, .int .i64 L, .int .i64 G, .bool gr, .int .i64 (sz : Int), .int .i64 (ex : Int), .int .i64 fam, .func (.func F) #[] #[]], .int .i64 c] w1 fun z w' => z = .returned (.bool true) ∧ Below w1.heap.size w1 w')
  (st : ByteArray) (HW : ∀ w1, Calls Tryz.prog 158 #[.agg #[.int .i64 R, .int .i64 D, .int .i64 L, .int .i64 G, .bool gr, .int .i64 (sz : Int), .int .i64 (ex : Int), .int .i64 fam, .func (.func F) #[] #[]], .agg #[.bool (sg0 || ng), .int .i64 (se : Int), .int .u64 (sf : Int)]] w1 fun z w' => z = .returned (.string st) ∧ Below w1.heap.size w1 w') (hd : dn = 0) (hp : p = 0) (hn : ng = true) :
  Calls Tryz.prog 100 #[.agg #[.int .i64 R, .int .i64 D, .int .i64 L, .int .i64 G, .bool gr, .int .i64 (sz : Int), .int .i64 (ex : Int), .int .i64 fam, .func (.func F) #[] #[]], .agg #[.int .i64 c, .bool ng, .slice ao dn dc, .int .i64 p]] w fun z w' => z = .returned (.tuple #[.string st, .int .i64 0]) ∧ Below w.heap.size w w' := by
 subst hd hp hn
 have HG' : Hid _ := HG
 have HW' : Hid _ := HW
 have hsf := hsf_z
 have bf := below_alloc (w.alloc (.cells #[.int .i64 R, .int .i64 D, .int .i64 L, .int .i64 G, .bool gr, .int .i64 (sz : Int), .int .i64 (ex : Int), .int .i64 fam, .func (.func F) #[] #[]] 144)) (.cells #[.int .i64 c, .bool true, .slice ao 0 dc, .int .i64 0] 73)
 have l0 := (locE_new w [.int .i64 R, .int .i64 D, .int .i64 L, .int .i64 G, .bool gr, .int .i64 (sz : Int), .int .i64 (ex : Int), .int .i64 fam, .func (.func F) #[] #[]] 144).later bf
 have m0 := locE_new (w.alloc (.cells #[.int .i64 R, .int .i64 D, .int .i64 L, .int .i64 G, .bool gr, .int .i64 (sz : Int), .int .i64 (ex : Int), .int .i64 fam, .func (.func F) #[] #[]] 144)) [.int .i64 c, .bool true, .slice ao 0 dc, .int .i64 0] 73
 have b0 := below_trans (below_alloc w (.cells #[.int .i64 R, .int .i64 D, .int .i64 L, .int .i64 G, .bool gr, .int .i64 (sz : Int), .int .i64 (ex : Int), .int .i64 fam, .func (.func F) #[] #[]] 144)) bf
 rw [World.size_alloc] at m0
 have HS' : Hid _ := HS
 clear HS bf
 go_enter Tryz.func100, Tryz.ntmps100
 go_wp2_with fail
 refine (HS'.out _).mono ?_
 rintro z w1 ⟨rfl, b1⟩
 have bq := below_alloc w1 (.cells #[.bool sg0, .int .i64 (se : Int), .int .u64 (sf : Int)] 147)
 have l1 := (l0.later b1).later bq
 have m1 := (m0.later b1).later bq
 have q1 := locE_new w1 [.bool sg0, .int .i64 (se : Int), .int .u64 (sf : Int)] 147
 have b01 := below_trans (below_trans b0 b1) bq
 obtain ⟨x0, x1, x2, x3, x4, x5, x6, x7, x8⟩ := l1.cs9
 obtain ⟨u0, u1, u2, u3⟩ := m1.cs4
 obtain ⟨s0, s1, s2⟩ := q1.cs3
 have hlw : w.heap.size < w1.heap.size := (l0.later b1).lt
 clear l0 m0 b0 b1 bq HS'
 go_wp2_with fail
 refine (HG'.out _).mono ?_
 rintro z w2 ⟨rfl, b2⟩
 have l2 := l1.later b2
 have m2 := m1.later b2
 have q2 := q1.later b2
 have b02 := below_trans b01 b2
 clear l1 m1 q1 b01 b2 x0 x1 x2 x3 x4 x5 x6 x7 x8 u0 u1 u2 u3 s0 s1 s2
 obtain ⟨x0, x1, x2, x3, x4, x5, x6, x7, x8⟩ := l2.cs9
 obtain ⟨u0, u1, u2, u3⟩ := m2.cs4
 obtain ⟨s0, s1, s2⟩ := q2.cs3
 have k0 := q2.free 0
 have hne0 : w1.heap.size ≠ w.heap.size := Nat.ne_of_gt hlw
 have b03 := (but_set _ w1.heap.size 0 (.bool true)).below b02 (Nat.le_of_lt hlw)
 clear HW HG
 cases sg0
 all_goals go_wp2_with fail
 all_goals (refine (HW'.out _).mono ?_; rintro z w3 ⟨rfl, b3⟩; go_wp2; go_ret2; exact ⟨rfl, below_trans b03 b3⟩)
def othE (k c dn : Nat) (ng : Bool) (p : Int) : Int := if spcOk k c = false then 5 else if 0 < dn ∨ p ≠ 0 ∨ ng = true ∧ sgnOk k c = false then 4 else 0
def othS (k c dn : Nat) (ng : Bool) (p : Int) : ByteArray := if othE k c dn ng p = 0 then strOf (wrtB k (spcG k c || ng) (spcE k c) (spcF k c)) else ⟨#[]⟩
theorem spcE_small {k : Nat} (c : Nat) (hk : 1 ≤ k ∧ k ≤ 8) : spcE k c < 65536 := by
 have h : onesN k < 65536 := by rcases eight hk with rfl | rfl | rfl | rfl | rfl | rfl | rfl | rfl <;> decide
 unfold spcE
 split <;> omega
theorem spcF_small {k : Nat} (c : Nat) (hk : 1 ≤ k ∧ k ≤ 8) : spcF k c < 18446744073709551616 := by
 have h1 : wrN k < 2 ^ 64 := by rcases eight hk with rfl | rfl | rfl | rfl | rfl | rfl | rfl | rfl <;> decide
 have h2 : leadN k < 2 ^ 64 := by rcases eight hk with rfl | rfl | rfl | rfl | rfl | rfl | rfl | rfl <;> decide
 unfold spcF
 split
 ·split
  ·exact h1
  ·split
   ·exact Nat.or_lt_two_pow (n := 64) h1 (by omega)
   ·omega
 ·omega
theorem encodeOther_any (k c : Nat) (hk : 1 ≤ k ∧ k ≤ 8) (hc : c = 1 ∨ c = 3 ∨ c = 4 ∨ c = 5) (ng : Bool) (ao : Option Addr) (dn dc : Nat) (p : Int) (w : World) :
  Calls Tryz.prog 100 #[.agg (layV k).toArray, .agg #[.int .i64 (c : Int), .bool ng, .slice ao dn dc, .int .i64 p]] w fun z w' => z = .returned (.tuple #[.string (othS k c dn ng p), .int .i64 (othE k c dn ng p)]) ∧ Below w.heap.size w w' := by
 have HS := fun w1 => special_any k c hk hc w1
 have HG := fun w1 => signed_any k c hk hc w1
 have HW := fun w1 => cwrite_any k hk (spcG k c || ng) (spcE k c) (spcF k c) w1 (spcE_small c hk) (spcF_small c hk)
 have key : ∀ er, othE k c dn ng p = er → othS k c dn ng p = if er = 0 then strOf (wrtB k (spcG k c || ng) (spcE k c) (spcF k c)) else ⟨#[]⟩ := fun er h => by unfold othS; rw [h]
 by_cases hok : spcOk k c = false
 ·have hE : othE k c dn ng p = 5 := by unfold othE; rw [if_pos hok]
  rw [key 5 hE, hE, if_neg (by omega)]
  rw [hok] at HS
  generalize spcG k c = sg0 at *
  generalize spcE k c = se at *
  generalize spcF k c = sf at *
  clear HG HW key hE hok
  rcases eight hk with rfl | rfl | rfl | rfl | rfl | rfl | rfl | rfl
  all_goals exact other_none _ _ _ _ _ _ _ _ _ _ p ng ao dn dc sg0 se sf w HS
 ·have hok' : spcOk k c = true := by simpa using hok
  rw [hok'] at HS
  by_cases h1 : 0 < dn
  ·have hE : othE k c dn ng p = 4 := by unfold othE; rw [if_neg hok, if_pos (.inl h1)]
   rw [key 4 hE, hE, if_neg (by omega)]
   generalize spcG k c = sg0 at *
   generalize spcE k c = se at *
   generalize spcF k c = sf at *
   clear HG HW key hE hok hok'
   rcases eight hk with rfl | rfl | rfl | rfl | rfl | rfl | rfl | rfl
   all_goals exact other_digits _ _ _ _ _ _ _ _ _ _ p ng ao dn dc sg0 se sf w HS h1
  ·have hd : dn = 0 := by omega
   by_cases h2 : p = 0
   ·by_cases h3 : ng = true ∧ sgnOk k c = false
    ·have hE : othE k c dn ng p = 4 := by unfold othE; rw [if_neg hok, if_pos (.inr (.inr h3))]
     rw [key 4 hE, hE, if_neg (by omega)]
     rw [h3.2] at HG
     have hng := h3.1
     generalize spcG k c = sg0 at *
     generalize spcE k c = se at *
     generalize spcF k c = sf at *
     clear HW key hE hok hok' h3
     rcases eight hk with rfl | rfl | rfl | rfl | rfl | rfl | rfl | rfl
     all_goals exact other_sign _ _ _ _ _ _ _ _ _ _ p ng ao dn dc sg0 se sf w HS HG hd h2 hng
    ·have hE : othE k c dn ng p = 0 := by
      unfold othE
      rw [if_neg hok, if_neg]
      rintro (h | h | h)
      ·exact h1 h
      ·exact h h2
      ·exact h3 h
     rw [key 0 hE, hE, if_pos rfl]
     have hsg : ng = true → sgnOk k c = true := fun h => by
      cases hs : sgnOk k c
      ·exact absurd ⟨h, hs⟩ h3
      ·rfl
     generalize strOf (wrtB k (spcG k c || ng) (spcE k c) (spcF k c)) = st at *
     generalize spcG k c = sg0 at *
     generalize spcE k c = se at *
     generalize spcF k c = sf at *
     clear key hE hok hok' h3
     cases ng
     ·rcases eight hk with rfl | rfl | rfl | rfl | rfl | rfl | rfl | rfl
      all_goals exact other_ok0 _ _ _ _ _ _ _ _ _ _ p false ao dn dc sg0 se sf w HS st HW hd h2 rfl
     ·rw [hsg rfl] at HG
      rcases eight hk with rfl | rfl | rfl | rfl | rfl | rfl | rfl | rfl
      all_goals exact other_ok1 _ _ _ _ _ _ _ _ _ _ p true ao dn dc sg0 se sf w HS HG st HW hd h2 rfl
   ·have hE : othE k c dn ng p = 4 := by unfold othE; rw [if_neg hok, if_pos (.inr (.inl h2))]
    rw [key 4 hE, hE, if_neg (by omega)]
    generalize spcG k c = sg0 at *
    generalize spcE k c = se at *
    generalize spcF k c = sf at *
    clear HG HW key hE hok hok'
    rcases eight hk with rfl | rfl | rfl | rfl | rfl | rfl | rfl | rfl
    all_goals exact other_power _ _ _ _ _ _ _ _ _ _ p ng ao dn dc sg0 se sf w HS hd h2
end Go.Proofs.YtnhackdjplppjaaGreatDoor
namespace Go.Proofs.YtnhackdjplppjaaGreatDoor
open Go.RowKit
theorem word_join (x a : Nat) (hx : x < 4294967296) (ha : a < 4294967296) : bits .or .u64 ((x : Int) * 4294967296) (a : Int) = ((a + 4294967296 * x : Nat) : Int) := by
 rw [show (x : Int) * 4294967296 = ((4294967296 * x : Nat) : Int) from by omega]
 rw [u64_or_nat _ _ (by omega) (by omega), nat_join 32 _ _ (by omega) (by omega)]
 congr 1
 omega
set_option maxHeartbeats 1600000 in
theorem word_any (va : Value) (xs : List Nat) (w : World) (ha : Rd w .u32 va xs) (sa : Dg.Small 4294967296 xs) (hl : xs.length ≤ 2) :
  Calls Tryz.prog 226 #[va] w fun z w' => z = .returned (.int .u64 ((Dg.vl 4294967296 xs : Nat) : Int)) ∧ w' = w := by
 obtain ⟨ao, ca, rfl, -, -, hca⟩ := ha
 go_enter Tryz.func226, Tryz.ntmps226
 go_wp2
 go_loop [3, 4] (fun xv iv => ∃ j x : Nat, j ≤ xs.length ∧ iv = .int .i64 ((j : Int) - 1) ∧ xv = .int .u64 (x : Int) ∧ Hid (x = Dg.vl 4294967296 (xs.drop j))) (fun _ iv => (intOf iv + 1).toNat)
 case atStart => exact ⟨xs.length, 0, Nat.le_refl _, by go_num, rfl, by rw [List.drop_of_length_le (Nat.le_refl _)]; rfl⟩
 case round =>
  obtain ⟨j, x, hj, rfl, rfl, HX⟩ := hrel
  by_cases h0 : 0 < j
  ·obtain ⟨i, rfl⟩ : ∃ i, j = i + 1 := ⟨j - 1, by omega⟩
   rw [show ((i + 1 : Nat) : Int) - 1 = (i : Int) from by omega]
   obtain ⟨b, off, rfl, hcell⟩ := hca (by omega)
   have hc := hcell i (by omega)
   have hs := sa i
   have hx := HX.out
   have hxl : x < 4294967296 := by
    have h1 := Dg.vl_lt 4294967296 (xs.drop (i + 1)) (fun k => by
     rw [List.getD_eq_getElem?_getD, List.getElem?_drop, ← List.getD_eq_getElem?_getD]
     exact sa _)
    rw [← hx, List.length_drop] at h1
    have h2 : (4294967296 : Nat) ^ (xs.length - (i + 1)) ≤ 4294967296 ^ 1 := Nat.pow_le_pow_right (by omega) (by omega)
    omega
   have hst : Dg.vl 4294967296 (xs.drop i) = xs.getD i 0 + 4294967296 * x := by
    rw [hx, List.drop_eq_getElem_cons (show i < xs.length by omega), Dg.vl]
    simp [List.getD_eq_getElem?_getD, show i < xs.length by omega]
   obtain ⟨a, ea⟩ : ∃ a, xs.getD i 0 = a := ⟨_, rfl⟩
   rw [ea] at hc hs hst
   have hil : i < xs.length := by omega
   have HST : Hid _ := hst
   clear ea hst hx hcell hca HX
   go_wp2
   have hst := HST.out
   refine ⟨⟨i, a + 4294967296 * x, by omega, rfl, ?_, hst.symm⟩, ?_⟩
   ·rw [word_join x a hxl hs]
   ·simp only [intOf]
    omega
  ·have hd : ¬ ((0 : Int) ≤ (j : Int) - 1) := by omega
   have HJ : Hid (j = 0) := (by omega : j = 0)
   go_wp2
   go_ret
   have h1 := HJ.out
   subst h1
   have := HX.out
   rw [List.drop_zero] at this
   rw [← this]
   exact ⟨rfl, rfl⟩
end Go.Proofs.YtnhackdjplppjaaGreatDoor

/-
  Texts laid together: Co12.
-/
import Derived.Test.YtiiphandhpilgaaGreatDoorNd10
set_option maxRecDepth 100000
namespace Go.Proofs.YtiiphandhpilgaaGreatDoor
open Go.RowKit
set_option maxHeartbeats 1600000 in
theorem lclass_A (R D L G sz ex c : Int) (gr ng : Bool) (F e f : Nat) (w : World) (HC : ∀ w1, Calls Tryz.prog 94 #[.agg #[.int .i64 R, .int .i64 D, .int .i64 L, .int .i64 G, .bool gr, .int .i64 sz, .int .i64 ex, .int .i64 1, .func (.func F) #[] #[]], .agg #[.bool ng, .int .i64 (e : Int), .int .u64 (f : Int)]] w1 fun z w' => z = .returned (.int .i64 c) ∧ Below w1.heap.size w1 w') : Calls Tryz.prog 65 #[.agg #[.int .i64 R, .int .i64 D, .int .i64 L, .int .i64 G, .bool gr, .int .i64 sz, .int .i64 ex, .int .i64 1, .func (.func F) #[] #[]], .agg #[.bool ng, .int .i64 (e : Int), .int .u64 (f : Int)]] w fun z w' => z = .returned (.int .i64 c) ∧ Below w.heap.size w w' := by
 replace HC : Hid _ := HC
 have hsf := hsf_z
 have l0 := (locE_new w [.int .i64 R, .int .i64 D, .int .i64 L, .int .i64 G, .bool gr, .int .i64 sz, .int .i64 ex, .int .i64 1, .func (.func F) #[] #[]] 63).later (below_alloc _ (.cells #[.bool ng, .int .i64 (e : Int), .int .u64 (f : Int)] 82))
 have m0 := locE_new (w.alloc (.cells #[.int .i64 R, .int .i64 D, .int .i64 L, .int .i64 G, .bool gr, .int .i64 sz, .int .i64 ex, .int .i64 1, .func (.func F) #[] #[]] 63)) [.bool ng, .int .i64 (e : Int), .int .u64 (f : Int)] 82
 have b0 := below_trans (below_alloc w (.cells #[.int .i64 R, .int .i64 D, .int .i64 L, .int .i64 G, .bool gr, .int .i64 sz, .int .i64 ex, .int .i64 1, .func (.func F) #[] #[]] 63)) (below_alloc _ (.cells #[.bool ng, .int .i64 (e : Int), .int .u64 (f : Int)] 82))
 rw [World.size_alloc] at m0
 go_enter Tryz.func65, Tryz.ntmps65
 go_wp2_with fail
 refine (HC.out _).mono ?_
 rintro z w1 ⟨rfl, b1⟩
 go_wp2
 go_ret
 exact ⟨rfl, below_trans b0 b1⟩
set_option maxHeartbeats 1600000 in
theorem lclass_B (R D L G sz ex : Int) (gr ng : Bool) (F e f : Nat) (w : World) : Calls Tryz.prog 65 #[.agg #[.int .i64 R, .int .i64 D, .int .i64 L, .int .i64 G, .bool gr, .int .i64 sz, .int .i64 ex, .int .i64 2, .func (.func F) #[] #[]], .agg #[.bool ng, .int .i64 (e : Int), .int .u64 (f : Int)]] w fun z w' => z = .returned (.int .i64 (((if f = 0 then 1 else 2 : Nat) : Nat) : Int)) ∧ Below w.heap.size w w' := by
 have hsf := hsf_z
 have l0 := (locE_new w [.int .i64 R, .int .i64 D, .int .i64 L, .int .i64 G, .bool gr, .int .i64 sz, .int .i64 ex, .int .i64 2, .func (.func F) #[] #[]] 63).later (below_alloc _ (.cells #[.bool ng, .int .i64 (e : Int), .int .u64 (f : Int)] 82))
 have m0 := locE_new (w.alloc (.cells #[.int .i64 R, .int .i64 D, .int .i64 L, .int .i64 G, .bool gr, .int .i64 sz, .int .i64 ex, .int .i64 2, .func (.func F) #[] #[]] 63)) [.bool ng, .int .i64 (e : Int), .int .u64 (f : Int)] 82
 have b0 := below_trans (below_alloc w (.cells #[.int .i64 R, .int .i64 D, .int .i64 L, .int .i64 G, .bool gr, .int .i64 sz, .int .i64 ex, .int .i64 2, .func (.func F) #[] #[]] 63)) (below_alloc _ (.cells #[.bool ng, .int .i64 (e : Int), .int .u64 (f : Int)] 82))
 rw [World.size_alloc] at m0
 have HZ : Hid (∀ b w1, Calls Tryz.prog 95 #[.bool b] w1 fun z w' => z = .returned (.int .i64 (if b then 1 else 2)) ∧ w' = w1) := fun b w1 => zeroOr_any b w1
 by_cases h : f = 0
 ·subst h
  go_enter Tryz.func65, Tryz.ntmps65
  go_wp2_with fail
  refine (HZ.out true _).mono ?_
  rintro z w1 ⟨rfl, rfl⟩
  go_wp2
  go_ret
  exact ⟨rfl, b0⟩
 ·have h1 : ((f : Int) == 0) = false := by simp; omega
  rw [if_neg h]
  clear h
  go_enter Tryz.func65, Tryz.ntmps65
  go_wp2_with fail
  refine (HZ.out false _).mono ?_
  rintro z w1 ⟨rfl, rfl⟩
  go_wp2
  go_ret
  exact ⟨rfl, b0⟩
set_option maxHeartbeats 1600000 in
theorem lclass_C (R D L G sz ex : Int) (gr ng : Bool) (F e f : Nat) (w : World) : Calls Tryz.prog 65 #[.agg #[.int .i64 R, .int .i64 D, .int .i64 L, .int .i64 G, .bool gr, .int .i64 sz, .int .i64 ex, .int .i64 3, .func (.func F) #[] #[]], .agg #[.bool ng, .int .i64 (e : Int), .int .u64 (f : Int)]] w fun z w' => z = .returned (.int .i64 (((if e = 0 then (if ng then 5 else 1) else 2 : Nat) : Nat) : Int)) ∧ Below w.heap.size w w' := by
 have hsf := hsf_z
 have l0 := (locE_new w [.int .i64 R, .int .i64 D, .int .i64 L, .int .i64 G, .bool gr, .int .i64 sz, .int .i64 ex, .int .i64 3, .func (.func F) #[] #[]] 63).later (below_alloc _ (.cells #[.bool ng, .int .i64 (e : Int), .int .u64 (f : Int)] 82))
 have m0 := locE_new (w.alloc (.cells #[.int .i64 R, .int .i64 D, .int .i64 L, .int .i64 G, .bool gr, .int .i64 sz, .int .i64 ex, .int .i64 3, .func (.func F) #[] #[]] 63)) [.bool ng, .int .i64 (e : Int), .int .u64 (f : Int)] 82
 have b0 := below_trans (below_alloc w (.cells #[.int .i64 R, .int .i64 D, .int .i64 L, .int .i64 G, .bool gr, .int .i64 sz, .int .i64 ex, .int .i64 3, .func (.func F) #[] #[]] 63)) (below_alloc _ (.cells #[.bool ng, .int .i64 (e : Int), .int .u64 (f : Int)] 82))
 rw [World.size_alloc] at m0
 have HZ : Hid (∀ b w1, Calls Tryz.prog 95 #[.bool b] w1 fun z w' => z = .returned (.int .i64 (if b then 1 else 2)) ∧ w' = w1) := fun b w1 => zeroOr_any b w1
 by_cases h : e = 0
 ·subst h
  rw [if_pos rfl]
  cases ng
  ·go_enter Tryz.func65, Tryz.ntmps65
   go_wp2_with fail
   refine (HZ.out true _).mono ?_
   rintro z w1 ⟨rfl, rfl⟩
   go_wp2
   go_ret
   exact ⟨rfl, b0⟩
  ·go_enter Tryz.func65, Tryz.ntmps65
   go_wp2
   go_ret
   exact ⟨rfl, b0⟩
 ·have h1 : ((e : Int) == 0) = false := by simp; omega
  rw [if_neg h]
  clear h
  cases ng
  all_goals
   go_enter Tryz.func65, Tryz.ntmps65
   go_wp2_with fail
   refine (HZ.out false _).mono ?_
   rintro z w1 ⟨rfl, rfl⟩
   go_wp2
   go_ret
   exact ⟨rfl, b0⟩
theorem lclass_any (k : Nat) (hk : 1 ≤ k ∧ k ≤ 8) (ng : Bool) (e f : Nat) (w : World) (hf : f < 18446744073709551616) : Calls Tryz.prog 65 #[.agg (layV k).toArray, .agg #[.bool ng, .int .i64 (e : Int), .int .u64 (f : Int)]] w fun z w' => z = .returned (.int .i64 ((clsN k ng e f : Nat) : Int)) ∧ Below w.heap.size w w' := by
 rcases eight hk with rfl | rfl | rfl | rfl | rfl | rfl | rfl | rfl
 ·exact lclass_A _ _ _ _ _ _ _ _ ng _ e f w (fun w1 => ci_1 ng e f w1 hf)
 ·exact lclass_A _ _ _ _ _ _ _ _ ng _ e f w (fun w1 => ci_2 ng e f w1 hf)
 ·exact lclass_A _ _ _ _ _ _ _ _ ng _ e f w (fun w1 => ci_3 ng e f w1 hf)
 iterate 2 exact lclass_B _ _ _ _ _ _ _ ng _ e f w
 all_goals exact lclass_C _ _ _ _ _ _ _ ng _ e f w
def plcN (k e f : Nat) : Nat := if rdN k = 16 then f else if e = 0 then f else f ||| leadN k
def plcP (k e : Nat) : Int := if rdN k = 16 then lsI k + e else if e = 0 then lsI k else lsI k + e - 1
set_option maxHeartbeats 1600000 in
theorem lplace_16 (D L G sz ex fam : Int) (gr ng : Bool) (F e f : Nat) (w : World) (hw1 : IntKind.i64.wrap (L + (e : Int)) = L + (e : Int)) : Calls Tryz.prog 66 #[.agg #[.int .i64 16, .int .i64 D, .int .i64 L, .int .i64 G, .bool gr, .int .i64 sz, .int .i64 ex, .int .i64 fam, .func (.func F) #[] #[]], .agg #[.bool ng, .int .i64 (e : Int), .int .u64 (f : Int)]] w fun z w' => z = .returned (.tuple #[.int .u64 (f : Int), .int .i64 (L + (e : Int))]) ∧ Below w.heap.size w w' := by
 have hsf := hsf_z
 have l0 := (locE_new w [.int .i64 16, .int .i64 D, .int .i64 L, .int .i64 G, .bool gr, .int .i64 sz, .int .i64 ex, .int .i64 fam, .func (.func F) #[] #[]] 63).later (below_alloc _ (.cells #[.bool ng, .int .i64 (e : Int), .int .u64 (f : Int)] 82))
 have m0 := locE_new (w.alloc (.cells #[.int .i64 16, .int .i64 D, .int .i64 L, .int .i64 G, .bool gr, .int .i64 sz, .int .i64 ex, .int .i64 fam, .func (.func F) #[] #[]] 63)) [.bool ng, .int .i64 (e : Int), .int .u64 (f : Int)] 82
 have b0 := below_trans (below_alloc w (.cells #[.int .i64 16, .int .i64 D, .int .i64 L, .int .i64 G, .bool gr, .int .i64 sz, .int .i64 ex, .int .i64 fam, .func (.func F) #[] #[]] 63)) (below_alloc _ (.cells #[.bool ng, .int .i64 (e : Int), .int .u64 (f : Int)] 82))
 rw [World.size_alloc] at m0
 go_enter Tryz.func66, Tryz.ntmps66
 go_wp2
 go_quiet (fail)
 go_wp2
 go_ret2
 exact ⟨by first | rfl | (rw [hw1]; rfl) | simp [hw1, Act.put], below_drewN b0 _⟩
set_option maxHeartbeats 1600000 in
theorem lplace_0 (D L G sz ex fam : Int) (gr ng : Bool) (F f : Nat) (w : World) : Calls Tryz.prog 66 #[.agg #[.int .i64 2, .int .i64 D, .int .i64 L, .int .i64 G, .bool gr, .int .i64 sz, .int .i64 ex, .int .i64 fam, .func (.func F) #[] #[]], .agg #[.bool ng, .int .i64 0, .int .u64 (f : Int)]] w fun z w' => z = .returned (.tuple #[.int .u64 (f : Int), .int .i64 L]) ∧ Below w.heap.size w w' := by
 have hsf := hsf_z
 have l0 := (locE_new w [.int .i64 2, .int .i64 D, .int .i64 L, .int .i64 G, .bool gr, .int .i64 sz, .int .i64 ex, .int .i64 fam, .func (.func F) #[] #[]] 63).later (below_alloc _ (.cells #[.bool ng, .int .i64 0, .int .u64 (f : Int)] 82))
 have m0 := locE_new (w.alloc (.cells #[.int .i64 2, .int .i64 D, .int .i64 L, .int .i64 G, .bool gr, .int .i64 sz, .int .i64 ex, .int .i64 fam, .func (.func F) #[] #[]] 63)) [.bool ng, .int .i64 0, .int .u64 (f : Int)] 82
 have b0 := below_trans (below_alloc w (.cells #[.int .i64 2, .int .i64 D, .int .i64 L, .int .i64 G, .bool gr, .int .i64 sz, .int .i64 ex, .int .i64 fam, .func (.func F) #[] #[]] 63)) (below_alloc _ (.cells #[.bool ng, .int .i64 0, .int .u64 (f : Int)] 82))
 rw [World.size_alloc] at m0
 go_enter Tryz.func66, Tryz.ntmps66
 go_wp2
 go_quiet (fail)
 go_wp2
 go_ret2
 exact ⟨rfl, below_drewN b0 _⟩
set_option maxHeartbeats 1600000 in
theorem lplace_2 (D L G sz ex fam ld o : Int) (gr ng : Bool) (F e f : Nat) (w : World) (h1 : ((e : Int) == 0) = false) (ho : bits .or .u64 (f : Int) ld = o)
  (hw1 : IntKind.i64.wrap (L + (e : Int)) = L + (e : Int)) (hw2 : IntKind.i64.wrap (L + (e : Int) - 1) = L + (e : Int) - 1)
  (HL : ∀ w1, Calls Tryz.prog 90 #[.agg #[.int .i64 2, .int .i64 D, .int .i64 L, .int .i64 G, .bool gr, .int .i64 sz, .int .i64 ex, .int .i64 fam, .func (.func F) #[] #[]]] w1 fun z w' => z = .returned (.int .u64 ld) ∧ Below w1.heap.size w1 w') :
  Calls Tryz.prog 66 #[.agg #[.int .i64 2, .int .i64 D, .int .i64 L, .int .i64 G, .bool gr, .int .i64 sz, .int .i64 ex, .int .i64 fam, .func (.func F) #[] #[]], .agg #[.bool ng, .int .i64 (e : Int), .int .u64 (f : Int)]] w fun z w' => z = .returned (.tuple #[.int .u64 o, .int .i64 (L + (e : Int) - 1)]) ∧ Below w.heap.size w w' := by
 replace HL : Hid _ := HL
 have hsf := hsf_z
 have l0 := (locE_new w [.int .i64 2, .int .i64 D, .int .i64 L, .int .i64 G, .bool gr, .int .i64 sz, .int .i64 ex, .int .i64 fam, .func (.func F) #[] #[]] 63).later (below_alloc _ (.cells #[.bool ng, .int .i64 (e : Int), .int .u64 (f : Int)] 82))
 have m0 := locE_new (w.alloc (.cells #[.int .i64 2, .int .i64 D, .int .i64 L, .int .i64 G, .bool gr, .int .i64 sz, .int .i64 ex, .int .i64 fam, .func (.func F) #[] #[]] 63)) [.bool ng, .int .i64 (e : Int), .int .u64 (f : Int)] 82
 have b0 := below_trans (below_alloc w (.cells #[.int .i64 2, .int .i64 D, .int .i64 L, .int .i64 G, .bool gr, .int .i64 sz, .int .i64 ex, .int .i64 fam, .func (.func F) #[] #[]] 63)) (below_alloc _ (.cells #[.bool ng, .int .i64 (e : Int), .int .u64 (f : Int)] 82))
 rw [World.size_alloc] at m0
 obtain ⟨x0, x1, x2, x3, x4, x5, x6, x7, x8⟩ := l0.cs9
 obtain ⟨u0, u1, u2⟩ := m0.cs3
 go_enter Tryz.func66, Tryz.ntmps66
 go_wp2_with fail
 go_region_held3 (fun wq => (wq.cell? ⟨w.heap.size, 0, none⟩ = some (.int .i64 2) ∧ wq.cell? ⟨w.heap.size, 1, none⟩ = some (.int .i64 D) ∧ wq.cell? ⟨w.heap.size, 2, none⟩ = some (.int .i64 L) ∧ wq.cell? ⟨w.heap.size, 3, none⟩ = some (.int .i64 G) ∧ wq.cell? ⟨w.heap.size, 4, none⟩ = some (.bool gr) ∧ wq.cell? ⟨w.heap.size, 5, none⟩ = some (.int .i64 sz) ∧ wq.cell? ⟨w.heap.size, 6, none⟩ = some (.int .i64 ex) ∧ wq.cell? ⟨w.heap.size, 7, none⟩ = some (.int .i64 fam) ∧ wq.cell? ⟨w.heap.size, 8, none⟩ = some (.func (.func F) #[] #[])) ∧ (wq.cell? ⟨w.heap.size + 1, 0, none⟩ = some (.bool ng) ∧ wq.cell? ⟨w.heap.size + 1, 1, none⟩ = some (.int .i64 (e : Int)) ∧ wq.cell? ⟨w.heap.size + 1, 2, none⟩ = some (.int .u64 (f : Int)))) (go_keep) (first
  | (go_at_call 90; refine (HL.out _).mono ?_; rintro z w2 ⟨rfl, b2⟩; have l2 := l0.drew.later b2; have m2 := m0.drew.later b2; have b02 := below_trans b0.drew b2; obtain ⟨y0, y1, y2, y3, y4, y5, y6, y7, y8⟩ := l2.cs9; obtain ⟨v0, v1, v2⟩ := m2.cs3))
 all_goals go_wp2
 all_goals go_ret2
 all_goals exact ⟨by first | rfl | simp [Act.put], b02⟩
theorem lplace_any (k : Nat) (hk : 1 ≤ k ∧ k ≤ 8) (ng : Bool) (e f : Nat) (w : World) (hf : f < 18446744073709551616) (he : e < 65536) : Calls Tryz.prog 66 #[.agg (layV k).toArray, .agg #[.bool ng, .int .i64 (e : Int), .int .u64 (f : Int)]] w fun z w' => z = .returned (.tuple #[.int .u64 ((plcN k e f : Nat) : Int), .int .i64 (plcP k e)]) ∧ Below w.heap.size w w' := by
 have hls : -100000 ≤ lsI k ∧ lsI k ≤ 100000 := by rcases eight hk with rfl | rfl | rfl | rfl | rfl | rfl | rfl | rfl <;> decide
 have hw1 : IntKind.i64.wrap (lsI k + (e : Int)) = lsI k + (e : Int) := IntWalk.i64_in _ ⟨by omega, by omega⟩
 have hw2 : IntKind.i64.wrap (lsI k + (e : Int) - 1) = lsI k + (e : Int) - 1 := IntWalk.i64_in _ ⟨by omega, by omega⟩
 have ho : bits .or .u64 (f : Int) (leadN k : Int) = ((f ||| leadN k : Nat) : Int) := u64_or_nat f (leadN k) hf (by rcases eight hk with rfl | rfl | rfl | rfl | rfl | rfl | rfl | rfl <;> decide)
 have HL := fun w1 => llead_any k hk w1
 unfold plcN plcP
 by_cases hr : rdN k = 16
 ·rw [if_pos hr, if_pos hr]
  rcases eight hk with rfl | rfl | rfl | rfl | rfl | rfl | rfl | rfl
  all_goals first | exact absurd hr (by decide) | exact lplace_16 _ _ _ _ _ _ _ ng _ e f w hw1
 ·rw [if_neg hr, if_neg hr]
  by_cases h : e = 0
  ·subst h
   rw [if_pos rfl, if_pos rfl]
   rcases eight hk with rfl | rfl | rfl | rfl | rfl | rfl | rfl | rfl
   all_goals first | exact absurd rfl hr | exact lplace_0 _ _ _ _ _ _ _ ng _ f w
  ·rw [if_neg h, if_neg h]
   have h1 : ((e : Int) == 0) = false := by simp; omega
   rcases eight hk with rfl | rfl | rfl | rfl | rfl | rfl | rfl | rfl
   all_goals first | exact absurd rfl hr | exact lplace_2 _ _ _ _ _ _ _ _ _ ng _ e f w h1 ho hw1 hw2 HL
end Go.Proofs.YtiiphandhpilgaaGreatDoor

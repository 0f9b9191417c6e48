/-
  Texts laid together: Co12, Co6, Co7, Co8, Co13.
-/
import Derived.Laws.IdiomStrings
import Derived.Test.YtnhackdjplppjaaGreatDoorAt06
set_option maxRecDepth 100000
namespace Go.Proofs.YtnhackdjplppjaaGreatDoor
open Go.RowKit
set_option maxHeartbeats 1600000 in
theorem lclass_A (R D L G sz ex c : Int) (gr ng : Bool) (F e f : Nat) (w : World) (HC : ∀ w1, Calls Tryz.prog 194 #[.agg #[.int .i64 R, .int .i64 D, .int .i64 L, .int .i64 G, .bool gr, .int .i64 sz, .int .i64 ex, .int .i64 1, .func (.func F) #[] #[]], .agg #[.bool ng, .int .i64 (e : Int), .int .u64 (f : Int)]] w1 fun z w' => z = .returned (.int .i64 c) ∧ Below w1.heap.size w1 w') : Calls Tryz.prog 149 #[.agg #[.int .i64 R, .int .i64 D, .int .i64 L, .int .i64 G, .bool gr, .int .i64 sz, .int .i64 ex, .int .i64 1, .func (.func F) #[] #[]], .agg #[.bool ng, .int .i64 (e : Int), .int .u64 (f : Int)]] w fun z w' => z = .returned (.int .i64 c) ∧ Below w.heap.size w w' := by
 replace HC : Hid _ := HC
 have hsf := hsf_z
 have l0 := (locE_new w [.int .i64 R, .int .i64 D, .int .i64 L, .int .i64 G, .bool gr, .int .i64 sz, .int .i64 ex, .int .i64 1, .func (.func F) #[] #[]] 144).later (below_alloc _ (.cells #[.bool ng, .int .i64 (e : Int), .int .u64 (f : Int)] 147))
 have m0 := locE_new (w.alloc (.cells #[.int .i64 R, .int .i64 D, .int .i64 L, .int .i64 G, .bool gr, .int .i64 sz, .int .i64 ex, .int .i64 1, .func (.func F) #[] #[]] 144)) [.bool ng, .int .i64 (e : Int), .int .u64 (f : Int)] 147
 have b0 := below_trans (below_alloc w (.cells #[.int .i64 R, .int .i64 D, .int .i64 L, .int .i64 G, .bool gr, .int .i64 sz, .int .i64 ex, .int .i64 1, .func (.func F) #[] #[]] 144)) (below_alloc _ (.cells #[.bool ng, .int .i64 (e : Int), .int .u64 (f : Int)] 147))
 rw [World.size_alloc] at m0
 go_enter Tryz.func149, Tryz.ntmps149
 go_wp2_with fail
 refine (HC.out _).mono ?_
 rintro z w1 ⟨rfl, b1⟩
 go_wp2
 go_ret
 exact ⟨rfl, below_trans b0 b1⟩
set_option maxHeartbeats 1600000 in
theorem lclass_B (R D L G sz ex : Int) (gr ng : Bool) (F e f : Nat) (w : World) : Calls Tryz.prog 149 #[.agg #[.int .i64 R, .int .i64 D, .int .i64 L, .int .i64 G, .bool gr, .int .i64 sz, .int .i64 ex, .int .i64 2, .func (.func F) #[] #[]], .agg #[.bool ng, .int .i64 (e : Int), .int .u64 (f : Int)]] w fun z w' => z = .returned (.int .i64 (((if f = 0 then 1 else 2 : Nat) : Nat) : Int)) ∧ Below w.heap.size w w' := by
 have hsf := hsf_z
 have l0 := (locE_new w [.int .i64 R, .int .i64 D, .int .i64 L, .int .i64 G, .bool gr, .int .i64 sz, .int .i64 ex, .int .i64 2, .func (.func F) #[] #[]] 144).later (below_alloc _ (.cells #[.bool ng, .int .i64 (e : Int), .int .u64 (f : Int)] 147))
 have m0 := locE_new (w.alloc (.cells #[.int .i64 R, .int .i64 D, .int .i64 L, .int .i64 G, .bool gr, .int .i64 sz, .int .i64 ex, .int .i64 2, .func (.func F) #[] #[]] 144)) [.bool ng, .int .i64 (e : Int), .int .u64 (f : Int)] 147
 have b0 := below_trans (below_alloc w (.cells #[.int .i64 R, .int .i64 D, .int .i64 L, .int .i64 G, .bool gr, .int .i64 sz, .int .i64 ex, .int .i64 2, .func (.func F) #[] #[]] 144)) (below_alloc _ (.cells #[.bool ng, .int .i64 (e : Int), .int .u64 (f : Int)] 147))
 rw [World.size_alloc] at m0
 have HZ : Hid (∀ b w1, Calls Tryz.prog 195 #[.bool b] w1 fun z w' => z = .returned (.int .i64 (if b then 1 else 2)) ∧ w' = w1) := fun b w1 => zeroOr_any b w1
 by_cases h : f = 0
 ·subst h
  go_enter Tryz.func149, Tryz.ntmps149
  go_wp2_with fail
  refine (HZ.out true _).mono ?_
  rintro z w1 ⟨rfl, rfl⟩
  go_wp2
  go_ret
  exact ⟨rfl, b0⟩
 ·have h1 : ((f : Int) == 0) = false := by simp; omega
  rw [if_neg h]
  clear h
  go_enter Tryz.func149, Tryz.ntmps149
  go_wp2_with fail
  refine (HZ.out false _).mono ?_
  rintro z w1 ⟨rfl, rfl⟩
  go_wp2
  go_ret
  exact ⟨rfl, b0⟩
set_option maxHeartbeats 1600000 in
theorem lclass_C (R D L G sz ex : Int) (gr ng : Bool) (F e f : Nat) (w : World) : Calls Tryz.prog 149 #[.agg #[.int .i64 R, .int .i64 D, .int .i64 L, .int .i64 G, .bool gr, .int .i64 sz, .int .i64 ex, .int .i64 3, .func (.func F) #[] #[]], .agg #[.bool ng, .int .i64 (e : Int), .int .u64 (f : Int)]] w fun z w' => z = .returned (.int .i64 (((if e = 0 then (if ng then 5 else 1) else 2 : Nat) : Nat) : Int)) ∧ Below w.heap.size w w' := by
 have hsf := hsf_z
 have l0 := (locE_new w [.int .i64 R, .int .i64 D, .int .i64 L, .int .i64 G, .bool gr, .int .i64 sz, .int .i64 ex, .int .i64 3, .func (.func F) #[] #[]] 144).later (below_alloc _ (.cells #[.bool ng, .int .i64 (e : Int), .int .u64 (f : Int)] 147))
 have m0 := locE_new (w.alloc (.cells #[.int .i64 R, .int .i64 D, .int .i64 L, .int .i64 G, .bool gr, .int .i64 sz, .int .i64 ex, .int .i64 3, .func (.func F) #[] #[]] 144)) [.bool ng, .int .i64 (e : Int), .int .u64 (f : Int)] 147
 have b0 := below_trans (below_alloc w (.cells #[.int .i64 R, .int .i64 D, .int .i64 L, .int .i64 G, .bool gr, .int .i64 sz, .int .i64 ex, .int .i64 3, .func (.func F) #[] #[]] 144)) (below_alloc _ (.cells #[.bool ng, .int .i64 (e : Int), .int .u64 (f : Int)] 147))
 rw [World.size_alloc] at m0
 have HZ : Hid (∀ b w1, Calls Tryz.prog 195 #[.bool b] w1 fun z w' => z = .returned (.int .i64 (if b then 1 else 2)) ∧ w' = w1) := fun b w1 => zeroOr_any b w1
 by_cases h : e = 0
 ·subst h
  rw [if_pos rfl]
  cases ng
  ·go_enter Tryz.func149, Tryz.ntmps149
   go_wp2_with fail
   refine (HZ.out true _).mono ?_
   rintro z w1 ⟨rfl, rfl⟩
   go_wp2
   go_ret
   exact ⟨rfl, b0⟩
  ·go_enter Tryz.func149, Tryz.ntmps149
   go_wp2
   go_ret
   exact ⟨rfl, b0⟩
 ·have h1 : ((e : Int) == 0) = false := by simp; omega
  rw [if_neg h]
  clear h
  cases ng
  all_goals
   go_enter Tryz.func149, Tryz.ntmps149
   go_wp2_with fail
   refine (HZ.out false _).mono ?_
   rintro z w1 ⟨rfl, rfl⟩
   go_wp2
   go_ret
   exact ⟨rfl, b0⟩
theorem lclass_any (k : Nat) (hk : 1 ≤ k ∧ k ≤ 8) (ng : Bool) (e f : Nat) (w : World) (hf : f < 18446744073709551616) : Calls Tryz.prog 149 #[.agg (layV k).toArray, .agg #[.bool ng, .int .i64 (e : Int), .int .u64 (f : Int)]] w fun z w' => z = .returned (.int .i64 ((clsN k ng e f : Nat) : Int)) ∧ Below w.heap.size w w' := by
 rcases eight hk with rfl | rfl | rfl | rfl | rfl | rfl | rfl | rfl
 ·exact lclass_A _ _ _ _ _ _ _ _ ng _ e f w (fun w1 => ci_1 ng e f w1 hf)
 ·exact lclass_A _ _ _ _ _ _ _ _ ng _ e f w (fun w1 => ci_2 ng e f w1 hf)
 ·exact lclass_A _ _ _ _ _ _ _ _ ng _ e f w (fun w1 => ci_3 ng e f w1 hf)
 iterate 2 exact lclass_B _ _ _ _ _ _ _ ng _ e f w
 all_goals exact lclass_C _ _ _ _ _ _ _ ng _ e f w
def plcN (k e f : Nat) : Nat := if rdN k = 16 then f else if e = 0 then f else f ||| leadN k
def plcP (k e : Nat) : Int := if rdN k = 16 then lsI k + e else if e = 0 then lsI k else lsI k + e - 1
set_option maxHeartbeats 1600000 in
theorem lplace_16 (D L G sz ex fam : Int) (gr ng : Bool) (F e f : Nat) (w : World) (hw1 : IntKind.i64.wrap (L + (e : Int)) = L + (e : Int)) : Calls Tryz.prog 151 #[.agg #[.int .i64 16, .int .i64 D, .int .i64 L, .int .i64 G, .bool gr, .int .i64 sz, .int .i64 ex, .int .i64 fam, .func (.func F) #[] #[]], .agg #[.bool ng, .int .i64 (e : Int), .int .u64 (f : Int)]] w fun z w' => z = .returned (.tuple #[.int .u64 (f : Int), .int .i64 (L + (e : Int))]) ∧ Below w.heap.size w w' := by
 have hsf := hsf_z
 have l0 := (locE_new w [.int .i64 16, .int .i64 D, .int .i64 L, .int .i64 G, .bool gr, .int .i64 sz, .int .i64 ex, .int .i64 fam, .func (.func F) #[] #[]] 144).later (below_alloc _ (.cells #[.bool ng, .int .i64 (e : Int), .int .u64 (f : Int)] 147))
 have m0 := locE_new (w.alloc (.cells #[.int .i64 16, .int .i64 D, .int .i64 L, .int .i64 G, .bool gr, .int .i64 sz, .int .i64 ex, .int .i64 fam, .func (.func F) #[] #[]] 144)) [.bool ng, .int .i64 (e : Int), .int .u64 (f : Int)] 147
 have b0 := below_trans (below_alloc w (.cells #[.int .i64 16, .int .i64 D, .int .i64 L, .int .i64 G, .bool gr, .int .i64 sz, .int .i64 ex, .int .i64 fam, .func (.func F) #[] #[]] 144)) (below_alloc _ (.cells #[.bool ng, .int .i64 (e : Int), .int .u64 (f : Int)] 147))
 rw [World.size_alloc] at m0
 go_enter Tryz.func151, Tryz.ntmps151
 go_wp2
 go_quiet (fail)
 go_wp2
 go_ret2
 exact ⟨by first | rfl | (rw [hw1]; rfl) | simp [hw1, Act.put], below_drewN b0 _⟩
set_option maxHeartbeats 1600000 in
theorem lplace_0 (D L G sz ex fam : Int) (gr ng : Bool) (F f : Nat) (w : World) : Calls Tryz.prog 151 #[.agg #[.int .i64 2, .int .i64 D, .int .i64 L, .int .i64 G, .bool gr, .int .i64 sz, .int .i64 ex, .int .i64 fam, .func (.func F) #[] #[]], .agg #[.bool ng, .int .i64 0, .int .u64 (f : Int)]] w fun z w' => z = .returned (.tuple #[.int .u64 (f : Int), .int .i64 L]) ∧ Below w.heap.size w w' := by
 have hsf := hsf_z
 have l0 := (locE_new w [.int .i64 2, .int .i64 D, .int .i64 L, .int .i64 G, .bool gr, .int .i64 sz, .int .i64 ex, .int .i64 fam, .func (.func F) #[] #[]] 144).later (below_alloc _ (.cells #[.bool ng, .int .i64 0, .int .u64 (f : Int)] 147))
 have m0 := locE_new (w.alloc (.cells #[.int .i64 2, .int .i64 D, .int .i64 L, .int .i64 G, .bool gr, .int .i64 sz, .int .i64 ex, .int .i64 fam, .func (.func F) #[] #[]] 144)) [.bool ng, .int .i64 0, .int .u64 (f : Int)] 147
 have b0 := below_trans (below_alloc w (.cells #[.int .i64 2, .int .i64 D, .int .i64 L, .int .i64 G, .bool gr, .int .i64 sz, .int .i64 ex, .int .i64 fam, .func (.func F) #[] #[]] 144)) (below_alloc _ (.cells #[.bool ng, .int .i64 0, .int .u64 (f : Int)] 147))
 rw [World.size_alloc] at m0
 go_enter Tryz.func151, Tryz.ntmps151
 go_wp2
 go_quiet (fail)
 go_wp2
 go_ret2
 exact ⟨rfl, below_drewN b0 _⟩
set_option maxHeartbeats 1600000 in
theorem lplace_2 (D L G sz ex fam ld o : Int) (gr ng : Bool) (F e f : Nat) (w : World) (h1 : ((e : Int) == 0) = false) (ho : bits .or .u64 (f : Int) ld = o)
  (hw1 : IntKind.i64.wrap (L + (e : Int)) = L + (e : Int)) (hw2 : IntKind.i64.wrap (L + (e : Int) - 1) = L + (e : Int) - 1)
  (HL : ∀ w1, Calls Tryz.prog 198 #[.agg #[.int .i64 2, .int .i64 D, .int .i64 L, .int .i64 G, .bool gr, .int .i64 sz, .int .i64 ex, .int .i64 fam, .func (.func F) #[] #[]]] w1 fun z w' => z = .returned (.int .u64 ld) ∧ Below w1.heap.size w1 w') :
  Calls Tryz.prog 151 #[.agg #[.int .i64 2, .int .i64 D, .int .i64 L, .int .i64 G, .bool gr, .int .i64 sz, .int .i64 ex, .int .i64 fam, .func (.func F) #[] #[]], .agg #[.bool ng, .int .i64 (e : Int), .int .u64 (f : Int)]] w fun z w' => z = .returned (.tuple #[.int .u64 o, .int .i64 (L + (e : Int) - 1)]) ∧ Below w.heap.size w w' := by
 replace HL : Hid _ := HL
 have hsf := hsf_z
 have l0 := (locE_new w [.int .i64 2, .int .i64 D, .int .i64 L, .int .i64 G, .bool gr, .int .i64 sz, .int .i64 ex, .int .i64 fam, .func (.func F) #[] #[]] 144).later (below_alloc _ (.cells #[.bool ng, .int .i64 (e : Int), .int .u64 (f : Int)] 147))
 have m0 := locE_new (w.alloc (.cells #[.int .i64 2, .int .i64 D, .int .i64 L, .int .i64 G, .bool gr, .int .i64 sz, .int .i64 ex, .int .i64 fam, .func (.func F) #[] #[]] 144)) [.bool ng, .int .i64 (e : Int), .int .u64 (f : Int)] 147
 have b0 := below_trans (below_alloc w (.cells #[.int .i64 2, .int .i64 D, .int .i64 L, .int .i64 G, .bool gr, .int .i64 sz, .int .i64 ex, .int .i64 fam, .func (.func F) #[] #[]] 144)) (below_alloc _ (.cells #[.bool ng, .int .i64 (e : Int), .int .u64 (f : Int)] 147))
 rw [World.size_alloc] at m0
 obtain ⟨x0, x1, x2, x3, x4, x5, x6, x7, x8⟩ := l0.cs9
 obtain ⟨u0, u1, u2⟩ := m0.cs3
 go_enter Tryz.func151, Tryz.ntmps151
 go_wp2_with fail
 go_region_held3 (fun wq => (wq.cell? ⟨w.heap.size, 0, none⟩ = some (.int .i64 2) ∧ wq.cell? ⟨w.heap.size, 1, none⟩ = some (.int .i64 D) ∧ wq.cell? ⟨w.heap.size, 2, none⟩ = some (.int .i64 L) ∧ wq.cell? ⟨w.heap.size, 3, none⟩ = some (.int .i64 G) ∧ wq.cell? ⟨w.heap.size, 4, none⟩ = some (.bool gr) ∧ wq.cell? ⟨w.heap.size, 5, none⟩ = some (.int .i64 sz) ∧ wq.cell? ⟨w.heap.size, 6, none⟩ = some (.int .i64 ex) ∧ wq.cell? ⟨w.heap.size, 7, none⟩ = some (.int .i64 fam) ∧ wq.cell? ⟨w.heap.size, 8, none⟩ = some (.func (.func F) #[] #[])) ∧ (wq.cell? ⟨w.heap.size + 1, 0, none⟩ = some (.bool ng) ∧ wq.cell? ⟨w.heap.size + 1, 1, none⟩ = some (.int .i64 (e : Int)) ∧ wq.cell? ⟨w.heap.size + 1, 2, none⟩ = some (.int .u64 (f : Int)))) (go_keep) (first
  | (go_at_call 198; refine (HL.out _).mono ?_; rintro z w2 ⟨rfl, b2⟩; have l2 := l0.drew.later b2; have m2 := m0.drew.later b2; have b02 := below_trans b0.drew b2; obtain ⟨y0, y1, y2, y3, y4, y5, y6, y7, y8⟩ := l2.cs9; obtain ⟨v0, v1, v2⟩ := m2.cs3))
 all_goals go_wp2
 all_goals go_ret2
 all_goals exact ⟨by first | rfl | simp [Act.put], b02⟩
theorem lplace_any (k : Nat) (hk : 1 ≤ k ∧ k ≤ 8) (ng : Bool) (e f : Nat) (w : World) (hf : f < 18446744073709551616) (he : e < 65536) : Calls Tryz.prog 151 #[.agg (layV k).toArray, .agg #[.bool ng, .int .i64 (e : Int), .int .u64 (f : Int)]] w fun z w' => z = .returned (.tuple #[.int .u64 ((plcN k e f : Nat) : Int), .int .i64 (plcP k e)]) ∧ Below w.heap.size w w' := by
 have hls : -100000 ≤ lsI k ∧ lsI k ≤ 100000 := by rcases eight hk with rfl | rfl | rfl | rfl | rfl | rfl | rfl | rfl <;> decide
 have hw1 : IntKind.i64.wrap (lsI k + (e : Int)) = lsI k + (e : Int) := IntWalk.i64_in _ ⟨by omega, by omega⟩
 have hw2 : IntKind.i64.wrap (lsI k + (e : Int) - 1) = lsI k + (e : Int) - 1 := IntWalk.i64_in _ ⟨by omega, by omega⟩
 have ho : bits .or .u64 (f : Int) (leadN k : Int) = ((f ||| leadN k : Nat) : Int) := u64_or_nat f (leadN k) hf (by rcases eight hk with rfl | rfl | rfl | rfl | rfl | rfl | rfl | rfl <;> decide)
 have HL := fun w1 => llead_any k hk w1
 unfold plcN plcP
 by_cases hr : rdN k = 16
 ·rw [if_pos hr, if_pos hr]
  rcases eight hk with rfl | rfl | rfl | rfl | rfl | rfl | rfl | rfl
  all_goals first | exact absurd hr (by decide) | exact lplace_16 _ _ _ _ _ _ _ ng _ e f w hw1
 ·rw [if_neg hr, if_neg hr]
  by_cases h : e = 0
  ·subst h
   rw [if_pos rfl, if_pos rfl]
   rcases eight hk with rfl | rfl | rfl | rfl | rfl | rfl | rfl | rfl
   all_goals first | exact absurd rfl hr | exact lplace_0 _ _ _ _ _ _ _ ng _ f w
  ·rw [if_neg h, if_neg h]
   have h1 : ((e : Int) == 0) = false := by simp; omega
   rcases eight hk with rfl | rfl | rfl | rfl | rfl | rfl | rfl | rfl
   all_goals first | exact absurd rfl hr | exact lplace_2 _ _ _ _ _ _ _ _ _ ng _ e f w h1 ho hw1 hw2 HL
end Go.Proofs.YtnhackdjplppjaaGreatDoor
namespace Go.Proofs.YtnhackdjplppjaaGreatDoor
open Go.RowKit
structure BRow (w : World) (g : Nat) (zs : List Nat) : Prop where
 cell : ∀ i, i < zs.length → w.cell? ⟨g, i, none⟩ = some (.int .u8 ((zs.getD i 0 : Nat) : Int))
 free : ∀ i, i < zs.length → w.frozen? ⟨g, i, none⟩ = false
 lt : g < w.heap.size
theorem frozen_of_heap {w w' : World} {g i : Nat} (h : w'.heap[g]? = w.heap[g]?) : w'.frozen? ⟨g, i, none⟩ = w.frozen? ⟨g, i, none⟩ := by
 unfold World.frozen?
 simp only [h]
theorem BRow.later {w w' : World} {g : Nat} {zs : List Nat} (h : BRow w g zs) (hb : Below w.heap.size w w') : BRow w' g zs :=
 ⟨fun i hi => cell_later hb (h.cell i hi), fun i hi => (frozen_of_heap (hb.block g h.lt)).trans (h.free i hi), Nat.lt_of_lt_of_le h.lt hb.size⟩
theorem BRow.drew {w : World} {g : Nat} {zs : List Nat} (h : BRow w g zs) : BRow w.drew g zs := h.later (Below.refl _ _).drew
theorem frozen_set (w : World) (b o : Nat) (v : Value) (g i : Nat) : (w.setCell ⟨b, o, none⟩ v).frozen? ⟨g, i, none⟩ = w.frozen? ⟨g, i, none⟩ :=
 World.frozen?_setCells b [v] o w ⟨g, i, none⟩
theorem BRow.store {w : World} {g : Nat} {zs : List Nat} (h : BRow w g zs) (j x : Nat) : BRow (w.setCell ⟨g, j, none⟩ (.int .u8 (x : Int))) g (zs.set j x) := by
 refine ⟨fun i hi => ?_, fun i hi => ?_, by simpa [World.setCell] using h.lt⟩
 ·rw [List.length_set] at hi
  by_cases e : j = i
  ·subst e
   rw [World.cell?_setCell_same (h := h.cell j hi)]
   simp [List.getD_eq_getElem?_getD, hi]
  ·rw [World.cell?_setCell_other (h := by intro k; cases k; exact e rfl), h.cell i hi]
   simp [List.getD_eq_getElem?_getD, e]
 ·rw [List.length_set] at hi
  rw [frozen_set]
  exact h.free i hi
theorem own_brow {w : World} {base e : Nat} {g n cap : Nat} {zs : List Nat} (h : Own w base e .u8 (.slice (some ⟨g, 0, none⟩) n cap) zs) : BRow w g zs :=
 ⟨fun i hi => h.cell i hi, fun i _ => h.free i, h.block.2⟩
def bytesOf (s : ByteArray) : List Nat := s.data.toList.map (fun b => b.toNat)
theorem bytesOf_len (s : ByteArray) : (bytesOf s).length = s.size := by
 unfold bytesOf
 rw [List.length_map, Array.length_toList]
 rfl
theorem bytesOf_small (s : ByteArray) : Dg.Small 256 (bytesOf s) := by
 intro i
 unfold bytesOf
 simp only [List.getD_eq_getElem?_getD, List.getElem?_map]
 cases h : s.data.toList[i]? with
 | none => simp
 | some b => simpa using b.toNat_lt
def bitB (zs : List Nat) (i : Nat) : Nat := zs.getD (i / 8) 0 / 2 ^ (7 - i % 8) % 2
def bitsV (zs : List Nat) (f : Nat) : Nat → Nat
 | 0 => 0
 | n + 1 => 2 * bitsV zs f n + bitB zs (f + n)
theorem bitB_lt (zs : List Nat) (i : Nat) : bitB zs i < 2 := Nat.mod_lt _ (by omega)
theorem bitsV_lt (zs : List Nat) (f : Nat) : ∀ n, bitsV zs f n < 2 ^ n
 | 0 => by simp [bitsV]
 | n + 1 => by
  have h1 := bitsV_lt zs f n
  have h2 := bitB_lt zs (f + n)
  rw [Nat.pow_succ]
  simp only [bitsV]
  omega
end Go.Proofs.YtnhackdjplppjaaGreatDoor
namespace Go.Proofs.YtnhackdjplppjaaGreatDoor
open Go.RowKit
def turnW (zs : List Nat) : List Nat := (List.range zs.length).map fun i => zs.getD (i + 1 - 2 * (i % 2)) 0
theorem turnW_len (zs : List Nat) : (turnW zs).length = zs.length := by simp [turnW]
theorem turnW_at (zs : List Nat) (i : Nat) (h : i < zs.length) : (turnW zs).getD i 0 = zs.getD (i + 1 - 2 * (i % 2)) 0 := by
 simp [turnW, List.getD_eq_getElem?_getD, h]
def WI (zs cur : List Nat) (i : Nat) : Prop :=
 cur.length = zs.length ∧ ∀ k, k < zs.length → cur.getD k 0 = if k < 2 * i then zs.getD (k + 1 - 2 * (k % 2)) 0 else zs.getD k 0
theorem wi_step {zs cur : List Nat} {i : Nat} (h : WI zs cur i) (hi : 2 * i + 1 < zs.length) : WI zs ((cur.set (2 * i) (cur.getD (2 * i + 1) 0)).set (2 * i + 1) (cur.getD (2 * i) 0)) (i + 1) := by
 obtain ⟨h1, h3⟩ := h
 refine ⟨by simpa using h1, fun k hk => ?_⟩
 rw [Dg.getD_set _ _ _ _ (by simp; omega), Dg.getD_set _ _ _ _ (by omega)]
 by_cases e1 : 2 * i + 1 = k
 ·rw [if_pos e1, if_pos (by omega), h3 _ (by omega), if_neg (by omega), ← e1]
  congr 1
  omega
 ·rw [if_neg e1]
  by_cases e2 : 2 * i = k
  ·rw [if_pos e2, if_pos (by omega), h3 _ (by omega), if_neg (by omega), ← e2]
   congr 1
   omega
  ·rw [if_neg e2, h3 k hk]
   by_cases e3 : k < 2 * i
   ·rw [if_pos e3, if_pos (by omega)]
   ·rw [if_neg e3, if_neg (by omega)]
theorem wi_end {zs cur : List Nat} {i : Nat} (h : WI zs cur i) (hi : zs.length ≤ 2 * i) : cur = turnW zs := by
 obtain ⟨h1, h3⟩ := h
 apply List.ext_getElem (by rw [turnW_len]; exact h1)
 intro k hk1 hk2
 have hk : k < zs.length := by omega
 have e1 : cur.getD k 0 = cur[k] := by simp [List.getD_eq_getElem?_getD, hk1]
 have e2 : (turnW zs).getD k 0 = (turnW zs)[k] := by simp only [List.getD_eq_getElem?_getD, List.getElem?_eq_getElem hk2, Option.getD_some]
 rw [← e1, ← e2, h3 k hk, if_pos (by omega), turnW_at zs k hk]
set_option maxHeartbeats 3200000 in
theorem breverse_any (g cap : Nat) (zs : List Nat) (w : World) (ho : BRow w g zs) (hl : zs.length ≤ 1000000000) :
  Calls Tryz.prog 202 #[.slice (some ⟨g, 0, none⟩) zs.length cap] w fun e w' =>
   e = .returned (.tuple #[]) ∧ BRow w' g zs.reverse ∧ w.grownBy w' (some g) := by
 go_enter Tryz.func202, Tryz.ntmps202
 go_wp2
 go_loopw [2, 3] (fun iv jv wr => ∃ (i : Nat) (cur : List Nat), iv = .int .i64 i ∧ jv = .int .i64 ((zs.length : Int) - 1 - i) ∧ BRow wr g cur ∧ RevI zs cur i ∧ w.grownBy wr (some g))
  (fun iv jv _ => (intOf jv + 1 - intOf iv).toNat)
 case atStart => exact ⟨0, zs, rfl, by go_num, ho, ⟨rfl, by omega, fun k hk => by rw [if_neg (by omega)]⟩, grown_refl _ _⟩
 case round =>
  obtain ⟨i, cur, rfl, rfl, own, hI, gr⟩ := hrel
  have h1 := hI.1
  have h2 := hI.2.1
  by_cases hij : i < zs.length - 1 - i
  ·obtain ⟨j, hj⟩ : ∃ j, zs.length - 1 - i = j := ⟨_, rfl⟩
   have hjI : (zs.length : Int) - 1 - i = (j : Int) := by omega
   have ci := own.cell i (by omega)
   have cj := own.cell j (by omega)
   have fi := own.free i (by omega)
   have fj := own.free j (by omega)
   have hst := revI_step hI hij
   rw [hj] at hst hij
   rw [hjI]
   have hjl : j < zs.length := by omega
   have Hj : Hid _ := hjI
   obtain ⟨x, ex⟩ : ∃ x, cur.getD i 0 = x := ⟨_, rfl⟩
   obtain ⟨y, ey⟩ : ∃ y, cur.getD j 0 = y := ⟨_, rfl⟩
   rw [ex] at ci hst
   rw [ey] at cj hst
   clear hj hjI ex ey hI
   go_wp2
   go_region
   all_goals go_wp2
   all_goals go_roundw
   case rel => exact ⟨i + 1, _, by go_num, by have := Hj.out; go_num, ((own.store i y).store j x).drew, hst, grown_trans (grown_trans gr (grown_set _ _ _ _)) ((grown_trans (grown_set _ _ _ _) (grown_drew _ _)))⟩
   case measure => have := Hj.out; simp [intOf]; omega
  ·have hd : ¬ ((i : Int) < (zs.length : Int) - 1 - i) := by omega
   go_wp2
   go_end0
   rw [← revI_end hI hij]
   exact ⟨rfl, own, gr⟩
set_option maxHeartbeats 3200000 in
theorem words_any (g cap m : Nat) (zs : List Nat) (w : World) (ho : BRow w g zs) (hl : zs.length ≤ 1000000000) (hm : zs.length = 2 * m) :
  Calls Tryz.prog 203 #[.slice (some ⟨g, 0, none⟩) zs.length cap] w fun e w' =>
   e = .returned (.tuple #[]) ∧ BRow w' g (turnW zs) ∧ w.grownBy w' (some g) := by
 go_enter Tryz.func203, Tryz.ntmps203
 go_wp2
 go_loopw [2] (fun iv wr => ∃ (i : Nat) (cur : List Nat), iv = .int .i64 ((2 * i : Nat) : Int) ∧ BRow wr g cur ∧ WI zs cur i ∧ i ≤ m ∧ w.grownBy wr (some g))
  (fun iv _ => ((zs.length : Int) - intOf iv).toNat)
 case atStart => exact ⟨0, zs, rfl, ho, ⟨rfl, fun k hk => by rw [if_neg (by omega)]⟩, by omega, grown_refl _ _⟩
 case round =>
  obtain ⟨i, cur, rfl, own, hI, him, gr⟩ := hrel
  have h1 := hI.1
  by_cases hij : i < m
  ·obtain ⟨a, ha⟩ : ∃ a, 2 * i = a := ⟨_, rfl⟩
   have ci := own.cell a (by omega)
   have cj := own.cell (a + 1) (by omega)
   have fi := own.free a (by omega)
   have fj := own.free (a + 1) (by omega)
   have hst := wi_step hI (by omega)
   rw [ha] at hst ⊢
   have hal : a + 1 < zs.length := by omega
   have Ha : Hid _ := ha
   obtain ⟨x, ex⟩ : ∃ x, cur.getD a 0 = x := ⟨_, rfl⟩
   obtain ⟨y, ey⟩ : ∃ y, cur.getD (a + 1) 0 = y := ⟨_, rfl⟩
   rw [ex] at ci hst
   rw [ey] at cj hst
   clear ha ex ey hI hm
   go_wp2
   go_region
   all_goals go_wp2
   all_goals go_roundw
   case rel => exact ⟨i + 1, _, by have := Ha.out; go_num, ((own.store a y).store (a + 1) x).drew, hst, by omega, grown_trans (grown_trans gr (grown_set _ _ _ _)) ((grown_trans (grown_set _ _ _ _) (grown_drew _ _)))⟩
   case measure => simp [intOf]; omega
  ·have hd : ¬ (((2 * i : Nat) : Int) + 1 < (zs.length : Int)) := by omega
   go_wp2
   go_end0
   rw [← wi_end hI (by omega)]
   exact ⟨rfl, own, gr⟩
end Go.Proofs.YtnhackdjplppjaaGreatDoor
namespace Go.Proofs.YtnhackdjplppjaaGreatDoor
open Go.RowKit
theorem bit_join (x y r : Nat) (hx : x < 9223372036854775808) (hy : y < 256) : bits .or .u64 (IntKind.u64.wrap ((x : Int) * 2)) (IntKind.u64.wrap (bits .and .u8 ((y : Int) / 2 ^ (7 - r)) 1)) = ((2 * x + y / 2 ^ (7 - r) % 2 : Nat) : Int) := by
 have e1 : (y : Int) / 2 ^ (7 - r) = ((y / 2 ^ (7 - r) : Nat) : Int) := by simp
 have h1 : y / 2 ^ (7 - r) < 256 := Nat.lt_of_le_of_lt (Nat.div_le_self _ _) hy
 have e2 := u8_and_nat (y / 2 ^ (7 - r)) 1 h1 (by omega)
 rw [Nat.and_one_is_mod] at e2
 rw [e1, show (1 : Int) = ((1 : Nat) : Int) from rfl, e2]
 have h2 := Nat.mod_lt (y / 2 ^ (7 - r)) (show 0 < 2 by omega)
 generalize y / 2 ^ (7 - r) % 2 = b at *
 rw [IntKind.wrap_u64, IntKind.wrap_u64, show ((x : Int) * 2) % 18446744073709551616 = ((2 * x : Nat) : Int) from by omega, show (b : Int) % 18446744073709551616 = (b : Int) from by omega]
 rw [u64_or_nat _ _ (by omega) (by omega), nat_join 1 _ _ (by omega) (by omega)]
set_option maxHeartbeats 3200000 in
theorem cbits_any (g cap : Nat) (zs : List Nat) (f c : Nat) (w : World) (hr : BRow w g zs) (hs : Dg.Small 256 zs) (hc : c ≤ 64) (hfc : f + c ≤ 8 * zs.length) (hl : zs.length ≤ 1000) :
  Calls Tryz.prog 196 #[.slice (some ⟨g, 0, none⟩) zs.length cap, .int .i64 f, .int .i64 c] w fun e w' => e = .returned (.int .u64 (bitsV zs f c : Nat)) ∧ w' = w := by
 go_enter Tryz.func196, Tryz.ntmps196
 go_wp2
 go_loop [7, 8] (fun xv iv => ∃ j i x : Nat, Hid (i = f + j) ∧ j ≤ c ∧ iv = .int .i64 (i : Int) ∧ xv = .int .u64 (x : Int) ∧ Hid (x = bitsV zs f j)) (fun xv iv => ((f : Int) + c - intOf iv).toNat)
 case atStart => exact ⟨0, f, 0, rfl, by omega, rfl, rfl, rfl⟩
 case round =>
  obtain ⟨j, i, x, Hi, hj, rfl, rfl, hx⟩ := hrel
  have hi := Hi.out
  by_cases hjc : j < c
  ·obtain ⟨q, hq⟩ : ∃ q, i / 8 = q := ⟨_, rfl⟩
   obtain ⟨r, hr'⟩ : ∃ r, i % 8 = r := ⟨_, rfl⟩
   have hqI : (i : Int) / 8 = (q : Int) := by omega
   have hrI : (i : Int) % 8 = (r : Int) := by omega
   have hcell := hr.cell q (by omega)
   have hsm := hs q
   obtain ⟨y, hy⟩ : ∃ y, zs.getD q 0 = y := ⟨_, rfl⟩
   rw [hy] at hcell hsm
   have hql : q < zs.length := by omega
   have hr8 : r < 8 := by omega
   have HH : Hid (_ ∧ _ ∧ _ ∧ _) := ⟨hi, hq, hr', hy⟩
   have hic : (i : Int) < (f : Int) + (c : Int) := by omega
   have hib : (i : Int) ≤ 8000 := by omega
   clear hi hq hr' hy
   go_wp2
   obtain ⟨hi, hq, hr', hy⟩ := HH.out
   have hxl := bitsV_lt zs f j
   have hpw : (2 : Nat) ^ j ≤ 2 ^ 63 := Nat.pow_le_pow_right (by omega) (by omega)
   refine ⟨⟨j + 1, i + 1, 2 * x + y / 2 ^ (7 - r) % 2, ?_, by omega, rfl, ?_, ?_⟩, ?_⟩
   ·show i + 1 = f + (j + 1)
    omega
   ·rw [bit_join x y r (by have := hx.out; omega) hsm]
   ·show 2 * x + y / 2 ^ (7 - r) % 2 = bitsV zs f (j + 1)
    have := hx.out
    rw [bitsV, ← this, bitB, ← hi, hq, hr', hy]
   ·simp only [intOf]
    omega
  ·have hd : ¬ ((i : Int) < (f : Int) + (c : Int)) := by omega
   have hjc' : j = c := by omega
   have HX : Hid (_ ∧ _) := ⟨hx.out, hjc'⟩
   have hib : (i : Int) ≤ 8000 := by omega
   clear hi hjc'
   go_wp2
   go_ret
   obtain ⟨h1, h2⟩ := HX.out
   subst h1 h2
   exact ⟨rfl, rfl⟩
end Go.Proofs.YtnhackdjplppjaaGreatDoor
namespace Go.Proofs.YtnhackdjplppjaaGreatDoor
open Go.RowKit
def turnB (k : Nat) (zs : List Nat) : List Nat := if k = 3 then zs.reverse else if 6 ≤ k then turnW zs else zs
theorem turnB_len (k : Nat) (zs : List Nat) : (turnB k zs).length = zs.length := by
 unfold turnB
 split
 ·simp
 ·split
  ·exact turnW_len zs
  ·rfl
theorem turnB_small (k : Nat) (zs : List Nat) (h : Dg.Small 256 zs) : Dg.Small 256 (turnB k zs) := by
 unfold turnB
 split
 ·intro i
  by_cases hi : i < zs.length
  ·rw [List.getD_eq_getElem?_getD, List.getElem?_reverse hi, ← List.getD_eq_getElem?_getD]
   exact h _
  ·rw [List.getD_eq_getElem?_getD, List.getElem?_eq_none (by simpa using hi)]
   simp
 ·split
  ·intro i
   by_cases hi : i < zs.length
   ·rw [turnW_at zs i hi]
    exact h _
   ·rw [List.getD_eq_getElem?_getD, List.getElem?_eq_none (by rw [turnW_len]; omega)]
    simp
  ·exact h
theorem turn1_any (v : Value) (w : World) : Calls Tryz.prog 200 #[v] w fun e w' => e = .returned (.tuple #[]) ∧ w' = w := by
 go_enter Tryz.func200, Tryz.ntmps200
 go_wp2
 go_end0
 exact ⟨rfl, rfl⟩
set_option maxHeartbeats 1600000 in
theorem turn2_any (g cap : Nat) (zs : List Nat) (w : World) (ho : BRow w g zs) (hl : zs.length ≤ 1000000000) :
  Calls Tryz.prog 201 #[.slice (some ⟨g, 0, none⟩) zs.length cap] w fun e w' => e = .returned (.tuple #[]) ∧ BRow w' g zs.reverse ∧ w.grownBy w' (some g) := by
 have hr := breverse_any g cap zs w ho hl
 go_enter Tryz.func201, Tryz.ntmps201
 go_wp2_with fail
 refine hr.mono ?_
 rintro z w1 ⟨rfl, r1, g1⟩
 go_wp2
 go_end0
 exact ⟨rfl, r1, g1⟩
def turnF (k : Nat) : Nat := if k = 3 then 201 else if 6 ≤ k then 203 else 200
theorem turnF_any (k : Nat) (g cap : Nat) (zs : List Nat) (w : World) (ho : BRow w g zs) (hl : zs.length ≤ 1000) (hev : ∃ m, zs.length = 2 * m) :
  Calls Tryz.prog (turnF k) #[.slice (some ⟨g, 0, none⟩) zs.length cap] w fun e w' => e = .returned (.tuple #[]) ∧ BRow w' g (turnB k zs) ∧ w.grownBy w' (some g) := by
 unfold turnF turnB
 by_cases h3 : k = 3
 ·rw [if_pos h3, if_pos h3]
  exact turn2_any g cap zs w ho (by omega)
 ·rw [if_neg h3, if_neg h3]
  by_cases h6 : 6 ≤ k
  ·rw [if_pos h6, if_pos h6]
   obtain ⟨m, hm⟩ := hev
   exact words_any g cap m zs w ho (by omega) hm
  ·rw [if_neg h6, if_neg h6]
   refine (turn1_any _ w).mono ?_
   rintro z w1 ⟨rfl, rfl⟩
   exact ⟨rfl, ho, grown_refl _ _⟩
theorem center_of {P : Program} {f : FuncId} {fn : Func} {c : Code} (hf : P.funcs[f]? = some fn) (hname : (fn.name == "runtime.NumGoroutine") = false) (hb : fn.body = some c) (args : Array Value) (w : World) : Sem.run P (callFunc f args) w = .ok (.enter f args) w := by
 have hn : ¬fn.name = "runtime.NumGoroutine" := by simpa using hname
 simp [callFunc, hf, hn, hb]
theorem turnF_enter (k : Nat) (args : Array Value) (W : World) : Sem.run Tryz.prog (callFunc (turnF k) args) W = .ok (.enter (turnF k) args) W := by
 unfold turnF
 split
 ·exact center_of Tryz.func201 (by kernel_rfl) rfl args W
 ·split
  ·exact center_of Tryz.func203 (by kernel_rfl) rfl args W
  ·exact center_of Tryz.func200 (by kernel_rfl) rfl args W
theorem bytes_run {P : Program} (W : World) (src dst e : TypeId) (s : ByteArray) (hs : P.underlying src = some .string) (hd : P.underlying dst = some (.slice e)) (he : P.underlying e = some (.int .u8)) :
  ∃ W1 cap, (convert src dst (.string s)).run P W = .ok (.slice (some ⟨W.heap.size, 0, none⟩) s.size cap) W1 ∧ BRow W1 W.heap.size (bytesOf s) ∧ Below W.heap.size W W1 := by
 refine ⟨_, _, run_bytes_of_string W src dst e s hs hd he, ?_, ?_⟩
 ·refine ⟨fun i hi => ?_, fun i hi => ?_, ?_⟩
  ·have hi' : i < s.data.size := by rw [bytesOf_len] at hi; exact hi
   rw [show W.heap.size = W.drew.heap.size from rfl, World.cell?_alloc_mark, bytesRow_at s _ i hi', bytesOf, List.getD_eq_getElem?_getD, List.getElem?_map, Array.getElem?_toList, Array.getElem?_eq_getElem hi']
   rfl
  ·have hi' : i < s.data.size := by rw [bytesOf_len] at hi; exact hi
   rw [show W.heap.size = W.drew.heap.size from rfl, World.frozen?_alloc_mark]
   have : ¬ ((bytesRow s (grownCap W s.size 0 e)).size ≤ i) := by
    unfold bytesRow
    rw [Array.size_append, Array.size_map]
    omega
   simp [this]
  ·show W.heap.size < (W.drew.alloc _).heap.size
   rw [World.size_alloc]
   exact Nat.lt_succ_self _
 ·exact ((Below.refl _ _).drew).alloc (Nat.le_refl _) _
end Go.Proofs.YtnhackdjplppjaaGreatDoor

/-
  Texts laid together: Co20.
-/
import Derived.Test.YtnhackdjplppjaaGreatDoorAt05
set_option maxRecDepth 100000
namespace Go.Proofs.YtnhackdjplppjaaGreatDoor
open Go.RowKit
structure SpcF (w : World) (lv : List Value) (w' : World) : Prop where
 l : LocE w' w.heap.size 144 lv
 m : LocE w' (w.heap.size + 1) 147 [.bool false, .int .i64 0, .int .u64 0]
 b : Below w.heap.size w w'
theorem SpcF.later {w w1 w2 : World} {lv : List Value} (h : SpcF w lv w1) (b : Below w1.heap.size w1 w2) : SpcF w lv w2 := ⟨h.l.later b, h.m.later b, below_trans h.b b⟩
set_option maxHeartbeats 3200000 in
theorem special_zero (R D L G fam : Int) (gr : Bool) (sz ex : Nat) (F : Nat) (w : World)  : Calls Tryz.prog 156 #[.agg #[.int .i64 R, .int .i64 D, .int .i64 L, .int .i64 G, .bool gr, .int .i64 (sz : Int), .int .i64 (ex : Int), .int .i64 fam, .func (.func F) #[] #[]], .int .i64 1] w fun z w' => z = .returned (.tuple #[.agg #[.bool false, .int .i64 0, .int .u64 0], .bool true]) ∧ Below w.heap.size w w' := by
 have hsf := hsf_z
 have bf := below_alloc (w.alloc (.cells #[.int .i64 R, .int .i64 D, .int .i64 L, .int .i64 G, .bool gr, .int .i64 (sz : Int), .int .i64 (ex : Int), .int .i64 fam, .func (.func F) #[] #[]] 144)) (.cells #[.bool false, .int .i64 0, .int .u64 0] 147)
 have l0 := (locE_new w [.int .i64 R, .int .i64 D, .int .i64 L, .int .i64 G, .bool gr, .int .i64 (sz : Int), .int .i64 (ex : Int), .int .i64 fam, .func (.func F) #[] #[]] 144).later bf
 have m0 := locE_new (w.alloc (.cells #[.int .i64 R, .int .i64 D, .int .i64 L, .int .i64 G, .bool gr, .int .i64 (sz : Int), .int .i64 (ex : Int), .int .i64 fam, .func (.func F) #[] #[]] 144)) [.bool false, .int .i64 0, .int .u64 0] 147
 have b0 := below_trans (below_alloc w (.cells #[.int .i64 R, .int .i64 D, .int .i64 L, .int .i64 G, .bool gr, .int .i64 (sz : Int), .int .i64 (ex : Int), .int .i64 fam, .func (.func F) #[] #[]] 144)) bf
 rw [World.size_alloc] at m0
 clear bf
 obtain ⟨x0, x1, x2, x3, x4, x5, x6, x7, x8⟩ := l0.cs9; obtain ⟨u0, u1, u2⟩ := m0.cs3; have j0 := m0.free 0; have j1 := m0.free 1; have j2 := m0.free 2
 have cR := locE_new (w.alloc (.cells #[.int .i64 R, .int .i64 D, .int .i64 L, .int .i64 G, .bool gr, .int .i64 (sz : Int), .int .i64 (ex : Int), .int .i64 fam, .func (.func F) #[] #[]] 144)) [.bool false, .int .i64 0, .int .u64 0] 147
 rw [World.size_alloc] at cR
 have bR := below_trans (below_alloc w (.cells #[.int .i64 R, .int .i64 D, .int .i64 L, .int .i64 G, .bool gr, .int .i64 (sz : Int), .int .i64 (ex : Int), .int .i64 fam, .func (.func F) #[] #[]] 144)) (below_alloc _ (.cells #[.bool false, .int .i64 0, .int .u64 0] 147))
 have hl := run_loadVar_mid (P := Tryz.prog) _ (w.heap.size + 1) 0 147 [.bool false, .int .i64 0, .int .u64 0] _ cR.range Tryz.underlying147 rfl (by kernel_rfl)
 have HH : Hid (_ ∧ _) := ⟨hl, bR⟩
 clear hl bR cR
 go_enter Tryz.func156, Tryz.ntmps156
 go_wp2
 obtain ⟨hl, bR⟩ := HH.out
 exact bodyPost_ret (results_two Tryz.results156 rfl rfl hl) rfl ⟨rfl, bR⟩
set_option maxHeartbeats 3200000 in
theorem special_no3 (R D L G fam : Int) (gr : Bool) (sz ex : Nat) (F : Nat) (w : World) (hfa : (fam == 1) = false) : Calls Tryz.prog 156 #[.agg #[.int .i64 R, .int .i64 D, .int .i64 L, .int .i64 G, .bool gr, .int .i64 (sz : Int), .int .i64 (ex : Int), .int .i64 fam, .func (.func F) #[] #[]], .int .i64 3] w fun z w' => z = .returned (.tuple #[.agg #[.bool false, .int .i64 0, .int .u64 0], .bool false]) ∧ Below w.heap.size w w' := by
 have hsf := hsf_z
 have bf := below_alloc (w.alloc (.cells #[.int .i64 R, .int .i64 D, .int .i64 L, .int .i64 G, .bool gr, .int .i64 (sz : Int), .int .i64 (ex : Int), .int .i64 fam, .func (.func F) #[] #[]] 144)) (.cells #[.bool false, .int .i64 0, .int .u64 0] 147)
 have l0 := (locE_new w [.int .i64 R, .int .i64 D, .int .i64 L, .int .i64 G, .bool gr, .int .i64 (sz : Int), .int .i64 (ex : Int), .int .i64 fam, .func (.func F) #[] #[]] 144).later bf
 have m0 := locE_new (w.alloc (.cells #[.int .i64 R, .int .i64 D, .int .i64 L, .int .i64 G, .bool gr, .int .i64 (sz : Int), .int .i64 (ex : Int), .int .i64 fam, .func (.func F) #[] #[]] 144)) [.bool false, .int .i64 0, .int .u64 0] 147
 have b0 := below_trans (below_alloc w (.cells #[.int .i64 R, .int .i64 D, .int .i64 L, .int .i64 G, .bool gr, .int .i64 (sz : Int), .int .i64 (ex : Int), .int .i64 fam, .func (.func F) #[] #[]] 144)) bf
 rw [World.size_alloc] at m0
 clear bf
 obtain ⟨x0, x1, x2, x3, x4, x5, x6, x7, x8⟩ := l0.cs9; obtain ⟨u0, u1, u2⟩ := m0.cs3; have j0 := m0.free 0; have j1 := m0.free 1; have j2 := m0.free 2
 have cR := locE_new (w.alloc (.cells #[.int .i64 R, .int .i64 D, .int .i64 L, .int .i64 G, .bool gr, .int .i64 (sz : Int), .int .i64 (ex : Int), .int .i64 fam, .func (.func F) #[] #[]] 144)) [.bool false, .int .i64 0, .int .u64 0] 147
 rw [World.size_alloc] at cR
 have bR := below_trans (below_alloc w (.cells #[.int .i64 R, .int .i64 D, .int .i64 L, .int .i64 G, .bool gr, .int .i64 (sz : Int), .int .i64 (ex : Int), .int .i64 fam, .func (.func F) #[] #[]] 144)) (below_alloc _ (.cells #[.bool false, .int .i64 0, .int .u64 0] 147))
 have hl := run_loadVar_mid (P := Tryz.prog) _ (w.heap.size + 1) 0 147 [.bool false, .int .i64 0, .int .u64 0] _ cR.range Tryz.underlying147 rfl (by kernel_rfl)
 have HH : Hid (_ ∧ _) := ⟨hl, bR⟩
 clear hl bR cR
 go_enter Tryz.func156, Tryz.ntmps156
 go_wp2
 obtain ⟨hl, bR⟩ := HH.out
 exact bodyPost_ret (results_two Tryz.results156 rfl rfl hl) rfl ⟨rfl, bR⟩
set_option maxHeartbeats 3200000 in
theorem special_no4 (R D L G fam : Int) (gr : Bool) (sz ex : Nat) (F : Nat) (w : World) (hfa : (fam == 1) = false) : Calls Tryz.prog 156 #[.agg #[.int .i64 R, .int .i64 D, .int .i64 L, .int .i64 G, .bool gr, .int .i64 (sz : Int), .int .i64 (ex : Int), .int .i64 fam, .func (.func F) #[] #[]], .int .i64 4] w fun z w' => z = .returned (.tuple #[.agg #[.bool false, .int .i64 0, .int .u64 0], .bool false]) ∧ Below w.heap.size w w' := by
 have hsf := hsf_z
 have bf := below_alloc (w.alloc (.cells #[.int .i64 R, .int .i64 D, .int .i64 L, .int .i64 G, .bool gr, .int .i64 (sz : Int), .int .i64 (ex : Int), .int .i64 fam, .func (.func F) #[] #[]] 144)) (.cells #[.bool false, .int .i64 0, .int .u64 0] 147)
 have l0 := (locE_new w [.int .i64 R, .int .i64 D, .int .i64 L, .int .i64 G, .bool gr, .int .i64 (sz : Int), .int .i64 (ex : Int), .int .i64 fam, .func (.func F) #[] #[]] 144).later bf
 have m0 := locE_new (w.alloc (.cells #[.int .i64 R, .int .i64 D, .int .i64 L, .int .i64 G, .bool gr, .int .i64 (sz : Int), .int .i64 (ex : Int), .int .i64 fam, .func (.func F) #[] #[]] 144)) [.bool false, .int .i64 0, .int .u64 0] 147
 have b0 := below_trans (below_alloc w (.cells #[.int .i64 R, .int .i64 D, .int .i64 L, .int .i64 G, .bool gr, .int .i64 (sz : Int), .int .i64 (ex : Int), .int .i64 fam, .func (.func F) #[] #[]] 144)) bf
 rw [World.size_alloc] at m0
 clear bf
 obtain ⟨x0, x1, x2, x3, x4, x5, x6, x7, x8⟩ := l0.cs9; obtain ⟨u0, u1, u2⟩ := m0.cs3; have j0 := m0.free 0; have j1 := m0.free 1; have j2 := m0.free 2
 have cR := locE_new (w.alloc (.cells #[.int .i64 R, .int .i64 D, .int .i64 L, .int .i64 G, .bool gr, .int .i64 (sz : Int), .int .i64 (ex : Int), .int .i64 fam, .func (.func F) #[] #[]] 144)) [.bool false, .int .i64 0, .int .u64 0] 147
 rw [World.size_alloc] at cR
 have bR := below_trans (below_alloc w (.cells #[.int .i64 R, .int .i64 D, .int .i64 L, .int .i64 G, .bool gr, .int .i64 (sz : Int), .int .i64 (ex : Int), .int .i64 fam, .func (.func F) #[] #[]] 144)) (below_alloc _ (.cells #[.bool false, .int .i64 0, .int .u64 0] 147))
 have hl := run_loadVar_mid (P := Tryz.prog) _ (w.heap.size + 1) 0 147 [.bool false, .int .i64 0, .int .u64 0] _ cR.range Tryz.underlying147 rfl (by kernel_rfl)
 have HH : Hid (_ ∧ _) := ⟨hl, bR⟩
 clear hl bR cR
 go_enter Tryz.func156, Tryz.ntmps156
 go_wp2
 obtain ⟨hl, bR⟩ := HH.out
 exact bodyPost_ret (results_two Tryz.results156 rfl rfl hl) rfl ⟨rfl, bR⟩
set_option maxHeartbeats 3200000 in
theorem special_no5 (R D L G fam : Int) (gr : Bool) (sz ex : Nat) (F : Nat) (w : World) (hfa : (fam == 3) = false) : Calls Tryz.prog 156 #[.agg #[.int .i64 R, .int .i64 D, .int .i64 L, .int .i64 G, .bool gr, .int .i64 (sz : Int), .int .i64 (ex : Int), .int .i64 fam, .func (.func F) #[] #[]], .int .i64 5] w fun z w' => z = .returned (.tuple #[.agg #[.bool false, .int .i64 0, .int .u64 0], .bool false]) ∧ Below w.heap.size w w' := by
 have hsf := hsf_z
 have bf := below_alloc (w.alloc (.cells #[.int .i64 R, .int .i64 D, .int .i64 L, .int .i64 G, .bool gr, .int .i64 (sz : Int), .int .i64 (ex : Int), .int .i64 fam, .func (.func F) #[] #[]] 144)) (.cells #[.bool false, .int .i64 0, .int .u64 0] 147)
 have l0 := (locE_new w [.int .i64 R, .int .i64 D, .int .i64 L, .int .i64 G, .bool gr, .int .i64 (sz : Int), .int .i64 (ex : Int), .int .i64 fam, .func (.func F) #[] #[]] 144).later bf
 have m0 := locE_new (w.alloc (.cells #[.int .i64 R, .int .i64 D, .int .i64 L, .int .i64 G, .bool gr, .int .i64 (sz : Int), .int .i64 (ex : Int), .int .i64 fam, .func (.func F) #[] #[]] 144)) [.bool false, .int .i64 0, .int .u64 0] 147
 have b0 := below_trans (below_alloc w (.cells #[.int .i64 R, .int .i64 D, .int .i64 L, .int .i64 G, .bool gr, .int .i64 (sz : Int), .int .i64 (ex : Int), .int .i64 fam, .func (.func F) #[] #[]] 144)) bf
 rw [World.size_alloc] at m0
 clear bf
 obtain ⟨x0, x1, x2, x3, x4, x5, x6, x7, x8⟩ := l0.cs9; obtain ⟨u0, u1, u2⟩ := m0.cs3; have j0 := m0.free 0; have j1 := m0.free 1; have j2 := m0.free 2
 have cR := locE_new (w.alloc (.cells #[.int .i64 R, .int .i64 D, .int .i64 L, .int .i64 G, .bool gr, .int .i64 (sz : Int), .int .i64 (ex : Int), .int .i64 fam, .func (.func F) #[] #[]] 144)) [.bool false, .int .i64 0, .int .u64 0] 147
 rw [World.size_alloc] at cR
 have bR := below_trans (below_alloc w (.cells #[.int .i64 R, .int .i64 D, .int .i64 L, .int .i64 G, .bool gr, .int .i64 (sz : Int), .int .i64 (ex : Int), .int .i64 fam, .func (.func F) #[] #[]] 144)) (below_alloc _ (.cells #[.bool false, .int .i64 0, .int .u64 0] 147))
 have hl := run_loadVar_mid (P := Tryz.prog) _ (w.heap.size + 1) 0 147 [.bool false, .int .i64 0, .int .u64 0] _ cR.range Tryz.underlying147 rfl (by kernel_rfl)
 have HH : Hid (_ ∧ _) := ⟨hl, bR⟩
 clear hl bR cR
 go_enter Tryz.func156, Tryz.ntmps156
 go_wp2
 obtain ⟨hl, bR⟩ := HH.out
 exact bodyPost_ret (results_two Tryz.results156 rfl rfl hl) rfl ⟨rfl, bR⟩
set_option maxHeartbeats 3200000 in
theorem special_res (R D L G fam : Int) (gr : Bool) (sz ex : Nat) (F : Nat) (w : World) (hfa : fam = 3) : Calls Tryz.prog 156 #[.agg #[.int .i64 R, .int .i64 D, .int .i64 L, .int .i64 G, .bool gr, .int .i64 (sz : Int), .int .i64 (ex : Int), .int .i64 fam, .func (.func F) #[] #[]], .int .i64 5] w fun z w' => z = .returned (.tuple #[.agg #[.bool true, .int .i64 0, .int .u64 0], .bool true]) ∧ Below w.heap.size w w' := by
 subst hfa
 have hsf := hsf_z
 have bf := below_alloc (w.alloc (.cells #[.int .i64 R, .int .i64 D, .int .i64 L, .int .i64 G, .bool gr, .int .i64 (sz : Int), .int .i64 (ex : Int), .int .i64 3, .func (.func F) #[] #[]] 144)) (.cells #[.bool false, .int .i64 0, .int .u64 0] 147)
 have l0 := (locE_new w [.int .i64 R, .int .i64 D, .int .i64 L, .int .i64 G, .bool gr, .int .i64 (sz : Int), .int .i64 (ex : Int), .int .i64 3, .func (.func F) #[] #[]] 144).later bf
 have m0 := locE_new (w.alloc (.cells #[.int .i64 R, .int .i64 D, .int .i64 L, .int .i64 G, .bool gr, .int .i64 (sz : Int), .int .i64 (ex : Int), .int .i64 3, .func (.func F) #[] #[]] 144)) [.bool false, .int .i64 0, .int .u64 0] 147
 have b0 := below_trans (below_alloc w (.cells #[.int .i64 R, .int .i64 D, .int .i64 L, .int .i64 G, .bool gr, .int .i64 (sz : Int), .int .i64 (ex : Int), .int .i64 3, .func (.func F) #[] #[]] 144)) bf
 rw [World.size_alloc] at m0
 clear bf
 obtain ⟨x0, x1, x2, x3, x4, x5, x6, x7, x8⟩ := l0.cs9; obtain ⟨u0, u1, u2⟩ := m0.cs3; have j0 := m0.free 0; have j1 := m0.free 1; have j2 := m0.free 2
 have cR := locE_new (w.alloc (.cells #[.int .i64 R, .int .i64 D, .int .i64 L, .int .i64 G, .bool gr, .int .i64 (sz : Int), .int .i64 (ex : Int), .int .i64 3, .func (.func F) #[] #[]] 144)) [.bool true, .int .i64 0, .int .u64 0] 147
 rw [World.size_alloc] at cR
 have bR := below_trans (below_alloc w (.cells #[.int .i64 R, .int .i64 D, .int .i64 L, .int .i64 G, .bool gr, .int .i64 (sz : Int), .int .i64 (ex : Int), .int .i64 3, .func (.func F) #[] #[]] 144)) (below_alloc _ (.cells #[.bool true, .int .i64 0, .int .u64 0] 147))
 have hl := run_loadVar_mid (P := Tryz.prog) _ (w.heap.size + 1) 0 147 [.bool true, .int .i64 0, .int .u64 0] _ cR.range Tryz.underlying147 rfl (by kernel_rfl)
 have HH : Hid (_ ∧ _) := ⟨hl, bR⟩
 clear hl bR cR
 go_enter Tryz.func156, Tryz.ntmps156
 go_wp2
 obtain ⟨hl, bR⟩ := HH.out
 exact bodyPost_ret (results_two Tryz.results156 rfl rfl hl) rfl ⟨rfl, bR⟩
set_option maxHeartbeats 3200000 in
theorem special_inf (R D L G : Int) (gr : Bool) (sz ex : Nat) (F : Nat) (w : World) (on wr : Nat)
  (Hones : ∀ w1, Calls Tryz.prog 205 #[.agg #[.int .i64 R, .int .i64 D, .int .i64 L, .int .i64 G, .bool gr, .int .i64 (sz : Int), .int .i64 (ex : Int), .int .i64 1, .func (.func F) #[] #[]]] w1 fun z w' => z = .returned (.int .i64 (on : Int)) ∧ Below w1.heap.size w1 w')
  (Hwritten : ∀ w1, Calls Tryz.prog 206 #[.agg #[.int .i64 R, .int .i64 D, .int .i64 L, .int .i64 G, .bool gr, .int .i64 (sz : Int), .int .i64 (ex : Int), .int .i64 1, .func (.func F) #[] #[]]] w1 fun z w' => z = .returned (.int .u64 (wr : Int)) ∧ Below w1.heap.size w1 w') : Calls Tryz.prog 156 #[.agg #[.int .i64 R, .int .i64 D, .int .i64 L, .int .i64 G, .bool gr, .int .i64 (sz : Int), .int .i64 (ex : Int), .int .i64 1, .func (.func F) #[] #[]], .int .i64 3] w fun z w' => z = .returned (.tuple #[.agg #[.bool false, .int .i64 (on : Int), .int .u64 (wr : Int)], .bool true]) ∧ Below w.heap.size w w' := by
 have hsf := hsf_z
 have bf := below_alloc (w.alloc (.cells #[.int .i64 R, .int .i64 D, .int .i64 L, .int .i64 G, .bool gr, .int .i64 (sz : Int), .int .i64 (ex : Int), .int .i64 1, .func (.func F) #[] #[]] 144)) (.cells #[.bool false, .int .i64 0, .int .u64 0] 147)
 have l0 := (locE_new w [.int .i64 R, .int .i64 D, .int .i64 L, .int .i64 G, .bool gr, .int .i64 (sz : Int), .int .i64 (ex : Int), .int .i64 1, .func (.func F) #[] #[]] 144).later bf
 have m0 := locE_new (w.alloc (.cells #[.int .i64 R, .int .i64 D, .int .i64 L, .int .i64 G, .bool gr, .int .i64 (sz : Int), .int .i64 (ex : Int), .int .i64 1, .func (.func F) #[] #[]] 144)) [.bool false, .int .i64 0, .int .u64 0] 147
 have b0 := below_trans (below_alloc w (.cells #[.int .i64 R, .int .i64 D, .int .i64 L, .int .i64 G, .bool gr, .int .i64 (sz : Int), .int .i64 (ex : Int), .int .i64 1, .func (.func F) #[] #[]] 144)) bf
 rw [World.size_alloc] at m0
 clear bf
 obtain ⟨x0, x1, x2, x3, x4, x5, x6, x7, x8⟩ := l0.cs9; obtain ⟨u0, u1, u2⟩ := m0.cs3; have j0 := m0.free 0; have j1 := m0.free 1; have j2 := m0.free 2
 have Hones' : Hid _ := Hones
 have Hwritten' : Hid _ := Hwritten
 have CX : SpcF w [.int .i64 R, .int .i64 D, .int .i64 L, .int .i64 G, .bool gr, .int .i64 (sz : Int), .int .i64 (ex : Int), .int .i64 1, .func (.func F) #[] #[]] _ := ⟨l0.drew, m0.drew, b0.drew⟩
 clear l0 m0 b0 Hones Hwritten
 go_enter Tryz.func156, Tryz.ntmps156
 go_wp2_with fail
 go_region_held3 (fun wq => wq.cell? ⟨w.heap.size, 0, none⟩ = some (.int .i64 R) ∧ wq.cell? ⟨w.heap.size, 1, none⟩ = some (.int .i64 D) ∧ wq.cell? ⟨w.heap.size, 2, none⟩ = some (.int .i64 L) ∧ wq.cell? ⟨w.heap.size, 3, none⟩ = some (.int .i64 G) ∧ wq.cell? ⟨w.heap.size, 4, none⟩ = some (.bool gr) ∧ wq.cell? ⟨w.heap.size, 5, none⟩ = some (.int .i64 (sz : Int)) ∧ wq.cell? ⟨w.heap.size, 6, none⟩ = some (.int .i64 (ex : Int)) ∧ wq.cell? ⟨w.heap.size, 7, none⟩ = some (.int .i64 1) ∧ wq.cell? ⟨w.heap.size, 8, none⟩ = some (.func (.func F) #[] #[])) (go_keep) (first
  | (go_at_call 205; refine (Hones'.out _).mono ?_; rintro z wones ⟨rfl, bb⟩; have CY := CX.later bb; clear CX; have CX := CY; clear CY bb; obtain ⟨lq, mq, -⟩ := id CX; obtain ⟨x0, x1, x2, x3, x4, x5, x6, x7, x8⟩ := lq.cs9; obtain ⟨u0, u1, u2⟩ := mq.cs3; have j0 := mq.free 0; have j1 := mq.free 1; have j2 := mq.free 2; clear lq mq)
  | (go_at_call 206; refine (Hwritten'.out _).mono ?_; rintro z wwritten ⟨rfl, bb⟩; have CY := CX.later bb; clear CX; have CX := CY; clear CY bb; obtain ⟨lq, mq, -⟩ := id CX; obtain ⟨x0, x1, x2, x3, x4, x5, x6, x7, x8⟩ := lq.cs9; obtain ⟨u0, u1, u2⟩ := mq.cs3; have j0 := mq.free 0; have j1 := mq.free 1; have j2 := mq.free 2; clear lq mq))
 have mz := CX.m
 have bz := CX.b
 have bu := ((but_set wwritten (w.heap.size + 1) 0 (.bool false)).trans (but_set _ (w.heap.size + 1) 1 (.int .i64 (on : Int)))).trans (but_set _ (w.heap.size + 1) 2 (.int .u64 (wr : Int)))
 have cR : LocE (((wwritten.setCell ⟨w.heap.size + 1, 0, none⟩ (.bool false)).setCell ⟨w.heap.size + 1, 1, none⟩ (.int .i64 (on : Int))).setCell ⟨w.heap.size + 1, 2, none⟩ (.int .u64 (wr : Int))) (w.heap.size + 1) 147 [.bool false, .int .i64 (on : Int), .int .u64 (wr : Int)] := (((mz.set 0 (.bool false)).set 1 (.int .i64 (on : Int))).set 2 (.int .u64 (wr : Int)))
 have bR := bu.below bz (by omega)
 have hl := run_loadVar_mid (P := Tryz.prog) _ (w.heap.size + 1) 0 147 [.bool false, .int .i64 (on : Int), .int .u64 (wr : Int)] _ cR.range Tryz.underlying147 rfl (by kernel_rfl)
 have HH : Hid (_ ∧ _) := ⟨hl, bR⟩
 clear hl bR cR bu
 clear mz bz CX
 go_wp2
 obtain ⟨hl, bR⟩ := HH.out
 exact bodyPost_ret (results_two Tryz.results156 rfl rfl hl) rfl ⟨rfl, bR⟩
set_option maxHeartbeats 3200000 in
theorem special_nan (R D L G : Int) (gr : Bool) (sz ex : Nat) (F : Nat) (w : World) (on wr ld : Nat) (hwl : wr < 18446744073709551616) (hld : ld < 18446744073709551616)
  (Hones : ∀ w1, Calls Tryz.prog 205 #[.agg #[.int .i64 R, .int .i64 D, .int .i64 L, .int .i64 G, .bool gr, .int .i64 (sz : Int), .int .i64 (ex : Int), .int .i64 1, .func (.func F) #[] #[]]] w1 fun z w' => z = .returned (.int .i64 (on : Int)) ∧ Below w1.heap.size w1 w')
  (Hwritten : ∀ w1, Calls Tryz.prog 206 #[.agg #[.int .i64 R, .int .i64 D, .int .i64 L, .int .i64 G, .bool gr, .int .i64 (sz : Int), .int .i64 (ex : Int), .int .i64 1, .func (.func F) #[] #[]]] w1 fun z w' => z = .returned (.int .u64 (wr : Int)) ∧ Below w1.heap.size w1 w')
  (Hlead : ∀ w1, Calls Tryz.prog 198 #[.agg #[.int .i64 R, .int .i64 D, .int .i64 L, .int .i64 G, .bool gr, .int .i64 (sz : Int), .int .i64 (ex : Int), .int .i64 1, .func (.func F) #[] #[]]] w1 fun z w' => z = .returned (.int .u64 (ld : Int)) ∧ Below w1.heap.size w1 w') : Calls Tryz.prog 156 #[.agg #[.int .i64 R, .int .i64 D, .int .i64 L, .int .i64 G, .bool gr, .int .i64 (sz : Int), .int .i64 (ex : Int), .int .i64 1, .func (.func F) #[] #[]], .int .i64 4] w fun z w' => z = .returned (.tuple #[.agg #[.bool false, .int .i64 (on : Int), .int .u64 ((wr ||| ld / 2 : Nat) : Int)], .bool true]) ∧ Below w.heap.size w w' := by
 have hsf := hsf_z
 have bf := below_alloc (w.alloc (.cells #[.int .i64 R, .int .i64 D, .int .i64 L, .int .i64 G, .bool gr, .int .i64 (sz : Int), .int .i64 (ex : Int), .int .i64 1, .func (.func F) #[] #[]] 144)) (.cells #[.bool false, .int .i64 0, .int .u64 0] 147)
 have l0 := (locE_new w [.int .i64 R, .int .i64 D, .int .i64 L, .int .i64 G, .bool gr, .int .i64 (sz : Int), .int .i64 (ex : Int), .int .i64 1, .func (.func F) #[] #[]] 144).later bf
 have m0 := locE_new (w.alloc (.cells #[.int .i64 R, .int .i64 D, .int .i64 L, .int .i64 G, .bool gr, .int .i64 (sz : Int), .int .i64 (ex : Int), .int .i64 1, .func (.func F) #[] #[]] 144)) [.bool false, .int .i64 0, .int .u64 0] 147
 have b0 := below_trans (below_alloc w (.cells #[.int .i64 R, .int .i64 D, .int .i64 L, .int .i64 G, .bool gr, .int .i64 (sz : Int), .int .i64 (ex : Int), .int .i64 1, .func (.func F) #[] #[]] 144)) bf
 rw [World.size_alloc] at m0
 clear bf
 obtain ⟨x0, x1, x2, x3, x4, x5, x6, x7, x8⟩ := l0.cs9; obtain ⟨u0, u1, u2⟩ := m0.cs3; have j0 := m0.free 0; have j1 := m0.free 1; have j2 := m0.free 2
 have Hones' : Hid _ := Hones
 have Hwritten' : Hid _ := Hwritten
 have Hlead' : Hid _ := Hlead
 have hor : bits .or .u64 (wr : Int) ((ld / 2 : Nat) : Int) = ((wr ||| ld / 2 : Nat) : Int) := u64_or_nat wr (ld / 2) hwl (by omega)
 have hhf : (ld : Int) / 2 = ((ld / 2 : Nat) : Int) := by omega
 obtain ⟨fr, hfr⟩ : ∃ x, wr ||| ld / 2 = x := ⟨_, rfl⟩
 rw [hfr] at hor ⊢
 generalize ld / 2 = lh at *
 clear hfr
 have CX : SpcF w [.int .i64 R, .int .i64 D, .int .i64 L, .int .i64 G, .bool gr, .int .i64 (sz : Int), .int .i64 (ex : Int), .int .i64 1, .func (.func F) #[] #[]] _ := ⟨l0.drew, m0.drew, b0.drew⟩
 clear l0 m0 b0 Hones Hwritten Hlead
 go_enter Tryz.func156, Tryz.ntmps156
 go_wp2_with fail
 go_region_held3 (fun wq => wq.cell? ⟨w.heap.size, 0, none⟩ = some (.int .i64 R) ∧ wq.cell? ⟨w.heap.size, 1, none⟩ = some (.int .i64 D) ∧ wq.cell? ⟨w.heap.size, 2, none⟩ = some (.int .i64 L) ∧ wq.cell? ⟨w.heap.size, 3, none⟩ = some (.int .i64 G) ∧ wq.cell? ⟨w.heap.size, 4, none⟩ = some (.bool gr) ∧ wq.cell? ⟨w.heap.size, 5, none⟩ = some (.int .i64 (sz : Int)) ∧ wq.cell? ⟨w.heap.size, 6, none⟩ = some (.int .i64 (ex : Int)) ∧ wq.cell? ⟨w.heap.size, 7, none⟩ = some (.int .i64 1) ∧ wq.cell? ⟨w.heap.size, 8, none⟩ = some (.func (.func F) #[] #[])) (go_keep) (first
  | (go_at_call 205; refine (Hones'.out _).mono ?_; rintro z wones ⟨rfl, bb⟩; have CY := CX.later bb; clear CX; have CX := CY; clear CY bb; obtain ⟨lq, mq, -⟩ := id CX; obtain ⟨x0, x1, x2, x3, x4, x5, x6, x7, x8⟩ := lq.cs9; obtain ⟨u0, u1, u2⟩ := mq.cs3; have j0 := mq.free 0; have j1 := mq.free 1; have j2 := mq.free 2; clear lq mq)
  | (go_at_call 206; refine (Hwritten'.out _).mono ?_; rintro z wwritten ⟨rfl, bb⟩; have CY := CX.later bb; clear CX; have CX := CY; clear CY bb; obtain ⟨lq, mq, -⟩ := id CX; obtain ⟨x0, x1, x2, x3, x4, x5, x6, x7, x8⟩ := lq.cs9; obtain ⟨u0, u1, u2⟩ := mq.cs3; have j0 := mq.free 0; have j1 := mq.free 1; have j2 := mq.free 2; clear lq mq)
  | (go_at_call 198; refine (Hlead'.out _).mono ?_; rintro z wlead ⟨rfl, bb⟩; have CY := CX.later bb; clear CX; have CX := CY; clear CY bb; obtain ⟨lq, mq, -⟩ := id CX; obtain ⟨x0, x1, x2, x3, x4, x5, x6, x7, x8⟩ := lq.cs9; obtain ⟨u0, u1, u2⟩ := mq.cs3; have j0 := mq.free 0; have j1 := mq.free 1; have j2 := mq.free 2; clear lq mq))
 have mz := CX.m
 have bz := CX.b
 have bu := ((but_set wlead (w.heap.size + 1) 0 (.bool false)).trans (but_set _ (w.heap.size + 1) 1 (.int .i64 (on : Int)))).trans (but_set _ (w.heap.size + 1) 2 (.int .u64 (fr : Int)))
 have cR : LocE (((wlead.setCell ⟨w.heap.size + 1, 0, none⟩ (.bool false)).setCell ⟨w.heap.size + 1, 1, none⟩ (.int .i64 (on : Int))).setCell ⟨w.heap.size + 1, 2, none⟩ (.int .u64 (fr : Int))) (w.heap.size + 1) 147 [.bool false, .int .i64 (on : Int), .int .u64 (fr : Int)] := (((mz.set 0 (.bool false)).set 1 (.int .i64 (on : Int))).set 2 (.int .u64 (fr : Int)))
 have bR := bu.below bz (by omega)
 have hl := run_loadVar_mid (P := Tryz.prog) _ (w.heap.size + 1) 0 147 [.bool false, .int .i64 (on : Int), .int .u64 (fr : Int)] _ cR.range Tryz.underlying147 rfl (by kernel_rfl)
 have HH : Hid (_ ∧ _) := ⟨hl, bR⟩
 clear hl bR cR bu
 clear mz bz CX
 go_wp2
 obtain ⟨hl, bR⟩ := HH.out
 exact bodyPost_ret (results_two Tryz.results156 rfl rfl hl) rfl ⟨rfl, bR⟩
def spcOk (k c : Nat) : Bool := c == 1 || (c == 3 || c == 4) && decide (k ≤ 3) || c == 5 && decide (6 ≤ k)
def spcG (k c : Nat) : Bool := c == 5 && decide (6 ≤ k)
def spcE (k c : Nat) : Nat := if (c = 3 ∨ c = 4) ∧ k ≤ 3 then onesN k else 0
def spcF (k c : Nat) : Nat := if k ≤ 3 then (if c = 3 then wrN k else if c = 4 then wrN k ||| leadN k / 2 else 0) else 0
theorem special_any (k c : Nat) (hk : 1 ≤ k ∧ k ≤ 8) (hc : c = 1 ∨ c = 3 ∨ c = 4 ∨ c = 5) (w : World) :
  Calls Tryz.prog 156 #[.agg (layV k).toArray, .int .i64 (c : Int)] w fun z w' => z = .returned (.tuple #[.agg #[.bool (spcG k c), .int .i64 ((spcE k c : Nat) : Int), .int .u64 ((spcF k c : Nat) : Int)], .bool (spcOk k c)]) ∧ Below w.heap.size w w' := by
 have HO := fun w1 => lones_any k hk w1
 have HW := fun w1 => lwritten_any k hk w1
 have HL := fun w1 => llead_any k hk w1
 rcases hc with rfl | rfl | rfl | rfl
 ·rw [show spcG k 1 = false from rfl, show spcE k 1 = 0 from if_neg (fun h => by omega), show spcF k 1 = 0 from by unfold spcF; simp, show spcOk k 1 = true from rfl]
  rcases eight hk with rfl | rfl | rfl | rfl | rfl | rfl | rfl | rfl
  all_goals exact special_zero _ _ _ _ _ _ _ _ _ w
 ·rw [show spcG k 3 = false from rfl]
  by_cases h3 : k ≤ 3
  ·rw [show spcE k 3 = onesN k from if_pos ⟨.inl rfl, h3⟩, show spcF k 3 = wrN k from by unfold spcF; rw [if_pos h3, if_pos rfl], show spcOk k 3 = true from by simp [spcOk, h3]]
   generalize onesN k = on at *
   generalize wrN k = wr at *
   rcases (by omega : k = 1 ∨ k = 2 ∨ k = 3) with rfl | rfl | rfl
   all_goals exact special_inf _ _ _ _ _ _ _ _ w _ _ HO HW
  ·rw [show spcE k 3 = 0 from if_neg (fun h => h3 h.2), show spcF k 3 = 0 from if_neg h3, show spcOk k 3 = false from by simp [spcOk, h3]]
   rcases (by omega : k = 4 ∨ k = 5 ∨ k = 6 ∨ k = 7 ∨ k = 8) with rfl | rfl | rfl | rfl | rfl
   all_goals exact special_no3 _ _ _ _ _ _ _ _ _ w rfl
 ·rw [show spcG k 4 = false from rfl]
  by_cases h3 : k ≤ 3
  ·rw [show spcE k 4 = onesN k from if_pos ⟨.inr rfl, h3⟩, show spcF k 4 = wrN k ||| leadN k / 2 from by unfold spcF; rw [if_pos h3, if_neg (by omega), if_pos rfl], show spcOk k 4 = true from by simp [spcOk, h3]]
   have hw : wrN k < 18446744073709551616 := by rcases (by omega : k = 1 ∨ k = 2 ∨ k = 3) with rfl | rfl | rfl <;> decide
   have hl : leadN k < 18446744073709551616 := by rcases (by omega : k = 1 ∨ k = 2 ∨ k = 3) with rfl | rfl | rfl <;> decide
   generalize onesN k = on at *
   generalize wrN k = wr at *
   generalize leadN k = ld at *
   rcases (by omega : k = 1 ∨ k = 2 ∨ k = 3) with rfl | rfl | rfl
   all_goals exact special_nan _ _ _ _ _ _ _ _ w _ _ _ hw hl HO HW HL
  ·rw [show spcE k 4 = 0 from if_neg (fun h => h3 h.2), show spcF k 4 = 0 from if_neg h3, show spcOk k 4 = false from by simp [spcOk, h3]]
   rcases (by omega : k = 4 ∨ k = 5 ∨ k = 6 ∨ k = 7 ∨ k = 8) with rfl | rfl | rfl | rfl | rfl
   all_goals exact special_no4 _ _ _ _ _ _ _ _ _ w rfl
 ·rw [show spcE k 5 = 0 from if_neg (fun h => by omega), show spcF k 5 = 0 from by unfold spcF; simp]
  by_cases h6 : 6 ≤ k
  ·rw [show spcG k 5 = true from by simp [spcG, h6], show spcOk k 5 = true from by simp [spcOk, h6]]
   rcases (by omega : k = 6 ∨ k = 7 ∨ k = 8) with rfl | rfl | rfl
   all_goals exact special_res _ _ _ _ _ _ _ _ _ w rfl
  ·rw [show spcG k 5 = false from by simp [spcG, h6], show spcOk k 5 = false from by simp [spcOk, h6]]
   rcases (by omega : k = 1 ∨ k = 2 ∨ k = 3 ∨ k = 4 ∨ k = 5) with rfl | rfl | rfl | rfl | rfl
   all_goals exact special_no5 _ _ _ _ _ _ _ _ _ w rfl
def sgnOk (k c : Nat) : Bool := c == 3 || c == 1 && decide (k ≤ 5)
set_option maxHeartbeats 1600000 in
theorem signed_W (R D L G fam : Int) (gr : Bool) (sz ex : Nat) (F : Nat) (c : Int) (q3 q1 qf : Bool) (w : World) (h3 : (c == 3) = q3) (h1 : (c == 1) = q1) (hf : (fam != 3) = qf) : Calls Tryz.prog 157 #[.agg #[.int .i64 R, .int .i64 D, .int .i64 L, .int .i64 G, .bool gr, .int .i64 (sz : Int), .int .i64 (ex : Int), .int .i64 fam, .func (.func F) #[] #[]], .int .i64 c] w fun z w' => z = .returned (.bool (q3 || q1 && qf)) ∧ Below w.heap.size w w' := by
 have hsf := hsf_z
 have b0 := below_alloc w (.cells #[.int .i64 R, .int .i64 D, .int .i64 L, .int .i64 G, .bool gr, .int .i64 (sz : Int), .int .i64 (ex : Int), .int .i64 fam, .func (.func F) #[] #[]] 144)
 cases q3 <;> cases q1 <;> cases qf
 all_goals go_enter Tryz.func157, Tryz.ntmps157
 all_goals go_wp2
 all_goals go_ret
 all_goals exact ⟨rfl, b0⟩
theorem signed_any (k c : Nat) (hk : 1 ≤ k ∧ k ≤ 8) (hc : c = 1 ∨ c = 3 ∨ c = 4 ∨ c = 5) (w : World) :
  Calls Tryz.prog 157 #[.agg (layV k).toArray, .int .i64 (c : Int)] w fun z w' => z = .returned (.bool (sgnOk k c)) ∧ Below w.heap.size w w' := by
 rcases eight hk with rfl | rfl | rfl | rfl | rfl | rfl | rfl | rfl
 all_goals rcases hc with rfl | rfl | rfl | rfl
 all_goals first
  | exact signed_W _ _ _ _ _ _ _ _ _ _ _ _ true w rfl rfl rfl
  | exact signed_W _ _ _ _ _ _ _ _ _ _ _ _ false w rfl rfl rfl
end Go.Proofs.YtnhackdjplppjaaGreatDoor

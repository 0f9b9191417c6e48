/-
  Texts laid together: Co11.
-/
import Derived.Test.YtnhackdjplppjaaGreatDoorAt05
set_option maxRecDepth 100000
namespace Go.Proofs.YtnhackdjplppjaaGreatDoor
open Go.RowKit
set_option maxHeartbeats 3200000 in
theorem ci_zero (R D L G fam sz ex : Int) (gr ng : Bool) (F : Nat) (e f : Int) (w : World) (c : Int) (h0 : e = 0) (hc : (if f = 0 then 1 else 2) = c) : Calls Tryz.prog 194 #[.agg #[.int .i64 R, .int .i64 D, .int .i64 L, .int .i64 G, .bool gr, .int .i64 sz, .int .i64 ex, .int .i64 fam, .func (.func F) #[] #[]], .agg #[.bool ng, .int .i64 e, .int .u64 f]] w fun z w' => z = .returned (.int .i64 c) ∧ Below w.heap.size w w' := by
 have hsf := hsf_z
 have l0 := (locE_new w [.int .i64 R, .int .i64 D, .int .i64 L, .int .i64 G, .bool gr, .int .i64 sz, .int .i64 ex, .int .i64 fam, .func (.func F) #[] #[]] 144).later (below_alloc _ (.cells #[.bool ng, .int .i64 e, .int .u64 f] 147))
 have m0 := locE_new (w.alloc (.cells #[.int .i64 R, .int .i64 D, .int .i64 L, .int .i64 G, .bool gr, .int .i64 sz, .int .i64 ex, .int .i64 fam, .func (.func F) #[] #[]] 144)) [.bool ng, .int .i64 e, .int .u64 f] 147
 have b0 := below_trans (below_alloc w (.cells #[.int .i64 R, .int .i64 D, .int .i64 L, .int .i64 G, .bool gr, .int .i64 sz, .int .i64 ex, .int .i64 fam, .func (.func F) #[] #[]] 144)) (below_alloc _ (.cells #[.bool ng, .int .i64 e, .int .u64 f] 147))
 rw [World.size_alloc] at m0
 subst h0 hc
 have hz := fun b => zeroOr_any b
 by_cases hf : f = 0
 ·subst hf
  have HZ : Hid (∀ w1, Calls Tryz.prog 195 #[.bool true] w1 fun z w' => z = .returned (.int .i64 1) ∧ w' = w1) := hz true
  clear hz
  go_enter Tryz.func194, Tryz.ntmps194
  go_wp2_with fail
  refine (HZ.out _).mono ?_
  rintro z w1 ⟨rfl, rfl⟩
  go_wp2
  go_ret
  exact ⟨rfl, b0⟩
 ·have hfb : (f == 0) = false := by simpa using hf
  have HZ : Hid (∀ w1, Calls Tryz.prog 195 #[.bool false] w1 fun z w' => z = .returned (.int .i64 2) ∧ w' = w1) := hz false
  rw [if_neg hf]
  clear hz hf
  go_enter Tryz.func194, Tryz.ntmps194
  go_wp2_with fail
  refine (HZ.out _).mono ?_
  rintro z w1 ⟨rfl, rfl⟩
  go_wp2
  go_ret
  exact ⟨rfl, b0⟩
set_option maxHeartbeats 3200000 in
theorem ci_inf (R D L G fam sz ex on wr : Int) (gr ng : Bool) (F : Nat) (e f : Int) (w : World) (HO : ∀ w1, Calls Tryz.prog 205 #[.agg #[.int .i64 R, .int .i64 D, .int .i64 L, .int .i64 G, .bool gr, .int .i64 sz, .int .i64 ex, .int .i64 fam, .func (.func F) #[] #[]]] w1 fun z w' => z = .returned (.int .i64 on) ∧ Below w1.heap.size w1 w') (HW : ∀ w1, Calls Tryz.prog 206 #[.agg #[.int .i64 R, .int .i64 D, .int .i64 L, .int .i64 G, .bool gr, .int .i64 sz, .int .i64 ex, .int .i64 fam, .func (.func F) #[] #[]]] w1 fun z w' => z = .returned (.int .u64 wr) ∧ Below w1.heap.size w1 w') (h1 : on = e) (h2 : wr = f) (_h0 : (on == 0) = false) : Calls Tryz.prog 194 #[.agg #[.int .i64 R, .int .i64 D, .int .i64 L, .int .i64 G, .bool gr, .int .i64 sz, .int .i64 ex, .int .i64 fam, .func (.func F) #[] #[]], .agg #[.bool ng, .int .i64 e, .int .u64 f]] w fun z w' => z = .returned (.int .i64 3) ∧ Below w.heap.size w w' := by
 have hsf := hsf_z
 replace HO : Hid _ := HO
 replace HW : Hid _ := HW
 have l0 := (locE_new w [.int .i64 R, .int .i64 D, .int .i64 L, .int .i64 G, .bool gr, .int .i64 sz, .int .i64 ex, .int .i64 fam, .func (.func F) #[] #[]] 144).later (below_alloc _ (.cells #[.bool ng, .int .i64 e, .int .u64 f] 147))
 have m0 := locE_new (w.alloc (.cells #[.int .i64 R, .int .i64 D, .int .i64 L, .int .i64 G, .bool gr, .int .i64 sz, .int .i64 ex, .int .i64 fam, .func (.func F) #[] #[]] 144)) [.bool ng, .int .i64 e, .int .u64 f] 147
 have b0 := below_trans (below_alloc w (.cells #[.int .i64 R, .int .i64 D, .int .i64 L, .int .i64 G, .bool gr, .int .i64 sz, .int .i64 ex, .int .i64 fam, .func (.func F) #[] #[]] 144)) (below_alloc _ (.cells #[.bool ng, .int .i64 e, .int .u64 f] 147))
 rw [World.size_alloc] at m0
 subst h1 h2
 obtain ⟨x0, x1, x2, x3, x4, x5, x6, x7, x8⟩ := l0.cs9
 obtain ⟨u0, u1, u2⟩ := m0.cs3
 go_enter Tryz.func194, Tryz.ntmps194
 go_wp2_with fail
 go_region_held3 (fun wq => (wq.cell? ⟨w.heap.size, 0, none⟩ = some (.int .i64 R) ∧ wq.cell? ⟨w.heap.size, 1, none⟩ = some (.int .i64 D) ∧ wq.cell? ⟨w.heap.size, 2, none⟩ = some (.int .i64 L) ∧ wq.cell? ⟨w.heap.size, 3, none⟩ = some (.int .i64 G) ∧ wq.cell? ⟨w.heap.size, 4, none⟩ = some (.bool gr) ∧ wq.cell? ⟨w.heap.size, 5, none⟩ = some (.int .i64 sz) ∧ wq.cell? ⟨w.heap.size, 6, none⟩ = some (.int .i64 ex) ∧ wq.cell? ⟨w.heap.size, 7, none⟩ = some (.int .i64 fam) ∧ wq.cell? ⟨w.heap.size, 8, none⟩ = some (.func (.func F) #[] #[])) ∧ (wq.cell? ⟨w.heap.size + 1, 0, none⟩ = some (.bool ng) ∧ wq.cell? ⟨w.heap.size + 1, 1, none⟩ = some (.int .i64 on) ∧ wq.cell? ⟨w.heap.size + 1, 2, none⟩ = some (.int .u64 wr))) (go_keep) (first
  | (go_at_call 205; refine (HO.out _).mono ?_; rintro z w2 ⟨rfl, b2⟩; have l2 := l0.drew.later b2; have m2 := m0.drew.later b2; have b02 := below_trans b0.drew b2; obtain ⟨y0, y1, y2, y3, y4, y5, y6, y7, y8⟩ := l2.cs9; obtain ⟨v0, v1, v2⟩ := m2.cs3)
  | (go_at_call 206; refine (HW.out _).mono ?_; rintro z w3 ⟨rfl, b3⟩; have l3 := l2.later b3; have m3 := m2.later b3; have b03 := below_trans b02 b3; obtain ⟨z0, z1, z2, z3, z4, z5, z6, z7, z8⟩ := l3.cs9; obtain ⟨t0, t1, t2⟩ := m3.cs3))
 all_goals go_wp2
 all_goals go_ret
 all_goals exact ⟨rfl, b03⟩
set_option maxHeartbeats 3200000 in
theorem ci_none (R D L G fam sz ex on wr : Int) (gr ng : Bool) (F : Nat) (e f : Int) (w : World) (HO : ∀ w1, Calls Tryz.prog 205 #[.agg #[.int .i64 R, .int .i64 D, .int .i64 L, .int .i64 G, .bool gr, .int .i64 sz, .int .i64 ex, .int .i64 fam, .func (.func F) #[] #[]]] w1 fun z w' => z = .returned (.int .i64 on) ∧ Below w1.heap.size w1 w') (HW : ∀ w1, Calls Tryz.prog 206 #[.agg #[.int .i64 R, .int .i64 D, .int .i64 L, .int .i64 G, .bool gr, .int .i64 sz, .int .i64 ex, .int .i64 fam, .func (.func F) #[] #[]]] w1 fun z w' => z = .returned (.int .u64 wr) ∧ Below w1.heap.size w1 w') (h1 : on = e) (h2 : f ≠ wr) (_h0 : (on == 0) = false) : Calls Tryz.prog 194 #[.agg #[.int .i64 R, .int .i64 D, .int .i64 L, .int .i64 G, .bool gr, .int .i64 sz, .int .i64 ex, .int .i64 fam, .func (.func F) #[] #[]], .agg #[.bool ng, .int .i64 e, .int .u64 f]] w fun z w' => z = .returned (.int .i64 4) ∧ Below w.heap.size w w' := by
 have hsf := hsf_z
 replace HO : Hid _ := HO
 replace HW : Hid _ := HW
 have l0 := (locE_new w [.int .i64 R, .int .i64 D, .int .i64 L, .int .i64 G, .bool gr, .int .i64 sz, .int .i64 ex, .int .i64 fam, .func (.func F) #[] #[]] 144).later (below_alloc _ (.cells #[.bool ng, .int .i64 e, .int .u64 f] 147))
 have m0 := locE_new (w.alloc (.cells #[.int .i64 R, .int .i64 D, .int .i64 L, .int .i64 G, .bool gr, .int .i64 sz, .int .i64 ex, .int .i64 fam, .func (.func F) #[] #[]] 144)) [.bool ng, .int .i64 e, .int .u64 f] 147
 have b0 := below_trans (below_alloc w (.cells #[.int .i64 R, .int .i64 D, .int .i64 L, .int .i64 G, .bool gr, .int .i64 sz, .int .i64 ex, .int .i64 fam, .func (.func F) #[] #[]] 144)) (below_alloc _ (.cells #[.bool ng, .int .i64 e, .int .u64 f] 147))
 rw [World.size_alloc] at m0
 subst h1
 have hfb : (f == wr) = false := by simpa using h2
 clear h2
 obtain ⟨x0, x1, x2, x3, x4, x5, x6, x7, x8⟩ := l0.cs9
 obtain ⟨u0, u1, u2⟩ := m0.cs3
 go_enter Tryz.func194, Tryz.ntmps194
 go_wp2_with fail
 go_region_held3 (fun wq => (wq.cell? ⟨w.heap.size, 0, none⟩ = some (.int .i64 R) ∧ wq.cell? ⟨w.heap.size, 1, none⟩ = some (.int .i64 D) ∧ wq.cell? ⟨w.heap.size, 2, none⟩ = some (.int .i64 L) ∧ wq.cell? ⟨w.heap.size, 3, none⟩ = some (.int .i64 G) ∧ wq.cell? ⟨w.heap.size, 4, none⟩ = some (.bool gr) ∧ wq.cell? ⟨w.heap.size, 5, none⟩ = some (.int .i64 sz) ∧ wq.cell? ⟨w.heap.size, 6, none⟩ = some (.int .i64 ex) ∧ wq.cell? ⟨w.heap.size, 7, none⟩ = some (.int .i64 fam) ∧ wq.cell? ⟨w.heap.size, 8, none⟩ = some (.func (.func F) #[] #[])) ∧ (wq.cell? ⟨w.heap.size + 1, 0, none⟩ = some (.bool ng) ∧ wq.cell? ⟨w.heap.size + 1, 1, none⟩ = some (.int .i64 on) ∧ wq.cell? ⟨w.heap.size + 1, 2, none⟩ = some (.int .u64 f))) (go_keep) (first
  | (go_at_call 205; refine (HO.out _).mono ?_; rintro z w2 ⟨rfl, b2⟩; have l2 := l0.drew.later b2; have m2 := m0.drew.later b2; have b02 := below_trans b0.drew b2; obtain ⟨y0, y1, y2, y3, y4, y5, y6, y7, y8⟩ := l2.cs9; obtain ⟨v0, v1, v2⟩ := m2.cs3)
  | (go_at_call 206; refine (HW.out _).mono ?_; rintro z w3 ⟨rfl, b3⟩; have l3 := l2.later b3; have m3 := m2.later b3; have b03 := below_trans b02 b3; obtain ⟨z0, z1, z2, z3, z4, z5, z6, z7, z8⟩ := l3.cs9; obtain ⟨t0, t1, t2⟩ := m3.cs3))
 go_wp2_with fail
 refine wp_region_held_drew (S := (fun wq => (wq.cell? ⟨w.heap.size, 0, none⟩ = some (.int .i64 R) ∧ wq.cell? ⟨w.heap.size, 1, none⟩ = some (.int .i64 D) ∧ wq.cell? ⟨w.heap.size, 2, none⟩ = some (.int .i64 L) ∧ wq.cell? ⟨w.heap.size, 3, none⟩ = some (.int .i64 G) ∧ wq.cell? ⟨w.heap.size, 4, none⟩ = some (.bool gr) ∧ wq.cell? ⟨w.heap.size, 5, none⟩ = some (.int .i64 sz) ∧ wq.cell? ⟨w.heap.size, 6, none⟩ = some (.int .i64 ex) ∧ wq.cell? ⟨w.heap.size, 7, none⟩ = some (.int .i64 fam) ∧ wq.cell? ⟨w.heap.size, 8, none⟩ = some (.func (.func F) #[] #[])) ∧ (wq.cell? ⟨w.heap.size + 1, 0, none⟩ = some (.bool ng) ∧ wq.cell? ⟨w.heap.size + 1, 1, none⟩ = some (.int .i64 on) ∧ wq.cell? ⟨w.heap.size + 1, 2, none⟩ = some (.int .u64 f)))) (by kernel_rfl) ⟨⟨l3.drew.cell 0 rfl, l3.drew.cell 1 rfl, l3.drew.cell 2 rfl, l3.drew.cell 3 rfl, l3.drew.cell 4 rfl, l3.drew.cell 5 rfl, l3.drew.cell 6 rfl, l3.drew.cell 7 rfl, l3.drew.cell 8 rfl⟩, m3.drew.cell 0 rfl, m3.drew.cell 1 rfl, m3.drew.cell 2 rfl⟩ (fun hS0 => ?_)
 refine wpAnyH_take (i := 0) (v := .pointer (some ⟨w.heap.size + 1, 1, none⟩)) rfl (by kernel_rfl) (by kernel_rfl) (by kernel_rfl) (fun _ _ _ h => h) (Or.inl ⟨by kernel_rfl, fun w0 _ => by go_simp⟩) hS0 ?_
 refine wpAnyH_take (i := 1) (v := .int .i64 on) rfl (by kernel_rfl) (by kernel_rfl) (by kernel_rfl) (fun _ _ _ h => h) (Or.inl ⟨by kernel_rfl, fun w0 hw0 => by obtain ⟨⟨p0, p1, p2, p3, p4, p5, p6, p7, p8⟩, q0, q1, q2⟩ := hw0; go_simp⟩) hS0 ?_
 refine wpAnyH_take (i := 2) (v := .agg #[.int .i64 R, .int .i64 D, .int .i64 L, .int .i64 G, .bool gr, .int .i64 sz, .int .i64 ex, .int .i64 fam, .func (.func F) #[] #[]]) rfl (by kernel_rfl) (by kernel_rfl) (by kernel_rfl) (fun _ _ _ h => h) (Or.inl ⟨by kernel_rfl, fun w0 hw0 => by obtain ⟨⟨p0, p1, p2, p3, p4, p5, p6, p7, p8⟩, q0, q1, q2⟩ := hw0; go_simp⟩) hS0 ?_
 refine wpAnyH_ready (rs := [3]) (by kernel_rfl) (by simp) ?_
 refine AllReadyH.cons rfl (fun K hK => ?_) AllReadyH.nil
 go_simp
 refine (HO.out _).mono ?_
 rintro z w4 ⟨rfl, b4⟩
 have l4 := l3.drew.later b4
 have m4 := m3.drew.later b4
 have b04 := below_trans b03.drew b4
 refine hK.out _ _ ⟨⟨l4.cell 0 rfl, l4.cell 1 rfl, l4.cell 2 rfl, l4.cell 3 rfl, l4.cell 4 rfl, l4.cell 5 rfl, l4.cell 6 rfl, l4.cell 7 rfl, l4.cell 8 rfl⟩, m4.cell 0 rfl, m4.cell 1 rfl, m4.cell 2 rfl⟩ (fun hS3 => ?_)
 clear hK K
 refine wpAnyH_take (i := 4) (v := .bool true) rfl (by kernel_rfl) (by kernel_rfl) (by kernel_rfl) (fun _ _ _ h => h) (Or.inl ⟨by kernel_rfl, fun w0 _ => by go_simp⟩) hS3 ?_
 refine wpAnyH_take (i := 5) (v := .bool true) rfl (by kernel_rfl) (by kernel_rfl) (by kernel_rfl) (fun _ _ _ h => h) (Or.inl ⟨by kernel_rfl, fun w0 _ => by go_simp⟩) hS3 ?_
 refine wpAnyH_take (i := 6) (v := undef) rfl (by kernel_rfl) (by kernel_rfl) (by kernel_rfl) (fun _ _ _ h => h) (Or.inr ⟨by kernel_rfl, rfl⟩) hS3 ?_
 refine wpAnyH_take (i := 7) (v := undef) rfl (by kernel_rfl) (by kernel_rfl) (by kernel_rfl) (fun _ _ _ h => h) (Or.inr ⟨by kernel_rfl, rfl⟩) hS3 ?_
 refine wpAnyH_take (i := 8) (v := undef) rfl (by kernel_rfl) (by kernel_rfl) (by kernel_rfl) (fun _ _ _ h => h) (Or.inr ⟨by kernel_rfl, rfl⟩) hS3 ?_
 refine wpAnyH_take (i := 9) (v := undef) rfl (by kernel_rfl) (by kernel_rfl) (by kernel_rfl) (fun _ _ _ h => h) (Or.inr ⟨by kernel_rfl, rfl⟩) hS3 ?_
 refine wpAnyH_take (i := 10) (v := undef) rfl (by kernel_rfl) (by kernel_rfl) (by kernel_rfl) (fun _ _ _ h => h) (Or.inr ⟨by kernel_rfl, rfl⟩) hS3 ?_
 refine wpAnyH_take (i := 11) (v := undef) rfl (by kernel_rfl) (by kernel_rfl) (by kernel_rfl) (fun _ _ _ h => h) (Or.inr ⟨by kernel_rfl, rfl⟩) hS3 ?_
 refine wpAnyH_take (i := 12) (v := undef) rfl (by kernel_rfl) (by kernel_rfl) (by kernel_rfl) (fun _ _ _ h => h) (Or.inr ⟨by kernel_rfl, rfl⟩) hS3 ?_
 refine wpAnyH_take (i := 13) (v := undef) rfl (by kernel_rfl) (by kernel_rfl) (by kernel_rfl) (fun _ _ _ h => h) (Or.inr ⟨by kernel_rfl, rfl⟩) hS3 ?_
 refine wpAnyH_take (i := 14) (v := .bool true) rfl (by kernel_rfl) (by kernel_rfl) (by kernel_rfl) (fun _ _ _ h => h) (Or.inl ⟨by kernel_rfl, fun w0 _ => by go_simp⟩) hS3 ?_
 refine wpAnyH_take (i := 15) (v := .bool true) rfl (by kernel_rfl) (by kernel_rfl) (by kernel_rfl) (fun _ _ _ h => h) (Or.inl ⟨by kernel_rfl, fun w0 _ => by go_simp⟩) hS3 ?_
 simp only [Act.put, List.getElem_toArray, List.getElem_cons_succ, List.getElem_cons_zero, List.setIfInBounds_toArray, List.set_cons_zero, List.set_cons_succ]
 refine wpAnyH_done (by kernel_rfl) ?_ _
 go_wp2
 go_ret
 exact ⟨rfl, b04⟩
set_option maxHeartbeats 3200000 in
theorem ci_num (R D L G fam sz ex on wr : Int) (gr ng : Bool) (F : Nat) (e f : Int) (w : World) (HO : ∀ w1, Calls Tryz.prog 205 #[.agg #[.int .i64 R, .int .i64 D, .int .i64 L, .int .i64 G, .bool gr, .int .i64 sz, .int .i64 ex, .int .i64 fam, .func (.func F) #[] #[]]] w1 fun z w' => z = .returned (.int .i64 on) ∧ Below w1.heap.size w1 w') (HW : ∀ w1, Calls Tryz.prog 206 #[.agg #[.int .i64 R, .int .i64 D, .int .i64 L, .int .i64 G, .bool gr, .int .i64 sz, .int .i64 ex, .int .i64 fam, .func (.func F) #[] #[]]] w1 fun z w' => z = .returned (.int .u64 wr) ∧ Below w1.heap.size w1 w') (h1 : e ≠ 0) (h2 : e ≠ on) (h3 : bits .and .u64 f wr = wr) : Calls Tryz.prog 194 #[.agg #[.int .i64 R, .int .i64 D, .int .i64 L, .int .i64 G, .bool gr, .int .i64 sz, .int .i64 ex, .int .i64 fam, .func (.func F) #[] #[]], .agg #[.bool ng, .int .i64 e, .int .u64 f]] w fun z w' => z = .returned (.int .i64 2) ∧ Below w.heap.size w w' := by
 have hsf := hsf_z
 replace HO : Hid _ := HO
 replace HW : Hid _ := HW
 have l0 := (locE_new w [.int .i64 R, .int .i64 D, .int .i64 L, .int .i64 G, .bool gr, .int .i64 sz, .int .i64 ex, .int .i64 fam, .func (.func F) #[] #[]] 144).later (below_alloc _ (.cells #[.bool ng, .int .i64 e, .int .u64 f] 147))
 have m0 := locE_new (w.alloc (.cells #[.int .i64 R, .int .i64 D, .int .i64 L, .int .i64 G, .bool gr, .int .i64 sz, .int .i64 ex, .int .i64 fam, .func (.func F) #[] #[]] 144)) [.bool ng, .int .i64 e, .int .u64 f] 147
 have b0 := below_trans (below_alloc w (.cells #[.int .i64 R, .int .i64 D, .int .i64 L, .int .i64 G, .bool gr, .int .i64 sz, .int .i64 ex, .int .i64 fam, .func (.func F) #[] #[]] 144)) (below_alloc _ (.cells #[.bool ng, .int .i64 e, .int .u64 f] 147))
 rw [World.size_alloc] at m0
 have he0 : (e == 0) = false := by simpa using h1
 have he1 : (e == on) = false := by simpa using h2
 clear h1 h2
 obtain ⟨x0, x1, x2, x3, x4, x5, x6, x7, x8⟩ := l0.cs9
 obtain ⟨u0, u1, u2⟩ := m0.cs3
 go_enter Tryz.func194, Tryz.ntmps194
 go_wp2_with fail
 refine wp_region_held_drew (S := (fun wq => (wq.cell? ⟨w.heap.size, 0, none⟩ = some (.int .i64 R) ∧ wq.cell? ⟨w.heap.size, 1, none⟩ = some (.int .i64 D) ∧ wq.cell? ⟨w.heap.size, 2, none⟩ = some (.int .i64 L) ∧ wq.cell? ⟨w.heap.size, 3, none⟩ = some (.int .i64 G) ∧ wq.cell? ⟨w.heap.size, 4, none⟩ = some (.bool gr) ∧ wq.cell? ⟨w.heap.size, 5, none⟩ = some (.int .i64 sz) ∧ wq.cell? ⟨w.heap.size, 6, none⟩ = some (.int .i64 ex) ∧ wq.cell? ⟨w.heap.size, 7, none⟩ = some (.int .i64 fam) ∧ wq.cell? ⟨w.heap.size, 8, none⟩ = some (.func (.func F) #[] #[])) ∧ (wq.cell? ⟨w.heap.size + 1, 0, none⟩ = some (.bool ng) ∧ wq.cell? ⟨w.heap.size + 1, 1, none⟩ = some (.int .i64 e) ∧ wq.cell? ⟨w.heap.size + 1, 2, none⟩ = some (.int .u64 f)))) (by kernel_rfl) ⟨⟨l0.drew.cell 0 rfl, l0.drew.cell 1 rfl, l0.drew.cell 2 rfl, l0.drew.cell 3 rfl, l0.drew.cell 4 rfl, l0.drew.cell 5 rfl, l0.drew.cell 6 rfl, l0.drew.cell 7 rfl, l0.drew.cell 8 rfl⟩, m0.drew.cell 0 rfl, m0.drew.cell 1 rfl, m0.drew.cell 2 rfl⟩ (fun hS0 => ?_)
 refine wpAnyH_take (i := 0) (v := .pointer (some ⟨w.heap.size + 1, 1, none⟩)) rfl (by kernel_rfl) (by kernel_rfl) (by kernel_rfl) (fun _ _ _ h => h) (Or.inl ⟨by kernel_rfl, fun w0 _ => by go_simp⟩) hS0 ?_
 refine wpAnyH_take (i := 1) (v := .int .i64 e) rfl (by kernel_rfl) (by kernel_rfl) (by kernel_rfl) (fun _ _ _ h => h) (Or.inl ⟨by kernel_rfl, fun w0 hw0 => by obtain ⟨⟨p0, p1, p2, p3, p4, p5, p6, p7, p8⟩, q0, q1, q2⟩ := hw0; go_simp⟩) hS0 ?_
 refine wpAnyH_take (i := 2) (v := .agg #[.int .i64 R, .int .i64 D, .int .i64 L, .int .i64 G, .bool gr, .int .i64 sz, .int .i64 ex, .int .i64 fam, .func (.func F) #[] #[]]) rfl (by kernel_rfl) (by kernel_rfl) (by kernel_rfl) (fun _ _ _ h => h) (Or.inl ⟨by kernel_rfl, fun w0 hw0 => by obtain ⟨⟨p0, p1, p2, p3, p4, p5, p6, p7, p8⟩, q0, q1, q2⟩ := hw0; go_simp⟩) hS0 ?_
 refine wpAnyH_ready (rs := [3]) (by kernel_rfl) (by simp) ?_
 refine AllReadyH.cons rfl (fun K hK => ?_) AllReadyH.nil
 go_simp
 refine (HO.out _).mono ?_
 rintro z w1 ⟨rfl, b1⟩
 have l1 := l0.drew.later b1
 have m1 := m0.drew.later b1
 have b01 := below_trans b0.drew b1
 refine hK.out _ _ ⟨⟨l1.cell 0 rfl, l1.cell 1 rfl, l1.cell 2 rfl, l1.cell 3 rfl, l1.cell 4 rfl, l1.cell 5 rfl, l1.cell 6 rfl, l1.cell 7 rfl, l1.cell 8 rfl⟩, m1.cell 0 rfl, m1.cell 1 rfl, m1.cell 2 rfl⟩ (fun hS3 => ?_)
 clear hK K
 refine wpAnyH_take (i := 4) (v := .bool false) rfl (by kernel_rfl) (by kernel_rfl) (by kernel_rfl) (fun _ _ _ h => h) (Or.inl ⟨by kernel_rfl, fun w0 _ => by go_simp⟩) hS3 ?_
 refine wpAnyH_take (i := 5) (v := .bool false) rfl (by kernel_rfl) (by kernel_rfl) (by kernel_rfl) (fun _ _ _ h => h) (Or.inl ⟨by kernel_rfl, fun w0 _ => by go_simp⟩) hS3 ?_
 refine wpAnyH_take (i := 6) (v := undef) rfl (by kernel_rfl) (by kernel_rfl) (by kernel_rfl) (fun _ _ _ h => h) (Or.inr ⟨by kernel_rfl, rfl⟩) hS3 ?_
 refine wpAnyH_take (i := 7) (v := undef) rfl (by kernel_rfl) (by kernel_rfl) (by kernel_rfl) (fun _ _ _ h => h) (Or.inr ⟨by kernel_rfl, rfl⟩) hS3 ?_
 refine wpAnyH_take (i := 8) (v := undef) rfl (by kernel_rfl) (by kernel_rfl) (by kernel_rfl) (fun _ _ _ h => h) (Or.inr ⟨by kernel_rfl, rfl⟩) hS3 ?_
 refine wpAnyH_take (i := 9) (v := undef) rfl (by kernel_rfl) (by kernel_rfl) (by kernel_rfl) (fun _ _ _ h => h) (Or.inr ⟨by kernel_rfl, rfl⟩) hS3 ?_
 refine wpAnyH_take (i := 10) (v := undef) rfl (by kernel_rfl) (by kernel_rfl) (by kernel_rfl) (fun _ _ _ h => h) (Or.inr ⟨by kernel_rfl, rfl⟩) hS3 ?_
 refine wpAnyH_take (i := 11) (v := .bool false) rfl (by kernel_rfl) (by kernel_rfl) (by kernel_rfl) (fun _ _ _ h => h) (Or.inl ⟨by kernel_rfl, fun w0 _ => by go_simp⟩) hS3 ?_
 refine wpAnyH_take (i := 12) (v := .bool false) rfl (by kernel_rfl) (by kernel_rfl) (by kernel_rfl) (fun _ _ _ h => h) (Or.inl ⟨by kernel_rfl, fun w0 _ => by go_simp⟩) hS3 ?_
 simp only [Act.put, List.getElem_toArray, List.getElem_cons_succ, List.getElem_cons_zero, List.setIfInBounds_toArray, List.set_cons_zero, List.set_cons_succ]
 refine wpAnyH_done (by kernel_rfl) ?_ _
 go_wp2_with fail
 go_region_held3 (fun wq => (wq.cell? ⟨w.heap.size, 0, none⟩ = some (.int .i64 R) ∧ wq.cell? ⟨w.heap.size, 1, none⟩ = some (.int .i64 D) ∧ wq.cell? ⟨w.heap.size, 2, none⟩ = some (.int .i64 L) ∧ wq.cell? ⟨w.heap.size, 3, none⟩ = some (.int .i64 G) ∧ wq.cell? ⟨w.heap.size, 4, none⟩ = some (.bool gr) ∧ wq.cell? ⟨w.heap.size, 5, none⟩ = some (.int .i64 sz) ∧ wq.cell? ⟨w.heap.size, 6, none⟩ = some (.int .i64 ex) ∧ wq.cell? ⟨w.heap.size, 7, none⟩ = some (.int .i64 fam) ∧ wq.cell? ⟨w.heap.size, 8, none⟩ = some (.func (.func F) #[] #[])) ∧ (wq.cell? ⟨w.heap.size + 1, 0, none⟩ = some (.bool ng) ∧ wq.cell? ⟨w.heap.size + 1, 1, none⟩ = some (.int .i64 e) ∧ wq.cell? ⟨w.heap.size + 1, 2, none⟩ = some (.int .u64 f))) (go_keep) (first
  | (go_at_call 205; refine (HO.out _).mono ?_; rintro z w2 ⟨rfl, b2⟩; have l2 := l1.drew.later b2; have m2 := m1.drew.later b2; have b02 := below_trans b01.drew b2; obtain ⟨y0, y1, y2, y3, y4, y5, y6, y7, y8⟩ := l2.cs9; obtain ⟨v0, v1, v2⟩ := m2.cs3)
  | (go_at_call 206; have hgd := b02; clear hgd; refine (HW.out _).mono ?_; rintro z w3 ⟨rfl, b3⟩; have l3 := l2.later b3; have m3 := m2.later b3; have b03 := below_trans b02 b3; obtain ⟨z0, z1, z2, z3, z4, z5, z6, z7, z8⟩ := l3.cs9; obtain ⟨t0, t1, t2⟩ := m3.cs3; clear b02)
  | (go_at_call 206; refine (HW.out _).mono ?_; rintro z w4 ⟨rfl, b4⟩; have l4 := l3.later b4; have m4 := m3.later b4; have b04 := below_trans b03 b4; obtain ⟨a0, a1, a2, a3, a4, a5, a6, a7, a8⟩ := l4.cs9; obtain ⟨c0, c1, c2⟩ := m4.cs3))
 all_goals go_wp2
 all_goals go_ret
 all_goals exact ⟨rfl, b04⟩
set_option maxHeartbeats 3200000 in
theorem ci_mis (R D L G fam sz ex on wr : Int) (gr ng : Bool) (F : Nat) (e f : Int) (w : World) (HO : ∀ w1, Calls Tryz.prog 205 #[.agg #[.int .i64 R, .int .i64 D, .int .i64 L, .int .i64 G, .bool gr, .int .i64 sz, .int .i64 ex, .int .i64 fam, .func (.func F) #[] #[]]] w1 fun z w' => z = .returned (.int .i64 on) ∧ Below w1.heap.size w1 w') (HW : ∀ w1, Calls Tryz.prog 206 #[.agg #[.int .i64 R, .int .i64 D, .int .i64 L, .int .i64 G, .bool gr, .int .i64 sz, .int .i64 ex, .int .i64 fam, .func (.func F) #[] #[]]] w1 fun z w' => z = .returned (.int .u64 wr) ∧ Below w1.heap.size w1 w') (h1 : e ≠ 0) (h2 : e ≠ on) (h3 : bits .and .u64 f wr = 0) (_h4 : ((0 : Int) == wr) = false) : Calls Tryz.prog 194 #[.agg #[.int .i64 R, .int .i64 D, .int .i64 L, .int .i64 G, .bool gr, .int .i64 sz, .int .i64 ex, .int .i64 fam, .func (.func F) #[] #[]], .agg #[.bool ng, .int .i64 e, .int .u64 f]] w fun z w' => z = .returned (.int .i64 4) ∧ Below w.heap.size w w' := by
 have hsf := hsf_z
 replace HO : Hid _ := HO
 replace HW : Hid _ := HW
 have l0 := (locE_new w [.int .i64 R, .int .i64 D, .int .i64 L, .int .i64 G, .bool gr, .int .i64 sz, .int .i64 ex, .int .i64 fam, .func (.func F) #[] #[]] 144).later (below_alloc _ (.cells #[.bool ng, .int .i64 e, .int .u64 f] 147))
 have m0 := locE_new (w.alloc (.cells #[.int .i64 R, .int .i64 D, .int .i64 L, .int .i64 G, .bool gr, .int .i64 sz, .int .i64 ex, .int .i64 fam, .func (.func F) #[] #[]] 144)) [.bool ng, .int .i64 e, .int .u64 f] 147
 have b0 := below_trans (below_alloc w (.cells #[.int .i64 R, .int .i64 D, .int .i64 L, .int .i64 G, .bool gr, .int .i64 sz, .int .i64 ex, .int .i64 fam, .func (.func F) #[] #[]] 144)) (below_alloc _ (.cells #[.bool ng, .int .i64 e, .int .u64 f] 147))
 rw [World.size_alloc] at m0
 have he0 : (e == 0) = false := by simpa using h1
 have he1 : (e == on) = false := by simpa using h2
 clear h1 h2
 obtain ⟨x0, x1, x2, x3, x4, x5, x6, x7, x8⟩ := l0.cs9
 obtain ⟨u0, u1, u2⟩ := m0.cs3
 go_enter Tryz.func194, Tryz.ntmps194
 go_wp2_with fail
 refine wp_region_held_drew (S := (fun wq => (wq.cell? ⟨w.heap.size, 0, none⟩ = some (.int .i64 R) ∧ wq.cell? ⟨w.heap.size, 1, none⟩ = some (.int .i64 D) ∧ wq.cell? ⟨w.heap.size, 2, none⟩ = some (.int .i64 L) ∧ wq.cell? ⟨w.heap.size, 3, none⟩ = some (.int .i64 G) ∧ wq.cell? ⟨w.heap.size, 4, none⟩ = some (.bool gr) ∧ wq.cell? ⟨w.heap.size, 5, none⟩ = some (.int .i64 sz) ∧ wq.cell? ⟨w.heap.size, 6, none⟩ = some (.int .i64 ex) ∧ wq.cell? ⟨w.heap.size, 7, none⟩ = some (.int .i64 fam) ∧ wq.cell? ⟨w.heap.size, 8, none⟩ = some (.func (.func F) #[] #[])) ∧ (wq.cell? ⟨w.heap.size + 1, 0, none⟩ = some (.bool ng) ∧ wq.cell? ⟨w.heap.size + 1, 1, none⟩ = some (.int .i64 e) ∧ wq.cell? ⟨w.heap.size + 1, 2, none⟩ = some (.int .u64 f)))) (by kernel_rfl) ⟨⟨l0.drew.cell 0 rfl, l0.drew.cell 1 rfl, l0.drew.cell 2 rfl, l0.drew.cell 3 rfl, l0.drew.cell 4 rfl, l0.drew.cell 5 rfl, l0.drew.cell 6 rfl, l0.drew.cell 7 rfl, l0.drew.cell 8 rfl⟩, m0.drew.cell 0 rfl, m0.drew.cell 1 rfl, m0.drew.cell 2 rfl⟩ (fun hS0 => ?_)
 refine wpAnyH_take (i := 0) (v := .pointer (some ⟨w.heap.size + 1, 1, none⟩)) rfl (by kernel_rfl) (by kernel_rfl) (by kernel_rfl) (fun _ _ _ h => h) (Or.inl ⟨by kernel_rfl, fun w0 _ => by go_simp⟩) hS0 ?_
 refine wpAnyH_take (i := 1) (v := .int .i64 e) rfl (by kernel_rfl) (by kernel_rfl) (by kernel_rfl) (fun _ _ _ h => h) (Or.inl ⟨by kernel_rfl, fun w0 hw0 => by obtain ⟨⟨p0, p1, p2, p3, p4, p5, p6, p7, p8⟩, q0, q1, q2⟩ := hw0; go_simp⟩) hS0 ?_
 refine wpAnyH_take (i := 2) (v := .agg #[.int .i64 R, .int .i64 D, .int .i64 L, .int .i64 G, .bool gr, .int .i64 sz, .int .i64 ex, .int .i64 fam, .func (.func F) #[] #[]]) rfl (by kernel_rfl) (by kernel_rfl) (by kernel_rfl) (fun _ _ _ h => h) (Or.inl ⟨by kernel_rfl, fun w0 hw0 => by obtain ⟨⟨p0, p1, p2, p3, p4, p5, p6, p7, p8⟩, q0, q1, q2⟩ := hw0; go_simp⟩) hS0 ?_
 refine wpAnyH_ready (rs := [3]) (by kernel_rfl) (by simp) ?_
 refine AllReadyH.cons rfl (fun K hK => ?_) AllReadyH.nil
 go_simp
 refine (HO.out _).mono ?_
 rintro z w1 ⟨rfl, b1⟩
 have l1 := l0.drew.later b1
 have m1 := m0.drew.later b1
 have b01 := below_trans b0.drew b1
 refine hK.out _ _ ⟨⟨l1.cell 0 rfl, l1.cell 1 rfl, l1.cell 2 rfl, l1.cell 3 rfl, l1.cell 4 rfl, l1.cell 5 rfl, l1.cell 6 rfl, l1.cell 7 rfl, l1.cell 8 rfl⟩, m1.cell 0 rfl, m1.cell 1 rfl, m1.cell 2 rfl⟩ (fun hS3 => ?_)
 clear hK K
 refine wpAnyH_take (i := 4) (v := .bool false) rfl (by kernel_rfl) (by kernel_rfl) (by kernel_rfl) (fun _ _ _ h => h) (Or.inl ⟨by kernel_rfl, fun w0 _ => by go_simp⟩) hS3 ?_
 refine wpAnyH_take (i := 5) (v := .bool false) rfl (by kernel_rfl) (by kernel_rfl) (by kernel_rfl) (fun _ _ _ h => h) (Or.inl ⟨by kernel_rfl, fun w0 _ => by go_simp⟩) hS3 ?_
 refine wpAnyH_take (i := 6) (v := undef) rfl (by kernel_rfl) (by kernel_rfl) (by kernel_rfl) (fun _ _ _ h => h) (Or.inr ⟨by kernel_rfl, rfl⟩) hS3 ?_
 refine wpAnyH_take (i := 7) (v := undef) rfl (by kernel_rfl) (by kernel_rfl) (by kernel_rfl) (fun _ _ _ h => h) (Or.inr ⟨by kernel_rfl, rfl⟩) hS3 ?_
 refine wpAnyH_take (i := 8) (v := undef) rfl (by kernel_rfl) (by kernel_rfl) (by kernel_rfl) (fun _ _ _ h => h) (Or.inr ⟨by kernel_rfl, rfl⟩) hS3 ?_
 refine wpAnyH_take (i := 9) (v := undef) rfl (by kernel_rfl) (by kernel_rfl) (by kernel_rfl) (fun _ _ _ h => h) (Or.inr ⟨by kernel_rfl, rfl⟩) hS3 ?_
 refine wpAnyH_take (i := 10) (v := undef) rfl (by kernel_rfl) (by kernel_rfl) (by kernel_rfl) (fun _ _ _ h => h) (Or.inr ⟨by kernel_rfl, rfl⟩) hS3 ?_
 refine wpAnyH_take (i := 11) (v := .bool false) rfl (by kernel_rfl) (by kernel_rfl) (by kernel_rfl) (fun _ _ _ h => h) (Or.inl ⟨by kernel_rfl, fun w0 _ => by go_simp⟩) hS3 ?_
 refine wpAnyH_take (i := 12) (v := .bool false) rfl (by kernel_rfl) (by kernel_rfl) (by kernel_rfl) (fun _ _ _ h => h) (Or.inl ⟨by kernel_rfl, fun w0 _ => by go_simp⟩) hS3 ?_
 simp only [Act.put, List.getElem_toArray, List.getElem_cons_succ, List.getElem_cons_zero, List.setIfInBounds_toArray, List.set_cons_zero, List.set_cons_succ]
 refine wpAnyH_done (by kernel_rfl) ?_ _
 go_wp2_with fail
 go_region_held3 (fun wq => (wq.cell? ⟨w.heap.size, 0, none⟩ = some (.int .i64 R) ∧ wq.cell? ⟨w.heap.size, 1, none⟩ = some (.int .i64 D) ∧ wq.cell? ⟨w.heap.size, 2, none⟩ = some (.int .i64 L) ∧ wq.cell? ⟨w.heap.size, 3, none⟩ = some (.int .i64 G) ∧ wq.cell? ⟨w.heap.size, 4, none⟩ = some (.bool gr) ∧ wq.cell? ⟨w.heap.size, 5, none⟩ = some (.int .i64 sz) ∧ wq.cell? ⟨w.heap.size, 6, none⟩ = some (.int .i64 ex) ∧ wq.cell? ⟨w.heap.size, 7, none⟩ = some (.int .i64 fam) ∧ wq.cell? ⟨w.heap.size, 8, none⟩ = some (.func (.func F) #[] #[])) ∧ (wq.cell? ⟨w.heap.size + 1, 0, none⟩ = some (.bool ng) ∧ wq.cell? ⟨w.heap.size + 1, 1, none⟩ = some (.int .i64 e) ∧ wq.cell? ⟨w.heap.size + 1, 2, none⟩ = some (.int .u64 f))) (go_keep) (first
  | (go_at_call 205; refine (HO.out _).mono ?_; rintro z w2 ⟨rfl, b2⟩; have l2 := l1.drew.later b2; have m2 := m1.drew.later b2; have b02 := below_trans b01.drew b2; obtain ⟨y0, y1, y2, y3, y4, y5, y6, y7, y8⟩ := l2.cs9; obtain ⟨v0, v1, v2⟩ := m2.cs3)
  | (go_at_call 206; have hgd := b02; clear hgd; refine (HW.out _).mono ?_; rintro z w3 ⟨rfl, b3⟩; have l3 := l2.later b3; have m3 := m2.later b3; have b03 := below_trans b02 b3; obtain ⟨z0, z1, z2, z3, z4, z5, z6, z7, z8⟩ := l3.cs9; obtain ⟨t0, t1, t2⟩ := m3.cs3; clear b02)
  | (go_at_call 206; refine (HW.out _).mono ?_; rintro z w4 ⟨rfl, b4⟩; have l4 := l3.later b4; have m4 := m3.later b4; have b04 := below_trans b03 b4; obtain ⟨a0, a1, a2, a3, a4, a5, a6, a7, a8⟩ := l4.cs9; obtain ⟨c0, c1, c2⟩ := m4.cs3))
 all_goals go_wp2
 all_goals go_ret
 all_goals exact ⟨rfl, b04⟩
theorem and_bit (f n : Nat) : f &&& 2 ^ n = if f.testBit n then 2 ^ n else 0 := by
 apply Nat.eq_of_testBit_eq
 intro i
 rw [Nat.testBit_and, Nat.testBit_two_pow]
 by_cases hi : n = i
 ·subst hi
  cases h : f.testBit n
  ·simp
  ·simp
 ·cases h : f.testBit n
  ·simp [hi]
  ·simp [hi]
theorem and_top (f : Nat) (h : f < 18446744073709551616) : bits .and .u64 (f : Int) 9223372036854775808 = if f < 9223372036854775808 then 0 else 9223372036854775808 := by
 have e1 := u64_and_nat f 9223372036854775808 h (by omega)
 rw [show (9223372036854775808 : Int) = ((9223372036854775808 : Nat) : Int) from rfl, e1]
 have e2 := and_bit f 63
 rw [Nat.testBit_eq_decide_div_mod_eq, show (2 : Nat) ^ 63 = 9223372036854775808 from rfl] at e2
 rw [e2]
 by_cases c : f < 9223372036854775808
 ·rw [if_pos c, show f / 9223372036854775808 = 0 from by omega]
  rfl
 ·rw [if_neg c, show f / 9223372036854775808 = 1 from by omega]
  rfl
theorem and_none (f : Nat) (h : f < 18446744073709551616) : bits .and .u64 (f : Int) 0 = 0 := by
 have e1 := u64_and_nat f 0 h (by omega)
 rw [Nat.and_zero] at e1
 exact e1
def clsN (k : Nat) (ng : Bool) (e f : Nat) : Nat :=
 if k ≤ 3 then (if e = 0 then (if f = 0 then 1 else 2) else if e = onesN k then (if f = (if k = 3 then 2 ^ 63 else 0) then 3 else 4) else if k = 3 ∧ f < 2 ^ 63 then 4 else 2)
 else if k ≤ 5 then (if f = 0 then 1 else 2)
 else if e = 0 then (if ng then 5 else 1) else 2
theorem ci_1 (ng : Bool) (e f : Nat) (w : World) (hf : f < 18446744073709551616) : Calls Tryz.prog 194 #[.agg #[.int .i64 2, .int .i64 24, .int .i64 (-149), .int .i64 104, .bool true, .int .i64 4, .int .i64 8, .int .i64 1, .func (.func 200) #[] #[]], .agg #[.bool ng, .int .i64 (e : Int), .int .u64 (f : Int)]] w fun z w' => z = .returned (.int .i64 ((clsN 1 ng e f : Nat) : Int)) ∧ Below w.heap.size w w' := by
 unfold clsN
 rw [if_pos (by decide), show onesN 1 = 255 from rfl]
 by_cases h0 : e = 0
 ·subst h0
  rw [if_pos rfl]
  by_cases hz : f = 0
  ·subst hz
   exact ci_zero _ _ _ _ _ _ _ _ ng _ 0 0 w _ rfl rfl
  ·rw [if_neg hz]
   exact ci_zero _ _ _ _ _ _ _ _ ng _ 0 (f : Int) w _ rfl (if_neg (by omega))
 ·rw [if_neg h0]
  by_cases h1 : e = 255
  ·subst h1
   rw [if_pos rfl]
   by_cases h2 : f = (if 1 = 3 then 2 ^ 63 else 0)
   ·rw [if_pos h2]
    exact ci_inf _ _ _ _ _ _ _ 255 0 _ ng _ _ (f : Int) w (lones_any 1 (by decide)) (lwritten_any 1 (by decide)) rfl (by rw [h2]; rfl) (by decide)
   ·rw [if_neg h2]
    exact ci_none _ _ _ _ _ _ _ 255 0 _ ng _ _ (f : Int) w (lones_any 1 (by decide)) (lwritten_any 1 (by decide)) rfl (fun c => h2 (by rw [show (if 1 = 3 then 2 ^ 63 else 0) = 0 from rfl]; omega)) (by decide)
  ·rw [if_neg h1]
   rw [if_neg (fun c => by omega)]
   exact ci_num _ _ _ _ _ _ _ 255 0 _ ng _ _ (f : Int) w (lones_any 1 (by decide)) (lwritten_any 1 (by decide)) (by omega) (by omega) (and_none f hf)
theorem ci_2 (ng : Bool) (e f : Nat) (w : World) (hf : f < 18446744073709551616) : Calls Tryz.prog 194 #[.agg #[.int .i64 2, .int .i64 53, .int .i64 (-1074), .int .i64 971, .bool true, .int .i64 8, .int .i64 11, .int .i64 1, .func (.func 200) #[] #[]], .agg #[.bool ng, .int .i64 (e : Int), .int .u64 (f : Int)]] w fun z w' => z = .returned (.int .i64 ((clsN 2 ng e f : Nat) : Int)) ∧ Below w.heap.size w w' := by
 unfold clsN
 rw [if_pos (by decide), show onesN 2 = 2047 from rfl]
 by_cases h0 : e = 0
 ·subst h0
  rw [if_pos rfl]
  by_cases hz : f = 0
  ·subst hz
   exact ci_zero _ _ _ _ _ _ _ _ ng _ 0 0 w _ rfl rfl
  ·rw [if_neg hz]
   exact ci_zero _ _ _ _ _ _ _ _ ng _ 0 (f : Int) w _ rfl (if_neg (by omega))
 ·rw [if_neg h0]
  by_cases h1 : e = 2047
  ·subst h1
   rw [if_pos rfl]
   by_cases h2 : f = (if 2 = 3 then 2 ^ 63 else 0)
   ·rw [if_pos h2]
    exact ci_inf _ _ _ _ _ _ _ 2047 0 _ ng _ _ (f : Int) w (lones_any 2 (by decide)) (lwritten_any 2 (by decide)) rfl (by rw [h2]; rfl) (by decide)
   ·rw [if_neg h2]
    exact ci_none _ _ _ _ _ _ _ 2047 0 _ ng _ _ (f : Int) w (lones_any 2 (by decide)) (lwritten_any 2 (by decide)) rfl (fun c => h2 (by rw [show (if 2 = 3 then 2 ^ 63 else 0) = 0 from rfl]; omega)) (by decide)
  ·rw [if_neg h1]
   rw [if_neg (fun c => by omega)]
   exact ci_num _ _ _ _ _ _ _ 2047 0 _ ng _ _ (f : Int) w (lones_any 2 (by decide)) (lwritten_any 2 (by decide)) (by omega) (by omega) (and_none f hf)
theorem ci_3 (ng : Bool) (e f : Nat) (w : World) (hf : f < 18446744073709551616) : Calls Tryz.prog 194 #[.agg #[.int .i64 2, .int .i64 64, .int .i64 (-16445), .int .i64 16320, .bool true, .int .i64 10, .int .i64 15, .int .i64 1, .func (.func 201) #[] #[]], .agg #[.bool ng, .int .i64 (e : Int), .int .u64 (f : Int)]] w fun z w' => z = .returned (.int .i64 ((clsN 3 ng e f : Nat) : Int)) ∧ Below w.heap.size w w' := by
 unfold clsN
 rw [if_pos (by decide), show onesN 3 = 32767 from rfl]
 by_cases h0 : e = 0
 ·subst h0
  rw [if_pos rfl]
  by_cases hz : f = 0
  ·subst hz
   exact ci_zero _ _ _ _ _ _ _ _ ng _ 0 0 w _ rfl rfl
  ·rw [if_neg hz]
   exact ci_zero _ _ _ _ _ _ _ _ ng _ 0 (f : Int) w _ rfl (if_neg (by omega))
 ·rw [if_neg h0]
  by_cases h1 : e = 32767
  ·subst h1
   rw [if_pos rfl]
   by_cases h2 : f = (if 3 = 3 then 2 ^ 63 else 0)
   ·rw [if_pos h2]
    exact ci_inf _ _ _ _ _ _ _ 32767 9223372036854775808 _ ng _ _ (f : Int) w (lones_any 3 (by decide)) (lwritten_any 3 (by decide)) rfl (by rw [h2]; rfl) (by decide)
   ·rw [if_neg h2]
    exact ci_none _ _ _ _ _ _ _ 32767 9223372036854775808 _ ng _ _ (f : Int) w (lones_any 3 (by decide)) (lwritten_any 3 (by decide)) rfl (fun c => h2 (by rw [show (if 3 = 3 then 2 ^ 63 else 0) = 9223372036854775808 from rfl]; omega)) (by decide)
  ·rw [if_neg h1]
   have ha := and_top f hf
   by_cases h3 : f < 9223372036854775808
   ·rw [if_pos ⟨rfl, h3⟩]
    rw [if_pos h3] at ha
    exact ci_mis _ _ _ _ _ _ _ 32767 9223372036854775808 _ ng _ _ (f : Int) w (lones_any 3 (by decide)) (lwritten_any 3 (by decide)) (by omega) (by omega) ha (by decide)
   ·rw [if_neg (fun c => h3 c.2)]
    rw [if_neg h3] at ha
    exact ci_num _ _ _ _ _ _ _ 32767 9223372036854775808 _ ng _ _ (f : Int) w (lones_any 3 (by decide)) (lwritten_any 3 (by decide)) (by omega) (by omega) ha
end Go.Proofs.YtnhackdjplppjaaGreatDoor

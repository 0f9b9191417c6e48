/-
  Texts laid together: Co3, Co9.
-/
import Derived.Test.YtnhackdjplppjaaGreatDoorAt04
set_option maxRecDepth 100000
namespace Go.Proofs.YtnhackdjplppjaaGreatDoor
open Go.RowKit
theorem results_two {P : Program} {fn : Func} {a t : Nat} {ty : TypeId} {tmps : Array Value} {w : World} {b : Nat} {v u : Value} (hres : fn.results = #[.cell a ty, .tmp t]) (hp : tmps.getD a undef = .pointer (some ⟨b, 0, none⟩)) (hu : tmps.getD t undef = u) (hl : (loadVar ty ⟨b, 0, none⟩).run P w = .ok v w) : (results fn tmps).run P w = .ok (.tuple #[v, u]) w := by
 rw [Array.getD_eq_getD_getElem?] at hp hu
 unfold results
 simp [hres, hp, hu, asAddr, hl]
def LayRes (w : World) (n : Nat) (c : Int) (e : Ending) (w' : World) : Prop :=
 e = .returned (.tuple #[.agg (layV n).toArray, .int .i64 c]) ∧ Below w.heap.size w w'
set_option maxHeartbeats 3200000 in
theorem layoutOf_none (n : Int) (w : World) (h : famC n = 0) : Calls Tryz.prog 97 #[.int .i64 n] w (LayRes w 0 6) := by
 have hf := family_any n
 rw [h] at hf
 have HF : Hid _ := hf
 clear hf h
 have l0 := locE_new w [.int .i64 0, .int .i64 0, .int .i64 0, .int .i64 0, .bool false, .int .i64 0, .int .i64 0, .int .i64 0, .nilFunc] 144
 have hsn := hsn_z
 have b0 := below_alloc w (.cells #[.int .i64 0, .int .i64 0, .int .i64 0, .int .i64 0, .bool false, .int .i64 0, .int .i64 0, .int .i64 0, .nilFunc] 144)
 have hl := run_loadVar_mid (P := Tryz.prog) _ w.heap.size 0 144 (layV 0) _ l0.range Tryz.underlying144 rfl (by kernel_rfl)
 have HH : Hid (_ ∧ _) := ⟨hl, b0⟩
 clear hl b0 l0
 go_enter Tryz.func97, Tryz.ntmps97
 go_wp2_with fail
 refine (HF.out _).mono ?_
 rintro z w' ⟨rfl, rfl⟩
 go_wp2
 obtain ⟨hl, bR⟩ := HH.out
 exact bodyPost_ret (results_two Tryz.results97 rfl rfl hl) rfl ⟨rfl, bR⟩
set_option maxHeartbeats 3200000 in
theorem layoutOf_W (k R D L G sz ex fam c : Int) (gr : Bool) (F : Nat) (A : Value) (w : World) (hc : (c == 0) = false)
  (HF : ∀ w1, Calls Tryz.prog 136 #[.int .i64 k] w1 fun z w' => z = .returned (.int .i64 c) ∧ w' = w1)
  (HL : ∀ w1, Calls Tryz.prog 153 #[] w1 fun z w' => z = .returned A ∧ Below w1.heap.size w1 w')
  (hix : ∀ W : World, (Instr.index 209 A (.int .i64 k)).run Tryz.prog W = .ok (.agg #[.int .i64 R, .int .i64 D, .int .i64 L, .int .i64 G, .bool gr, .int .i64 sz, .int .i64 ex, .int .i64 fam, .func (.func F) #[] #[]]) W) :
  Calls Tryz.prog 97 #[.int .i64 k] w fun z w' => z = .returned (.tuple #[.agg #[.int .i64 R, .int .i64 D, .int .i64 L, .int .i64 G, .bool gr, .int .i64 sz, .int .i64 ex, .int .i64 fam, .func (.func F) #[] #[]], .int .i64 0]) ∧ Below w.heap.size w w' := by
 replace HF : Hid _ := HF
 replace HL : Hid _ := HL
 have hsf := hsf_z
 have l0 := locE_new w [.int .i64 0, .int .i64 0, .int .i64 0, .int .i64 0, .bool false, .int .i64 0, .int .i64 0, .int .i64 0, .nilFunc] 144
 have b0 := below_alloc w (.cells #[.int .i64 0, .int .i64 0, .int .i64 0, .int .i64 0, .bool false, .int .i64 0, .int .i64 0, .int .i64 0, .nilFunc] 144)
 go_enter Tryz.func97, Tryz.ntmps97
 go_wp2_with fail
 refine (HF.out _).mono ?_
 rintro z w' ⟨rfl, rfl⟩
 go_wp2_with fail
 refine (HL.out _).mono ?_
 rintro z w2 ⟨rfl, b2⟩
 have l2 := l0.later b2
 have cR : LocE (((((((((w2.setCell ⟨w.heap.size, 0, none⟩ (.int .i64 R)).setCell ⟨w.heap.size, 1, none⟩ (.int .i64 D)).setCell ⟨w.heap.size, 2, none⟩ (.int .i64 L)).setCell ⟨w.heap.size, 3, none⟩ (.int .i64 G)).setCell ⟨w.heap.size, 4, none⟩ (.bool gr)).setCell ⟨w.heap.size, 5, none⟩ (.int .i64 sz)).setCell ⟨w.heap.size, 6, none⟩ (.int .i64 ex)).setCell ⟨w.heap.size, 7, none⟩ (.int .i64 fam)).setCell ⟨w.heap.size, 8, none⟩ (.func (.func F) #[] #[])) w.heap.size 144 [.int .i64 R, .int .i64 D, .int .i64 L, .int .i64 G, .bool gr, .int .i64 sz, .int .i64 ex, .int .i64 fam, .func (.func F) #[] #[]] := (((((((((l2.set 0 (.int .i64 R)).set 1 (.int .i64 D)).set 2 (.int .i64 L)).set 3 (.int .i64 G)).set 4 (.bool gr)).set 5 (.int .i64 sz)).set 6 (.int .i64 ex)).set 7 (.int .i64 fam)).set 8 (.func (.func F) #[] #[]))
 have bR := (((((((((but_set w2 w.heap.size 0 (.int .i64 R)).trans (but_set _ w.heap.size 1 (.int .i64 D))).trans (but_set _ w.heap.size 2 (.int .i64 L))).trans (but_set _ w.heap.size 3 (.int .i64 G))).trans (but_set _ w.heap.size 4 (.bool gr))).trans (but_set _ w.heap.size 5 (.int .i64 sz))).trans (but_set _ w.heap.size 6 (.int .i64 ex))).trans (but_set _ w.heap.size 7 (.int .i64 fam))).trans (but_set _ w.heap.size 8 (.func (.func F) #[] #[]))).below (below_trans b0 b2) (Nat.le_refl _)
 have hl := run_loadVar_mid (P := Tryz.prog) _ w.heap.size 0 144 [.int .i64 R, .int .i64 D, .int .i64 L, .int .i64 G, .bool gr, .int .i64 sz, .int .i64 ex, .int .i64 fam, .func (.func F) #[] #[]] _ cR.range Tryz.underlying144 rfl (by kernel_rfl)
 have HH : Hid (_ ∧ _) := ⟨hl, bR⟩
 have f0 := l2.free 0
 have f1 := l2.free 1
 have f2 := l2.free 2
 have f3 := l2.free 3
 have f4 := l2.free 4
 have f5 := l2.free 5
 have f6 := l2.free 6
 have f7 := l2.free 7
 have f8 := l2.free 8
 obtain ⟨x0, x1, x2, x3, x4, x5, x6, x7, x8⟩ := l2.cs9
 clear hl bR cR l0 l2 b0 b2 HF HL
 go_wp2
 obtain ⟨hl, bR⟩ := HH.out
 exact bodyPost_ret (results_two Tryz.results97 rfl rfl hl) rfl ⟨rfl, bR⟩
theorem layoutOf_1 (w : World) : Calls Tryz.prog 97 #[.int .i64 1] w (LayRes w 1 0) :=
 layoutOf_W 1 _ _ _ _ _ _ _ 1 _ _ _ w rfl (family_any 1) layouts_any (fun W => by kernel_rfl)
theorem layoutOf_2 (w : World) : Calls Tryz.prog 97 #[.int .i64 2] w (LayRes w 2 0) :=
 layoutOf_W 2 _ _ _ _ _ _ _ 1 _ _ _ w rfl (family_any 2) layouts_any (fun W => by kernel_rfl)
theorem layoutOf_3 (w : World) : Calls Tryz.prog 97 #[.int .i64 3] w (LayRes w 3 0) :=
 layoutOf_W 3 _ _ _ _ _ _ _ 1 _ _ _ w rfl (family_any 3) layouts_any (fun W => by kernel_rfl)
theorem layoutOf_4 (w : World) : Calls Tryz.prog 97 #[.int .i64 4] w (LayRes w 4 0) :=
 layoutOf_W 4 _ _ _ _ _ _ _ 2 _ _ _ w rfl (family_any 4) layouts_any (fun W => by kernel_rfl)
theorem layoutOf_5 (w : World) : Calls Tryz.prog 97 #[.int .i64 5] w (LayRes w 5 0) :=
 layoutOf_W 5 _ _ _ _ _ _ _ 2 _ _ _ w rfl (family_any 5) layouts_any (fun W => by kernel_rfl)
theorem layoutOf_6 (w : World) : Calls Tryz.prog 97 #[.int .i64 6] w (LayRes w 6 0) :=
 layoutOf_W 6 _ _ _ _ _ _ _ 3 _ _ _ w rfl (family_any 6) layouts_any (fun W => by kernel_rfl)
theorem layoutOf_7 (w : World) : Calls Tryz.prog 97 #[.int .i64 7] w (LayRes w 7 0) :=
 layoutOf_W 7 _ _ _ _ _ _ _ 3 _ _ _ w rfl (family_any 7) layouts_any (fun W => by kernel_rfl)
theorem layoutOf_8 (w : World) : Calls Tryz.prog 97 #[.int .i64 8] w (LayRes w 8 0) :=
 layoutOf_W 8 _ _ _ _ _ _ _ 3 _ _ _ w rfl (family_any 8) layouts_any (fun W => by kernel_rfl)
end Go.Proofs.YtnhackdjplppjaaGreatDoor
namespace Go.Proofs.YtnhackdjplppjaaGreatDoor
open Go.RowKit
def szN : Nat → Nat
 | 1 => 4 | 2 => 8 | 3 => 10 | 4 => 4 | 5 => 8 | 6 => 4 | 7 => 8 | 8 => 8 | _ => 0
def exN : Nat → Nat
 | 1 => 8 | 2 => 11 | 3 => 15 | 4 => 7 | 5 => 7 | 6 => 8 | 7 => 8 | 8 => 11 | _ => 0
def dgN : Nat → Nat
 | 1 => 24 | 2 => 53 | 3 => 64 | 4 => 6 | 5 => 14 | 6 => 24 | 7 => 56 | 8 => 53 | _ => 0
def rdN : Nat → Nat
 | 4 => 16 | 5 => 16 | _ => 2
def lsI : Nat → Int
 | 1 => -149 | 2 => -1074 | 3 => -16445 | 4 => -70 | 5 => -78 | 6 => -151 | 7 => -183 | 8 => -1076 | _ => 0
def frN (k : Nat) : Nat := 8 * szN k - 1 - exN k
def onesN (k : Nat) : Nat := 2 ^ exN k - 1
def leadN (k : Nat) : Nat := 2 ^ (dgN k - 1)
def wrN (k : Nat) : Nat := if k = 3 then 2 ^ 63 else if k = 4 then 2 ^ 5 else if k = 5 then 2 ^ 13 else 0
theorem eight {k : Nat} (h : 1 ≤ k ∧ k ≤ 8) : k = 1 ∨ k = 2 ∨ k = 3 ∨ k = 4 ∨ k = 5 ∨ k = 6 ∨ k = 7 ∨ k = 8 := by omega
theorem zeroOr_any (b : Bool) (w : World) : Calls Tryz.prog 195 #[.bool b] w fun z w' => z = .returned (.int .i64 (if b then 1 else 2)) ∧ w' = w := by
 cases b
 ·go_enter Tryz.func195, Tryz.ntmps195
  go_wp2
  go_ret
  exact ⟨rfl, rfl⟩
 ·go_enter Tryz.func195, Tryz.ntmps195
  go_wp2
  go_ret
  exact ⟨rfl, rfl⟩
set_option maxHeartbeats 1600000 in
theorem lfraction_any (k : Nat) (hk : 1 ≤ k ∧ k ≤ 8) (w : World) : Calls Tryz.prog 197 #[.agg (layV k).toArray] w fun z w' => z = .returned (.int .i64 ((frN k : Nat) : Int)) ∧ Below w.heap.size w w' := by
 have hsf := hsf_z
 rcases eight hk with rfl | rfl | rfl | rfl | rfl | rfl | rfl | rfl
 all_goals
  change Calls _ _ #[.agg #[_, _, _, _, _, _, _, _, _]] _ _
  go_enter Tryz.func197, Tryz.ntmps197
  go_wp2
  go_ret
  exact ⟨rfl, below_alloc _ _⟩
set_option maxHeartbeats 1600000 in
theorem lones_any (k : Nat) (hk : 1 ≤ k ∧ k ≤ 8) (w : World) : Calls Tryz.prog 205 #[.agg (layV k).toArray] w fun z w' => z = .returned (.int .i64 ((onesN k : Nat) : Int)) ∧ Below w.heap.size w w' := by
 have hsf := hsf_z
 rcases eight hk with rfl | rfl | rfl | rfl | rfl | rfl | rfl | rfl
 all_goals
  change Calls _ _ #[.agg #[_, _, _, _, _, _, _, _, _]] _ _
  go_enter Tryz.func205, Tryz.ntmps205
  go_wp2
  go_ret
  exact ⟨rfl, below_alloc _ _⟩
set_option maxHeartbeats 1600000 in
theorem llead_any (k : Nat) (hk : 1 ≤ k ∧ k ≤ 8) (w : World) : Calls Tryz.prog 198 #[.agg (layV k).toArray] w fun z w' => z = .returned (.int .u64 ((leadN k : Nat) : Int)) ∧ Below w.heap.size w w' := by
 have hsf := hsf_z
 rcases eight hk with rfl | rfl | rfl | rfl | rfl | rfl | rfl | rfl
 all_goals
  change Calls _ _ #[.agg #[_, _, _, _, _, _, _, _, _]] _ _
  go_enter Tryz.func198, Tryz.ntmps198
  go_wp2
  go_ret
  exact ⟨rfl, below_alloc _ _⟩
set_option maxHeartbeats 1600000 in
theorem lwritten_lt (R D L G sz ex fam fr : Int) (gr : Bool) (F : Nat) (w : World) (hlt : fr < D)
  (HF : ∀ w1, Calls Tryz.prog 197 #[.agg #[.int .i64 R, .int .i64 D, .int .i64 L, .int .i64 G, .bool gr, .int .i64 sz, .int .i64 ex, .int .i64 fam, .func (.func F) #[] #[]]] w1 fun z w' => z = .returned (.int .i64 fr) ∧ Below w1.heap.size w1 w') :
  Calls Tryz.prog 206 #[.agg #[.int .i64 R, .int .i64 D, .int .i64 L, .int .i64 G, .bool gr, .int .i64 sz, .int .i64 ex, .int .i64 fam, .func (.func F) #[] #[]]] w fun z w' => z = .returned (.int .u64 0) ∧ Below w.heap.size w w' := by
 have hsf := hsf_z
 replace HF : Hid _ := HF
 have l0 := locE_new w [.int .i64 R, .int .i64 D, .int .i64 L, .int .i64 G, .bool gr, .int .i64 sz, .int .i64 ex, .int .i64 fam, .func (.func F) #[] #[]] 144
 have b0 := below_alloc w (.cells #[.int .i64 R, .int .i64 D, .int .i64 L, .int .i64 G, .bool gr, .int .i64 sz, .int .i64 ex, .int .i64 fam, .func (.func F) #[] #[]] 144)
 obtain ⟨x0, x1, x2, x3, x4, x5, x6, x7, x8⟩ := l0.cs9
 go_enter Tryz.func206, Tryz.ntmps206
 go_wp2_with fail
 go_region_held3 (fun wq => wq.cell? ⟨w.heap.size, 0, none⟩ = some (.int .i64 R) ∧ wq.cell? ⟨w.heap.size, 1, none⟩ = some (.int .i64 D) ∧ wq.cell? ⟨w.heap.size, 2, none⟩ = some (.int .i64 L) ∧ wq.cell? ⟨w.heap.size, 3, none⟩ = some (.int .i64 G) ∧ wq.cell? ⟨w.heap.size, 4, none⟩ = some (.bool gr) ∧ wq.cell? ⟨w.heap.size, 5, none⟩ = some (.int .i64 sz) ∧ wq.cell? ⟨w.heap.size, 6, none⟩ = some (.int .i64 ex) ∧ wq.cell? ⟨w.heap.size, 7, none⟩ = some (.int .i64 fam) ∧ wq.cell? ⟨w.heap.size, 8, none⟩ = some (.func (.func F) #[] #[])) (go_keep) (first
  | (go_at_call 197; refine (HF.out _).mono ?_; rintro z w2 ⟨rfl, b2⟩; have l2 := l0.drew.later b2; obtain ⟨y0, y1, y2, y3, y4, y5, y6, y7, y8⟩ := l2.cs9))
 all_goals go_wp2
 all_goals go_ret
 all_goals exact ⟨rfl, below_trans b0.drew b2⟩
set_option maxHeartbeats 1600000 in
theorem lwritten_ge (R D L G sz ex fam fr ld : Int) (gr : Bool) (F : Nat) (w : World) (hlt : ¬ fr < D)
  (HF : ∀ w1, Calls Tryz.prog 197 #[.agg #[.int .i64 R, .int .i64 D, .int .i64 L, .int .i64 G, .bool gr, .int .i64 sz, .int .i64 ex, .int .i64 fam, .func (.func F) #[] #[]]] w1 fun z w' => z = .returned (.int .i64 fr) ∧ Below w1.heap.size w1 w')
  (HL : ∀ w1, Calls Tryz.prog 198 #[.agg #[.int .i64 R, .int .i64 D, .int .i64 L, .int .i64 G, .bool gr, .int .i64 sz, .int .i64 ex, .int .i64 fam, .func (.func F) #[] #[]]] w1 fun z w' => z = .returned (.int .u64 ld) ∧ Below w1.heap.size w1 w') :
  Calls Tryz.prog 206 #[.agg #[.int .i64 R, .int .i64 D, .int .i64 L, .int .i64 G, .bool gr, .int .i64 sz, .int .i64 ex, .int .i64 fam, .func (.func F) #[] #[]]] w fun z w' => z = .returned (.int .u64 ld) ∧ Below w.heap.size w w' := by
 have hsf := hsf_z
 replace HF : Hid _ := HF
 replace HL : Hid _ := HL
 have l0 := locE_new w [.int .i64 R, .int .i64 D, .int .i64 L, .int .i64 G, .bool gr, .int .i64 sz, .int .i64 ex, .int .i64 fam, .func (.func F) #[] #[]] 144
 have b0 := below_alloc w (.cells #[.int .i64 R, .int .i64 D, .int .i64 L, .int .i64 G, .bool gr, .int .i64 sz, .int .i64 ex, .int .i64 fam, .func (.func F) #[] #[]] 144)
 obtain ⟨x0, x1, x2, x3, x4, x5, x6, x7, x8⟩ := l0.cs9
 go_enter Tryz.func206, Tryz.ntmps206
 go_wp2_with fail
 go_region_held3 (fun wq => wq.cell? ⟨w.heap.size, 0, none⟩ = some (.int .i64 R) ∧ wq.cell? ⟨w.heap.size, 1, none⟩ = some (.int .i64 D) ∧ wq.cell? ⟨w.heap.size, 2, none⟩ = some (.int .i64 L) ∧ wq.cell? ⟨w.heap.size, 3, none⟩ = some (.int .i64 G) ∧ wq.cell? ⟨w.heap.size, 4, none⟩ = some (.bool gr) ∧ wq.cell? ⟨w.heap.size, 5, none⟩ = some (.int .i64 sz) ∧ wq.cell? ⟨w.heap.size, 6, none⟩ = some (.int .i64 ex) ∧ wq.cell? ⟨w.heap.size, 7, none⟩ = some (.int .i64 fam) ∧ wq.cell? ⟨w.heap.size, 8, none⟩ = some (.func (.func F) #[] #[])) (go_keep) (first
  | (go_at_call 197; refine (HF.out _).mono ?_; rintro z w2 ⟨rfl, b2⟩; have l2 := l0.drew.later b2; obtain ⟨y0, y1, y2, y3, y4, y5, y6, y7, y8⟩ := l2.cs9))
 all_goals go_wp2_with fail
 all_goals (refine (HL.out _).mono ?_; rintro z w3 ⟨rfl, b3⟩; go_wp2; go_ret; exact ⟨rfl, below_trans (below_trans b0.drew b2) b3⟩)
theorem lwritten_any (k : Nat) (hk : 1 ≤ k ∧ k ≤ 8) (w : World) : Calls Tryz.prog 206 #[.agg (layV k).toArray] w fun z w' => z = .returned (.int .u64 ((wrN k : Nat) : Int)) ∧ Below w.heap.size w w' := by
 have HF := fun w1 => lfraction_any k hk w1
 have HL := fun w1 => llead_any k hk w1
 rcases eight hk with rfl | rfl | rfl | rfl | rfl | rfl | rfl | rfl
 all_goals first | exact lwritten_lt _ _ _ _ _ _ _ _ _ _ w (by decide) HF | exact lwritten_ge _ _ _ _ _ _ _ _ _ _ _ w (by decide) HF HL
end Go.Proofs.YtnhackdjplppjaaGreatDoor

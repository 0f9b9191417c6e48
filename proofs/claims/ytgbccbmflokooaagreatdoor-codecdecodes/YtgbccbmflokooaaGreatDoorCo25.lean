/-
  Patterns: Class.
-/
import Derived.Test.YtgbccbmflokooaaGreatDoorCo18
namespace Go.Proofs.YtgbccbmflokooaaGreatDoor
open Go.RowKit

set_option maxRecDepth 100000 in
set_option maxHeartbeats 3200000 in
theorem class_W (n : Int) (R sz ex : Nat) (D L G fam : Int) (gr : Bool) (F : Nat) (ng : Bool) (e f : Nat) (c : Int) (s : ByteArray) (w : World)
    (HR : ∀ w1, Calls Tryz.prog 24 #[.int .i64 n, .string s] w1 fun z w' => z = .returned (.tuple #[.agg #[.int .i64 (R : Int), .int .i64 D, .int .i64 L, .int .i64 G, .bool gr, .int .i64 (sz : Int), .int .i64 (ex : Int), .int .i64 fam, .func (.func F) #[] #[]], .agg #[.bool ng, .int .i64 (e : Int), .int .u64 (f : Int)], .int .i64 0]) ∧ Below w1.heap.size w1 w')
    (HC : ∀ w1, Calls Tryz.prog 37 #[.agg #[.int .i64 (R : Int), .int .i64 D, .int .i64 L, .int .i64 G, .bool gr, .int .i64 (sz : Int), .int .i64 (ex : Int), .int .i64 fam, .func (.func F) #[] #[]], .agg #[.bool ng, .int .i64 (e : Int), .int .u64 (f : Int)]] w1 fun z w' => z = .returned (.int .i64 c) ∧ Below w1.heap.size w1 w') :
    Calls Tryz.prog 14 #[.int .i64 n, .string s] w fun z w' => z = .returned (.tuple #[.int .i64 c, .bool ng, .int .i64 0]) ∧ Below w.heap.size w w' := by
  have hsf : ∀ (a : Addr) (W : World) (g : Fn), (store a (Value.func g #[] #[])).run Tryz.prog W = stored Tryz.prog W a (Value.func g #[] #[]) .plain := fun a W g => run_store _ W a _ _ rfl
  have HR' : Hid (∀ w1, Calls Tryz.prog 24 #[.int .i64 n, .string s] w1 fun z w' => z = .returned (.tuple #[.agg #[.int .i64 (R : Int), .int .i64 D, .int .i64 L, .int .i64 G, .bool gr, .int .i64 (sz : Int), .int .i64 (ex : Int), .int .i64 fam, .func (.func F) #[] #[]], .agg #[.bool ng, .int .i64 (e : Int), .int .u64 (f : Int)], .int .i64 0]) ∧ Below w1.heap.size w1 w') := HR
  have HC' : Hid (∀ w1, Calls Tryz.prog 37 #[.agg #[.int .i64 (R : Int), .int .i64 D, .int .i64 L, .int .i64 G, .bool gr, .int .i64 (sz : Int), .int .i64 (ex : Int), .int .i64 fam, .func (.func F) #[] #[]], .agg #[.bool ng, .int .i64 (e : Int), .int .u64 (f : Int)]] w1 fun z w' => z = .returned (.int .i64 c) ∧ Below w1.heap.size w1 w') := HC
  clear HR HC
  go_enter Tryz.func14, Tryz.ntmps14
  go_wp2_with fail
  refine (HR'.out _).mono ?_
  rintro z w1 ⟨rfl, b1⟩
  have bl := below_alloc w1 (.cells #[.int .i64 (R : Int), .int .i64 D, .int .i64 L, .int .i64 G, .bool gr, .int .i64 (sz : Int), .int .i64 (ex : Int), .int .i64 fam, .func (.func F) #[] #[]] 65)
  have bf := below_alloc (w1.alloc (.cells #[.int .i64 (R : Int), .int .i64 D, .int .i64 L, .int .i64 G, .bool gr, .int .i64 (sz : Int), .int .i64 (ex : Int), .int .i64 fam, .func (.func F) #[] #[]] 65)) (.cells #[.bool ng, .int .i64 (e : Int), .int .u64 (f : Int)] 68)
  have l0 := ((locE_new w1 [.int .i64 (R : Int), .int .i64 D, .int .i64 L, .int .i64 G, .bool gr, .int .i64 (sz : Int), .int .i64 (ex : Int), .int .i64 fam, .func (.func F) #[] #[]] 65).later bf).drew
  have m0 := (locE_new (w1.alloc (.cells #[.int .i64 (R : Int), .int .i64 D, .int .i64 L, .int .i64 G, .bool gr, .int .i64 (sz : Int), .int .i64 (ex : Int), .int .i64 fam, .func (.func F) #[] #[]] 65)) [.bool ng, .int .i64 (e : Int), .int .u64 (f : Int)] 68).drew
  rw [World.size_alloc] at m0
  have b0 := (below_trans (below_trans b1 bl) bf).drew
  have x0 := l0.cell 0 rfl; have x1 := l0.cell 1 rfl; have x2 := l0.cell 2 rfl; have x3 := l0.cell 3 rfl; have x4 := l0.cell 4 rfl; have x5 := l0.cell 5 rfl; have x6 := l0.cell 6 rfl; have x7 := l0.cell 7 rfl; have x8 := l0.cell 8 rfl; have u0 := m0.cell 0 rfl; have u1 := m0.cell 1 rfl; have u2 := m0.cell 2 rfl
  go_wp2_with fail
  go_region_held3 (fun wq => (wq.cell? ⟨w1.heap.size, 0, none⟩ = some (.int .i64 (R : Int)) ∧ wq.cell? ⟨w1.heap.size, 1, none⟩ = some (.int .i64 D) ∧ wq.cell? ⟨w1.heap.size, 2, none⟩ = some (.int .i64 L) ∧ wq.cell? ⟨w1.heap.size, 3, none⟩ = some (.int .i64 G) ∧ wq.cell? ⟨w1.heap.size, 4, none⟩ = some (.bool gr) ∧ wq.cell? ⟨w1.heap.size, 5, none⟩ = some (.int .i64 (sz : Int)) ∧ wq.cell? ⟨w1.heap.size, 6, none⟩ = some (.int .i64 (ex : Int)) ∧ wq.cell? ⟨w1.heap.size, 7, none⟩ = some (.int .i64 fam) ∧ wq.cell? ⟨w1.heap.size, 8, none⟩ = some (.func (.func F) #[] #[])) ∧ (wq.cell? ⟨w1.heap.size + 1, 0, none⟩ = some (.bool ng) ∧ wq.cell? ⟨w1.heap.size + 1, 1, none⟩ = some (.int .i64 (e : Int)) ∧ wq.cell? ⟨w1.heap.size + 1, 2, none⟩ = some (.int .u64 (f : Int)))) (go_keep) (first
    | (go_at_call 37; refine (HC'.out _).mono ?_; rintro z w2 ⟨rfl, b2⟩; have l2 := l0.later b2; have m2 := m0.later b2; have b02 := below_trans b0 b2; have y0 := l2.cell 0 rfl; have y1 := l2.cell 1 rfl; have y2 := l2.cell 2 rfl; have y3 := l2.cell 3 rfl; have y4 := l2.cell 4 rfl; have y5 := l2.cell 5 rfl; have y6 := l2.cell 6 rfl; have y7 := l2.cell 7 rfl; have y8 := l2.cell 8 rfl; have v0 := m2.cell 0 rfl; have v1 := m2.cell 1 rfl; have v2 := m2.cell 2 rfl))
  all_goals go_wp2
  all_goals go_ret3
  all_goals exact ⟨rfl, b02⟩

set_option maxRecDepth 100000 in
set_option maxHeartbeats 3200000 in
theorem class_err (n : Int) (er : Int) (her : er ≠ 0) (s : ByteArray) (w : World)
    (HR : ∀ w1, Calls Tryz.prog 24 #[.int .i64 n, .string s] w1 fun z w' => z = .returned (.tuple #[.agg #[.int .i64 0, .int .i64 0, .int .i64 0, .int .i64 0, .bool false, .int .i64 0, .int .i64 0, .int .i64 0, .nilFunc], .agg #[.bool false, .int .i64 0, .int .u64 0], .int .i64 er]) ∧ Below w1.heap.size w1 w') :
    Calls Tryz.prog 14 #[.int .i64 n, .string s] w fun z w' => z = .returned (.tuple #[.int .i64 0, .bool false, .int .i64 er]) ∧ Below w.heap.size w w' := by
  have hsn : ∀ (a : Addr) (W : World), (store a Value.nilFunc).run Tryz.prog W = stored Tryz.prog W a Value.nilFunc .plain := fun a W => run_store _ W a _ _ rfl
  have HR' : Hid (∀ w1, Calls Tryz.prog 24 #[.int .i64 n, .string s] w1 fun z w' => z = .returned (.tuple #[.agg #[.int .i64 0, .int .i64 0, .int .i64 0, .int .i64 0, .bool false, .int .i64 0, .int .i64 0, .int .i64 0, .nilFunc], .agg #[.bool false, .int .i64 0, .int .u64 0], .int .i64 er]) ∧ Below w1.heap.size w1 w') := HR
  have he : (er == 0) = false := by simpa using her
  clear HR her
  go_enter Tryz.func14, Tryz.ntmps14
  go_wp2_with fail
  refine (HR'.out _).mono ?_
  rintro z w1 ⟨rfl, b1⟩
  have bl := below_alloc w1 (.cells #[.int .i64 0, .int .i64 0, .int .i64 0, .int .i64 0, .bool false, .int .i64 0, .int .i64 0, .int .i64 0, .nilFunc] 65)
  have bf := below_alloc (w1.alloc (.cells #[.int .i64 0, .int .i64 0, .int .i64 0, .int .i64 0, .bool false, .int .i64 0, .int .i64 0, .int .i64 0, .nilFunc] 65)) (.cells #[.bool false, .int .i64 0, .int .u64 0] 68)
  have b0 := below_trans (below_trans b1 bl) bf
  go_wp2
  go_ret3
  exact ⟨rfl, b0⟩

/-- What Class tells of the sign. -/
def clsG (n : Int) (s : ByteArray) : Bool := if patC n s = 0 then fldN n.toNat s else false

theorem class_any (n : Int) (s : ByteArray) (w : World) : Calls Tryz.prog 14 #[.int .i64 n, .string s] w fun z w' => z = .returned (.tuple #[.int .i64 ((decC n s : Nat) : Int), .bool (clsG n s), .int .i64 (patC n s)]) ∧ Below w.heap.size w w' := by
  unfold decC clsG
  by_cases h : patC n s = 0
  · rw [if_pos h, if_pos h]
    have hf : famC n ≠ 0 := fun hf => by
      unfold patC at h
      rw [if_pos hf] at h
      omega
    obtain ⟨h1, h2, h3⟩ := famC_in hf
    have HR := fun w1 => codecRead_ok n s w1 h
    have HC := fun w1 => lclass_any n.toNat ⟨h1, h2⟩ (fldN n.toNat s) (fldE n.toNat s) (fldF n.toNat s) w1 (fldF_small ⟨h1, h2⟩ s)
    rw [h]
    generalize n.toNat = k at *
    generalize clsN k (fldN k s) (fldE k s) (fldF k s) = c at *
    generalize fldN k s = ng at *
    generalize fldE k s = e at *
    generalize fldF k s = f at *
    rcases eight ⟨h1, h2⟩ with rfl | rfl | rfl | rfl | rfl | rfl | rfl | rfl
    all_goals exact class_W _ _ _ _ _ _ _ _ _ _ ng e f _ s w HR HC
  · rw [if_neg h, if_neg h]
    exact class_err n _ h s w (fun w1 => codecRead_bad n s w1 h)
end Go.Proofs.YtgbccbmflokooaaGreatDoor

/-
  Texts laid together: Co18.
-/
import Derived.Test.YtiiphandhpilgaaDoorEb20
namespace Go.Proofs.YtiiphandhpilgaaDoor
open Go.RowKit
/-- What Decode answers. -/
def DecRes (w : World) (c : Int) (ng : Bool) (m : Nat) (p : Int) (er : Int) (z : Ending) (w' : World) : Prop :=
  ∃ v, z = .returned (.tuple #[.agg #[.int .i64 c, .bool ng, v, .int .i64 p], .int .i64 er]) ∧ Rd w' .u32 v (Dg.dg 4294967296 m) ∧ Below w.heap.size w w'

set_option maxRecDepth 100000 in
set_option maxHeartbeats 3200000 in
theorem decode_W (n : Int) (R sz ex : Nat) (D L G fam : Int) (gr : Bool) (F : Nat) (ng : Bool) (e f : Nat) (c : Int) (gg : Bool) (m : Nat) (p : Int) (s : ByteArray) (w : World)
    (HR : ∀ w1, Calls Tryd.prog 14 #[.int .i64 n, .string s] w1 fun z w' => z = .returned (.tuple #[.agg #[.int .i64 (R : Int), .int .i64 D, .int .i64 L, .int .i64 G, .bool gr, .int .i64 (sz : Int), .int .i64 (ex : Int), .int .i64 fam, .func (.func F) #[] #[]], .agg #[.bool ng, .int .i64 (e : Int), .int .u64 (f : Int)], .int .i64 0]) ∧ Below w1.heap.size w1 w')
    (HV : ∀ w1, Calls Tryd.prog 15 #[.agg #[.int .i64 (R : Int), .int .i64 D, .int .i64 L, .int .i64 G, .bool gr, .int .i64 (sz : Int), .int .i64 (ex : Int), .int .i64 fam, .func (.func F) #[] #[]], .agg #[.bool ng, .int .i64 (e : Int), .int .u64 (f : Int)]] w1 (ValRes w1 c gg m p)) :
    Calls Tryd.prog 6 #[.int .i64 n, .string s] w (DecRes w c gg m p 0) := by
  have hsf : ∀ (a : Addr) (W : World) (g : Fn), (store a (Value.func g #[] #[])).run Tryd.prog W = stored Tryd.prog W a (Value.func g #[] #[]) .plain := fun a W g => run_store _ W a _ _ rfl
  have HR' : Hid (∀ w1, Calls Tryd.prog 14 #[.int .i64 n, .string s] w1 fun z w' => z = .returned (.tuple #[.agg #[.int .i64 (R : Int), .int .i64 D, .int .i64 L, .int .i64 G, .bool gr, .int .i64 (sz : Int), .int .i64 (ex : Int), .int .i64 fam, .func (.func F) #[] #[]], .agg #[.bool ng, .int .i64 (e : Int), .int .u64 (f : Int)], .int .i64 0]) ∧ Below w1.heap.size w1 w') := HR
  have HV' : Hid (∀ w1, Calls Tryd.prog 15 #[.agg #[.int .i64 (R : Int), .int .i64 D, .int .i64 L, .int .i64 G, .bool gr, .int .i64 (sz : Int), .int .i64 (ex : Int), .int .i64 fam, .func (.func F) #[] #[]], .agg #[.bool ng, .int .i64 (e : Int), .int .u64 (f : Int)]] w1 (ValRes w1 c gg m p)) := HV
  have v0 := locE_new w [.int .i64 0, .bool false, .slice none 0 0, .int .i64 0] 25
  have b0 := below_alloc w (.cells #[.int .i64 0, .bool false, .slice none 0 0, .int .i64 0] 25)
  clear HR HV
  go_enter Tryd.func6, Tryd.ntmps6
  go_wp2_with fail
  refine (HR'.out _).mono ?_
  rintro z w1 ⟨rfl, b1⟩
  have bl := below_alloc w1 (.cells #[.int .i64 (R : Int), .int .i64 D, .int .i64 L, .int .i64 G, .bool gr, .int .i64 (sz : Int), .int .i64 (ex : Int), .int .i64 fam, .func (.func F) #[] #[]] 44)
  have bf := below_alloc (w1.alloc (.cells #[.int .i64 (R : Int), .int .i64 D, .int .i64 L, .int .i64 G, .bool gr, .int .i64 (sz : Int), .int .i64 (ex : Int), .int .i64 fam, .func (.func F) #[] #[]] 44)) (.cells #[.bool ng, .int .i64 (e : Int), .int .u64 (f : Int)] 51)
  have v2 := ((v0.later b1).later bl).later bf
  have b2 := below_trans (below_trans (below_trans b0 b1) bl) bf
  go_wp2_with fail
  refine (HV'.out _).mono ?_
  rintro z w3 ⟨v, rfl, r3, b3⟩
  obtain ⟨vo, vc, hv⟩ := r3.shape
  subst hv
  have v3 := v2.later b3
  have b03 := below_trans b2 b3
  have ov := rd_offE r3 (Dg.norm_dg _ _ (by omega)) v3 (fun x hx n hn => by simp at hx; rcases hx with rfl | rfl | rfl | rfl <;> simp)
  have bu := (((but_set w3 w.heap.size 0 (.int .i64 c)).trans (but_set _ w.heap.size 1 (.bool gg))).trans (but_set _ w.heap.size 2 (.slice vo (Dg.dg 4294967296 m).length vc))).trans (but_set _ w.heap.size 3 (.int .i64 p))
  have cR : LocE ((((w3.setCell ⟨w.heap.size, 0, none⟩ (.int .i64 c)).setCell ⟨w.heap.size, 1, none⟩ (.bool gg)).setCell ⟨w.heap.size, 2, none⟩ (.slice vo (Dg.dg 4294967296 m).length vc)).setCell ⟨w.heap.size, 3, none⟩ (.int .i64 p)) w.heap.size 25 [.int .i64 c, .bool gg, .slice vo (Dg.dg 4294967296 m).length vc, .int .i64 p] := ((((v3.set 0 (.int .i64 c)).set 1 (.bool gg)).set 2 (.slice vo (Dg.dg 4294967296 m).length vc)).set 3 (.int .i64 p))
  have bR := bu.below b03 (Nat.le_refl _)
  have rR := bu.rd r3 ov
  have hl := run_loadVar_mid (P := Tryd.prog) _ w.heap.size 0 25 [.int .i64 c, .bool gg, .slice vo (Dg.dg 4294967296 m).length vc, .int .i64 p] _ cR.range Tryd.underlying25 rfl (by kernel_rfl)
  have HH : Hid (_ ∧ _ ∧ _) := ⟨hl, rR, bR⟩
  have x0 := v3.cell 0 rfl; have x1 := v3.cell 1 rfl; have x2 := v3.cell 2 rfl; have x3 := v3.cell 3 rfl; have j0 := v3.free 0; have j1 := v3.free 1; have j2 := v3.free 2; have j3 := v3.free 3
  clear hl bR rR cR bu ov v3 b03 r3 b3 v2 b2 bl bf b1 v0 b0
  go_wp2
  obtain ⟨hl, rR, bR⟩ := HH.out
  exact bodyPost_ret (results_two Tryd.results6 rfl rfl hl) rfl ⟨_, rfl, rR, bR⟩

set_option maxRecDepth 100000 in
set_option maxHeartbeats 3200000 in
theorem decode_err (n : Int) (er : Int) (her : er ≠ 0) (s : ByteArray) (w : World)
    (HR : ∀ w1, Calls Tryd.prog 14 #[.int .i64 n, .string s] w1 fun z w' => z = .returned (.tuple #[.agg #[.int .i64 0, .int .i64 0, .int .i64 0, .int .i64 0, .bool false, .int .i64 0, .int .i64 0, .int .i64 0, .nilFunc], .agg #[.bool false, .int .i64 0, .int .u64 0], .int .i64 er]) ∧ Below w1.heap.size w1 w') :
    Calls Tryd.prog 6 #[.int .i64 n, .string s] w (DecRes w 0 false 0 0 er) := by
  have hsn : ∀ (a : Addr) (W : World), (store a Value.nilFunc).run Tryd.prog W = stored Tryd.prog W a Value.nilFunc .plain := fun a W => run_store _ W a _ _ rfl
  have HR' : Hid (∀ w1, Calls Tryd.prog 14 #[.int .i64 n, .string s] w1 fun z w' => z = .returned (.tuple #[.agg #[.int .i64 0, .int .i64 0, .int .i64 0, .int .i64 0, .bool false, .int .i64 0, .int .i64 0, .int .i64 0, .nilFunc], .agg #[.bool false, .int .i64 0, .int .u64 0], .int .i64 er]) ∧ Below w1.heap.size w1 w') := HR
  have v0 := locE_new w [.int .i64 0, .bool false, .slice none 0 0, .int .i64 0] 25
  have b0 := below_alloc w (.cells #[.int .i64 0, .bool false, .slice none 0 0, .int .i64 0] 25)
  have he : (er == 0) = false := by simpa using her
  clear HR her
  go_enter Tryd.func6, Tryd.ntmps6
  go_wp2_with fail
  refine (HR'.out _).mono ?_
  rintro z w1 ⟨rfl, b1⟩
  have bl := below_alloc w1 (.cells #[.int .i64 0, .int .i64 0, .int .i64 0, .int .i64 0, .bool false, .int .i64 0, .int .i64 0, .int .i64 0, .nilFunc] 44)
  have bf := below_alloc (w1.alloc (.cells #[.int .i64 0, .int .i64 0, .int .i64 0, .int .i64 0, .bool false, .int .i64 0, .int .i64 0, .int .i64 0, .nilFunc] 44)) (.cells #[.bool false, .int .i64 0, .int .u64 0] 51)
  have v2 := ((v0.later b1).later bl).later bf
  have b2 := below_trans (below_trans (below_trans b0 b1) bl) bf
  have bu := (((but_set ((w1.alloc (.cells #[.int .i64 0, .int .i64 0, .int .i64 0, .int .i64 0, .bool false, .int .i64 0, .int .i64 0, .int .i64 0, .nilFunc] 44)).alloc (.cells #[.bool false, .int .i64 0, .int .u64 0] 51)) w.heap.size 0 (.int .i64 0)).trans (but_set _ w.heap.size 1 (.bool false))).trans (but_set _ w.heap.size 2 (.slice none 0 0))).trans (but_set _ w.heap.size 3 (.int .i64 0))
  have cR : LocE ((((((w1.alloc (.cells #[.int .i64 0, .int .i64 0, .int .i64 0, .int .i64 0, .bool false, .int .i64 0, .int .i64 0, .int .i64 0, .nilFunc] 44)).alloc (.cells #[.bool false, .int .i64 0, .int .u64 0] 51)).setCell ⟨w.heap.size, 0, none⟩ (.int .i64 0)).setCell ⟨w.heap.size, 1, none⟩ (.bool false)).setCell ⟨w.heap.size, 2, none⟩ (.slice none 0 0)).setCell ⟨w.heap.size, 3, none⟩ (.int .i64 0)) w.heap.size 25 [.int .i64 0, .bool false, .slice none 0 0, .int .i64 0] := ((((v2.set 0 (.int .i64 0)).set 1 (.bool false)).set 2 (.slice none 0 0)).set 3 (.int .i64 0))
  have bR := bu.below b2 (Nat.le_refl _)
  have hl := run_loadVar_mid (P := Tryd.prog) _ w.heap.size 0 25 [.int .i64 0, .bool false, .slice none 0 0, .int .i64 0] _ cR.range Tryd.underlying25 rfl (by kernel_rfl)
  have HH : Hid (_ ∧ _) := ⟨hl, bR⟩
  have hnA : w1.heap.size ≠ w.heap.size := Nat.ne_of_gt (v0.later b1).lt
  have hnB : w1.heap.size + 1 ≠ w.heap.size := by have := (v0.later b1).lt; omega
  have x0 := v2.cell 0 rfl; have x1 := v2.cell 1 rfl; have x2 := v2.cell 2 rfl; have x3 := v2.cell 3 rfl; have j0 := v2.free 0; have j1 := v2.free 1; have j2 := v2.free 2; have j3 := v2.free 3
  clear hl bR cR bu v2 b2 bl bf b1 v0 b0
  go_wp2
  obtain ⟨hl, bR⟩ := HH.out
  exact bodyPost_ret (results_two Tryd.results6 rfl rfl hl) rfl ⟨_, rfl, rd_nil _ _, bR⟩

/-- What is wrong with a pattern of a format. -/
def patC (n : Int) (s : ByteArray) : Int := if famC n = 0 then 6 else if s.size = szN n.toNat then 0 else 1

theorem famC_in {n : Int} (h : famC n ≠ 0) : 1 ≤ n.toNat ∧ n.toNat ≤ 8 ∧ ((n.toNat : Nat) : Int) = n := by
  unfold famC at h
  by_cases c : n < 1 ∨ 8 < n
  · rw [if_pos c] at h
    exact absurd rfl h
  · omega

theorem codecRead_ok (n : Int) (s : ByteArray) (w : World) (h : patC n s = 0) :
    Calls Tryd.prog 14 #[.int .i64 n, .string s] w fun z w' => z = .returned (.tuple #[.agg (layV n.toNat).toArray, .agg #[.bool (fldN n.toNat s), .int .i64 ((fldE n.toNat s : Nat) : Int), .int .u64 ((fldF n.toNat s : Nat) : Int)], .int .i64 0]) ∧ Below w.heap.size w w' := by
  unfold patC at h
  by_cases hf : famC n = 0
  · rw [if_pos hf] at h
    omega
  · rw [if_neg hf] at h
    obtain ⟨h1, h2, h3⟩ := famC_in hf
    obtain ⟨k, rfl⟩ : ∃ k : Nat, n = (k : Int) := ⟨n.toNat, h3.symm⟩
    rw [Int.toNat_natCast] at h h1 h2 ⊢
    have hs : s.size = szN k := by
      by_cases c : s.size = szN k
      · exact c
      · rw [if_neg c] at h
        omega
    have HL := fun w1 => layoutOf_any k ⟨h1, h2⟩ w1
    have HR := fun w1 => cread_any k ⟨h1, h2⟩ s w1 hs
    generalize fldN k s = ng at *
    generalize fldE k s = e at *
    generalize fldF k s = f at *
    rcases eight ⟨h1, h2⟩ with rfl | rfl | rfl | rfl | rfl | rfl | rfl | rfl
    all_goals exact codecRead_W _ _ _ _ _ _ _ _ _ _ ng e f s w hs HL HR

theorem codecRead_bad (n : Int) (s : ByteArray) (w : World) (h : patC n s ≠ 0) :
    Calls Tryd.prog 14 #[.int .i64 n, .string s] w fun z w' => z = .returned (.tuple #[.agg #[.int .i64 0, .int .i64 0, .int .i64 0, .int .i64 0, .bool false, .int .i64 0, .int .i64 0, .int .i64 0, .nilFunc], .agg #[.bool false, .int .i64 0, .int .u64 0], .int .i64 (patC n s)]) ∧ Below w.heap.size w w' := by
  unfold patC at h ⊢
  by_cases hf : famC n = 0
  · rw [if_pos hf]
    exact codecRead_none n s w (fun w1 => layoutOf_none n w1 hf)
  · rw [if_neg hf] at h ⊢
    obtain ⟨h1, h2, h3⟩ := famC_in hf
    obtain ⟨k, rfl⟩ : ∃ k : Nat, n = (k : Int) := ⟨n.toNat, h3.symm⟩
    rw [Int.toNat_natCast] at h h1 h2 ⊢
    by_cases hs : s.size = szN k
    · rw [if_pos hs] at h
      omega
    · rw [if_neg hs]
      have HL := fun w1 => layoutOf_any k ⟨h1, h2⟩ w1
      rcases eight ⟨h1, h2⟩ with rfl | rfl | rfl | rfl | rfl | rfl | rfl | rfl
      all_goals exact codecRead_len _ _ _ _ _ _ _ _ _ _ s w hs HL

/-- What Decode answers: class, sign, digits, power. -/
def decC (n : Int) (s : ByteArray) : Nat := if patC n s = 0 then clsN n.toNat (fldN n.toNat s) (fldE n.toNat s) (fldF n.toNat s) else 0
def decG (n : Int) (s : ByteArray) : Bool := if patC n s = 0 then valG n.toNat (fldN n.toNat s) (fldE n.toNat s) (fldF n.toNat s) else false
def decM (n : Int) (s : ByteArray) : Nat := if patC n s = 0 then valM n.toNat (fldN n.toNat s) (fldE n.toNat s) (fldF n.toNat s) else 0
def decP (n : Int) (s : ByteArray) : Int := if patC n s = 0 then valP n.toNat (fldN n.toNat s) (fldE n.toNat s) (fldF n.toNat s) else 0

theorem decode_any (n : Int) (s : ByteArray) (w : World) : Calls Tryd.prog 6 #[.int .i64 n, .string s] w (DecRes w ((decC n s : Nat) : Int) (decG n s) (decM n s) (decP n s) (patC n s)) := by
  unfold decC decG decM decP
  by_cases h : patC n s = 0
  · rw [if_pos h, if_pos h, if_pos h, if_pos h]
    have hf : famC n ≠ 0 := fun hf => by
      unfold patC at h
      rw [if_pos hf] at h
      omega
    obtain ⟨h1, h2, h3⟩ := famC_in hf
    have HR := fun w1 => codecRead_ok n s w1 h
    have HV := fun w1 => lvalue_any n.toNat ⟨h1, h2⟩ (fldN n.toNat s) (fldE n.toNat s) (fldF n.toNat s) w1 (fldF_small ⟨h1, h2⟩ s) (fldE_small ⟨h1, h2⟩ s)
    rw [h]
    generalize n.toNat = k at *
    generalize clsN k (fldN k s) (fldE k s) (fldF k s) = c at *
    generalize valG k (fldN k s) (fldE k s) (fldF k s) = g at *
    generalize valM k (fldN k s) (fldE k s) (fldF k s) = m at *
    generalize valP k (fldN k s) (fldE k s) (fldF k s) = p at *
    generalize fldN k s = ng at *
    generalize fldE k s = e at *
    generalize fldF k s = f at *
    rcases eight ⟨h1, h2⟩ with rfl | rfl | rfl | rfl | rfl | rfl | rfl | rfl
    all_goals exact decode_W _ _ _ _ _ _ _ _ _ _ ng e f _ _ _ _ s w HR HV
  · rw [if_neg h, if_neg h, if_neg h, if_neg h]
    exact decode_err n _ h s w (fun w1 => codecRead_bad n s w1 h)
end Go.Proofs.YtiiphandhpilgaaDoor

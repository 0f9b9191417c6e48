/-
  Texts laid together: Co18, Co22, Ce1.
-/
import Derived.Test.YtiiphandhpilgaaGreatDoorNd17
import Derived.Test.YtiiphandhpilgaaGreatDoorNd13
set_option maxRecDepth 100000
namespace Go.Proofs.YtiiphandhpilgaaGreatDoor
open Go.RowKit
def DecRes (w : World) (c : Int) (ng : Bool) (m : Nat) (p : Int) (er : Int) (z : Ending) (w' : World) : Prop :=
 ∃ v, z = .returned (.tuple #[.agg #[.int .i64 c, .bool ng, v, .int .i64 p], .int .i64 er]) ∧ Rd w' .u32 v (Dg.dg 4294967296 m) ∧ Below w.heap.size w w'
set_option maxHeartbeats 3200000 in
theorem decode_W (n : Int) (R sz ex : Nat) (D L G fam : Int) (gr : Bool) (F : Nat) (ng : Bool) (e f : Nat) (c : Int) (gg : Bool) (m : Nat) (p : Int) (s : ByteArray) (w : World)
  (HR : ∀ w1, Calls Tryz.prog 37 #[.int .i64 n, .string s] w1 fun z w' => z = .returned (.tuple #[.agg #[.int .i64 (R : Int), .int .i64 D, .int .i64 L, .int .i64 G, .bool gr, .int .i64 (sz : Int), .int .i64 (ex : Int), .int .i64 fam, .func (.func F) #[] #[]], .agg #[.bool ng, .int .i64 (e : Int), .int .u64 (f : Int)], .int .i64 0]) ∧ Below w1.heap.size w1 w')
  (HV : ∀ w1, Calls Tryz.prog 38 #[.agg #[.int .i64 (R : Int), .int .i64 D, .int .i64 L, .int .i64 G, .bool gr, .int .i64 (sz : Int), .int .i64 (ex : Int), .int .i64 fam, .func (.func F) #[] #[]], .agg #[.bool ng, .int .i64 (e : Int), .int .u64 (f : Int)]] w1 (ValRes w1 c gg m p)) :
  Calls Tryz.prog 17 #[.int .i64 n, .string s] w (DecRes w c gg m p 0) := by
 have hsf := hsf_z
 have HR' : Hid _ := HR
 have HV' : Hid _ := HV
 have v0 := locE_new w [.int .i64 0, .bool false, .slice none 0 0, .int .i64 0] 25
 have b0 := below_alloc w (.cells #[.int .i64 0, .bool false, .slice none 0 0, .int .i64 0] 25)
 clear HR HV
 go_enter Tryz.func17, Tryz.ntmps17
 go_wp2_with fail
 refine (HR'.out _).mono ?_
 rintro z w1 ⟨rfl, b1⟩
 have bl := below_alloc w1 (.cells #[.int .i64 (R : Int), .int .i64 D, .int .i64 L, .int .i64 G, .bool gr, .int .i64 (sz : Int), .int .i64 (ex : Int), .int .i64 fam, .func (.func F) #[] #[]] 63)
 have bf := below_alloc (w1.alloc (.cells #[.int .i64 (R : Int), .int .i64 D, .int .i64 L, .int .i64 G, .bool gr, .int .i64 (sz : Int), .int .i64 (ex : Int), .int .i64 fam, .func (.func F) #[] #[]] 63)) (.cells #[.bool ng, .int .i64 (e : Int), .int .u64 (f : Int)] 82)
 have v2 := ((v0.later b1).later bl).later bf
 have b2 := below_trans (below_trans (below_trans b0 b1) bl) bf
 go_wp2_with fail
 refine (HV'.out _).mono ?_
 rintro z w3 ⟨v, rfl, r3, b3⟩
 obtain ⟨vo, vc, hv⟩ := r3.shape
 subst hv
 have v3 := v2.later b3
 have b03 := below_trans b2 b3
 have ov := rd_offE r3 (Dg.norm_dg _ _ (by omega)) v3 (fun x hx n hn => by simp at hx; rcases hx with rfl | rfl | rfl | rfl <;> simp)
 have bu := (((but_set w3 w.heap.size 0 (.int .i64 c)).trans (but_set _ w.heap.size 1 (.bool gg))).trans (but_set _ w.heap.size 2 (.slice vo (Dg.dg 4294967296 m).length vc))).trans (but_set _ w.heap.size 3 (.int .i64 p))
 have cR : LocE ((((w3.setCell ⟨w.heap.size, 0, none⟩ (.int .i64 c)).setCell ⟨w.heap.size, 1, none⟩ (.bool gg)).setCell ⟨w.heap.size, 2, none⟩ (.slice vo (Dg.dg 4294967296 m).length vc)).setCell ⟨w.heap.size, 3, none⟩ (.int .i64 p)) w.heap.size 25 [.int .i64 c, .bool gg, .slice vo (Dg.dg 4294967296 m).length vc, .int .i64 p] := ((((v3.set 0 (.int .i64 c)).set 1 (.bool gg)).set 2 (.slice vo (Dg.dg 4294967296 m).length vc)).set 3 (.int .i64 p))
 have bR := bu.below b03 (Nat.le_refl _)
 have rR := bu.rd r3 ov
 have hl := run_loadVar_mid (P := Tryz.prog) _ w.heap.size 0 25 [.int .i64 c, .bool gg, .slice vo (Dg.dg 4294967296 m).length vc, .int .i64 p] _ cR.range Tryz.underlying25 rfl (by kernel_rfl)
 have HH : Hid (_ ∧ _ ∧ _) := ⟨hl, rR, bR⟩
 obtain ⟨x0, x1, x2, x3⟩ := v3.cs4; have j0 := v3.free 0; have j1 := v3.free 1; have j2 := v3.free 2; have j3 := v3.free 3
 clear hl bR rR cR bu ov v3 b03 r3 b3 v2 b2 bl bf b1 v0 b0
 go_wp2
 obtain ⟨hl, rR, bR⟩ := HH.out
 exact bodyPost_ret (results_two Tryz.results17 rfl rfl hl) rfl ⟨_, rfl, rR, bR⟩
set_option maxHeartbeats 3200000 in
theorem decode_err (n : Int) (er : Int) (her : er ≠ 0) (s : ByteArray) (w : World)
  (HR : ∀ w1, Calls Tryz.prog 37 #[.int .i64 n, .string s] w1 fun z w' => z = .returned (.tuple #[.agg #[.int .i64 0, .int .i64 0, .int .i64 0, .int .i64 0, .bool false, .int .i64 0, .int .i64 0, .int .i64 0, .nilFunc], .agg #[.bool false, .int .i64 0, .int .u64 0], .int .i64 er]) ∧ Below w1.heap.size w1 w') :
  Calls Tryz.prog 17 #[.int .i64 n, .string s] w (DecRes w 0 false 0 0 er) := by
 have hsn := hsn_z
 have HR' : Hid _ := HR
 have v0 := locE_new w [.int .i64 0, .bool false, .slice none 0 0, .int .i64 0] 25
 have b0 := below_alloc w (.cells #[.int .i64 0, .bool false, .slice none 0 0, .int .i64 0] 25)
 have he : (er == 0) = false := by simpa using her
 clear HR her
 go_enter Tryz.func17, Tryz.ntmps17
 go_wp2_with fail
 refine (HR'.out _).mono ?_
 rintro z w1 ⟨rfl, b1⟩
 have bl := below_alloc w1 (.cells #[.int .i64 0, .int .i64 0, .int .i64 0, .int .i64 0, .bool false, .int .i64 0, .int .i64 0, .int .i64 0, .nilFunc] 63)
 have bf := below_alloc (w1.alloc (.cells #[.int .i64 0, .int .i64 0, .int .i64 0, .int .i64 0, .bool false, .int .i64 0, .int .i64 0, .int .i64 0, .nilFunc] 63)) (.cells #[.bool false, .int .i64 0, .int .u64 0] 82)
 have v2 := ((v0.later b1).later bl).later bf
 have b2 := below_trans (below_trans (below_trans b0 b1) bl) bf
 have bu := (((but_set ((w1.alloc (.cells #[.int .i64 0, .int .i64 0, .int .i64 0, .int .i64 0, .bool false, .int .i64 0, .int .i64 0, .int .i64 0, .nilFunc] 63)).alloc (.cells #[.bool false, .int .i64 0, .int .u64 0] 82)) w.heap.size 0 (.int .i64 0)).trans (but_set _ w.heap.size 1 (.bool false))).trans (but_set _ w.heap.size 2 (.slice none 0 0))).trans (but_set _ w.heap.size 3 (.int .i64 0))
 have cR : LocE ((((((w1.alloc (.cells #[.int .i64 0, .int .i64 0, .int .i64 0, .int .i64 0, .bool false, .int .i64 0, .int .i64 0, .int .i64 0, .nilFunc] 63)).alloc (.cells #[.bool false, .int .i64 0, .int .u64 0] 82)).setCell ⟨w.heap.size, 0, none⟩ (.int .i64 0)).setCell ⟨w.heap.size, 1, none⟩ (.bool false)).setCell ⟨w.heap.size, 2, none⟩ (.slice none 0 0)).setCell ⟨w.heap.size, 3, none⟩ (.int .i64 0)) w.heap.size 25 [.int .i64 0, .bool false, .slice none 0 0, .int .i64 0] := ((((v2.set 0 (.int .i64 0)).set 1 (.bool false)).set 2 (.slice none 0 0)).set 3 (.int .i64 0))
 have bR := bu.below b2 (Nat.le_refl _)
 have hl := run_loadVar_mid (P := Tryz.prog) _ w.heap.size 0 25 [.int .i64 0, .bool false, .slice none 0 0, .int .i64 0] _ cR.range Tryz.underlying25 rfl (by kernel_rfl)
 have HH : Hid (_ ∧ _) := ⟨hl, bR⟩
 have hnA : w1.heap.size ≠ w.heap.size := Nat.ne_of_gt (v0.later b1).lt
 have hnB : w1.heap.size + 1 ≠ w.heap.size := by have := (v0.later b1).lt; omega
 obtain ⟨x0, x1, x2, x3⟩ := v2.cs4; have j0 := v2.free 0; have j1 := v2.free 1; have j2 := v2.free 2; have j3 := v2.free 3
 clear hl bR cR bu v2 b2 bl bf b1 v0 b0
 go_wp2
 obtain ⟨hl, bR⟩ := HH.out
 exact bodyPost_ret (results_two Tryz.results17 rfl rfl hl) rfl ⟨_, rfl, rd_nil _ _, bR⟩
def patC (n : Int) (s : ByteArray) : Int := if famC n = 0 then 6 else if s.size = szN n.toNat then 0 else 1
theorem famC_in {n : Int} (h : famC n ≠ 0) : 1 ≤ n.toNat ∧ n.toNat ≤ 8 ∧ ((n.toNat : Nat) : Int) = n := by
 unfold famC at h
 by_cases c : n < 1 ∨ 8 < n
 ·rw [if_pos c] at h
  exact absurd rfl h
 ·omega
theorem codecRead_ok (n : Int) (s : ByteArray) (w : World) (h : patC n s = 0) :
  Calls Tryz.prog 37 #[.int .i64 n, .string s] w fun z w' => z = .returned (.tuple #[.agg (layV n.toNat).toArray, .agg #[.bool (fldN n.toNat s), .int .i64 ((fldE n.toNat s : Nat) : Int), .int .u64 ((fldF n.toNat s : Nat) : Int)], .int .i64 0]) ∧ Below w.heap.size w w' := by
 unfold patC at h
 by_cases hf : famC n = 0
 ·rw [if_pos hf] at h
  omega
 ·rw [if_neg hf] at h
  obtain ⟨h1, h2, h3⟩ := famC_in hf
  obtain ⟨k, rfl⟩ : ∃ k : Nat, n = (k : Int) := ⟨n.toNat, h3.symm⟩
  rw [Int.toNat_natCast] at h h1 h2 ⊢
  have hs : s.size = szN k := by
   by_cases c : s.size = szN k
   ·exact c
   ·rw [if_neg c] at h
    omega
  have HL := fun w1 => layoutOf_any k ⟨h1, h2⟩ w1
  have HR := fun w1 => cread_any k ⟨h1, h2⟩ s w1 hs
  generalize fldN k s = ng at *
  generalize fldE k s = e at *
  generalize fldF k s = f at *
  rcases eight ⟨h1, h2⟩ with rfl | rfl | rfl | rfl | rfl | rfl | rfl | rfl
  all_goals exact codecRead_W _ _ _ _ _ _ _ _ _ _ ng e f s w hs HL HR
theorem codecRead_bad (n : Int) (s : ByteArray) (w : World) (h : patC n s ≠ 0) :
  Calls Tryz.prog 37 #[.int .i64 n, .string s] w fun z w' => z = .returned (.tuple #[.agg #[.int .i64 0, .int .i64 0, .int .i64 0, .int .i64 0, .bool false, .int .i64 0, .int .i64 0, .int .i64 0, .nilFunc], .agg #[.bool false, .int .i64 0, .int .u64 0], .int .i64 (patC n s)]) ∧ Below w.heap.size w w' := by
 unfold patC at h ⊢
 by_cases hf : famC n = 0
 ·rw [if_pos hf]
  exact codecRead_none n s w (fun w1 => layoutOf_none n w1 hf)
 ·rw [if_neg hf] at h ⊢
  obtain ⟨h1, h2, h3⟩ := famC_in hf
  obtain ⟨k, rfl⟩ : ∃ k : Nat, n = (k : Int) := ⟨n.toNat, h3.symm⟩
  rw [Int.toNat_natCast] at h h1 h2 ⊢
  by_cases hs : s.size = szN k
  ·rw [if_pos hs] at h
   omega
  ·rw [if_neg hs]
   have HL := fun w1 => layoutOf_any k ⟨h1, h2⟩ w1
   rcases eight ⟨h1, h2⟩ with rfl | rfl | rfl | rfl | rfl | rfl | rfl | rfl
   all_goals exact codecRead_len _ _ _ _ _ _ _ _ _ _ s w hs HL
def decC (n : Int) (s : ByteArray) : Nat := if patC n s = 0 then clsN n.toNat (fldN n.toNat s) (fldE n.toNat s) (fldF n.toNat s) else 0
def decG (n : Int) (s : ByteArray) : Bool := if patC n s = 0 then valG n.toNat (fldN n.toNat s) (fldE n.toNat s) (fldF n.toNat s) else false
def decM (n : Int) (s : ByteArray) : Nat := if patC n s = 0 then valM n.toNat (fldN n.toNat s) (fldE n.toNat s) (fldF n.toNat s) else 0
def decP (n : Int) (s : ByteArray) : Int := if patC n s = 0 then valP n.toNat (fldN n.toNat s) (fldE n.toNat s) (fldF n.toNat s) else 0
theorem decode_any (n : Int) (s : ByteArray) (w : World) : Calls Tryz.prog 17 #[.int .i64 n, .string s] w (DecRes w ((decC n s : Nat) : Int) (decG n s) (decM n s) (decP n s) (patC n s)) := by
 unfold decC decG decM decP
 by_cases h : patC n s = 0
 ·rw [if_pos h, if_pos h, if_pos h, if_pos h]
  have hf : famC n ≠ 0 := fun hf => by
   unfold patC at h
   rw [if_pos hf] at h
   omega
  obtain ⟨h1, h2, h3⟩ := famC_in hf
  have HR := fun w1 => codecRead_ok n s w1 h
  have HV := fun w1 => lvalue_any n.toNat ⟨h1, h2⟩ (fldN n.toNat s) (fldE n.toNat s) (fldF n.toNat s) w1 (fldF_small ⟨h1, h2⟩ s) (fldE_small ⟨h1, h2⟩ s)
  rw [h]
  generalize n.toNat = k at *
  generalize clsN k (fldN k s) (fldE k s) (fldF k s) = c at *
  generalize valG k (fldN k s) (fldE k s) (fldF k s) = g at *
  generalize valM k (fldN k s) (fldE k s) (fldF k s) = m at *
  generalize valP k (fldN k s) (fldE k s) (fldF k s) = p at *
  generalize fldN k s = ng at *
  generalize fldE k s = e at *
  generalize fldF k s = f at *
  rcases eight ⟨h1, h2⟩ with rfl | rfl | rfl | rfl | rfl | rfl | rfl | rfl
  all_goals exact decode_W _ _ _ _ _ _ _ _ _ _ ng e f _ _ _ _ s w HR HV
 ·rw [if_neg h, if_neg h, if_neg h, if_neg h]
  exact decode_err n _ h s w (fun w1 => codecRead_bad n s w1 h)
end Go.Proofs.YtiiphandhpilgaaGreatDoor
namespace Go.Proofs.YtiiphandhpilgaaGreatDoor
open Go.RowKit
set_option maxHeartbeats 3200000 in
theorem enc_none (n : Int)  (c p : Int) (ng : Bool) (ao : Option Addr) (dn dc : Nat) (w : World)
  (HL : ∀ w1, Calls Tryz.prog 20 #[.int .i64 n] w1 fun z w' => z = .returned (.tuple #[.agg #[.int .i64 0, .int .i64 0, .int .i64 0, .int .i64 0, .bool false, .int .i64 0, .int .i64 0, .int .i64 0, .nilFunc], .int .i64 6]) ∧ Below w1.heap.size w1 w')  :
  Calls Tryz.prog 6 #[.int .i64 n, .agg #[.int .i64 c, .bool ng, .slice ao dn dc, .int .i64 p]] w fun z w' => z = .returned (.tuple #[.string ⟨#[]⟩, .int .i64 6]) ∧ Below w.heap.size w w' := by
 have hsf := hsf_z
 have hsn := hsn_z
 have m0 := locE_new w [.int .i64 c, .bool ng, .slice ao dn dc, .int .i64 p] 25
 have b0 := below_alloc w (.cells #[.int .i64 c, .bool ng, .slice ao dn dc, .int .i64 p] 25)
 have HL' : Hid _ := HL
 clear HL
 go_enter Tryz.func6, Tryz.ntmps6
 go_wp2_with fail
 refine (HL'.out _).mono ?_
 rintro z w1 ⟨rfl, b1⟩
 have bq := below_alloc w1 (.cells #[.int .i64 0, .int .i64 0, .int .i64 0, .int .i64 0, .bool false, .int .i64 0, .int .i64 0, .int .i64 0, .nilFunc] 63)
 have m1 := (m0.later b1).later bq
 have q1 := locE_new w1 [.int .i64 0, .int .i64 0, .int .i64 0, .int .i64 0, .bool false, .int .i64 0, .int .i64 0, .int .i64 0, .nilFunc] 63
 have b01 := below_trans (below_trans b0 b1) bq
 obtain ⟨u0, u1, u2, u3⟩ := m1.cs4
 obtain ⟨s0, s1, s2, s3, s4, s5, s6, s7, s8⟩ := q1.cs9
 clear m0 b0 b1 bq HL'
 go_wp2
 go_ret2
 exact ⟨rfl, b01⟩
set_option maxHeartbeats 3200000 in
theorem enc_digits (n : Int) (R D L G fam : Int) (gr : Bool) (sz ex : Nat) (F : Nat) (c p : Int) (ng : Bool) (ao : Option Addr) (dn dc : Nat) (w : World)
  (HL : ∀ w1, Calls Tryz.prog 20 #[.int .i64 n] w1 fun z w' => z = .returned (.tuple #[.agg #[.int .i64 R, .int .i64 D, .int .i64 L, .int .i64 G, .bool gr, .int .i64 (sz : Int), .int .i64 (ex : Int), .int .i64 fam, .func (.func F) #[] #[]], .int .i64 0]) ∧ Below w1.heap.size w1 w')
  (nc : Int) (HN : ∀ w1, Below w.heap.size w w1 → Calls Tryz.prog 21 #[.slice ao dn dc] w1 fun z w' => z = .returned (.int .i64 nc) ∧ Below w1.heap.size w1 w') (h1 : 1 ≤ c) (h5 : c ≤ 5) (hn : nc ≠ 0) :
  Calls Tryz.prog 6 #[.int .i64 n, .agg #[.int .i64 c, .bool ng, .slice ao dn dc, .int .i64 p]] w fun z w' => z = .returned (.tuple #[.string ⟨#[]⟩, .int .i64 nc]) ∧ Below w.heap.size w w' := by
 have HN' : Hid _ := HN
 clear HN
 have hc1 : ¬ c < 1 := by omega
 have hc5 : ¬ 5 < c := by omega
 have hnb : (nc == 0) = false := by simpa using hn
 clear hn
 have hsf := hsf_z
 have hsn := hsn_z
 have m0 := locE_new w [.int .i64 c, .bool ng, .slice ao dn dc, .int .i64 p] 25
 have b0 := below_alloc w (.cells #[.int .i64 c, .bool ng, .slice ao dn dc, .int .i64 p] 25)
 have HL' : Hid _ := HL
 clear HL
 go_enter Tryz.func6, Tryz.ntmps6
 go_wp2_with fail
 refine (HL'.out _).mono ?_
 rintro z w1 ⟨rfl, b1⟩
 have bq := below_alloc w1 (.cells #[.int .i64 R, .int .i64 D, .int .i64 L, .int .i64 G, .bool gr, .int .i64 (sz : Int), .int .i64 (ex : Int), .int .i64 fam, .func (.func F) #[] #[]] 63)
 have m1 := (m0.later b1).later bq
 have q1 := locE_new w1 [.int .i64 R, .int .i64 D, .int .i64 L, .int .i64 G, .bool gr, .int .i64 (sz : Int), .int .i64 (ex : Int), .int .i64 fam, .func (.func F) #[] #[]] 63
 have b01 := below_trans (below_trans b0 b1) bq
 obtain ⟨u0, u1, u2, u3⟩ := m1.cs4
 obtain ⟨s0, s1, s2, s3, s4, s5, s6, s7, s8⟩ := q1.cs9
 clear m0 b0 b1 bq HL'
 go_wp2_with fail
 refine (HN'.out _ b01).mono ?_
 rintro z w2 ⟨rfl, b2⟩
 have m2 := m1.later b2
 have q2 := q1.later b2
 have b02 := below_trans b01 b2
 obtain ⟨v0, v1, v2, v3⟩ := m2.cs4
 obtain ⟨t0, t1, t2, t3, t4, t5, t6, t7, t8⟩ := q2.cs9
 go_wp2
 go_ret2
 exact ⟨rfl, b02⟩
set_option maxHeartbeats 3200000 in
theorem enc_other (n : Int) (R D L G fam : Int) (gr : Bool) (sz ex : Nat) (F : Nat) (c p : Int) (ng : Bool) (ao : Option Addr) (dn dc : Nat) (w : World)
  (HL : ∀ w1, Calls Tryz.prog 20 #[.int .i64 n] w1 fun z w' => z = .returned (.tuple #[.agg #[.int .i64 R, .int .i64 D, .int .i64 L, .int .i64 G, .bool gr, .int .i64 (sz : Int), .int .i64 (ex : Int), .int .i64 fam, .func (.func F) #[] #[]], .int .i64 0]) ∧ Below w1.heap.size w1 w')
  (nc : Int) (HN : ∀ w1, Below w.heap.size w w1 → Calls Tryz.prog 21 #[.slice ao dn dc] w1 fun z w' => z = .returned (.int .i64 nc) ∧ Below w1.heap.size w1 w')
  (st : ByteArray) (er : Int) (HO : ∀ w1, Calls Tryz.prog 23 #[.agg #[.int .i64 R, .int .i64 D, .int .i64 L, .int .i64 G, .bool gr, .int .i64 (sz : Int), .int .i64 (ex : Int), .int .i64 fam, .func (.func F) #[] #[]], .agg #[.int .i64 c, .bool ng, .slice ao dn dc, .int .i64 p]] w1 fun z w' => z = .returned (.tuple #[.string st, .int .i64 er]) ∧ Below w1.heap.size w1 w') (h1 : 1 ≤ c) (h5 : c ≤ 5) (h2 : c ≠ 2) (hn : nc = 0) :
  Calls Tryz.prog 6 #[.int .i64 n, .agg #[.int .i64 c, .bool ng, .slice ao dn dc, .int .i64 p]] w fun z w' => z = .returned (.tuple #[.string st, .int .i64 er]) ∧ Below w.heap.size w w' := by
 subst hn
 have HN' : Hid _ := HN
 clear HN
 have hc1 : ¬ c < 1 := by omega
 have hc5 : ¬ 5 < c := by omega
 have HO' : Hid _ := HO
 clear HO
 have hcb : (c == 2) = false := by simpa using h2
 clear h2
 have hsf := hsf_z
 have hsn := hsn_z
 have m0 := locE_new w [.int .i64 c, .bool ng, .slice ao dn dc, .int .i64 p] 25
 have b0 := below_alloc w (.cells #[.int .i64 c, .bool ng, .slice ao dn dc, .int .i64 p] 25)
 have HL' : Hid _ := HL
 clear HL
 go_enter Tryz.func6, Tryz.ntmps6
 go_wp2_with fail
 refine (HL'.out _).mono ?_
 rintro z w1 ⟨rfl, b1⟩
 have bq := below_alloc w1 (.cells #[.int .i64 R, .int .i64 D, .int .i64 L, .int .i64 G, .bool gr, .int .i64 (sz : Int), .int .i64 (ex : Int), .int .i64 fam, .func (.func F) #[] #[]] 63)
 have m1 := (m0.later b1).later bq
 have q1 := locE_new w1 [.int .i64 R, .int .i64 D, .int .i64 L, .int .i64 G, .bool gr, .int .i64 (sz : Int), .int .i64 (ex : Int), .int .i64 fam, .func (.func F) #[] #[]] 63
 have b01 := below_trans (below_trans b0 b1) bq
 obtain ⟨u0, u1, u2, u3⟩ := m1.cs4
 obtain ⟨s0, s1, s2, s3, s4, s5, s6, s7, s8⟩ := q1.cs9
 clear m0 b0 b1 bq HL'
 go_wp2_with fail
 refine (HN'.out _ b01).mono ?_
 rintro z w2 ⟨rfl, b2⟩
 have m2 := m1.later b2
 have q2 := q1.later b2
 have b02 := below_trans b01 b2
 obtain ⟨v0, v1, v2, v3⟩ := m2.cs4
 obtain ⟨t0, t1, t2, t3, t4, t5, t6, t7, t8⟩ := q2.cs9
 go_wp2_with fail
 refine (HO'.out _).mono ?_
 rintro z w3 ⟨rfl, b3⟩
 go_wp2
 go_ret2
 exact ⟨rfl, below_trans b02 b3⟩
def encOE (n : Int) (c dn : Nat) (nc : Int) (ng : Bool) (p : Int) : Int := if famC n = 0 then 6 else if nc ≠ 0 then nc else othE n.toNat c dn ng p
def encOS (n : Int) (c dn : Nat) (nc : Int) (ng : Bool) (p : Int) : ByteArray := if famC n = 0 then ⟨#[]⟩ else if nc ≠ 0 then ⟨#[]⟩ else othS n.toNat c dn ng p
theorem encode_other (n : Int) (c : Nat) (hc : c = 1 ∨ c = 3 ∨ c = 4 ∨ c = 5) (ng : Bool) (ao : Option Addr) (dn dc : Nat) (p nc : Int) (w : World) (HN : ∀ w1, Below w.heap.size w w1 → Calls Tryz.prog 21 #[.slice ao dn dc] w1 fun z w' => z = .returned (.int .i64 nc) ∧ Below w1.heap.size w1 w') :
  Calls Tryz.prog 6 #[.int .i64 n, .agg #[.int .i64 (c : Int), .bool ng, .slice ao dn dc, .int .i64 p]] w fun z w' => z = .returned (.tuple #[.string (encOS n c dn nc ng p), .int .i64 (encOE n c dn nc ng p)]) ∧ Below w.heap.size w w' := by
 unfold encOS encOE
 by_cases hf : famC n = 0
 ·rw [if_pos hf, if_pos hf]
  exact enc_none n _ p ng ao dn dc w (fun w1 => layoutOf_none n w1 hf)
 ·rw [if_neg hf, if_neg hf]
  obtain ⟨h1, h2, h3⟩ := famC_in hf
  obtain ⟨k, rfl⟩ : ∃ k : Nat, n = (k : Int) := ⟨n.toNat, h3.symm⟩
  rw [Int.toNat_natCast] at h1 h2 ⊢
  have HL := fun w1 => layoutOf_any k ⟨h1, h2⟩ w1
  by_cases hn : nc = 0
  ·rw [if_neg (by omega), if_neg (by omega)]
   have HO := fun w1 => encodeOther_any k c ⟨h1, h2⟩ hc ng ao dn dc p w1
   generalize othS k c dn ng p = st at *
   generalize othE k c dn ng p = er at *
   rcases eight ⟨h1, h2⟩ with rfl | rfl | rfl | rfl | rfl | rfl | rfl | rfl
   all_goals exact enc_other _ _ _ _ _ _ _ _ _ _ _ p ng ao dn dc w HL nc HN st er HO (by omega) (by omega) (by omega) hn
  ·rw [if_pos hn, if_pos hn]
   rcases eight ⟨h1, h2⟩ with rfl | rfl | rfl | rfl | rfl | rfl | rfl | rfl
   all_goals exact enc_digits _ _ _ _ _ _ _ _ _ _ _ p ng ao dn dc w HL nc HN (by omega) (by omega) hn
end Go.Proofs.YtiiphandhpilgaaGreatDoor
namespace Go.Proofs.YtiiphandhpilgaaGreatDoor
open Go.RowKit
theorem word_join (x a : Nat) (hx : x < 4294967296) (ha : a < 4294967296) : bits .or .u64 ((x : Int) * 4294967296) (a : Int) = ((a + 4294967296 * x : Nat) : Int) := by
 rw [show (x : Int) * 4294967296 = ((4294967296 * x : Nat) : Int) from by omega]
 rw [u64_or_nat _ _ (by omega) (by omega), nat_join 32 _ _ (by omega) (by omega)]
 congr 1
 omega
set_option maxHeartbeats 1600000 in
theorem word_any (va : Value) (xs : List Nat) (w : World) (ha : Rd w .u32 va xs) (sa : Dg.Small 4294967296 xs) (hl : xs.length ≤ 2) :
  Calls Tryz.prog 113 #[va] w fun z w' => z = .returned (.int .u64 ((Dg.vl 4294967296 xs : Nat) : Int)) ∧ w' = w := by
 obtain ⟨ao, ca, rfl, -, -, hca⟩ := ha
 go_enter Tryz.func113, Tryz.ntmps113
 go_wp2
 go_loop [3, 4] (fun xv iv => ∃ j x : Nat, j ≤ xs.length ∧ iv = .int .i64 ((j : Int) - 1) ∧ xv = .int .u64 (x : Int) ∧ Hid (x = Dg.vl 4294967296 (xs.drop j))) (fun _ iv => (intOf iv + 1).toNat)
 case atStart => exact ⟨xs.length, 0, Nat.le_refl _, by go_num, rfl, by rw [List.drop_of_length_le (Nat.le_refl _)]; rfl⟩
 case round =>
  obtain ⟨j, x, hj, rfl, rfl, HX⟩ := hrel
  by_cases h0 : 0 < j
  ·obtain ⟨i, rfl⟩ : ∃ i, j = i + 1 := ⟨j - 1, by omega⟩
   rw [show ((i + 1 : Nat) : Int) - 1 = (i : Int) from by omega]
   obtain ⟨b, off, rfl, hcell⟩ := hca (by omega)
   have hc := hcell i (by omega)
   have hs := sa i
   have hx := HX.out
   have hxl : x < 4294967296 := by
    have h1 := Dg.vl_lt 4294967296 (xs.drop (i + 1)) (fun k => by
     rw [List.getD_eq_getElem?_getD, List.getElem?_drop, ← List.getD_eq_getElem?_getD]
     exact sa _)
    rw [← hx, List.length_drop] at h1
    have h2 : (4294967296 : Nat) ^ (xs.length - (i + 1)) ≤ 4294967296 ^ 1 := Nat.pow_le_pow_right (by omega) (by omega)
    omega
   have hst : Dg.vl 4294967296 (xs.drop i) = xs.getD i 0 + 4294967296 * x := by
    rw [hx, List.drop_eq_getElem_cons (show i < xs.length by omega), Dg.vl]
    simp [List.getD_eq_getElem?_getD, show i < xs.length by omega]
   obtain ⟨a, ea⟩ : ∃ a, xs.getD i 0 = a := ⟨_, rfl⟩
   rw [ea] at hc hs hst
   have hil : i < xs.length := by omega
   have HST : Hid _ := hst
   clear ea hst hx hcell hca HX
   go_wp2
   have hst := HST.out
   refine ⟨⟨i, a + 4294967296 * x, by omega, rfl, ?_, hst.symm⟩, ?_⟩
   ·rw [word_join x a hxl hs]
   ·simp only [intOf]
    omega
  ·have hd : ¬ ((0 : Int) ≤ (j : Int) - 1) := by omega
   have HJ : Hid (j = 0) := (by omega : j = 0)
   go_wp2
   go_ret
   have h1 := HJ.out
   subst h1
   have := HX.out
   rw [List.drop_zero] at this
   rw [← this]
   exact ⟨rfl, rfl⟩
end Go.Proofs.YtiiphandhpilgaaGreatDoor

/-
  Texts laid together: Co22, Ce1, Ce6.
-/
import Derived.Test.YtiiphandhpilgaaGreatDoorNb15
set_option maxRecDepth 100000
namespace Go.Proofs.YtiiphandhpilgaaGreatDoor
open Go.RowKit
set_option maxHeartbeats 3200000 in
theorem enc_none (n : Int)  (c p : Int) (ng : Bool) (ao : Option Addr) (dn dc : Nat) (w : World)
  (HL : ∀ w1, Calls Tryz.prog 20 #[.int .i64 n] w1 fun z w' => z = .returned (.tuple #[.agg #[.int .i64 0, .int .i64 0, .int .i64 0, .int .i64 0, .bool false, .int .i64 0, .int .i64 0, .int .i64 0, .nilFunc], .int .i64 6]) ∧ Below w1.heap.size w1 w')  :
  Calls Tryz.prog 6 #[.int .i64 n, .agg #[.int .i64 c, .bool ng, .slice ao dn dc, .int .i64 p]] w fun z w' => z = .returned (.tuple #[.string ⟨#[]⟩, .int .i64 6]) ∧ Below w.heap.size w w' := by
 have hsf := hsf_z
 have hsn := hsn_z
 have m0 := locE_new w [.int .i64 c, .bool ng, .slice ao dn dc, .int .i64 p] 25
 have b0 := below_alloc w (.cells #[.int .i64 c, .bool ng, .slice ao dn dc, .int .i64 p] 25)
 have HL' : Hid _ := HL
 clear HL
 go_enter Tryz.func6, Tryz.ntmps6
 go_wp2_with fail
 refine (HL'.out _).mono ?_
 rintro z w1 ⟨rfl, b1⟩
 have bq := below_alloc w1 (.cells #[.int .i64 0, .int .i64 0, .int .i64 0, .int .i64 0, .bool false, .int .i64 0, .int .i64 0, .int .i64 0, .nilFunc] 63)
 have m1 := (m0.later b1).later bq
 have q1 := locE_new w1 [.int .i64 0, .int .i64 0, .int .i64 0, .int .i64 0, .bool false, .int .i64 0, .int .i64 0, .int .i64 0, .nilFunc] 63
 have b01 := below_trans (below_trans b0 b1) bq
 obtain ⟨u0, u1, u2, u3⟩ := m1.cs4
 obtain ⟨s0, s1, s2, s3, s4, s5, s6, s7, s8⟩ := q1.cs9
 clear m0 b0 b1 bq HL'
 go_wp2
 go_ret2
 exact ⟨rfl, b01⟩
set_option maxHeartbeats 3200000 in
theorem enc_digits (n : Int) (R D L G fam : Int) (gr : Bool) (sz ex : Nat) (F : Nat) (c p : Int) (ng : Bool) (ao : Option Addr) (dn dc : Nat) (w : World)
  (HL : ∀ w1, Calls Tryz.prog 20 #[.int .i64 n] w1 fun z w' => z = .returned (.tuple #[.agg #[.int .i64 R, .int .i64 D, .int .i64 L, .int .i64 G, .bool gr, .int .i64 (sz : Int), .int .i64 (ex : Int), .int .i64 fam, .func (.func F) #[] #[]], .int .i64 0]) ∧ Below w1.heap.size w1 w')
  (nc : Int) (HN : ∀ w1, Below w.heap.size w w1 → Calls Tryz.prog 21 #[.slice ao dn dc] w1 fun z w' => z = .returned (.int .i64 nc) ∧ Below w1.heap.size w1 w') (h1 : 1 ≤ c) (h5 : c ≤ 5) (hn : nc ≠ 0) :
  Calls Tryz.prog 6 #[.int .i64 n, .agg #[.int .i64 c, .bool ng, .slice ao dn dc, .int .i64 p]] w fun z w' => z = .returned (.tuple #[.string ⟨#[]⟩, .int .i64 nc]) ∧ Below w.heap.size w w' := by
 have HN' : Hid _ := HN
 clear HN
 have hc1 : ¬ c < 1 := by omega
 have hc5 : ¬ 5 < c := by omega
 have hnb : (nc == 0) = false := by simpa using hn
 clear hn
 have hsf := hsf_z
 have hsn := hsn_z
 have m0 := locE_new w [.int .i64 c, .bool ng, .slice ao dn dc, .int .i64 p] 25
 have b0 := below_alloc w (.cells #[.int .i64 c, .bool ng, .slice ao dn dc, .int .i64 p] 25)
 have HL' : Hid _ := HL
 clear HL
 go_enter Tryz.func6, Tryz.ntmps6
 go_wp2_with fail
 refine (HL'.out _).mono ?_
 rintro z w1 ⟨rfl, b1⟩
 have bq := below_alloc w1 (.cells #[.int .i64 R, .int .i64 D, .int .i64 L, .int .i64 G, .bool gr, .int .i64 (sz : Int), .int .i64 (ex : Int), .int .i64 fam, .func (.func F) #[] #[]] 63)
 have m1 := (m0.later b1).later bq
 have q1 := locE_new w1 [.int .i64 R, .int .i64 D, .int .i64 L, .int .i64 G, .bool gr, .int .i64 (sz : Int), .int .i64 (ex : Int), .int .i64 fam, .func (.func F) #[] #[]] 63
 have b01 := below_trans (below_trans b0 b1) bq
 obtain ⟨u0, u1, u2, u3⟩ := m1.cs4
 obtain ⟨s0, s1, s2, s3, s4, s5, s6, s7, s8⟩ := q1.cs9
 clear m0 b0 b1 bq HL'
 go_wp2_with fail
 refine (HN'.out _ b01).mono ?_
 rintro z w2 ⟨rfl, b2⟩
 have m2 := m1.later b2
 have q2 := q1.later b2
 have b02 := below_trans b01 b2
 obtain ⟨v0, v1, v2, v3⟩ := m2.cs4
 obtain ⟨t0, t1, t2, t3, t4, t5, t6, t7, t8⟩ := q2.cs9
 go_wp2
 go_ret2
 exact ⟨rfl, b02⟩
set_option maxHeartbeats 3200000 in
theorem enc_other (n : Int) (R D L G fam : Int) (gr : Bool) (sz ex : Nat) (F : Nat) (c p : Int) (ng : Bool) (ao : Option Addr) (dn dc : Nat) (w : World)
  (HL : ∀ w1, Calls Tryz.prog 20 #[.int .i64 n] w1 fun z w' => z = .returned (.tuple #[.agg #[.int .i64 R, .int .i64 D, .int .i64 L, .int .i64 G, .bool gr, .int .i64 (sz : Int), .int .i64 (ex : Int), .int .i64 fam, .func (.func F) #[] #[]], .int .i64 0]) ∧ Below w1.heap.size w1 w')
  (nc : Int) (HN : ∀ w1, Below w.heap.size w w1 → Calls Tryz.prog 21 #[.slice ao dn dc] w1 fun z w' => z = .returned (.int .i64 nc) ∧ Below w1.heap.size w1 w')
  (st : ByteArray) (er : Int) (HO : ∀ w1, Calls Tryz.prog 23 #[.agg #[.int .i64 R, .int .i64 D, .int .i64 L, .int .i64 G, .bool gr, .int .i64 (sz : Int), .int .i64 (ex : Int), .int .i64 fam, .func (.func F) #[] #[]], .agg #[.int .i64 c, .bool ng, .slice ao dn dc, .int .i64 p]] w1 fun z w' => z = .returned (.tuple #[.string st, .int .i64 er]) ∧ Below w1.heap.size w1 w') (h1 : 1 ≤ c) (h5 : c ≤ 5) (h2 : c ≠ 2) (hn : nc = 0) :
  Calls Tryz.prog 6 #[.int .i64 n, .agg #[.int .i64 c, .bool ng, .slice ao dn dc, .int .i64 p]] w fun z w' => z = .returned (.tuple #[.string st, .int .i64 er]) ∧ Below w.heap.size w w' := by
 subst hn
 have HN' : Hid _ := HN
 clear HN
 have hc1 : ¬ c < 1 := by omega
 have hc5 : ¬ 5 < c := by omega
 have HO' : Hid _ := HO
 clear HO
 have hcb : (c == 2) = false := by simpa using h2
 clear h2
 have hsf := hsf_z
 have hsn := hsn_z
 have m0 := locE_new w [.int .i64 c, .bool ng, .slice ao dn dc, .int .i64 p] 25
 have b0 := below_alloc w (.cells #[.int .i64 c, .bool ng, .slice ao dn dc, .int .i64 p] 25)
 have HL' : Hid _ := HL
 clear HL
 go_enter Tryz.func6, Tryz.ntmps6
 go_wp2_with fail
 refine (HL'.out _).mono ?_
 rintro z w1 ⟨rfl, b1⟩
 have bq := below_alloc w1 (.cells #[.int .i64 R, .int .i64 D, .int .i64 L, .int .i64 G, .bool gr, .int .i64 (sz : Int), .int .i64 (ex : Int), .int .i64 fam, .func (.func F) #[] #[]] 63)
 have m1 := (m0.later b1).later bq
 have q1 := locE_new w1 [.int .i64 R, .int .i64 D, .int .i64 L, .int .i64 G, .bool gr, .int .i64 (sz : Int), .int .i64 (ex : Int), .int .i64 fam, .func (.func F) #[] #[]] 63
 have b01 := below_trans (below_trans b0 b1) bq
 obtain ⟨u0, u1, u2, u3⟩ := m1.cs4
 obtain ⟨s0, s1, s2, s3, s4, s5, s6, s7, s8⟩ := q1.cs9
 clear m0 b0 b1 bq HL'
 go_wp2_with fail
 refine (HN'.out _ b01).mono ?_
 rintro z w2 ⟨rfl, b2⟩
 have m2 := m1.later b2
 have q2 := q1.later b2
 have b02 := below_trans b01 b2
 obtain ⟨v0, v1, v2, v3⟩ := m2.cs4
 obtain ⟨t0, t1, t2, t3, t4, t5, t6, t7, t8⟩ := q2.cs9
 go_wp2_with fail
 refine (HO'.out _).mono ?_
 rintro z w3 ⟨rfl, b3⟩
 go_wp2
 go_ret2
 exact ⟨rfl, below_trans b02 b3⟩
def encOE (n : Int) (c dn : Nat) (nc : Int) (ng : Bool) (p : Int) : Int := if famC n = 0 then 6 else if nc ≠ 0 then nc else othE n.toNat c dn ng p
def encOS (n : Int) (c dn : Nat) (nc : Int) (ng : Bool) (p : Int) : ByteArray := if famC n = 0 then ⟨#[]⟩ else if nc ≠ 0 then ⟨#[]⟩ else othS n.toNat c dn ng p
theorem encode_other (n : Int) (c : Nat) (hc : c = 1 ∨ c = 3 ∨ c = 4 ∨ c = 5) (ng : Bool) (ao : Option Addr) (dn dc : Nat) (p nc : Int) (w : World) (HN : ∀ w1, Below w.heap.size w w1 → Calls Tryz.prog 21 #[.slice ao dn dc] w1 fun z w' => z = .returned (.int .i64 nc) ∧ Below w1.heap.size w1 w') :
  Calls Tryz.prog 6 #[.int .i64 n, .agg #[.int .i64 (c : Int), .bool ng, .slice ao dn dc, .int .i64 p]] w fun z w' => z = .returned (.tuple #[.string (encOS n c dn nc ng p), .int .i64 (encOE n c dn nc ng p)]) ∧ Below w.heap.size w w' := by
 unfold encOS encOE
 by_cases hf : famC n = 0
 ·rw [if_pos hf, if_pos hf]
  exact enc_none n _ p ng ao dn dc w (fun w1 => layoutOf_none n w1 hf)
 ·rw [if_neg hf, if_neg hf]
  obtain ⟨h1, h2, h3⟩ := famC_in hf
  obtain ⟨k, rfl⟩ : ∃ k : Nat, n = (k : Int) := ⟨n.toNat, h3.symm⟩
  rw [Int.toNat_natCast] at h1 h2 ⊢
  have HL := fun w1 => layoutOf_any k ⟨h1, h2⟩ w1
  by_cases hn : nc = 0
  ·rw [if_neg (by omega), if_neg (by omega)]
   have HO := fun w1 => encodeOther_any k c ⟨h1, h2⟩ hc ng ao dn dc p w1
   generalize othS k c dn ng p = st at *
   generalize othE k c dn ng p = er at *
   rcases eight ⟨h1, h2⟩ with rfl | rfl | rfl | rfl | rfl | rfl | rfl | rfl
   all_goals exact enc_other _ _ _ _ _ _ _ _ _ _ _ p ng ao dn dc w HL nc HN st er HO (by omega) (by omega) (by omega) hn
  ·rw [if_pos hn, if_pos hn]
   rcases eight ⟨h1, h2⟩ with rfl | rfl | rfl | rfl | rfl | rfl | rfl | rfl
   all_goals exact enc_digits _ _ _ _ _ _ _ _ _ _ _ p ng ao dn dc w HL nc HN (by omega) (by omega) hn
end Go.Proofs.YtiiphandhpilgaaGreatDoor
namespace Go.Proofs.YtiiphandhpilgaaGreatDoor
open Go.RowKit
theorem word_join (x a : Nat) (hx : x < 4294967296) (ha : a < 4294967296) : bits .or .u64 ((x : Int) * 4294967296) (a : Int) = ((a + 4294967296 * x : Nat) : Int) := by
 rw [show (x : Int) * 4294967296 = ((4294967296 * x : Nat) : Int) from by omega]
 rw [u64_or_nat _ _ (by omega) (by omega), nat_join 32 _ _ (by omega) (by omega)]
 congr 1
 omega
set_option maxHeartbeats 1600000 in
theorem word_any (va : Value) (xs : List Nat) (w : World) (ha : Rd w .u32 va xs) (sa : Dg.Small 4294967296 xs) (hl : xs.length ≤ 2) :
  Calls Tryz.prog 113 #[va] w fun z w' => z = .returned (.int .u64 ((Dg.vl 4294967296 xs : Nat) : Int)) ∧ w' = w := by
 obtain ⟨ao, ca, rfl, -, -, hca⟩ := ha
 go_enter Tryz.func113, Tryz.ntmps113
 go_wp2
 go_loop [3, 4] (fun xv iv => ∃ j x : Nat, j ≤ xs.length ∧ iv = .int .i64 ((j : Int) - 1) ∧ xv = .int .u64 (x : Int) ∧ Hid (x = Dg.vl 4294967296 (xs.drop j))) (fun _ iv => (intOf iv + 1).toNat)
 case atStart => exact ⟨xs.length, 0, Nat.le_refl _, by go_num, rfl, by rw [List.drop_of_length_le (Nat.le_refl _)]; rfl⟩
 case round =>
  obtain ⟨j, x, hj, rfl, rfl, HX⟩ := hrel
  by_cases h0 : 0 < j
  ·obtain ⟨i, rfl⟩ : ∃ i, j = i + 1 := ⟨j - 1, by omega⟩
   rw [show ((i + 1 : Nat) : Int) - 1 = (i : Int) from by omega]
   obtain ⟨b, off, rfl, hcell⟩ := hca (by omega)
   have hc := hcell i (by omega)
   have hs := sa i
   have hx := HX.out
   have hxl : x < 4294967296 := by
    have h1 := Dg.vl_lt 4294967296 (xs.drop (i + 1)) (fun k => by
     rw [List.getD_eq_getElem?_getD, List.getElem?_drop, ← List.getD_eq_getElem?_getD]
     exact sa _)
    rw [← hx, List.length_drop] at h1
    have h2 : (4294967296 : Nat) ^ (xs.length - (i + 1)) ≤ 4294967296 ^ 1 := Nat.pow_le_pow_right (by omega) (by omega)
    omega
   have hst : Dg.vl 4294967296 (xs.drop i) = xs.getD i 0 + 4294967296 * x := by
    rw [hx, List.drop_eq_getElem_cons (show i < xs.length by omega), Dg.vl]
    simp [List.getD_eq_getElem?_getD, show i < xs.length by omega]
   obtain ⟨a, ea⟩ : ∃ a, xs.getD i 0 = a := ⟨_, rfl⟩
   rw [ea] at hc hs hst
   have hil : i < xs.length := by omega
   have HST : Hid _ := hst
   clear ea hst hx hcell hca HX
   go_wp2
   have hst := HST.out
   refine ⟨⟨i, a + 4294967296 * x, by omega, rfl, ?_, hst.symm⟩, ?_⟩
   ·rw [word_join x a hxl hs]
   ·simp only [intOf]
    omega
  ·have hd : ¬ ((0 : Int) ≤ (j : Int) - 1) := by omega
   have HJ : Hid (j = 0) := (by omega : j = 0)
   go_wp2
   go_ret
   have h1 := HJ.out
   subst h1
   have := HX.out
   rw [List.drop_zero] at this
   rw [← this]
   exact ⟨rfl, rfl⟩
end Go.Proofs.YtiiphandhpilgaaGreatDoor
namespace Go.Proofs.YtiiphandhpilgaaGreatDoor
open Go.RowKit
set_option maxHeartbeats 6400000 in
theorem fieldsOf_hex (D L G fam : Int) (gr : Bool) (sz ex : Nat) (F : Nat) (s x1 x2 x3 : Bool) (ao : Option Addr) (dn dc : Nat) (pw : Int) (e f : Nat) (w : World) (hE : IntKind.i64.wrap (pw - L) = (e : Int)) (_he : e < 65536)
  (HWd : ∀ w1, Below w.heap.size w w1 → Calls Tryz.prog 113 #[.slice ao dn dc] w1 fun z w' => z = .returned (.int .u64 (f : Int)) ∧ w1 = w') :
  Calls Tryz.prog 75 #[.agg #[.int .i64 16, .int .i64 D, .int .i64 L, .int .i64 G, .bool gr, .int .i64 (sz : Int), .int .i64 (ex : Int), .int .i64 fam, .func (.func F) #[] #[]], .agg #[.bool s, .slice ao dn dc, .int .i64 pw, .bool x1, .bool x2, .bool x3]] w fun z w' => z = .returned (.agg #[.bool s, .int .i64 (e : Int), .int .u64 (f : Int)]) ∧ Below w.heap.size w w' := by
 have hsf := hsf_z
 have HWd' : Hid _ := HWd
 clear HWd
 have bp := below_alloc (w.alloc (.cells #[.int .i64 16, .int .i64 D, .int .i64 L, .int .i64 G, .bool gr, .int .i64 (sz : Int), .int .i64 (ex : Int), .int .i64 fam, .func (.func F) #[] #[]] 63)) (.cells #[.bool s, .slice ao dn dc, .int .i64 pw, .bool x1, .bool x2, .bool x3] 134)
 have bz := below_alloc ((w.alloc (.cells #[.int .i64 16, .int .i64 D, .int .i64 L, .int .i64 G, .bool gr, .int .i64 (sz : Int), .int .i64 (ex : Int), .int .i64 fam, .func (.func F) #[] #[]] 63)).alloc (.cells #[.bool s, .slice ao dn dc, .int .i64 pw, .bool x1, .bool x2, .bool x3] 134)) (.cells #[.bool false, .int .i64 0, .int .u64 0] 82)
 have ql0 := ((locE_new w [.int .i64 16, .int .i64 D, .int .i64 L, .int .i64 G, .bool gr, .int .i64 (sz : Int), .int .i64 (ex : Int), .int .i64 fam, .func (.func F) #[] #[]] 63).later bp).later bz
 have qp0 := (locE_new (w.alloc (.cells #[.int .i64 16, .int .i64 D, .int .i64 L, .int .i64 G, .bool gr, .int .i64 (sz : Int), .int .i64 (ex : Int), .int .i64 fam, .func (.func F) #[] #[]] 63)) [.bool s, .slice ao dn dc, .int .i64 pw, .bool x1, .bool x2, .bool x3] 134).later bz
 have qz0 := locE_new ((w.alloc (.cells #[.int .i64 16, .int .i64 D, .int .i64 L, .int .i64 G, .bool gr, .int .i64 (sz : Int), .int .i64 (ex : Int), .int .i64 fam, .func (.func F) #[] #[]] 63)).alloc (.cells #[.bool s, .slice ao dn dc, .int .i64 pw, .bool x1, .bool x2, .bool x3] 134)) [.bool false, .int .i64 0, .int .u64 0] 82
 have b0 := below_trans (below_trans (below_alloc w (.cells #[.int .i64 16, .int .i64 D, .int .i64 L, .int .i64 G, .bool gr, .int .i64 (sz : Int), .int .i64 (ex : Int), .int .i64 fam, .func (.func F) #[] #[]] 63)) bp) bz
 rw [World.size_alloc] at qp0
 rw [World.size_alloc, World.size_alloc] at qz0
 have ba := below_alloc (((w.alloc (.cells #[.int .i64 16, .int .i64 D, .int .i64 L, .int .i64 G, .bool gr, .int .i64 (sz : Int), .int .i64 (ex : Int), .int .i64 fam, .func (.func F) #[] #[]] 63)).alloc (.cells #[.bool s, .slice ao dn dc, .int .i64 pw, .bool x1, .bool x2, .bool x3] 134)).alloc (.cells #[.bool false, .int .i64 0, .int .u64 0] 82)) (.cells #[.bool false, .int .i64 0, .int .u64 0] 82)
 have b0d := b0.drew
 have b0a := (below_trans b0 ba).drew
 have ql0a := (ql0.later ba).drew
 have qp0a := (qp0.later ba).drew
 have ql0d := ql0.drew
 have qp0d := qp0.drew
 obtain ⟨cx0, cx1, cx2, cx3, cx4, cx5, cx6, cx7, cx8⟩ := ql0d.cs9
 obtain ⟨cu0, cu1, cu2, cu3, cu4, cu5⟩ := qp0d.cs6
 obtain ⟨cxa0, cxa1, cxa2, cxa3, cxa4, cxa5, cxa6, cxa7, cxa8⟩ := ql0a.cs9
 obtain ⟨cua0, cua1, cua2, cua3, cua4, cua5⟩ := qp0a.cs6
 have hn0 : w.heap.size + 1 + 1 + 1 ≠ w.heap.size := by omega
 have hn1 : w.heap.size + 1 + 1 + 1 ≠ w.heap.size + 1 := by omega
 go_enter Tryz.func75, Tryz.ntmps75
 go_wp2_with fail
 go_region_held3 (fun wq => (wq.cell? ⟨w.heap.size, 0, none⟩ = some (.int .i64 16) ∧ wq.cell? ⟨w.heap.size, 1, none⟩ = some (.int .i64 D) ∧ wq.cell? ⟨w.heap.size, 2, none⟩ = some (.int .i64 L) ∧ wq.cell? ⟨w.heap.size, 3, none⟩ = some (.int .i64 G) ∧ wq.cell? ⟨w.heap.size, 4, none⟩ = some (.bool gr) ∧ wq.cell? ⟨w.heap.size, 5, none⟩ = some (.int .i64 (sz : Int)) ∧ wq.cell? ⟨w.heap.size, 6, none⟩ = some (.int .i64 (ex : Int)) ∧ wq.cell? ⟨w.heap.size, 7, none⟩ = some (.int .i64 fam) ∧ wq.cell? ⟨w.heap.size, 8, none⟩ = some (.func (.func F) #[] #[])) ∧ (wq.cell? ⟨w.heap.size + 1, 0, none⟩ = some (.bool s) ∧ wq.cell? ⟨w.heap.size + 1, 1, none⟩ = some (.slice ao dn dc) ∧ wq.cell? ⟨w.heap.size + 1, 2, none⟩ = some (.int .i64 pw) ∧ wq.cell? ⟨w.heap.size + 1, 3, none⟩ = some (.bool x1) ∧ wq.cell? ⟨w.heap.size + 1, 4, none⟩ = some (.bool x2) ∧ wq.cell? ⟨w.heap.size + 1, 5, none⟩ = some (.bool x3))) (go_keep) (first
  | (go_at_call 113; (first | (with_reducible (refine (HWd'.out _ b0d).mono ?_)) | (with_reducible (refine (HWd'.out _ b0a).mono ?_))); rintro z wv ⟨rfl, rfl⟩))
 all_goals (
  have ba4 := below_alloc (((w.alloc (.cells #[.int .i64 16, .int .i64 D, .int .i64 L, .int .i64 G, .bool gr, .int .i64 (sz : Int), .int .i64 (ex : Int), .int .i64 fam, .func (.func F) #[] #[]] 63)).alloc (.cells #[.bool s, .slice ao dn dc, .int .i64 pw, .bool x1, .bool x2, .bool x3] 134)).alloc (.cells #[.bool false, .int .i64 0, .int .u64 0] 82)) (.cells #[.bool s, .int .i64 (e : Int), .int .u64 (f : Int)] 82)
  have ql4 := (ql0.later ba4).drew
  have qz4 := (qz0.later ba4).drew
  have qf4 := (locE_new (((w.alloc (.cells #[.int .i64 16, .int .i64 D, .int .i64 L, .int .i64 G, .bool gr, .int .i64 (sz : Int), .int .i64 (ex : Int), .int .i64 fam, .func (.func F) #[] #[]] 63)).alloc (.cells #[.bool s, .slice ao dn dc, .int .i64 pw, .bool x1, .bool x2, .bool x3] 134)).alloc (.cells #[.bool false, .int .i64 0, .int .u64 0] 82)) [.bool s, .int .i64 (e : Int), .int .u64 (f : Int)] 82).drew
  rw [World.size_alloc, World.size_alloc, World.size_alloc] at qf4
  have b4 := (below_trans b0 ba4).drew
  clear ba4 ba b0d b0a ql0a qp0a ql0d qp0d ql0 qp0 qz0 b0 cx0 cxa0 cx1 cxa1 cx2 cxa2 cx3 cxa3 cx4 cxa4 cx5 cxa5 cx6 cxa6 cx7 cxa7 cx8 cxa8 cu0 cua0 cu1 cua1 cu2 cua2 cu3 cua3 cu4 cua4 cu5 cua5
  generalize ((((w.alloc (.cells #[.int .i64 16, .int .i64 D, .int .i64 L, .int .i64 G, .bool gr, .int .i64 (sz : Int), .int .i64 (ex : Int), .int .i64 fam, .func (.func F) #[] #[]] 63)).alloc (.cells #[.bool s, .slice ao dn dc, .int .i64 pw, .bool x1, .bool x2, .bool x3] 134)).alloc (.cells #[.bool false, .int .i64 0, .int .u64 0] 82)).alloc (.cells #[.bool s, .int .i64 (e : Int), .int .u64 (f : Int)] 82)).drew = w4 at *
  have c0 := ql4.cell 0 rfl
  go_wp2_with fail
  go_quiet (fail)
  have bd : Below w4.heap.size w4 (w4.drewN nq) := below_drewN (Below.refl _ _) _
  have qz5 := qz4.later bd
  have qf5 := qf4.later bd
  have b5 := below_trans b4 bd
  clear c0 ql4 qz4 qf4 b4 bd
  generalize w4.drewN nq = w5 at *
  have bu := ((but_set w5 (w.heap.size + 1 + 1) 0 (.bool s)).trans (but_set _ (w.heap.size + 1 + 1) 1 (.int .i64 (e : Int)))).trans (but_set _ (w.heap.size + 1 + 1) 2 (.int .u64 (f : Int)))
  have cR : LocE (((w5.setCell ⟨w.heap.size + 1 + 1, 0, none⟩ (.bool s)).setCell ⟨w.heap.size + 1 + 1, 1, none⟩ (.int .i64 (e : Int))).setCell ⟨w.heap.size + 1 + 1, 2, none⟩ (.int .u64 (f : Int))) (w.heap.size + 1 + 1) 82 [.bool s, .int .i64 (e : Int), .int .u64 (f : Int)] := (((qz5.set 0 (.bool s)).set 1 (.int .i64 (e : Int))).set 2 (.int .u64 (f : Int)))
  have bR := bu.below b5 (by omega)
  have hl := run_loadVar_mid (P := Tryz.prog) _ (w.heap.size + 1 + 1) 0 82 [.bool s, .int .i64 (e : Int), .int .u64 (f : Int)] _ cR.range Tryz.underlying82 rfl (by kernel_rfl)
  have HH : Hid (_ ∧ _) := ⟨hl, bR⟩
  obtain ⟨yz0, yz1, yz2⟩ := qz5.cs3; have jz0 := qz5.free 0; have jz1 := qz5.free 1; have jz2 := qz5.free 2; obtain ⟨yf0, yf1, yf2⟩ := qf5.cs3
  clear hl bR cR bu
  go_wp2
  obtain ⟨hl, bR⟩ := HH.out
  exact bodyPost_ret (results_one Tryz.results75 rfl hl) rfl ⟨rfl, bR⟩
 )
set_option maxHeartbeats 6400000 in
theorem fieldsOf_set (D L G fam : Int) (gr : Bool) (sz ex : Nat) (F : Nat) (s x1 x2 x3 : Bool) (ao : Option Addr) (dn dc : Nat) (pw : Int) (e f : Nat) (w : World) (hE : IntKind.i64.wrap (pw - L) = (e : Int)) (he : e < 65536)
  (HWd : ∀ w1, Below w.heap.size w w1 → Calls Tryz.prog 113 #[.slice ao dn dc] w1 fun z w' => z = .returned (.int .u64 (f : Int)) ∧ w1 = w')
  (ld : Nat) (ab : Int) (hab : bits .and .u64 (f : Int) (ld : Int) = ab) (habz : ab ≠ 0)
  (HL : ∀ w1, Calls Tryz.prog 90 #[.agg #[.int .i64 2, .int .i64 D, .int .i64 L, .int .i64 G, .bool gr, .int .i64 (sz : Int), .int .i64 (ex : Int), .int .i64 fam, .func (.func F) #[] #[]]] w1 fun z w' => z = .returned (.int .u64 (ld : Int)) ∧ Below w1.heap.size w1 w') :
  Calls Tryz.prog 75 #[.agg #[.int .i64 2, .int .i64 D, .int .i64 L, .int .i64 G, .bool gr, .int .i64 (sz : Int), .int .i64 (ex : Int), .int .i64 fam, .func (.func F) #[] #[]], .agg #[.bool s, .slice ao dn dc, .int .i64 pw, .bool x1, .bool x2, .bool x3]] w fun z w' => z = .returned (.agg #[.bool s, .int .i64 ((e : Int) + 1), .int .u64 (f : Int)]) ∧ Below w.heap.size w w' := by
 have hsf := hsf_z
 have HWd' : Hid _ := HWd
 clear HWd
 have HL' : Hid _ := HL
 clear HL
 have hz1 : (ab == 0) = false := by simpa using habz
 have hz2 : (ab != 0) = true := by simpa using habz
 clear habz
 have bp := below_alloc (w.alloc (.cells #[.int .i64 2, .int .i64 D, .int .i64 L, .int .i64 G, .bool gr, .int .i64 (sz : Int), .int .i64 (ex : Int), .int .i64 fam, .func (.func F) #[] #[]] 63)) (.cells #[.bool s, .slice ao dn dc, .int .i64 pw, .bool x1, .bool x2, .bool x3] 134)
 have bz := below_alloc ((w.alloc (.cells #[.int .i64 2, .int .i64 D, .int .i64 L, .int .i64 G, .bool gr, .int .i64 (sz : Int), .int .i64 (ex : Int), .int .i64 fam, .func (.func F) #[] #[]] 63)).alloc (.cells #[.bool s, .slice ao dn dc, .int .i64 pw, .bool x1, .bool x2, .bool x3] 134)) (.cells #[.bool false, .int .i64 0, .int .u64 0] 82)
 have ql0 := ((locE_new w [.int .i64 2, .int .i64 D, .int .i64 L, .int .i64 G, .bool gr, .int .i64 (sz : Int), .int .i64 (ex : Int), .int .i64 fam, .func (.func F) #[] #[]] 63).later bp).later bz
 have qp0 := (locE_new (w.alloc (.cells #[.int .i64 2, .int .i64 D, .int .i64 L, .int .i64 G, .bool gr, .int .i64 (sz : Int), .int .i64 (ex : Int), .int .i64 fam, .func (.func F) #[] #[]] 63)) [.bool s, .slice ao dn dc, .int .i64 pw, .bool x1, .bool x2, .bool x3] 134).later bz
 have qz0 := locE_new ((w.alloc (.cells #[.int .i64 2, .int .i64 D, .int .i64 L, .int .i64 G, .bool gr, .int .i64 (sz : Int), .int .i64 (ex : Int), .int .i64 fam, .func (.func F) #[] #[]] 63)).alloc (.cells #[.bool s, .slice ao dn dc, .int .i64 pw, .bool x1, .bool x2, .bool x3] 134)) [.bool false, .int .i64 0, .int .u64 0] 82
 have b0 := below_trans (below_trans (below_alloc w (.cells #[.int .i64 2, .int .i64 D, .int .i64 L, .int .i64 G, .bool gr, .int .i64 (sz : Int), .int .i64 (ex : Int), .int .i64 fam, .func (.func F) #[] #[]] 63)) bp) bz
 rw [World.size_alloc] at qp0
 rw [World.size_alloc, World.size_alloc] at qz0
 have ba := below_alloc (((w.alloc (.cells #[.int .i64 2, .int .i64 D, .int .i64 L, .int .i64 G, .bool gr, .int .i64 (sz : Int), .int .i64 (ex : Int), .int .i64 fam, .func (.func F) #[] #[]] 63)).alloc (.cells #[.bool s, .slice ao dn dc, .int .i64 pw, .bool x1, .bool x2, .bool x3] 134)).alloc (.cells #[.bool false, .int .i64 0, .int .u64 0] 82)) (.cells #[.bool false, .int .i64 0, .int .u64 0] 82)
 have b0d := b0.drew
 have b0a := (below_trans b0 ba).drew
 have ql0a := (ql0.later ba).drew
 have qp0a := (qp0.later ba).drew
 have ql0d := ql0.drew
 have qp0d := qp0.drew
 obtain ⟨cx0, cx1, cx2, cx3, cx4, cx5, cx6, cx7, cx8⟩ := ql0d.cs9
 obtain ⟨cu0, cu1, cu2, cu3, cu4, cu5⟩ := qp0d.cs6
 obtain ⟨cxa0, cxa1, cxa2, cxa3, cxa4, cxa5, cxa6, cxa7, cxa8⟩ := ql0a.cs9
 obtain ⟨cua0, cua1, cua2, cua3, cua4, cua5⟩ := qp0a.cs6
 have hn0 : w.heap.size + 1 + 1 + 1 ≠ w.heap.size := by omega
 have hn1 : w.heap.size + 1 + 1 + 1 ≠ w.heap.size + 1 := by omega
 go_enter Tryz.func75, Tryz.ntmps75
 go_wp2_with fail
 go_region_held3 (fun wq => (wq.cell? ⟨w.heap.size, 0, none⟩ = some (.int .i64 2) ∧ wq.cell? ⟨w.heap.size, 1, none⟩ = some (.int .i64 D) ∧ wq.cell? ⟨w.heap.size, 2, none⟩ = some (.int .i64 L) ∧ wq.cell? ⟨w.heap.size, 3, none⟩ = some (.int .i64 G) ∧ wq.cell? ⟨w.heap.size, 4, none⟩ = some (.bool gr) ∧ wq.cell? ⟨w.heap.size, 5, none⟩ = some (.int .i64 (sz : Int)) ∧ wq.cell? ⟨w.heap.size, 6, none⟩ = some (.int .i64 (ex : Int)) ∧ wq.cell? ⟨w.heap.size, 7, none⟩ = some (.int .i64 fam) ∧ wq.cell? ⟨w.heap.size, 8, none⟩ = some (.func (.func F) #[] #[])) ∧ (wq.cell? ⟨w.heap.size + 1, 0, none⟩ = some (.bool s) ∧ wq.cell? ⟨w.heap.size + 1, 1, none⟩ = some (.slice ao dn dc) ∧ wq.cell? ⟨w.heap.size + 1, 2, none⟩ = some (.int .i64 pw) ∧ wq.cell? ⟨w.heap.size + 1, 3, none⟩ = some (.bool x1) ∧ wq.cell? ⟨w.heap.size + 1, 4, none⟩ = some (.bool x2) ∧ wq.cell? ⟨w.heap.size + 1, 5, none⟩ = some (.bool x3))) (go_keep) (first
  | (go_at_call 113; (first | (with_reducible (refine (HWd'.out _ b0d).mono ?_)) | (with_reducible (refine (HWd'.out _ b0a).mono ?_))); rintro z wv ⟨rfl, rfl⟩))
 all_goals (
  have ba4 := below_alloc (((w.alloc (.cells #[.int .i64 2, .int .i64 D, .int .i64 L, .int .i64 G, .bool gr, .int .i64 (sz : Int), .int .i64 (ex : Int), .int .i64 fam, .func (.func F) #[] #[]] 63)).alloc (.cells #[.bool s, .slice ao dn dc, .int .i64 pw, .bool x1, .bool x2, .bool x3] 134)).alloc (.cells #[.bool false, .int .i64 0, .int .u64 0] 82)) (.cells #[.bool s, .int .i64 (e : Int), .int .u64 (f : Int)] 82)
  have ql4 := (ql0.later ba4).drew
  have qz4 := (qz0.later ba4).drew
  have qf4 := (locE_new (((w.alloc (.cells #[.int .i64 2, .int .i64 D, .int .i64 L, .int .i64 G, .bool gr, .int .i64 (sz : Int), .int .i64 (ex : Int), .int .i64 fam, .func (.func F) #[] #[]] 63)).alloc (.cells #[.bool s, .slice ao dn dc, .int .i64 pw, .bool x1, .bool x2, .bool x3] 134)).alloc (.cells #[.bool false, .int .i64 0, .int .u64 0] 82)) [.bool s, .int .i64 (e : Int), .int .u64 (f : Int)] 82).drew
  rw [World.size_alloc, World.size_alloc, World.size_alloc] at qf4
  have b4 := (below_trans b0 ba4).drew
  clear ba4 ba b0d b0a ql0a qp0a ql0d qp0d ql0 qp0 qz0 b0 cx0 cxa0 cx1 cxa1 cx2 cxa2 cx3 cxa3 cx4 cxa4 cx5 cxa5 cx6 cxa6 cx7 cxa7 cx8 cxa8 cu0 cua0 cu1 cua1 cu2 cua2 cu3 cua3 cu4 cua4 cu5 cua5
  generalize ((((w.alloc (.cells #[.int .i64 2, .int .i64 D, .int .i64 L, .int .i64 G, .bool gr, .int .i64 (sz : Int), .int .i64 (ex : Int), .int .i64 fam, .func (.func F) #[] #[]] 63)).alloc (.cells #[.bool s, .slice ao dn dc, .int .i64 pw, .bool x1, .bool x2, .bool x3] 134)).alloc (.cells #[.bool false, .int .i64 0, .int .u64 0] 82)).alloc (.cells #[.bool s, .int .i64 (e : Int), .int .u64 (f : Int)] 82)).drew = w4 at *
  have ql4d := ql4.drew
  have qf4d := qf4.drew
  have qz4d := qz4.drew
  have b4d := b4.drew
  obtain ⟨cl0, cl1, cl2, cl3, cl4, cl5, cl6, cl7, cl8⟩ := ql4d.cs9
  obtain ⟨cf0, cf1, cf2⟩ := qf4d.cs3
  go_wp2_with fail
  go_region_held3 (fun wq => (wq.cell? ⟨w.heap.size, 0, none⟩ = some (.int .i64 2) ∧ wq.cell? ⟨w.heap.size, 1, none⟩ = some (.int .i64 D) ∧ wq.cell? ⟨w.heap.size, 2, none⟩ = some (.int .i64 L) ∧ wq.cell? ⟨w.heap.size, 3, none⟩ = some (.int .i64 G) ∧ wq.cell? ⟨w.heap.size, 4, none⟩ = some (.bool gr) ∧ wq.cell? ⟨w.heap.size, 5, none⟩ = some (.int .i64 (sz : Int)) ∧ wq.cell? ⟨w.heap.size, 6, none⟩ = some (.int .i64 (ex : Int)) ∧ wq.cell? ⟨w.heap.size, 7, none⟩ = some (.int .i64 fam) ∧ wq.cell? ⟨w.heap.size, 8, none⟩ = some (.func (.func F) #[] #[])) ∧ (wq.cell? ⟨w.heap.size + 1 + 1 + 1, 0, none⟩ = some (.bool s) ∧ wq.cell? ⟨w.heap.size + 1 + 1 + 1, 1, none⟩ = some (.int .i64 (e : Int)) ∧ wq.cell? ⟨w.heap.size + 1 + 1 + 1, 2, none⟩ = some (.int .u64 (f : Int)))) (go_keep) (first
   | (go_at_call 90; refine (HL'.out _).mono ?_; rintro z w5 ⟨rfl, b5'⟩; have ql5 := ql4d.later b5'; have qf5 := qf4d.later b5'; have qz5 := qz4d.later b5'; have b5 := below_trans b4d b5'; obtain ⟨dl0, dl1, dl2, dl3, dl4, dl5, dl6, dl7, dl8⟩ := ql5.cs9; obtain ⟨df0, df1, df2⟩ := qf5.cs3))
  clear ql4 ql4d qf4 qf4d qz4 qz4d b4 b4d b5' cl0 cl1 cl2 cl3 cl4 cl5 cl6 cl7 cl8 cf0 cf1 cf2
  have jf1 := qf5.free 1
  have hew : IntKind.i64.wrap ((e : Int) + 1) = (e : Int) + 1 := IntWalk.i64_in _ ⟨by omega, by omega⟩
  go_upto_region 4 with fail
  have hfz : w.heap.size + 1 + 1 + 1 ≠ w.heap.size + 1 + 1 := by omega
  have bu6 := but_set w5 (w.heap.size + 1 + 1 + 1) 1 (.int .i64 ((e : Int) + 1))
  have qf6 : LocE (w5.setCell ⟨w.heap.size + 1 + 1 + 1, 1, none⟩ (.int .i64 ((e : Int) + 1))) (w.heap.size + 1 + 1 + 1) 82 [.bool s, .int .i64 ((e : Int) + 1), .int .u64 (f : Int)] := qf5.set 1 (.int .i64 ((e : Int) + 1))
  have qz6 := qz5.off hfz 1 (.int .i64 ((e : Int) + 1))
  have b6 := bu6.below b5 (by omega)
  clear bu6 qf5 qz5 b5 ql5 df0 df1 df2 jf1
  generalize (w5.setCell ⟨w.heap.size + 1 + 1 + 1, 1, none⟩ (.int .i64 ((e : Int) + 1))) = w6 at *
  have bu := ((but_set w6 (w.heap.size + 1 + 1) 0 (.bool s)).trans (but_set _ (w.heap.size + 1 + 1) 1 (.int .i64 ((e : Int) + 1)))).trans (but_set _ (w.heap.size + 1 + 1) 2 (.int .u64 (f : Int)))
  have cR : LocE (((w6.setCell ⟨w.heap.size + 1 + 1, 0, none⟩ (.bool s)).setCell ⟨w.heap.size + 1 + 1, 1, none⟩ (.int .i64 ((e : Int) + 1))).setCell ⟨w.heap.size + 1 + 1, 2, none⟩ (.int .u64 (f : Int))) (w.heap.size + 1 + 1) 82 [.bool s, .int .i64 ((e : Int) + 1), .int .u64 (f : Int)] := (((qz6.set 0 (.bool s)).set 1 (.int .i64 ((e : Int) + 1))).set 2 (.int .u64 (f : Int)))
  have bR := bu.below b6 (by omega)
  have hl := run_loadVar_mid (P := Tryz.prog) _ (w.heap.size + 1 + 1) 0 82 [.bool s, .int .i64 ((e : Int) + 1), .int .u64 (f : Int)] _ cR.range Tryz.underlying82 rfl (by kernel_rfl)
  have HH : Hid (_ ∧ _) := ⟨hl, bR⟩
  obtain ⟨yz0, yz1, yz2⟩ := qz6.cs3; have jz0 := qz6.free 0; have jz1 := qz6.free 1; have jz2 := qz6.free 2; obtain ⟨yf0, yf1, yf2⟩ := qf6.cs3
  clear hl bR cR bu
  go_wp2
  obtain ⟨hl, bR⟩ := HH.out
  exact bodyPost_ret (results_one Tryz.results75 rfl hl) rfl ⟨rfl, bR⟩
 )
set_option maxHeartbeats 6400000 in
theorem fieldsOf_low (D L G fam : Int) (gr : Bool) (sz ex : Nat) (F : Nat) (s x1 x2 x3 : Bool) (ao : Option Addr) (dn dc : Nat) (pw : Int) (e f : Nat) (w : World) (hE : IntKind.i64.wrap (pw - L) = (e : Int)) (_he : e < 65536)
  (HWd : ∀ w1, Below w.heap.size w w1 → Calls Tryz.prog 113 #[.slice ao dn dc] w1 fun z w' => z = .returned (.int .u64 (f : Int)) ∧ w1 = w')
  (ld : Nat) (ab : Int) (hab : bits .and .u64 (f : Int) (ld : Int) = ab) (habz : ab = 0)
  (HL : ∀ w1, Calls Tryz.prog 90 #[.agg #[.int .i64 2, .int .i64 D, .int .i64 L, .int .i64 G, .bool gr, .int .i64 (sz : Int), .int .i64 (ex : Int), .int .i64 fam, .func (.func F) #[] #[]]] w1 fun z w' => z = .returned (.int .u64 (ld : Int)) ∧ Below w1.heap.size w1 w') :
  Calls Tryz.prog 75 #[.agg #[.int .i64 2, .int .i64 D, .int .i64 L, .int .i64 G, .bool gr, .int .i64 (sz : Int), .int .i64 (ex : Int), .int .i64 fam, .func (.func F) #[] #[]], .agg #[.bool s, .slice ao dn dc, .int .i64 pw, .bool x1, .bool x2, .bool x3]] w fun z w' => z = .returned (.agg #[.bool s, .int .i64 (e : Int), .int .u64 (f : Int)]) ∧ Below w.heap.size w w' := by
 have hsf := hsf_z
 have HWd' : Hid _ := HWd
 clear HWd
 have HL' : Hid _ := HL
 clear HL
 subst habz
 have bp := below_alloc (w.alloc (.cells #[.int .i64 2, .int .i64 D, .int .i64 L, .int .i64 G, .bool gr, .int .i64 (sz : Int), .int .i64 (ex : Int), .int .i64 fam, .func (.func F) #[] #[]] 63)) (.cells #[.bool s, .slice ao dn dc, .int .i64 pw, .bool x1, .bool x2, .bool x3] 134)
 have bz := below_alloc ((w.alloc (.cells #[.int .i64 2, .int .i64 D, .int .i64 L, .int .i64 G, .bool gr, .int .i64 (sz : Int), .int .i64 (ex : Int), .int .i64 fam, .func (.func F) #[] #[]] 63)).alloc (.cells #[.bool s, .slice ao dn dc, .int .i64 pw, .bool x1, .bool x2, .bool x3] 134)) (.cells #[.bool false, .int .i64 0, .int .u64 0] 82)
 have ql0 := ((locE_new w [.int .i64 2, .int .i64 D, .int .i64 L, .int .i64 G, .bool gr, .int .i64 (sz : Int), .int .i64 (ex : Int), .int .i64 fam, .func (.func F) #[] #[]] 63).later bp).later bz
 have qp0 := (locE_new (w.alloc (.cells #[.int .i64 2, .int .i64 D, .int .i64 L, .int .i64 G, .bool gr, .int .i64 (sz : Int), .int .i64 (ex : Int), .int .i64 fam, .func (.func F) #[] #[]] 63)) [.bool s, .slice ao dn dc, .int .i64 pw, .bool x1, .bool x2, .bool x3] 134).later bz
 have qz0 := locE_new ((w.alloc (.cells #[.int .i64 2, .int .i64 D, .int .i64 L, .int .i64 G, .bool gr, .int .i64 (sz : Int), .int .i64 (ex : Int), .int .i64 fam, .func (.func F) #[] #[]] 63)).alloc (.cells #[.bool s, .slice ao dn dc, .int .i64 pw, .bool x1, .bool x2, .bool x3] 134)) [.bool false, .int .i64 0, .int .u64 0] 82
 have b0 := below_trans (below_trans (below_alloc w (.cells #[.int .i64 2, .int .i64 D, .int .i64 L, .int .i64 G, .bool gr, .int .i64 (sz : Int), .int .i64 (ex : Int), .int .i64 fam, .func (.func F) #[] #[]] 63)) bp) bz
 rw [World.size_alloc] at qp0
 rw [World.size_alloc, World.size_alloc] at qz0
 have ba := below_alloc (((w.alloc (.cells #[.int .i64 2, .int .i64 D, .int .i64 L, .int .i64 G, .bool gr, .int .i64 (sz : Int), .int .i64 (ex : Int), .int .i64 fam, .func (.func F) #[] #[]] 63)).alloc (.cells #[.bool s, .slice ao dn dc, .int .i64 pw, .bool x1, .bool x2, .bool x3] 134)).alloc (.cells #[.bool false, .int .i64 0, .int .u64 0] 82)) (.cells #[.bool false, .int .i64 0, .int .u64 0] 82)
 have b0d := b0.drew
 have b0a := (below_trans b0 ba).drew
 have ql0a := (ql0.later ba).drew
 have qp0a := (qp0.later ba).drew
 have ql0d := ql0.drew
 have qp0d := qp0.drew
 obtain ⟨cx0, cx1, cx2, cx3, cx4, cx5, cx6, cx7, cx8⟩ := ql0d.cs9
 obtain ⟨cu0, cu1, cu2, cu3, cu4, cu5⟩ := qp0d.cs6
 obtain ⟨cxa0, cxa1, cxa2, cxa3, cxa4, cxa5, cxa6, cxa7, cxa8⟩ := ql0a.cs9
 obtain ⟨cua0, cua1, cua2, cua3, cua4, cua5⟩ := qp0a.cs6
 have hn0 : w.heap.size + 1 + 1 + 1 ≠ w.heap.size := by omega
 have hn1 : w.heap.size + 1 + 1 + 1 ≠ w.heap.size + 1 := by omega
 go_enter Tryz.func75, Tryz.ntmps75
 go_wp2_with fail
 go_region_held3 (fun wq => (wq.cell? ⟨w.heap.size, 0, none⟩ = some (.int .i64 2) ∧ wq.cell? ⟨w.heap.size, 1, none⟩ = some (.int .i64 D) ∧ wq.cell? ⟨w.heap.size, 2, none⟩ = some (.int .i64 L) ∧ wq.cell? ⟨w.heap.size, 3, none⟩ = some (.int .i64 G) ∧ wq.cell? ⟨w.heap.size, 4, none⟩ = some (.bool gr) ∧ wq.cell? ⟨w.heap.size, 5, none⟩ = some (.int .i64 (sz : Int)) ∧ wq.cell? ⟨w.heap.size, 6, none⟩ = some (.int .i64 (ex : Int)) ∧ wq.cell? ⟨w.heap.size, 7, none⟩ = some (.int .i64 fam) ∧ wq.cell? ⟨w.heap.size, 8, none⟩ = some (.func (.func F) #[] #[])) ∧ (wq.cell? ⟨w.heap.size + 1, 0, none⟩ = some (.bool s) ∧ wq.cell? ⟨w.heap.size + 1, 1, none⟩ = some (.slice ao dn dc) ∧ wq.cell? ⟨w.heap.size + 1, 2, none⟩ = some (.int .i64 pw) ∧ wq.cell? ⟨w.heap.size + 1, 3, none⟩ = some (.bool x1) ∧ wq.cell? ⟨w.heap.size + 1, 4, none⟩ = some (.bool x2) ∧ wq.cell? ⟨w.heap.size + 1, 5, none⟩ = some (.bool x3))) (go_keep) (first
  | (go_at_call 113; (first | (with_reducible (refine (HWd'.out _ b0d).mono ?_)) | (with_reducible (refine (HWd'.out _ b0a).mono ?_))); rintro z wv ⟨rfl, rfl⟩))
 all_goals (
  have ba4 := below_alloc (((w.alloc (.cells #[.int .i64 2, .int .i64 D, .int .i64 L, .int .i64 G, .bool gr, .int .i64 (sz : Int), .int .i64 (ex : Int), .int .i64 fam, .func (.func F) #[] #[]] 63)).alloc (.cells #[.bool s, .slice ao dn dc, .int .i64 pw, .bool x1, .bool x2, .bool x3] 134)).alloc (.cells #[.bool false, .int .i64 0, .int .u64 0] 82)) (.cells #[.bool s, .int .i64 (e : Int), .int .u64 (f : Int)] 82)
  have ql4 := (ql0.later ba4).drew
  have qz4 := (qz0.later ba4).drew
  have qf4 := (locE_new (((w.alloc (.cells #[.int .i64 2, .int .i64 D, .int .i64 L, .int .i64 G, .bool gr, .int .i64 (sz : Int), .int .i64 (ex : Int), .int .i64 fam, .func (.func F) #[] #[]] 63)).alloc (.cells #[.bool s, .slice ao dn dc, .int .i64 pw, .bool x1, .bool x2, .bool x3] 134)).alloc (.cells #[.bool false, .int .i64 0, .int .u64 0] 82)) [.bool s, .int .i64 (e : Int), .int .u64 (f : Int)] 82).drew
  rw [World.size_alloc, World.size_alloc, World.size_alloc] at qf4
  have b4 := (below_trans b0 ba4).drew
  clear ba4 ba b0d b0a ql0a qp0a ql0d qp0d ql0 qp0 qz0 b0 cx0 cxa0 cx1 cxa1 cx2 cxa2 cx3 cxa3 cx4 cxa4 cx5 cxa5 cx6 cxa6 cx7 cxa7 cx8 cxa8 cu0 cua0 cu1 cua1 cu2 cua2 cu3 cua3 cu4 cua4 cu5 cua5
  generalize ((((w.alloc (.cells #[.int .i64 2, .int .i64 D, .int .i64 L, .int .i64 G, .bool gr, .int .i64 (sz : Int), .int .i64 (ex : Int), .int .i64 fam, .func (.func F) #[] #[]] 63)).alloc (.cells #[.bool s, .slice ao dn dc, .int .i64 pw, .bool x1, .bool x2, .bool x3] 134)).alloc (.cells #[.bool false, .int .i64 0, .int .u64 0] 82)).alloc (.cells #[.bool s, .int .i64 (e : Int), .int .u64 (f : Int)] 82)).drew = w4 at *
  have ql4d := ql4.drew
  have qf4d := qf4.drew
  have qz4d := qz4.drew
  have b4d := b4.drew
  obtain ⟨cl0, cl1, cl2, cl3, cl4, cl5, cl6, cl7, cl8⟩ := ql4d.cs9
  obtain ⟨cf0, cf1, cf2⟩ := qf4d.cs3
  go_wp2_with fail
  go_region_held3 (fun wq => (wq.cell? ⟨w.heap.size, 0, none⟩ = some (.int .i64 2) ∧ wq.cell? ⟨w.heap.size, 1, none⟩ = some (.int .i64 D) ∧ wq.cell? ⟨w.heap.size, 2, none⟩ = some (.int .i64 L) ∧ wq.cell? ⟨w.heap.size, 3, none⟩ = some (.int .i64 G) ∧ wq.cell? ⟨w.heap.size, 4, none⟩ = some (.bool gr) ∧ wq.cell? ⟨w.heap.size, 5, none⟩ = some (.int .i64 (sz : Int)) ∧ wq.cell? ⟨w.heap.size, 6, none⟩ = some (.int .i64 (ex : Int)) ∧ wq.cell? ⟨w.heap.size, 7, none⟩ = some (.int .i64 fam) ∧ wq.cell? ⟨w.heap.size, 8, none⟩ = some (.func (.func F) #[] #[])) ∧ (wq.cell? ⟨w.heap.size + 1 + 1 + 1, 0, none⟩ = some (.bool s) ∧ wq.cell? ⟨w.heap.size + 1 + 1 + 1, 1, none⟩ = some (.int .i64 (e : Int)) ∧ wq.cell? ⟨w.heap.size + 1 + 1 + 1, 2, none⟩ = some (.int .u64 (f : Int)))) (go_keep) (first
   | (go_at_call 90; refine (HL'.out _).mono ?_; rintro z w5 ⟨rfl, b5'⟩; have ql5 := ql4d.later b5'; have qf5 := qf4d.later b5'; have qz5 := qz4d.later b5'; have b5 := below_trans b4d b5'; obtain ⟨dl0, dl1, dl2, dl3, dl4, dl5, dl6, dl7, dl8⟩ := ql5.cs9; obtain ⟨df0, df1, df2⟩ := qf5.cs3))
  clear ql4 ql4d qf4 qf4d qz4 qz4d b4 b4d b5' cl0 cl1 cl2 cl3 cl4 cl5 cl6 cl7 cl8 cf0 cf1 cf2
  have bu := ((but_set w5 (w.heap.size + 1 + 1) 0 (.bool s)).trans (but_set _ (w.heap.size + 1 + 1) 1 (.int .i64 (e : Int)))).trans (but_set _ (w.heap.size + 1 + 1) 2 (.int .u64 (f : Int)))
  have cR : LocE (((w5.setCell ⟨w.heap.size + 1 + 1, 0, none⟩ (.bool s)).setCell ⟨w.heap.size + 1 + 1, 1, none⟩ (.int .i64 (e : Int))).setCell ⟨w.heap.size + 1 + 1, 2, none⟩ (.int .u64 (f : Int))) (w.heap.size + 1 + 1) 82 [.bool s, .int .i64 (e : Int), .int .u64 (f : Int)] := (((qz5.set 0 (.bool s)).set 1 (.int .i64 (e : Int))).set 2 (.int .u64 (f : Int)))
  have bR := bu.below b5 (by omega)
  have hl := run_loadVar_mid (P := Tryz.prog) _ (w.heap.size + 1 + 1) 0 82 [.bool s, .int .i64 (e : Int), .int .u64 (f : Int)] _ cR.range Tryz.underlying82 rfl (by kernel_rfl)
  have HH : Hid (_ ∧ _) := ⟨hl, bR⟩
  obtain ⟨yz0, yz1, yz2⟩ := qz5.cs3; have jz0 := qz5.free 0; have jz1 := qz5.free 1; have jz2 := qz5.free 2; obtain ⟨yf0, yf1, yf2⟩ := qf5.cs3
  clear hl bR cR bu
  go_wp2
  obtain ⟨hl, bR⟩ := HH.out
  exact bodyPost_ret (results_one Tryz.results75 rfl hl) rfl ⟨rfl, bR⟩
 )
end Go.Proofs.YtiiphandhpilgaaGreatDoor

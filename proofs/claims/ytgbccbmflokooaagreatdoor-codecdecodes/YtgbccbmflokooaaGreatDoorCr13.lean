/-
  The law of decoding.
-/
import Derived.Test.YtgbccbmflokooaaGreatDoorCr12
import Derived.Deep.Cut
namespace Go.Proofs.YtgbccbmflokooaaGreatDoor
open Go.RowKit

set_option maxRecDepth 100000 in
set_option maxHeartbeats 12800000 in
theorem decodes_ok (n : Int) (s : ByteArray) (c m : Nat) (g rg gg : Bool) (p : Int) (t : Trip) (w : World)
    (HD : ∀ w1, Calls Tryz.prog 8 #[.int .i64 n, .string s] w1 (DecRes w1 (c : Int) g m p 0))
    (HO : ∀ w1, Calls Tryz.prog 9 #[.int .i64 n, .string s] w1 fun z w' => z = .returned (.int .i64 0) ∧ Below w1.heap.size w1 w')
    (HR : ∀ w1, Calls Tryz.prog 10 #[.int .i64 n, .string s] w1 (RDec w1 (c : Int) rg t gg))
    (HT : ∀ so sc w1, Rd w1 .i64 (.slice so (Dg.dg 65536 t.n).length sc) (Dg.dg 65536 t.n) → Calls Tryz.prog 11 #[.int .i64 n, .agg #[.int .i64 (c : Int), .bool rg, .bool t.s, .slice so (Dg.dg 65536 t.n).length sc, .int .i64 t.e]] w1 (ValRes w1 (c : Int) g m p)) :
    Calls Tryz.prog 3 #[.int .i64 n, .string s] w fun z w' => z = .returned (.bool true) ∧ Below w.heap.size w w' := by
  have HD' : Hid (∀ w1, Calls Tryz.prog 8 #[.int .i64 n, .string s] w1 (DecRes w1 (c : Int) g m p 0)) := HD
  have HO' : Hid (∀ w1, Calls Tryz.prog 9 #[.int .i64 n, .string s] w1 fun z w' => z = .returned (.int .i64 0) ∧ Below w1.heap.size w1 w') := HO
  have HR' : Hid (∀ w1, Calls Tryz.prog 10 #[.int .i64 n, .string s] w1 (RDec w1 (c : Int) rg t gg)) := HR
  have HT' : Hid (∀ so sc w1, Rd w1 .i64 (.slice so (Dg.dg 65536 t.n).length sc) (Dg.dg 65536 t.n) → Calls Tryz.prog 11 #[.int .i64 n, .agg #[.int .i64 (c : Int), .bool rg, .bool t.s, .slice so (Dg.dg 65536 t.n).length sc, .int .i64 t.e]] w1 (ValRes w1 (c : Int) g m p)) := HT
  have HB' : Hid (∀ w1, Calls Tryz.prog 12 #[] w1 fun z w' => z = .returned (.bool true) ∧ Below w1.heap.size w1 w') := codecBegun_any
  clear HD HO HR HT
  go_enter Tryz.func3, Tryz.ntmps3
  go_wp2_with fail
  refine (HD'.out _).mono ?_
  rintro z w1 ⟨v1, rfl, r1, b1⟩
  obtain ⟨po, pc, hv1⟩ := r1.shape
  subst hv1
  have ba := below_alloc w1 (.cells #[.int .i64 (c : Int), .bool g, .slice po (Dg.dg 4294967296 m).length pc, .int .i64 p] 25)
  have p1 := locE_new w1 [.int .i64 (c : Int), .bool g, .slice po (Dg.dg 4294967296 m).length pc, .int .i64 p] 25
  have r1' := r1.later ba
  have b01 := below_trans b1 ba
  clear b1 ba r1
  go_wp2_with fail
  refine (HO'.out _).mono ?_
  rintro z w2 ⟨rfl, b2⟩
  have bz := below_alloc w2 (.cells #[.int .i64 0, .bool false, .slice none 0 0, .int .i64 0] 25)
  have p2 := (p1.later b2).later bz
  have z2 := locE_new w2 [.int .i64 0, .bool false, .slice none 0 0, .int .i64 0] 25
  have r2 := (r1'.later b2).later bz
  have b02 := below_trans (below_trans b01 b2) bz
  have hPZ : w1.heap.size < w2.heap.size := (p1.later b2).lt
  have hwZ : w.heap.size ≤ w2.heap.size := (below_trans b01 b2).size
  clear p1 r1' b01 b2 bz
  go_wp2_with fail
  refine (HR'.out _).mono ?_
  rintro z w3 ⟨s3, rfl, r3, b3⟩
  obtain ⟨so, sc, hs3⟩ := r3.shape
  subst hs3
  have bv := below_alloc w3 (.cells #[.int .i64 (c : Int), .bool rg, .bool t.s, .slice so (Dg.dg 65536 t.n).length sc, .int .i64 t.e] 34)
  have p3 := (p2.later b3).later bv
  have z3 := (z2.later b3).later bv
  have r3p := (r2.later b3).later bv
  have r3r := r3.later bv
  have b03 := below_trans (below_trans b02 b3) bv
  clear p2 z2 r2 b02 b3 bv r3
  go_wp2_with fail
  refine (HT'.out _ _ _ r3r).mono ?_
  rintro z w4 ⟨v4, rfl, r4, b4⟩
  obtain ⟨to, tc, hv4⟩ := r4.shape
  subst hv4
  have p4 := p3.later b4
  have z4 := z3.later b4
  have r4p := r3p.later b4
  have b04 := below_trans b03 b4
  generalize w1.heap.size = P at *
  generalize w2.heap.size = Z at *
  have hZP : Z ≠ P := by omega
  have y0 := z4.cell 0 rfl; have y1 := z4.cell 1 rfl; have y2 := z4.cell 2 rfl; have y3 := z4.cell 3 rfl; have j0 := z4.free 0; have j1 := z4.free 1; have j2 := z4.free 2; have j3 := z4.free 3
  go_upto_region 7 with fail
  have bu5 := (((but_set w4 Z 0 (.int .i64 (c : Int))).trans (but_set _ Z 1 (.bool g))).trans (but_set _ Z 2 (.slice to (Dg.dg 4294967296 m).length tc))).trans (but_set _ Z 3 (.int .i64 p))
  have z5 : LocE ((((w4.setCell ⟨Z, 0, none⟩ (.int .i64 (c : Int))).setCell ⟨Z, 1, none⟩ (.bool g)).setCell ⟨Z, 2, none⟩ (.slice to (Dg.dg 4294967296 m).length tc)).setCell ⟨Z, 3, none⟩ (.int .i64 p)) Z 25 [.int .i64 (c : Int), .bool g, .slice to (Dg.dg 4294967296 m).length tc, .int .i64 p] := ((((z4.set 0 (.int .i64 (c : Int))).set 1 (.bool g)).set 2 (.slice to (Dg.dg 4294967296 m).length tc)).set 3 (.int .i64 p))
  have p5 := ((((p4.off hZP 0 (.int .i64 (c : Int))).off hZP 1 (.bool g)).off hZP 2 (.slice to (Dg.dg 4294967296 m).length tc)).off hZP 3 (.int .i64 p))
  have r5 := bu5.rd r4 (rd_offE r4 (Dg.norm_dg _ _ (by omega)) z4 (fun x hx n hn => by simp at hx; rcases hx with rfl | rfl | rfl | rfl <;> simp))
  have r5p := bu5.rd r4p (rd_offE r4p (Dg.norm_dg _ _ (by omega)) z4 (fun x hx n hn => by simp at hx; rcases hx with rfl | rfl | rfl | rfl <;> simp))
  have b05 := bu5.below b04 hwZ
  clear bu5 z4 p4 r4 r4p b04 b4 y0 j0 y1 j1 y2 j2 y3 j3
  generalize ((((w4.setCell ⟨Z, 0, none⟩ (.int .i64 (c : Int))).setCell ⟨Z, 1, none⟩ (.bool g)).setCell ⟨Z, 2, none⟩ (.slice to (Dg.dg 4294967296 m).length tc)).setCell ⟨Z, 3, none⟩ (.int .i64 p)) = w5 at *
  go_wp2_with fail
  refine (HB'.out _).mono ?_
  rintro z w6 ⟨rfl, b6⟩
  have z6 := z5.later b6
  have p6 := p5.later b6
  have b06 := below_trans b05 b6
  have hsv := sameValue_true (c : Int) p g po to (Dg.dg 4294967296 m) pc tc w6 (r5p.later b6) (r5.later b6)
  have HS : Hid (Calls Tryz.prog 13 #[.agg #[.int .i64 (c : Int), .bool g, .slice po (Dg.dg 4294967296 m).length pc, .int .i64 p], .agg #[.int .i64 (c : Int), .bool g, .slice to (Dg.dg 4294967296 m).length tc, .int .i64 p]] w6 fun z w' => z = .returned (.bool true) ∧ Below w6.heap.size w6 w') := hsv
  clear hsv z5 p5 r5 r5p b05 b6
  have y0 := z6.cell 0 rfl; have y1 := z6.cell 1 rfl; have y2 := z6.cell 2 rfl; have y3 := z6.cell 3 rfl; have x0 := p6.cell 0 rfl; have x1 := p6.cell 1 rfl; have x2 := p6.cell 2 rfl; have x3 := p6.cell 3 rfl
  go_wp2_with fail
  refine Calls.mono HS.out ?_
  rintro z w7 ⟨rfl, b7⟩
  go_wp2
  go_ret
  exact ⟨rfl, below_trans b06 b7⟩

set_option maxRecDepth 100000 in
set_option maxHeartbeats 6400000 in
theorem decodes_err (n : Int) (s : ByteArray) (er : Int) (her : er ≠ 0) (w : World)
    (HD : ∀ w1, Calls Tryz.prog 8 #[.int .i64 n, .string s] w1 (DecRes w1 0 false 0 0 er))
    (HO : ∀ w1, Calls Tryz.prog 9 #[.int .i64 n, .string s] w1 fun z w' => z = .returned (.int .i64 er) ∧ Below w1.heap.size w1 w') :
    Calls Tryz.prog 3 #[.int .i64 n, .string s] w fun z w' => z = .returned (.bool true) ∧ Below w.heap.size w w' := by
  have HD' : Hid (∀ w1, Calls Tryz.prog 8 #[.int .i64 n, .string s] w1 (DecRes w1 0 false 0 0 er)) := HD
  have HO' : Hid (∀ w1, Calls Tryz.prog 9 #[.int .i64 n, .string s] w1 fun z w' => z = .returned (.int .i64 er) ∧ Below w1.heap.size w1 w') := HO
  have HB' : Hid (∀ w1, Calls Tryz.prog 12 #[] w1 fun z w' => z = .returned (.bool true) ∧ Below w1.heap.size w1 w') := codecBegun_any
  have he : (er == 0) = false := by simpa using her
  clear HD HO her
  go_enter Tryz.func3, Tryz.ntmps3
  go_wp2_with fail
  refine (HD'.out _).mono ?_
  rintro z w1 ⟨v1, rfl, r1, b1⟩
  rw [show Dg.dg 4294967296 0 = [] from rfl] at r1
  obtain ⟨po, pc, hv1⟩ := r1.shape
  subst hv1
  have ba := below_alloc w1 (.cells #[.int .i64 0, .bool false, .slice po ([] : List Nat).length pc, .int .i64 0] 25)
  have p1 := locE_new w1 [.int .i64 0, .bool false, .slice po ([] : List Nat).length pc, .int .i64 0] 25
  have r1' := r1.later ba
  have b01 := below_trans b1 ba
  clear b1 ba r1
  go_wp2_with fail
  refine (HO'.out _).mono ?_
  rintro z w2 ⟨rfl, b2⟩
  have bz := below_alloc w2 (.cells #[.int .i64 0, .bool false, .slice none 0 0, .int .i64 0] 25)
  have p2 := (p1.later b2).later bz
  have z2 := locE_new w2 [.int .i64 0, .bool false, .slice none 0 0, .int .i64 0] 25
  have r2 := (r1'.later b2).later bz
  have b02 := below_trans (below_trans b01 b2) bz
  clear p1 r1' b01 b2 bz
  go_wp2_with fail
  refine (HB'.out _).mono ?_
  rintro z w6 ⟨rfl, b6⟩
  have z6 := z2.later b6
  have p6 := p2.later b6
  have b06 := below_trans b02 b6
  have hsv := sameValue_true 0 0 false po none [] pc 0 w6 (r2.later b6) (rd_nil _ _)
  have HS : Hid (Calls Tryz.prog 13 #[.agg #[.int .i64 0, .bool false, .slice po ([] : List Nat).length pc, .int .i64 0], .agg #[.int .i64 0, .bool false, .slice none 0 0, .int .i64 0]] w6 fun z w' => z = .returned (.bool true) ∧ Below w6.heap.size w6 w') := hsv
  clear hsv z2 p2 r2 b02 b6
  have y0 := z6.cell 0 rfl; have y1 := z6.cell 1 rfl; have y2 := z6.cell 2 rfl; have y3 := z6.cell 3 rfl; have x0 := p6.cell 0 rfl; have x1 := p6.cell 1 rfl; have x2 := p6.cell 2 rfl; have x3 := p6.cell 3 rfl
  generalize w1.heap.size = P at *
  generalize w2.heap.size = Z at *
  go_wp2_with fail
  refine Calls.mono HS.out ?_
  rintro z w7 ⟨rfl, b7⟩
  go_wp2
  go_ret
  exact ⟨rfl, below_trans b06 b7⟩

theorem codecDecodes_walk (n : Int) (s : ByteArray) (w : World) : Calls Tryz.prog 3 #[.int .i64 n, .string s] w fun z w' => z = .returned (.bool true) ∧ Below w.heap.size w w' := by
  have HD := fun w1 => decode_any n s w1
  have HO := fun w1 => open_any n s w1
  by_cases h : patC n s = 0
  · have HR := fun w1 => decodeOf_pat n s w1 h
    have HT := fun so sc w1 hr => toValue_pat n s so sc w1 h hr
    rw [h] at HD HO
    exact decodes_ok n s _ _ _ _ _ _ _ w HD HO HR HT
  · have e1 : decC n s = 0 := by unfold decC; rw [if_neg h]
    have e2 : decG n s = false := by unfold decG; rw [if_neg h]
    have e3 : decM n s = 0 := by unfold decM; rw [if_neg h]
    have e4 : decP n s = 0 := by unfold decP; rw [if_neg h]
    rw [e1, e2, e3, e4] at HD
    exact decodes_err n s _ h w HD HO
end Go.Proofs.YtgbccbmflokooaaGreatDoor

/-
  The law that what is encoded is decoded as it was.
-/
import Derived.Deep.Cut
import Derived.Test.YtiiphandhpilgaaDoorEb38
import Derived.Test.YtiiphandhpilgaaDoorEb39
import Derived.Test.YtiiphandhpilgaaDoorEb40
import Derived.Test.YtiiphandhpilgaaDoorCo4b
namespace Go.Proofs.YtiiphandhpilgaaDoor
open Go.RowKit
set_option maxRecDepth 100000 in
set_option maxHeartbeats 12800000 in
theorem backs_W (n c : Int) (ng : Bool) (ao : Option Addr) (la ca : Nat) (p : Int) (s t t2 : ByteArray) (er er2 er3 c2 q1 q2 : Int) (m1 m2 : Nat) (g2 : Bool) (w : World)
    (HE1 : ∀ w1, Below w.heap.size w w1 → Calls Tryd.prog 5 #[.int .i64 n, .agg #[.int .i64 c, .bool ng, .slice ao la ca, .int .i64 p]] w1 fun z w' => z = .returned (.tuple #[.string t, .int .i64 er]) ∧ Below w1.heap.size w1 w')
    (HD1 : er = 0 → ∀ w1, Calls Tryd.prog 6 #[.int .i64 n, .string t] w1 (DecRes w1 c ng m1 q1 0))
    (HE2 : er = 0 → ∀ po pc w1, Below w.heap.size w w1 → Rd w1 .u32 (.slice po (Dg.dg 4294967296 m1).length pc) (Dg.dg 4294967296 m1) → Calls Tryd.prog 5 #[.int .i64 n, .agg #[.int .i64 c, .bool ng, .slice po (Dg.dg 4294967296 m1).length pc, .int .i64 q1]] w1 fun z w' => z = .returned (.tuple #[.string t, .int .i64 0]) ∧ Below w1.heap.size w1 w')
    (HZ : er = 0 → ∀ w1, Calls Tryd.prog 7 #[.int .i64 n] w1 fun z w' => z = .returned (.tuple #[.int .i64 ((t.size : Nat) : Int), .int .i64 0]) ∧ Below w1.heap.size w1 w')
    (HD2 : ∀ w1, Calls Tryd.prog 6 #[.int .i64 n, .string s] w1 (DecRes w1 c2 g2 m2 q2 er2))
    (HE3 : ∀ so sc w1, Below w.heap.size w w1 → Rd w1 .u32 (.slice so (Dg.dg 4294967296 m2).length sc) (Dg.dg 4294967296 m2) → Calls Tryd.prog 5 #[.int .i64 n, .agg #[.int .i64 c2, .bool g2, .slice so (Dg.dg 4294967296 m2).length sc, .int .i64 q2]] w1 fun z w' => z = .returned (.tuple #[.string t2, .int .i64 er3]) ∧ Below w1.heap.size w1 w')
    (HD3 : er2 = 0 → er3 = 0 → ∀ w1, Calls Tryd.prog 6 #[.int .i64 n, .string t2] w1 (DecRes w1 c2 g2 m2 q2 0)) :
    Calls Tryd.prog 3 #[.int .i64 n, .agg #[.int .i64 c, .bool ng, .slice ao la ca, .int .i64 p], .string s] w fun z w' => z = .returned (.bool true) ∧ Below w.heap.size w w' := by
  replace HE1 : Hid _ := HE1
  replace HD1 : Hid _ := HD1
  replace HE2 : Hid _ := HE2
  replace HZ : Hid _ := HZ
  replace HD2 : Hid _ := HD2
  replace HE3 : Hid _ := HE3
  replace HD3 : Hid _ := HD3
  have HG : Hid (∀ w1, Calls Tryd.prog 4 #[] w1 fun z w' => z = .returned (.bool true) ∧ Below w1.heap.size w1 w') := codecBegun_any
  have b0 := below_alloc w (.cells #[.int .i64 c, .bool ng, .slice ao la ca, .int .i64 p] 25)
  have q0 := locE_new w [.int .i64 c, .bool ng, .slice ao la ca, .int .i64 p] 25
  go_enter Tryd.func3, Tryd.ntmps3
  go_wp2_with fail
  refine (HG.out _).mono ?_
  rintro z w1 ⟨rfl, b1⟩
  have v1 := q0.later b1
  have b01 := below_trans b0 b1
  clear q0 b0 b1 HG
  have y0 := v1.cell 0 rfl; have y1 := v1.cell 1 rfl; have y2 := v1.cell 2 rfl; have y3 := v1.cell 3 rfl
  go_wp2_with fail
  refine (HE1.out _ b01).mono ?_
  rintro z w2 ⟨rfl, b2⟩
  have v2 := v1.later b2
  have b02 := below_trans b01 b2
  clear v1 b01 b2 HE1 y0 y1 y2 y3
  by_cases he : er = 0
  · have HD1' : Hid _ := HD1.out he
    have HE2' : Hid _ := HE2.out he
    have HZ' : Hid _ := HZ.out he
    subst he
    clear HD1 HE2 HZ
    go_wp2_with fail
    refine (HD1'.out _).mono ?_
    rintro z w3 ⟨vd, rfl, r3, b3⟩
    obtain ⟨po, pc, hv⟩ := r3.shape
    subst hv
    have ba := below_alloc w3 (.cells #[.int .i64 c, .bool ng, .slice po (Dg.dg 4294967296 m1).length pc, .int .i64 q1] 25)
    have d4 := locE_new w3 [.int .i64 c, .bool ng, .slice po (Dg.dg 4294967296 m1).length pc, .int .i64 q1] 25
    have v4 := (v2.later b3).later ba
    have r4 := r3.later ba
    have b04 := below_trans (below_trans b02 b3) ba
    clear v2 b02 b3 ba r3 HD1'
    go_upto_region 6 with fail
    generalize w3.alloc (.cells #[.int .i64 c, .bool ng, .slice po (Dg.dg 4294967296 m1).length pc, .int .i64 q1] 25) = w4 at d4 v4 r4 b04 ⊢
    generalize w3.heap.size = bd at d4 ⊢
    have x0 := d4.cell 0 rfl; have x1 := d4.cell 1 rfl; have x2 := d4.cell 2 rfl; have x3 := d4.cell 3 rfl
    go_wp2_with fail
    refine (HE2'.out _ _ _ b04 r4).mono ?_
    rintro z w5 ⟨rfl, b5⟩
    have d5 := d4.later b5
    have v5 := v4.later b5
    have b05 := below_trans b04 b5
    clear d4 v4 r4 b04 b5 HE2' x0 x1 x2 x3
    go_wp2_with fail
    refine (HZ'.out _).mono ?_
    rintro z w6 ⟨rfl, b6⟩
    have d6 := d5.later b6
    have v6 := v5.later b6
    have b06 := below_trans b05 b6
    clear d5 v5 b05 b6 HZ'
    have y0 := v6.cell 0 rfl; have y1 := v6.cell 1 rfl; have y2 := v6.cell 2 rfl; have y3 := v6.cell 3 rfl
    have x0 := d6.cell 0 rfl; have x1 := d6.cell 1 rfl; have x2 := d6.cell 2 rfl; have x3 := d6.cell 3 rfl
    go_wp2_with fail
    clear y0 y1 y2 y3 x0 x1 x2 x3 d6
    refine (HD2.out _).mono ?_
    rintro z w7 ⟨vs, rfl, r7, b7⟩
    obtain ⟨so, sc, hv⟩ := r7.shape
    subst hv
    have v7 := v6.later b7
    have b07 := below_trans b06 b7
    have bu := (((but_set w7 w.heap.size 0 (.int .i64 c2)).trans (but_set _ w.heap.size 1 (.bool g2))).trans (but_set _ w.heap.size 2 (.slice so (Dg.dg 4294967296 m2).length sc))).trans (but_set _ w.heap.size 3 (.int .i64 q2))
    have v8 : LocE ((((w7.setCell ⟨w.heap.size, 0, none⟩ (.int .i64 c2)).setCell ⟨w.heap.size, 1, none⟩ (.bool g2)).setCell ⟨w.heap.size, 2, none⟩ (.slice so (Dg.dg 4294967296 m2).length sc)).setCell ⟨w.heap.size, 3, none⟩ (.int .i64 q2)) w.heap.size 25 [.int .i64 c2, .bool g2, .slice so (Dg.dg 4294967296 m2).length sc, .int .i64 q2] := ((((v7.set 0 (.int .i64 c2)).set 1 (.bool g2)).set 2 (.slice so (Dg.dg 4294967296 m2).length sc)).set 3 (.int .i64 q2))
    have r8 := bu.rd r7 (rd_offU r7 v7 (by simp))
    have b08 := bu.below b07 (Nat.le_refl _)
    have y0 := v7.cell 0 rfl; have y1 := v7.cell 1 rfl; have y2 := v7.cell 2 rfl; have y3 := v7.cell 3 rfl
    have j0 := v7.free 0; have j1 := v7.free 1; have j2 := v7.free 2; have j3 := v7.free 3
    clear v6 b06 b7 HD2
    go_upto_region 11 with fail
    generalize ((((w7.setCell ⟨w.heap.size, 0, none⟩ (.int .i64 c2)).setCell ⟨w.heap.size, 1, none⟩ (.bool g2)).setCell ⟨w.heap.size, 2, none⟩ (.slice so (Dg.dg 4294967296 m2).length sc)).setCell ⟨w.heap.size, 3, none⟩ (.int .i64 q2)) = w8 at v8 r8 b08 ⊢
    clear v7 b07 bu r7 y0 y1 y2 y3 j0 j1 j2 j3
    have y0 := v8.cell 0 rfl; have y1 := v8.cell 1 rfl; have y2 := v8.cell 2 rfl; have y3 := v8.cell 3 rfl
    go_wp2_with fail
    refine (HE3.out _ _ _ b08 r8).mono ?_
    rintro z w9 ⟨rfl, b9⟩
    have v9 := v8.later b9
    have r9 := r8.later b9
    have b09 := below_trans b08 b9
    clear v8 r8 b08 b9 y0 y1 y2 y3 HE3
    by_cases h2 : er2 = 0
    · by_cases h3 : er3 = 0
      · have HD3' : Hid _ := HD3.out h2 h3
        subst h2 h3
        clear HD3
        go_wp2_with fail
        refine (HD3'.out _).mono ?_
        rintro z w10 ⟨vt, rfl, r10, b10⟩
        obtain ⟨uo, uc, hv⟩ := r10.shape
        subst hv
        have ba := below_alloc w10 (.cells #[.int .i64 c2, .bool g2, .slice uo (Dg.dg 4294967296 m2).length uc, .int .i64 q2] 25)
        have d11 := locE_new w10 [.int .i64 c2, .bool g2, .slice uo (Dg.dg 4294967296 m2).length uc, .int .i64 q2] 25
        have v11 := (v9.later b10).later ba
        have ra := (r9.later b10).later ba
        have rb := r10.later ba
        have b011 := below_trans (below_trans b09 b10) ba
        clear v9 r9 r10 b09 b10 ba HD3'
        go_upto_region 15 with fail
        generalize w10.alloc (.cells #[.int .i64 c2, .bool g2, .slice uo (Dg.dg 4294967296 m2).length uc, .int .i64 q2] 25) = w11 at d11 v11 ra rb b011 ⊢
        generalize w10.heap.size = bt at d11 ⊢
        have HS : Hid _ := sameValue_true c2 q2 g2 so uo (Dg.dg 4294967296 m2) sc uc w11 ra rb
        have y0 := v11.cell 0 rfl; have y1 := v11.cell 1 rfl; have y2 := v11.cell 2 rfl; have y3 := v11.cell 3 rfl
        have x0 := d11.cell 0 rfl; have x1 := d11.cell 1 rfl; have x2 := d11.cell 2 rfl; have x3 := d11.cell 3 rfl
        go_wp2_with fail
        refine Calls.mono HS.out ?_
        rintro z w12 ⟨rfl, b12⟩
        go_wp2
        go_ret
        exact ⟨rfl, below_trans b011 b12⟩
      · have h3a : (er3 == 0) = false := by simpa using h3
        have h3b : (er3 != 0) = true := by simpa using h3
        subst h2
        clear HD3 v9 r9
        go_wp2
        go_ret
        exact ⟨rfl, b09⟩
    · have h2a : (er2 == 0) = false := by simpa using h2
      have h2b : (er2 != 0) = true := by simpa using h2
      clear HD3 v9 r9
      go_wp2
      go_ret
      exact ⟨rfl, b09⟩
  · have he1 : (er == 0) = false := by simpa using he
    clear HD1 HE2 HZ
    go_wp2_with fail
    refine (HD2.out _).mono ?_
    rintro z w7 ⟨vs, rfl, r7, b7⟩
    obtain ⟨so, sc, hv⟩ := r7.shape
    subst hv
    have v7 := v2.later b7
    have b07 := below_trans b02 b7
    have bu := (((but_set w7 w.heap.size 0 (.int .i64 c2)).trans (but_set _ w.heap.size 1 (.bool g2))).trans (but_set _ w.heap.size 2 (.slice so (Dg.dg 4294967296 m2).length sc))).trans (but_set _ w.heap.size 3 (.int .i64 q2))
    have v8 : LocE ((((w7.setCell ⟨w.heap.size, 0, none⟩ (.int .i64 c2)).setCell ⟨w.heap.size, 1, none⟩ (.bool g2)).setCell ⟨w.heap.size, 2, none⟩ (.slice so (Dg.dg 4294967296 m2).length sc)).setCell ⟨w.heap.size, 3, none⟩ (.int .i64 q2)) w.heap.size 25 [.int .i64 c2, .bool g2, .slice so (Dg.dg 4294967296 m2).length sc, .int .i64 q2] := ((((v7.set 0 (.int .i64 c2)).set 1 (.bool g2)).set 2 (.slice so (Dg.dg 4294967296 m2).length sc)).set 3 (.int .i64 q2))
    have r8 := bu.rd r7 (rd_offU r7 v7 (by simp))
    have b08 := bu.below b07 (Nat.le_refl _)
    have y0 := v7.cell 0 rfl; have y1 := v7.cell 1 rfl; have y2 := v7.cell 2 rfl; have y3 := v7.cell 3 rfl
    have j0 := v7.free 0; have j1 := v7.free 1; have j2 := v7.free 2; have j3 := v7.free 3
    clear v2 b02 b7 HD2
    go_upto_region 11 with fail
    generalize ((((w7.setCell ⟨w.heap.size, 0, none⟩ (.int .i64 c2)).setCell ⟨w.heap.size, 1, none⟩ (.bool g2)).setCell ⟨w.heap.size, 2, none⟩ (.slice so (Dg.dg 4294967296 m2).length sc)).setCell ⟨w.heap.size, 3, none⟩ (.int .i64 q2)) = w8 at v8 r8 b08 ⊢
    clear v7 b07 bu r7 y0 y1 y2 y3 j0 j1 j2 j3
    have y0 := v8.cell 0 rfl; have y1 := v8.cell 1 rfl; have y2 := v8.cell 2 rfl; have y3 := v8.cell 3 rfl
    go_wp2_with fail
    refine (HE3.out _ _ _ b08 r8).mono ?_
    rintro z w9 ⟨rfl, b9⟩
    have v9 := v8.later b9
    have r9 := r8.later b9
    have b09 := below_trans b08 b9
    clear v8 r8 b08 b9 y0 y1 y2 y3 HE3
    by_cases h2 : er2 = 0
    · by_cases h3 : er3 = 0
      · have HD3' : Hid _ := HD3.out h2 h3
        subst h2 h3
        clear HD3
        go_wp2_with fail
        refine (HD3'.out _).mono ?_
        rintro z w10 ⟨vt, rfl, r10, b10⟩
        obtain ⟨uo, uc, hv⟩ := r10.shape
        subst hv
        have ba := below_alloc w10 (.cells #[.int .i64 c2, .bool g2, .slice uo (Dg.dg 4294967296 m2).length uc, .int .i64 q2] 25)
        have d11 := locE_new w10 [.int .i64 c2, .bool g2, .slice uo (Dg.dg 4294967296 m2).length uc, .int .i64 q2] 25
        have v11 := (v9.later b10).later ba
        have ra := (r9.later b10).later ba
        have rb := r10.later ba
        have b011 := below_trans (below_trans b09 b10) ba
        clear v9 r9 r10 b09 b10 ba HD3'
        go_upto_region 15 with fail
        generalize w10.alloc (.cells #[.int .i64 c2, .bool g2, .slice uo (Dg.dg 4294967296 m2).length uc, .int .i64 q2] 25) = w11 at d11 v11 ra rb b011 ⊢
        generalize w10.heap.size = bt at d11 ⊢
        have HS : Hid _ := sameValue_true c2 q2 g2 so uo (Dg.dg 4294967296 m2) sc uc w11 ra rb
        have y0 := v11.cell 0 rfl; have y1 := v11.cell 1 rfl; have y2 := v11.cell 2 rfl; have y3 := v11.cell 3 rfl
        have x0 := d11.cell 0 rfl; have x1 := d11.cell 1 rfl; have x2 := d11.cell 2 rfl; have x3 := d11.cell 3 rfl
        go_wp2_with fail
        refine Calls.mono HS.out ?_
        rintro z w12 ⟨rfl, b12⟩
        go_wp2
        go_ret
        exact ⟨rfl, below_trans b011 b12⟩
      · have h3a : (er3 == 0) = false := by simpa using h3
        have h3b : (er3 != 0) = true := by simpa using h3
        subst h2
        clear HD3 v9 r9
        go_wp2
        go_ret
        exact ⟨rfl, b09⟩
    · have h2a : (er2 == 0) = false := by simpa using h2
      have h2b : (er2 != 0) = true := by simpa using h2
      clear HD3 v9 r9
      go_wp2
      go_ret
      exact ⟨rfl, b09⟩

theorem size_any (k : Nat) (hk : 1 ≤ k ∧ k ≤ 8) (w : World) : Calls Tryd.prog 7 #[.int .i64 (k : Int)] w fun z w' => z = .returned (.tuple #[.int .i64 ((szN k : Nat) : Int), .int .i64 0]) ∧ Below w.heap.size w w' := by
  rcases eight hk with rfl | rfl | rfl | rfl | rfl | rfl | rfl | rfl
  · exact csz_1 w
  · exact csz_2 w
  · exact csz_3 w
  · exact csz_4 w
  · exact csz_5 w
  · exact csz_6 w
  · exact csz_7 w
  · exact csz_8 w

theorem enc_fam {n c : Int} {ng : Bool} {xs : List Nat} {p : Int} (h : encE n c ng xs p = 0) : ∃ k : Nat, n = (k : Int) ∧ 1 ≤ k ∧ k ≤ 8 := by
  by_cases hf : famC n = 0
  · unfold encE at h
    rw [if_pos (.inl hf)] at h
    omega
  · obtain ⟨h1, h2, h3⟩ := famC_in hf
    exact ⟨n.toNat, h3.symm, h1, h2⟩

theorem codecBack_walk (n c : Int) (ng : Bool) (ao : Option Addr) (ca : Nat) (xs : List Nat) (p : Int) (s : ByteArray) (w : World) (hr : Rd w .u32 (.slice ao xs.length ca) xs) (sa : Dg.Small 4294967296 xs) (hT : Tab w) :
    Calls Tryd.prog 3 #[.int .i64 n, .agg #[.int .i64 c, .bool ng, .slice ao xs.length ca, .int .i64 p], .string s] w fun z w' => z = .returned (.bool true) ∧ Below w.heap.size w w' := by
  refine backs_W n c ng ao xs.length ca p s (encS n c ng xs p) (encS n ((decC n s : Nat) : Int) (decG n s) (Dg.dg 4294967296 (decM n s)) (decP n s)) (encE n c ng xs p) (patC n s) (encE n ((decC n s : Nat) : Int) (decG n s) (Dg.dg 4294967296 (decM n s)) (decP n s)) ((decC n s : Nat) : Int) (decP n (encS n c ng xs p)) (decP n s) (decM n (encS n c ng xs p)) (decM n s) (decG n s) w
    (fun w1 b => encode_any n c ng ao ca xs p w1 (hr.later b) sa (hT.later b)) ?_ ?_ ?_ (fun w1 => decode_any n s w1) (fun so sc w1 b h => encode_any n _ _ so sc _ _ w1 h (Dg.small_dg 4294967296 _ (by omega)) (hT.later b)) ?_
  · intro h w1
    have hd := decode_any n (encS n c ng xs p) w1
    obtain ⟨k, rfl, hk⟩ := enc_fam h
    obtain ⟨e1, e2, e3, -⟩ := enc_dec hk sa h
    have hp := patC_ok hk e1
    have d1 : ((decC (k : Int) (encS (k : Int) c ng xs p) : Nat) : Int) = c := by
      unfold decC
      rw [if_pos hp, Int.toNat_natCast]
      exact e2
    have d2 : decG (k : Int) (encS (k : Int) c ng xs p) = ng := by
      unfold decG
      rw [if_pos hp, Int.toNat_natCast]
      exact e3
    rw [d1, d2, hp] at hd
    exact hd
  · intro h po pc w1 b hr1
    have he := encode_any n c ng po pc _ (decP n (encS n c ng xs p)) w1 hr1 (Dg.small_dg 4294967296 _ (by omega)) (hT.later b)
    obtain ⟨k, rfl, hk⟩ := enc_fam h
    obtain ⟨e1, -⟩ := enc_dec hk sa h
    have hp := patC_ok hk e1
    obtain ⟨a1, a2⟩ := enc_again hk sa h _ rfl
    have d1 : decM (k : Int) (encS (k : Int) c ng xs p) = valM k (fldN k (encS (k : Int) c ng xs p)) (fldE k (encS (k : Int) c ng xs p)) (fldF k (encS (k : Int) c ng xs p)) := by
      unfold decM
      rw [if_pos hp, Int.toNat_natCast]
    have d2 : decP (k : Int) (encS (k : Int) c ng xs p) = valP k (fldN k (encS (k : Int) c ng xs p)) (fldE k (encS (k : Int) c ng xs p)) (fldF k (encS (k : Int) c ng xs p)) := by
      unfold decP
      rw [if_pos hp, Int.toNat_natCast]
    rw [← d1, ← d2] at a1 a2
    rw [a1, a2] at he
    exact he
  · intro h w1
    obtain ⟨k, rfl, hk⟩ := enc_fam h
    obtain ⟨e1, -⟩ := enc_dec hk sa h
    rw [e1]
    exact size_any k hk w1
  · intro h2 h3 w1
    obtain ⟨k, rfl, hk⟩ := enc_fam h3
    have hd := decode_any (k : Int) (encS (k : Int) ((decC (k : Int) s : Nat) : Int) (decG (k : Int) s) (Dg.dg 4294967296 (decM (k : Int) s)) (decP (k : Int) s)) w1
    have d1 : decC (k : Int) s = clsN k (fldN k s) (fldE k s) (fldF k s) := by
      unfold decC
      rw [if_pos h2, Int.toNat_natCast]
    have d2 : decG (k : Int) s = valG k (fldN k s) (fldE k s) (fldF k s) := by
      unfold decG
      rw [if_pos h2, Int.toNat_natCast]
    have d3 : decM (k : Int) s = valM k (fldN k s) (fldE k s) (fldF k s) := by
      unfold decM
      rw [if_pos h2, Int.toNat_natCast]
    have d4 : decP (k : Int) s = valP k (fldN k s) (fldE k s) (fldF k s) := by
      unfold decP
      rw [if_pos h2, Int.toNat_natCast]
    rw [d1, d2, d3, d4] at h3 hd ⊢
    obtain ⟨e1, e2, e3, e4, e5⟩ := dec_again hk h3 rfl
    generalize encS (k : Int) ((clsN k (fldN k s) (fldE k s) (fldF k s) : Nat) : Int) (valG k (fldN k s) (fldE k s) (fldF k s)) (Dg.dg 4294967296 (valM k (fldN k s) (fldE k s) (fldF k s))) (valP k (fldN k s) (fldE k s) (fldF k s)) = t at *
    have hp := patC_ok hk e1
    have u1 : decC (k : Int) t = clsN k (fldN k t) (fldE k t) (fldF k t) := by
      unfold decC
      rw [if_pos hp, Int.toNat_natCast]
    have u2 : decG (k : Int) t = valG k (fldN k t) (fldE k t) (fldF k t) := by
      unfold decG
      rw [if_pos hp, Int.toNat_natCast]
    have u3 : decM (k : Int) t = valM k (fldN k t) (fldE k t) (fldF k t) := by
      unfold decM
      rw [if_pos hp, Int.toNat_natCast]
    have u4 : decP (k : Int) t = valP k (fldN k t) (fldE k t) (fldF k t) := by
      unfold decP
      rw [if_pos hp, Int.toNat_natCast]
    rw [u1, u2, u3, u4, e2, e3, e4, e5, hp] at hd
    exact hd
end Go.Proofs.YtiiphandhpilgaaDoor

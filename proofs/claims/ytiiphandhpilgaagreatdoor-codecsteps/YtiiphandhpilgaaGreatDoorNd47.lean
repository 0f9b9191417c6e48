/-
  Texts laid together: Ar7, Ar8, Sx1.
-/
import Derived.Test.YtiiphandhpilgaaGreatDoorNd46
set_option maxRecDepth 100000
namespace Go.Proofs.YtiiphandhpilgaaGreatDoor
open Go.RowKit
set_option maxHeartbeats 6400000 in
theorem acompare_W (n R D L G fam r : Int) (gr : Bool) (a b : ByteArray) (X : Value) (w : World) (H1 : errL n [a, b] ≠ 0 → errL n [a, b] = 1)
  (X0 : errL n [a, b] ≠ 0 → X = .tuple #[.int .i64 0, .bool false, .int .i64 (errL n [a, b])]) (X1 : errL n [a, b] = 0 → (noNum n a || noNum n b) = true → X = .tuple #[.int .i64 0, .bool false, .int .i64 0])
  (X2 : errL n [a, b] = 0 → (noNum n a || noNum n b) = false → X = .tuple #[.int .i64 r, .bool true, .int .i64 0])
  (HD : ∀ w1, Calls Tryz.prog 49 #[.int .i64 n] w1 fun z w' => z = .returned (.tuple #[.agg #[.int .i64 n, .int .i64 0, .int .i64 fam, .int .i64 R, .int .i64 D, .int .i64 L, .int .i64 G, .bool gr], .int .i64 0]) ∧ Below w1.heap.size w1 w')
  (HO : ∀ pb w1, Below w.heap.size w w1 → LocE w1 pb 9 [.string a, .string b] → Calls Tryz.prog 50 #[.agg #[.int .i64 n, .int .i64 0, .int .i64 fam, .int .i64 R, .int .i64 D, .int .i64 L, .int .i64 G, .bool gr], .slice (some ⟨pb, 0, none⟩) 2 2] w1 (OpsRes w1 n [a, b]))
  (HC : (noNum n a || noNum n b) = false → ∀ xo xc yo yc w1, Rd w1 .u32 (.slice xo (Dg.dg 4294967296 (opT n a).n).length xc) (Dg.dg 4294967296 (opT n a).n) → Rd w1 .u32 (.slice yo (Dg.dg 4294967296 (opT n b).n).length yc) (Dg.dg 4294967296 (opT n b).n) → Calls Tryz.prog 52 #[.agg #[.int .i64 ((decC n a : Nat) : Int), .bool (decG n a), .bool (opT n a).s, .slice xo (Dg.dg 4294967296 (opT n a).n).length xc, .int .i64 (opT n a).e], .agg #[.int .i64 ((decC n b : Nat) : Int), .bool (decG n b), .bool (opT n b).s, .slice yo (Dg.dg 4294967296 (opT n b).n).length yc, .int .i64 (opT n b).e]] w1 fun z w' => z = .returned (.int .i64 r) ∧ Below w1.heap.size w1 w') :
  Calls Tryz.prog 18 #[.int .i64 n, .string a, .string b] w fun z w' => z = .returned X ∧ Below w.heap.size w w' := by
 replace HD : Hid _ := HD
 replace HO : Hid _ := HO
 replace HC : Hid _ := HC
 obtain ⟨er, hE⟩ : ∃ x, errL n [a, b] = x := ⟨_, rfl⟩
 rw [hE] at X0 X1 X2 H1
 replace H1 : Hid _ := H1
 have HE : Hid (errL n [a, b] = er) := hE
 clear hE
 replace X0 : Hid _ := X0
 replace X1 : Hid _ := X1
 replace X2 : Hid _ := X2
 go_enter Tryz.func18, Tryz.ntmps18
 go_wp2_with fail
 refine (HD.out _).mono ?_
 rintro z w1 ⟨rfl, b1⟩
 have bl := below_alloc w1 (.cells #[.int .i64 n, .int .i64 0, .int .i64 fam, .int .i64 R, .int .i64 D, .int .i64 L, .int .i64 G, .bool gr] 100)
 have d1 := locE_new w1 [.int .i64 n, .int .i64 0, .int .i64 fam, .int .i64 R, .int .i64 D, .int .i64 L, .int .i64 G, .bool gr] 100
 have b01 := below_trans b1 bl
 clear b1 bl HD
 go_upto_region 4 with fail
 generalize w1.alloc (.cells #[.int .i64 n, .int .i64 0, .int .i64 fam, .int .i64 R, .int .i64 D, .int .i64 L, .int .i64 G, .bool gr] 100) = W1 at d1 b01 ⊢
 generalize w1.heap.size = PD at d1 ⊢
 have x0 := d1.cell 0 rfl; have x1 := d1.cell 1 rfl; have x2 := d1.cell 2 rfl; have x3 := d1.cell 3 rfl; have x4 := d1.cell 4 rfl; have x5 := d1.cell 5 rfl; have x6 := d1.cell 6 rfl; have x7 := d1.cell 7 rfl
 have al := below_alloc W1 (.cells #[.string a, .string b] 9)
 have sl := locE_new W1 [.string a, .string b] 9
 have b02 := below_trans b01 al
 clear d1 b01 al
 go_wp2_with fail
 refine (HO.out _ _ b02 sl).mono ?_
 rintro z w2 hz
 clear HO sl x0 x1 x2 x3 x4 x5 x6 x7
 rcases hz with ⟨h0, v, cs, rfl, hown, hat, b2⟩ | ⟨h0, rfl, b2⟩
 ·obtain ⟨g, cap, hv, hV⟩ := opsV_of (by simp) hown hat
  subst hv
  have b03 := below_trans b02 b2
  rw [HE.out] at h0
  replace X1 : Hid _ := X1.out h0
  replace X2 : Hid _ := X2.out h0
  clear X0
  have HNN : Hid (∀ w1, OpsV w1 n [a, b] g cap → Calls Tryz.prog 51 #[.slice (some ⟨g, 0, none⟩) 2 cap] w1 fun z w' => z = .returned (.bool ([a, b].any (noNum n))) ∧ Below w1.heap.size w1 w') := fun w1 h => noNumbers_W n [a, b] g cap w1 h (by simp)
  rw [show [a, b].any (noNum n) = (noNum n a || noNum n b) from by simp] at HNN
  simp only [List.length_cons, List.length_nil, Nat.zero_add, Nat.reduceAdd] at hown ⊢
  clear b02 b2 hown hat h0
  obtain ⟨nn, hn⟩ : ∃ x, (noNum n a || noNum n b) = x := ⟨_, rfl⟩
  rw [hn] at HNN HC X1 X2
  clear hn
  go_wp2_with fail
  refine (HNN.out _ hV).mono ?_
  rintro z w4 ⟨rfl, b4⟩
  have hV4 := hV.later b4
  have b04 := below_trans b03 b4
  clear hV b03 b4 HNN
  cases nn
  ·replace HC : Hid _ := HC.out rfl
   obtain ⟨xo, xc, rx, kx⟩ := hV4.each 0 a rfl
   obtain ⟨yo, yc, ry, ky⟩ := hV4.each 1 b rfl
   unfold opC at rx ry
   have hX := X2.out rfl
   subst hX
   clear X1 X2
   go_upto_region 7 with fail
   have bW : Below w4.heap.size w4 w4.drew := (Below.refl _ _).drew
   have rxd := range_later rx bW
   have ryd := range_later ry bW
   have kxd := kx.later bW
   have kyd := ky.later bW
   have b05 := below_trans b04 bW
   clear bW
   refine wp_region_held_drew (S := fun wq => wq.rangeAt g (0 * 5) [.int .i64 ((decC n a : Nat) : Int), .bool (decG n a), .bool (opT n a).s, .slice xo (Dg.dg 4294967296 (opT n a).n).length xc, .int .i64 (opT n a).e] ∧ wq.rangeAt g (1 * 5) [.int .i64 ((decC n b : Nat) : Int), .bool (decG n b), .bool (opT n b).s, .slice yo (Dg.dg 4294967296 (opT n b).n).length yc, .int .i64 (opT n b).e]) (by kernel_rfl) ⟨rxd, ryd⟩ (fun hS0 => ?_)
   refine wpAnyH_take (i := 0) (v := .slice (some ⟨g, 0, none⟩) 2 cap) rfl (by kernel_rfl) (by kernel_rfl) (by kernel_rfl) (fun _ _ _ h => h) (Or.inl ⟨by kernel_rfl, fun w0 _ => by kernel_rfl⟩) hS0 ?_
   refine wpAnyH_take (i := 1) (v := .pointer (some ⟨g, 0, none⟩)) rfl (by kernel_rfl) (by kernel_rfl) (by kernel_rfl) (fun _ _ _ h => h) (Or.inl ⟨by kernel_rfl, fun w0 _ => by kernel_rfl⟩) hS0 ?_
   refine wpAnyH_take (i := 2) (v := .agg #[.int .i64 ((decC n a : Nat) : Int), .bool (decG n a), .bool (opT n a).s, .slice xo (Dg.dg 4294967296 (opT n a).n).length xc, .int .i64 (opT n a).e]) rfl (by kernel_rfl) (by kernel_rfl) (by kernel_rfl) (fun _ _ _ h => h) (Or.inl ⟨by kernel_rfl, fun w0 hw0 => xrow 110 (.tmp 36) rfl g 0 (by kernel_rfl) _ _ hw0.1 Tryz.underlying110 rfl (by kernel_rfl)⟩) hS0 ?_
   refine wpAnyH_take (i := 3) (v := .slice (some ⟨g, 0, none⟩) 2 cap) rfl (by kernel_rfl) (by kernel_rfl) (by kernel_rfl) (fun _ _ _ h => h) (Or.inl ⟨by kernel_rfl, fun w0 _ => by kernel_rfl⟩) hS0 ?_
   refine wpAnyH_take (i := 4) (v := .pointer (some ⟨g, 5, none⟩)) rfl (by kernel_rfl) (by kernel_rfl) (by kernel_rfl) (fun _ _ _ h => h) (Or.inl ⟨by kernel_rfl, fun w0 _ => by kernel_rfl⟩) hS0 ?_
   refine wpAnyH_take (i := 5) (v := .agg #[.int .i64 ((decC n b : Nat) : Int), .bool (decG n b), .bool (opT n b).s, .slice yo (Dg.dg 4294967296 (opT n b).n).length yc, .int .i64 (opT n b).e]) rfl (by kernel_rfl) (by kernel_rfl) (by kernel_rfl) (fun _ _ _ h => h) (Or.inl ⟨by kernel_rfl, fun w0 hw0 => xrow 110 (.tmp 39) rfl g 5 (by kernel_rfl) _ _ hw0.2 Tryz.underlying110 rfl (by kernel_rfl)⟩) hS0 ?_
   refine wpAnyH_ready (rs := [6]) (by kernel_rfl) (by simp) ?_
   refine AllReadyH.cons rfl (fun K hK => ?_) AllReadyH.nil
   go_simp
   refine (HC.out _ _ _ _ _ kxd kyd).mono ?_
   rintro z w6 ⟨rfl, b6⟩
   refine hK.out _ _ ⟨range_later rxd b6, range_later ryd b6⟩ (fun hS6 => ?_)
   have b06 := below_trans b05 b6
   clear hK K
   refine wpAnyH_take (i := 7) (v := .int .i64 r) rfl (by kernel_rfl) (by kernel_rfl) (by kernel_rfl) (fun _ _ _ h => h) (Or.inl ⟨by kernel_rfl, fun w0 _ => by go_simp⟩) hS6 ?_
   refine wpAnyH_take (i := 8) (v := .bool true) rfl (by kernel_rfl) (by kernel_rfl) (by kernel_rfl) (fun _ _ _ h => h) (Or.inl ⟨by kernel_rfl, fun w0 _ => by go_simp⟩) hS6 ?_
   refine wpAnyH_take (i := 9) (v := .int .i64 0) rfl (by kernel_rfl) (by kernel_rfl) (by kernel_rfl) (fun _ _ _ h => h) (Or.inl ⟨by kernel_rfl, fun w0 _ => by go_simp⟩) hS6 ?_
   simp only [Act.put, List.getElem_toArray, List.getElem_cons_succ, List.getElem_cons_zero, List.setIfInBounds_toArray, List.set_cons_zero, List.set_cons_succ]
   refine wpAnyH_done (by kernel_rfl) ?_ _
   go_wp2
   go_ret3
   exact ⟨rfl, b06⟩
  ·have hX := X1.out rfl
   subst hX
   clear HC X1 X2
   go_wp2
   go_ret3
   exact ⟨rfl, b04⟩
 ·have b03 := below_trans b02 b2
  rw [HE.out] at h0 ⊢
  have hX := X0.out h0
  have h1 := H1.out h0
  clear X0 X1 X2 h0 HC HE H1
  subst h1
  subst hX
  go_wp2
  go_ret3
  exact ⟨rfl, b03⟩
end Go.Proofs.YtiiphandhpilgaaGreatDoor
namespace Go.Proofs.YtiiphandhpilgaaGreatDoor
open Go.RowKit
theorem cgrid_flat (k : Nat) (hk : 1 ≤ k ∧ k ≤ 8) (w : World) : Calls Tryz.prog 77 #[.int .i64 (k : Int)] w fun z w' => z = .returned (.tuple #[.agg #[.int .i64 (rdN k : Int), .int .i64 (dgN k : Int), .int .i64 (lsI k), .int .i64 (gsI k), .bool (decide (k ≤ 3))], .int .i64 0]) ∧ Below w.heap.size w w' := by
 rcases eight hk with rfl | rfl | rfl | rfl | rfl | rfl | rfl | rfl
 ·exact cgrid_1 w
 ·exact cgrid_2 w
 ·exact cgrid_3 w
 ·exact cgrid_4 w
 ·exact cgrid_5 w
 ·exact cgrid_6 w
 ·exact cgrid_7 w
 ·exact cgrid_8 w
theorem refT_other {k : Nat} (hk : 1 ≤ k ∧ k ≤ 8) {ng : Bool} {E F : Nat} (hc : clsN k ng E F ≠ 2) : refT k ng E F = ⟨false, 0, 0⟩ := by
 by_cases h1 : clsN k ng E F = 1
 ·exact refT_zero hk h1
 have h2 : 2 ^ exN k = onesN k + 1 := by
  rcases eight hk with rfl | rfl | rfl | rfl | rfl | rfl | rfl | rfl <;> decide
 have h63 : k = 3 → 2 ^ (dgN k - 1) = 2 ^ 63 := fun h => by subst h; rfl
 unfold clsN at hc h1
 unfold refT
 by_cases h3 : k ≤ 3
 ·rw [if_pos h3] at hc h1
  by_cases he : E = 0
  ·rw [if_pos he] at hc h1
   by_cases hf : F = 0
   ·rw [if_pos hf] at h1
    exact absurd rfl h1
   ·rw [if_neg hf] at hc
    exact absurd rfl hc
  ·rw [if_neg he] at hc
   by_cases ho : E = onesN k
   ·by_cases h4 : k = 3
    ·rw [if_pos h4, if_pos (.inl (by omega))]
    ·rw [if_neg h4, if_pos (by omega), if_pos (by omega)]
   ·rw [if_neg ho] at hc
    by_cases h4 : k = 3 ∧ F < 2 ^ 63
    ·rw [if_pos h4.1, if_pos (.inr ⟨by omega, by rw [h63 h4.1]; exact h4.2⟩)]
    ·rw [if_neg h4] at hc
     exact absurd rfl hc
 ·rw [if_neg h3] at hc h1
  rw [if_neg (show ¬ k = 3 by omega), if_neg (show ¬ k ≤ 2 by omega)]
  by_cases h5 : k ≤ 5
  ·rw [if_pos h5] at hc h1
   by_cases hf : F = 0
   ·rw [if_pos hf] at h1
    exact absurd rfl h1
   ·rw [if_neg hf] at hc
    exact absurd rfl hc
  ·rw [if_neg h5] at hc ⊢
   by_cases he : E = 0
   ·rw [if_pos he]
   ·rw [if_neg he] at hc
    exact absurd rfl hc
theorem opnum_is {k : Nat} (hk : 1 ≤ k ∧ k ≤ 8) (s : ByteArray) :
  dbothR (placeC (Dg.dg 4294967296 (valM k (fldN k s) (fldE k s) (fldF k s))) (valP k (fldN k s) (fldE k s) (fldF k s)) (rdN k : Int) (dgN k : Int) (lsI k) (gsI k)) ⟨valG k (fldN k s) (fldE k s) (fldF k s), Dg.vl 4294967296 (Dg.dg 4294967296 (valM k (fldN k s) (fldE k s) (fldF k s))), (widthN (rdN k : Int) : Int) * valP k (fldN k s) (fldE k s) (fldF k s)⟩ = (nxT k s, 0) := by
 by_cases hc : clsN k (fldN k s) (fldE k s) (fldF k s) = 2
 ·exact num_is hk s (.inr hc)
 ·have hgr := (fmt_fit hk).2.2.2.2.2.2.2.2.2.2.2
  have hM : valM k (fldN k s) (fldE k s) (fldF k s) = 0 := if_neg hc
  have hP : valP k (fldN k s) (fldE k s) (fldF k s) = 0 := if_neg hc
  have hnil : Dg.dg 4294967296 0 = [] := (Dg.dg_nil_iff _ _ (by omega)).2 rfl
  rw [hM, hP, hnil, placeC_fine (by decide) hgr (by decide)]
  unfold nxT
  rw [refT_other hk hc]
  exact shortT_nil _ _
theorem wread_any (n : Int) (s : ByteArray) (w : World) (hT : Tab w) : Calls Tryz.prog 78 #[.int .i64 n, .string s] w (WRes w ((decC n s : Nat) : Int) (decG n s) (decM n s) (decP n s) (opT n s) (patC n s)) := by
 have HD := fun w1 => decode_any n s w1
 by_cases hp : patC n s = 0
 ·have hf : famC n ≠ 0 := fun hf => by
   unfold patC at hp
   rw [if_pos hf] at hp
   omega
  obtain ⟨k1, k2, k3⟩ := famC_in hf
  obtain ⟨k, rfl⟩ : ∃ k : Nat, n = (k : Int) := ⟨n.toNat, k3.symm⟩
  rw [Int.toNat_natCast] at k1 k2
  have hk : 1 ≤ k ∧ k ≤ 8 := ⟨k1, k2⟩
  have hG : decG (k : Int) s = valG k (fldN k s) (fldE k s) (fldF k s) := by
   unfold decG
   rw [if_pos hp, Int.toNat_natCast]
  have hM : decM (k : Int) s = valM k (fldN k s) (fldE k s) (fldF k s) := by
   unfold decM
   rw [if_pos hp, Int.toNat_natCast]
  have hP : decP (k : Int) s = valP k (fldN k s) (fldE k s) (fldF k s) := by
   unfold decP
   rw [if_pos hp, Int.toNat_natCast]
  have hO : opT (k : Int) s = nxT k s := by
   unfold opT
   rw [if_pos hp, Int.toNat_natCast]
  rw [hp] at HD ⊢
  rw [hO]
  refine wread_W (k : Int) _ _ _ _ _ _ _ _ _ (nxT k s) s w (fun w1 => cgrid_flat k hk w1) HD (fun vo vc w1 b r => ?_)
  have hn := opnum_is hk s
  have hN := fun w2 (b2 : Below w1.heap.size w1 w2) => gNumber_any (rdN k : Int) (dgN k : Int) (lsI k) (gsI k) (decide (k ≤ 3)) (decG (k : Int) s) vo vc _ (decP (k : Int) s) false false false w2 (r.later b2) (Dg.small_dg 4294967296 _ (by omega)) (hT.later (below_trans b b2))
  rw [hG, hM, hP] at hN ⊢
  rw [hn] at hN
  exact wnumber_W _ _ _ _ _ _ 0 _ _ vo _ vc (nxT k s) w1 hN
 ·have hC : decC n s = 0 := if_neg hp
  have hG : decG n s = false := if_neg hp
  have hM : decM n s = 0 := if_neg hp
  have hP : decP n s = 0 := if_neg hp
  have hO : opT n s = ⟨false, 0, 0⟩ := if_neg hp
  rw [hC, hG, hM, hP, hO]
  by_cases hf : famC n = 0
  ·have h6 : patC n s = 6 := by
    unfold patC
    rw [if_pos hf]
   rw [h6]
   exact wrd1 n 6 (by decide) s w (fun w1 => cgrid_none n w1 hf)
  ·obtain ⟨k1, k2, k3⟩ := famC_in hf
   obtain ⟨k, rfl⟩ : ∃ k : Nat, n = (k : Int) := ⟨n.toNat, k3.symm⟩
   rw [Int.toNat_natCast] at k1 k2
   exact wrd2 (k : Int) _ hp _ _ _ _ _ _ _ _ _ s w (fun w1 => cgrid_flat k ⟨k1, k2⟩ w1) HD
theorem deskOf_any (k : Nat) (hk : 1 ≤ k ∧ k ≤ 8) (w : World) : Calls Tryz.prog 49 #[.int .i64 (k : Int)] w fun z w' => z = .returned (.tuple #[.agg #[.int .i64 (k : Int), .int .i64 0, .int .i64 (famC (k : Int)), .int .i64 (rdN k : Int), .int .i64 (dgN k : Int), .int .i64 (lsI k), .int .i64 (gsI k), .bool (decide (k ≤ 3))], .int .i64 0]) ∧ Below w.heap.size w w' :=
 deskOf_W (k : Int) _ _ _ _ _ _ w (fun w1 => cgrid_flat k hk w1) (fun w1 => family_any (k : Int) w1)
theorem acompare_num (k : Nat) (hk : 1 ≤ k ∧ k ≤ 8) (a b : ByteArray) (w : World) (hT : Tab w) (ha : patC (k : Int) a = 0) (hb : patC (k : Int) b = 0) (ca : decC (k : Int) a = 1 ∨ decC (k : Int) a = 2) (cb : decC (k : Int) b = 1 ∨ decC (k : Int) b = 2)
  (da : dchk (Dg.dg 4294967296 (opT (k : Int) a).n) (opT (k : Int) a).e = 0) (db : dchk (Dg.dg 4294967296 (opT (k : Int) b).n) (opT (k : Int) b).e = 0) :
  Calls Tryz.prog 18 #[.int .i64 (k : Int), .string a, .string b] w fun z w' => z = .returned (.tuple #[.int .i64 (signT (plusT (opT (k : Int) a) (negT (opT (k : Int) b)))), .bool true, .int .i64 0]) ∧ Below w.heap.size w w' := by
 have hE : errL (k : Int) [a, b] = 0 := by
  unfold errL errL errL
  rw [if_pos ha, if_pos hb]
 have hN : (noNum (k : Int) a || noNum (k : Int) b) = false := by
  unfold noNum
  rw [decide_eq_false (by omega), decide_eq_false (by omega)]
  rfl
 obtain ⟨a1, a2, a3⟩ := dchk_zero da
 obtain ⟨b1, b2, b3⟩ := dchk_zero db
 have la := (chk_zero a1).2
 have lb := (chk_zero b1).2
 exact acompare_W (k : Int) _ _ _ _ _ _ _ a b _ w (fun h => absurd hE h) (fun h => absurd hE h) (fun _ h => by rw [hN] at h; cases h) (fun _ _ => rfl) (fun w2 => deskOf_any k hk w2)
  (fun pb w2 b2' hl => operands_W (k : Int) 0 _ _ _ _ _ _ [a, b] pb w2 hl (by simp) (fun p w3 b3' => wread_any (k : Int) p w3 (hT.later (below_trans b2' b3'))))
  (fun _ xo xc yo yc w2 rx ry => compareN_W _ _ _ _ _ _ _ _ _ _ _ _ _ _ _ w2 (by rcases ca with h | h <;> rw [h] <;> rfl) (by rcases cb with h | h <;> rw [h] <;> rfl)
   (fun w3 b3' => dcompareL_any _ _ (opT (k : Int) a) (opT (k : Int) b) w3 ⟨_, rfl, rx.later b3'⟩ ⟨_, rfl, ry.later b3'⟩ (by omega) (by omega) (by omega) (by omega) (by omega) (by omega)))
end Go.Proofs.YtiiphandhpilgaaGreatDoor
namespace Go.Proofs.YtiiphandhpilgaaGreatDoor
open Go.RowKit
theorem sign_bare (A B : Trip) : signT (plusT (bare A) (negT (bare B))) = signT (plusT A (negT B)) := by
 rw [← sign_ref (bare A) (bare B), ← sign_ref A B, bare_bare, bare_bare]
theorem less_sign {A B : Trip} {K : Nat} (ha : -(K : Int) ≤ A.e) (hb : -(K : Int) ≤ B.e) (h : V K A < V K B) : signT (plusT A (negT B)) = -1 := by
 have e := sgn_V K (plusT A (negT B))
 rw [V_plus ha (by exact hb), V_neg] at e
 unfold signT
 rw [← e]
 unfold sgn
 rw [if_neg (by omega), if_pos (by omega)]
theorem near_step {R D L G : Int} {gr : Bool} (s : Bool) {d k : Nat} {p q : Int} (hg : gridC R D L G = 0) (h0 : d ≠ 0) (hp : L ≤ p) (hG : p ≤ G) (hd : d < 2 ^ (widthN R * D.toNat)) (hf : 2 ^ (widthN R * (D - 1).toNat) ≤ d ∨ (gr = true ∧ p = L)) (hk : nearD R D L gr d p = k) (hq : nearK R D L d p = q) :
  stepR R D L G gr (bare ⟨s, d, (widthN R : Int) * p⟩).s s (Dg.dg 4294967296 (bare ⟨s, d, (widthN R : Int) * p⟩).n) (bare ⟨s, d, (widthN R : Int) * p⟩).e = (bare ⟨s, k, (widthN R : Int) * q⟩, 0) := by
 obtain ⟨-, d1, -, -, -, -, -, lg, -⟩ := gridC_zero hg
 have hi : InSpot R D L G gr d p := .inr ⟨h0, hp, hG, hd, hf⟩
 obtain ⟨f1, f2⟩ := found_bare (s := s) d1 h0 hp hG hd hf
 obtain ⟨n1, n2⟩ := prev_spot d1 hp hG hd hf
 have hbs : (bare ⟨s, d, (widthN R : Int) * p⟩).s = s := by
  unfold bare
  rw [if_neg h0]
 have hbn : (bare ⟨s, d, (widthN R : Int) * p⟩).n ≠ 0 := (bare_top (t := ⟨s, d, (widthN R : Int) * p⟩) h0).1
 have hl : (Dg.dg 4294967296 (bare ⟨s, d, (widthN R : Int) * p⟩).n).length ≠ 0 := fun c => hbn (dg_len_zero.1 c)
 have hN : stepN (bare ⟨s, d, (widthN R : Int) * p⟩).s s (Dg.dg 4294967296 (bare ⟨s, d, (widthN R : Int) * p⟩).n).length = s := (if_neg hl).trans hbs
 have hD : stepD R D L G gr (bare ⟨s, d, (widthN R : Int) * p⟩).s s (Dg.dg 4294967296 (bare ⟨s, d, (widthN R : Int) * p⟩).n).length (bare ⟨s, d, (widthN R : Int) * p⟩).n (bare ⟨s, d, (widthN R : Int) * p⟩).e = k := by
  unfold stepD
  rw [if_pos hN, f1, f2]
  exact hk
 have hK : stepK R D L G gr (bare ⟨s, d, (widthN R : Int) * p⟩).s s (Dg.dg 4294967296 (bare ⟨s, d, (widthN R : Int) * p⟩).n).length (bare ⟨s, d, (widthN R : Int) * p⟩).n (bare ⟨s, d, (widthN R : Int) * p⟩).e = q := by
  unfold stepK
  rw [if_pos hN, f1, f2]
  exact hq
 rw [stepR_at hg (spot_dchk hg hi) (spot_held hg hi) hD hK (by omega), hN]
 rw [hk, hq] at n2
 rcases n2 with hz | hz
 ·subst hz
  rw [shortT_nil]
  simp [bare]
 ·exact spot_shortT s hg hz
theorem far_step {R D L G : Int} {gr : Bool} (s : Bool) {d : Nat} {p : Int} (hg : gridC R D L G = 0) (h0 : d ≠ 0) (hp : L ≤ p) (hG : carP R D (d + 1) p ≤ G) (hd : d < 2 ^ (widthN R * D.toNat)) (hf : 2 ^ (widthN R * (D - 1).toNat) ≤ d ∨ (gr = true ∧ p = L)) :
  stepR R D L G gr (bare ⟨s, d, (widthN R : Int) * p⟩).s (!s) (Dg.dg 4294967296 (bare ⟨s, d, (widthN R : Int) * p⟩).n) (bare ⟨s, d, (widthN R : Int) * p⟩).e = (bare ⟨s, carD R D (d + 1), (widthN R : Int) * carP R D (d + 1) p⟩, 0) := by
 obtain ⟨-, d1, -, -, -, -, -, lg, -⟩ := gridC_zero hg
 have hge := carP_ge R D (d + 1) p
 have hi : InSpot R D L G gr d p := .inr ⟨h0, hp, by omega, hd, hf⟩
 obtain ⟨f1, f2⟩ := found_bare (s := s) d1 h0 hp (show p ≤ G by omega) hd hf
 obtain ⟨n1, n2⟩ := far_next (R := R) (D := D) (L := L) (gr := gr) (d := d) (p := p) (.inl h0)
 have hbs : (bare ⟨s, d, (widthN R : Int) * p⟩).s = s := by
  unfold bare
  rw [if_neg h0]
 have hbn : (bare ⟨s, d, (widthN R : Int) * p⟩).n ≠ 0 := (bare_top (t := ⟨s, d, (widthN R : Int) * p⟩) h0).1
 have hl : (Dg.dg 4294967296 (bare ⟨s, d, (widthN R : Int) * p⟩).n).length ≠ 0 := fun c => hbn (dg_len_zero.1 c)
 have hN : stepN (bare ⟨s, d, (widthN R : Int) * p⟩).s (!s) (Dg.dg 4294967296 (bare ⟨s, d, (widthN R : Int) * p⟩).n).length = s := (if_neg hl).trans hbs
 have hNu : ¬ stepN (bare ⟨s, d, (widthN R : Int) * p⟩).s (!s) (Dg.dg 4294967296 (bare ⟨s, d, (widthN R : Int) * p⟩).n).length = (!s) := by
  rw [hN]
  cases s <;> decide
 have hD : stepD R D L G gr (bare ⟨s, d, (widthN R : Int) * p⟩).s (!s) (Dg.dg 4294967296 (bare ⟨s, d, (widthN R : Int) * p⟩).n).length (bare ⟨s, d, (widthN R : Int) * p⟩).n (bare ⟨s, d, (widthN R : Int) * p⟩).e = carD R D (d + 1) := by
  unfold stepD
  rw [if_neg hNu, f1]
  exact n1
 have hK : stepK R D L G gr (bare ⟨s, d, (widthN R : Int) * p⟩).s (!s) (Dg.dg 4294967296 (bare ⟨s, d, (widthN R : Int) * p⟩).n).length (bare ⟨s, d, (widthN R : Int) * p⟩).n (bare ⟨s, d, (widthN R : Int) * p⟩).e = carP R D (d + 1) p := by
  unfold stepK
  rw [if_neg hNu, f1, f2]
  exact n2
 rw [stepR_at hg (spot_dchk hg hi) (spot_held hg hi) hD hK (by omega), hN]
 exact spot_shortT s hg (.inr (next_spot d1 hp hG hd hf))
theorem far_zero {R D L : Int} {gr : Bool} (h1 : 1 ≤ D) : farK R D L gr 0 L = L ∧ farD R D gr 0 ≠ 0 ∧ farD R D gr 0 < 2 ^ (widthN R * D.toNat) ∧ (2 ^ (widthN R * (D - 1).toNat) ≤ farD R D gr 0 ∨ (gr = true ∧ L = L)) ∧ nearD R D L gr (farD R D gr 0) L = 0 ∧ farD R D gr 0 = if gr = true then 1 else 2 ^ (widthN R * (D - 1).toNat) := by
 have hpw : 2 ^ (widthN R * (D - 1).toNat) < 2 ^ (widthN R * D.toNat) := by
  refine Nat.pow_lt_pow_right (by omega) ?_
  exact Nat.mul_lt_mul_of_pos_left (by omega) (by have := widthN_le R; omega)
 have hp0 := two_pos (widthN R * (D - 1).toNat)
 cases gr
 ·have a1 : farK R D L false 0 L = L := if_pos ⟨rfl, rfl⟩
  have a2 : farD R D false 0 = 2 ^ (widthN R * (D - 1).toNat) := if_pos ⟨rfl, rfl⟩
  rw [a1, a2]
  refine ⟨rfl, by omega, hpw, .inl (Nat.le_refl _), ?_, ?_⟩
  ·unfold nearD
   rw [if_pos rfl, if_neg (by omega), if_neg (by decide)]
  ·rw [if_neg (by decide)]
 ·have h2 : ¬ (0 + 1 = 2 ^ (widthN R * D.toNat)) := by omega
  have a1 : farK R D L true 0 L = L := (if_neg (by simp)).trans (if_neg h2)
  have a2 : farD R D true 0 = 1 := (if_neg (by simp)).trans (if_neg h2)
  rw [a1, a2]
  refine ⟨rfl, by omega, by omega, .inr ⟨rfl, rfl⟩, ?_, ?_⟩
  ·unfold nearD
   split
   ·rw [if_neg (by omega), if_pos rfl]
   ·rfl
  ·rw [if_pos rfl]
theorem zero_step {R D L G : Int} {gr : Bool} (s up : Bool) {e : Int} (hg : gridC R D L G = 0) (e1 : -20000 ≤ e) (e2 : e ≤ 20000) :
  stepR R D L G gr s up (Dg.dg 4294967296 0) e = (bare ⟨!up, farD R D gr 0, (widthN R : Int) * L⟩, 0) := by
 obtain ⟨-, d1, -, -, -, -, -, lg, -⟩ := gridC_zero hg
 obtain ⟨z1, z2, z3, z4, -, -⟩ := far_zero (R := R) (D := D) (L := L) (gr := gr) d1
 have hnil : Dg.dg 4294967296 0 = [] := (Dg.dg_nil_iff _ _ (by omega)).2 rfl
 have hck : dchk (Dg.dg 4294967296 0) e = 0 := dchk_of (by rw [hnil]; simp) e1 e2
 have hN : stepN s up (Dg.dg 4294967296 0).length = !up := if_pos (by rw [hnil]; rfl)
 have hNu : ¬ stepN s up (Dg.dg 4294967296 0).length = up := by
  rw [hN]
  cases up <;> decide
 have hD : stepD R D L G gr s up (Dg.dg 4294967296 0).length 0 e = farD R D gr 0 := (if_neg hNu).trans (by rw [show fD R D L G gr 0 e = 0 from if_pos rfl])
 have hK : stepK R D L G gr s up (Dg.dg 4294967296 0).length 0 e = L := (if_neg hNu).trans (by rw [show fD R D L G gr 0 e = 0 from if_pos rfl, show fK R D L G gr 0 e = L from if_pos rfl]; exact z1)
 have := stepR_at (R := R) (D := D) (L := L) (G := G) (gr := gr) (up := up) (t := ⟨s, 0, e⟩) hg hck (held_zero R D L G gr e) hD hK (by omega)
 simp only at this
 rw [this, hN]
 exact spot_shortT _ hg (.inr ⟨z2, Int.le_refl _, lg, z3, z4⟩)
theorem far_near {R D L : Int} {gr : Bool} {d : Nat} {p : Int} (h1 : 1 ≤ D) (h0 : d ≠ 0) (hp : L ≤ p) (hd : d < 2 ^ (widthN R * D.toNat)) (hf : 2 ^ (widthN R * (D - 1).toNat) ≤ d ∨ (gr = true ∧ p = L)) :
  (nearD R D L gr d p = 0 → p = L ∧ d = farD R D gr 0) ∧ (nearD R D L gr d p ≠ 0 → carD R D (nearD R D L gr d p + 1) = d ∧ carP R D (nearD R D L gr d p + 1) (nearK R D L d p) = p) := by
 have hpw : 2 ^ (widthN R * (D - 1).toNat) < 2 ^ (widthN R * D.toNat) := by
  refine Nat.pow_lt_pow_right (by omega) ?_
  exact Nat.mul_lt_mul_of_pos_left (by omega) (by have := widthN_le R; omega)
 have hp0 := two_pos (widthN R * (D - 1).toNat)
 obtain ⟨-, -, -, -, -, hfar⟩ := far_zero (R := R) (D := D) (L := L) (gr := gr) h1
 rw [hfar]
 unfold nearD nearK carD carP
 by_cases hc : d = 2 ^ (widthN R * (D - 1).toNat)
 ·rw [if_pos hc, if_pos hc]
  by_cases hl : L < p
  ·rw [if_pos hl, if_pos hl]
   refine ⟨fun c => by omega, fun _ => ?_⟩
   rw [if_pos (by omega), if_pos (by omega)]
   exact ⟨hc.symm, by omega⟩
  ·rw [if_neg hl, if_neg hl]
   by_cases hgr : gr = true
   ·rw [if_pos hgr, if_pos hgr]
    refine ⟨fun c => ⟨by omega, by omega⟩, fun c => ?_⟩
    rw [if_neg (by omega), if_neg (by omega)]
    exact ⟨by omega, by omega⟩
   ·rw [if_neg hgr, if_neg hgr]
    exact ⟨fun _ => ⟨by omega, hc⟩, fun c => absurd rfl c⟩
 ·rw [if_neg hc, if_neg hc]
  refine ⟨fun c => ?_, fun c => ?_⟩
  ·rcases hf with hf | hf
   ·omega
   ·rw [if_pos hf.1]
    exact ⟨hf.2, by omega⟩
  ·rw [if_neg (by omega), if_neg (by omega)]
   exact ⟨by omega, rfl⟩
theorem near_less {R D L : Int} {gr : Bool} {d : Nat} {p : Int} (h1 : 1 ≤ D) (h0 : d ≠ 0) (hp : L ≤ p) {K : Nat} (hK : -(K : Int) ≤ (widthN R : Int) * p) (hJ : -(K : Int) ≤ (widthN R : Int) * nearK R D L d p) :
  V K ⟨true, d, (widthN R : Int) * p⟩ < V K ⟨true, nearD R D L gr d p, (widthN R : Int) * nearK R D L d p⟩ := by
 have hpw : 2 ^ (widthN R * D.toNat) = 2 ^ (widthN R * (D - 1).toNat) * 2 ^ widthN R := by
  rw [← Nat.pow_add]
  congr 1
  rw [show D.toNat = (D - 1).toNat + 1 from by omega, Nat.mul_add, Nat.mul_one]
 have hp0 := two_pos (widthN R * (D - 1).toNat)
 have hw0 := two_pos (widthN R)
 rw [V_so, V_so, if_pos rfl, if_pos rfl]
 unfold nearK at hJ
 unfold nearD nearK
 by_cases hc : d = 2 ^ (widthN R * (D - 1).toNat)
 ·rw [if_pos hc] at hJ
  rw [if_pos hc, if_pos hc]
  by_cases hl : L < p
  ·rw [if_pos hl] at hJ
   rw [if_pos hl, if_pos hl]
   have he : ((widthN R : Int) * p + (K : Int)).toNat = widthN R + ((widthN R : Int) * (p - 1) + (K : Int)).toNat := by
    rw [Int.mul_sub, Int.mul_one] at hJ ⊢
    omega
   have h3 : d * 2 ^ ((widthN R : Int) * p + (K : Int)).toNat = 2 ^ (widthN R * D.toNat) * 2 ^ ((widthN R : Int) * (p - 1) + (K : Int)).toNat := by
    rw [he, Nat.pow_add, ← Nat.mul_assoc, hc, hpw]
   rw [h3]
   have h4 : (2 ^ (widthN R * D.toNat) - 1) * 2 ^ ((widthN R : Int) * (p - 1) + (K : Int)).toNat < 2 ^ (widthN R * D.toNat) * 2 ^ ((widthN R : Int) * (p - 1) + (K : Int)).toNat := Nat.mul_lt_mul_of_pos_right (by have := two_pos (widthN R * D.toNat); omega) (two_pos _)
   omega
  ·obtain rfl : p = L := by omega
   rw [if_neg hl, if_neg hl]
   have h4 : (if gr = true then d - 1 else 0) * 2 ^ ((widthN R : Int) * p + (K : Int)).toNat < d * 2 ^ ((widthN R : Int) * p + (K : Int)).toNat := Nat.mul_lt_mul_of_pos_right (by split <;> omega) (two_pos _)
   omega
 ·rw [if_neg hc, if_neg hc]
  have h4 : (d - 1) * 2 ^ ((widthN R : Int) * p + (K : Int)).toNat < d * 2 ^ ((widthN R : Int) * p + (K : Int)).toNat := Nat.mul_lt_mul_of_pos_right (by omega) (two_pos _)
  omega
end Go.Proofs.YtiiphandhpilgaaGreatDoor

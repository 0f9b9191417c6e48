/-
  The walks of the laws NatShifts and NatMoves.
-/
import Derived.Test.YtepcafhlhnlgaaaNd
import Derived.Test.YtepcafhlhnlgaaaLaws3
namespace Go.Proofs.Ytepcafhlhnlgaaa
open Go.RowKit

theorem shN_len {xs : List Nat} {n : Int} (sa : Dg.Small 4294967296 xs) (hl : xs.length ≤ 1200) (h1 : -40000 ≤ n) (h2 : n ≤ 40000) : (Dg.dg 65536 (shN (Dg.vl 4294967296 xs) n)).length ≤ 3000000 := by
  have hv := vl_lt_16 sa
  unfold shN
  by_cases h : n < 0
  · rw [if_pos h]
    refine Nat.le_trans (Dg.dg_len_le 65536 _ (2 * xs.length) (by omega) ?_) (by omega)
    exact Nat.lt_of_le_of_lt (Nat.div_le_self _ _) hv
  · rw [if_neg h]
    refine Nat.le_trans (Dg.dg_len_le 65536 _ (2 * xs.length + n.toNat) (by omega) ?_) (by omega)
    rw [Nat.pow_add]
    have e1 : 2 ^ n.toNat ≤ 65536 ^ n.toNat := Nat.pow_le_pow_left (by omega) _
    have e2 := Nat.mul_le_mul_left (Dg.vl 4294967296 xs) e1
    have e3 : Dg.vl 4294967296 xs * 65536 ^ n.toNat < 65536 ^ (2 * xs.length) * 65536 ^ n.toNat := Nat.mul_lt_mul_of_pos_right hv (Nat.pow_pos (by omega))
    omega

theorem refshift_any (v1 : Value) (N : Nat) (n : Int) (w : World) (r : Rd w .i64 v1 (Dg.dg 65536 N)) (hl : (Dg.dg 65536 N).length ≤ 1000000) (h1 : -40000 ≤ n) (h2 : n ≤ 40000) :
    (n < 0 → Calls Try.prog 39 #[v1, .int .i64 (-n)] w (RNum w (shN N n))) ∧ (¬ n < 0 → Calls Try.prog 40 #[v1, .int .i64 n] w (RNum w (shN N n))) := by
  constructor
  · intro h
    unfold shN
    rw [if_pos h]
    obtain ⟨m, hm⟩ : ∃ m : Nat, -n = (m : Int) := ⟨(-n).toNat, by omega⟩
    rw [hm, Int.toNat_natCast]
    have := down_any v1 _ m (m / 16) (m % 16) (2 ^ (m % 16)) (2 ^ (16 - m % 16)) w r (Dg.small_dg _ _ (by omega)) hl (by omega) (by omega) (by omega) rfl rfl
    rwa [Dg.vl_dg _ _ (by omega)] at this
  · intro h
    unfold shN
    rw [if_neg h]
    obtain ⟨m, rfl⟩ : ∃ m : Nat, n = (m : Int) := ⟨n.toNat, by omega⟩
    rw [Int.toNat_natCast]
    have := up_any v1 _ m w r (Dg.small_dg _ _ (by omega)) hl (by omega)
    rwa [Dg.vl_dg _ _ (by omega)] at this

theorem nil_rd (w : World) : Rd w .i64 (.slice none 0 0) (Dg.dg 65536 0) := ⟨none, 0, rfl, by simp [Dg.dg_zero], by unfold maxLen; omega, fun h => by simp [Dg.dg_zero] at h⟩

set_option maxRecDepth 100000 in
theorem shifts_walk (va : Value) (xs : List Nat) (n : Int) (w : World) (ha : Rd w .u32 va xs) (sa : Dg.Small 4294967296 xs) :
    Calls Try.prog 10 #[va, .int .i64 n] w fun e w' => e = .returned (.bool true) ∧ Below w.heap.size w w' := by
  have h1 := shift_nat va xs n w ha sa
  unfold shR at h1
  have hck := fun w1 (b : Below w.heap.size w w1) => checkNat_any va xs w1 (ha.later b)
  have hz := fun h : chk xs = 0 => chk_zero h
  have hl16 := fun h : chk xs = 0 => of_len sa h
  obtain ⟨c, hc⟩ : ∃ c, chk xs = c := ⟨_, rfl⟩
  rw [hc] at h1 hz hl16
  simp only [hc] at hck
  have HC : Hid (∀ w1, Below w.heap.size w w1 → Calls Try.prog 21 #[va] w1 fun e w' => e = .returned (.int .i64 c) ∧ w' = w1) := hck
  clear hck hc
  by_cases h : c = 0
  · subst h
    rw [if_pos rfl] at h1
    have hla := (hz rfl).2
    have hl := hl16 rfl
    clear hz hl16
    by_cases hr : n < -40000 ∨ 40000 < n
    · rw [if_pos hr] at h1
      rcases hr with hr | hr
      · go_enter Try.func10, Try.ntmps10
        go_wp2_with fail
        refine h1.mono ?_
        rintro e w1 ⟨v, rfl, own, b1⟩
        clear h1
        go_wp2_with fail
        refine (HC.out w1 b1).mono ?_
        rintro e w' ⟨rfl, rfl⟩
        go_wp2_with fail
        refine (begun_any _).mono ?_
        rintro e w5 ⟨rfl, b5⟩
        have b15 := below_trans b1 b5
        have hni := natIs_true v (.slice none 0 0) [] 3 0 w5 (own.later b5).rd (nil_rd _) (by simp [Dg.dg_zero]) (by rw [if_neg (by omega)])
        go_wp2_with fail
        refine hni.mono ?_
        rintro e w7 ⟨rfl, b7⟩
        have b17 := below_trans b15 b7
        clear hni
        go_wp2
        go_ret
        exact ⟨rfl, b17⟩
      · have hr2 : ¬ n < -40000 := by omega
        go_enter Try.func10, Try.ntmps10
        go_wp2_with fail
        refine h1.mono ?_
        rintro e w1 ⟨v, rfl, own, b1⟩
        clear h1
        go_wp2_with fail
        refine (HC.out w1 b1).mono ?_
        rintro e w' ⟨rfl, rfl⟩
        go_wp2_with fail
        refine (begun_any _).mono ?_
        rintro e w5 ⟨rfl, b5⟩
        have b15 := below_trans b1 b5
        have hni := natIs_true v (.slice none 0 0) [] 3 0 w5 (own.later b5).rd (nil_rd _) (by simp [Dg.dg_zero]) (by rw [if_neg (by omega)])
        go_wp2_with fail
        refine hni.mono ?_
        rintro e w7 ⟨rfl, b7⟩
        have b17 := below_trans b15 b7
        clear hni
        go_wp2
        go_ret
        exact ⟨rfl, b17⟩
    · rw [if_neg hr] at h1
      have hr1 : ¬ n < -40000 := by omega
      have hr2 : ¬ 40000 < n := by omega
      have hnl := shN_len sa hla (n := n) (by omega) (by omega)
      have hsp := capd_split (shN (Dg.vl 4294967296 xs) n)
      obtain ⟨r, hrr⟩ : ∃ r, capd (shN (Dg.vl 4294967296 xs) n) = r := ⟨_, rfl⟩
      have hlo : ∀ vw w1, Rd w1 .i64 vw (Dg.dg 65536 (shN (Dg.vl 4294967296 xs) n)) → Calls Try.prog 30 #[.int .i64 0, vw] w1 fun e w' => e = .returned (.int .i64 r.2) ∧ Below w1.heap.size w1 w' := fun vw w1 hw => by
        have := long_any vw _ w1 hw hnl
        rwa [hrr] at this
      rw [hrr] at h1 hsp
      have HSP : Hid (r.1 = if r.2 = 0 then Dg.dg 4294967296 (shN (Dg.vl 4294967296 xs) n) else []) := hsp
      have HLO : Hid (∀ vw w1, Rd w1 .i64 vw (Dg.dg 65536 (shN (Dg.vl 4294967296 xs) n)) → Calls Try.prog 30 #[.int .i64 0, vw] w1 fun e w' => e = .returned (.int .i64 r.2) ∧ Below w1.heap.size w1 w') := hlo
      clear hrr hsp hlo hr
      by_cases hneg : n < 0
      · go_enter Try.func10, Try.ntmps10
        go_wp2_with fail
        refine h1.mono ?_
        rintro e w1 ⟨v, rfl, own, b1⟩
        clear h1
        go_wp2_with fail
        refine (HC.out w1 b1).mono ?_
        rintro e w' ⟨rfl, rfl⟩
        go_wp2_with fail
        refine (of_any va xs _ (ha.later b1) sa (by omega)).mono ?_
        rintro e w2 ⟨v1, rfl, r1, b2⟩
        have b12 := below_trans b1 b2
        have hs := (refshift_any v1 _ n w2 r1 (by omega) (by omega) (by omega)).1 hneg
        go_wp2_with fail
        refine hs.mono ?_
        rintro e w3 ⟨v2, rfl, r2, b3⟩
        have b13 := below_trans b12 b3
        clear hs
        go_wp2_with fail
        refine (HLO.out v2 w3 r2).mono ?_
        rintro e w4 ⟨rfl, b4⟩
        have b14 := below_trans b13 b4
        go_wp2_with fail
        refine (begun_any _).mono ?_
        rintro e w5 ⟨rfl, b5⟩
        have b15 := below_trans b14 b5
        have b25 := below_trans (below_trans (below_trans b2 b3) b4) b5
        have hni := natIs_true v v2 r.1 r.2 _ w5 (own.later b25).rd (r2.later (below_trans b4 b5)) hnl HSP.out
        go_wp2_with fail
        refine hni.mono ?_
        rintro e w7 ⟨rfl, b7⟩
        have b17 := below_trans b15 b7
        clear hni
        go_wp2
        go_ret
        exact ⟨rfl, b17⟩
      · go_enter Try.func10, Try.ntmps10
        go_wp2_with fail
        refine h1.mono ?_
        rintro e w1 ⟨v, rfl, own, b1⟩
        clear h1
        go_wp2_with fail
        refine (HC.out w1 b1).mono ?_
        rintro e w' ⟨rfl, rfl⟩
        go_wp2_with fail
        refine (of_any va xs _ (ha.later b1) sa (by omega)).mono ?_
        rintro e w2 ⟨v1, rfl, r1, b2⟩
        have b12 := below_trans b1 b2
        have hs := (refshift_any v1 _ n w2 r1 (by omega) (by omega) (by omega)).2 (by omega)
        go_wp2_with fail
        refine hs.mono ?_
        rintro e w3 ⟨v2, rfl, r2, b3⟩
        have b13 := below_trans b12 b3
        clear hs
        go_wp2_with fail
        refine (HLO.out v2 w3 r2).mono ?_
        rintro e w4 ⟨rfl, b4⟩
        have b14 := below_trans b13 b4
        go_wp2_with fail
        refine (begun_any _).mono ?_
        rintro e w5 ⟨rfl, b5⟩
        have b15 := below_trans b14 b5
        have b25 := below_trans (below_trans (below_trans b2 b3) b4) b5
        have hni := natIs_true v v2 r.1 r.2 _ w5 (own.later b25).rd (r2.later (below_trans b4 b5)) hnl HSP.out
        go_wp2_with fail
        refine hni.mono ?_
        rintro e w7 ⟨rfl, b7⟩
        have b17 := below_trans b15 b7
        clear hni
        go_wp2
        go_ret
        exact ⟨rfl, b17⟩
  · rw [if_neg h] at h1
    clear hz hl16
    go_enter Try.func10, Try.ntmps10
    go_wp2_with fail
    refine h1.mono ?_
    rintro e w1 ⟨v, rfl, own, b1⟩
    clear h1
    go_wp2_with fail
    refine (HC.out w1 b1).mono ?_
    rintro e w' ⟨rfl, rfl⟩
    go_wp2_with fail
    refine (begun_any _).mono ?_
    rintro e w5 ⟨rfl, b5⟩
    have b15 := below_trans b1 b5
    have hni := natIs_true v (.slice none 0 0) [] c 0 w5 (own.later b5).rd (nil_rd _) (by simp [Dg.dg_zero]) (by rw [if_neg h])
    go_wp2_with fail
    refine hni.mono ?_
    rintro e w7 ⟨rfl, b7⟩
    have b17 := below_trans b15 b7
    clear hni
    go_wp2
    go_ret
    exact ⟨rfl, b17⟩

set_option maxRecDepth 100000 in
theorem choose_any (c : Int) (w : World) (h1 : -9223372036854775808 ≤ c) (h2 : c ≤ 9223372036854775807) :
    Calls Try.prog 49 #[.int .i64 c, .int .i64 3000] w fun e w' => ∃ m : Nat, e = .returned (.int .i64 m) ∧ m < 3000 ∧ w' = w := by
  by_cases h : c < 0
  · have ht : (c + 1).tmod 3000 = -((-(c + 1)) % 3000) := by
      have := Int.neg_tmod (-(c + 1)) 3000
      rw [Int.neg_neg] at this
      have h2 : (-(c + 1)).tmod 3000 = (-(c + 1)) % 3000 := Int.tmod_eq_emod_of_nonneg (by omega)
      rw [this, h2]
    obtain ⟨d, hd⟩ : ∃ d : Nat, (-(c + 1)) % 3000 = (d : Int) := ⟨((-(c + 1)) % 3000).toNat, by omega⟩
    rw [hd] at ht
    have hdl : d < 3000 := by omega
    clear hd
    go_enter Try.func49, Try.ntmps49
    go_wp2
    go_ret
    exact ⟨d, by go_num, hdl, rfl⟩
  · go_enter Try.func49, Try.ntmps49
    go_wp2
    go_ret
    exact ⟨(c % 3000).toNat, by go_num, by omega, rfl⟩
theorem bitLen_mul (N n : Nat) (h : N ≠ 0) : bitLen (N * 2 ^ n) = n + bitLen N := by
  have e : N * 2 ^ n / 2 ^ n = N := Nat.mul_div_cancel _ (Nat.pow_pos (by omega))
  have := bitLen_shift (N * 2 ^ n) n (by rw [e]; exact h)
  rwa [e] at this

theorem one_small : Dg.Small 4294967296 [1] := Dg.small_cons.2 ⟨by omega, Dg.small_nil _ (by omega)⟩

theorem len_pow32 (n : Nat) (h : n < 3000) : (Dg.dg 4294967296 (2 ^ n)).length ≤ 1200 := by
  refine Nat.le_trans (Dg.dg_len_le _ _ (n / 32 + 1) (by omega) ?_) (by omega)
  rw [show (4294967296 : Nat) = 2 ^ 32 from by decide, ← Nat.pow_mul]
  exact Nat.pow_lt_pow_right (by omega) (by omega)

set_option maxRecDepth 100000 in
set_option maxHeartbeats 1000000 in
theorem moves_walk (va : Value) (xs : List Nat) (n : Int) (w : World) (ha : Rd w .u32 va xs) (sa : Dg.Small 4294967296 xs) (hn1 : -9223372036854775808 ≤ n) (hn2 : n ≤ 9223372036854775807) :
    Calls Try.prog 17 #[va, .int .i64 n] w fun e w' => e = .returned (.bool true) ∧ Below w.heap.size w w' := by
  have hch := fun w1 => choose_any n w1 hn1 hn2
  have HCH : Hid (∀ w1, Calls Try.prog 49 #[.int .i64 n, .int .i64 3000] w1 fun e w' => ∃ m : Nat, e = .returned (.int .i64 m) ∧ m < 3000 ∧ w' = w1) := hch
  clear hch
  go_enter Try.func17, Try.ntmps17
  go_wp2_with fail
  refine (begun_any _).mono ?_
  rintro e w0 ⟨rfl, b0⟩
  go_wp2_with fail
  refine (HCH.out w0).mono ?_
  rintro e w' ⟨m, rfl, hm, rfl⟩
  have h1 := shift_nat va xs (m : Int) w' (ha.later b0) sa
  have hsr : shR xs (m : Int) = if chk xs = 0 then capd (Dg.vl 4294967296 xs * 2 ^ m) else ([], chk xs) := by
    unfold shR shN
    rw [if_neg (show ¬ ((m : Int) < -40000 ∨ 40000 < (m : Int)) by omega), if_neg (show ¬ (m : Int) < 0 by omega), Int.toNat_natCast]
  rw [hsr] at h1
  clear hsr
  by_cases hok : (if chk xs = 0 then capd (Dg.vl 4294967296 xs * 2 ^ m) else ([], chk xs)).2 = 0
  · have hck : chk xs = 0 := by
      by_cases e : chk xs = 0
      · exact e
      · rw [if_neg e] at hok; exact absurd hok e
    rw [if_pos hck] at hok h1
    have hcap := capd_inv hok
    rw [capd_yes hcap.1] at h1
    have hN := Dg.dg_vl 4294967296 (by omega) xs sa (chk_zero hck).1
    obtain ⟨N, hNv⟩ : ∃ N, Dg.vl 4294967296 xs = N := ⟨_, rfl⟩
    have hbn : N ≠ 0 → bitLen (N * 2 ^ m) = m + bitLen N := bitLen_mul N m
    have hxl := (chk_zero hck).2
    have hbl : bitLen N ≤ 100000 := by
      refine Nat.le_trans (bitLen_le_of N (32 * xs.length) ?_) (by omega)
      rw [← hNv, Nat.pow_mul]; exact Dg.vl_lt _ _ sa
    rw [hNv] at h1 hcap hN
    -- the calls that follow, each at its world
    have HP : Hid (∀ v1 w1, Rd w1 .u32 v1 [1] → Calls Try.prog 38 #[v1, .int .i64 (m : Int)] w1 (Ans w1 (Dg.dg 4294967296 (2 ^ m), 0))) := fun v1 w1 hv => by
      have := shift_nat v1 [1] (m : Int) w1 hv one_small
      have e : shR [1] (m : Int) = (Dg.dg 4294967296 (2 ^ m), 0) := by
        unfold shR shN
        rw [if_pos (by decide), if_neg (show ¬ ((m : Int) < -40000 ∨ 40000 < (m : Int)) by omega), if_neg (show ¬ (m : Int) < 0 by omega), Int.toNat_natCast]
        have e1 : Dg.vl 4294967296 [1] * 2 ^ m = 2 ^ m := by simp [Dg.vl]
        rw [e1, capd_yes (len_pow32 m hm)]
      rwa [e] at this
    have HM : Hid (∀ v2 w1, Below w.heap.size w w1 → Rd w1 .u32 v2 (Dg.dg 4294967296 (2 ^ m)) → Calls Try.prog 34 #[va, v2] w1 (Ans w1 (Dg.dg 4294967296 (N * 2 ^ m), 0))) := fun v2 w1 b hv => by
      have := mul_nat va v2 xs _ w1 (ha.later b) hv sa (Dg.small_dg _ _ (by omega))
      rwa [hNv, Dg.vl_dg _ _ (by omega), natR_yes (chk2_of hck (chk_dg (len_pow32 m hm))) hcap.1] at this
    have HD : Hid (∀ v3 w1, Rd w1 .u32 v3 (Dg.dg 4294967296 (N * 2 ^ m)) → Calls Try.prog 38 #[v3, .int .i64 (-(m : Int))] w1 (Ans w1 (xs, 0))) := fun v3 w1 hv => by
      have := shift_nat v3 _ (-(m : Int)) w1 hv (Dg.small_dg _ _ (by omega))
      have e : shR (Dg.dg 4294967296 (N * 2 ^ m)) (-(m : Int)) = (xs, 0) := by
        have e1 : shN (N * 2 ^ m) (-(m : Int)) = N := by
          unfold shN
          by_cases h0 : (m : Int) = 0
          · have : m = 0 := by omega
            subst this
            simp
          · rw [if_pos (by omega), Int.neg_neg, Int.toNat_natCast]
            exact Nat.mul_div_cancel _ (Nat.pow_pos (by omega))
        unfold shR
        rw [if_pos (chk_dg hcap.1), if_neg (show ¬ (-(m : Int) < -40000 ∨ 40000 < -(m : Int)) by omega), Dg.vl_dg _ _ (by omega), e1, capd_yes (by rw [hN]; exact hxl), hN]
      rwa [e] at this
    have HB1 : Hid (∀ w1, Below w.heap.size w w1 → Calls Try.prog 26 #[va] w1 fun e w' => e = .returned (.tuple #[.int .i64 ((bitLen N : Nat) : Int), .int .i64 0]) ∧ Below w1.heap.size w1 w') := fun w1 b => by
      have := bits_nat va xs w1 (ha.later b) sa
      rwa [hck, if_pos rfl, hNv] at this
    have HB2 : Hid (∀ v4 w1, Rd w1 .u32 v4 (Dg.dg 4294967296 (N * 2 ^ m)) → Calls Try.prog 26 #[v4] w1 fun e w' => e = .returned (.tuple #[.int .i64 ((bitLen (N * 2 ^ m) : Nat) : Int), .int .i64 0]) ∧ Below w1.heap.size w1 w') := fun v4 w1 hv => by
      have := bits_nat v4 _ w1 hv (Dg.small_dg _ _ (by omega))
      rwa [chk_dg hcap.1, if_pos rfl, Dg.vl_dg _ _ (by omega)] at this
    have hbz : N = 0 → bitLen (N * 2 ^ m) = 0 ∧ bitLen N = 0 := fun h => by subst h; simp [bitLen_zero]
    have hbp : N ≠ 0 → 0 < bitLen N := fun h => by rw [bitLen_two N h]; omega
    obtain ⟨bl1, hb1⟩ : ∃ b, bitLen N = b := ⟨_, rfl⟩
    obtain ⟨bl2, hb2⟩ : ∃ b, bitLen (N * 2 ^ m) = b := ⟨_, rfl⟩
    rw [hb1] at HB1 hbl
    rw [hb2] at HB2
    rw [hb1, hb2] at hbz hbn
    rw [hb1] at hbp
    have hcase : (bl1 = 0 ∧ bl2 = 0) ∨ (0 < bl1 ∧ bl2 = m + bl1) := by
      by_cases h : N = 0
      · exact .inl ⟨(hbz h).2, (hbz h).1⟩
      · exact .inr ⟨hbp h, hbn h⟩
    clear hok hcap hN hNv hbn hb1 hb2 hbz hbp hck
    go_wp2_with fail
    refine h1.mono ?_
    rintro e w1 ⟨v1, rfl, o1, k1⟩
    have b1 := below_trans b0 k1
    clear h1
    have a1 : Below w1.heap.size w1 (w1.alloc (.cells #[.int .u32 1] 58)) := (Below.refl _ _).alloc (Nat.le_refl _) _
    have r1 := rd_new (w := w1) (k := .u32) (e := 58) [1] #[.int .u32 1] rfl (by unfold maxLen; simp)
    have ba := below_trans b1 a1
    go_wp2_with fail
    refine (HP.out _ _ r1).mono ?_
    rintro e w2 ⟨v2, rfl, o2, k2⟩
    have b2 := below_trans ba k2
    have c12 := below_trans a1 k2
    clear r1
    go_wp2_with fail
    refine (HM.out v2 w2 b2 o2.rd).mono ?_
    rintro e w3 ⟨v3, rfl, o3, k3⟩
    have b3 := below_trans b2 k3
    have c13 := below_trans c12 k3
    go_wp2_with fail
    refine (HD.out v1 w3 (o1.later c13).rd).mono ?_
    rintro e w4 ⟨v4, rfl, o4, k4⟩
    have b4 := below_trans b3 k4
    have c14 := below_trans c13 k4
    go_wp2_with fail
    refine (HB1.out w4 b4).mono ?_
    rintro e w5 ⟨rfl, k5⟩
    have b5 := below_trans b4 k5
    have c15 := below_trans c14 k5
    go_wp2_with fail
    refine (HB2.out v1 w5 (o1.later c15).rd).mono ?_
    rintro e w6 ⟨rfl, k6⟩
    have b6 := below_trans b5 k6
    have c16 := below_trans c15 k6
    have c36 := below_trans (below_trans k4 k5) k6
    have hs1 := same_any v1 v3 _ _ w6 (o1.later c16).rd (o3.later c36).rd
    rw [decide_eq_true rfl] at hs1
    go_wp2_with fail
    refine hs1.mono ?_
    rintro e w7 ⟨rfl, k7⟩
    have b7 := below_trans b6 k7
    have c47 := below_trans (below_trans k5 k6) k7
    have hs2 := same_any v4 va _ _ w7 (o4.later c47).rd (ha.later b7)
    rw [decide_eq_true rfl] at hs2
    clear hs1
    go_wp2_with fail
    refine hs2.mono ?_
    rintro e w8 ⟨rfl, k8⟩
    have b8 := below_trans b7 k8
    clear hs2
    rcases hcase with ⟨hc1, hc2⟩ | ⟨hc1, hc2⟩
    · subst hc1 hc2
      go_wp2
      go_ret
      exact ⟨rfl, b8⟩
    · subst hc2
      have hx1 : ((bl1 : Int) == 0) = false := by simp; omega
      have hx2 : (((m : Int) + (bl1 : Int)) == (bl1 : Int) + (m : Int)) = true := by simp; omega
      go_wp2
      go_ret
      exact ⟨rfl, b8⟩
  · obtain ⟨r, hr⟩ : ∃ r, (if chk xs = 0 then capd (Dg.vl 4294967296 xs * 2 ^ m) else ([], chk xs)) = r := ⟨_, rfl⟩
    rw [hr] at h1 hok
    clear hr
    obtain ⟨l1, i1⟩ := r
    simp only at hok
    go_wp2_with fail
    refine h1.mono ?_
    rintro e w1 ⟨v1, rfl, o1, k1⟩
    have b1 := below_trans b0 k1
    go_wp2
    go_ret
    exact ⟨rfl, b1⟩
end Go.Proofs.Ytepcafhlhnlgaaa

/-
  The walks of the laws NatSubs and NatSpreads.
-/
import Derived.Test.YtepcafhlhnlgaaaLaws1
namespace Go.Proofs.Ytepcafhlhnlgaaa
open Go.RowKit

theorem dg_len_mono (B n m : Nat) (hB : 2 ≤ B) (h : n ≤ m) : (Dg.dg B n).length ≤ (Dg.dg B m).length := by
  refine Dg.dg_len_le B n _ hB ?_
  have := Dg.vl_lt B (Dg.dg B m) (Dg.small_dg B m hB)
  rw [Dg.vl_dg B m hB] at this
  omega

theorem capd_yes {n : Nat} (h : (Dg.dg 4294967296 n).length ≤ 1200) : capd n = (Dg.dg 4294967296 n, 0) := by unfold capd; rw [if_pos h]
theorem capd_inv {n : Nat} (h : (capd n).2 = 0) : (Dg.dg 4294967296 n).length ≤ 1200 ∧ (capd n).1 = Dg.dg 4294967296 n := by
  unfold capd at h ⊢
  by_cases e : (Dg.dg 4294967296 n).length ≤ 1200
  · rw [if_pos e]; exact ⟨e, rfl⟩
  · rw [if_neg e] at h; simp at h

theorem natR_inv {c : Int} {n : Nat} (h : (natR c n).2 = 0) : c = 0 ∧ (Dg.dg 4294967296 n).length ≤ 1200 ∧ (natR c n).1 = Dg.dg 4294967296 n := by
  unfold natR at h ⊢
  by_cases e : c = 0
  · rw [if_pos e] at h ⊢; exact ⟨e, capd_inv h⟩
  · rw [if_neg e] at h; exact absurd h e

theorem natR_yes {c : Int} {n : Nat} (hc : c = 0) (h : (Dg.dg 4294967296 n).length ≤ 1200) : natR c n = (Dg.dg 4294967296 n, 0) := by
  unfold natR; rw [if_pos hc, capd_yes h]

theorem chk2_of {xs ys : List Nat} (h1 : chk xs = 0) (h2 : chk ys = 0) : chk2 xs ys = 0 := by unfold chk2; rw [if_pos h1, h2]
theorem chk_dg {n : Nat} (h : (Dg.dg 4294967296 n).length ≤ 1200) : chk (Dg.dg 4294967296 n) = 0 := chk_of (Dg.norm_dg _ _ (by omega)) h

theorem len_of_chk {xs : List Nat} (sa : Dg.Small 4294967296 xs) (h : chk xs = 0) : (Dg.dg 4294967296 (Dg.vl 4294967296 xs)).length ≤ 1200 := by
  rw [Dg.dg_vl _ (by omega) xs sa (chk_zero h).1]; exact (chk_zero h).2

theorem natR_small (c : Int) (n : Nat) : Dg.Small 4294967296 (natR c n).1 := by
  unfold natR capd
  split
  · split
    · exact Dg.small_dg _ _ (by omega)
    · exact Dg.small_nil _ (by omega)
  · exact Dg.small_nil _ (by omega)

theorem subs_walk (va vb : Value) (xs ys : List Nat) (w : World) (ha : Rd w .u32 va xs) (hb : Rd w .u32 vb ys) (sa : Dg.Small 4294967296 xs) (sb : Dg.Small 4294967296 ys) :
    Calls Try.prog 7 #[va, vb] w fun e w' => e = .returned (.bool true) ∧ Below w.heap.size w w' := by
  have h1 := sub_nat va vb xs ys w ha hb sa sb
  unfold subR at h1
  have hz := fun h : chk2 xs ys = 0 => chk2_zero h
  obtain ⟨c, hc⟩ : ∃ c, chk2 xs ys = c := ⟨_, rfl⟩
  have ht : ∀ w1, Below w.heap.size w w1 → Calls Try.prog 23 #[va, vb] w1 fun e w' => e = .returned (.int .i64 c) ∧ w' = w1 := fun w1 b => by
    have := twoNats_any va vb xs ys w1 (ha.later b) (hb.later b)
    rwa [hc] at this
  rw [hc] at h1 hz
  have HT : Hid (∀ w1, Below w.heap.size w w1 → Calls Try.prog 23 #[va, vb] w1 fun e w' => e = .returned (.int .i64 c) ∧ w' = w1) := ht
  clear hc ht
  by_cases h : c = 0
  · subst h
    rw [if_pos rfl] at h1
    obtain ⟨ca, cb⟩ := hz rfl
    have la := (chk_zero ca).2
    have lb := (chk_zero cb).2
    have la16 := of_len sa ca
    have lb16 := of_len sb cb
    have hlx := len_of_chk sa ca
    clear hz
    obtain ⟨r, hr⟩ : ∃ r, cmpI (Dg.vl 4294967296 xs) (Dg.vl 4294967296 ys) = r := ⟨_, rfl⟩
    have HR : Hid (cmpI (Dg.vl 4294967296 xs) (Dg.vl 4294967296 ys) = r) := hr
    by_cases hl : Dg.vl 4294967296 xs < Dg.vl 4294967296 ys
    · rw [if_pos hl] at h1
      have hrn : r < 0 := by rw [← hr, cmpI_lt (by omega)]; omega
      clear hr ca cb hl
      go_enter Try.func7, Try.ntmps7
      go_wp2_with fail
      refine h1.mono ?_
      rintro e w1 ⟨v, rfl, own, b1⟩
      clear h1
      go_wp2_with fail
      refine (HT.out w1 b1).mono ?_
      rintro e w' ⟨rfl, rfl⟩
      go_wp2_with fail
      refine (of_any va xs _ (ha.later b1) sa (by omega)).mono ?_
      rintro e w2 ⟨v1, rfl, r1, b2⟩
      have b12 := below_trans b1 b2
      go_wp2_with fail
      refine (of_any vb ys _ (hb.later b12) sb (by omega)).mono ?_
      rintro e w3 ⟨v2, rfl, r2, b3⟩
      have b13 := below_trans b12 b3
      have hcm := refcmp_any v1 v2 _ _ w3 (r1.later b3) r2 (Dg.small_dg _ _ (by omega)) (Dg.small_dg _ _ (by omega)) (Dg.norm_dg _ _ (by omega)) (Dg.norm_dg _ _ (by omega))
      rw [Dg.vl_dg _ _ (by omega), Dg.vl_dg _ _ (by omega), HR.out] at hcm
      go_wp2_with fail
      refine hcm.mono ?_
      rintro e w4 ⟨rfl, b4⟩
      have b14 := below_trans b13 b4
      clear hcm
      go_wp2_with fail
      refine (begun_any _).mono ?_
      rintro e w5 ⟨rfl, b5⟩
      have b15 := below_trans b14 b5
      have b05 := below_trans (below_trans (below_trans b2 b3) b4) b5
      have hni := natIs_true v (.slice none 0 0) [] 3 0 w5 (own.later b05).rd ⟨none, 0, rfl, by simp [Dg.dg_zero], by unfold maxLen; omega, fun h => by simp [Dg.dg_zero] at h⟩ (by simp [Dg.dg_zero]) (by rw [if_neg (by omega)])
      go_wp2_with fail
      refine hni.mono ?_
      rintro e w7 ⟨rfl, b7⟩
      have b17 := below_trans b15 b7
      clear hni
      go_wp2
      go_ret
      exact ⟨rfl, b17⟩
    · rw [if_neg hl, capd_yes (Nat.le_trans (dg_len_mono _ _ _ (by omega) (Nat.sub_le _ _)) hlx)] at h1
      have hrn : ¬ r < 0 := by rw [← hr]; unfold cmpI; rw [if_neg (by omega)]; split <;> omega
      have hle : Dg.vl 4294967296 ys ≤ Dg.vl 4294967296 xs := by omega
      have hll : (Dg.dg 65536 (Dg.vl 4294967296 ys)).length ≤ (Dg.dg 65536 (Dg.vl 4294967296 xs)).length := dg_len_mono _ _ _ (by omega) hle
      have hnl : (Dg.dg 65536 (Dg.vl 4294967296 xs - Dg.vl 4294967296 ys)).length ≤ 3000000 := by
        have := dg_len_mono 65536 (Dg.vl 4294967296 xs - Dg.vl 4294967296 ys) (Dg.vl 4294967296 xs) (by omega) (Nat.sub_le _ _)
        omega
      have HLE : Hid (Dg.vl 4294967296 ys ≤ Dg.vl 4294967296 xs) := hle
      clear hr ca cb hl hle
      go_enter Try.func7, Try.ntmps7
      go_wp2_with fail
      refine h1.mono ?_
      rintro e w1 ⟨v, rfl, own, b1⟩
      clear h1
      go_wp2_with fail
      refine (HT.out w1 b1).mono ?_
      rintro e w' ⟨rfl, rfl⟩
      go_wp2_with fail
      refine (of_any va xs _ (ha.later b1) sa (by omega)).mono ?_
      rintro e w2 ⟨v1, rfl, r1, b2⟩
      have b12 := below_trans b1 b2
      go_wp2_with fail
      refine (of_any vb ys _ (hb.later b12) sb (by omega)).mono ?_
      rintro e w3 ⟨v2, rfl, r2, b3⟩
      have b13 := below_trans b12 b3
      have hcm := refcmp_any v1 v2 _ _ w3 (r1.later b3) r2 (Dg.small_dg _ _ (by omega)) (Dg.small_dg _ _ (by omega)) (Dg.norm_dg _ _ (by omega)) (Dg.norm_dg _ _ (by omega))
      rw [Dg.vl_dg _ _ (by omega), Dg.vl_dg _ _ (by omega), HR.out] at hcm
      go_wp2_with fail
      refine hcm.mono ?_
      rintro e w4 ⟨rfl, b4⟩
      have b14 := below_trans b13 b4
      clear hcm
      go_wp2_with fail
      refine (of_any va xs _ (ha.later b14) sa (by omega)).mono ?_
      rintro e w5 ⟨v3, rfl, r3, b5⟩
      have b15 := below_trans b14 b5
      go_wp2_with fail
      refine (of_any vb ys _ (hb.later b15) sb (by omega)).mono ?_
      rintro e w6 ⟨v4, rfl, r4, b6⟩
      have b16 := below_trans b15 b6
      have hls := refless_any v3 v4 _ _ w6 (r3.later b6) r4 (Dg.small_dg _ _ (by omega)) (Dg.small_dg _ _ (by omega)) (by omega) hll (by rw [Dg.vl_dg _ _ (by omega), Dg.vl_dg _ _ (by omega)]; exact HLE.out)
      rw [Dg.vl_dg _ _ (by omega), Dg.vl_dg _ _ (by omega)] at hls
      go_wp2_with fail
      refine hls.mono ?_
      rintro e w7 ⟨v5, rfl, r5, b7⟩
      have b17 := below_trans b16 b7
      clear hls
      go_wp2_with fail
      refine (begun_any _).mono ?_
      rintro e w8 ⟨rfl, b8⟩
      have b18 := below_trans b17 b8
      have b28 := below_trans (below_trans (below_trans (below_trans (below_trans (below_trans b2 b3) b4) b5) b6) b7) b8
      have hni := natIs_true v v5 _ 0 _ w8 (own.later b28).rd (r5.later b8) hnl (by rw [if_pos rfl])
      go_wp2_with fail
      refine hni.mono ?_
      rintro e w9 ⟨rfl, b9⟩
      have b19 := below_trans b18 b9
      clear hni
      go_wp2
      go_ret
      exact ⟨rfl, b19⟩
  · rw [if_neg h] at h1
    clear hz
    go_enter Try.func7, Try.ntmps7
    go_wp2_with fail
    refine h1.mono ?_
    rintro e w1 ⟨v, rfl, own, b1⟩
    clear h1
    go_wp2_with fail
    refine (HT.out w1 b1).mono ?_
    rintro e w' ⟨rfl, rfl⟩
    go_wp2_with fail
    refine (begun_any _).mono ?_
    rintro e w5 ⟨rfl, b5⟩
    have b15 := below_trans b1 b5
    have hni := natIs_true v (.slice none 0 0) [] c 0 w5 (own.later b5).rd ⟨none, 0, rfl, by simp [Dg.dg_zero], by unfold maxLen; omega, fun h => by simp [Dg.dg_zero] at h⟩ (by simp [Dg.dg_zero]) (by rw [if_neg h])
    go_wp2_with fail
    refine hni.mono ?_
    rintro e w7 ⟨rfl, b7⟩
    have b17 := below_trans b15 b7
    clear hni
    go_wp2
    go_ret
    exact ⟨rfl, b17⟩

theorem spreads_walk (va vb vc : Value) (xs ys zs : List Nat) (w : World) (ha : Rd w .u32 va xs) (hb : Rd w .u32 vb ys) (hc : Rd w .u32 vc zs) (sa : Dg.Small 4294967296 xs) (sb : Dg.Small 4294967296 ys) (sc : Dg.Small 4294967296 zs) :
    Calls Try.prog 16 #[va, vb, vc] w fun e w' => e = .returned (.bool true) ∧ Below w.heap.size w w' := by
  obtain ⟨r1, er1⟩ : ∃ r, natR (chk2 xs ys) (Dg.vl 4294967296 xs + Dg.vl 4294967296 ys) = r := ⟨_, rfl⟩
  obtain ⟨r2, er2⟩ : ∃ r, natR (chk2 r1.1 zs) (Dg.vl 4294967296 r1.1 * Dg.vl 4294967296 zs) = r := ⟨_, rfl⟩
  have s1 : Dg.Small 4294967296 r1.1 := by rw [← er1]; exact natR_small _ _
  have HA : Hid (∀ w1, Below w.heap.size w w1 → Calls Try.prog 28 #[va, vb] w1 (Ans w1 r1)) := fun w1 b => by
    have := add_nat va vb xs ys w1 (ha.later b) (hb.later b) sa sb
    rwa [er1] at this
  have HM : Hid (∀ v1 w1, Below w.heap.size w w1 → Rd w1 .u32 v1 r1.1 → Calls Try.prog 34 #[v1, vc] w1 (Ans w1 r2)) := fun v1 w1 b hv => by
    have := mul_nat v1 vc r1.1 zs w1 hv (hc.later b) s1 sc
    rwa [er2] at this
  by_cases h1 : r1.2 = 0
  · by_cases h2 : r2.2 = 0
    · have q1 := natR_inv (by rw [er1]; exact h1)
      have q2 := natR_inv (by rw [er2]; exact h2)
      have c12 := chk2_zero q1.1
      have c3 := (chk2_zero q2.1).2
      have e1 : r1.1 = Dg.dg 4294967296 (Dg.vl 4294967296 xs + Dg.vl 4294967296 ys) := by rw [← er1]; exact q1.2.2
      have e2 : Dg.vl 4294967296 r1.1 = Dg.vl 4294967296 xs + Dg.vl 4294967296 ys := by rw [e1, Dg.vl_dg _ _ (by omega)]
      rw [e2] at q2 er2
      obtain ⟨N, hN⟩ : ∃ N, (Dg.vl 4294967296 xs + Dg.vl 4294967296 ys) * Dg.vl 4294967296 zs = N := ⟨_, rfl⟩
      rw [hN] at q2 er2
      have e3 : r2.1 = Dg.dg 4294967296 N := by rw [← er2]; exact q2.2.2
      have hp : Dg.vl 4294967296 zs * Dg.vl 4294967296 xs + Dg.vl 4294967296 ys * Dg.vl 4294967296 zs = N := by rw [← hN, Nat.add_mul, Nat.mul_comm (Dg.vl 4294967296 zs)]
      have lp : (Dg.dg 4294967296 (Dg.vl 4294967296 zs * Dg.vl 4294967296 xs)).length ≤ 1200 := Nat.le_trans (dg_len_mono _ _ N (by omega) (by omega)) q2.2.1
      have lq : (Dg.dg 4294967296 (Dg.vl 4294967296 ys * Dg.vl 4294967296 zs)).length ≤ 1200 := Nat.le_trans (dg_len_mono _ _ N (by omega) (by omega)) q2.2.1
      have HP : Hid (∀ w1, Below w.heap.size w w1 → Calls Try.prog 34 #[vc, va] w1 (Ans w1 (Dg.dg 4294967296 (Dg.vl 4294967296 zs * Dg.vl 4294967296 xs), 0))) := fun w1 b => by
        have := mul_nat vc va zs xs w1 (hc.later b) (ha.later b) sc sa
        rwa [natR_yes (chk2_of c3 c12.1) lp] at this
      have HQ : Hid (∀ w1, Below w.heap.size w w1 → Calls Try.prog 34 #[vb, vc] w1 (Ans w1 (Dg.dg 4294967296 (Dg.vl 4294967296 ys * Dg.vl 4294967296 zs), 0))) := fun w1 b => by
        have := mul_nat vb vc ys zs w1 (hb.later b) (hc.later b) sb sc
        rwa [natR_yes (chk2_of c12.2 c3) lq] at this
      have HY : Hid (∀ v1 v2 w1, Rd w1 .u32 v1 (Dg.dg 4294967296 (Dg.vl 4294967296 zs * Dg.vl 4294967296 xs)) → Rd w1 .u32 v2 (Dg.dg 4294967296 (Dg.vl 4294967296 ys * Dg.vl 4294967296 zs)) → Calls Try.prog 28 #[v1, v2] w1 (Ans w1 (Dg.dg 4294967296 N, 0))) := fun v1 v2 w1 h1 h2 => by
        have := add_nat v1 v2 _ _ w1 h1 h2 (Dg.small_dg _ _ (by omega)) (Dg.small_dg _ _ (by omega))
        rwa [Dg.vl_dg _ _ (by omega), Dg.vl_dg _ _ (by omega), hp, natR_yes (chk2_of (chk_dg lp) (chk_dg lq)) q2.2.1] at this
      have H3 : Hid (r2.1 = Dg.dg 4294967296 N) := e3
      have H1 : Hid (r1.2 = 0) := h1
      have H2 : Hid (r2.2 = 0) := h2
      obtain ⟨l1, i1⟩ := r1
      obtain ⟨l2, i2⟩ := r2
      simp only at h1 h2
      subst h1 h2
      clear er1 er2 e1 e2 e3 hN hp q1 q2 H1 H2
      go_enter Try.func16, Try.ntmps16
      go_wp2_with fail
      refine (begun_any _).mono ?_
      rintro e w0 ⟨rfl, b0⟩
      go_wp2_with fail
      refine (HA.out w0 b0).mono ?_
      rintro e w1 ⟨v1, rfl, o1, k1⟩
      have b1 := below_trans b0 k1
      go_wp2_with fail
      refine (HM.out v1 w1 b1 o1.rd).mono ?_
      rintro e w2 ⟨v2, rfl, o2, k2⟩
      have b2 := below_trans b1 k2
      go_wp2_with fail
      refine (HP.out w2 b2).mono ?_
      rintro e w3 ⟨v3, rfl, o3, k3⟩
      have b3 := below_trans b2 k3
      go_wp2_with fail
      refine (HQ.out w3 b3).mono ?_
      rintro e w4 ⟨v4, rfl, o4, k4⟩
      have b4 := below_trans b3 k4
      go_wp2_with fail
      refine (HY.out v3 v4 w4 (o3.later k4).rd o4.rd).mono ?_
      rintro e w5 ⟨v5, rfl, o5, k5⟩
      have b5 := below_trans b4 k5
      have k25 := below_trans (below_trans k3 k4) k5
      have hs := same_any v2 v5 _ _ w5 (o2.later k25).rd o5.rd
      rw [decide_eq_true H3.out] at hs
      go_wp2_with fail
      refine hs.mono ?_
      rintro e w6 ⟨rfl, k6⟩
      have b6 := below_trans b5 k6
      clear hs
      go_wp2
      go_ret
      exact ⟨rfl, b6⟩
    · obtain ⟨l1, i1⟩ := r1
      obtain ⟨l2, i2⟩ := r2
      simp only at h1 h2
      subst h1
      clear er1 er2
      go_enter Try.func16, Try.ntmps16
      go_wp2_with fail
      refine (begun_any _).mono ?_
      rintro e w0 ⟨rfl, b0⟩
      go_wp2_with fail
      refine (HA.out w0 b0).mono ?_
      rintro e w1 ⟨v1, rfl, o1, k1⟩
      have b1 := below_trans b0 k1
      go_wp2_with fail
      refine (HM.out v1 w1 b1 o1.rd).mono ?_
      rintro e w2 ⟨v2, rfl, o2, k2⟩
      have b2 := below_trans b1 k2
      go_wp2
      go_ret
      exact ⟨rfl, b2⟩
  · obtain ⟨l1, i1⟩ := r1
    obtain ⟨l2, i2⟩ := r2
    simp only at h1
    clear er1 er2
    go_enter Try.func16, Try.ntmps16
    go_wp2_with fail
    refine (begun_any _).mono ?_
    rintro e w0 ⟨rfl, b0⟩
    go_wp2_with fail
    refine (HA.out w0 b0).mono ?_
    rintro e w1 ⟨v1, rfl, o1, k1⟩
    have b1 := below_trans b0 k1
    go_wp2_with fail
    refine (HM.out v1 w1 b1 o1.rd).mono ?_
    rintro e w2 ⟨v2, rfl, o2, k2⟩
    have b2 := below_trans b1 k2
    go_wp2
    go_ret
    exact ⟨rfl, b2⟩
end Go.Proofs.Ytepcafhlhnlgaaa

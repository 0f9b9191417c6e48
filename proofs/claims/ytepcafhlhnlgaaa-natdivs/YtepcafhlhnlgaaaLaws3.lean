/-
  The walk of the law NatMuls.
-/
import Derived.Test.YtepcafhlhnlgaaaNd
namespace Go.Proofs.Ytepcafhlhnlgaaa
open Go.RowKit

set_option maxRecDepth 100000 in
theorem muls_walk (va vb : Value) (xs ys : List Nat) (w : World) (ha : Rd w .u32 va xs) (hb : Rd w .u32 vb ys) (sa : Dg.Small 4294967296 xs) (sb : Dg.Small 4294967296 ys) :
    Calls Try.prog 8 #[va, vb] w fun e w' => e = .returned (.bool true) ∧ Below w.heap.size w w' := by
  have h1 := mul_nat va vb xs ys w ha hb sa sb
  unfold natR at h1
  have hz := fun h : chk2 xs ys = 0 => chk2_zero h
  obtain ⟨c, hc⟩ : ∃ c, chk2 xs ys = c := ⟨_, rfl⟩
  have ht : ∀ w1, Below w.heap.size w w1 → Calls Try.prog 23 #[va, vb] w1 fun e w' => e = .returned (.int .i64 c) ∧ w' = w1 := fun w1 b => by
    have := twoNats_any va vb xs ys w1 (ha.later b) (hb.later b)
    rwa [hc] at this
  rw [hc] at h1 hz
  have HT : Hid (∀ w1, Below w.heap.size w w1 → Calls Try.prog 23 #[va, vb] w1 fun e w' => e = .returned (.int .i64 c) ∧ w' = w1) := ht
  clear hc ht
  by_cases h : c = 0
  · subst h
    rw [if_pos rfl] at h1
    obtain ⟨ca, cb⟩ := hz rfl
    have la := (chk_zero ca).2
    have lb := (chk_zero cb).2
    have la16 := of_len sa ca
    have lb16 := of_len sb cb
    clear hz
    obtain ⟨n, hn⟩ : ∃ n, Dg.vl 4294967296 xs * Dg.vl 4294967296 ys = n := ⟨_, rfl⟩
    have hnl : (Dg.dg 65536 n).length ≤ 3000000 := by
      refine Nat.le_trans (Dg.dg_len_le 65536 n (2 * xs.length + 2 * ys.length) (by omega) ?_) (by omega)
      rw [← hn, Nat.pow_add]
      exact Nat.mul_lt_mul'' (vl_lt_16 sa) (vl_lt_16 sb)
    rw [hn] at h1
    have HN : Hid (Dg.vl 4294967296 xs * Dg.vl 4294967296 ys = n) := hn
    have hsp := capd_split n
    obtain ⟨r, hr⟩ : ∃ r, capd n = r := ⟨_, rfl⟩
    have hlo : ∀ vw w1, Rd w1 .i64 vw (Dg.dg 65536 n) → Calls Try.prog 30 #[.int .i64 0, vw] w1 fun e w' => e = .returned (.int .i64 r.2) ∧ Below w1.heap.size w1 w' := fun vw w1 hw => by
      have := long_any vw n w1 hw hnl
      rwa [hr] at this
    rw [hr] at h1 hsp
    have HSP : Hid (r.1 = if r.2 = 0 then Dg.dg 4294967296 n else []) := hsp
    have HLO : Hid (∀ vw w1, Rd w1 .i64 vw (Dg.dg 65536 n) → Calls Try.prog 30 #[.int .i64 0, vw] w1 fun e w' => e = .returned (.int .i64 r.2) ∧ Below w1.heap.size w1 w') := hlo
    clear hr ca cb hn hsp hlo
    go_enter Try.func8, Try.ntmps8
    go_wp2_with fail
    refine h1.mono ?_
    rintro e w1 ⟨v, rfl, own, b1⟩
    clear h1
    go_wp2_with fail
    refine (HT.out w1 b1).mono ?_
    rintro e w' ⟨rfl, rfl⟩
    go_wp2_with fail
    refine (of_any va xs _ (ha.later b1) sa (by omega)).mono ?_
    rintro e w2 ⟨v1, rfl, r1, b2⟩
    have b12 := below_trans b1 b2
    go_wp2_with fail
    refine (of_any vb ys _ (hb.later b12) sb (by omega)).mono ?_
    rintro e w3 ⟨v2, rfl, r2, b3⟩
    have b13 := below_trans b12 b3
    have hcm := reftimes_any v1 v2 _ _ w3 (r1.later b3) r2 (Dg.small_dg _ _ (by omega)) (Dg.small_dg _ _ (by omega)) (by omega) (by omega)
    rw [Dg.vl_dg _ _ (by omega), Dg.vl_dg _ _ (by omega), HN.out] at hcm
    go_wp2_with fail
    refine hcm.mono ?_
    rintro e w4 ⟨v3, rfl, r3, b4⟩
    have b14 := below_trans b13 b4
    clear hcm
    go_wp2_with fail
    refine (HLO.out v3 w4 r3).mono ?_
    rintro e w5 ⟨rfl, b5⟩
    have b15 := below_trans b14 b5
    go_wp2_with fail
    refine (begun_any w5).mono ?_
    rintro e w6 ⟨rfl, b6⟩
    have b16 := below_trans b15 b6
    have b46 := below_trans b5 b6
    have b26 := below_trans (below_trans (below_trans b2 b3) b4) b46
    have own6 := own.later b26
    have hni := natIs_true v v3 r.1 r.2 n w6 own6.rd (r3.later b46) hnl HSP.out
    go_wp2_with fail
    refine hni.mono ?_
    rintro e w7 ⟨rfl, b7⟩
    have b17 := below_trans b16 b7
    clear hni
    go_wp2
    go_ret
    exact ⟨rfl, b17⟩
  · rw [if_neg h] at h1
    clear hz
    go_enter Try.func8, Try.ntmps8
    go_wp2_with fail
    refine h1.mono ?_
    rintro e w1 ⟨v, rfl, own, b1⟩
    clear h1
    go_wp2_with fail
    refine (HT.out w1 b1).mono ?_
    rintro e w' ⟨rfl, rfl⟩
    go_wp2_with fail
    refine (begun_any _).mono ?_
    rintro e w5 ⟨rfl, b5⟩
    have b15 := below_trans b1 b5
    have hni := natIs_true v (.slice none 0 0) [] c 0 w5 (own.later b5).rd ⟨none, 0, rfl, by simp [Dg.dg_zero], by unfold maxLen; omega, fun h => by simp [Dg.dg_zero] at h⟩ (by simp [Dg.dg_zero]) (by rw [if_neg h])
    go_wp2_with fail
    refine hni.mono ?_
    rintro e w7 ⟨rfl, b7⟩
    have b17 := below_trans b15 b7
    clear hni
    go_wp2
    go_ret
    exact ⟨rfl, b17⟩
end Go.Proofs.Ytepcafhlhnlgaaa

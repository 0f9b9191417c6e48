/-
  The law NatRoots.
-/
import Derived.Test.YtfajoaopfedokaaRoo4
namespace Go.Proofs.Ytfajoaopfedokaa
open Go.RowKit

set_option maxRecDepth 100000 in
set_option maxHeartbeats 1600000 in
theorem roots_bad (va : Value) (xs : List Nat) (k : Int) (w : World) (ha : Rd w .u32 va xs) (hn : rootE xs k ≠ 0) :
    Calls Try.prog 3 #[va, .int .i64 k] w fun e w' => e = .returned (.bool true) ∧ Below w.heap.size w w' := by
  have h1 := root_no va xs k w ha hn
  have hck := fun w1 (b : Below w.heap.size w w1) => checkNat_any va xs w1 (ha.later b)
  unfold rootE at h1 hn
  obtain ⟨c, hc⟩ : ∃ c, chk xs = c := ⟨_, rfl⟩
  rw [hc] at h1 hn
  simp only [hc] at hck
  have HC : Hid (∀ w1, Below w.heap.size w w1 → Calls Try.prog 8 #[va] w1 fun e w' => e = .returned (.int .i64 c) ∧ w' = w1) := hck
  clear hck hc
  by_cases h : c = 0
  · subst h
    rw [if_pos rfl] at h1 hn
    by_cases hr : k < 1 ∨ 10 < k
    · rw [if_pos hr] at h1
      clear hn
      rcases hr with hr | hr
      · go_enter Try.func3, Try.ntmps3
        go_wp2_with fail
        refine h1.mono ?_
        rintro e w1 ⟨rfl, b1⟩
        clear h1
        go_wp2_with fail
        refine (HC.out w1 b1).mono ?_
        rintro e w' ⟨rfl, rfl⟩
        go_wp2_with fail
        refine (begun_any _).mono ?_
        rintro e w5 ⟨rfl, b5⟩
        have b15 := below_trans b1 b5
        go_wp2_with fail
        refine (begun_any _).mono ?_
        rintro e w6 ⟨rfl, b6⟩
        have b16 := below_trans b15 b6
        go_wp2
        go_ret
        exact ⟨rfl, b16⟩
      · have hr2 : ¬ k < 1 := by omega
        go_enter Try.func3, Try.ntmps3
        go_wp2_with fail
        refine h1.mono ?_
        rintro e w1 ⟨rfl, b1⟩
        clear h1
        go_wp2_with fail
        refine (HC.out w1 b1).mono ?_
        rintro e w' ⟨rfl, rfl⟩
        go_wp2_with fail
        refine (begun_any _).mono ?_
        rintro e w5 ⟨rfl, b5⟩
        have b15 := below_trans b1 b5
        go_wp2_with fail
        refine (begun_any _).mono ?_
        rintro e w6 ⟨rfl, b6⟩
        have b16 := below_trans b15 b6
        go_wp2
        go_ret
        exact ⟨rfl, b16⟩
    · rw [if_neg hr] at hn
      exact absurd rfl hn
  · rw [if_neg h] at h1
    have h3 : (c == 0) = false := by simp [h]
    clear hn
    go_enter Try.func3, Try.ntmps3
    go_wp2_with fail
    refine h1.mono ?_
    rintro e w1 ⟨rfl, b1⟩
    clear h1
    go_wp2_with fail
    refine (HC.out w1 b1).mono ?_
    rintro e w' ⟨rfl, rfl⟩
    go_wp2_with fail
    refine (begun_any _).mono ?_
    rintro e w5 ⟨rfl, b5⟩
    have b15 := below_trans b1 b5
    go_wp2_with fail
    refine (begun_any _).mono ?_
    rintro e w6 ⟨rfl, b6⟩
    have b16 := below_trans b15 b6
    go_wp2
    go_ret
    exact ⟨rfl, b16⟩

theorem cmpI_le {a b : Int} (h : a ≤ b) : cmpI a b ≤ 0 := by
  unfold cmpI
  by_cases h1 : a < b
  · rw [if_pos h1]; omega
  · rw [if_neg h1, if_neg (by omega)]; omega

theorem lt_pow16_of_len {x L : Nat} (h : (Dg.dg 65536 x).length ≤ L) : x < 65536 ^ L := by
  have h1 := Dg.vl_lt 65536 _ (Dg.small_dg 65536 x (by omega))
  rw [Dg.vl_dg _ _ (by omega)] at h1
  exact Nat.lt_of_lt_of_le h1 (Nat.pow_le_pow_right (by omega) h)

theorem refpower_len {v : Value} {y k L : Nat} {w : World} (r : Rd w .i64 v (Dg.dg 65536 y)) (hy : (Dg.dg 65536 y).length ≤ L) (hL : L ≤ 10000) (hk : k ≤ 10) :
    Calls Try.prog 12 #[v, .int .i64 k] w (RNum w (y ^ k)) := refpower_any v y k L w r (lt_pow16_of_len hy) hL hk

theorem add_one_len16 {x L : Nat} (h : (Dg.dg 65536 x).length ≤ L) : (Dg.dg 65536 (x + 1)).length ≤ L + 1 := by
  have h1 := lt_pow16_of_len h
  refine Dg.dg_len_le 65536 _ (L + 1) (by omega) ?_
  rw [Nat.pow_succ]
  omega

set_option maxRecDepth 100000 in
set_option maxHeartbeats 1600000 in
theorem roots_good (va : Value) (xs : List Nat) (k : Nat) (w : World) (ha : Rd w .u32 va xs) (sa : Dg.Small 4294967296 xs) (hz : chk xs = 0) (hk1 : 1 ≤ k) (hk2 : k ≤ 10) :
    Calls Try.prog 3 #[va, .int .i64 k] w fun e w' => e = .returned (.bool true) ∧ Below w.heap.size w w' := by
  have h1 := root_yes va xs k w ha sa hz hk1 hk2
  have HC : Hid (∀ w1, Below w.heap.size w w1 → Calls Try.prog 8 #[va] w1 fun e w' => e = .returned (.int .i64 0) ∧ w' = w1) := fun w1 b => by
    have := checkNat_any va xs w1 (ha.later b)
    rwa [hz] at this
  have HOF : Hid (∀ w1, Below w.heap.size w w1 → Calls Try.prog 10 #[va] w1 (RNum w1 (Dg.vl 4294967296 xs))) := fun w1 b => of_any va xs w1 (ha.later b) sa (by have := (chk_zero hz).2; omega)
  obtain ⟨nx, lx⟩ := chk_zero hz
  have hx := Dg.eq_dg 4294967296 (by omega) xs _ sa nx rfl
  have HLE : Hid (∀ x, IsRoot (Dg.vl 4294967296 xs) k x → (Dg.dg 4294967296 x).length ≤ xs.length ∧ (Dg.dg 65536 x).length ≤ 2400) := fun x h => by
    have := dg_len_mono32 (root_le (by omega) h)
    rw [← hx] at this
    have h2 := len16 (xs := Dg.dg 4294967296 x) (Dg.small_dg _ _ (by omega))
    rw [Dg.vl_dg _ _ (by omega)] at h2
    exact ⟨this, by omega⟩
  have HPW : Hid (∀ v y w1, (Dg.dg 65536 y).length ≤ 2401 → Rd w1 .i64 v (Dg.dg 65536 y) → Calls Try.prog 12 #[v, .int .i64 k] w1 (RNum w1 (y ^ k))) := fun v y w1 hy r =>
    refpower_len r hy (by omega) hk2
  have HOC : Hid (∀ v x w1, (Dg.dg 4294967296 x).length ≤ 1200 → Rd w1 .u32 v (Dg.dg 4294967296 x) → Calls Try.prog 10 #[v] w1 (RNum w1 x)) := fun v x w1 hl r => by
    have := of_any v _ w1 r (Dg.small_dg _ _ (by omega)) (by omega)
    rwa [Dg.vl_dg _ _ (by omega)] at this
  have HCK : Hid (∀ v x w1, (Dg.dg 4294967296 x).length ≤ 1200 → Rd w1 .u32 v (Dg.dg 4294967296 x) → Calls Try.prog 8 #[v] w1 fun e w' => e = .returned (.int .i64 0) ∧ w' = w1) := fun v x w1 hl r => by
    have := checkNat_any v _ w1 r
    rwa [chk_of (Dg.norm_dg _ _ (by omega)) hl] at this
  have HPL : Hid (∀ v u x w1, (Dg.dg 65536 x).length ≤ 2400 → Rd w1 .i64 v (Dg.dg 65536 x) → Rd w1 .i64 u [1] → Calls Try.prog 13 #[v, u] w1 (RNum w1 (x + 1))) := fun v u x w1 hl r q => by
    have := refplus_any v u _ _ w1 r q (Dg.small_dg _ _ (by omega)) (Dg.small_cons.2 ⟨by omega, Dg.small_nil _ (by omega)⟩) (Dg.norm_dg _ _ (by omega)) (Dg.norm_dg 65536 1 (by omega)) (by omega) (by simp)
    rwa [Dg.vl_dg _ _ (by omega), show Dg.vl 65536 [1] = 1 from rfl] at this
  have HCM : Hid (∀ v u x y w1, Rd w1 .i64 v (Dg.dg 65536 x) → Rd w1 .i64 u (Dg.dg 65536 y) → Calls Try.prog 11 #[v, u] w1 fun e w' => e = .returned (.int .i64 (cmpI x y)) ∧ Below w1.heap.size w1 w') := fun v u x y w1 r q => by
    have := refcmp_any v u _ _ w1 r q (Dg.small_dg _ _ (by omega)) (Dg.small_dg _ _ (by omega)) (Dg.norm_dg _ _ (by omega)) (Dg.norm_dg _ _ (by omega))
    rwa [Dg.vl_dg _ _ (by omega), Dg.vl_dg _ _ (by omega)] at this
  obtain ⟨ao, ca, rfl⟩ := ha.shape
  obtain ⟨a, haa⟩ : ∃ a, Dg.vl 4294967296 xs = a := ⟨_, rfl⟩
  rw [haa] at h1 HOF HLE
  have g1 : ¬ (k : Int) < 1 := by omega
  have g2 : ¬ 10 < (k : Int) := by omega
  clear hx haa hz nx sa ha
  go_enter Try.func3, Try.ntmps3
  go_wp2_with fail
  refine h1.mono ?_
  rintro e w1 ⟨x, v, rfl, hroot, own, b1⟩
  clear h1
  go_wp2_with fail
  refine (HC.out w1 b1).mono ?_
  rintro e w' ⟨rfl, rfl⟩
  go_wp2_with fail
  refine (begun_any _).mono ?_
  rintro e w2 ⟨rfl, b2⟩
  have b02 := below_trans b1 b2
  have r2 := (own.later b2).rd
  obtain ⟨hl1, hl2⟩ := HLE.out x hroot
  have hck := HCK.out v x w2 (by omega) r2
  have hoc := fun w3 (b : Below w2.heap.size w2 w3) => HOC.out v x w3 (by omega) (r2.later b)
  obtain ⟨so, sc, rfl⟩ := r2.shape
  obtain ⟨mm, hmm⟩ : ∃ mm, (Dg.dg 4294967296 x).length = mm := ⟨_, rfl⟩
  rw [hmm] at hl1 hck hoc ⊢
  have HOC2 : Hid _ := hoc
  have HR1 : Hid (x ^ k ≤ a) := hroot.1
  have HR2 : Hid (a < (x + 1) ^ k) := hroot.2
  have hl3 : ¬xs.length < mm := by omega
  clear HC b1 b2 own hoc hmm r2 hroot HLE HOC HCK
  go_wp2_with fail
  refine hck.mono ?_
  rintro e w3 ⟨rfl, rfl⟩
  clear hck
  go_wp2_with fail
  refine (HOC2.out _ (Below.refl _ _)).mono ?_
  rintro e w4 ⟨v4, rfl, r4, b4⟩
  have b04 := below_trans b02 b4
  go_wp2_with fail
  refine (HOF.out _ b04).mono ?_
  rintro e w5 ⟨v5, rfl, r5, b5⟩
  have b05 := below_trans b04 b5
  have r4 := r4.later b5
  go_wp2_with fail
  refine (HPW.out _ x _ (by omega) r4).mono ?_
  rintro e w6 ⟨v6, rfl, r6, b6⟩
  have b06 := below_trans b05 b6
  have r4 := r4.later b6
  have r5 := r5.later b6
  go_wp2_with fail
  refine (HCM.out _ _ _ _ _ r6 r5).mono ?_
  rintro e w7 ⟨rfl, b7⟩
  have b07 := below_trans b06 b7
  have r4 := r4.later b7
  have r5 := r5.later b7
  have hle := cmpI_le (a := ((x ^ k : Nat) : Int)) (b := (a : Int)) (Int.ofNat_le.2 HR1.out)
  obtain ⟨c1, hc1⟩ : ∃ c1, cmpI ((x ^ k : Nat) : Int) (a : Int) = c1 := ⟨_, rfl⟩
  rw [hc1] at hle ⊢
  have b8 : Below w7.heap.size w7 (w7.alloc (.cells #[.int .i64 ((1 : Nat) : Int)] 3)) := (Below.refl _ _).alloc (Nat.le_refl _) _
  have rn := rd_new (w := w7) (k := .i64) (e := 3) [1] #[.int .i64 ((1 : Nat) : Int)] rfl (by unfold maxLen; simp)
  have hpl := HPL.out _ _ x _ hl2 (r4.later b8) rn
  have b08 := below_trans b07 b8
  have r5 := r5.later b8
  clear hc1 b4 b5 b6 b7 b8 r4 r6 rn
  go_wp2_with fail
  refine hpl.mono ?_
  rintro e w9 ⟨v9, rfl, r9, b9⟩
  have b09 := below_trans b08 b9
  have r5 := r5.later b9
  have hl9 := add_one_len16 hl2
  clear hpl
  go_wp2_with fail
  refine (HPW.out _ (x + 1) _ hl9 r9).mono ?_
  rintro e w10 ⟨v10, rfl, r10, b10⟩
  have b010 := below_trans b09 b10
  have r5 := r5.later b10
  go_wp2_with fail
  refine (HCM.out _ _ _ _ _ r10 r5).mono ?_
  rintro e w11 ⟨rfl, b11⟩
  have b011 := below_trans b010 b11
  rw [cmpI_gt (Int.ofNat_lt.2 HR2.out)]
  go_wp2
  go_ret
  exact ⟨rfl, b011⟩

theorem roots_walk (va : Value) (xs : List Nat) (k : Int) (w : World) (ha : Rd w .u32 va xs) (sa : Dg.Small 4294967296 xs) :
    Calls Try.prog 3 #[va, .int .i64 k] w fun e w' => e = .returned (.bool true) ∧ Below w.heap.size w w' := by
  by_cases h : rootE xs k = 0
  · obtain ⟨h1, h2, h3⟩ := rootE_zero h
    obtain ⟨n, rfl⟩ : ∃ n : Nat, k = n := ⟨k.toNat, by omega⟩
    exact roots_good va xs n w ha sa h1 (by omega) (by omega)
  · exact roots_bad va xs k w ha h
end Go.Proofs.Ytfajoaopfedokaa

/-
  Rest: the walk of RestNats, paid.
-/
import Derived.Test.YtmjhlflemfkflaaRn2
namespace Go.Proofs.Ytmjhlflemfkflaa
open Go.RowKit

/-- What choose answers, of a hundred. -/
def chooseC (c : Int) : Int := if c < 0 then (-(c + 1)) % 100 else c % 100

theorem chooseC_range (c : Int) : 0 ≤ chooseC c ∧ chooseC c < 100 := by
  unfold chooseC
  split <;> omega

set_option maxRecDepth 100000 in
theorem chooseC_any (c : Int) (w : World) (h1 : -9223372036854775808 ≤ c) (h2 : c ≤ 9223372036854775807) :
    Calls Try.prog 8 #[.int .i64 c, .int .i64 100] w fun e w' => e = .returned (.int .i64 (chooseC c)) ∧ w' = w := by
  unfold chooseC
  by_cases h : c < 0
  · rw [if_pos h]
    have ht : (c + 1).tmod 100 = -((-(c + 1)) % 100) := by
      have := Int.neg_tmod (-(c + 1)) 100
      rw [Int.neg_neg] at this
      have h2 : (-(c + 1)).tmod 100 = (-(c + 1)) % 100 := Int.tmod_eq_emod_of_nonneg (by omega)
      rw [this, h2]
    obtain ⟨d, hd⟩ : ∃ d : Nat, (-(c + 1)) % 100 = (d : Int) := ⟨((-(c + 1)) % 100).toNat, by omega⟩
    rw [hd] at ht ⊢
    have hdl : d < 100 := by omega
    clear hd
    go_enter Try.func8, Try.ntmps8
    go_wp2
    go_ret
    exact ⟨by go_num, rfl⟩
  · rw [if_neg h]
    obtain ⟨d, hd⟩ : ∃ d : Nat, c % 100 = (d : Int) := ⟨(c % 100).toNat, by omega⟩
    have ht : c.tmod 100 = (d : Int) := by rw [Int.tmod_eq_emod_of_nonneg (by omega)]; exact hd
    have hdl : d < 100 := by omega
    rw [hd]
    go_enter Try.func8, Try.ntmps8
    go_wp2
    go_ret
    exact ⟨by go_num, rfl⟩

theorem rootX_le {a k x : Nat} (hk : 1 ≤ k) (h : IsRoot a k x) : x ≤ a := by
  obtain ⟨h1, -⟩ := h
  obtain ⟨j, rfl⟩ : ∃ j, k = j + 1 := ⟨k - 1, by omega⟩
  rcases Nat.eq_zero_or_pos x with rfl | hx
  · exact Nat.zero_le _
  · refine Nat.le_trans ?_ h1
    rw [Nat.pow_succ]
    exact Nat.le_mul_of_pos_left _ (Nat.pow_pos hx)

theorem rootX_any (va : Value) (xs : List Nat) (k : Int) (w : World) (ha : Rd w .u32 va xs) (sa : Dg.Small 4294967296 xs) (k1 : 1 ≤ k) (k2 : k ≤ 10) : Calls Try.prog 13 #[va, .int .i64 k] w (RootX w (rootE xs k)) := by
  by_cases h : rootE xs k = 0
  · rw [h]
    obtain ⟨c1, -, -⟩ := rootE_zero h
    obtain ⟨n1, l1⟩ := chk_zero c1
    obtain ⟨m, rfl⟩ : ∃ m : Nat, k = (m : Int) := ⟨k.toNat, by omega⟩
    refine (root_yes va xs m w ha sa c1 (by omega) (by omega)).mono ?_
    rintro z w' ⟨x, v, rfl, hx, ho, hb⟩
    refine ⟨_, v, rfl, fun _ => ?_, ho, hb⟩
    refine chk_of (Dg.norm_dg _ _ (by omega)) ?_
    have := dg_len_mono32 (rootX_le (by omega) hx)
    rw [← Dg.eq_dg 4294967296 (by omega) xs _ sa n1 rfl] at this
    omega
  · refine (root_no va xs k w ha h).mono ?_
    rintro z w' ⟨rfl, b⟩
    exact ⟨[], _, rfl, fun c => absurd c h, own_nil _ _ _ _, b⟩

/-- What Div answers. -/
def divQ (xs ys : List Nat) : List Nat := if divE xs ys = 0 then Dg.dg 4294967296 (Dg.vl 4294967296 xs / Dg.vl 4294967296 ys) else []
def divR (xs ys : List Nat) : List Nat := if divE xs ys = 0 then Dg.dg 4294967296 (Dg.vl 4294967296 xs % Dg.vl 4294967296 ys) else []

theorem divX_zero {xs ys : List Nat} (h : divE xs ys = 0) : chk2 xs ys = 0 ∧ ys ≠ [] := by
  unfold divE at h
  by_cases h1 : chk2 xs ys = 0
  · refine ⟨h1, fun c => ?_⟩
    rw [if_pos h1, if_pos c] at h
    cases h
  · rw [if_neg h1] at h
    exact absurd h h1

theorem divX_any (va vb : Value) (xs ys : List Nat) (w : World) (ha : Rd w .u32 va xs) (hb : Rd w .u32 vb ys) (sa : Dg.Small 4294967296 xs) (sb : Dg.Small 4294967296 ys) :
    Calls Try.prog 11 #[va, vb] w fun e w' => DivA w e w' (divQ xs ys) (divR xs ys) (divE xs ys) := by
  unfold divQ divR
  by_cases h : divE xs ys = 0
  · rw [if_pos h, if_pos h, h]
    obtain ⟨h1, h2⟩ := divX_zero h
    exact div_yes va vb xs ys w ha hb sa sb h1 h2
  · rw [if_neg h, if_neg h]
    exact div_no va vb xs ys w ha hb h

theorem natR_zero {c : Int} {n : Nat} (h : c = 0) (h2 : (natR c n).2 = 0) : (natR c n).1 = Dg.dg 4294967296 n := by
  unfold natR capd at h2 ⊢
  rw [if_pos h] at h2 ⊢
  split at h2
  · rename_i h3
    rw [if_pos h3]
  · cases h2

theorem dg16_of {N k : Nat} (h : N < 4294967296 ^ k) : (Dg.dg 65536 N).length ≤ 2 * k := by
  refine Dg.dg_len_le 65536 N _ (by omega) ?_
  rw [Nat.pow_mul]
  exact h

theorem rest_sizes {X Y a b m : Nat} (hX : X < 4294967296 ^ a) (hY : Y < 4294967296 ^ b) (hm : m < 128) :
    X + Y < 4294967296 ^ (a + b + 1) ∧ X * Y < 4294967296 ^ (a + b) ∧ X * 2 ^ m < 4294967296 ^ (a + 4) := by
  have h1 : 4294967296 ^ a ≤ 4294967296 ^ (a + b) := Nat.pow_le_pow_right (by omega) (by omega)
  have h2 : 4294967296 ^ b ≤ 4294967296 ^ (a + b) := Nat.pow_le_pow_right (by omega) (by omega)
  refine ⟨?_, ?_, ?_⟩
  · rw [Nat.pow_succ]
    omega
  · rw [Nat.pow_add]
    exact Nat.mul_lt_mul'' hX hY
  · have h3 : 2 ^ m ≤ 2 ^ 128 := Nat.pow_le_pow_right (by omega) (by omega)
    rw [Nat.pow_add, show (4294967296 : Nat) ^ 4 = 2 ^ 128 from by decide]
    exact Nat.lt_of_le_of_lt (Nat.mul_le_mul_left X h3) (Nat.mul_lt_mul_of_pos_right hX (Nat.pow_pos (by omega)))

theorem restNats_walk (ao : Option Addr) (ca : Nat) (xs : List Nat) (bo : Option Addr) (cb : Nat) (ys : List Nat) (n : Int) (w : World) (ha : Rd w .u32 (.slice ao xs.length ca) xs) (sa : Dg.Small 4294967296 xs) (hb : Rd w .u32 (.slice bo ys.length cb) ys) (sb : Dg.Small 4294967296 ys)
    (hla : xs.length * 4 ≤ 140737488351232) (hlb : ys.length * 4 ≤ 140737488351232) (m1 : -9223372036854775808 ≤ n) (m2 : n ≤ 9223372036854775807) :
    Calls Try.prog 3 #[.slice ao xs.length ca, .slice bo ys.length cb, .int .i64 n] w fun z w' => z = .returned (.bool true) ∧ Below w.heap.size w w' := by
  obtain ⟨n1, n2⟩ := chooseC_range n
  have hz : chk2 xs ys = 0 → xs.length ≤ 1200 ∧ ys.length ≤ 1200 ∧ Dg.Norm xs ∧ Dg.Norm ys := fun h => by
    obtain ⟨c1, c2⟩ := chk2_zero h
    exact ⟨(chk_zero c1).2, (chk_zero c2).2, (chk_zero c1).1, (chk_zero c2).1⟩
  have hA := Dg.vl_lt 4294967296 xs sa
  have hB := Dg.vl_lt 4294967296 ys sb
  have hS := rest_sizes hA hB (show (chooseC n).toNat < 128 by omega)
  refine restNatsW ao ca xs bo cb ys n (chooseC n) _ (natR (chk2 xs ys) (Dg.vl 4294967296 xs + Dg.vl 4294967296 ys)).1 (natR (chk2 xs ys) (Dg.vl 4294967296 xs * Dg.vl 4294967296 ys)).1 (divQ xs ys) (divR xs ys) (shR xs (chooseC n)).1
    (natR (chk2 xs ys) (Dg.vl 4294967296 xs + Dg.vl 4294967296 ys)).2 (natR (chk2 xs ys) (Dg.vl 4294967296 xs * Dg.vl 4294967296 ys)).2 (divE xs ys) (shR xs (chooseC n)).2 (rootE xs (1 + chooseC n % 10)) (chk2 xs ys)
    (Dg.vl 4294967296 xs) (Dg.vl 4294967296 ys) (Dg.vl 4294967296 xs + Dg.vl 4294967296 ys) (Dg.vl 4294967296 xs * Dg.vl 4294967296 ys) (Dg.vl 4294967296 xs * 2 ^ (chooseC n).toNat) (Dg.vl 4294967296 xs / Dg.vl 4294967296 ys) (Dg.vl 4294967296 xs % Dg.vl 4294967296 ys) w
    ha hb hla hlb n1 n2 rfl begun_any ?_ ?_ ?_ ?_ ?_ ?_ ?_ ?_ ?_ ?_ ?_ ?_ ?_ ?_ ?_ ?_ ?_ ?_ ?_ ?_ ?_ ?_ ?_ ?_
  · intro w1
    exact chooseC_any n w1 m1 m2
  · intro v u w1 r1 r2
    exact add_nat v u xs ys w1 r1 r2 sa sb
  · intro v u w1 r1 r2
    exact mul_nat v u xs ys w1 r1 r2 sa sb
  · intro v u w1 r1 r2
    exact divX_any v u xs ys w1 r1 r2 sa sb
  · intro v w1 r1
    exact shift_nat v xs _ w1 r1 sa
  · intro v w1 r1
    exact rootX_any v xs _ w1 r1 sa (by omega) (by omega)
  · intro zs v u w1 r1 r2
    have := same_any v u zs zs w1 r1 r2
    rwa [decide_eq_true rfl] at this
  · intro w1 b
    exact twoNats_any _ _ xs ys w1 (ha.later b) (hb.later b)
  · intro h w1 b
    have := hz h
    exact of_any _ xs w1 (ha.later b) sa (by omega)
  · intro h w1 b
    have := hz h
    exact of_any _ ys w1 (hb.later b) sb (by omega)
  · intro h v u w1 r1 r2
    obtain ⟨z1, z2, -, -⟩ := hz h
    have l1 := dg16_of hA
    have l2 := dg16_of hB
    have := refplus_any v u _ _ w1 r1 r2 (Dg.small_dg _ _ (by omega)) (Dg.small_dg _ _ (by omega)) (Dg.norm_dg _ _ (by omega)) (Dg.norm_dg _ _ (by omega)) (by omega) (by omega)
    rwa [Dg.vl_dg _ _ (by omega), Dg.vl_dg _ _ (by omega)] at this
  · intro h v u w1 r1 r2
    obtain ⟨z1, z2, -, -⟩ := hz h
    have l1 := dg16_of hA
    have l2 := dg16_of hB
    have := reftimes_any v u _ _ w1 r1 r2 (Dg.small_dg _ _ (by omega)) (Dg.small_dg _ _ (by omega)) (by omega) (by omega)
    rwa [Dg.vl_dg _ _ (by omega), Dg.vl_dg _ _ (by omega)] at this
  · intro h v w1 r1
    obtain ⟨z1, z2, -, -⟩ := hz h
    have l1 := dg16_of hA
    have := up_any v _ (chooseC n).toNat w1 r1 (Dg.small_dg _ _ (by omega)) (by omega) (by omega)
    rwa [Dg.vl_dg _ _ (by omega), Int.toNat_of_nonneg n1] at this
  · intro h h3 v u w1 r1 r2
    obtain ⟨z1, z2, -, z4⟩ := hz h
    have l1 := dg16_of hA
    have l2 := dg16_of hB
    refine into_any v u _ _ w1 r1 r2 (by omega) (by omega) (Nat.pos_of_ne_zero fun c => (divX_zero h3).2 ?_)
    have e := Dg.eq_dg 4294967296 (by omega) ys _ sb z4 rfl
    rw [c] at e
    exact e
  · intro h v w1 r
    obtain ⟨z1, z2, -, -⟩ := hz h
    have := dg16_of hS.1
    exact to_num v _ w1 r (by omega)
  · intro h v w1 r
    obtain ⟨z1, z2, -, -⟩ := hz h
    have := dg16_of hS.2.1
    exact to_num v _ w1 r (by omega)
  · intro h v w1 r
    obtain ⟨z1, z2, -, -⟩ := hz h
    have := dg16_of hS.2.2
    exact to_num v _ w1 r (by omega)
  · intro h v w1 r
    obtain ⟨z1, z2, -, -⟩ := hz h
    have := dg16_of (Nat.lt_of_le_of_lt (Nat.div_le_self _ (Dg.vl 4294967296 ys)) hA)
    exact to_num v _ w1 r (by omega)
  · intro h v w1 r
    obtain ⟨z1, z2, -, -⟩ := hz h
    have := dg16_of (Nat.lt_of_le_of_lt (Nat.mod_le _ (Dg.vl 4294967296 ys)) hA)
    exact to_num v _ w1 r (by omega)
  · intro h h2
    exact natR_zero h h2
  · intro h h2
    exact natR_zero h h2
  · intro h h2
    have hsh : shR xs (chooseC n) = capd (Dg.vl 4294967296 xs * 2 ^ (chooseC n).toNat) := by
      unfold shR
      rw [if_pos (chk2_zero h).1, if_neg (by omega)]
      unfold shN
      rw [if_neg (by omega)]
    rw [hsh] at h2 ⊢
    exact natR_zero (c := 0) rfl (by unfold natR; rw [if_pos rfl]; exact h2)
  · intro h h3
    exact ⟨if_pos h3, if_pos h3⟩
  · intro zs v w1 r
    exact check_any v zs w1 r
end Go.Proofs.Ytmjhlflemfkflaa

/-
  Contracts of dyad.Floor and of the reference's FloorOf.
-/
import Derived.Test.YtgbccbmflokooaaGreatDoorDd
import Derived.Test.YtgbccbmflokooaaGreatDoorDc
namespace Go.Proofs.YtgbccbmflokooaaGreatDoor
open Go.RowKit

theorem shN_bare (t : Trip) : shN (bare t).n (bare t).e = shN t.n t.e := by
  by_cases h0 : t.n = 0
  · unfold bare
    rw [if_pos h0]
    unfold shN
    simp only [h0]
    by_cases h : t.e < 0
    · simp [h]
    · simp [h]
  · obtain ⟨m, hm⟩ := tz_spec h0
    have hd := div_tz hm
    unfold bare
    rw [if_neg h0]
    simp only
    rw [hd]
    obtain ⟨k, hk⟩ : ∃ k, tz t.n = k := ⟨_, rfl⟩
    rw [hk] at hm ⊢
    obtain ⟨q, hq⟩ : ∃ q, 2 * m + 1 = q := ⟨_, rfl⟩
    rw [hq] at hm ⊢
    unfold shN
    by_cases h1 : t.e < 0
    · rw [if_pos h1]
      obtain ⟨j, hj⟩ : ∃ j : Nat, t.e = -(j : Int) := ⟨(-t.e).toNat, by omega⟩
      rw [hj]
      simp only [Int.neg_neg, Int.toNat_natCast]
      by_cases h2 : -(j : Int) + (k : Int) < 0
      · rw [if_pos h2]
        have e1 : (-(-(j : Int) + (k : Int))).toNat = j - k := by omega
        rw [e1, hm]
        have e2 : (2 : Nat) ^ j = 2 ^ k * 2 ^ (j - k) := by rw [← Nat.pow_add]; congr 1; omega
        rw [e2, Nat.mul_div_mul_left _ _ (Nat.pow_pos (by omega))]
      · rw [if_neg h2]
        have e1 : (-(j : Int) + (k : Int)).toNat = k - j := by omega
        rw [e1, hm]
        have e2 : (2 : Nat) ^ k = 2 ^ j * 2 ^ (k - j) := by rw [← Nat.pow_add]; congr 1; omega
        rw [e2, Nat.mul_assoc, Nat.mul_div_cancel_left _ (Nat.pow_pos (by omega)), Nat.mul_comm]
    · rw [if_neg h1]
      have h2 : ¬t.e + (k : Int) < 0 := by omega
      rw [if_neg h2]
      have e1 : (t.e + (k : Int)).toNat = t.e.toNat + k := by omega
      rw [e1, hm, Nat.pow_add, Nat.mul_comm (2 ^ k) q, Nat.mul_assoc, Nat.mul_comm (2 ^ k)]

theorem shN_len2 {N L : Nat} {n : Int} (h : (Dg.dg 65536 N).length ≤ L) (_h1 : -1000000 ≤ n) (h2 : n ≤ 1000000) : (Dg.dg 65536 (shN N n)).length ≤ L + 62501 := by
  unfold shN
  by_cases hn : n < 0
  · rw [if_pos hn]
    exact Nat.le_trans (dg_len_mono 65536 _ N (by omega) (Nat.div_le_self _ _)) (by omega)
  · rw [if_neg hn]
    have := len_pow2 n.toNat
    exact Nat.le_trans (mul_len16 _ _ _ _ h this) (by omega)

set_option maxRecDepth 100000 in
set_option maxHeartbeats 800000 in
theorem floorOf_any (v : Value) (t : Trip) (w : World) (hv : Rv w v t) (hL : (Dg.dg 65536 t.n).length ≤ 100000) (h1 : -1000000 ≤ t.e) (h2 : t.e ≤ 1000000) :
    Calls Tryz.prog 35 #[v] w (RNum w (shN t.n t.e)) := by
  obtain ⟨s0, rfl, hr⟩ := hv
  have HU : Hid (¬t.e < 0 → ∀ w1, Below w.heap.size w w1 → Calls Tryz.prog 65 #[s0, .int .i64 t.e] w1 (RNum w1 (shN t.n t.e))) := fun h w1 b => by
    unfold shN
    rw [if_neg h]
    obtain ⟨m, hm⟩ : ∃ m : Nat, t.e = (m : Int) := ⟨t.e.toNat, by omega⟩
    rw [hm, Int.toNat_natCast]
    have := up_any s0 _ m w1 (hr.later b) (Dg.small_dg _ _ (by omega)) (by omega) (by omega)
    rwa [Dg.vl_dg _ _ (by omega)] at this
  have HD : Hid (t.e < 0 → ∀ w1, Below w.heap.size w w1 → Calls Tryz.prog 64 #[s0, .int .i64 (-t.e)] w1 (RNum w1 (shN t.n t.e))) := fun h w1 b => by
    unfold shN
    rw [if_pos h]
    obtain ⟨m, hm⟩ : ∃ m : Nat, -t.e = (m : Int) := ⟨(-t.e).toNat, by omega⟩
    rw [hm, Int.toNat_natCast]
    have := down_any s0 _ m (m / 16) (m % 16) (2 ^ (m % 16)) (2 ^ (16 - m % 16)) w1 (hr.later b) (Dg.small_dg _ _ (by omega)) (by omega) (by omega) (by omega) (by omega) rfl rfl
    rwa [Dg.vl_dg _ _ (by omega)] at this
  obtain ⟨ao, ca, rfl⟩ := hr.shape
  obtain ⟨ts, n, e⟩ := t
  simp only at HU HD h1 h2 ⊢
  obtain ⟨R, hR⟩ : ∃ R, shN n e = R := ⟨_, rfl⟩
  rw [hR] at HU HD ⊢
  obtain ⟨m, hm⟩ : ∃ m, (Dg.dg 65536 n).length = m := ⟨_, rfl⟩
  rw [hm] at HU HD ⊢
  have bA := below_alloc w (.cells #[.bool ts, .slice ao m ca, .int .i64 e] 32)
  clear hr hL hR hm
  by_cases h : e < 0
  · have h3 : ¬0 ≤ e := by omega
    go_enter Tryz.func35, Tryz.ntmps35
    go_wp2_with fail
    refine (HD.out h _ bA).mono ?_
    rintro z w1 ⟨v1, rfl, r1, b1⟩
    have b01 := below_trans bA b1
    go_wp2
    go_ret
    exact ⟨_, rfl, r1, b01⟩
  · have h3 : 0 ≤ e := by omega
    go_enter Tryz.func35, Tryz.ntmps35
    go_wp2_with fail
    refine (HU.out h _ bA).mono ?_
    rintro z w1 ⟨v1, rfl, r1, b1⟩
    have b01 := below_trans bA b1
    go_wp2
    go_ret
    exact ⟨_, rfl, r1, b01⟩

/-- dyad.Floor answers so. -/
def FlA (w : World) (l : List Nat) (b : Bool) (c : Int) (e : Ending) (w' : World) : Prop :=
  ∃ v, e = .returned (.tuple #[v, .bool b, .int .i64 c]) ∧ Own w' w.heap.size 84 .u32 v l ∧ Below w.heap.size w w'

def floorC (xs : List Nat) (e : Int) : Int := if dchk xs e = 0 then (capd (shN (Dg.vl 4294967296 xs) e)).2 else dchk xs e
def floorL (xs : List Nat) (e : Int) : List Nat := if dchk xs e = 0 then (capd (shN (Dg.vl 4294967296 xs) e)).1 else []
def floorB (s : Bool) (xs : List Nat) (e : Int) : Bool := if floorC xs e = 0 then decide (signT ⟨s, Dg.vl 4294967296 xs, e⟩ < 0) else false

theorem bare_fits' {t : Trip} (h : (Dg.dg 4294967296 t.n).length ≤ 1200) (h1 : -20000 ≤ t.e) (h2 : t.e ≤ 20000) : (Dg.dg 65536 (bare t).n).length ≤ 2400 ∧ -20000 ≤ (bare t).e ∧ (bare t).e ≤ 58400 := by
  have h3 := tz_fits t.n 1200 h
  have h4 := dg16_len t.n 1200 h
  unfold bare
  split
  · exact ⟨by show ([] : List Nat).length ≤ 2400; simp, by simp, by simp⟩
  · refine ⟨Nat.le_trans (dg_len_mono 65536 _ t.n (by omega) (Nat.div_le_self _ _)) (by omega), ?_, ?_⟩
    · simp only; omega
    · simp only; omega
end Go.Proofs.YtgbccbmflokooaaGreatDoor

/-
  Balls: ball.Sqrt of whatever it is handed.
-/
import Derived.Test.YtmjhlflemfkflaaDoorBq1
import Derived.Test.YtmjhlflemfkflaaDoorBm6
import Derived.Test.YtmjhlflemfkflaaDoorBg
import Derived.Test.YtmjhlflemfkflaaDoorBb
namespace Go.Proofs.YtmjhlflemfkflaaDoor
open Go.RowKit

theorem rootS_le (t : Trip) (B : Nat) (h : bitLen t.n ≤ 38400) (hB : B ≤ 4096) : rootS t B ≤ 8193 ∧ bitLen t.n + rootS t B ≤ 38401 := by
  unfold rootS
  split <;> omega

/-- What a root takes. -/
theorem root_fits {t : Trip} {B : Nat} (h : bitLen t.n ≤ 38400) (hB : B ≤ 4096) (h1 : -20000 ≤ t.e) (h2 : t.e ≤ 20000) :
    (Dg.dg 4294967296 (t.n * 2 ^ rootS t B)).length ≤ 1300 ∧ bitLen (rootT t B).n ≤ 38402 ∧ (Dg.dg 4294967296 (rootT t B).n).length ≤ 9000 ∧ -100000 ≤ (rootT t B).e ∧ (rootT t B).e ≤ 100000 := by
  obtain ⟨s1, s2⟩ := rootS_le t B h hB
  have x1 : t.n * 2 ^ rootS t B < 2 ^ (bitLen t.n + rootS t B) := by
    rw [Nat.pow_add]
    exact Nat.mul_lt_mul_of_pos_right (bitLen_spec t.n).1 (Nat.pow_pos (by omega))
  have x2 : rootOf (t.n * 2 ^ rootS t B) 2 ≤ t.n * 2 ^ rootS t B := root_le (by omega) (rootOf_is _)
  have x3 : (rootT t B).n < 2 ^ (bitLen t.n + rootS t B + 1) := by
    have h3 : (rootT t B).n = rootOf (t.n * 2 ^ rootS t B) 2 * 2 + (if decide (rootOf (t.n * 2 ^ rootS t B) 2 * rootOf (t.n * 2 ^ rootS t B) 2 < t.n * 2 ^ rootS t B) = true then 1 else 0) := rfl
    rw [h3, Nat.pow_succ]
    generalize 2 ^ (bitLen t.n + rootS t B) = m at x1 ⊢
    split <;> omega
  have he : (rootT t B).e = (t.e - (rootS t B : Int)) / 2 - 1 := rfl
  have x4 := bitLen_le_of _ _ x3
  refine ⟨pow_len32 x1 (by omega), by omega, Nat.le_trans (pow_len32 x3 (L := 1300) (by omega)) (by omega), by omega, by omega⟩

theorem sign_cmp (a : Trip) : signT a = cmpT a zeroT := by
  have k0 : -((a.e.natAbs : Nat) : Int) ≤ a.e := by omega
  have kz : -((a.e.natAbs : Nat) : Int) ≤ zeroT.e := by show _ ≤ (0 : Int); omega
  rw [cmpT_sgn k0 kz, V_zeroT, Int.sub_zero, signT_sgn]

def sel2 {α : Type} (a b : α) : Nat → α
  | 0 => a
  | _ => b

set_option maxHeartbeats 800000 in
theorem bSqrt_ok (s : Bool) (ao : Option Addr) (ca : Nat) (xs : List Nat) (e : Int) (t : Bool) (bo : Option Addr) (cb : Nat) (ys : List Nat) (f : Int) (n : Int) (w : World)
    (ha : Rd w .u32 (.slice ao xs.length ca) xs) (hb : Rd w .u32 (.slice bo ys.length cb) ys) (sa : Dg.Small 4294967296 xs) (sb : Dg.Small 4294967296 ys) (hT : Tab w) :
    Calls Tryd.prog 14 #[.agg #[.bool s, .slice ao xs.length ca, .int .i64 e, .bool t, .slice bo ys.length cb, .int .i64 f], .int .i64 n] w
      (BOwn w (sqrtR (wrong1 n (bchk s xs e t ys f)) (cmpT ⟨s, Dg.vl 4294967296 xs, e⟩ zeroT) (leastR (twoT (rootT ⟨s, Dg.vl 4294967296 xs, e⟩ n.toNat) (rootT ⟨t, Dg.vl 4294967296 ys, f⟩ n.toNat)) 2 n))) := by
  have OK : wrong1 n (bchk s xs e t ys f) = 0 → dchk xs e = 0 ∧ dchk ys f = 0 ∧ 1 ≤ n ∧ n ≤ 4096 ∧ ((n.toNat : Nat) : Int) = n := fun h0 => by
    obtain ⟨q1, n1, n2⟩ := wrong1_zero h0
    obtain ⟨i1, i2, _⟩ := bchk_zero q1
    exact ⟨i1, i2, n1, n2, by omega⟩
  have ROOT : wrong1 n (bchk s xs e t ys f) = 0 → ∀ {S1 : Bool} {O1 : Option Addr} {C1 : Nat} {L1 : List Nat} {E1 : Int}, Rd w .u32 (.slice O1 L1.length C1) L1 → Dg.Small 4294967296 L1 → dchk L1 E1 = 0 → ∀ w1, Below w.heap.size w w1 →
      Calls Tryd.prog 49 #[.agg #[.bool S1, .slice O1 L1.length C1, .int .i64 E1], .int .i64 n] w1 (DRes w1 (rootT ⟨S1, Dg.vl 4294967296 L1, E1⟩ n.toNat)) := fun h0 {S1 O1 C1 L1 E1} r1 s1 c1 w1 b1 => by
    obtain ⟨_, _, n1, n2, hn⟩ := OK h0
    obtain ⟨v1, v2, v3, v4, v5⟩ := num_ok c1 s1
    obtain ⟨f1, _⟩ := root_fits (t := ⟨S1, Dg.vl 4294967296 L1, E1⟩) (B := n.toNat) (bits_of v2 v3) (by omega) v4 v5
    have h := droot_any _ ⟨S1, Dg.vl 4294967296 L1, E1⟩ n.toNat w1 (dv_of (r1.later b1) s1 v1) (by rw [v2]; omega) (by show -100000 ≤ E1; omega) (by show E1 ≤ 100000; omega) (by omega) f1
    rw [hn] at h
    exact h
  refine bsqrtW_any s ao ca xs.length e t bo cb ys.length f n (wrong1 n (bchk s xs e t ys f)) (cmpT ⟨s, Dg.vl 4294967296 xs, e⟩ zeroT) (rootT ⟨s, Dg.vl 4294967296 xs, e⟩ n.toNat) (rootT ⟨t, Dg.vl 4294967296 ys, f⟩ n.toNat) _ w
    (fun b w1 b1 h => ?_) (fun h0 w1 b1 => ?_) (fun h0 _ w1 b1 => ROOT h0 ha sa (OK h0).1 w1 b1) (fun h0 _ w1 b1 => ROOT h0 hb sb (OK h0).2.1 w1 b1) (fun h0 _ o0 c0 o1 c1 w1 b1 r0 r1 => ?_)
  · obtain ⟨h0, h1, h2, h3, h4, h5⟩ := h
    exact bwrong1_any n b s ao ca xs.length e t bo cb ys.length f _ w1 h0 h1 h2 h3 h4 h5 (fun w2 b2 => bcheck_any s ao ca xs e t bo cb ys f w2 (ha.later (below_trans b1 b2)) (hb.later (below_trans b1 b2)) sa sb)
  · obtain ⟨i1, _⟩ := OK h0
    obtain ⟨v1, v2, v3, v4, v5⟩ := num_ok i1 sa
    rw [← sign_cmp]
    exact dsign_any _ _ w1 (dv_of (ha.later b1) sa v1)
  · obtain ⟨i1, i2, n1, n2, hn⟩ := OK h0
    obtain ⟨v1, v2, v3, v4, v5⟩ := num_ok i1 sa
    obtain ⟨u1, u2, u3, u4, u5⟩ := num_ok i2 sb
    obtain ⟨_, _, a3, a4, a5⟩ := root_fits (t := ⟨s, Dg.vl 4294967296 xs, e⟩) (B := n.toNat) (bits_of v2 v3) (by omega) v4 v5
    obtain ⟨_, _, c3, c4, c5⟩ := root_fits (t := ⟨t, Dg.vl 4294967296 ys, f⟩) (B := n.toNat) (bits_of u2 u3) (by omega) u4 u5
    obtain ⟨T0, hT0⟩ : ∃ T, rootT ⟨s, Dg.vl 4294967296 xs, e⟩ n.toNat = T := ⟨_, rfl⟩
    obtain ⟨T1, hT1⟩ : ∃ T, rootT ⟨t, Dg.vl 4294967296 ys, f⟩ n.toNat = T := ⟨_, rfl⟩
    rw [hT0] at a3 a4 a5 r0 ⊢
    rw [hT1] at c3 c4 c5 r1 ⊢
    have FA := twoT_all T0 T1 (fun T => (Dg.dg 4294967296 T.n).length ≤ 9000 ∧ -100000 ≤ T.e ∧ T.e ≤ 100000) ⟨a3, a4, a5⟩ ⟨c3, c4, c5⟩
    exact bleast_ok n w1.heap.size 2 (twoT T0 T1) (sel2 o0 o1) (sel2 c0 c1) _ (by omega) (by omega) (by simp [World.size_alloc]) (fun j hj => match j, hj with
      | 0, _ => ⟨by rw [World.cell?_alloc_at _ _ _ _ rfl]; rfl, by rw [World.cell?_alloc_at _ _ _ _ rfl]; rfl, by rw [World.cell?_alloc_at _ _ _ _ rfl]; rfl, r0.later (below_alloc _ _)⟩
      | 1, _ => ⟨by rw [World.cell?_alloc_at _ _ _ _ rfl]; rfl, by rw [World.cell?_alloc_at _ _ _ _ rfl]; rfl, by rw [World.cell?_alloc_at _ _ _ _ rfl]; rfl, r1.later (below_alloc _ _)⟩) n1 n2 (fun j _ => (FA j).1) (fun j _ => (FA j).2.1) (fun j _ => (FA j).2.2) (hT.later (below_trans b1 (below_alloc _ _)))
end Go.Proofs.YtmjhlflemfkflaaDoor

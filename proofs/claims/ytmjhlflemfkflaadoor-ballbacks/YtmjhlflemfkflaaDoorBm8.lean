/-
  Balls, without the program: what was divided, times what it was divided by, has what it was; a root, times itself, likewise.
-/
import Derived.Test.YtmjhlflemfkflaaDoorBm5
import Derived.Test.YtmjhlflemfkflaaDoorBm6
namespace Go.Proofs.YtmjhlflemfkflaaDoor
open Go.RowKit

theorem least_ok2 {x : Nat → Trip} {m : Nat} {n : Int} {p q : Trip} (h : leastR x m n = (p, q, 0)) : shortT (cutT (loT x (m - 1)) n false) = (p, 0) ∧ shortT (cutT (hiT x (m - 1)) n true) = (q, 0) := by
  have h' : ballR (shortT (cutT (loT x (m - 1)) n false)) (shortT (cutT (hiT x (m - 1)) n true)) = (p, q, 0) := h
  unfold ballR at h'
  obtain ⟨⟨r1, c1⟩, e1⟩ : ∃ r, shortT (cutT (loT x (m - 1)) n false) = r := ⟨_, rfl⟩
  obtain ⟨⟨r2, c2⟩, e2⟩ : ∃ r, shortT (cutT (hiT x (m - 1)) n true) = r := ⟨_, rfl⟩
  rw [e1, e2] at h' ⊢
  simp only at h'
  by_cases h1 : c1 = 0
  · rw [if_pos h1] at h'
    by_cases h2 : c2 = 0
    · rw [if_pos h2] at h'
      simp only [Prod.mk.injEq] at h' ⊢
      exact ⟨⟨h'.1, h1⟩, ⟨h'.2.1, h2⟩⟩
    · rw [if_neg h2] at h'
      simp only [Prod.mk.injEq] at h'
      exact absurd h'.2.2 h2
  · rw [if_neg h1] at h'
    simp only [Prod.mk.injEq] at h'
    exact absurd h'.2.2 h1

/-- A number that is no less than one of some, and no more than one, is in their least ball. -/
theorem holds_in2 {x : Nat → Trip} {n : Int} {S p q : Trip} {K : Nat} (hn : 1 ≤ n) (he : ∀ j, j ≤ 3 → -(K : Int) ≤ (x j).e) (hS : -(K : Int) ≤ S.e) (hl : ∃ j, j ≤ 3 ∧ V K (x j) ≤ V K S) (hh : ∃ j, j ≤ 3 ∧ V K S ≤ V K (x j))
    (hb : leastR x 4 n = (p, q, 0)) :
    bchk p.s (Dg.dg 4294967296 p.n) p.e q.s (Dg.dg 4294967296 q.n) q.e = 0 ∧ hasB (cmpT p S) (cmpT q S) = true := by
  obtain ⟨s1, s2⟩ := least_ok hb rfl
  obtain ⟨rfl, d1⟩ := short_chk s1
  obtain ⟨rfl, d2⟩ := short_chk s2
  have kl : -(K : Int) ≤ (loT x 3).e := loT_all x 3 (fun t => -(K : Int) ≤ t.e) he
  have kh : -(K : Int) ≤ (hiT x 3).e := hiT_all x 3 (fun t => -(K : Int) ≤ t.e) he
  obtain ⟨a1, _, a3, _⟩ := V_low (loT x 3) n hn kl
  obtain ⟨_, b2, _, b4⟩ := V_low (hiT x 3) n hn kh
  obtain ⟨j, hj, v1⟩ := hl
  obtain ⟨i, hi, v2⟩ := hh
  have l1 := loT_le x 3 he j hj
  have l2 := hiT_ge x 3 he i hi
  have w1 := V_bare a3
  have w2 := V_bare b4
  have f3 := bare_e a3
  have f4 := bare_e b4
  have g1 : cmpT (bare (cutT (loT x 3) n false)) S ≤ 0 := by
    by_cases h : 0 < cmpT (bare (cutT (loT x 3) n false)) S
    · have := (cmpT_gt f3 hS).1 h; omega
    · omega
  have g2 : 0 ≤ cmpT (bare (cutT (hiT x 3) n true)) S := by
    by_cases h : cmpT (bare (cutT (hiT x 3) n true)) S < 0
    · have := (cmpT_lt f4 hS).1 h; omega
    · omega
  have g3 : cmpT (bare (cutT (loT x 3) n false)) (bare (cutT (hiT x 3) n true)) ≤ 0 := by
    by_cases h : 0 < cmpT (bare (cutT (loT x 3) n false)) (bare (cutT (hiT x 3) n true))
    · have := (cmpT_gt f3 f4).1 h; omega
    · omega
  refine ⟨?_, ?_⟩
  · unfold bchk
    rw [if_pos (dchk2_of d1 d2), Dg.vl_dg _ _ (by omega), Dg.vl_dg _ _ (by omega)]
    exact if_neg (by show ¬0 < cmpT (bare (cutT (loT x 3) n false)) (bare (cutT (hiT x 3) n true)); omega)
  · unfold hasB
    simp [g1, g2]

/-- long.Over's answer lies beside the numbers of few bits as the quotient does. -/
theorem overT_key (a b : Trip) (B K : Nat) (hB : 1 ≤ B) (hb : 0 < b.n) (hK : -(K : Int) ≤ (overT a b B).e) (hKa : -(K : Int) ≤ a.e - b.e) (hKb : -(K : Int) ≤ b.e) (m F : Nat) (hm : m < 2 ^ B) :
    (m * 2 ^ F ≤ (overT a b B).n * 2 ^ ((overT a b B).e + (K : Int)).toNat ↔ m * 2 ^ F * (b.n * 2 ^ (b.e + (K : Int)).toNat) ≤ a.n * 2 ^ (a.e + ((K + K : Nat) : Int)).toNat) ∧
    ((overT a b B).n * 2 ^ ((overT a b B).e + (K : Int)).toNat ≤ m * 2 ^ F ↔ a.n * 2 ^ (a.e + ((K + K : Nat) : Int)).toNat ≤ m * 2 ^ F * (b.n * 2 ^ (b.e + (K : Int)).toNat)) := by
  by_cases h0 : a.n = 0
  · have hz : (overT a b B).n = 0 := by
      unfold overT endlessT
      simp [h0]
    have hp : 0 < b.n * 2 ^ (b.e + (K : Int)).toNat := Nat.mul_pos hb (Nat.pow_pos (by omega))
    rw [hz, h0, Nat.zero_mul, Nat.zero_mul]
    refine ⟨⟨fun h => ?_, fun h => ?_⟩, by simp⟩
    · have : m * 2 ^ F = 0 := by omega
      rw [this, Nat.zero_mul]
      exact Nat.le_refl _
    · rcases Nat.eq_zero_or_pos (m * 2 ^ F) with h1 | h1
      · omega
      · have := Nat.mul_pos h1 hp
        omega
  · have big : 2 ^ B ≤ 2 * (a.n * 2 ^ overS a b B / b.n) := quot_big h0 hb hB (by unfold overS; omega)
    unfold overT endlessT at hK ⊢
    simp only at hK ⊢
    obtain ⟨S, hS⟩ : ∃ S, overS a b B = S := ⟨_, rfl⟩
    rw [hS] at hK big ⊢
    obtain ⟨st, hst⟩ : ∃ st, (if decide (0 < a.n * 2 ^ S % b.n) = true then 1 else 0) = st := ⟨_, rfl⟩
    have s1 : st ≤ 1 ∧ (st = 0 ↔ a.n * 2 ^ S % b.n = 0) := by
      rw [← hst]
      simp only [decide_eq_true_eq]
      split <;> omega
    rw [hst]
    obtain ⟨g, hg⟩ : ∃ g : Nat, a.e - b.e - (S : Int) - 1 + (K : Int) = (g : Int) := ⟨(a.e - b.e - (S : Int) - 1 + (K : Int)).toNat, by omega⟩
    rw [hg, Int.toNat_natCast]
    obtain ⟨u1, u2, u3⟩ := rep2 (Q := a.n * 2 ^ S / b.n) g s1.1
    obtain ⟨x1, x2⟩ := quot_rep hb u1 u2 (u3.trans s1.2) big m F hm
    rw [x1, x2]
    have hp : 0 < 2 ^ (b.e + (K : Int)).toNat := Nat.pow_pos (by omega)
    have e1 : m * 2 ^ F * (b.n * 2 ^ (b.e + (K : Int)).toNat) = m * 2 ^ F * b.n * 2 ^ (b.e + (K : Int)).toNat := (Nat.mul_assoc _ _ _).symm
    have e2 : a.n * 2 ^ (a.e + ((K + K : Nat) : Int)).toNat = a.n * 2 ^ (S + (g + 1)) * 2 ^ (b.e + (K : Int)).toNat := by
      rw [Nat.mul_assoc, ← Nat.pow_add]
      congr 2
      omega
    rw [e1, e2]
    exact ⟨(Nat.mul_le_mul_right_iff hp).symm, (Nat.mul_le_mul_right_iff hp).symm⟩

theorem signs_low {ky ka kb : Bool} {Y R YB Am : Nat} (h1 : Y ≤ R ↔ YB ≤ Am) (h2 : R ≤ Y ↔ Am ≤ YB) (h0 : Y = 0 → YB = 0) (h : sz ky Y ≤ sz (ka != kb) R) :
    (kb = false → sz (ky != kb) YB ≤ sz ka Am) ∧ (kb = true → sz ka Am ≤ sz (ky != kb) YB) := by
  cases ky <;> cases ka <;> cases kb <;> simp [sz] at h ⊢ <;> omega

theorem signs_high {ky ka kb : Bool} {Y R YB Am : Nat} (h1 : Y ≤ R ↔ YB ≤ Am) (h2 : R ≤ Y ↔ Am ≤ YB) (h0 : Y = 0 → YB = 0) (h : sz (ka != kb) R ≤ sz ky Y) :
    (kb = false → sz ka Am ≤ sz (ky != kb) YB) ∧ (kb = true → sz (ky != kb) YB ≤ sz ka Am) := by
  cases ky <;> cases ka <;> cases kb <;> simp [sz] at h ⊢ <;> omega

theorem V_prod {K : Nat} (y b : Trip) : V K y * V K b = sz (y.s != b.s) (y.n * 2 ^ (y.e + (K : Int)).toNat * (b.n * 2 ^ (b.e + (K : Int)).toNat)) := by
  rw [V_nat, V_nat, sz_times]

/-- Who is of few bits, and no more than a quotient, makes no more with what was divided by; and so on. -/
theorem over_times {K B : Nat} {a b y : Trip} (hB : 1 ≤ B) (hb : 0 < b.n) (hK : -(K : Int) ≤ (overT a b B).e) (hKa : -(K : Int) ≤ a.e - b.e) (hKb : -(K : Int) ≤ b.e) (hy : y.n < 2 ^ B) :
    (V K y ≤ V K (overT a b B) → (b.s = false → V K y * V K b ≤ V (K + K) a) ∧ (b.s = true → V (K + K) a ≤ V K y * V K b)) ∧
    (V K (overT a b B) ≤ V K y → (b.s = false → V (K + K) a ≤ V K y * V K b) ∧ (b.s = true → V K y * V K b ≤ V (K + K) a)) := by
  obtain ⟨k1, k2⟩ := overT_key a b B K hB hb hK hKa hKb y.n (y.e + (K : Int)).toNat hy
  rw [V_prod, V_nat K y, V_nat K (overT a b B), V_nat (K + K) a]
  have h0 : y.n * 2 ^ (y.e + (K : Int)).toNat = 0 → y.n * 2 ^ (y.e + (K : Int)).toNat * (b.n * 2 ^ (b.e + (K : Int)).toNat) = 0 := fun h => by rw [h, Nat.zero_mul]
  exact ⟨fun h => signs_low k1 k2 h0 h, fun h => signs_high k1 k2 h0 h⟩

theorem cut_lt' (A : Trip) (B : Nat) (up : Bool) (hB : 1 ≤ B) : (bare (cutT A B up)).n < 2 ^ B := by
  have := cut_lt A (B : Int) up (by omega)
  rwa [Int.toNat_natCast] at this

set_option maxHeartbeats 1600000 in
/-- What was divided, times what it was divided by, has both ends of what it was. -/
theorem divs_back {A0 A1 B0 B1 q0 q1 p q X : Trip} {B : Nat} (hB : 1 ≤ B) (h0 : 0 < B0.n) (hd : leastR (four (fun a b => overT a b B) A0 A1 B0 B1) 4 B = (q0, q1, 0)) (hm : leastR (four timesT q0 q1 B0 B1) 4 B = (p, q, 0)) (hX : X = A0 ∨ X = A1) :
    bchk p.s (Dg.dg 4294967296 p.n) p.e q.s (Dg.dg 4294967296 q.n) q.e = 0 ∧ hasB (cmpT p X) (cmpT q X) = true := by
  obtain ⟨s1, s2⟩ := least_ok hd rfl
  obtain ⟨rfl, d1⟩ := short_chk s1
  obtain ⟨rfl, d2⟩ := short_chk s2
  obtain ⟨x, hx⟩ : ∃ x, four (fun a b => overT a b B) A0 A1 B0 B1 = x := ⟨_, rfl⟩
  rw [hx] at d1 d2 hm
  obtain ⟨K, hK⟩ : ∃ K, (x 0).e.natAbs + (x 1).e.natAbs + (x 2).e.natAbs + (x 3).e.natAbs + A0.e.natAbs + A1.e.natAbs + B0.e.natAbs + B1.e.natAbs = K := ⟨_, rfl⟩
  have he : ∀ j, j ≤ 3 → -(K : Int) ≤ (x j).e := fun j hj => by
    match j with
    | 0 => omega
    | 1 => omega
    | 2 => omega
    | 3 => omega
  have kb0 : -(K : Int) ≤ B0.e := by omega
  have kb1 : -(K : Int) ≤ B1.e := by omega
  have kX : -(K : Int) ≤ X.e - B0.e ∧ -((K + K : Nat) : Int) ≤ X.e := by rcases hX with rfl | rfl <;> omega
  have kl : -(K : Int) ≤ (loT x 3).e := loT_all x 3 (fun t => -(K : Int) ≤ t.e) he
  have kh : -(K : Int) ≤ (hiT x 3).e := hiT_all x 3 (fun t => -(K : Int) ≤ t.e) he
  obtain ⟨a1, _, a3, _⟩ := V_low (loT x 3) (B : Int) (by omega) kl
  obtain ⟨_, b2, _, b4⟩ := V_low (hiT x 3) (B : Int) (by omega) kh
  have kq0 := bare_e a3
  have kq1 := bare_e b4
  have hT : ∃ j, j ≤ 3 ∧ x j = overT X B0 B := by
    rw [← hx]
    rcases hX with rfl | rfl
    · exact ⟨0, by omega, rfl⟩
    · exact ⟨2, by omega, rfl⟩
  obtain ⟨j, hj, hjx⟩ := hT
  have l1 := loT_le x 3 he j hj
  have l2 := hiT_ge x 3 he j hj
  have kT := he j hj
  rw [hjx] at l1 l2 kT
  have w1 : V K (bare (cutT (loT x 3) B false)) ≤ V K (overT X B0 B) := by rw [V_bare a3]; omega
  have w2 : V K (overT X B0 B) ≤ V K (bare (cutT (hiT x 3) B true)) := by rw [V_bare b4]; omega
  have o1 := (over_times (a := X) (b := B0) hB h0 kT kX.1 kb0 (cut_lt' (loT x 3) B false hB)).1 w1
  have o2 := (over_times (a := X) (b := B0) hB h0 kT kX.1 kb0 (cut_lt' (hiT x 3) B true hB)).2 w2
  obtain ⟨Q0, hQ0⟩ : ∃ Q, bare (cutT (loT x 3) B false) = Q := ⟨_, rfl⟩
  obtain ⟨Q1, hQ1⟩ : ∃ Q, bare (cutT (hiT x 3) B true) = Q := ⟨_, rfl⟩
  rw [hQ0] at o1 kq0
  rw [hQ1] at o2 kq1
  rw [hQ0, hQ1] at hm
  have te : ∀ {a b : Trip}, -(K : Int) ≤ a.e → -(K : Int) ≤ b.e → -((K + K : Nat) : Int) ≤ (timesT a b).e := fun {a b} h1 h2 => by show _ ≤ a.e + b.e; omega
  have hall := four_all timesT Q0 Q1 B0 B1 (fun T => -((K + K : Nat) : Int) ≤ T.e) (te kq0 kb0) (te kq0 kb1) (te kq1 kb0) (te kq1 kb1)
  have v0 : V (K + K) (four timesT Q0 Q1 B0 B1 0) = V K Q0 * V K B0 := V_times kq0 kb0
  have v2 : V (K + K) (four timesT Q0 Q1 B0 B1 2) = V K Q1 * V K B0 := V_times kq1 kb0
  cases hs : B0.s
  · refine holds_in2 (K := K + K) (by omega) (fun j _ => hall j) kX.2 ⟨0, by omega, ?_⟩ ⟨2, by omega, ?_⟩ hm
    · rw [v0]; exact o1.1 hs
    · rw [v2]; exact o2.1 hs
  · refine holds_in2 (K := K + K) (by omega) (fun j _ => hall j) kX.2 ⟨2, by omega, ?_⟩ ⟨0, by omega, ?_⟩ hm
    · rw [v2]; exact o2.2 hs
    · rw [v0]; exact o1.2 hs

theorem pos_low {s : Bool} {y z : Nat} (h : y ≤ z) (h0 : 0 ≤ sz s z) : sz (false != false) y ≤ sz s z := by
  cases s
  · simp only [sz, bne_self_eq_false, Bool.false_eq_true, if_false]
    omega
  · simp only [sz, if_true] at h0 ⊢
    simp only [bne_self_eq_false, Bool.false_eq_true, if_false]
    omega

theorem pos_high {s : Bool} {y z : Nat} (h : z ≤ y) : sz s z ≤ sz (false != false) y := by
  cases s
  · simp only [sz, bne_self_eq_false, Bool.false_eq_true, if_false]
    omega
  · simp only [sz, if_true, bne_self_eq_false, Bool.false_eq_true, if_false]
    omega

set_option maxHeartbeats 1600000 in
/-- A root, times itself, has both ends of what it was of. -/
theorem roots_back {A0 A1 r0 r1 p q X : Trip} {B : Nat} (hB : 1 ≤ B) (hs : 0 ≤ cmpT A0 zeroT) (hle : cmpT A0 A1 ≤ 0) (hd : leastR (twoT (rootT A0 B) (rootT A1 B)) 2 B = (r0, r1, 0)) (hm : leastR (four timesT r0 r1 r0 r1) 4 B = (p, q, 0)) (hX : X = A0 ∨ X = A1) :
    bchk p.s (Dg.dg 4294967296 p.n) p.e q.s (Dg.dg 4294967296 q.n) q.e = 0 ∧ hasB (cmpT p X) (cmpT q X) = true := by
  obtain ⟨s1, s2⟩ := least_ok2 hd
  simp only [show 2 - 1 = 1 from rfl] at s1 s2
  obtain ⟨rfl, d1⟩ := short_chk s1
  obtain ⟨rfl, d2⟩ := short_chk s2
  obtain ⟨x, hx⟩ : ∃ x, twoT (rootT A0 B) (rootT A1 B) = x := ⟨_, rfl⟩
  have x0 : x 0 = rootT A0 B := by rw [← hx]; rfl
  have x1 : x 1 = rootT A1 B := by rw [← hx]; rfl
  have hsx : ∀ j, j ≤ 1 → (x j).s = false := fun j hj => by
    match j with
    | 0 => rw [x0]; rfl
    | 1 => rw [x1]; rfl
  rw [hx] at d1 d2 hm
  obtain ⟨K, hK⟩ : ∃ K, (x 0).e.natAbs + (x 1).e.natAbs + A0.e.natAbs + A1.e.natAbs = K := ⟨_, rfl⟩
  have he : ∀ j, j ≤ 1 → -(K : Int) ≤ (x j).e := fun j hj => by
    match j with
    | 0 => omega
    | 1 => omega
  have k0 := he 0 (by omega)
  have k1 := he 1 (by omega)
  rw [x0] at k0
  rw [x1] at k1
  have l0 : -((K + K : Nat) : Int) ≤ A0.e := by omega
  have l1 : -((K + K : Nat) : Int) ≤ A1.e := by omega
  have lz : -((K + K : Nat) : Int) ≤ zeroT.e := by show _ ≤ (0 : Int); omega
  have c0 := cmpT_lt l0 lz
  have c1 := cmpT_gt l0 l1
  rw [V_zeroT] at c0
  have v0 : 0 ≤ V (K + K) A0 := by
    by_cases hy : V (K + K) A0 < 0
    · have := c0.2 hy; omega
    · omega
  have v1 : V (K + K) A0 ≤ V (K + K) A1 := by
    by_cases hy : V (K + K) A1 < V (K + K) A0
    · have := c1.2 hy; omega
    · omega
  have kl : -(K : Int) ≤ (loT x 1).e := loT_all x 1 (fun t => -(K : Int) ≤ t.e) he
  have kh : -(K : Int) ≤ (hiT x 1).e := hiT_all x 1 (fun t => -(K : Int) ≤ t.e) he
  have sl : (loT x 1).s = false := loT_all x 1 (fun t => t.s = false) hsx
  have sh : (hiT x 1).s = false := hiT_all x 1 (fun t => t.s = false) hsx
  obtain ⟨a1, _, a3, _⟩ := V_low (loT x 1) (B : Int) (by omega) kl
  obtain ⟨_, b2, _, b4⟩ := V_low (hiT x 1) (B : Int) (by omega) kh
  have kq0 := bare_e a3
  have kq1 := bare_e b4
  have m1 := loT_le x 1 he 0 (by omega)
  have m2 := hiT_ge x 1 he 1 (by omega)
  rw [x0] at m1
  rw [x1] at m2
  have w1 : V K (bare (cutT (loT x 1) B false)) ≤ V K (rootT A0 B) := by rw [V_bare a3]; omega
  have w2 : V K (rootT A1 B) ≤ V K (bare (cutT (hiT x 1) B true)) := by rw [V_bare b4]; omega
  have t1 := cut_s (loT x 1) (B : Int) false (by omega) sl
  have t2 := cut_s (hiT x 1) (B : Int) true (by omega) sh
  have n1 := cut_lt' (loT x 1) B false hB
  have n2 := cut_lt' (hiT x 1) B true hB
  obtain ⟨Q0, hQ0⟩ : ∃ Q, bare (cutT (loT x 1) B false) = Q := ⟨_, rfl⟩
  obtain ⟨Q1, hQ1⟩ : ∃ Q, bare (cutT (hiT x 1) B true) = Q := ⟨_, rfl⟩
  rw [hQ0] at w1 kq0 t1 n1
  rw [hQ1] at w2 kq1 t2 n2
  rw [hQ0, hQ1] at hm
  rw [V_pos t1, V_pos (t := rootT A0 B) rfl] at w1
  rw [V_pos t2, V_pos (t := rootT A1 B) rfl] at w2
  have r1 := (rootT_key A0 B K hB k0 l0 Q0.n (Q0.e + (K : Int)).toNat n1).1.1 (by exact_mod_cast w1)
  have r2 := (rootT_key A1 B K hB k1 l1 Q1.n (Q1.e + (K : Int)).toNat n2).2.1 (by exact_mod_cast w2)
  have te : ∀ {a b : Trip}, -(K : Int) ≤ a.e → -(K : Int) ≤ b.e → -((K + K : Nat) : Int) ≤ (timesT a b).e := fun {a b} h1 h2 => by show _ ≤ a.e + b.e; omega
  have hall := four_all timesT Q0 Q1 Q0 Q1 (fun T => -((K + K : Nat) : Int) ≤ T.e) (te kq0 kq0) (te kq0 kq1) (te kq1 kq0) (te kq1 kq1)
  have y0 : V (K + K) (four timesT Q0 Q1 Q0 Q1 0) = V K Q0 * V K Q0 := V_times kq0 kq0
  have y3 : V (K + K) (four timesT Q0 Q1 Q0 Q1 3) = V K Q1 * V K Q1 := V_times kq1 kq1
  rw [V_prod] at y0 y3
  have z0 : V (K + K) (four timesT Q0 Q1 Q0 Q1 0) ≤ V (K + K) A0 := by
    rw [V_nat (K + K) A0] at v0 ⊢
    rw [y0, t1]
    exact pos_low r1 v0
  have z1 : V (K + K) A1 ≤ V (K + K) (four timesT Q0 Q1 Q0 Q1 3) := by
    rw [V_nat (K + K) A1]
    rw [y3, t2]
    exact pos_high r2
  have kX : -((K + K : Nat) : Int) ≤ X.e := by rcases hX with rfl | rfl <;> omega
  refine holds_in2 (K := K + K) (by omega) (fun j _ => hall j) kX ⟨0, by omega, ?_⟩ ⟨3, by omega, ?_⟩ hm
  · rcases hX with rfl | rfl <;> omega
  · rcases hX with rfl | rfl <;> omega
end Go.Proofs.YtmjhlflemfkflaaDoor

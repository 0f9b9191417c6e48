/-
  Balls, without the program: what comes of two numbers of two balls is in what comes of the balls.
-/
import Derived.Test.YtmjhlflemfkflaaDoorBo
import Derived.Test.YtmjhlflemfkflaaDoorBf
namespace Go.Proofs.YtmjhlflemfkflaaDoor
open Go.RowKit

theorem mul_low {a0 a1 b0 b1 x y : Int} (h1 : a0 ≤ x) (h2 : x ≤ a1) (h3 : b0 ≤ y) (h4 : y ≤ b1) : a0 * b0 ≤ x * y ∨ a0 * b1 ≤ x * y ∨ a1 * b0 ≤ x * y ∨ a1 * b1 ≤ x * y := by
  rcases Int.le_total 0 y with hy | hy
  · have k1 := Int.mul_le_mul_of_nonneg_right h1 hy
    rcases Int.le_total 0 a0 with ha | ha
    · have k2 := Int.mul_le_mul_of_nonneg_left h3 ha
      exact .inl (Int.le_trans k2 k1)
    · have k2 := Int.mul_le_mul_of_nonpos_left ha h4
      exact .inr (.inl (Int.le_trans k2 k1))
  · have k1 := Int.mul_le_mul_of_nonpos_right h2 hy
    rcases Int.le_total 0 a1 with ha | ha
    · have k2 := Int.mul_le_mul_of_nonneg_left h3 ha
      exact .inr (.inr (.inl (Int.le_trans k2 k1)))
    · have k2 := Int.mul_le_mul_of_nonpos_left ha h4
      exact .inr (.inr (.inr (Int.le_trans k2 k1)))

theorem mul_high {a0 a1 b0 b1 x y : Int} (h1 : a0 ≤ x) (h2 : x ≤ a1) (h3 : b0 ≤ y) (h4 : y ≤ b1) : x * y ≤ a0 * b0 ∨ x * y ≤ a0 * b1 ∨ x * y ≤ a1 * b0 ∨ x * y ≤ a1 * b1 := by
  have h := mul_low (a0 := -a1) (a1 := -a0) (x := -x) (by omega) (by omega) h3 h4
  simp only [Int.neg_mul] at h
  omega

/-- What least answers without an error. -/
theorem least_ok {x : Nat → Trip} {n : Int} {p q : Trip} {c : Int} (h : leastR x 4 n = (p, q, c)) (hc : c = 0) : shortT (cutT (loT x 3) n false) = (p, 0) ∧ shortT (cutT (hiT x 3) n true) = (q, 0) := by
  subst hc
  have h' : ballR (shortT (cutT (loT x 3) n false)) (shortT (cutT (hiT x 3) n true)) = (p, q, 0) := h
  unfold ballR at h'
  obtain ⟨⟨r1, c1⟩, e1⟩ : ∃ r, shortT (cutT (loT x 3) n false) = r := ⟨_, rfl⟩
  obtain ⟨⟨r2, c2⟩, e2⟩ : ∃ r, shortT (cutT (hiT x 3) n true) = r := ⟨_, rfl⟩
  rw [e1, e2] at h' ⊢
  simp only at h'
  by_cases h1 : c1 = 0
  · rw [if_pos h1] at h'
    by_cases h2 : c2 = 0
    · rw [if_pos h2] at h'
      simp only [Prod.mk.injEq] at h' ⊢
      exact ⟨⟨h'.1, h1⟩, ⟨h'.2.1, h2⟩⟩
    · rw [if_neg h2] at h'
      simp only [Prod.mk.injEq] at h'
      exact absurd h'.2.2 h2
  · rw [if_neg h1] at h'
    simp only [Prod.mk.injEq] at h'
    exact absurd h'.2.2 h1

theorem short_chk {t r : Trip} (h : shortT t = (r, 0)) : r = bare t ∧ dchk (Dg.dg 4294967296 r.n) r.e = 0 := by
  unfold shortT at h
  by_cases h1 : 1200 < (Dg.dg 4294967296 (bare t).n).length
  · rw [if_pos h1] at h
    simp at h
  · rw [if_neg h1] at h
    by_cases h2 : (bare t).e < -20000 ∨ 20000 < (bare t).e
    · rw [if_pos h2] at h
      simp at h
    · rw [if_neg h2] at h
      simp only [Prod.mk.injEq, and_true] at h
      subst h
      exact ⟨rfl, dchk_of (by omega) (by omega) (by omega)⟩

/-- A number that is no less than one of four, and no more than one, is in the least ball of the four. -/
theorem holds_in {x : Nat → Trip} {n : Int} {S p q r : Trip} {K : Nat} (hn : 1 ≤ n) (he : ∀ j, j ≤ 3 → -(K : Int) ≤ (x j).e) (hS : -(K : Int) ≤ S.e) (hl : ∃ j, j ≤ 3 ∧ V K (x j) ≤ V K S) (hh : ∃ j, j ≤ 3 ∧ V K S ≤ V K (x j))
    (hb : leastR x 4 n = (p, q, 0)) (hs : shortT S = (r, 0)) :
    bchk p.s (Dg.dg 4294967296 p.n) p.e q.s (Dg.dg 4294967296 q.n) q.e = 0 ∧ dchk (Dg.dg 4294967296 r.n) r.e = 0 ∧ hasB (cmpT p r) (cmpT q r) = true := by
  obtain ⟨s1, s2⟩ := least_ok hb rfl
  obtain ⟨rfl, d1⟩ := short_chk s1
  obtain ⟨rfl, d2⟩ := short_chk s2
  obtain ⟨rfl, d3⟩ := short_chk hs
  have kl : -(K : Int) ≤ (loT x 3).e := loT_all x 3 (fun t => -(K : Int) ≤ t.e) he
  have kh : -(K : Int) ≤ (hiT x 3).e := hiT_all x 3 (fun t => -(K : Int) ≤ t.e) he
  obtain ⟨a1, _, a3, _⟩ := V_low (loT x 3) n hn kl
  obtain ⟨_, b2, _, b4⟩ := V_low (hiT x 3) n hn kh
  obtain ⟨j, hj, v1⟩ := hl
  obtain ⟨i, hi, v2⟩ := hh
  have l1 := loT_le x 3 he j hj
  have l2 := hiT_ge x 3 he i hi
  have g1 : cmpT (cutT (loT x 3) n false) S ≤ 0 := by
    by_cases h : 0 < cmpT (cutT (loT x 3) n false) S
    · have := (cmpT_gt a3 hS).1 h; omega
    · omega
  have g2 : 0 ≤ cmpT (cutT (hiT x 3) n true) S := by
    by_cases h : cmpT (cutT (hiT x 3) n true) S < 0
    · have := (cmpT_lt b4 hS).1 h; omega
    · omega
  have g3 : cmpT (cutT (loT x 3) n false) (cutT (hiT x 3) n true) ≤ 0 := by
    by_cases h : 0 < cmpT (cutT (loT x 3) n false) (cutT (hiT x 3) n true)
    · have := (cmpT_gt a3 b4).1 h; omega
    · omega
  refine ⟨?_, d3, ?_⟩
  · unfold bchk
    rw [if_pos (dchk2_of d1 d2), Dg.vl_dg _ _ (by omega), Dg.vl_dg _ _ (by omega)]
    have g4 : cmpT (bare (cutT (loT x 3) n false)) (bare (cutT (hiT x 3) n true)) ≤ 0 := by rw [cmp_bare]; exact g3
    exact if_neg (by show ¬0 < cmpT (bare (cutT (loT x 3) n false)) (bare (cutT (hiT x 3) n true)); omega)
  · rw [cmp_bare, cmp_bare]
    unfold hasB
    simp [g1, g2]

/-- The exponents of some numbers have a bound. -/
theorem has_le {A0 A1 X : Trip} {K : Nat} (h : hasB (cmpT A0 X) (cmpT A1 X) = true) (k0 : -(K : Int) ≤ A0.e) (k1 : -(K : Int) ≤ A1.e) (kx : -(K : Int) ≤ X.e) : V K A0 ≤ V K X ∧ V K X ≤ V K A1 := by
  unfold hasB at h
  simp only [Bool.and_eq_true, decide_eq_true_eq] at h
  refine ⟨V_of_cmp k0 kx h.1, ?_⟩
  by_cases hx : V K A1 < V K X
  · have := (cmpT_lt k1 kx).2 hx; omega
  · omega

theorem adds_in {A0 A1 B0 B1 X Y p q r : Trip} {n : Int} (hn : 1 ≤ n) (hX : hasB (cmpT A0 X) (cmpT A1 X) = true) (hY : hasB (cmpT B0 Y) (cmpT B1 Y) = true) (hb : leastR (four plusT A0 A1 B0 B1) 4 n = (p, q, 0)) (hs : shortT (plusT X Y) = (r, 0)) :
    bchk p.s (Dg.dg 4294967296 p.n) p.e q.s (Dg.dg 4294967296 q.n) q.e = 0 ∧ dchk (Dg.dg 4294967296 r.n) r.e = 0 ∧ hasB (cmpT p r) (cmpT q r) = true := by
  obtain ⟨K, hK⟩ : ∃ K, A0.e.natAbs + A1.e.natAbs + B0.e.natAbs + B1.e.natAbs + X.e.natAbs + Y.e.natAbs = K := ⟨_, rfl⟩
  have a0 : -(K : Int) ≤ A0.e := by omega
  have a1 : -(K : Int) ≤ A1.e := by omega
  have b0 : -(K : Int) ≤ B0.e := by omega
  have b1 : -(K : Int) ≤ B1.e := by omega
  have kx : -(K : Int) ≤ X.e := by omega
  have ky : -(K : Int) ≤ Y.e := by omega
  obtain ⟨x1, x2⟩ := has_le hX a0 a1 kx
  obtain ⟨y1, y2⟩ := has_le hY b0 b1 ky
  have he := four_all plusT A0 A1 B0 B1 (fun T => -(K : Int) ≤ T.e) (plus_e a0 b0) (plus_e a0 b1) (plus_e a1 b0) (plus_e a1 b1)
  refine holds_in (K := K) hn (fun j _ => he j) (plus_e kx ky) ⟨0, by omega, ?_⟩ ⟨3, by omega, ?_⟩ hb hs
  · show V K (plusT A0 B0) ≤ _
    rw [V_plus a0 b0, V_plus kx ky]; omega
  · show _ ≤ V K (plusT A1 B1)
    rw [V_plus a1 b1, V_plus kx ky]; omega

theorem subs_in {A0 A1 B0 B1 X Y p q r : Trip} {n : Int} (hn : 1 ≤ n) (hX : hasB (cmpT A0 X) (cmpT A1 X) = true) (hY : hasB (cmpT B0 Y) (cmpT B1 Y) = true) (hb : leastR (four (fun a b => plusT a (negT b)) A0 A1 B0 B1) 4 n = (p, q, 0)) (hs : shortT (plusT X (negT Y)) = (r, 0)) :
    bchk p.s (Dg.dg 4294967296 p.n) p.e q.s (Dg.dg 4294967296 q.n) q.e = 0 ∧ dchk (Dg.dg 4294967296 r.n) r.e = 0 ∧ hasB (cmpT p r) (cmpT q r) = true := by
  obtain ⟨K, hK⟩ : ∃ K, A0.e.natAbs + A1.e.natAbs + B0.e.natAbs + B1.e.natAbs + X.e.natAbs + Y.e.natAbs = K := ⟨_, rfl⟩
  have a0 : -(K : Int) ≤ A0.e := by omega
  have a1 : -(K : Int) ≤ A1.e := by omega
  have b0 : -(K : Int) ≤ B0.e := by omega
  have b1 : -(K : Int) ≤ B1.e := by omega
  have kx : -(K : Int) ≤ X.e := by omega
  have ky : -(K : Int) ≤ Y.e := by omega
  have c0 : -(K : Int) ≤ (negT B0).e := b0
  have c1 : -(K : Int) ≤ (negT B1).e := b1
  have cy : -(K : Int) ≤ (negT Y).e := ky
  obtain ⟨x1, x2⟩ := has_le hX a0 a1 kx
  obtain ⟨y1, y2⟩ := has_le hY b0 b1 ky
  have n0 := V_neg K B0
  have n1 := V_neg K B1
  have ny := V_neg K Y
  have he := four_all (fun a b => plusT a (negT b)) A0 A1 B0 B1 (fun T => -(K : Int) ≤ T.e) (plus_e a0 c0) (plus_e a0 c1) (plus_e a1 c0) (plus_e a1 c1)
  refine holds_in (K := K) hn (fun j _ => he j) (plus_e kx cy) ⟨1, by omega, ?_⟩ ⟨2, by omega, ?_⟩ hb hs
  · show V K (plusT A0 (negT B1)) ≤ _
    rw [V_plus a0 c1, V_plus kx cy]; omega
  · show _ ≤ V K (plusT A1 (negT B0))
    rw [V_plus a1 c0, V_plus kx cy]; omega

theorem muls_in {A0 A1 B0 B1 X Y p q r : Trip} {n : Int} (hn : 1 ≤ n) (hX : hasB (cmpT A0 X) (cmpT A1 X) = true) (hY : hasB (cmpT B0 Y) (cmpT B1 Y) = true) (hb : leastR (four timesT A0 A1 B0 B1) 4 n = (p, q, 0)) (hs : shortT (timesT X Y) = (r, 0)) :
    bchk p.s (Dg.dg 4294967296 p.n) p.e q.s (Dg.dg 4294967296 q.n) q.e = 0 ∧ dchk (Dg.dg 4294967296 r.n) r.e = 0 ∧ hasB (cmpT p r) (cmpT q r) = true := by
  obtain ⟨K, hK⟩ : ∃ K, A0.e.natAbs + A1.e.natAbs + B0.e.natAbs + B1.e.natAbs + X.e.natAbs + Y.e.natAbs = K := ⟨_, rfl⟩
  have a0 : -(K : Int) ≤ A0.e := by omega
  have a1 : -(K : Int) ≤ A1.e := by omega
  have b0 : -(K : Int) ≤ B0.e := by omega
  have b1 : -(K : Int) ≤ B1.e := by omega
  have kx : -(K : Int) ≤ X.e := by omega
  have ky : -(K : Int) ≤ Y.e := by omega
  obtain ⟨x1, x2⟩ := has_le hX a0 a1 kx
  obtain ⟨y1, y2⟩ := has_le hY b0 b1 ky
  have te : ∀ {a b : Trip}, -(K : Int) ≤ a.e → -(K : Int) ≤ b.e → -((K + K : Nat) : Int) ≤ (timesT a b).e := fun {a b} h1 h2 => by show _ ≤ a.e + b.e; omega
  have he := four_all timesT A0 A1 B0 B1 (fun T => -((K + K : Nat) : Int) ≤ T.e) (te a0 b0) (te a0 b1) (te a1 b0) (te a1 b1)
  have v0 : V (K + K) (four timesT A0 A1 B0 B1 0) = V K A0 * V K B0 := V_times a0 b0
  have v1 : V (K + K) (four timesT A0 A1 B0 B1 1) = V K A0 * V K B1 := V_times a0 b1
  have v2 : V (K + K) (four timesT A0 A1 B0 B1 2) = V K A1 * V K B0 := V_times a1 b0
  have v3 : V (K + K) (four timesT A0 A1 B0 B1 3) = V K A1 * V K B1 := V_times a1 b1
  have vx : V (K + K) (timesT X Y) = V K X * V K Y := V_times kx ky
  refine holds_in (K := K + K) hn (fun j _ => he j) (te kx ky) ?_ ?_ hb hs
  · rw [vx]
    rcases mul_low x1 x2 y1 y2 with h | h | h | h
    · exact ⟨0, by omega, by rw [v0]; exact h⟩
    · exact ⟨1, by omega, by rw [v1]; exact h⟩
    · exact ⟨2, by omega, by rw [v2]; exact h⟩
    · exact ⟨3, by omega, by rw [v3]; exact h⟩
  · rw [vx]
    rcases mul_high x1 x2 y1 y2 with h | h | h | h
    · exact ⟨0, by omega, by rw [v0]; exact h⟩
    · exact ⟨1, by omega, by rw [v1]; exact h⟩
    · exact ⟨2, by omega, by rw [v2]; exact h⟩
    · exact ⟨3, by omega, by rw [v3]; exact h⟩
end Go.Proofs.YtmjhlflemfkflaaDoor

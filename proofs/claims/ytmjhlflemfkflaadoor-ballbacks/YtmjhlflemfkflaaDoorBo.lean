/-
  Texts laid together: Bm3, Bm4, Bm7.
-/
import Derived.Test.YtmjhlflemfkflaaDoorDn1
import Derived.Test.YtmjhlflemfkflaaDoorBi
import Derived.Test.YtmjhlflemfkflaaDoorDu
/-
  What is cut, without the program: it is the next number of so few bits, and it grows.
-/
namespace Go.Proofs.YtmjhlflemfkflaaDoor

/-- Between two steps lies no number of so few bits. -/
theorem no_between {m F E q b : Nat} (hm : m < 2 ^ b) (hq : 2 ^ b ≤ 2 * q) (h1 : q * 2 ^ E < m * 2 ^ F) (h2 : m * 2 ^ F < (q + 1) * 2 ^ E) : False := by
  rcases Nat.lt_or_ge F E with h | h
  · obtain ⟨d, hd⟩ : ∃ d, E = F + 1 + d := ⟨E - F - 1, by omega⟩
    subst hd
    have hF : 0 < 2 ^ F := Nat.pow_pos (by omega)
    have hd : 1 ≤ 2 ^ d := Nat.pow_pos (by omega)
    have h3 : m * 2 ^ F < 2 * q * 2 ^ F := Nat.mul_lt_mul_of_pos_right (by omega) hF
    have h4 : 2 * q * 2 ^ F * 1 ≤ 2 * q * 2 ^ F * 2 ^ d := Nat.mul_le_mul_left _ hd
    have e : q * 2 ^ (F + 1 + d) = 2 * q * 2 ^ F * 2 ^ d := by
      rw [Nat.pow_add, Nat.pow_succ]
      ac_rfl
    omega
  · obtain ⟨d, hd⟩ : ∃ d, F = d + E := ⟨F - E, by omega⟩
    subst hd
    rw [Nat.pow_add, ← Nat.mul_assoc] at h1 h2
    have h3 := Nat.lt_of_mul_lt_mul_right h1
    have h4 := Nat.lt_of_mul_lt_mul_right h2
    omega

theorem cut_ways2 (A : Trip) (b : Int) (up : Bool) (hb : 1 ≤ b) :
    cutT A b up = A ∨
    (∃ j q : Nat, q * 2 ^ j < A.n ∧ A.n < (q + 1) * 2 ^ j ∧ 2 ^ b.toNat ≤ 2 * q ∧ cutT A b up = ⟨A.s, q + (if (up != A.s) = true then 1 else 0), A.e + (j : Int)⟩) := by
  rcases cut_ways A b up hb with ⟨_, h2⟩ | ⟨j, q, hn, h0, hj, hq, g1, g2, hqb, hq0, htz, h2⟩
  · exact .inl h2
  · refine .inr ⟨j, q, ?_, g2, ?_, h2⟩
    · rcases Nat.lt_or_ge (q * 2 ^ j) A.n with h | h
      · exact h
      · exfalso
        have he : A.n = q * 2 ^ j := by omega
        obtain ⟨m, hm⟩ := tz_spec (n := q) (by omega)
        have h3 : A.n = 2 ^ (j + tz q) * (2 * m + 1) := by
          rw [he, Nat.pow_add, Nat.mul_assoc, ← hm, Nat.mul_comm]
        have h4 := tz_eq h3
        have h5 : (bare A).n = A.n / 2 ^ tz A.n := by
          unfold bare
          rw [if_neg h0]
        have h6 : tz A.n = j := by omega
        rw [h6, hq] at h5
        have h7 := bitLen_le_of q _ hqb
        rw [h5] at hn
        omega
    · obtain ⟨_, sp2⟩ := bitLen_spec A.n
      have h3 := sp2 h0
      have h4 : bitLen A.n - 1 = (b.toNat - 1) + j := by omega
      rw [h4, Nat.pow_add] at h3
      have h5 : 2 ^ (b.toNat - 1) * 2 ^ j < (q + 1) * 2 ^ j := by omega
      have h6 := Nat.lt_of_mul_lt_mul_right h5
      have h7 : 2 ^ b.toNat = 2 * 2 ^ (b.toNat - 1) := by
        rw [← Nat.pow_succ']
        congr 1
        omega
      omega

/-- Nothing of so few bits lies between what is cut down and what was cut. -/
theorem best_low {K : Nat} (A y : Trip) (b : Int) (hb : 1 ≤ b) (hA : -(K : Int) ≤ A.e) (hn : y.n < 2 ^ b.toNat) (h : V K y ≤ V K A) : V K y ≤ V K (cutT A b false) := by
  rcases cut_ways2 A b false hb with h2 | ⟨j, q, g1, g2, hq, h2⟩
  · rw [h2]; exact h
  · have e1 : (A.e + (j : Int) + (K : Int)).toNat = j + (A.e + (K : Int)).toNat := by omega
    rw [h2, V_nat, V_nat]
    rw [V_nat, V_nat] at h
    simp only
    have hP : 0 < 2 ^ (A.e + (K : Int)).toNat := Nat.pow_pos (by omega)
    have l1 : q * 2 ^ (A.e + (j : Int) + (K : Int)).toNat < A.n * 2 ^ (A.e + (K : Int)).toNat := by
      rw [e1, Nat.pow_add, ← Nat.mul_assoc]
      exact Nat.mul_lt_mul_of_pos_right g1 hP
    have l2 : A.n * 2 ^ (A.e + (K : Int)).toNat < (q + 1) * 2 ^ (A.e + (j : Int) + (K : Int)).toNat := by
      rw [e1, Nat.pow_add, ← Nat.mul_assoc]
      exact Nat.mul_lt_mul_of_pos_right g2 hP
    have nb : q * 2 ^ (A.e + (j : Int) + (K : Int)).toNat < y.n * 2 ^ (y.e + (K : Int)).toNat → y.n * 2 ^ (y.e + (K : Int)).toNat < (q + 1) * 2 ^ (A.e + (j : Int) + (K : Int)).toNat → False := fun a1 a2 => no_between hn hq a1 a2
    generalize 2 ^ (A.e + (j : Int) + (K : Int)).toNat = U at l1 l2 nb ⊢
    generalize A.n * 2 ^ (A.e + (K : Int)).toNat = Z at l1 l2 h
    generalize y.n * 2 ^ (y.e + (K : Int)).toNat = Y at h nb ⊢
    rw [Nat.add_mul, Nat.one_mul] at l2 nb
    cases hs : A.s
    · simp only [bne_self_eq_false, Bool.false_eq_true, if_false, Nat.add_zero]
      rw [hs] at h
      generalize q * U = W at l1 l2 nb ⊢
      cases hy : y.s
      · rw [hy] at h
        simp only [sz, Bool.false_eq_true, if_false] at h ⊢
        rcases Nat.lt_or_ge W Y with h3 | h3
        · exact (nb h3 (by omega)).elim
        · omega
      · simp only [sz, Bool.false_eq_true, if_false, if_true]
        omega
    · simp only [Bool.false_bne, if_true]
      rw [hs] at h
      rw [Nat.add_mul, Nat.one_mul]
      generalize q * U = W at l1 l2 nb ⊢
      cases hy : y.s
      · rw [hy] at h
        simp only [sz, Bool.false_eq_true, if_false, if_true] at h ⊢
        omega
      · rw [hy] at h
        simp only [sz, if_true] at h ⊢
        rcases Nat.lt_or_ge Y (W + U) with h3 | h3
        · exact (nb (by omega) h3).elim
        · omega

theorem cut_neg (A : Trip) (b : Int) (up : Bool) : cutT (negT A) b (!up) = negT (cutT A b up) := by
  unfold cutT negT
  simp only
  by_cases h : (bitLen A.n : Int) - b ≤ ((if A.n = 0 then 0 else tz A.n : Nat) : Int)
  · rw [if_pos h, if_pos h]
  · rw [if_neg h, if_neg h]
    cases up <;> cases A.s <;> rfl

theorem best_high {K : Nat} (A y : Trip) (b : Int) (hb : 1 ≤ b) (hA : -(K : Int) ≤ A.e) (hn : y.n < 2 ^ b.toNat) (h : V K A ≤ V K y) : V K (cutT A b true) ≤ V K y := by
  have h1 := best_low (K := K) (negT A) (negT y) b hb hA hn (by rw [V_neg, V_neg]; omega)
  have h2 := cut_neg A b true
  simp only [Bool.not_true] at h2
  rw [h2, V_neg, V_neg] at h1
  omega

theorem cut_lt (A : Trip) (b : Int) (up : Bool) (hb : 1 ≤ b) : (bare (cutT A b up)).n < 2 ^ b.toNat := by
  have h1 := cut_bits A b up hb
  have h2 := (bitLen_spec (bare (cutT A b up)).n).1
  exact Nat.lt_of_lt_of_le h2 (Nat.pow_le_pow_right (by omega) (by omega))

/-- Who is no more is cut to no more. -/
theorem cut_mono {K : Nat} {A B : Trip} (b : Int) (up : Bool) (hb : 1 ≤ b) (hA : -(K : Int) ≤ A.e) (hB : -(K : Int) ≤ B.e) (h : V K A ≤ V K B) : V K (cutT A b up) ≤ V K (cutT B b up) := by
  obtain ⟨a1, a2, a3, a4⟩ := V_low A b hb hA
  obtain ⟨b1, b2, b3, b4⟩ := V_low B b hb hB
  cases up
  · have := best_low B (bare (cutT A b false)) b hb hB (cut_lt A b false hb) (by rw [V_bare a3]; omega)
    rwa [V_bare a3] at this
  · have := best_high A (bare (cutT B b true)) b hb hA (cut_lt B b true hb) (by rw [V_bare b4]; omega)
    rwa [V_bare b4] at this

/-- Two numbers that lie alike beside all numbers of so few bits are cut to the same. -/
theorem cut_alike {K : Nat} {X T : Trip} (b : Int) (up : Bool) (hb : 1 ≤ b) (hX : -(K : Int) ≤ X.e) (hT : -(K : Int) ≤ T.e)
    (h1 : ∀ y : Trip, -(K : Int) ≤ y.e → y.n < 2 ^ b.toNat → (V K y ≤ V K X ↔ V K y ≤ V K T))
    (h2 : ∀ y : Trip, -(K : Int) ≤ y.e → y.n < 2 ^ b.toNat → (V K X ≤ V K y ↔ V K T ≤ V K y)) : bare (cutT X b up) = bare (cutT T b up) := by
  obtain ⟨a1, a2, a3, a4⟩ := V_low X b hb hX
  obtain ⟨b1, b2, b3, b4⟩ := V_low T b hb hT
  cases up
  · refine bare_of_V a3 b3 ?_
    have p1 := (h1 (bare (cutT X b false)) (bare_e a3) (cut_lt X b false hb)).1 (by rw [V_bare a3]; exact a1)
    have p2 := (h1 (bare (cutT T b false)) (bare_e b3) (cut_lt T b false hb)).2 (by rw [V_bare b3]; exact b1)
    have q1 := best_low T (bare (cutT X b false)) b hb hT (cut_lt X b false hb) p1
    have q2 := best_low X (bare (cutT T b false)) b hb hX (cut_lt T b false hb) p2
    rw [V_bare a3] at q1
    rw [V_bare b3] at q2
    omega
  · refine bare_of_V a4 b4 ?_
    have p1 := (h2 (bare (cutT X b true)) (bare_e a4) (cut_lt X b true hb)).1 (by rw [V_bare a4]; exact a2)
    have p2 := (h2 (bare (cutT T b true)) (bare_e b4) (cut_lt T b true hb)).2 (by rw [V_bare b4]; exact b2)
    have q1 := best_high T (bare (cutT X b true)) b hb hT (cut_lt X b true hb) p1
    have q2 := best_high X (bare (cutT T b true)) b hb hX (cut_lt T b true hb) p2
    rw [V_bare a4] at q1
    rw [V_bare b4] at q2
    omega

/-- A number of which one knows the first bits, and whether there are more, lies beside those of few bits as the true one does. -/
theorem sticky_le {Q R g m F B : Nat} (E : Nat → Prop) (hE : ∀ x y, x ≤ y → E y → E x) (e0 : E (Q * 2 ^ g)) (e1 : ¬E ((Q + 1) * 2 ^ g)) (r1 : Q * 2 ^ g ≤ R) (r2 : R < (Q + 1) * 2 ^ g) (hQ : 2 ^ B ≤ 2 * Q) (hm : m < 2 ^ B) :
    m * 2 ^ F ≤ R ↔ E (m * 2 ^ F) := by
  have nb := @no_between m F g Q B hm hQ
  generalize m * 2 ^ F = Y at nb ⊢
  generalize Q * 2 ^ g = W at nb e0 r1 ⊢
  generalize (Q + 1) * 2 ^ g = W2 at nb e1 r2
  constructor
  · intro h
    rcases Nat.lt_or_ge W Y with h3 | h3
    · exact (nb h3 (by omega)).elim
    · exact hE _ _ h3 e0
  · intro h
    rcases Nat.lt_or_ge W Y with h3 | h3
    · rcases Nat.lt_or_ge Y W2 with h4 | h4
      · exact (nb h3 h4).elim
      · exact (e1 (hE _ _ h4 h)).elim
    · omega

theorem sticky_ge {Q R g m F B : Nat} (G : Nat → Prop) (hG : ∀ x y, x ≤ y → G x → G y) (g0 : R = Q * 2 ^ g → G (Q * 2 ^ g)) (g1 : ∀ x, x < Q * 2 ^ g → ¬G x) (g3 : R ≠ Q * 2 ^ g → ¬G (Q * 2 ^ g)) (g2 : G ((Q + 1) * 2 ^ g)) (r1 : Q * 2 ^ g ≤ R) (r2 : R < (Q + 1) * 2 ^ g) (hQ : 2 ^ B ≤ 2 * Q) (hm : m < 2 ^ B) :
    R ≤ m * 2 ^ F ↔ G (m * 2 ^ F) := by
  have nb := @no_between m F g Q B hm hQ
  generalize m * 2 ^ F = Y at nb ⊢
  generalize Q * 2 ^ g = W at nb g0 g1 g3 r1
  generalize (Q + 1) * 2 ^ g = W2 at nb g2 r2
  constructor
  · intro h
    rcases Nat.lt_or_ge W Y with h3 | h3
    · rcases Nat.lt_or_ge Y W2 with h4 | h4
      · exact (nb h3 h4).elim
      · exact hG _ _ h4 g2
    · exact hG W Y (by omega) (g0 (by omega))
  · intro h
    rcases Nat.lt_or_ge Y W with h3 | h3
    · exact (g1 Y h3 h).elim
    · by_cases hR : R = W
      · omega
      · rcases Nat.lt_or_ge W Y with h4 | h4
        · rcases Nat.lt_or_ge Y W2 with h5 | h5
          · exact (nb h4 h5).elim
          · omega
        · have : Y = W := by omega
          subst this
          exact (g3 hR h).elim

theorem cut_alike_mag {K : Nat} {X T : Trip} (b : Int) (up : Bool) (hb : 1 ≤ b) (hX : -(K : Int) ≤ X.e) (hT : -(K : Int) ≤ T.e) (hs : X.s = T.s) (hx0 : 0 < X.n) (ht0 : 0 < T.n)
    (h1 : ∀ m F, m < 2 ^ b.toNat → (m * 2 ^ F ≤ X.n * 2 ^ (X.e + (K : Int)).toNat ↔ m * 2 ^ F ≤ T.n * 2 ^ (T.e + (K : Int)).toNat))
    (h2 : ∀ m F, m < 2 ^ b.toNat → (X.n * 2 ^ (X.e + (K : Int)).toNat ≤ m * 2 ^ F ↔ T.n * 2 ^ (T.e + (K : Int)).toNat ≤ m * 2 ^ F)) : bare (cutT X b up) = bare (cutT T b up) := by
  have p1 : 0 < X.n * 2 ^ (X.e + (K : Int)).toNat := Nat.mul_pos hx0 (Nat.pow_pos (by omega))
  have p2 : 0 < T.n * 2 ^ (T.e + (K : Int)).toNat := Nat.mul_pos ht0 (Nat.pow_pos (by omega))
  refine cut_alike b up hb hX hT (fun y _ hn => ?_) (fun y _ hn => ?_)
  · rw [V_nat, V_nat, V_nat, hs]
    have i1 := h1 y.n (y.e + (K : Int)).toNat hn
    have i2 := h2 y.n (y.e + (K : Int)).toNat hn
    generalize X.n * 2 ^ (X.e + (K : Int)).toNat = R at p1 i1 i2 ⊢
    generalize T.n * 2 ^ (T.e + (K : Int)).toNat = S at p2 i1 i2 ⊢
    generalize y.n * 2 ^ (y.e + (K : Int)).toNat = Y at i1 i2 ⊢
    cases T.s <;> cases y.s <;> simp only [sz, Bool.false_eq_true, if_false, if_true] <;> omega
  · rw [V_nat, V_nat, V_nat, hs]
    have i1 := h1 y.n (y.e + (K : Int)).toNat hn
    have i2 := h2 y.n (y.e + (K : Int)).toNat hn
    generalize X.n * 2 ^ (X.e + (K : Int)).toNat = R at p1 i1 i2 ⊢
    generalize T.n * 2 ^ (T.e + (K : Int)).toNat = S at p2 i1 i2 ⊢
    generalize y.n * 2 ^ (y.e + (K : Int)).toNat = Y at i1 i2 ⊢
    cases T.s <;> cases y.s <;> simp only [sz, Bool.false_eq_true, if_false, if_true] <;> omega

theorem pow_shift (x : Nat) (S g : Nat) : x * 2 ^ (S + g) = x * 2 ^ S * 2 ^ g := by rw [Nat.pow_add, Nat.mul_assoc]

/-- A quotient by its first bits. -/
theorem quot_rep {p q S g R B : Nat} (hq : 0 < q) (r1 : p * 2 ^ S / q * 2 ^ g ≤ R) (r2 : R < (p * 2 ^ S / q + 1) * 2 ^ g) (r3 : R = p * 2 ^ S / q * 2 ^ g ↔ p * 2 ^ S % q = 0) (hQ : 2 ^ B ≤ 2 * (p * 2 ^ S / q)) (m F : Nat) (hm : m < 2 ^ B) :
    (m * 2 ^ F ≤ R ↔ m * 2 ^ F * q ≤ p * 2 ^ (S + g)) ∧ (R ≤ m * 2 ^ F ↔ p * 2 ^ (S + g) ≤ m * 2 ^ F * q) := by
  rw [pow_shift]
  generalize p * 2 ^ S = P at r1 r2 r3 hQ ⊢
  have hP : 0 < 2 ^ g := Nat.pow_pos (by omega)
  have d1 : P / q * q ≤ P := Nat.div_mul_le_self P q
  have d2 : P < (P / q + 1) * q := by
    have := Nat.lt_div_mul_add (a := P) hq
    rw [Nat.add_mul, Nat.one_mul]
    exact this
  have d3 : P % q + P / q * q = P := by rw [Nat.mul_comm]; exact Nat.mod_add_div P q
  obtain ⟨Q, hQe⟩ : ∃ Q, P / q = Q := ⟨_, rfl⟩
  rw [hQe] at r1 r2 r3 hQ d1 d2 d3
  have x1 : ∀ y, y * 2 ^ g * q = y * q * 2 ^ g := fun y => by ac_rfl
  have c1 : Q * 2 ^ g * q ≤ P * 2 ^ g := by rw [x1]; exact Nat.mul_le_mul_right _ d1
  have c2 : P * 2 ^ g < (Q + 1) * 2 ^ g * q := by rw [x1]; exact Nat.mul_lt_mul_of_pos_right d2 hP
  constructor
  · refine sticky_le (fun y => y * q ≤ P * 2 ^ g) (fun x y h h2 => Nat.le_trans (Nat.mul_le_mul_right _ h) h2) c1 (by show ¬_ ≤ _; omega) r1 r2 hQ hm
  · refine sticky_ge (fun y => P * 2 ^ g ≤ y * q) (fun x y h h2 => Nat.le_trans h2 (Nat.mul_le_mul_right _ h)) (fun h => ?_) (fun x h => ?_) (fun h => ?_) (by show _ ≤ _; omega) r1 r2 hQ hm
    · have := r3.1 h
      show P * 2 ^ g ≤ Q * 2 ^ g * q
      rw [x1, ← d3, this, Nat.zero_add]
      exact Nat.le_refl _
    · have := Nat.mul_lt_mul_of_pos_right h hq
      show ¬P * 2 ^ g ≤ x * q
      omega
    · have h4 : ¬P % q = 0 := fun h5 => h (r3.2 h5)
      have h5 : Q * q < P := by omega
      have h6 := Nat.mul_lt_mul_of_pos_right h5 hP
      show ¬P * 2 ^ g ≤ Q * 2 ^ g * q
      rw [x1]
      omega
end Go.Proofs.YtmjhlflemfkflaaDoor
/-
  Quotients of numbers with a point, cut, without the program: its own and the reference's are the same.
-/
namespace Go.Proofs.YtmjhlflemfkflaaDoor
open Go.RowKit

/-- The reference's quotient, ahead of its cut. -/
def refOverT (a b : Trip) (B : Nat) : Trip := ⟨a.s != b.s, a.n * 2 ^ (B + 4 + bitLen b.n) / b.n * 4 + (if 0 < a.n * 2 ^ (B + 4 + bitLen b.n) % b.n then 1 else 0), a.e - b.e - ((B + 4 + bitLen b.n : Nat) : Int) - 2⟩

/-- The reference's quotient. -/
def dOverT (a b : Trip) (B : Nat) (up : Bool) : Trip := if a.n = 0 then ⟨false, 0, 0⟩ else dcutT (bare (refOverT a b B)) B up

theorem bitLen_pos {p : Nat} (hp : p ≠ 0) : 1 ≤ bitLen p := by
  have h := (bitLen_spec p).1
  rcases Nat.eq_zero_or_pos (bitLen p) with h0 | h0
  · rw [h0] at h
    omega
  · exact h0

theorem quot_big {p q S B : Nat} (hp : p ≠ 0) (hq : 0 < q) (hB : 1 ≤ B) (hS : B + bitLen q ≤ bitLen p + S) : 2 ^ B ≤ 2 * (p * 2 ^ S / q) := by
  have h1 := (bitLen_spec p).2 hp
  have h2 := (bitLen_spec q).1
  have hb := bitLen_pos hp
  have h3 : 2 ^ (B - 1) ≤ p * 2 ^ S / q := by
    rw [Nat.le_div_iff_mul_le hq]
    have h6 : 2 ^ (B - 1) * q ≤ 2 ^ (B - 1) * 2 ^ bitLen q := Nat.mul_le_mul_left _ (Nat.le_of_lt h2)
    rw [← Nat.pow_add] at h6
    have h4 : 2 ^ (B - 1 + bitLen q) ≤ 2 ^ (bitLen p - 1 + S) := Nat.pow_le_pow_right (by omega) (by omega)
    rw [Nat.pow_add 2 (bitLen p - 1)] at h4
    have h5 : 2 ^ (bitLen p - 1) * 2 ^ S ≤ p * 2 ^ S := Nat.mul_le_mul_right _ h1
    omega
  have h7 : 2 ^ B = 2 * 2 ^ (B - 1) := by
    rw [← Nat.pow_succ']
    congr 1
    omega
  omega

theorem bare_form {t : Trip} (h : t.n ≠ 0) : ∃ i n' : Nat, bare t = ⟨t.s, n', t.e + (i : Int)⟩ ∧ t.n = n' * 2 ^ i ∧ n' ≠ 0 := by
  obtain ⟨m, hm⟩ := tz_spec h
  have hd := div_tz hm
  refine ⟨tz t.n, 2 * m + 1, ?_, hm.trans (Nat.mul_comm _ _), by omega⟩
  unfold bare
  rw [if_neg h, hd]

theorem scale_iff {x p q i k c d : Nat} (h : k + d = i + c) : (x * (q * 2 ^ k) ≤ p * 2 ^ i * 2 ^ c ↔ x * q ≤ p * 2 ^ d) ∧ (p * 2 ^ i * 2 ^ c ≤ x * (q * 2 ^ k) ↔ p * 2 ^ d ≤ x * q) := by
  have e1 : x * (q * 2 ^ k) = x * q * 2 ^ k := (Nat.mul_assoc _ _ _).symm
  have e2 : p * 2 ^ i * 2 ^ c = p * 2 ^ d * 2 ^ k := by
    rw [Nat.mul_assoc, ← Nat.pow_add, ← h, Nat.pow_add]
    ac_rfl
  have hp : 0 < 2 ^ k := Nat.pow_pos (by omega)
  rw [e1, e2]
  exact ⟨Nat.mul_le_mul_right_iff hp, Nat.mul_le_mul_right_iff hp⟩

theorem rep2 {Q st : Nat} (g : Nat) (hst : st ≤ 1) : Q * 2 ^ (g + 1) ≤ (Q * 2 + st) * 2 ^ g ∧ (Q * 2 + st) * 2 ^ g < (Q + 1) * 2 ^ (g + 1) ∧ ((Q * 2 + st) * 2 ^ g = Q * 2 ^ (g + 1) ↔ st = 0) := by
  have hP : 0 < 2 ^ g := Nat.pow_pos (by omega)
  have x1 : (Q * 2 + st) * 2 ^ g = Q * 2 ^ g * 2 + st * 2 ^ g := by rw [Nat.add_mul]; ac_rfl
  have x2 : Q * 2 ^ (g + 1) = Q * 2 ^ g * 2 := by rw [Nat.pow_succ]; ac_rfl
  have x3 : (Q + 1) * 2 ^ (g + 1) = Q * 2 ^ g * 2 + 2 ^ g * 2 := by rw [Nat.add_mul, x2, Nat.one_mul, Nat.pow_succ]
  rw [x1, x2, x3]
  generalize Q * 2 ^ g = W
  generalize 2 ^ g = P at hP ⊢
  have : st = 0 ∨ st = 1 := by omega
  rcases this with h | h <;> subst h <;> omega

theorem rep4 {Q st : Nat} (g : Nat) (hst : st ≤ 1) : Q * 2 ^ (g + 2) ≤ (Q * 4 + st) * 2 ^ g ∧ (Q * 4 + st) * 2 ^ g < (Q + 1) * 2 ^ (g + 2) ∧ ((Q * 4 + st) * 2 ^ g = Q * 2 ^ (g + 2) ↔ st = 0) := by
  have hP : 0 < 2 ^ g := Nat.pow_pos (by omega)
  have x1 : (Q * 4 + st) * 2 ^ g = Q * 2 ^ g * 4 + st * 2 ^ g := by rw [Nat.add_mul]; ac_rfl
  have x0 : 2 ^ (g + 2) = 2 ^ g * 4 := Nat.pow_add 2 g 2
  have x2 : Q * 2 ^ (g + 2) = Q * 2 ^ g * 4 := by rw [x0]; ac_rfl
  have x3 : (Q + 1) * 2 ^ (g + 2) = Q * 2 ^ g * 4 + 2 ^ g * 4 := by rw [Nat.add_mul, x2, Nat.one_mul, x0]
  rw [x1, x2, x3]
  generalize Q * 2 ^ g = W
  generalize 2 ^ g = P at hP ⊢
  have : st = 0 ∨ st = 1 := by omega
  rcases this with h | h <;> subst h <;> omega

theorem over_alike (a b : Trip) (B : Nat) (up : Bool) (hB : 1 ≤ B) (ha : a.n ≠ 0) (hb : 0 < b.n) : bare (cutT (overT a b B) B up) = dcutT (bare (refOverT (bare a) (bare b) B)) B up := by
  rw [← cut_bare _ _ _ (by omega)]
  obtain ⟨i, p, ea, fa, pa⟩ := bare_form ha
  obtain ⟨k, q, eb, fb, pb⟩ := bare_form (t := b) (by omega)
  rw [ea, eb]
  obtain ⟨S1, hS1⟩ : ∃ S, overS a b B = S := ⟨_, rfl⟩
  obtain ⟨S2, hS2⟩ : ∃ S, B + 4 + bitLen q = S := ⟨_, rfl⟩
  have big1 : 2 ^ B ≤ 2 * (a.n * 2 ^ S1 / b.n) := quot_big ha hb hB (by rw [← hS1]; unfold overS; omega)
  have big2 : 2 ^ B ≤ 2 * (p * 2 ^ S2 / q) := quot_big pa (by omega) hB (by rw [← hS2]; omega)
  have hpos : 0 < 2 ^ B := Nat.pow_pos (by omega)
  unfold overT endlessT refOverT
  simp only
  rw [hS1, hS2]
  obtain ⟨st1, hst1⟩ : ∃ st, (if decide (0 < a.n * 2 ^ S1 % b.n) = true then 1 else 0) = st := ⟨_, rfl⟩
  obtain ⟨st2, hst2⟩ : ∃ st, (if 0 < p * 2 ^ S2 % q then 1 else 0) = st := ⟨_, rfl⟩
  have s1 : st1 ≤ 1 ∧ (st1 = 0 ↔ a.n * 2 ^ S1 % b.n = 0) := by
    rw [← hst1]
    simp only [decide_eq_true_eq]
    split <;> omega
  have s2 : st2 ≤ 1 ∧ (st2 = 0 ↔ p * 2 ^ S2 % q = 0) := by
    rw [← hst2]
    split <;> omega
  rw [hst1, hst2]
  obtain ⟨K, hK⟩ : ∃ K, a.e.natAbs + b.e.natAbs + S1 + S2 + i + k + 10 = K := ⟨_, rfl⟩
  obtain ⟨g1, hg1⟩ : ∃ g : Nat, a.e - b.e - (S1 : Int) - 1 + (K : Int) = (g : Int) := ⟨(a.e - b.e - (S1 : Int) - 1 + (K : Int)).toNat, by omega⟩
  obtain ⟨g2, hg2⟩ : ∃ g : Nat, a.e + (i : Int) - (b.e + (k : Int)) - (S2 : Int) - 2 + (K : Int) = (g : Int) := ⟨(a.e + (i : Int) - (b.e + (k : Int)) - (S2 : Int) - 2 + (K : Int)).toNat, by omega⟩
  obtain ⟨u1, u2, u3⟩ := rep2 (Q := a.n * 2 ^ S1 / b.n) g1 s1.1
  obtain ⟨w1, w2, w3⟩ := rep4 (Q := p * 2 ^ S2 / q) g2 s2.1
  have key : ∀ m F, m < 2 ^ B → ((m * 2 ^ F ≤ (a.n * 2 ^ S1 / b.n * 2 + st1) * 2 ^ g1 ↔ m * 2 ^ F ≤ (p * 2 ^ S2 / q * 4 + st2) * 2 ^ g2) ∧ ((a.n * 2 ^ S1 / b.n * 2 + st1) * 2 ^ g1 ≤ m * 2 ^ F ↔ (p * 2 ^ S2 / q * 4 + st2) * 2 ^ g2 ≤ m * 2 ^ F)) := fun m F hm => by
    obtain ⟨x1, x2⟩ := quot_rep hb u1 u2 (u3.trans s1.2) big1 m F hm
    obtain ⟨y1, y2⟩ := quot_rep (by omega) w1 w2 (w3.trans s2.2) big2 m F hm
    rw [x1, x2, y1, y2]
    have hsc := @scale_iff (m * 2 ^ F) p q i k (S1 + (g1 + 1)) (S2 + (g2 + 2)) (by omega)
    rw [← fa, ← fb] at hsc
    exact hsc
  refine cut_alike_mag (K := K) (B : Int) up (by omega) (by show -(K : Int) ≤ a.e - b.e - (S1 : Int) - 1; omega) (by show -(K : Int) ≤ a.e + (i : Int) - (b.e + (k : Int)) - (S2 : Int) - 2; omega) rfl (by show 0 < a.n * 2 ^ S1 / b.n * 2 + st1; omega) (by show 0 < p * 2 ^ S2 / q * 4 + st2; omega) (fun m F hm => ?_) (fun m F hm => ?_)
  · simp only [hg1, hg2, Int.toNat_natCast] at hm ⊢
    exact (key m F hm).1
  · simp only [hg1, hg2, Int.toNat_natCast] at hm ⊢
    exact (key m F hm).2

theorem bare_n_zero (a : Trip) : (bare a).n = 0 ↔ a.n = 0 := by
  by_cases h : a.n = 0
  · unfold bare
    rw [if_pos h]
    exact ⟨fun _ => h, fun _ => rfl⟩
  · obtain ⟨i, p, ea, fa, pa⟩ := bare_form h
    rw [ea]
    exact ⟨fun h2 => absurd h2 pa, fun h2 => absurd h2 h⟩

theorem dover_cut (a b : Trip) (B : Nat) (up : Bool) (hB : 1 ≤ B) (hb : 0 < b.n) : dOverT (bare a) (bare b) B up = bare (cutT (overT a b B) B up) := by
  unfold dOverT
  by_cases h : a.n = 0
  · rw [if_pos ((bare_n_zero a).2 h)]
    have hz : (overT a b B).n = 0 := by
      unfold overT endlessT
      simp [h]
    have hc : cutT (overT a b B) B up = overT a b B := if_pos (by rw [hz, bitLen_zero, if_pos rfl]; omega)
    rw [hc]
    unfold bare
    rw [if_pos hz]
  · rw [if_neg (fun h2 => h ((bare_n_zero a).1 h2)), over_alike a b B up hB h hb]

theorem four_overs (A0 A1 B0 B1 : Trip) (B : Nat) (up : Bool) (hB : 1 ≤ B) (h0 : 0 < B0.n) (h1 : 0 < B1.n) : four (fun a b => dOverT a b B up) (bare A0) (bare A1) (bare B0) (bare B1) = fun j => bare (cutT (four (fun a b => overT a b B) A0 A1 B0 B1 j) B up) := by
  funext j
  match j with
  | 0 => exact dover_cut A0 B0 B up hB h0
  | 1 => exact dover_cut A0 B1 B up hB h1
  | 2 => exact dover_cut A1 B0 B up hB h0
  | _ + 3 => exact dover_cut A1 B1 B up hB h1

/-- The least of what is cut is what the least is cut to. -/
theorem lo_cut (x : Nat → Trip) (i : Nat) (b : Int) (up : Bool) (hb : 1 ≤ b) : bare (loT (fun j => cutT (x j) b up) i) = bare (cutT (loT x i) b up) := by
  obtain ⟨K, hK⟩ : ∃ K : Nat, ∀ j, j ≤ i → -(K : Int) ≤ (x j).e := by
    induction i with
    | zero => exact ⟨(x 0).e.natAbs, fun j hj => by rw [show j = 0 by omega]; omega⟩
    | succ i ih =>
      obtain ⟨K, hK⟩ := ih
      refine ⟨K + (x (i + 1)).e.natAbs, fun j hj => ?_⟩
      by_cases h : j = i + 1
      · rw [h]; omega
      · have := hK j (by omega); omega
  have he : ∀ j, j ≤ i → -(K : Int) ≤ (cutT (x j) b up).e := fun j hj => by
    obtain ⟨_, _, h3, h4⟩ := V_low (x j) b hb (hK j hj)
    cases up
    · exact h3
    · exact h4
  have hl : -(K : Int) ≤ (loT x i).e := loT_all x i (fun t => -(K : Int) ≤ t.e) hK
  refine loT_bare _ i _ he ?_ (fun j hj => cut_mono b up hb hl (hK j hj) (loT_le x i hK j hj)) ⟨loI x i, loI_le x i, rfl⟩
  obtain ⟨_, _, h3, h4⟩ := V_low (loT x i) b hb hl
  cases up
  · exact h3
  · exact h4

theorem hi_cut (x : Nat → Trip) (i : Nat) (b : Int) (up : Bool) (hb : 1 ≤ b) : bare (hiT (fun j => cutT (x j) b up) i) = bare (cutT (hiT x i) b up) := by
  obtain ⟨K, hK⟩ : ∃ K : Nat, ∀ j, j ≤ i → -(K : Int) ≤ (x j).e := by
    induction i with
    | zero => exact ⟨(x 0).e.natAbs, fun j hj => by rw [show j = 0 by omega]; omega⟩
    | succ i ih =>
      obtain ⟨K, hK⟩ := ih
      refine ⟨K + (x (i + 1)).e.natAbs, fun j hj => ?_⟩
      by_cases h : j = i + 1
      · rw [h]; omega
      · have := hK j (by omega); omega
  have he : ∀ j, j ≤ i → -(K : Int) ≤ (cutT (x j) b up).e := fun j hj => by
    obtain ⟨_, _, h3, h4⟩ := V_low (x j) b hb (hK j hj)
    cases up
    · exact h3
    · exact h4
  have hl : -(K : Int) ≤ (hiT x i).e := hiT_all x i (fun t => -(K : Int) ≤ t.e) hK
  refine hiT_bare _ i _ he ?_ (fun j hj => cut_mono b up hb (hK j hj) hl (hiT_ge x i hK j hj)) ⟨hiI x i, hiI_le x i, rfl⟩
  obtain ⟨_, _, h3, h4⟩ := V_low (hiT x i) b hb hl
  cases up
  · exact h3
  · exact h4

/-- Both ends of a quotient. -/
theorem divs_ends (A0 A1 B0 B1 : Trip) (B : Nat) (hB : 1 ≤ B) (h0 : 0 < B0.n) (h1 : 0 < B1.n) :
    loT (four (fun a b => dOverT a b B false) (bare A0) (bare A1) (bare B0) (bare B1)) 3 = bare (cutT (loT (four (fun a b => overT a b B) A0 A1 B0 B1) 3) B false) ∧
    hiT (four (fun a b => dOverT a b B true) (bare A0) (bare A1) (bare B0) (bare B1)) 3 = bare (cutT (hiT (four (fun a b => overT a b B) A0 A1 B0 B1) 3) B true) := by
  rw [four_overs A0 A1 B0 B1 B false hB h0 h1, four_overs A0 A1 B0 B1 B true hB h0 h1]
  have e1 := loT_bares (fun j => cutT (four (fun a b => overT a b B) A0 A1 B0 B1 j) B false) 3
  have e2 := hiT_bares (fun j => cutT (four (fun a b => overT a b B) A0 A1 B0 B1 j) B true) 3
  rw [e1, e2, lo_cut _ 3 B false (by omega), hi_cut _ 3 B true (by omega)]
  exact ⟨rfl, rfl⟩

theorem dcut_again (A : Trip) (b : Int) (u1 u2 : Bool) (hb : 1 ≤ b) : dcutT (bare (cutT A b u1)) b u2 = bare (cutT A b u1) := if_pos (by have := cut_bits A b u1 hb; omega)

theorem least_toT2 {x : Nat → Trip} {m : Nat} {n : Int} {L H : Trip} (h1 : L = bare (cutT (loT x (m - 1)) n false)) (h2 : H = bare (cutT (hiT x (m - 1)) n true)) (hn : 1 ≤ n) : leastR x m n = ballR (toT (dcutT L n false)) (toT (dcutT H n true)) := by
  unfold leastR
  rw [← toT_bare, ← toT_bare, h1, h2, dcut_again _ _ _ _ hn, dcut_again _ _ _ _ hn]
end Go.Proofs.YtmjhlflemfkflaaDoor
/-
  How far exponents go where a number is cut and bared.
-/
namespace Go.Proofs.YtmjhlflemfkflaaDoor
open Go.RowKit

theorem pow_len16 {n k L : Nat} (h : n < 2 ^ k) (hk : k ≤ 16 * L) : (Dg.dg 65536 n).length ≤ L := by
  refine Dg.dg_len_le 65536 n L (by omega) (Nat.lt_of_lt_of_le h ?_)
  rw [show (65536 : Nat) = 2 ^ 16 from rfl, ← Nat.pow_mul]
  exact Nat.pow_le_pow_right (by omega) hk

theorem tz_le_of {n k : Nat} (h0 : n ≠ 0) (h : n ≤ 2 ^ k) : tz n ≤ k := by
  obtain ⟨m, hm⟩ := tz_spec h0
  have h2 : 2 ^ tz n * 1 ≤ 2 ^ tz n * (2 * m + 1) := Nat.mul_le_mul_left _ (by omega)
  have h3 : 2 ^ tz n ≤ 2 ^ k := by omega
  exact (Nat.pow_le_pow_iff_right (by omega)).1 h3

theorem cut_bare_e {A : Trip} {b : Int} {up : Bool} {lo hi : Int} (hb : 1 ≤ b) (h1 : lo ≤ A.e) (h2 : A.e + (bitLen A.n : Int) ≤ hi) (h3 : lo ≤ 0) (h4 : 0 ≤ hi) : lo ≤ (bare (cutT A b up)).e ∧ (bare (cutT A b up)).e ≤ hi := by
  by_cases hz : (cutT A b up).n = 0
  · unfold bare
    rw [if_pos hz]
    exact ⟨h3, h4⟩
  · rcases cut_ways A b up hb with ⟨_, h⟩ | ⟨j, q, _, h0, hj, _, _, _, hq, _, _, h⟩
    · rw [h] at hz ⊢
      have ht := tz_le_of hz (Nat.le_of_lt (bitLen_spec A.n).1)
      unfold bare
      rw [if_neg hz]
      show lo ≤ A.e + (tz A.n : Int) ∧ A.e + (tz A.n : Int) ≤ hi
      omega
    · rw [h] at hz ⊢
      have hx : q + (if (up != A.s) = true then 1 else 0) ≤ 2 ^ b.toNat := by split <;> omega
      have ht : tz (q + (if (up != A.s) = true then 1 else 0)) ≤ b.toNat := tz_le_of hz hx
      unfold bare
      rw [if_neg hz]
      show lo ≤ A.e + (j : Int) + (tz (q + (if (up != A.s) = true then 1 else 0)) : Int) ∧ A.e + (j : Int) + (tz (q + (if (up != A.s) = true then 1 else 0)) : Int) ≤ hi
      omega
end Go.Proofs.YtmjhlflemfkflaaDoor

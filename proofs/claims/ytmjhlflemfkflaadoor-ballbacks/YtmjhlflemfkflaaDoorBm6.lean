/-
  Roots of numbers with a point, cut, without the program: its own and the reference's are the same, and they grow.
-/
import Derived.Test.YtmjhlflemfkflaaDoorBo
import Derived.Test.YtmjhlflemfkflaaDoorDu3
namespace Go.Proofs.YtmjhlflemfkflaaDoor
open Go.RowKit

theorem sq_mono {x y : Nat} (h : x ≤ y) : x * x ≤ y * y := Nat.mul_le_mul h h

theorem sq_lt {x y : Nat} (h : x < y) : x * x < y * y := Nat.mul_lt_mul'' h h

theorem isRoot2 {P Q : Nat} (h : IsRoot P 2 Q) : Q * Q ≤ P ∧ P < (Q + 1) * (Q + 1) := by
  obtain ⟨h1, h2⟩ := h
  rw [Nat.pow_two] at h1 h2
  exact ⟨h1, h2⟩

theorem sq_scale (y g : Nat) : y * 2 ^ g * (y * 2 ^ g) = y * y * 2 ^ (g + g) := by
  rw [Nat.pow_add]
  ac_rfl

/-- A root by its first bits. -/
theorem root_rep {P Q g R B : Nat} (hq : IsRoot P 2 Q) (r1 : Q * 2 ^ g ≤ R) (r2 : R < (Q + 1) * 2 ^ g) (r3 : R = Q * 2 ^ g ↔ Q * Q = P) (hQ : 2 ^ B ≤ 2 * Q) (m F : Nat) (hm : m < 2 ^ B) :
    (m * 2 ^ F ≤ R ↔ m * 2 ^ F * (m * 2 ^ F) ≤ P * 2 ^ (g + g)) ∧ (R ≤ m * 2 ^ F ↔ P * 2 ^ (g + g) ≤ m * 2 ^ F * (m * 2 ^ F)) := by
  obtain ⟨d1, d2⟩ := isRoot2 hq
  have hP : 0 < 2 ^ (g + g) := Nat.pow_pos (by omega)
  have c1 : Q * 2 ^ g * (Q * 2 ^ g) ≤ P * 2 ^ (g + g) := by rw [sq_scale]; exact Nat.mul_le_mul_right _ d1
  have c2 : P * 2 ^ (g + g) < (Q + 1) * 2 ^ g * ((Q + 1) * 2 ^ g) := by rw [sq_scale]; exact Nat.mul_lt_mul_of_pos_right d2 hP
  constructor
  · refine sticky_le (fun y => y * y ≤ P * 2 ^ (g + g)) (fun x y h h2 => Nat.le_trans (sq_mono h) h2) c1 (by show ¬_ ≤ _; omega) r1 r2 hQ hm
  · refine sticky_ge (fun y => P * 2 ^ (g + g) ≤ y * y) (fun x y h h2 => Nat.le_trans h2 (sq_mono h)) (fun h => ?_) (fun x h => ?_) (fun h => ?_) (by show _ ≤ _; omega) r1 r2 hQ hm
    · show P * 2 ^ (g + g) ≤ Q * 2 ^ g * (Q * 2 ^ g)
      rw [sq_scale, r3.1 h]
      exact Nat.le_refl _
    · have := sq_lt h
      show ¬P * 2 ^ (g + g) ≤ x * x
      omega
    · have h4 : ¬Q * Q = P := fun h5 => h (r3.2 h5)
      have h5 : Q * Q < P := by omega
      have h6 := Nat.mul_lt_mul_of_pos_right h5 hP
      show ¬P * 2 ^ (g + g) ≤ Q * 2 ^ g * (Q * 2 ^ g)
      rw [sq_scale]
      omega

theorem root_is (a : Nat) : ∃ x, IsRoot a 2 x := by
  have key : ∀ n x : Nat, x * x ≤ a → a < (x + n) * (x + n) → ∃ x, IsRoot a 2 x := fun n => by
    induction n with
    | zero => intro x h1 h2; simp only [Nat.add_zero] at h2; omega
    | succ n ih =>
      intro x h1 h2
      by_cases h : (x + 1) * (x + 1) ≤ a
      · exact ih (x + 1) h (by rw [show x + 1 + n = x + (n + 1) by omega]; exact h2)
      · refine ⟨x, ?_, ?_⟩
        · rw [Nat.pow_two]; exact h1
        · rw [Nat.pow_two]; omega
  refine key (a + 1) 0 (by omega) ?_
  simp only [Nat.zero_add]
  have : (a + 1) * 1 ≤ (a + 1) * (a + 1) := Nat.mul_le_mul_left _ (by omega)
  omega

theorem rootOf_is (a : Nat) : IsRoot a 2 (rootOf a 2) := by
  obtain ⟨x, hx⟩ := root_is a
  rw [rootOf_eq hx]
  exact hx

theorem rootOf_zero : rootOf 0 2 = 0 := rootOf_eq (root_zero (by omega))

theorem root_big {P Q B : Nat} (h : IsRoot P 2 Q) (hB : 1 ≤ B) (hP : 2 ^ (2 * B - 2) ≤ P) : 2 ^ B ≤ 2 * Q := by
  obtain ⟨h1, h2⟩ := isRoot2 h
  obtain ⟨c, rfl⟩ : ∃ c, B = c + 1 := ⟨B - 1, by omega⟩
  rw [show 2 * (c + 1) - 2 = c + c by omega, Nat.pow_add] at hP
  rw [Nat.pow_succ]
  generalize 2 ^ c = x at hP ⊢
  rcases Nat.lt_or_ge Q x with h3 | h3
  · have := sq_mono (x := Q + 1) (y := x) h3
    omega
  · omega

/-- The reference's root, ahead of its cut. -/
def rootN (a : Trip) (B : Nat) : Nat := if (a.e + ((2 * B + 8 : Nat) : Int)) % 2 = 0 then 2 * B + 8 else 2 * B + 9

theorem rootN_even (a : Trip) (B : Nat) : (a.e - (rootN a B : Int)) % 2 = 0 := by
  unfold rootN
  split <;> omega

noncomputable def refRootT (a : Trip) (B : Nat) : Trip :=
  ⟨false, rootOf (a.n * 2 ^ rootN a B) 2 * 4 + (if rootOf (a.n * 2 ^ rootN a B) 2 * rootOf (a.n * 2 ^ rootN a B) 2 = a.n * 2 ^ rootN a B then 0 else 1), (a.e - (rootN a B : Int)) / 2 - 2⟩

/-- The reference's root. -/
noncomputable def dRootT (a : Trip) (B : Nat) (up : Bool) : Trip := if a.n = 0 then ⟨false, 0, 0⟩ else dcutT (bare (refRootT a B)) B up

theorem big_of {p S k : Nat} (hp : p ≠ 0) (h : k + 1 ≤ bitLen p + S) : 2 ^ k ≤ p * 2 ^ S := by
  have h1 := (bitLen_spec p).2 hp
  have h2 := bitLen_pos hp
  have h3 : 2 ^ (bitLen p - 1) * 2 ^ S ≤ p * 2 ^ S := Nat.mul_le_mul_right _ h1
  rw [← Nat.pow_add] at h3
  exact Nat.le_trans (Nat.pow_le_pow_right (by omega) (by omega)) h3

/-- long.Root's answer lies beside the numbers of few bits as the root does. -/
theorem rootT_key (a : Trip) (B K : Nat) (hB : 1 ≤ B) (hK : -(K : Int) ≤ (rootT a B).e) (hK2 : -((K + K : Nat) : Int) ≤ a.e) (m F : Nat) (hm : m < 2 ^ B) :
    (m * 2 ^ F ≤ (rootT a B).n * 2 ^ ((rootT a B).e + (K : Int)).toNat ↔ m * 2 ^ F * (m * 2 ^ F) ≤ a.n * 2 ^ (a.e + ((K + K : Nat) : Int)).toNat) ∧
    ((rootT a B).n * 2 ^ ((rootT a B).e + (K : Int)).toNat ≤ m * 2 ^ F ↔ a.n * 2 ^ (a.e + ((K + K : Nat) : Int)).toNat ≤ m * 2 ^ F * (m * 2 ^ F)) := by
  by_cases h0 : a.n = 0
  · have hz : (rootT a B).n = 0 := by
      unfold rootT endlessT
      simp [h0, rootOf_zero]
    rw [hz, h0, Nat.zero_mul, Nat.zero_mul]
    refine ⟨?_, by simp⟩
    generalize m * 2 ^ F = y
    exact ⟨fun h => by rw [show y = 0 by omega]; exact Nat.le_refl _, fun h => by rcases Nat.mul_eq_zero.1 (show y * y = 0 by omega) with h1 | h1 <;> omega⟩
  · have hev := rootS_even a B
    have hlen : 2 * B ≤ bitLen a.n + rootS a B := by unfold rootS; split <;> omega
    have hp := big_of (S := rootS a B) (k := 2 * B - 2) h0 (by omega)
    have hr := rootOf_is (a.n * 2 ^ rootS a B)
    have hbig := root_big hr hB hp
    unfold rootT endlessT at hK ⊢
    simp only at hK ⊢
    obtain ⟨S, hS⟩ : ∃ S, rootS a B = S := ⟨_, rfl⟩
    rw [hS] at hK hr hev hbig ⊢
    obtain ⟨g, hg⟩ : ∃ g : Nat, (a.e - (S : Int)) / 2 - 1 + (K : Int) = (g : Int) := ⟨((a.e - (S : Int)) / 2 - 1 + (K : Int)).toNat, by omega⟩
    rw [hg, Int.toNat_natCast]
    obtain ⟨d1, d2⟩ := isRoot2 hr
    obtain ⟨Q, hQ⟩ : ∃ Q, rootOf (a.n * 2 ^ S) 2 = Q := ⟨_, rfl⟩
    rw [hQ] at hr hbig d1 d2 ⊢
    obtain ⟨st, hst⟩ : ∃ st, (if decide (Q * Q < a.n * 2 ^ S) = true then 1 else 0) = st := ⟨_, rfl⟩
    have s1 : st ≤ 1 ∧ (st = 0 ↔ Q * Q = a.n * 2 ^ S) := by
      rw [← hst]
      simp only [decide_eq_true_eq]
      split <;> omega
    rw [hst]
    obtain ⟨u1, u2, u3⟩ := rep2 (Q := Q) g s1.1
    have key := root_rep hr u1 u2 (u3.trans s1.2) hbig m F hm
    have he : a.n * 2 ^ S * 2 ^ (g + 1 + (g + 1)) = a.n * 2 ^ (a.e + ((K + K : Nat) : Int)).toNat := by
      rw [Nat.mul_assoc, ← Nat.pow_add]
      congr 2
      omega
    rw [he] at key
    exact key

theorem refRootT_key (a : Trip) (B K : Nat) (hB : 1 ≤ B) (h0 : a.n ≠ 0) (hK : -(K : Int) ≤ (refRootT a B).e) (hK2 : -((K + K : Nat) : Int) ≤ a.e) (m F : Nat) (hm : m < 2 ^ B) :
    (m * 2 ^ F ≤ (refRootT a B).n * 2 ^ ((refRootT a B).e + (K : Int)).toNat ↔ m * 2 ^ F * (m * 2 ^ F) ≤ a.n * 2 ^ (a.e + ((K + K : Nat) : Int)).toNat) ∧
    ((refRootT a B).n * 2 ^ ((refRootT a B).e + (K : Int)).toNat ≤ m * 2 ^ F ↔ a.n * 2 ^ (a.e + ((K + K : Nat) : Int)).toNat ≤ m * 2 ^ F * (m * 2 ^ F)) := by
  have hev := rootN_even a B
  have hlen : 2 * B ≤ rootN a B := by unfold rootN; split <;> omega
  have hp := big_of (S := rootN a B) (k := 2 * B - 2) h0 (by omega)
  have hr := rootOf_is (a.n * 2 ^ rootN a B)
  have hbig := root_big hr hB hp
  unfold refRootT at hK ⊢
  simp only at hK ⊢
  obtain ⟨S, hS⟩ : ∃ S, rootN a B = S := ⟨_, rfl⟩
  rw [hS] at hK hr hev hbig ⊢
  obtain ⟨g, hg⟩ : ∃ g : Nat, (a.e - (S : Int)) / 2 - 2 + (K : Int) = (g : Int) := ⟨((a.e - (S : Int)) / 2 - 2 + (K : Int)).toNat, by omega⟩
  rw [hg, Int.toNat_natCast]
  obtain ⟨d1, d2⟩ := isRoot2 hr
  obtain ⟨Q, hQ⟩ : ∃ Q, rootOf (a.n * 2 ^ S) 2 = Q := ⟨_, rfl⟩
  rw [hQ] at hr hbig d1 d2 ⊢
  obtain ⟨st, hst⟩ : ∃ st, (if Q * Q = a.n * 2 ^ S then 0 else 1) = st := ⟨_, rfl⟩
  have s1 : st ≤ 1 ∧ (st = 0 ↔ Q * Q = a.n * 2 ^ S) := by
    rw [← hst]
    split <;> omega
  rw [hst]
  obtain ⟨u1, u2, u3⟩ := rep4 (Q := Q) g s1.1
  have key := root_rep hr u1 u2 (u3.trans s1.2) hbig m F hm
  have he : a.n * 2 ^ S * 2 ^ (g + 2 + (g + 2)) = a.n * 2 ^ (a.e + ((K + K : Nat) : Int)).toNat := by
    rw [Nat.mul_assoc, ← Nat.pow_add]
    congr 2
    omega
  rw [he] at key
  exact key

theorem root_pos {a : Trip} {B : Nat} (hB : 1 ≤ B) (h0 : a.n ≠ 0) : 0 < (rootT a B).n := by
  have hlen : 2 * B ≤ bitLen a.n + rootS a B := by unfold rootS; split <;> omega
  have hp := big_of (S := rootS a B) (k := 2 * B - 2) h0 (by omega)
  have hbig := root_big (rootOf_is (a.n * 2 ^ rootS a B)) hB hp
  have h2 : 0 < 2 ^ B := Nat.pow_pos (by omega)
  unfold rootT endlessT
  show 0 < rootOf (a.n * 2 ^ rootS a B) 2 * 2 + _
  omega

theorem refRoot_pos {a : Trip} {B : Nat} (hB : 1 ≤ B) (h0 : a.n ≠ 0) : 0 < (refRootT a B).n := by
  have hlen : 2 * B ≤ rootN a B := by unfold rootN; split <;> omega
  have hp := big_of (S := rootN a B) (k := 2 * B - 2) h0 (by omega)
  have hbig := root_big (rootOf_is (a.n * 2 ^ rootN a B)) hB hp
  have h2 : 0 < 2 ^ B := Nat.pow_pos (by omega)
  unfold refRootT
  show 0 < rootOf (a.n * 2 ^ rootN a B) 2 * 4 + _
  omega

theorem root_zero_n {a : Trip} {B : Nat} (h0 : a.n = 0) : (rootT a B).n = 0 := by
  unfold rootT endlessT
  simp [h0, rootOf_zero]

/-- The reference's root is the program's, cut. -/
theorem droot_cut (a : Trip) (B : Nat) (up : Bool) (hB : 1 ≤ B) : dRootT (bare a) B up = bare (cutT (rootT a B) B up) := by
  unfold dRootT
  by_cases h : a.n = 0
  · rw [if_pos ((bare_n_zero a).2 h)]
    have hz : (rootT a B).n = 0 := root_zero_n h
    have hc : cutT (rootT a B) B up = rootT a B := if_pos (by rw [hz, bitLen_zero, if_pos rfl]; omega)
    rw [hc]
    unfold bare
    rw [if_pos hz]
  · rw [if_neg (fun h2 => h ((bare_n_zero a).1 h2)), ← cut_bare _ _ _ (by omega)]
    obtain ⟨i, p, ea, fa, pa⟩ := bare_form h
    rw [ea]
    obtain ⟨K, hK⟩ : ∃ K, (rootT a B).e.natAbs + (refRootT ⟨a.s, p, a.e + (i : Int)⟩ B).e.natAbs + a.e.natAbs + i = K := ⟨_, rfl⟩
    have k1 : -(K : Int) ≤ (rootT a B).e := by omega
    have k2 : -(K : Int) ≤ (refRootT ⟨a.s, p, a.e + (i : Int)⟩ B).e := by omega
    have k3 : -((K + K : Nat) : Int) ≤ a.e := by omega
    have k4 : -((K + K : Nat) : Int) ≤ (⟨a.s, p, a.e + (i : Int)⟩ : Trip).e := by show _ ≤ a.e + (i : Int); omega
    have hsc : p * 2 ^ (a.e + (i : Int) + ((K + K : Nat) : Int)).toNat = a.n * 2 ^ (a.e + ((K + K : Nat) : Int)).toNat := by
      rw [fa, Nat.mul_assoc, ← Nat.pow_add]
      congr 2
      omega
    refine (cut_alike_mag (K := K) (B : Int) up (by omega) k1 k2 rfl (root_pos hB h) (refRoot_pos hB pa) (fun m F hm => ?_) (fun m F hm => ?_)).symm
    · rw [Int.toNat_natCast] at hm
      have x1 := (rootT_key a B K hB k1 k3 m F hm).1
      have x2 := (refRootT_key ⟨a.s, p, a.e + (i : Int)⟩ B K hB pa k2 k4 m F hm).1
      simp only at x2
      rw [hsc] at x2
      exact x1.trans x2.symm
    · rw [Int.toNat_natCast] at hm
      have x1 := (rootT_key a B K hB k1 k3 m F hm).2
      have x2 := (refRootT_key ⟨a.s, p, a.e + (i : Int)⟩ B K hB pa k2 k4 m F hm).2
      simp only at x2
      rw [hsc] at x2
      exact x1.trans x2.symm

theorem cut_s (A : Trip) (b : Int) (up : Bool) (hb : 1 ≤ b) (h : A.s = false) : (bare (cutT A b up)).s = false := by
  have h1 : (cutT A b up).s = false := by
    rcases cut_ways2 A b up hb with h2 | ⟨j, q, _, _, _, h2⟩ <;> rw [h2] <;> exact h
  unfold bare
  split
  · rfl
  · exact h1

theorem V_pos {K : Nat} {t : Trip} (h : t.s = false) : V K t = ((t.n * 2 ^ (t.e + (K : Int)).toNat : Nat) : Int) := by
  rw [V_nat, h]
  rfl

/-- Roots grow, once they are cut. -/
theorem root_mono {K : Nat} {a b : Trip} (B : Nat) (up : Bool) (hB : 1 ≤ B) (ka : -(K : Int) ≤ (rootT a B).e) (kb : -(K : Int) ≤ (rootT b B).e) (ka2 : -((K + K : Nat) : Int) ≤ a.e) (kb2 : -((K + K : Nat) : Int) ≤ b.e)
    (h : a.n * 2 ^ (a.e + ((K + K : Nat) : Int)).toNat ≤ b.n * 2 ^ (b.e + ((K + K : Nat) : Int)).toNat) : V K (cutT (rootT a B) B up) ≤ V K (cutT (rootT b B) B up) := by
  obtain ⟨a1, a2, a3, a4⟩ := V_low (rootT a B) (B : Int) (by omega) ka
  obtain ⟨b1, b2, b3, b4⟩ := V_low (rootT b B) (B : Int) (by omega) kb
  have hsa : (rootT a B).s = false := rfl
  have hsb : (rootT b B).s = false := rfl
  cases up
  · have hl := cut_lt (rootT a B) (B : Int) false (by omega)
    have hs := cut_s (rootT a B) (B : Int) false (by omega) hsa
    have := best_low (rootT b B) (bare (cutT (rootT a B) B false)) (B : Int) (by omega) kb hl ?_
    · rwa [V_bare a3] at this
    · have h1 : V K (bare (cutT (rootT a B) B false)) ≤ V K (rootT a B) := by rw [V_bare a3]; exact a1
      rw [V_pos hs, V_pos hsa] at h1
      rw [V_pos hs, V_pos hsb]
      rw [Int.toNat_natCast] at hl
      have x1 := (rootT_key a B K hB ka ka2 _ ((bare (cutT (rootT a B) B false)).e + (K : Int)).toNat hl).1.1 (by exact_mod_cast h1)
      have x2 := (rootT_key b B K hB kb kb2 _ ((bare (cutT (rootT a B) B false)).e + (K : Int)).toNat hl).1.2 (Nat.le_trans x1 h)
      exact_mod_cast x2
  · have hl := cut_lt (rootT b B) (B : Int) true (by omega)
    have hs := cut_s (rootT b B) (B : Int) true (by omega) hsb
    have := best_high (rootT a B) (bare (cutT (rootT b B) B true)) (B : Int) (by omega) ka hl ?_
    · rwa [V_bare b4] at this
    · have h1 : V K (rootT b B) ≤ V K (bare (cutT (rootT b B) B true)) := by rw [V_bare b4]; exact b2
      rw [V_pos hs, V_pos hsb] at h1
      rw [V_pos hs, V_pos hsa]
      rw [Int.toNat_natCast] at hl
      have x1 := (rootT_key b B K hB kb kb2 _ ((bare (cutT (rootT b B) B true)).e + (K : Int)).toNat hl).2.1 (by exact_mod_cast h1)
      have x2 := (rootT_key a B K hB ka ka2 _ ((bare (cutT (rootT b B) B true)).e + (K : Int)).toNat hl).2.2 (Nat.le_trans h x1)
      exact_mod_cast x2

/-- Both ends of a root. -/
theorem root_ends (A0 A1 : Trip) (B : Nat) (hB : 1 ≤ B) (hs : 0 ≤ cmpT A0 zeroT) (hle : cmpT A0 A1 ≤ 0) :
    dRootT (bare A0) B false = bare (cutT (loT (twoT (rootT A0 B) (rootT A1 B)) 1) B false) ∧ dRootT (bare A1) B true = bare (cutT (hiT (twoT (rootT A0 B) (rootT A1 B)) 1) B true) := by
  obtain ⟨K, hK⟩ : ∃ K, (rootT A0 B).e.natAbs + (rootT A1 B).e.natAbs + A0.e.natAbs + A1.e.natAbs = K := ⟨_, rfl⟩
  have k0 : -(K : Int) ≤ (rootT A0 B).e := by omega
  have k1 : -(K : Int) ≤ (rootT A1 B).e := by omega
  have l0 : -((K + K : Nat) : Int) ≤ A0.e := by omega
  have l1 : -((K + K : Nat) : Int) ≤ A1.e := by omega
  have lz : -((K + K : Nat) : Int) ≤ zeroT.e := by show _ ≤ (0 : Int); omega
  have c0 := cmpT_lt l0 lz
  have c1 := cmpT_gt l0 l1
  rw [V_zeroT] at c0
  have v0 : 0 ≤ V (K + K) A0 := by
    by_cases hx : V (K + K) A0 < 0
    · have := c0.2 hx; omega
    · omega
  have v1 : V (K + K) A0 ≤ V (K + K) A1 := by
    by_cases hx : V (K + K) A1 < V (K + K) A0
    · have := c1.2 hx; omega
    · omega
  have hmag : A0.n * 2 ^ (A0.e + ((K + K : Nat) : Int)).toNat ≤ A1.n * 2 ^ (A1.e + ((K + K : Nat) : Int)).toNat := by
    rw [V_nat] at v0 v1
    rw [V_nat] at v1
    generalize A0.n * 2 ^ (A0.e + ((K + K : Nat) : Int)).toNat = x at v0 v1 ⊢
    generalize A1.n * 2 ^ (A1.e + ((K + K : Nat) : Int)).toNat = y at v1 ⊢
    cases A0.s <;> cases A1.s <;> simp [sz] at v0 v1 <;> omega
  have mono := fun up => root_mono (a := A0) (b := A1) B up hB k0 k1 l0 l1 hmag
  have all := twoT_all (rootT A0 B) (rootT A1 B) (fun t => -(K : Int) ≤ t.e) k0 k1
  have he : ∀ up j, j ≤ 1 → -(K : Int) ≤ (cutT (twoT (rootT A0 B) (rootT A1 B) j) B up).e := fun up j _ => by
    obtain ⟨_, _, h3, h4⟩ := V_low (twoT (rootT A0 B) (rootT A1 B) j) (B : Int) (by omega) (all j)
    cases up
    · exact h3
    · exact h4
  rw [droot_cut A0 B false hB, droot_cut A1 B true hB, ← lo_cut _ 1 (B : Int) false (by omega), ← hi_cut _ 1 (B : Int) true (by omega)]
  constructor
  · refine (loT_bare _ 1 _ (he false) (he false 0 (by omega)) (fun j hj => ?_) ⟨0, by omega, rfl⟩).symm
    match j with
    | 0 => exact Int.le_refl _
    | 1 => exact mono false
  · refine (hiT_bare _ 1 _ (he true) (he true 1 (by omega)) (fun j hj => ?_) ⟨1, by omega, rfl⟩).symm
    match j with
    | 0 => exact mono true
    | 1 => exact Int.le_refl _
end Go.Proofs.YtmjhlflemfkflaaDoor

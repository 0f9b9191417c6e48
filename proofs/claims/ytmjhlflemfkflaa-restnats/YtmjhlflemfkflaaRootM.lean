/-
  Roots by means: from above no step goes below what a root may be, and where one does not go down the root is reached.
-/
import Derived.Test.YtmjhlflemfkflaaMath
namespace Go.Proofs.Ytmjhlflemfkflaa

theorem mean_ge (r x : Int) (hr : 0 ≤ r) (hx : 0 ≤ x) (m : Nat) : ((m : Int) + 1) * r * x ^ m ≤ r ^ (m + 1) + m * x ^ (m + 1) := by
  induction m with
  | zero => simp [Int.pow_succ]
  | succ m ih =>
    have h1 : r * (((m : Int) + 1) * r * x ^ m) ≤ r * (r ^ (m + 1) + m * x ^ (m + 1)) := Int.mul_le_mul_of_nonneg_left ih hr
    have h2 : 0 ≤ ((m : Int) + 1) * x ^ m * ((x - r) * (x - r)) := by
      refine Int.mul_nonneg (Int.mul_nonneg (by omega) (Int.pow_nonneg hx)) ?_
      rcases Int.le_total 0 (x - r) with h | h
      · exact Int.mul_nonneg h h
      · exact Int.mul_nonneg_of_nonpos_of_nonpos h h
    have e1 : ((m + 1 : Nat) : Int) = (m : Int) + 1 := by omega
    rw [e1, Int.pow_succ r (m + 1), Int.pow_succ x (m + 1)]
    rw [Int.pow_succ x m] at h1 ⊢
    generalize r ^ (m + 1) = P at h1 ⊢
    generalize x ^ m = X at h1 h2 ⊢
    generalize (m : Int) = M at h1 h2 ⊢
    have key : P * r + (M + 1) * (X * x * x) - (M + 1 + 1) * r * (X * x) = (r * (P + M * (X * x)) - r * ((M + 1) * r * X)) + (M + 1) * X * ((x - r) * (x - r)) := by grind
    omega

theorem mean_nat (r x m : Nat) : (m + 1) * r * x ^ m ≤ r ^ (m + 1) + m * x ^ (m + 1) := by
  have := mean_ge (r : Int) (x : Int) (by omega) (by omega) m
  exact_mod_cast this

/-- The mean of m times x and of what makes a with them. -/
def meanN (a x m : Nat) : Nat := (m * x + a / x ^ m) / (m + 1)

theorem mean_above {a x m z : Nat} (hx : 0 < x) (hz : z ^ (m + 1) ≤ a) : z ≤ meanN a x m := by
  unfold meanN
  rw [Nat.le_div_iff_mul_le (by omega), Nat.mul_comm]
  have h1 := mean_nat z x m
  have hp : 0 < x ^ m := Nat.pow_pos hx
  rcases Nat.lt_or_ge ((m + 1) * z) (m * x) with h | h
  · exact Nat.le_trans (Nat.le_of_lt h) (Nat.le_add_right _ _)
  · have h2 : ((m + 1) * z - m * x) * x ^ m ≤ a := by
      have e : m * x * x ^ m = m * x ^ (m + 1) := by rw [Nat.mul_assoc, ← Nat.pow_succ']
      rw [Nat.sub_mul, e]
      exact Nat.sub_le_of_le_add (Nat.le_trans h1 (Nat.add_le_add_right hz _))
    have h3 := (Nat.le_div_iff_mul_le hp).2 h2
    exact Nat.sub_le_iff_le_add'.1 h3

theorem mean_stop {a x m : Nat} (hx : 0 < x) (h : x ≤ meanN a x m) : x ^ (m + 1) ≤ a := by
  unfold meanN at h
  rw [Nat.le_div_iff_mul_le (by omega), Nat.mul_add, Nat.mul_one, Nat.mul_comm x m] at h
  have hp : 0 < x ^ m := Nat.pow_pos hx
  have h2 : x ≤ a / x ^ m := by omega
  rw [Nat.le_div_iff_mul_le hp] at h2
  rw [Nat.pow_succ']
  exact h2

/-- x is not less than any number whose power is not more. -/
def Above (a k x : Nat) : Prop := ∀ z, z ^ k ≤ a → z ≤ x

theorem above_start {a k bits n : Nat} (ha : a < 2 ^ bits) (hn : bits ≤ n * k) : Above a k (2 ^ n) := fun z hz => by
  rcases Nat.lt_or_ge (2 ^ n) z with h | h
  · exfalso
    have h1 : (2 ^ n) ^ k ≤ z ^ k := Nat.pow_le_pow_left (by omega) k
    rw [← Nat.pow_mul] at h1
    have h2 : (2 : Nat) ^ bits ≤ 2 ^ (n * k) := Nat.pow_le_pow_right (by omega) hn
    omega
  · exact h

theorem above_step {a x m : Nat} (hx : 0 < x) : Above a (m + 1) (meanN a x m) := fun _ hz => mean_above hx hz

theorem above_pos {a k x : Nat} (h : Above a k x) (ha : 0 < a) : 0 < x := h 1 (by rw [Nat.one_pow]; exact ha)

/-- The greatest number whose power k is not more than a. -/
def IsRoot (a k x : Nat) : Prop := x ^ k ≤ a ∧ a < (x + 1) ^ k

theorem root_end {a x m : Nat} (h : Above a (m + 1) x) (hx : 0 < x) (hs : x ≤ meanN a x m) : IsRoot a (m + 1) x :=
  ⟨mean_stop hx hs, by
    rcases Nat.lt_or_ge a ((x + 1) ^ (m + 1)) with h1 | h1
    · exact h1
    · have := h (x + 1) h1; omega⟩

theorem root_one (a : Nat) : IsRoot a 1 a := ⟨by simp, by simp⟩

theorem root_zero {k : Nat} (hk : 0 < k) : IsRoot 0 k 0 := ⟨by rw [Nat.zero_pow hk]; exact Nat.le_refl _, by simp⟩

theorem root_le {a k x : Nat} (hk : 0 < k) (h : IsRoot a k x) : x ≤ a := by
  rcases Nat.eq_zero_or_pos x with e | e
  · omega
  · exact Nat.le_trans (Nat.le_self_pow (by omega) x) h.1
end Go.Proofs.Ytmjhlflemfkflaa

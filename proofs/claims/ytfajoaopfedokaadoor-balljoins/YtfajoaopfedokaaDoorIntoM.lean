/-
  Division by many digits, each found by trying downward from a guess: what the guess is, and what is kept.
-/
import Derived.Test.YtfajoaopfedokaaDoorMath
namespace Go.Proofs.YtfajoaopfedokaaDoor

theorem vl_head (B : Nat) (l : List Nat) : Dg.vl B l = l.getD 0 0 + B * Dg.vl B (l.drop 1) := by
  cases l with
  | nil => simp [Dg.vl]
  | cons d l => simp [Dg.vl]

theorem drop_head (l : List Nat) (k : Nat) : (l.drop k).getD 0 0 = l.getD k 0 := by
  simp [List.getD_eq_getElem?_getD]

theorem vl_drop_head (B : Nat) (l : List Nat) (k : Nat) : Dg.vl B (l.drop k) = l.getD k 0 + B * Dg.vl B (l.drop (k + 1)) := by
  rw [vl_head B (l.drop k), drop_head, List.drop_drop]

theorem vl_drop3 (B : Nat) (l : List Nat) (k : Nat) (h : l.length ≤ k + 3) : Dg.vl B (l.drop k) = l.getD k 0 + B * (l.getD (k + 1) 0 + B * l.getD (k + 2) 0) := by
  rw [vl_drop_head, vl_drop_head, vl_drop_head, List.drop_of_length_le (by omega)]
  simp [Dg.vl]

theorem vl_drop2 (B : Nat) (l : List Nat) (k : Nat) (h : l.length ≤ k + 2) : Dg.vl B (l.drop k) = l.getD k 0 + B * l.getD (k + 1) 0 := by
  rw [vl_drop_head, vl_drop_head, List.drop_of_length_le (by omega)]
  simp [Dg.vl]

theorem vl_take_any' (B : Nat) (l : List Nat) (k : Nat) : Dg.vl B l = Dg.vl B (l.take k) + B ^ k * Dg.vl B (l.drop k) := by
  by_cases h : k ≤ l.length
  · exact Dg.vl_take_drop B l k h
  · rw [List.take_of_length_le (by omega), List.drop_of_length_le (by omega)]
    simp [Dg.vl]

/-- The guess is at most too great. -/
theorem guess_ge (rs bs : List Nat) (n R b top under : Nat) (hn : 2 ≤ n) (hbl : bs.length = n) (sr : Dg.Small 65536 rs) (nb : Dg.Norm bs)
    (hR : Dg.vl 65536 rs = R) (hb : Dg.vl 65536 bs = b) (hrl : rs.length ≤ n + 1) (hlt : R < 65536 * b)
    (ht : top = 65536 * (65536 * rs.getD n 0 + rs.getD (n - 1) 0) + rs.getD (n - 2) 0) (hu : under = bs.getD (n - 1) 0 * 65536 + bs.getD (n - 2) 0) :
    R / b ≤ 65535 ∧ R / b ≤ top / (under + 1) + 1 := by
  obtain ⟨k, rfl⟩ : ∃ k, n = k + 2 := ⟨n - 2, by omega⟩
  have e1 : k + 2 - 1 = k + 1 := by omega
  have e2 : k + 2 - 2 = k := by omega
  rw [e1, e2] at ht hu
  have r1 := vl_take_any' 65536 rs k
  rw [vl_drop3 65536 rs k (by omega), hR] at r1
  have b1 := vl_take_any' 65536 bs k
  rw [vl_drop2 65536 bs k (by omega), hb] at b1
  have et : rs.getD k 0 + 65536 * (rs.getD (k + 1) 0 + 65536 * rs.getD (k + 2) 0) = top := by omega
  have eu : bs.getD k 0 + 65536 * bs.getD (k + 1) 0 = under := by omega
  rw [et] at r1
  rw [eu] at b1
  have rl : Dg.vl 65536 (rs.take k) < 65536 ^ k := Nat.lt_of_lt_of_le (Dg.vl_lt 65536 _ (Dg.small_take sr k (by omega))) (Nat.pow_le_pow_right (by omega) (List.length_take_le _ _))
  have hu1 : 65536 ≤ under := by
    have h0 := nb (by intro e; rw [e] at hbl; simp at hbl)
    rw [hbl, e1] at h0
    omega
  obtain ⟨P, hP⟩ : ∃ P, 65536 ^ k = P := ⟨_, rfl⟩
  rw [hP] at r1 b1 rl
  have hb0 : 0 < b := by
    rcases Nat.eq_zero_or_pos b with h | h
    · rw [h] at hlt; omega
    · exact h
  obtain ⟨Q, hQ⟩ : ∃ Q, R / b = Q := ⟨_, rfl⟩
  have q1 : Q ≤ 65535 := by
    rw [← hQ]
    have : R / b < 65536 := by rw [Nat.div_lt_iff_lt_mul hb0]; exact hlt
    omega
  have q2 : Q * b ≤ R := by rw [← hQ]; exact Nat.div_mul_le_self R b
  rw [hQ]
  refine ⟨q1, ?_⟩
  have q3 : Q * (P * under) ≤ Q * b := Nat.mul_le_mul_left _ (by omega)
  have q4 : P * (Q * under) < P * (top + 1) := by
    have : P * (Q * under) = Q * (P * under) := by rw [← Nat.mul_assoc, Nat.mul_comm P Q, Nat.mul_assoc]
    rw [this, Nat.mul_add]
    omega
  have q5 : Q * under < top + 1 := Nat.lt_of_mul_lt_mul_left q4
  rcases Nat.eq_zero_or_pos Q with h | h
  · rw [h]; exact Nat.zero_le _
  · obtain ⟨q, rfl⟩ : ∃ q, Q = q + 1 := ⟨Q - 1, by omega⟩
    have q6 : q * (under + 1) ≤ top := by
      rw [Nat.add_mul] at q5
      rw [Nat.mul_add]
      omega
    have := (Nat.le_div_iff_mul_le (by omega)).2 q6
    omega

/-- What the division keeps: k digits are still to be done; R is the rest. -/
def IntoI (xs cur : List Nat) (b k R : Nat) : Prop :=
  cur.length = xs.length ∧ Dg.Small 65536 cur ∧ (∀ j, j < k → cur.getD j 0 = 0) ∧ R < b ∧ Dg.vl 65536 (xs.drop k) = Dg.vl 65536 (cur.drop k) * b + R

theorem intoI_start (xs : List Nat) (b : Nat) (hb : 0 < b) : IntoI xs (List.replicate xs.length 0) b xs.length 0 := by
  refine ⟨by simp, Dg.small_replicate _ _ (by omega), fun j hj => by simp [List.getD_eq_getElem?_getD, hj], hb, ?_⟩
  simp [Dg.vl]

theorem intoI_set {xs cur : List Nat} {b k R N : Nat} (h : IntoI xs cur b (k + 1) R) (hk : k < xs.length) (hN : N = xs.getD k 0 + 65536 * R) (hb : 0 < b) (hx : xs.getD k 0 < 65536) :
    N < 65536 * b ∧ IntoI xs (cur.set k (N / b)) b k (N % b) := by
  obtain ⟨h1, h2, h3, h4, h5⟩ := h
  have hlt : N < 65536 * b := by
    have : 65536 * (R + 1) ≤ 65536 * b := Nat.mul_le_mul_left _ h4
    omega
  have hq : N / b < 65536 := by rw [Nat.div_lt_iff_lt_mul hb]; exact hlt
  refine ⟨hlt, by simpa using h1, Dg.small_set h2 _ _ hq, fun j hj => ?_, Nat.mod_lt _ hb, ?_⟩
  · rw [Dg.getD_set _ _ _ _ (by omega), if_neg (by omega)]
    exact h3 j (by omega)
  · rw [vl_drop_head 65536 xs k, vl_drop_head 65536 (cur.set k (N / b)) k, Dg.getD_set _ _ _ _ (by omega), if_pos rfl, List.drop_set_of_lt (by omega), h5]
    have := Nat.div_add_mod N b
    rw [Nat.add_mul, Nat.mul_comm (N / b) b, Nat.mul_assoc, Nat.mul_add]
    omega

theorem intoI_skip {xs cur : List Nat} {b k R N : Nat} (h : IntoI xs cur b (k + 1) R) (_hk : k < xs.length) (hN : N = xs.getD k 0 + 65536 * R) (hlt : N < b) : IntoI xs cur b k N := by
  obtain ⟨h1, h2, h3, h4, h5⟩ := h
  refine ⟨h1, h2, fun j hj => h3 j (by omega), hlt, ?_⟩
  rw [vl_drop_head 65536 xs k, vl_drop_head 65536 cur k, h3 k (by omega), h5, Nat.zero_add, Nat.mul_add, Nat.mul_assoc]
  omega

theorem intoI_end {xs cur : List Nat} {b R : Nat} (h : IntoI xs cur b 0 R) : Dg.vl 65536 xs / b = Dg.vl 65536 cur ∧ Dg.vl 65536 xs % b = R := by
  obtain ⟨h1, h2, h3, h4, h5⟩ := h
  simp only [List.drop_zero] at h5
  rw [h5, Nat.mul_comm]
  exact ⟨by rw [Nat.mul_add_div (by omega), Nat.div_eq_of_lt h4]; omega, by rw [Nat.mul_add_mod, Nat.mod_eq_of_lt h4]⟩

/-- The digit that is found is the quotient's. -/
theorem digit_found {b d N : Nat} (h1 : N / b ≤ d) (h2 : b * d ≤ N) (hb : 0 < b) : d = N / b := by
  have : d ≤ N / b := by rw [Nat.le_div_iff_mul_le hb, Nat.mul_comm]; exact h2
  omega

theorem digit_less {b d N : Nat} (h1 : N / b ≤ d) (h2 : ¬b * d ≤ N) (_hb : 0 < b) : N / b + 1 ≤ d := by
  rcases Nat.lt_or_ge (N / b) d with h | h
  · exact h
  · exfalso
    apply h2
    have e : d = N / b := by omega
    rw [e]
    exact Nat.mul_div_le N b
end Go.Proofs.YtfajoaopfedokaaDoor

/-
  Numbers with a point, without the program: a sign, a natural number and a power of 2.
-/
import Derived.Test.YtgbccbmflokooaaGreatDoorMem
import Derived.Lib.TrailingZeros
namespace Go.Proofs.YtgbccbmflokooaaGreatDoor

structure Trip where
  s : Bool
  n : Nat
  e : Int

/-- The number with its sign. -/
def sz (s : Bool) (n : Nat) : Int := if s then -(n : Int) else (n : Int)

/-- How often 2 is in it. -/
def tz (n : Nat) : Nat := Lib.ctzFrom n n

theorem tz_spec {n : Nat} (h : n ≠ 0) : ∃ m, n = 2 ^ tz n * (2 * m + 1) := by
  obtain ⟨m, hm, _⟩ := Lib.ctzFrom_spec n n (by omega) Nat.lt_two_pow_self
  exact ⟨m, hm⟩

theorem odd_pow_inj {t u m k : Nat} (h : 2 ^ t * (2 * m + 1) = 2 ^ u * (2 * k + 1)) : t = u ∧ m = k := by
  induction t generalizing u with
  | zero =>
    cases u with
    | zero => simp at h; exact ⟨rfl, by omega⟩
    | succ u => rw [Nat.pow_succ, Nat.mul_comm _ 2, Nat.mul_assoc] at h; omega
  | succ t ih =>
    cases u with
    | zero => rw [Nat.pow_succ, Nat.mul_comm _ 2, Nat.mul_assoc] at h; omega
    | succ u =>
      rw [Nat.pow_succ, Nat.mul_comm _ 2, Nat.mul_assoc, Nat.pow_succ, Nat.mul_comm (2 ^ u) 2, Nat.mul_assoc] at h
      have := ih (u := u) (by omega)
      exact ⟨by omega, this.2⟩

theorem tz_eq {n t m : Nat} (h : n = 2 ^ t * (2 * m + 1)) : tz n = t := by
  have hn : n ≠ 0 := by
    rw [h]
    exact Nat.ne_of_gt (Nat.mul_pos (Nat.pow_pos (by omega)) (by omega))
  obtain ⟨k, hk⟩ := tz_spec hn
  exact (odd_pow_inj (hk.symm.trans h)).1

/-- The same number with an odd n, or 0 without anything. -/
def bare (a : Trip) : Trip := if a.n = 0 then ⟨false, 0, 0⟩ else ⟨a.s, a.n / 2 ^ tz a.n, a.e + tz a.n⟩

theorem div_tz {n t m : Nat} (h : n = 2 ^ t * (2 * m + 1)) : n / 2 ^ t = 2 * m + 1 := by
  rw [h, Nat.mul_div_cancel_left _ (Nat.pow_pos (by omega))]

/-- Its value, so many powers of 2 up. -/
def V (K : Nat) (a : Trip) : Int := sz a.s a.n * ((2 ^ (a.e + K).toNat : Nat) : Int)

theorem sz_mul (s : Bool) (n k : Nat) : sz s n * (k : Int) = sz s (n * k) := by
  unfold sz
  cases s <;> simp [Int.neg_mul]

theorem sz_inj {s t : Bool} {n m : Nat} (h : sz s n = sz t m) (hn : n ≠ 0) : s = t ∧ n = m := by
  unfold sz at h
  cases s <;> cases t <;> simp at h <;> first | exact ⟨rfl, by omega⟩ | (exfalso; omega)

theorem V_nat (K : Nat) (a : Trip) : V K a = sz a.s (a.n * 2 ^ (a.e + K).toNat) := sz_mul _ _ _

theorem bare_of_V {K : Nat} {a b : Trip} (ha : -(K : Int) ≤ a.e) (hb : -(K : Int) ≤ b.e) (h : V K a = V K b) : bare a = bare b := by
  rw [V_nat, V_nat] at h
  have p1 : 0 < 2 ^ (a.e + K).toNat := Nat.pow_pos (by omega)
  have p2 : 0 < 2 ^ (b.e + K).toNat := Nat.pow_pos (by omega)
  unfold bare
  by_cases h0 : a.n = 0
  · have : b.n = 0 := by
      rw [h0, Nat.zero_mul] at h
      by_cases hb0 : b.n = 0
      · exact hb0
      · have hne : b.n * 2 ^ (b.e + K).toNat ≠ 0 := Nat.ne_of_gt (Nat.mul_pos (by omega) p2)
        have := (sz_inj h.symm hne).2
        omega
    rw [if_pos h0, if_pos this]
  · have hne : a.n * 2 ^ (a.e + K).toNat ≠ 0 := Nat.ne_of_gt (Nat.mul_pos (by omega) p1)
    obtain ⟨hs, hm⟩ := sz_inj h hne
    have hb0 : b.n ≠ 0 := by
      intro e
      rw [e, Nat.zero_mul] at hm
      exact hne hm
    rw [if_neg h0, if_neg hb0]
    obtain ⟨m, h1⟩ := tz_spec h0
    obtain ⟨k, h2⟩ := tz_spec hb0
    have e1 := div_tz h1
    have e2 := div_tz h2
    have h3 : 2 ^ (tz a.n + (a.e + K).toNat) * (2 * m + 1) = 2 ^ (tz b.n + (b.e + K).toNat) * (2 * k + 1) := by
      rw [Nat.pow_add, Nat.pow_add, Nat.mul_assoc, Nat.mul_comm (2 ^ (a.e + K).toNat), ← Nat.mul_assoc, ← h1, Nat.mul_assoc, Nat.mul_comm (2 ^ (b.e + K).toNat), ← Nat.mul_assoc, ← h2]
      exact hm
    obtain ⟨h4, h5⟩ := odd_pow_inj h3
    rw [e1, e2, hs, h5]
    have : a.e + (tz a.n : Int) = b.e + (tz b.n : Int) := by omega
    rw [this]

theorem bare_e {K : Nat} {a : Trip} (ha : -(K : Int) ≤ a.e) : -(K : Int) ≤ (bare a).e := by
  unfold bare
  by_cases h : a.n = 0
  · rw [if_pos h]; simp
  · rw [if_neg h]; simp only; omega

theorem V_bare {K : Nat} {a : Trip} (ha : -(K : Int) ≤ a.e) : V K (bare a) = V K a := by
  rw [V_nat, V_nat]
  unfold bare
  by_cases h : a.n = 0
  · rw [if_pos h, h]; simp [sz]
  · rw [if_neg h]
    obtain ⟨m, h1⟩ := tz_spec h
    simp only
    rw [div_tz h1]
    have : (a.e + (tz a.n : Int) + K).toNat = tz a.n + (a.e + K).toNat := by omega
    rw [this, Nat.pow_add, ← Nat.mul_assoc, Nat.mul_comm _ (2 ^ tz a.n), ← h1]

theorem bare_bare (a : Trip) : bare (bare a) = bare a := by
  have h1 : -((a.e.natAbs : Nat) : Int) ≤ a.e := by omega
  exact bare_of_V (bare_e h1) h1 (V_bare h1)

/-- Both together. -/
def plusT (a b : Trip) : Trip :=
  let e := min a.e b.e
  let x := a.n * 2 ^ (a.e - e).toNat
  let y := b.n * 2 ^ (b.e - e).toNat
  if a.s = b.s then ⟨a.s, x + y, e⟩ else if x < y then ⟨b.s, y - x, e⟩ else ⟨a.s, x - y, e⟩

theorem sz_add (s t : Bool) (x y : Nat) : sz s x + sz t y = if s = t then sz s (x + y) else if x < y then sz t (y - x) else sz s (x - y) := by
  unfold sz
  cases s <;> cases t <;> simp <;> (try split) <;> omega

theorem V_at {K : Nat} {a : Trip} {e : Int} (h1 : -(K : Int) ≤ e) (h2 : e ≤ a.e) : V K a = sz a.s (a.n * 2 ^ (a.e - e).toNat) * ((2 ^ (e + K).toNat : Nat) : Int) := by
  rw [V_nat, sz_mul, Nat.mul_assoc, ← Nat.pow_add]
  have : (a.e + K).toNat = (a.e - e).toNat + (e + K).toNat := by omega
  rw [this]

theorem V_plus {K : Nat} {a b : Trip} (ha : -(K : Int) ≤ a.e) (hb : -(K : Int) ≤ b.e) : V K (plusT a b) = V K a + V K b := by
  have h0 : -(K : Int) ≤ min a.e b.e := by omega
  rw [V_at h0 (Int.min_le_left a.e b.e), V_at h0 (Int.min_le_right a.e b.e), ← Int.add_mul, sz_add]
  unfold plusT V
  simp only
  split
  · rfl
  · split <;> rfl

theorem plus_e {K : Nat} {a b : Trip} (ha : -(K : Int) ≤ a.e) (hb : -(K : Int) ≤ b.e) : -(K : Int) ≤ (plusT a b).e := by
  unfold plusT
  simp only
  split
  · simp only; omega
  · split <;> (simp only; omega)

/-- As the reference takes both together. -/
def dplusT (a b : Trip) : Trip :=
  let e0 := min a.e b.e
  let e1 := if a.n = 0 then b.e else e0
  let e := if b.n = 0 then a.e else e1
  let x := a.n * 2 ^ (max 0 (a.e - e)).toNat
  let y := b.n * 2 ^ (max 0 (b.e - e)).toNat
  if a.s = b.s then ⟨a.s, x + y, e⟩ else if y ≤ x then ⟨a.s, x - y, e⟩ else ⟨b.s, y - x, e⟩

theorem V_at0 {K : Nat} {a : Trip} {e : Int} (h1 : -(K : Int) ≤ e) (h2 : a.n = 0 ∨ e ≤ a.e) : V K a = sz a.s (a.n * 2 ^ (max 0 (a.e - e)).toNat) * ((2 ^ (e + K).toNat : Nat) : Int) := by
  rcases h2 with h2 | h2
  · rw [V_nat, h2, Nat.zero_mul, Nat.zero_mul]; simp [sz]
  · rw [V_at h1 h2]
    have : max 0 (a.e - e) = a.e - e := by omega
    rw [this]

theorem V_dplus {K : Nat} {a b : Trip} (ha : -(K : Int) ≤ a.e) (hb : -(K : Int) ≤ b.e) : V K (dplusT a b) = V K a + V K b := by
  obtain ⟨e, he⟩ : ∃ e, (if b.n = 0 then a.e else if a.n = 0 then b.e else min a.e b.e) = e := ⟨_, rfl⟩
  have h0 : -(K : Int) ≤ e := by rw [← he]; split <;> (try split) <;> omega
  have h1 : a.n = 0 ∨ e ≤ a.e := by
    rw [← he]
    by_cases x : b.n = 0
    · rw [if_pos x]; exact .inr (Int.le_refl _)
    · rw [if_neg x]
      by_cases y : a.n = 0
      · exact .inl y
      · rw [if_neg y]; exact .inr (Int.min_le_left _ _)
  have h2 : b.n = 0 ∨ e ≤ b.e := by
    rw [← he]
    by_cases x : b.n = 0
    · exact .inl x
    · rw [if_neg x]
      by_cases y : a.n = 0
      · rw [if_pos y]; exact .inr (Int.le_refl _)
      · rw [if_neg y]; exact .inr (Int.min_le_right _ _)
  rw [V_at0 h0 h1, V_at0 h0 h2, ← Int.add_mul, sz_add]
  unfold dplusT V
  simp only [he]
  split
  · rfl
  · by_cases hle : b.n * 2 ^ (max 0 (b.e - e)).toNat ≤ a.n * 2 ^ (max 0 (a.e - e)).toNat
    · rw [if_pos hle, if_neg (by omega)]
    · rw [if_neg hle, if_pos (by omega)]

theorem dplus_e {K : Nat} {a b : Trip} (ha : -(K : Int) ≤ a.e) (hb : -(K : Int) ≤ b.e) : -(K : Int) ≤ (dplusT a b).e := by
  obtain ⟨e, he⟩ : ∃ e, (if b.n = 0 then a.e else if a.n = 0 then b.e else min a.e b.e) = e := ⟨_, rfl⟩
  have h0 : -(K : Int) ≤ e := by rw [← he]; split <;> (try split) <;> omega
  have h : (dplusT a b).e = e := by
    unfold dplusT
    simp only [he]
    by_cases h1 : a.s = b.s
    · rw [if_pos h1]
    · rw [if_neg h1]
      by_cases h2 : b.n * 2 ^ (max 0 (b.e - e)).toNat ≤ a.n * 2 ^ (max 0 (a.e - e)).toNat
      · rw [if_pos h2]
      · rw [if_neg h2]
  rw [h]
  exact h0

theorem bare_plus (a b : Trip) : bare (plusT a b) = bare (dplusT (bare a) (bare b)) := by
  have h1 : -((a.e.natAbs + b.e.natAbs : Nat) : Int) ≤ a.e := by omega
  have h2 : -((a.e.natAbs + b.e.natAbs : Nat) : Int) ≤ b.e := by omega
  refine bare_of_V (plus_e h1 h2) (dplus_e (bare_e h1) (bare_e h2)) ?_
  rw [V_plus h1 h2, V_dplus (bare_e h1) (bare_e h2), V_bare h1, V_bare h2]

def timesT (a b : Trip) : Trip := ⟨a.s != b.s, a.n * b.n, a.e + b.e⟩

theorem sz_times (s t : Bool) (x y : Nat) : sz (s != t) (x * y) = sz s x * sz t y := by
  unfold sz
  cases s <;> cases t <;> simp [Int.neg_mul, Int.mul_neg]

theorem V_times {K : Nat} {a b : Trip} (ha : -(K : Int) ≤ a.e) (hb : -(K : Int) ≤ b.e) : V (K + K) (timesT a b) = V K a * V K b := by
  unfold V timesT
  simp only
  rw [sz_times]
  have : (a.e + b.e + ((K + K : Nat) : Int)).toNat = (a.e + K).toNat + (b.e + K).toNat := by omega
  rw [this, Nat.pow_add, Int.natCast_mul]
  rw [Int.mul_assoc, Int.mul_assoc]
  congr 1
  rw [← Int.mul_assoc, ← Int.mul_assoc, Int.mul_comm (sz b.s b.n)]

theorem bare_times (a b : Trip) : bare (timesT a b) = bare (timesT (bare a) (bare b)) := by
  have h1 : -((a.e.natAbs + b.e.natAbs : Nat) : Int) ≤ a.e := by omega
  have h2 : -((a.e.natAbs + b.e.natAbs : Nat) : Int) ≤ b.e := by omega
  have k1 := bare_e h1
  have k2 := bare_e h2
  refine bare_of_V (K := (a.e.natAbs + b.e.natAbs) + (a.e.natAbs + b.e.natAbs)) ?_ ?_ ?_
  · unfold timesT; simp only; omega
  · unfold timesT; simp only; omega
  · rw [V_times h1 h2, V_times k1 k2, V_bare h1, V_bare h2]

def negT (a : Trip) : Trip := ⟨!a.s, a.n, a.e⟩

theorem V_neg (K : Nat) (a : Trip) : V K (negT a) = -V K a := by
  unfold V negT sz
  cases a.s <;> simp [Int.neg_mul]

/-- -1, 0 or 1. -/
def sgn (z : Int) : Int := if z = 0 then 0 else if z < 0 then -1 else 1

theorem sgn_V (K : Nat) (a : Trip) : sgn (V K a) = if a.n = 0 then 0 else if a.s then -1 else 1 := by
  rw [V_nat]
  have p1 : 0 < 2 ^ (a.e + K).toNat := Nat.pow_pos (by omega)
  by_cases h : a.n = 0
  · rw [if_pos h, h, Nat.zero_mul]; simp [sz, sgn]
  · rw [if_neg h]
    have hne : 0 < a.n * 2 ^ (a.e + K).toNat := Nat.mul_pos (by omega) p1
    generalize a.n * 2 ^ (a.e + K).toNat = q at hne
    unfold sz sgn
    cases a.s
    · simp; omega
    · simp; omega

theorem dig_of (B : Nat) (l : List Nat) (j : Nat) (hB : 0 < B) (_hs : Dg.Small B l) (h0 : Dg.vl B l = 0) : l.getD j 0 = 0 := by
  by_cases h : j < l.length
  · have h1 := Dg.vl_split B l j h
    rw [h0] at h1
    have h2 : B ^ j * l.getD j 0 = 0 := by
      rcases Nat.eq_zero_or_pos (l.getD j 0) with e | e
      · rw [e, Nat.mul_zero]
      · exfalso
        have h3 : 0 < B ^ j * l.getD j 0 := Nat.mul_pos (Nat.pow_pos hB) e
        have h4 : B ^ j * (l.getD j 0 + B * Dg.vl B (l.drop (j + 1))) = 0 := by omega
        rw [Nat.mul_add] at h4
        omega
    rcases Nat.mul_eq_zero.1 h2 with e | e
    · exact absurd e (Nat.ne_of_gt (Nat.pow_pos hB))
    · exact e
  · simp [List.getD_eq_getElem?_getD, show l.length ≤ j from by omega]
end Go.Proofs.YtgbccbmflokooaaGreatDoor

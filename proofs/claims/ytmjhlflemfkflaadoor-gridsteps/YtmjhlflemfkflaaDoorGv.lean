/-
  Texts laid together: Gv1, Gv2, Gv3.
-/
import Derived.Test.YtmjhlflemfkflaaDoorGb
import Derived.Test.YtmjhlflemfkflaaDoorDe
import Derived.Test.YtmjhlflemfkflaaDoorGh4
import Derived.Deep.DeepCutAuto
/-
  Grids: the mathematics of the reference's StepOf.
-/
namespace Go.Proofs.YtmjhlflemfkflaaDoor
open Go.RowKit

/-- The power that the reference steps by. -/
def soK (R D L : Int) (n : Nat) (e : Int) : Int := max L (powerR R D (e + (bitLen n : Int) - 1))

/-- A step up of what is not below 0, and of what is: by the finer step, by the coarser. -/
def soF (R D L : Int) (a : Trip) : Trip := bare (dplusT a ⟨false, 1, (widthN R : Int) * (soK R D L a.n a.e - 1)⟩)
def soC (R D L : Int) (a : Trip) : Trip := bare (dplusT a ⟨false, 1, (widthN R : Int) * soK R D L a.n a.e⟩)

/-- A number with its sign, over so many powers of 2. -/
theorem V_so (J : Nat) (s : Bool) (d : Nat) (k : Int) : V J ⟨s, d, k⟩ = if s = true then -((d * 2 ^ (k + J).toNat : Nat) : Int) else ((d * 2 ^ (k + J).toNat : Nat) : Int) := by
  rw [V_nat]
  unfold sz
  cases s <;> simp

theorem so_plus {s : Bool} {d m : Nat} {e f : Int} (h : ∀ K : Nat, -(K : Int) ≤ e → -(K : Int) ≤ f → V K ⟨s, d, e⟩ + V K ⟨false, 1, f⟩ = V K ⟨s, m, f⟩) : bare (dplusT (bare ⟨s, d, e⟩) ⟨false, 1, f⟩) = bare ⟨s, m, f⟩ := by
  have h1 : -((e.natAbs + f.natAbs : Nat) : Int) ≤ e := by omega
  have h2 : -((e.natAbs + f.natAbs : Nat) : Int) ≤ f := by omega
  refine bare_of_V (K := e.natAbs + f.natAbs) (dplus_e (bare_e h1) h2) h2 ?_
  rw [V_dplus (bare_e h1) h2, V_bare h1]
  exact h _ h1 h2

theorem soK_spot {R D L : Int} {gr : Bool} (s : Bool) {d : Nat} {k : Int} (h1 : 1 ≤ D) (h0 : d ≠ 0) (hk : L ≤ k) (hd : d < 2 ^ (widthN R * D.toNat)) (hf : 2 ^ (widthN R * (D - 1).toNat) ≤ d ∨ (gr = true ∧ k = L)) :
    soK R D L (bare ⟨s, d, (widthN R : Int) * k⟩).n (bare ⟨s, d, (widthN R : Int) * k⟩).e = k := by
  have hb := (bare_top (t := ⟨s, d, (widthN R : Int) * k⟩) h0).2.2
  simp only at hb
  unfold soK
  rw [hb, show (widthN R : Int) * k + (bitLen d : Int) - 1 = (bitLen d : Int) - 1 + (widthN R : Int) * k from by omega]
  rcases hf with h | ⟨-, rfl⟩
  · rw [power_spot h1 h hd]
    omega
  · have := power_low (k := k) h1 hd
    omega

theorem width_pos (R : Int) : 1 ≤ widthN R := by
  unfold widthN
  split <;> omega

/-- The step off 0. -/
theorem soC_far {R D L : Int} {gr : Bool} {d : Nat} {k : Int} (h1 : 1 ≤ D) (h0 : d ≠ 0) (hk : L ≤ k) (hd : d < 2 ^ (widthN R * D.toNat)) (hf : 2 ^ (widthN R * (D - 1).toNat) ≤ d ∨ (gr = true ∧ k = L)) :
    soC R D L (bare ⟨false, d, (widthN R : Int) * k⟩) = bare ⟨false, d + 1, (widthN R : Int) * k⟩ := by
  unfold soC
  rw [soK_spot false h1 h0 hk hd hf]
  refine so_plus fun K hK _ => ?_
  rw [V_so, V_so, V_so]
  simp only [Bool.false_eq_true, if_false]
  rw [Nat.add_mul]
  omega

/-- The step to 0, by the coarser. -/
theorem soC_near {R D L : Int} {gr : Bool} {d : Nat} {k : Int} (h1 : 1 ≤ D) (h0 : d ≠ 0) (hk : L ≤ k) (hd : d < 2 ^ (widthN R * D.toNat)) (hf : 2 ^ (widthN R * (D - 1).toNat) ≤ d ∨ (gr = true ∧ k = L)) :
    soC R D L (bare ⟨true, d, (widthN R : Int) * k⟩) = bare ⟨true, d - 1, (widthN R : Int) * k⟩ := by
  unfold soC
  rw [soK_spot true h1 h0 hk hd hf]
  refine so_plus fun K hK _ => ?_
  rw [V_so, V_so, V_so]
  simp only [Bool.false_eq_true, if_false, if_true]
  obtain ⟨c, rfl⟩ : ∃ c, d = c + 1 := ⟨d - 1, by omega⟩
  rw [Nat.add_sub_cancel, Nat.add_mul]
  omega

theorem so_fine (R : Int) {d : Nat} {k : Int} (h0 : d ≠ 0) (K : Nat) (hK : -(K : Int) ≤ (widthN R : Int) * k) (hJ : -(K : Int) ≤ (widthN R : Int) * (k - 1)) :
    V K ⟨true, d, (widthN R : Int) * k⟩ + V K ⟨false, 1, (widthN R : Int) * (k - 1)⟩ = V K ⟨true, d * 2 ^ widthN R - 1, (widthN R : Int) * (k - 1)⟩ := by
  rw [V_so, V_so, V_so]
  simp only [Bool.false_eq_true, if_false, if_true]
  have hp : 2 ^ ((widthN R : Int) * k + (K : Int)).toNat = 2 ^ widthN R * 2 ^ ((widthN R : Int) * (k - 1) + (K : Int)).toNat := by
    rw [← Nat.pow_add]
    congr 1
    have : (widthN R : Int) * (k - 1) = (widthN R : Int) * k - (widthN R : Int) := by rw [Int.mul_sub, Int.mul_one]
    omega
  rw [hp, ← Nat.mul_assoc]
  obtain ⟨c, hc⟩ : ∃ c, d * 2 ^ widthN R = c + 1 := ⟨d * 2 ^ widthN R - 1, by have := Nat.mul_pos (Nat.pos_of_ne_zero h0) (two_pos (widthN R)); omega⟩
  rw [hc, Nat.add_sub_cancel, Nat.add_mul]
  omega

/-- The step to 0, by the finer. -/
theorem soF_near {R D L : Int} {gr : Bool} {d : Nat} {k : Int} (h1 : 1 ≤ D) (h0 : d ≠ 0) (hk : L ≤ k) (hd : d < 2 ^ (widthN R * D.toNat)) (hf : 2 ^ (widthN R * (D - 1).toNat) ≤ d ∨ (gr = true ∧ k = L)) :
    soF R D L (bare ⟨true, d, (widthN R : Int) * k⟩) = bare ⟨true, d * 2 ^ widthN R - 1, (widthN R : Int) * (k - 1)⟩ := by
  unfold soF
  rw [soK_spot true h1 h0 hk hd hf]
  exact so_plus fun K hK hJ => so_fine R h0 K hK hJ

/-- It is more. -/
theorem so_less (R : Int) {d : Nat} {k : Int} (h0 : d ≠ 0) : signT (bare (dplusT (bare ⟨true, d, (widthN R : Int) * k⟩) (minusT (bare ⟨true, d * 2 ^ widthN R - 1, (widthN R : Int) * (k - 1)⟩)))) = -1 := by
  rw [sign_ref]
  obtain ⟨K, hK⟩ : ∃ K : Nat, K = ((widthN R : Int) * k).natAbs + ((widthN R : Int) * (k - 1)).natAbs := ⟨_, rfl⟩
  have h1 : -(K : Int) ≤ (widthN R : Int) * k := by omega
  have h2 : -(K : Int) ≤ (widthN R : Int) * (k - 1) := by omega
  have hv := so_fine R h0 K h1 h2
  have e1 : V K (plusT ⟨true, d, (widthN R : Int) * k⟩ (negT ⟨true, d * 2 ^ widthN R - 1, (widthN R : Int) * (k - 1)⟩)) = -V K ⟨false, 1, (widthN R : Int) * (k - 1)⟩ := by
    rw [V_plus h1 (by exact h2), V_neg]
    omega
  have e2 : 0 < V K ⟨false, 1, (widthN R : Int) * (k - 1)⟩ := by
    rw [V_so]
    simp only [Bool.false_eq_true, if_false, Nat.one_mul]
    have := two_pos ((widthN R : Int) * (k - 1) + (K : Int)).toNat
    omega
  have e3 := sgn_V K (plusT ⟨true, d, (widthN R : Int) * k⟩ (negT ⟨true, d * 2 ^ widthN R - 1, (widthN R : Int) * (k - 1)⟩))
  unfold signT
  rw [← e3, e1]
  unfold sgn
  rw [if_neg (by omega), if_pos (by omega)]

/-- What the reference steps to, below 0. -/
def soN (R D L G : Int) (gr : Bool) (a : Trip) : Trip :=
  if inR R D L G gr (soF R D L a).n (soF R D L a).e = true then soF R D L a
  else if inR R D L G gr (soC R D L a).n (soC R D L a).e = true then soC R D L a else ⟨false, 0, 0⟩

theorem odd_tz {m : Nat} (h : m % 2 = 1) : tz m = 0 := tz_eq (m := m / 2) (by omega)

theorem pow_even {j : Nat} (h : 1 ≤ j) : 2 ^ j % 2 = 0 := by
  obtain ⟨i, rfl⟩ : ∃ i, j = i + 1 := ⟨j - 1, by omega⟩
  rw [Nat.pow_succ]
  omega

theorem fine_odd (R : Int) {d : Nat} (h0 : d ≠ 0) : (d * 2 ^ widthN R - 1) % 2 = 1 := by
  have h1 := pow_even (width_pos R)
  have h2 : (d * 2 ^ widthN R) % 2 = 0 := by rw [Nat.mul_mod, h1]; simp
  have h3 := Nat.mul_pos (Nat.pos_of_ne_zero h0) (two_pos (widthN R))
  omega

theorem soN_is {R D L G : Int} {gr : Bool} {d : Nat} {k : Int} (hg : gridC R D L G = 0) (h0 : d ≠ 0) (hk : L ≤ k) (hG : k ≤ G) (hd : d < 2 ^ (widthN R * D.toNat)) (hf : 2 ^ (widthN R * (D - 1).toNat) ≤ d ∨ (gr = true ∧ k = L)) :
    soN R D L G gr (bare ⟨true, d, (widthN R : Int) * k⟩) = bare ⟨true, nearD R D L gr d k, (widthN R : Int) * nearK R D L d k⟩ := by
  obtain ⟨-, h1, -, -, -, -, -, lg, -⟩ := gridC_zero hg
  have e1 := soF_near h1 h0 hk hd hf
  have e2 := soC_near h1 h0 hk hd hf
  have hw := width_pos R
  have hpw : 2 ^ (widthN R * D.toNat) = 2 ^ (widthN R * (D - 1).toNat) * 2 ^ widthN R := by
    rw [← Nat.pow_add]
    congr 1
    rw [show D.toNat = (D - 1).toNat + 1 from by omega, Nat.mul_add, Nat.mul_one]
  have hwp : 2 ≤ 2 ^ widthN R := by
    have : 2 ^ 1 ≤ 2 ^ widthN R := Nat.pow_le_pow_right (by omega) hw
    omega
  have hdp := two_pos (widthN R * (D - 1).toNat)
  have hodd := fine_odd R h0
  unfold soN
  rw [e1, e2, held_in gr _ lg, held_in gr _ lg]
  simp only
  obtain ⟨P, hP⟩ : ∃ P, 2 ^ (widthN R * (D - 1).toNat) = P := ⟨_, rfl⟩
  obtain ⟨Q, hQ⟩ : ∃ Q, 2 ^ (widthN R * D.toNat) = Q := ⟨_, rfl⟩
  obtain ⟨B, hB⟩ : ∃ B, 2 ^ widthN R = B := ⟨_, rfl⟩
  by_cases hcase : d = 2 ^ (widthN R * (D - 1).toNat) ∧ L < k
  · obtain ⟨c1, c2⟩ := hcase
    have hm : d * 2 ^ widthN R - 1 = 2 ^ (widthN R * D.toNat) - 1 := by rw [hpw, ← c1]
    have hge : P * 2 ≤ P * B := Nat.mul_le_mul_left P (by omega)
    have hh : heldB R D L G gr (d * 2 ^ widthN R - 1) ((widthN R : Int) * (k - 1)) = true := by
      rw [hm, held_spot h1 (by have := two_pos (widthN R * D.toNat); omega) (by omega) (.inl (by rw [hpw, hP, hB]; rw [hP] at hdp; omega)) (by rw [hpw, hP, hB]; rw [hP] at hdp; omega)]
      exact decide_eq_true (by omega)
    rw [if_pos hh, hm]
    unfold nearD nearK
    rw [if_pos c1, if_pos c2, if_pos c1, if_pos c2]
  · have hh : heldB R D L G gr (d * 2 ^ widthN R - 1) ((widthN R : Int) * (k - 1)) = false := by
      by_cases c1 : 2 ^ (widthN R * (D - 1).toNat) < d
      · refine held_fine h1 (odd_tz hodd) ?_
        have : (P + 1) * B ≤ d * B := Nat.mul_le_mul_right B (by rw [hP] at c1; omega)
        rw [Nat.add_mul] at this
        rw [hpw, hP, hB]
        omega
      · have hkl : k = L := by
          rcases hf with h | ⟨-, h⟩
          · by_cases c2 : L < k
            · exact absurd ⟨by omega, c2⟩ hcase
            · omega
          · exact h
        refine held_under (by omega) ?_
        rw [odd_tz hodd, hkl]
        have := width_lt R (show L - 1 < L by omega)
        simpa using this
    rw [if_neg (by rw [hh]; decide)]
    by_cases hz : d - 1 = 0
    · rw [hz, held_zero, if_pos rfl]
      have hd1 : d = 1 := by omega
      have hn0 : nearD R D L gr d k = 0 := by
        unfold nearD
        split
        · rename_i c
          rw [if_neg (fun c2 => hcase ⟨c, c2⟩)]
          split <;> omega
        · omega
      rw [hn0]
      exact bare_nil _ _ _
    · by_cases hgood : 2 ^ (widthN R * (D - 1).toNat) ≤ d - 1 ∨ (gr = true ∧ k = L)
      · have hh2 : heldB R D L G gr (d - 1) ((widthN R : Int) * k) = true := by
          rw [held_spot h1 (by omega) hk hgood hz]
          exact decide_eq_true hG
        rw [if_pos hh2]
        have hn : nearD R D L gr d k = d - 1 ∧ nearK R D L d k = k := by
          unfold nearD nearK
          by_cases c : d = 2 ^ (widthN R * (D - 1).toNat)
          · have c2 : ¬L < k := fun c2 => hcase ⟨c, c2⟩
            rcases hgood with h | ⟨h3, h4⟩
            · omega
            · rw [if_pos c, if_neg c2, if_pos h3, if_pos c, if_neg c2]
              exact ⟨rfl, h4.symm⟩
          · rw [if_neg c, if_neg c]
            exact ⟨rfl, rfl⟩
        rw [hn.1, hn.2]
      · have c : d = 2 ^ (widthN R * (D - 1).toNat) := by
          rcases hf with h | h
          · have : ¬2 ^ (widthN R * (D - 1).toNat) ≤ d - 1 := fun c => hgood (.inl c)
            omega
          · exact absurd (.inr h) hgood
        have c2 : ¬L < k := fun c2 => hcase ⟨c, c2⟩
        have hkl : k = L := by omega
        have hgr : gr = false := by
          cases gr
          · rfl
          · exact absurd (.inr ⟨rfl, hkl⟩) hgood
        have hh2 : heldB R D L G gr (d - 1) ((widthN R : Int) * k) = false := by
          refine decide_eq_false ?_
          rintro (h | ⟨h3, -, -⟩)
          · exact hz h
          · unfold spotK at h3
            rw [hgr, Bool.and_false, if_neg (by decide)] at h3
            have hbl := bitLen_le_of (d - 1) (widthN R * (D - 1).toNat) (by omega)
            unfold powerR at h3
            have hle : (bitLen (d - 1) : Int) - 1 + (widthN R : Int) * k < (widthN R : Int) * (D - 1 + L) := by
              rw [Int.mul_add, hkl]
              have : ((widthN R * (D - 1).toNat : Nat) : Int) = (widthN R : Int) * (D - 1) := by
                rw [Int.natCast_mul, Int.toNat_of_nonneg (by omega)]
              omega
            have := Int.ediv_lt_of_lt_mul (show (0 : Int) < (widthN R : Int) by omega) (show (bitLen (d - 1) : Int) - 1 + (widthN R : Int) * k < (D - 1 + L) * (widthN R : Int) by rw [Int.mul_comm (D - 1 + L)]; exact hle)
            omega
        rw [if_neg (by rw [hh2]; decide)]
        have hn : nearD R D L gr d k = 0 := by
          unfold nearD
          rw [if_pos c, if_neg c2, if_neg (by rw [hgr]; decide)]
        rw [hn]
        simp [bare]
end Go.Proofs.YtmjhlflemfkflaaDoor
/-
  Grids: what GridSteps asks, by what StepOf answers.
-/
namespace Go.Proofs.YtmjhlflemfkflaaDoor
open Go.RowKit

theorem found_full {R D L G : Int} {gr : Bool} {n : Nat} {e : Int} (h1 : 1 ≤ D) (h0 : n ≠ 0) (hh : heldB R D L G gr n e = true) :
    2 ^ (widthN R * (D - 1).toNat) ≤ findD R D L gr n e ∨ (gr = true ∧ spotK R D L gr n e = L) := by
  obtain ⟨-, -, -, -, -, -, hf⟩ := found_spot h1 h0 hh
  by_cases hg : (decide (powerR R D ((bitLen n : Int) - 1 + e) < L) && gr) = true
  · refine .inr ⟨?_, if_pos hg⟩
    rw [Bool.and_eq_true] at hg
    exact hg.2
  · left
    have hk : spotK R D L gr n e = powerR R D ((bitLen n : Int) - 1 + e) := if_neg hg
    rw [hf, whole_ge n 1 _ _ h0 (by omega), topQ_one h0, hk]
    unfold powerR
    have hw := width_pos R
    have hd := Int.mul_ediv_self_le (x := (bitLen n : Int) - 1 + e) (k := (widthN R : Int)) (by omega)
    have e1 : ((widthN R * (D - 1).toNat : Nat) : Int) = (widthN R : Int) * (D - 1) := by
      rw [Int.natCast_mul, Int.toNat_of_nonneg (by omega)]
    rw [e1]
    have e2 : (widthN R : Int) * (((bitLen n : Int) - 1 + e) / (widthN R : Int) - (D - 1)) = (widthN R : Int) * (((bitLen n : Int) - 1 + e) / (widthN R : Int)) - (widthN R : Int) * (D - 1) := Int.mul_sub _ _ _
    omega

theorem found_trip {R D L G : Int} {gr : Bool} {n : Nat} {e : Int} (s : Bool) (h1 : 1 ≤ D) (h0 : n ≠ 0) (hh : heldB R D L G gr n e = true) :
    bare ⟨s, n, e⟩ = bare ⟨s, findD R D L gr n e, (widthN R : Int) * spotK R D L gr n e⟩ := by
  obtain ⟨-, -, -, -, -, -, hf⟩ := found_spot h1 h0 hh
  obtain ⟨-, p2⟩ := one_parts s n e ((widthN R : Int) * spotK R D L gr n e) ((held_iff h0).1 hh).2.2
  rw [hf]
  exact p2.symm

theorem bare_minus (s : Bool) (n : Nat) (e : Int) : minusT (bare ⟨s, n, e⟩) = bare ⟨!s, n, e⟩ := by
  unfold bare
  by_cases h : n = 0
  · subst h
    rfl
  · rw [if_neg h, if_neg h]
    unfold minusT
    obtain ⟨m, hm⟩ := tz_spec h
    rw [show n / 2 ^ tz n = 2 * m + 1 from div_tz hm]
    simp

/-- What StepOf answers. -/
def soR (R D L G : Int) (gr : Bool) (a : Trip) : Trip × Bool :=
  if a.n = 0 then (⟨false, 1, (widthN R : Int) * (if gr = true then L else L + D - 1)⟩, true)
  else if a.s = true then (soN R D L G gr a, true) else (soC R D L a, inR R D L G gr (soC R D L a).n (soC R D L a).e)

/-- What GridSteps hands StepOf, and what it holds Step's answer against. -/
def soA (up : Bool) (a : Trip) : Trip := if up = true then a else minusT a

theorem tz_one : tz 1 = 0 := tz_eq (m := 0) (by simp)

theorem bare_one (s : Bool) (e : Int) : bare ⟨s, 1, e⟩ = ⟨s, 1, e⟩ := by
  unfold bare
  rw [if_neg (by simp)]
  simp [tz_one]

theorem want_so (t : Trip) : wantR 0 (bare t) = shortT t := (if_pos rfl).trans (toT_bare t)

theorem pow_step (s : Bool) (R D L : Int) (h1 : 1 ≤ D) : bare ⟨s, 2 ^ (widthN R * (D - 1).toNat), (widthN R : Int) * L⟩ = ⟨s, 1, (widthN R : Int) * (L + D - 1)⟩ := by
  rw [← bare_one]
  have e1 : ((widthN R * (D - 1).toNat : Nat) : Int) = (widthN R : Int) * (D - 1) := by
    rw [Int.natCast_mul, Int.toNat_of_nonneg (by omega)]
  have e2 : (widthN R : Int) * (L + D - 1) = (widthN R : Int) * L + (widthN R : Int) * (D - 1) := by
    rw [← Int.mul_add]
    congr 1
    omega
  have h0 : 0 ≤ (widthN R : Int) * (D - 1) := by rw [← e1]; omega
  refine bare_of_V (K := ((widthN R : Int) * L).natAbs) (by simp only; omega) (by simp only; omega) ?_
  rw [V_nat, V_nat]
  simp only
  rw [← Nat.pow_add, Nat.one_mul, e2]
  congr 2
  omega

theorem steps_zero {R D L G : Int} {gr s up : Bool} {xs : List Nat} {e : Int} (hc : dchk xs e = 0) (hg : gridC R D L G = 0) (hl : xs.length = 0) :
    wantR 0 (soA up (soR R D L G gr (soA up (bare ⟨s, Dg.vl 4294967296 xs, e⟩))).1) = stepR R D L G gr s up xs e ∧ (soR R D L G gr (soA up (bare ⟨s, Dg.vl 4294967296 xs, e⟩))).2 = true := by
  obtain ⟨-, d1, -, -, -, -, -, lg, -⟩ := gridC_zero hg
  have e0 : Dg.vl 4294967296 xs = 0 := by rw [List.length_eq_zero_iff.1 hl]; rfl
  have hpw : 1 < 2 ^ (widthN R * D.toNat) := by
    have : 2 ^ 1 ≤ 2 ^ (widthN R * D.toNat) := Nat.pow_le_pow_right (by omega) (Nat.mul_pos (width_pos R) (by omega))
    omega
  have hb : bare ⟨s, 0, e⟩ = ⟨false, 0, 0⟩ := by simp [bare]
  have ha : soA up ⟨false, 0, 0⟩ = ⟨false, 0, 0⟩ := by
    unfold soA minusT
    cases up <;> rfl
  have hso : soR R D L G gr ⟨false, 0, 0⟩ = (⟨false, 1, (widthN R : Int) * (if gr = true then L else L + D - 1)⟩, true) := if_pos rfl
  rw [e0, hb, ha, hso]
  refine ⟨?_, rfl⟩
  have hs : soA up ⟨false, 1, (widthN R : Int) * (if gr = true then L else L + D - 1)⟩ = ⟨!up, 1, (widthN R : Int) * (if gr = true then L else L + D - 1)⟩ := by
    unfold soA minusT
    cases up <;> rfl
  have hN : stepN s up xs.length = !up := if_pos hl
  have hNu : ¬stepN s up xs.length = up := by rw [hN]; cases up <;> decide
  have hD : stepD R D L G gr s up xs.length 0 e = farD R D gr 0 := (if_neg hNu).trans (by rw [show fD R D L G gr 0 e = 0 from if_pos rfl])
  have hK : stepK R D L G gr s up xs.length 0 e = farK R D L gr 0 L := (if_neg hNu).trans (by rw [show fD R D L G gr 0 e = 0 from if_pos rfl, show fK R D L G gr 0 e = L from if_pos rfl])
  have hKL : farK R D L gr 0 L = L := by
    unfold farK carP
    split
    · rfl
    · rw [if_neg (by omega)]
  unfold stepR
  rw [if_pos (show onC (dchk xs e) (gridC R D L G) = 0 from (if_pos hc).trans hg), e0, if_pos (held_zero R D L G gr e), hK, hD, hKL, if_neg (show ¬G < L by omega), hN]
  simp only
  rw [hs]
  rw [← bare_one, want_so]
  apply short_bare
  cases gr
  · rw [show farD R D false 0 = 2 ^ (widthN R * (D - 1).toNat) from if_pos ⟨rfl, rfl⟩, pow_step _ _ _ _ d1, if_neg (by decide), bare_one]
  · have hd : farD R D true 0 = 1 := by
      unfold farD carD
      rw [if_neg (by simp), if_neg (by omega)]
    rw [hd, if_pos rfl]

theorem steps_some {R D L G : Int} {gr s up : Bool} {xs : List Nat} {e : Int} (sa : Dg.Small 4294967296 xs) (hc : dchk xs e = 0) (hg : gridC R D L G = 0) (hl : ¬xs.length = 0) (hh : heldB R D L G gr (Dg.vl 4294967296 xs) e = true) :
    wantR (if (soR R D L G gr (soA up (bare ⟨s, Dg.vl 4294967296 xs, e⟩))).2 = true then 0 else 5) (soA up (soR R D L G gr (soA up (bare ⟨s, Dg.vl 4294967296 xs, e⟩))).1) = stepR R D L G gr s up xs e := by
  obtain ⟨-, d1, -, -, -, -, -, lg, -⟩ := gridC_zero hg
  have h0 : Dg.vl 4294967296 xs ≠ 0 := gvl_ne sa (dchk_zero hc).1 hl
  obtain ⟨f1, f2, f3, f4, f5, f6, -⟩ := found_spot d1 h0 hh
  have ff := found_full d1 h0 hh
  have ft := found_trip s d1 h0 hh
  have hN : stepN s up xs.length = s := if_neg hl
  unfold stepR
  rw [if_pos (show onC (dchk xs e) (gridC R D L G) = 0 from (if_pos hc).trans hg), if_pos hh, hN]
  unfold stepD stepK
  rw [hN, f1, f2, ft]
  generalize findD R D L gr (Dg.vl 4294967296 xs) e = d at f3 f4 ff ⊢
  generalize spotK R D L gr (Dg.vl 4294967296 xs) e = k at f5 f6 ff ⊢
  have hA : soA up (bare ⟨s, d, (widthN R : Int) * k⟩) = bare ⟨(s == up), d, (widthN R : Int) * k⟩ := by
    unfold soA
    cases up
    · rw [if_neg (by decide), bare_minus]
      cases s <;> rfl
    · rw [if_pos rfl]
      cases s <;> rfl
  have hbn : ∀ s', (bare ⟨s', d, (widthN R : Int) * k⟩).n ≠ 0 := fun s' => (bare_top (t := ⟨s', d, (widthN R : Int) * k⟩) f3).1
  have hbs : ∀ s', (bare ⟨s', d, (widthN R : Int) * k⟩).s = s' := fun s' => by
    unfold bare
    rw [if_neg f3]
  rw [hA]
  by_cases hsu : s = up
  · subst hsu
    rw [show (s == s) = true from by simp, if_pos rfl, if_pos rfl]
    have hso : soR R D L G gr (bare ⟨true, d, (widthN R : Int) * k⟩) = (bare ⟨true, nearD R D L gr d k, (widthN R : Int) * nearK R D L d k⟩, true) := by
      unfold soR
      rw [if_neg (hbn true), hbs, if_pos rfl, soN_is hg f3 f5 f6 f4 ff]
    rw [hso]
    simp only [if_true]
    have hk : nearK R D L d k ≤ G := by
      unfold nearK
      split
      · split <;> omega
      · exact f6
    rw [if_neg (by omega)]
    have hw : soA s (bare ⟨true, nearD R D L gr d k, (widthN R : Int) * nearK R D L d k⟩) = bare ⟨s, nearD R D L gr d k, (widthN R : Int) * nearK R D L d k⟩ := by
      unfold soA
      cases s
      · rw [if_neg (by decide), bare_minus]
        rfl
      · rw [if_pos rfl]
    rw [hw, want_so]
  · rw [show (s == up) = false from by simpa using hsu, if_neg hsu, if_neg hsu]
    obtain ⟨n1, n2⟩ := far_next (R := R) (D := D) (L := L) (gr := gr) (d := d) (p := k) (.inl f3)
    have hC := soC_far d1 f3 f5 f4 ff
    have hin : inR R D L G gr (soC R D L (bare ⟨false, d, (widthN R : Int) * k⟩)).n (soC R D L (bare ⟨false, d, (widthN R : Int) * k⟩)).e = decide (carP R D (d + 1) k ≤ G) := by
      obtain ⟨q1, q2, -, q4, q5⟩ := next_spot (R := R) (D := D) (L := L) (G := carP R D (d + 1) k) (gr := gr) (d := d) (k := k) d1 f5 (Int.le_refl _) f4 ff
      rw [hC, ← car_bare R D false (d + 1) k d1, held_in gr _ lg]
      simp only
      exact held_spot d1 q4 q2 q5 q1
    have hso : soR R D L G gr (bare ⟨false, d, (widthN R : Int) * k⟩) = (bare ⟨false, carD R D (d + 1), (widthN R : Int) * carP R D (d + 1) k⟩, decide (carP R D (d + 1) k ≤ G)) := by
      unfold soR
      rw [if_neg (hbn false), hbs, if_neg (by decide), hin, hC, car_bare R D false (d + 1) k d1]
    rw [hso, n1, n2]
    simp only
    by_cases hG : carP R D (d + 1) k ≤ G
    · rw [decide_eq_true hG, if_pos rfl, if_neg (by omega)]
      have hw : soA up (bare ⟨false, carD R D (d + 1), (widthN R : Int) * carP R D (d + 1) k⟩) = bare ⟨s, carD R D (d + 1), (widthN R : Int) * carP R D (d + 1) k⟩ := by
        unfold soA
        cases up
        · rw [if_neg (by decide), bare_minus]
          cases s
          · exact absurd rfl hsu
          · rfl
        · rw [if_pos rfl]
          cases s
          · rfl
          · exact absurd rfl hsu
      rw [hw, want_so]
    · rw [decide_eq_false hG, if_neg (by decide), if_pos (by omega)]
      rfl
end Go.Proofs.YtmjhlflemfkflaaDoor
/-
  Grids: the walk of the reference's StepOf.
-/
namespace Go.Proofs.YtmjhlflemfkflaaDoor
open Go.RowKit

/-- The call answers a number of the reference, and whether there is one. -/
def SORes (w : World) (t : Trip) (ok : Bool) (e : Ending) (w' : World) : Prop :=
  ∃ s, e = .returned (.tuple #[.agg #[.bool t.s, s, .int .i64 t.e], .bool ok]) ∧ Rd w' .i64 s (Dg.dg 65536 t.n) ∧ Far w.heap.size s ∧ Below w.heap.size w w'

theorem far_off {B b : Nat} {v : Value} {zs : List Nat} (h : Far B v) (hb : b < B) : OffB b v zs := fun _ a n c hv => by
  have := h a n c hv
  omega

theorem dg_one : Dg.dg 65536 1 = [1] := by decide

theorem norm_one : Dg.Norm [1] := by rw [← dg_one]; exact Dg.norm_dg _ _ (by omega)

theorem z3_zero : ∀ x ∈ ([.bool false, .slice none 0 0, .int .i64 0] : List Value), ∀ n : Int, n ≠ 0 → x ≠ .int .i64 n := by simp; intro n hn h; exact hn h.symm

set_option maxRecDepth 100000 in
set_option maxHeartbeats 12800000 in
theorem stepOfW (R D L G : Int) (gr s : Bool) (ao : Option Addr) (la ca : Nat) (e wd bl a1 a2 kk k le : Int) (cs : Bool) (cn : Nat) (ce : Int) (fs : Bool) (fn : Nat) (fe : Int) (ic fi : Bool) (ts : Bool) (tn : Nat) (te : Int) (ok : Bool) (w : World)
    (_hne : (wd == 0) = false) (hne2 : ¬wd = 0)
    (U1 : IntKind.i64.wrap (wd * L) = wd * L) (U2 : IntKind.i64.wrap (L + D) = L + D) (U3 : IntKind.i64.wrap (L + D - 1) = L + D - 1) (UX : IntKind.i64.wrap (wd * (L + D - 1)) = wd * (L + D - 1)) (U4 : IntKind.i64.wrap (e + bl) = e + bl) (U5 : IntKind.i64.wrap (e + bl - 1) = e + bl - 1) (U6 : IntKind.i64.wrap (e + bl - 1 + 80000) = e + bl - 1 + 80000)
    (Q1 : (e + bl - 1 + 80000).tdiv wd = a1) (Q2 : (80000 : Int).tdiv wd = a2) (U7 : IntKind.i64.wrap a1 = a1) (U8 : IntKind.i64.wrap a2 = a2) (U9 : IntKind.i64.wrap (a1 - a2) = a1 - a2) (UA : IntKind.i64.wrap (a1 - a2 - D) = a1 - a2 - D) (UB : IntKind.i64.wrap (a1 - a2 - D + 1) = kk)
    (M : max L kk = k) (UK : IntKind.i64.wrap (wd * k) = wd * k) (UM : IntKind.i64.wrap (k - 1) = k - 1) (UN : IntKind.i64.wrap (wd * (k - 1)) = wd * (k - 1))
    (E1 : gr = true → le = wd * L) (E2 : gr = false → le = wd * (L + D - 1))
    (R0 : la = 0 → false = ts ∧ 1 = tn ∧ le = te ∧ true = ok)
    (R1 : ¬la = 0 → s = false → cs = ts ∧ cn = tn ∧ ce = te ∧ ic = ok)
    (R2 : ¬la = 0 → s = true → fi = true → fs = ts ∧ fn = tn ∧ fe = te ∧ true = ok)
    (R3 : ¬la = 0 → s = true → fi = false → ic = true → cs = ts ∧ cn = tn ∧ ce = te ∧ true = ok)
    (R4 : ¬la = 0 → s = true → fi = false → ic = false → false = ts ∧ 0 = tn ∧ 0 = te ∧ true = ok)
    (HWI : ∀ w1, Calls Tryd.prog 20 #[.agg #[.int .i64 R, .int .i64 D, .int .i64 L, .int .i64 G, .bool gr]] w1 fun z w' => z = .returned (.int .i64 wd) ∧ Below w1.heap.size w1 w')
    (HLN : ∀ w1, Below w.heap.size w w1 → Calls Tryd.prog 62 #[.slice ao la ca] w1 fun z w' => z = .returned (.int .i64 bl) ∧ Below w1.heap.size w1 w')
    (HP1 : ¬la = 0 → ∀ o c w1, Below w.heap.size w w1 → Rd w1 .i64 (.slice o 1 c) [1] → Calls Tryd.prog 65 #[.agg #[.bool s, .slice ao la ca, .int .i64 e], .agg #[.bool false, .slice o 1 c, .int .i64 (wd * k)]] w1 (RDResF w1 ⟨cs, cn, ce⟩))
    (HP2 : ¬la = 0 → s = true → ∀ o c w1, Below w.heap.size w w1 → Rd w1 .i64 (.slice o 1 c) [1] → Calls Tryd.prog 65 #[.agg #[.bool s, .slice ao la ca, .int .i64 e], .agg #[.bool false, .slice o 1 c, .int .i64 (wd * (k - 1))]] w1 (RDResF w1 ⟨fs, fn, fe⟩))
    (HI1 : ¬la = 0 → ∀ co cc w1, Rd w1 .i64 (.slice co (Dg.dg 65536 cn).length cc) (Dg.dg 65536 cn) → Calls Tryd.prog 25 #[.agg #[.bool cs, .slice co (Dg.dg 65536 cn).length cc, .int .i64 ce], .agg #[.int .i64 R, .int .i64 D, .int .i64 L, .int .i64 G, .bool gr]] w1 fun z w' => z = .returned (.bool ic) ∧ Below w1.heap.size w1 w')
    (HI2 : ¬la = 0 → s = true → ∀ fo fc w1, Rd w1 .i64 (.slice fo (Dg.dg 65536 fn).length fc) (Dg.dg 65536 fn) → Calls Tryd.prog 25 #[.agg #[.bool fs, .slice fo (Dg.dg 65536 fn).length fc, .int .i64 fe], .agg #[.int .i64 R, .int .i64 D, .int .i64 L, .int .i64 G, .bool gr]] w1 fun z w' => z = .returned (.bool fi) ∧ Below w1.heap.size w1 w')
    (HC : ¬la = 0 → s = true → ∀ fo fc w1, Below w.heap.size w w1 → Rd w1 .i64 (.slice fo (Dg.dg 65536 fn).length fc) (Dg.dg 65536 fn) → Calls Tryd.prog 37 #[.agg #[.bool s, .slice ao la ca, .int .i64 e], .agg #[.bool fs, .slice fo (Dg.dg 65536 fn).length fc, .int .i64 fe]] w1 fun z w' => z = .returned (.int .i64 (-1)) ∧ Below w1.heap.size w1 w') :
    Calls Tryd.prog 29 #[.agg #[.bool s, .slice ao la ca, .int .i64 e], .agg #[.int .i64 R, .int .i64 D, .int .i64 L, .int .i64 G, .bool gr]] w (SORes w ⟨ts, tn, te⟩ ok) := by
  replace E1 : Hid _ := E1
  replace E2 : Hid _ := E2
  replace R0 : Hid _ := R0
  replace R1 : Hid _ := R1
  replace R2 : Hid _ := R2
  replace R3 : Hid _ := R3
  replace R4 : Hid _ := R4
  replace HWI : Hid _ := HWI
  replace HLN : Hid _ := HLN
  replace HP1 : Hid _ := HP1
  replace HP2 : Hid _ := HP2
  replace HI1 : Hid _ := HI1
  replace HI2 : Hid _ := HI2
  replace HC : Hid _ := HC
  have b1 := below_trans (below_trans (below_alloc w (.cells #[.bool s, .slice ao la ca, .int .i64 e] 46)) (below_alloc _ (.cells #[.int .i64 R, .int .i64 D, .int .i64 L, .int .i64 G, .bool gr] 39))) (below_alloc _ (.cells #[.bool false, .slice none 0 0, .int .i64 0] 46))
  have q1 := ((locE_new w [.bool s, .slice ao la ca, .int .i64 e] 46).later (below_alloc _ (.cells #[.int .i64 R, .int .i64 D, .int .i64 L, .int .i64 G, .bool gr] 39))).later (below_alloc _ (.cells #[.bool false, .slice none 0 0, .int .i64 0] 46))
  have g1 := (locE_new (w.alloc (.cells #[.bool s, .slice ao la ca, .int .i64 e] 46)) [.int .i64 R, .int .i64 D, .int .i64 L, .int .i64 G, .bool gr] 39).later (below_alloc _ (.cells #[.bool false, .slice none 0 0, .int .i64 0] 46))
  have z1 := locE_new ((w.alloc (.cells #[.bool s, .slice ao la ca, .int .i64 e] 46)).alloc (.cells #[.int .i64 R, .int .i64 D, .int .i64 L, .int .i64 G, .bool gr] 39)) [.bool false, .slice none 0 0, .int .i64 0] 46
  simp only [World.size_alloc] at g1 z1
  have x0 := g1.cell 0 rfl
  have x1 := g1.cell 1 rfl
  have x2 := g1.cell 2 rfl
  have x3 := g1.cell 3 rfl
  have x4 := g1.cell 4 rfl
  go_enter Tryd.func29, Tryd.ntmps29
  go_wp2_with fail
  refine (HWI.out _).mono ?_
  rintro z w2 ⟨rfl, bb2⟩
  clear x0 x1 x2 x3 x4
  have q_2 := q1.later bb2
  have g_2 := g1.later bb2
  have z_2 := z1.later bb2
  have b0_2 := below_trans b1 bb2
  clear q1 g1 z1 b1 bb2
  have hz2 : w.heap.size + 1 + 1 < w2.heap.size := z_2.lt
  have hPL : w.heap.size + 1 + 1 < w2.heap.size + 1 := by omega
  have hPB : w2.heap.size ≠ w2.heap.size + 1 := by omega
  have hPC : w.heap.size ≤ w2.heap.size := by omega
  clear hz2
  have r2 : Rd (w2.alloc (.cells #[.int .i64 1] 3)) .i64 (.slice (some ⟨w2.heap.size, 0, none⟩) 1 1) [1] := rd_new (w := w2) (k := .i64) (e := 3) [1] #[.int .i64 1] rfl (by unfold maxLen; simp)
  have ba2 := below_alloc w2 (.cells #[.int .i64 1] 3)
  have q_3 := q_2.later ba2
  have g_3 := g_2.later ba2
  have z_3 := z_2.later ba2
  have b0_3 := below_trans b0_2 ba2
  clear q_2 g_2 z_2 b0_2 ba2
  have xx2 := g_3.cell 2 rfl
  have bl2 := below_alloc (w2.alloc (.cells #[.int .i64 1] 3)) (.cells #[.bool false, .slice (some ⟨w2.heap.size, 0, none⟩) 1 1, .int .i64 (wd * L)] 46)
  have l2 := locE_new (w2.alloc (.cells #[.int .i64 1] 3)) [.bool false, .slice (some ⟨w2.heap.size, 0, none⟩) 1 1, .int .i64 (wd * L)] 46
  have q_4 := q_3.later bl2
  have g_4 := g_3.later bl2
  have z_4 := z_3.later bl2
  have r_4 := r2.later bl2
  have b0_4 := below_trans b0_3 bl2
  clear q_3 g_3 z_3 r2 b0_3 bl2
  have x0 := g_4.cell 0 rfl
  have x1 := g_4.cell 1 rfl
  have x2 := g_4.cell 2 rfl
  have x3 := g_4.cell 3 rfl
  have x4 := g_4.cell 4 rfl
  go_upto_region 3 with fail
  clear xx2
  simp only [World.size_alloc] at l2
  generalize (w2.alloc (.cells #[.int .i64 1] 3)).alloc (.cells #[.bool false, .slice (some ⟨w2.heap.size, 0, none⟩) 1 1, .int .i64 (wd * L)] 46) = W3 at q_4 g_4 z_4 r_4 l2 b0_4 x0 x1 x2 x3 x4 ⊢
  generalize w2.heap.size + 1 = PL at l2 hPL hPB ⊢
  generalize w2.heap.size = PB at r_4 l2 hPB hPC ⊢
  cases gr
  · skip
    have hle := E2.out rfl
    subst hle
    clear E1 E2
    have p0 := l2.cell 0 rfl
    have o0 := l2.free 0
    have p1 := l2.cell 1 rfl
    have o1 := l2.free 1
    have p2 := l2.cell 2 rfl
    have o2 := l2.free 2
    go_upto_region 5 with fail
    have bu := but_set W3 PL 2 (.int .i64 (wd * (L + D - 1)))
    have q4 := bu.loc q_4 (by omega)
    have g4 := bu.loc g_4 (by omega)
    have z4 := bu.loc z_4 (by omega)
    have b4 := bu.below b0_4 (by omega)
    have l4 := l2.set 2 (.int .i64 (wd * (L + D - 1)))
    have r4 := bu.rd r_4 (fun _ a n c hv => by cases hv; exact hPB)
    simp only [List.set_cons_succ, List.set_cons_zero] at l4
    generalize (W3.setCell ⟨PL, 2, none⟩ (.int .i64 (wd * (L + D - 1)))) = W4 at q4 g4 z4 b4 l4 r4 ⊢
    clear q_4 g_4 z_4 r_4 l2 b0_4 x0 x1 x2 x3 x4 p0 p1 p2 o0 o1 o2 bu
    by_cases hl : la = 0
    · obtain ⟨h1, h2, h3, h4⟩ := R0.out hl
      subst h1 h2 h3 h4 hl
      have y0 := q4.cell 0 rfl
      have p0 := l4.cell 0 rfl
      have y1 := q4.cell 1 rfl
      have p1 := l4.cell 1 rfl
      have y2 := q4.cell 2 rfl
      have p2 := l4.cell 2 rfl
      have d0 := z4.cell 0 rfl
      have f0 := z4.free 0
      have d1 := z4.cell 1 rfl
      have f1 := z4.free 1
      have d2 := z4.cell 2 rfl
      have f2 := z4.free 2
      go_wp2
      have bu : But (w.heap.size + 1 + 1) W4 (((W4.setCell ⟨w.heap.size + 1 + 1, 0, none⟩ (.bool false)).setCell ⟨w.heap.size + 1 + 1, 1, none⟩ (.slice (some ⟨PB, 0, none⟩) 1 1)).setCell ⟨w.heap.size + 1 + 1, 2, none⟩ (.int .i64 (wd * (L + D - 1)))) := ((but_set W4 (w.heap.size + 1 + 1) 0 (.bool false)).trans (but_set _ (w.heap.size + 1 + 1) 1 (.slice (some ⟨PB, 0, none⟩) 1 1))).trans (but_set _ (w.heap.size + 1 + 1) 2 (.int .i64 (wd * (L + D - 1))))
      have cX : LocE (((W4.setCell ⟨w.heap.size + 1 + 1, 0, none⟩ (.bool false)).setCell ⟨w.heap.size + 1 + 1, 1, none⟩ (.slice (some ⟨PB, 0, none⟩) 1 1)).setCell ⟨w.heap.size + 1 + 1, 2, none⟩ (.int .i64 (wd * (L + D - 1)))) (w.heap.size + 1 + 1) 46 [.bool false, .slice (some ⟨PB, 0, none⟩) 1 1, .int .i64 (wd * (L + D - 1))] := ((z4.set 0 (.bool false)).set 1 (.slice (some ⟨PB, 0, none⟩) 1 1)).set 2 (.int .i64 (wd * (L + D - 1)))
      have bX := bu.below b4 (show w.heap.size ≤ w.heap.size + 1 + 1 by omega)
      have rX := bu.rd r4 (rd_offE r4 norm_one z4 z3_zero)
      have s0 := cX.cell 0 rfl
      have s1 := cX.cell 1 rfl
      have s2 := cX.cell 2 rfl
      refine bodyPost_ret (v := .tuple #[.agg #[.bool false, .slice (some ⟨PB, 0, none⟩) 1 1, .int .i64 (wd * (L + D - 1))], .bool true]) (by simp [results, Tryd.results29, go_sem, s0, s1, s2]) rfl ?_
      exact ⟨_, rfl, by rw [dg_one]; exact rX, (fun a n c hv => by cases hv; exact hPC), bX⟩
    · skip
      replace R1 : Hid _ := R1.out hl
      replace R2 : Hid _ := R2.out hl
      replace R3 : Hid _ := R3.out hl
      replace R4 : Hid _ := R4.out hl
      replace HP1 : Hid _ := HP1.out hl
      replace HP2 : Hid _ := HP2.out hl
      replace HI1 : Hid _ := HI1.out hl
      replace HI2 : Hid _ := HI2.out hl
      replace HC : Hid _ := HC.out hl
      clear l4 r4
      have hla : ((la : Int) == 0) = false := by simp; omega
      have zz1 := q4.cell 1 rfl
      have bd_5 : Below W4.heap.size W4 W4.drew := (Below.refl _ _).drew
      have q_d := q4.later bd_5
      have g_d := g4.later bd_5
      have z_d := z4.later bd_5
      have b_d := below_trans b4 bd_5
      have y0 := q_d.cell 0 rfl
      have y1 := q_d.cell 1 rfl
      have y2 := q_d.cell 2 rfl
      go_wp2_with fail
      go_region_held3 (fun wq => wq.cell? ⟨w.heap.size, 1, none⟩ = some (.slice ao la ca) ∧ wq.cell? ⟨w.heap.size, 2, none⟩ = some (.int .i64 e)) (go_keep) (first
        | (go_at_call 62; have hgd := b_d; clear hgd; refine (HLN.out _ b_d).mono ?_; rintro z wa ⟨rfl, bb_wa⟩; have b0_wa := below_trans b_d bb_wa; have q_wa := q_d.later bb_wa; have g_wa := g_d.later bb_wa; have z_wa := z_d.later bb_wa; have ya0 := q_wa.cell 0 rfl; have ya1 := q_wa.cell 1 rfl; have ya2 := q_wa.cell 2 rfl; clear b_d))
      clear y0 y1 y2 zz1 ya0 ya1 ya2
      have x0 := g_wa.cell 0 rfl
      have x1 := g_wa.cell 1 rfl
      have x2 := g_wa.cell 2 rfl
      have x3 := g_wa.cell 3 rfl
      have x4 := g_wa.cell 4 rfl
      have y0 := q_wa.cell 0 rfl
      have y1 := q_wa.cell 1 rfl
      have y2 := q_wa.cell 2 rfl
      have xd := (g_wa.later (Below.refl _ _).drew).cell 1 rfl
      have xe := (g_wa.later (Below.refl _ _).drew).cell 2 rfl
      go_upto_region 8 with fail
      go_cut [9] (fun s9 wx => s9 = .int .i64 k ∧ Below wa.heap.size wa wx)
      case first =>
        go_wp2_with fail
        go_quiet (fail)
        all_goals (go_wp2_with fail)
        all_goals (go_meet; exact ⟨by simp, below_drewN (Below.refl _ _) _⟩)
      case rest =>
        obtain ⟨rfl, bwx⟩ := hcut
        clear xd xe x0 x1 x2 x3 x4 y0 y1 y2 M U1 U2 U3 UX U4 U5 U6 Q1 Q2 U7 U8 U9 UA UB
        have q_41 := q_wa.later bwx
        have g_41 := g_wa.later bwx
        have z_41 := z_wa.later bwx
        have b0_41 := below_trans b0_wa bwx
        clear q_wa g_wa z_wa b0_wa bwx
        cases s
        · obtain ⟨h1, h2, h3, h4⟩ := R1.out rfl
          subst h1 h2 h3 h4
          clear R0 R1 R2 R3 R4 HC HP2 HI2
          have qold := q_41
          have yy0 := qold.cell 0 rfl
          have yy1 := qold.cell 1 rfl
          have yy2 := qold.cell 2 rfl
          have rone : Rd (wc.alloc (.cells #[.int .i64 1] 3)) .i64 (.slice (some ⟨wc.heap.size, 0, none⟩) 1 1) [1] := rd_new (w := wc) (k := .i64) (e := 3) [1] #[.int .i64 1] rfl (by unfold maxLen; simp)
          have bone := below_alloc wc (.cells #[.int .i64 1] 3)
          have q_61 := q_41.later bone
          have g_61 := g_41.later bone
          have z_61 := z_41.later bone
          have b0_61 := below_trans b0_41 bone
          clear q_41 g_41 z_41 b0_41 bone
          go_wp2_with fail
          refine (HP1.out _ _ _ b0_61 rone).mono ?_
          rintro z wp ⟨vp, rfl, rp, fp, bbp⟩
          obtain ⟨co, cc, hvp⟩ := rp.shape
          subst hvp
          simp only at rp fp ⊢
          clear rone qold yy0 yy1 yy2
          have hF : Hid (Far w.heap.size (.slice co (Dg.dg 65536 cn).length cc)) := fp.mono b0_61.size
          clear fp
          have q_62 := q_61.later bbp
          have g_62 := g_61.later bbp
          have z_62 := z_61.later bbp
          have b0_62 := below_trans b0_61 bbp
          clear q_61 g_61 z_61 b0_61 bbp
          have apc := below_alloc wp (.cells #[.bool cs, .slice co (Dg.dg 65536 cn).length cc, .int .i64 ce] 46)
          have lpc := locE_new wp [.bool cs, .slice co (Dg.dg 65536 cn).length cc, .int .i64 ce] 46
          have hP : w.heap.size + 1 + 1 < wp.heap.size := z_62.lt
          have q_63 := q_62.later apc
          have g_63 := g_62.later apc
          have z_63 := z_62.later apc
          have p_63 := rp.later apc
          have b0_63 := below_trans b0_62 apc
          clear q_62 g_62 z_62 rp b0_62 apc
          go_upto_region 11 with fail
          generalize wp.alloc (.cells #[.bool cs, .slice co (Dg.dg 65536 cn).length cc, .int .i64 ce] 46) = W5 at q_63 g_63 z_63 p_63 lpc b0_63 ⊢
          generalize wp.heap.size = PC at lpc hP ⊢
          have bd5 : Below W5.heap.size W5 W5.drew := (Below.refl _ _).drew
          have yo0 := lpc.cell 0 rfl
          have yo1 := lpc.cell 1 rfl
          have yo2 := lpc.cell 2 rfl
          have q_64 := q_63.later bd5
          have g_64 := g_63.later bd5
          have z_64 := z_63.later bd5
          have p_64 := p_63.later bd5
          have c_64 := lpc.later bd5
          have b0_64 := below_trans b0_63 bd5
          clear q_63 g_63 z_63 p_63 lpc b0_63 bd5
          have buS := ((but_set W5.drew (w.heap.size + 1 + 1) 0 (.bool cs)).trans (but_set _ (w.heap.size + 1 + 1) 1 (.slice co (Dg.dg 65536 cn).length cc))).trans (but_set _ (w.heap.size + 1 + 1) 2 (.int .i64 ce))
          have rS := buS.rd p_64 (rd_offE p_64 (Dg.norm_dg _ _ (by omega)) z_64 z3_zero)
          have bS := buS.below b0_64 (show w.heap.size ≤ w.heap.size + 1 + 1 by omega)
          have zS : LocE (((W5.drew.setCell ⟨w.heap.size + 1 + 1, 0, none⟩ (.bool cs)).setCell ⟨w.heap.size + 1 + 1, 1, none⟩ (.slice co (Dg.dg 65536 cn).length cc)).setCell ⟨w.heap.size + 1 + 1, 2, none⟩ (.int .i64 ce)) (w.heap.size + 1 + 1) 46 [.bool cs, .slice co (Dg.dg 65536 cn).length cc, .int .i64 ce] := ((z_64.set 0 (.bool cs)).set 1 (.slice co (Dg.dg 65536 cn).length cc)).set 2 (.int .i64 ce)
          have x0 := g_64.cell 0 rfl
          have x1 := g_64.cell 1 rfl
          have x2 := g_64.cell 2 rfl
          have x3 := g_64.cell 3 rfl
          have x4 := g_64.cell 4 rfl
          have y0 := c_64.cell 0 rfl
          have y1 := c_64.cell 1 rfl
          have y2 := c_64.cell 2 rfl
          have d0 := z_64.cell 0 rfl
          have f0 := z_64.free 0
          have d1 := z_64.cell 1 rfl
          have f1 := z_64.free 1
          have d2 := z_64.cell 2 rfl
          have f2 := z_64.free 2
          have nn1 : PC ≠ w.heap.size + 1 + 1 := by omega
          have nn2 : w.heap.size + 1 ≠ w.heap.size + 1 + 1 := by omega
          have nn3 : w.heap.size + 1 + 1 ≠ PC := by omega
          have nn4 : w.heap.size + 1 + 1 ≠ w.heap.size + 1 := by omega
          go_wp2_with fail
          go_region_held3 (fun wq => (wq.cell? ⟨PC, 0, none⟩ = some (.bool cs) ∧ wq.cell? ⟨PC, 1, none⟩ = some (.slice co (Dg.dg 65536 cn).length cc) ∧ wq.cell? ⟨PC, 2, none⟩ = some (.int .i64 ce)) ∧ wq.cell? ⟨w.heap.size + 1, 0, none⟩ = some (.int .i64 R) ∧ wq.cell? ⟨w.heap.size + 1, 1, none⟩ = some (.int .i64 D) ∧ wq.cell? ⟨w.heap.size + 1, 2, none⟩ = some (.int .i64 L) ∧ wq.cell? ⟨w.heap.size + 1, 3, none⟩ = some (.int .i64 G) ∧ wq.cell? ⟨w.heap.size + 1, 4, none⟩ = some (.bool false)) (go_keep) (first
            | (go_at_call 25; (with_reducible (refine (HI1.out _ _ _ p_64).mono ?_)); rintro z wi ⟨rfl, bi⟩; have z_i := z_64.later bi; have r_i := p_64.later bi; have b_i := below_trans b0_64 bi; have di0 := z_i.cell 0 rfl; have di1 := z_i.cell 1 rfl; have di2 := z_i.cell 2 rfl; have ei0 := z_i.free 0; have ei1 := z_i.free 1; have ei2 := z_i.free 2; have c_i := c_64.later bi; have g_i := g_64.later bi; have yi0 := c_i.cell 0 rfl; have yi1 := c_i.cell 1 rfl; have yi2 := c_i.cell 2 rfl; have xi0 := g_i.cell 0 rfl; have xi1 := g_i.cell 1 rfl; have xi2 := g_i.cell 2 rfl; have xi3 := g_i.cell 3 rfl; have xi4 := g_i.cell 4 rfl)
            | (go_at_call 25; (with_reducible (refine (HI1.out _ _ _ rS).mono ?_)); rintro z wi ⟨rfl, bi⟩; have zS_i := zS.later bi; have r_i := rS.later bi; have b_i := below_trans bS bi; have di0 := zS_i.cell 0 rfl; have di1 := zS_i.cell 1 rfl; have di2 := zS_i.cell 2 rfl))
          all_goals (go_wp2)
          all_goals (first
            | (have bu := ((but_set wi (w.heap.size + 1 + 1) 0 (.bool cs)).trans (but_set _ (w.heap.size + 1 + 1) 1 (.slice co (Dg.dg 65536 cn).length cc))).trans (but_set _ (w.heap.size + 1 + 1) 2 (.int .i64 ce)); have cX : LocE (((wi.setCell ⟨w.heap.size + 1 + 1, 0, none⟩ (.bool cs)).setCell ⟨w.heap.size + 1 + 1, 1, none⟩ (.slice co (Dg.dg 65536 cn).length cc)).setCell ⟨w.heap.size + 1 + 1, 2, none⟩ (.int .i64 ce)) (w.heap.size + 1 + 1) 46 [.bool cs, .slice co (Dg.dg 65536 cn).length cc, .int .i64 ce] := ((z_i.set 0 (.bool cs)).set 1 (.slice co (Dg.dg 65536 cn).length cc)).set 2 (.int .i64 ce); have bX := bu.below b_i (show w.heap.size ≤ w.heap.size + 1 + 1 by omega); have rX := bu.rd r_i (rd_offE r_i (Dg.norm_dg _ _ (by omega)) z_i z3_zero); have s0 := cX.cell 0 rfl; have s1 := cX.cell 1 rfl; have s2 := cX.cell 2 rfl; refine bodyPost_ret (v := .tuple #[.agg #[.bool cs, .slice co (Dg.dg 65536 cn).length cc, .int .i64 ce], .bool ic]) (by simp [results, Tryd.results29, go_sem, s0, s1, s2]) rfl ?_; exact ⟨_, rfl, rX, hF.out, bX⟩)
            | (refine bodyPost_ret (v := .tuple #[.agg #[.bool cs, .slice co (Dg.dg 65536 cn).length cc, .int .i64 ce], .bool ic]) (by simp [results, Tryd.results29, go_sem, di0, di1, di2]) rfl ?_; exact ⟨_, rfl, r_i, hF.out, b_i⟩))
        · replace R2 : Hid _ := R2.out rfl
          replace R3 : Hid _ := R3.out rfl
          replace R4 : Hid _ := R4.out rfl
          replace HC : Hid _ := HC.out rfl
          replace HP2 : Hid _ := HP2.out rfl
          replace HI2 : Hid _ := HI2.out rfl
          clear R0 R1
          have qold := q_41
          have yy0 := qold.cell 0 rfl
          have yy1 := qold.cell 1 rfl
          have yy2 := qold.cell 2 rfl
          have rone : Rd (wc.alloc (.cells #[.int .i64 1] 3)) .i64 (.slice (some ⟨wc.heap.size, 0, none⟩) 1 1) [1] := rd_new (w := wc) (k := .i64) (e := 3) [1] #[.int .i64 1] rfl (by unfold maxLen; simp)
          have bone := below_alloc wc (.cells #[.int .i64 1] 3)
          have q_161 := q_41.later bone
          have g_161 := g_41.later bone
          have z_161 := z_41.later bone
          have b0_161 := below_trans b0_41 bone
          clear q_41 g_41 z_41 b0_41 bone
          go_wp2_with fail
          refine (HP2.out _ _ _ b0_161 rone).mono ?_
          rintro z wp ⟨vp, rfl, rp, fp, bbp⟩
          obtain ⟨fo, fc, hvp⟩ := rp.shape
          subst hvp
          simp only at rp fp ⊢
          clear rone qold yy0 yy1 yy2
          have hF : Hid (Far w.heap.size (.slice fo (Dg.dg 65536 fn).length fc)) := fp.mono b0_161.size
          clear fp
          have q_162 := q_161.later bbp
          have g_162 := g_161.later bbp
          have z_162 := z_161.later bbp
          have b0_162 := below_trans b0_161 bbp
          clear q_161 g_161 z_161 b0_161 bbp
          have apc := below_alloc wp (.cells #[.bool fs, .slice fo (Dg.dg 65536 fn).length fc, .int .i64 fe] 46)
          have lpc := locE_new wp [.bool fs, .slice fo (Dg.dg 65536 fn).length fc, .int .i64 fe] 46
          have hP : w.heap.size + 1 + 1 < wp.heap.size := z_162.lt
          have q_163 := q_162.later apc
          have g_163 := g_162.later apc
          have z_163 := z_162.later apc
          have p_163 := rp.later apc
          have b0_163 := below_trans b0_162 apc
          clear q_162 g_162 z_162 rp b0_162 apc
          go_upto_region 13 with fail
          generalize wp.alloc (.cells #[.bool fs, .slice fo (Dg.dg 65536 fn).length fc, .int .i64 fe] 46) = W5 at q_163 g_163 z_163 p_163 lpc b0_163 ⊢
          generalize wp.heap.size = PF at lpc hP ⊢
          have x0 := g_163.cell 0 rfl
          have x1 := g_163.cell 1 rfl
          have x2 := g_163.cell 2 rfl
          have x3 := g_163.cell 3 rfl
          have x4 := g_163.cell 4 rfl
          have y0 := lpc.cell 0 rfl
          have y1 := lpc.cell 1 rfl
          have y2 := lpc.cell 2 rfl
          go_wp2_with fail
          refine (HI2.out _ _ _ p_163).mono ?_
          rintro z wi ⟨rfl, bbi⟩
          clear x0 x1 x2 x3 x4 y0 y1 y2 HI2
          have q_164 := q_163.later bbi
          have g_164 := g_163.later bbi
          have z_164 := z_163.later bbi
          have p_164 := p_163.later bbi
          have c_164 := lpc.later bbi
          have b0_164 := below_trans b0_163 bbi
          clear q_163 g_163 z_163 p_163 lpc b0_163 bbi
          cases fi
          · replace R3 : Hid _ := R3.out rfl
            replace R4 : Hid _ := R4.out rfl
            clear R2 HC HP2 hF p_164
            have p0 := c_164.cell 0 rfl
            have o0 := c_164.free 0
            have p1 := c_164.cell 1 rfl
            have o1 := c_164.free 1
            have p2 := c_164.cell 2 rfl
            have o2 := c_164.free 2
            have qold := q_164
            have yy0 := qold.cell 0 rfl
            have yy1 := qold.cell 1 rfl
            have yy2 := qold.cell 2 rfl
            have rone : Rd (wi.alloc (.cells #[.int .i64 1] 3)) .i64 (.slice (some ⟨wi.heap.size, 0, none⟩) 1 1) [1] := rd_new (w := wi) (k := .i64) (e := 3) [1] #[.int .i64 1] rfl (by unfold maxLen; simp)
            have bone := below_alloc wi (.cells #[.int .i64 1] 3)
            have q_201 := q_164.later bone
            have g_201 := g_164.later bone
            have z_201 := z_164.later bone
            have c_201 := c_164.later bone
            have b0_201 := below_trans b0_164 bone
            clear q_164 g_164 z_164 c_164 b0_164 bone
            go_wp2_with fail
            refine (HP1.out _ _ _ b0_201 rone).mono ?_
            rintro z wp ⟨vp, rfl, rp, fp, bbp⟩
            obtain ⟨co, cc, hvp⟩ := rp.shape
            subst hvp
            simp only at rp fp ⊢
            clear rone qold yy0 yy1 yy2
            have hF : Hid (Far w.heap.size (.slice co (Dg.dg 65536 cn).length cc)) := fp.mono b0_201.size
            have hlt := c_201.lt
            have q_202 := q_201.later bbp
            have g_202 := g_201.later bbp
            have z_202 := z_201.later bbp
            have c_202 := c_201.later bbp
            have b0_202 := below_trans b0_201 bbp
            clear q_201 g_201 z_201 c_201 b0_201 bbp
            have u0 := c_202.cell 0 rfl
            have v0 := c_202.free 0
            have u1 := c_202.cell 1 rfl
            have v1 := c_202.free 1
            have u2 := c_202.cell 2 rfl
            have v2 := c_202.free 2
            go_upto_region 16 with fail
            have bu := ((but_set wp PF 0 (.bool cs)).trans (but_set _ PF 1 (.slice co (Dg.dg 65536 cn).length cc))).trans (but_set _ PF 2 (.int .i64 ce))
            have q6 := bu.loc q_202 (by omega)
            have g6 := bu.loc g_202 (by omega)
            have z6 := bu.loc z_202 (by omega)
            have c6 : LocE (((wp.setCell ⟨PF, 0, none⟩ (.bool cs)).setCell ⟨PF, 1, none⟩ (.slice co (Dg.dg 65536 cn).length cc)).setCell ⟨PF, 2, none⟩ (.int .i64 ce)) PF 46 [.bool cs, .slice co (Dg.dg 65536 cn).length cc, .int .i64 ce] := ((c_202.set 0 (.bool cs)).set 1 (.slice co (Dg.dg 65536 cn).length cc)).set 2 (.int .i64 ce)
            have r6 := bu.rd rp (far_off fp hlt)
            have b6 := bu.below b0_202 (by omega)
            generalize (((wp.setCell ⟨PF, 0, none⟩ (.bool cs)).setCell ⟨PF, 1, none⟩ (.slice co (Dg.dg 65536 cn).length cc)).setCell ⟨PF, 2, none⟩ (.int .i64 ce)) = W6 at q6 g6 z6 c6 r6 b6 ⊢
            clear q_202 g_202 z_202 c_202 rp b0_202 bu fp hlt p0 p1 p2 o0 o1 o2 u0 u1 u2 v0 v1 v2
            have x0 := g6.cell 0 rfl
            have x1 := g6.cell 1 rfl
            have x2 := g6.cell 2 rfl
            have x3 := g6.cell 3 rfl
            have x4 := g6.cell 4 rfl
            have y0 := c6.cell 0 rfl
            have y1 := c6.cell 1 rfl
            have y2 := c6.cell 2 rfl
            go_wp2_with fail
            refine (HI1.out _ _ _ r6).mono ?_
            rintro z wj ⟨rfl, bbj⟩
            clear x0 x1 x2 x3 x4 y0 y1 y2 HI1 HP1
            have q_203 := q6.later bbj
            have g_203 := g6.later bbj
            have z_203 := z6.later bbj
            have c_203 := c6.later bbj
            have p_203 := r6.later bbj
            have b0_203 := below_trans b6 bbj
            clear q6 g6 z6 c6 r6 b6 bbj
            cases ic
            · obtain ⟨h1, h2, h3, h4⟩ := R4.out rfl
              subst h1 h2 h3 h4
              have d0 := z_203.cell 0 rfl
              have f0 := z_203.free 0
              have d1 := z_203.cell 1 rfl
              have f1 := z_203.free 1
              have d2 := z_203.cell 2 rfl
              have f2 := z_203.free 2
              go_wp2
              have bu : But (w.heap.size + 1 + 1) wj (((wj.setCell ⟨w.heap.size + 1 + 1, 0, none⟩ (.bool false)).setCell ⟨w.heap.size + 1 + 1, 1, none⟩ (.slice none 0 0)).setCell ⟨w.heap.size + 1 + 1, 2, none⟩ (.int .i64 0)) := ((but_set wj (w.heap.size + 1 + 1) 0 (.bool false)).trans (but_set _ (w.heap.size + 1 + 1) 1 (.slice none 0 0))).trans (but_set _ (w.heap.size + 1 + 1) 2 (.int .i64 0))
              have cX : LocE (((wj.setCell ⟨w.heap.size + 1 + 1, 0, none⟩ (.bool false)).setCell ⟨w.heap.size + 1 + 1, 1, none⟩ (.slice none 0 0)).setCell ⟨w.heap.size + 1 + 1, 2, none⟩ (.int .i64 0)) (w.heap.size + 1 + 1) 46 [.bool false, .slice none 0 0, .int .i64 0] := ((z_203.set 0 (.bool false)).set 1 (.slice none 0 0)).set 2 (.int .i64 0)
              have bX := bu.below b0_203 (show w.heap.size ≤ w.heap.size + 1 + 1 by omega)
              have s0 := cX.cell 0 rfl
              have s1 := cX.cell 1 rfl
              have s2 := cX.cell 2 rfl
              refine bodyPost_ret (v := .tuple #[.agg #[.bool false, .slice none 0 0, .int .i64 0], .bool true]) (by simp [results, Tryd.results29, go_sem, s0, s1, s2]) rfl ?_
              exact ⟨_, rfl, rd_nil _ _, (fun a n c hv => by cases hv), bX⟩
            · obtain ⟨h1, h2, h3, h4⟩ := R3.out rfl
              subst h1 h2 h3 h4
              have y0 := c_203.cell 0 rfl
              have y1 := c_203.cell 1 rfl
              have y2 := c_203.cell 2 rfl
              have d0 := z_203.cell 0 rfl
              have f0 := z_203.free 0
              have d1 := z_203.cell 1 rfl
              have f1 := z_203.free 1
              have d2 := z_203.cell 2 rfl
              have f2 := z_203.free 2
              go_wp2
              have bu : But (w.heap.size + 1 + 1) wj (((wj.setCell ⟨w.heap.size + 1 + 1, 0, none⟩ (.bool cs)).setCell ⟨w.heap.size + 1 + 1, 1, none⟩ (.slice co (Dg.dg 65536 cn).length cc)).setCell ⟨w.heap.size + 1 + 1, 2, none⟩ (.int .i64 ce)) := ((but_set wj (w.heap.size + 1 + 1) 0 (.bool cs)).trans (but_set _ (w.heap.size + 1 + 1) 1 (.slice co (Dg.dg 65536 cn).length cc))).trans (but_set _ (w.heap.size + 1 + 1) 2 (.int .i64 ce))
              have cX : LocE (((wj.setCell ⟨w.heap.size + 1 + 1, 0, none⟩ (.bool cs)).setCell ⟨w.heap.size + 1 + 1, 1, none⟩ (.slice co (Dg.dg 65536 cn).length cc)).setCell ⟨w.heap.size + 1 + 1, 2, none⟩ (.int .i64 ce)) (w.heap.size + 1 + 1) 46 [.bool cs, .slice co (Dg.dg 65536 cn).length cc, .int .i64 ce] := ((z_203.set 0 (.bool cs)).set 1 (.slice co (Dg.dg 65536 cn).length cc)).set 2 (.int .i64 ce)
              have bX := bu.below b0_203 (show w.heap.size ≤ w.heap.size + 1 + 1 by omega)
              have rX := bu.rd p_203 (rd_offE p_203 (Dg.norm_dg _ _ (by omega)) z_203 z3_zero)
              have s0 := cX.cell 0 rfl
              have s1 := cX.cell 1 rfl
              have s2 := cX.cell 2 rfl
              refine bodyPost_ret (v := .tuple #[.agg #[.bool cs, .slice co (Dg.dg 65536 cn).length cc, .int .i64 ce], .bool true]) (by simp [results, Tryd.results29, go_sem, s0, s1, s2]) rfl ?_
              exact ⟨_, rfl, rX, hF.out, bX⟩
          · obtain ⟨h1, h2, h3, h4⟩ := R2.out rfl
            subst h1 h2 h3 h4
            clear R2 R3 R4 HP1 HP2 HI1
            have x0 := q_164.cell 0 rfl
            have x1 := q_164.cell 1 rfl
            have x2 := q_164.cell 2 rfl
            have y0 := c_164.cell 0 rfl
            have y1 := c_164.cell 1 rfl
            have y2 := c_164.cell 2 rfl
            go_wp2_with fail
            refine (HC.out _ _ _ b0_164 p_164).mono ?_
            rintro z wj ⟨rfl, bbj⟩
            clear x0 x1 x2 y0 y1 y2 HC
            have q_261 := q_164.later bbj
            have g_261 := g_164.later bbj
            have z_261 := z_164.later bbj
            have p_261 := p_164.later bbj
            have c_261 := c_164.later bbj
            have b0_261 := below_trans b0_164 bbj
            clear q_164 g_164 z_164 p_164 c_164 b0_164 bbj
            have y0 := c_261.cell 0 rfl
            have y1 := c_261.cell 1 rfl
            have y2 := c_261.cell 2 rfl
            have d0 := z_261.cell 0 rfl
            have f0 := z_261.free 0
            have d1 := z_261.cell 1 rfl
            have f1 := z_261.free 1
            have d2 := z_261.cell 2 rfl
            have f2 := z_261.free 2
            go_wp2
            have bu : But (w.heap.size + 1 + 1) wj (((wj.setCell ⟨w.heap.size + 1 + 1, 0, none⟩ (.bool fs)).setCell ⟨w.heap.size + 1 + 1, 1, none⟩ (.slice fo (Dg.dg 65536 fn).length fc)).setCell ⟨w.heap.size + 1 + 1, 2, none⟩ (.int .i64 fe)) := ((but_set wj (w.heap.size + 1 + 1) 0 (.bool fs)).trans (but_set _ (w.heap.size + 1 + 1) 1 (.slice fo (Dg.dg 65536 fn).length fc))).trans (but_set _ (w.heap.size + 1 + 1) 2 (.int .i64 fe))
            have cX : LocE (((wj.setCell ⟨w.heap.size + 1 + 1, 0, none⟩ (.bool fs)).setCell ⟨w.heap.size + 1 + 1, 1, none⟩ (.slice fo (Dg.dg 65536 fn).length fc)).setCell ⟨w.heap.size + 1 + 1, 2, none⟩ (.int .i64 fe)) (w.heap.size + 1 + 1) 46 [.bool fs, .slice fo (Dg.dg 65536 fn).length fc, .int .i64 fe] := ((z_261.set 0 (.bool fs)).set 1 (.slice fo (Dg.dg 65536 fn).length fc)).set 2 (.int .i64 fe)
            have bX := bu.below b0_261 (show w.heap.size ≤ w.heap.size + 1 + 1 by omega)
            have rX := bu.rd p_261 (rd_offE p_261 (Dg.norm_dg _ _ (by omega)) z_261 z3_zero)
            have s0 := cX.cell 0 rfl
            have s1 := cX.cell 1 rfl
            have s2 := cX.cell 2 rfl
            refine bodyPost_ret (v := .tuple #[.agg #[.bool fs, .slice fo (Dg.dg 65536 fn).length fc, .int .i64 fe], .bool true]) (by simp [results, Tryd.results29, go_sem, s0, s1, s2]) rfl ?_
            exact ⟨_, rfl, rX, hF.out, bX⟩
  · skip
    have hle := E1.out rfl
    subst hle
    clear E1 E2
    go_upto_region 5 with fail
    clear x0 x1 x2 x3 x4
    by_cases hl : la = 0
    · obtain ⟨h1, h2, h3, h4⟩ := R0.out hl
      subst h1 h2 h3 h4 hl
      have y0 := q_4.cell 0 rfl
      have p0 := l2.cell 0 rfl
      have y1 := q_4.cell 1 rfl
      have p1 := l2.cell 1 rfl
      have y2 := q_4.cell 2 rfl
      have p2 := l2.cell 2 rfl
      have d0 := z_4.cell 0 rfl
      have f0 := z_4.free 0
      have d1 := z_4.cell 1 rfl
      have f1 := z_4.free 1
      have d2 := z_4.cell 2 rfl
      have f2 := z_4.free 2
      go_wp2
      have bu : But (w.heap.size + 1 + 1) W3 (((W3.setCell ⟨w.heap.size + 1 + 1, 0, none⟩ (.bool false)).setCell ⟨w.heap.size + 1 + 1, 1, none⟩ (.slice (some ⟨PB, 0, none⟩) 1 1)).setCell ⟨w.heap.size + 1 + 1, 2, none⟩ (.int .i64 (wd * L))) := ((but_set W3 (w.heap.size + 1 + 1) 0 (.bool false)).trans (but_set _ (w.heap.size + 1 + 1) 1 (.slice (some ⟨PB, 0, none⟩) 1 1))).trans (but_set _ (w.heap.size + 1 + 1) 2 (.int .i64 (wd * L)))
      have cX : LocE (((W3.setCell ⟨w.heap.size + 1 + 1, 0, none⟩ (.bool false)).setCell ⟨w.heap.size + 1 + 1, 1, none⟩ (.slice (some ⟨PB, 0, none⟩) 1 1)).setCell ⟨w.heap.size + 1 + 1, 2, none⟩ (.int .i64 (wd * L))) (w.heap.size + 1 + 1) 46 [.bool false, .slice (some ⟨PB, 0, none⟩) 1 1, .int .i64 (wd * L)] := ((z_4.set 0 (.bool false)).set 1 (.slice (some ⟨PB, 0, none⟩) 1 1)).set 2 (.int .i64 (wd * L))
      have bX := bu.below b0_4 (show w.heap.size ≤ w.heap.size + 1 + 1 by omega)
      have rX := bu.rd r_4 (rd_offE r_4 norm_one z_4 z3_zero)
      have s0 := cX.cell 0 rfl
      have s1 := cX.cell 1 rfl
      have s2 := cX.cell 2 rfl
      refine bodyPost_ret (v := .tuple #[.agg #[.bool false, .slice (some ⟨PB, 0, none⟩) 1 1, .int .i64 (wd * L)], .bool true]) (by simp [results, Tryd.results29, go_sem, s0, s1, s2]) rfl ?_
      exact ⟨_, rfl, by rw [dg_one]; exact rX, (fun a n c hv => by cases hv; exact hPC), bX⟩
    · skip
      replace R1 : Hid _ := R1.out hl
      replace R2 : Hid _ := R2.out hl
      replace R3 : Hid _ := R3.out hl
      replace R4 : Hid _ := R4.out hl
      replace HP1 : Hid _ := HP1.out hl
      replace HP2 : Hid _ := HP2.out hl
      replace HI1 : Hid _ := HI1.out hl
      replace HI2 : Hid _ := HI2.out hl
      replace HC : Hid _ := HC.out hl
      clear l2 r_4
      have hla : ((la : Int) == 0) = false := by simp; omega
      have zz1 := q_4.cell 1 rfl
      have bd_15 : Below W3.heap.size W3 W3.drew := (Below.refl _ _).drew
      have q_d := q_4.later bd_15
      have g_d := g_4.later bd_15
      have z_d := z_4.later bd_15
      have b_d := below_trans b0_4 bd_15
      have y0 := q_d.cell 0 rfl
      have y1 := q_d.cell 1 rfl
      have y2 := q_d.cell 2 rfl
      go_wp2_with fail
      go_region_held3 (fun wq => wq.cell? ⟨w.heap.size, 1, none⟩ = some (.slice ao la ca) ∧ wq.cell? ⟨w.heap.size, 2, none⟩ = some (.int .i64 e)) (go_keep) (first
        | (go_at_call 62; have hgd := b_d; clear hgd; refine (HLN.out _ b_d).mono ?_; rintro z wa ⟨rfl, bb_wa⟩; have b0_wa := below_trans b_d bb_wa; have q_wa := q_d.later bb_wa; have g_wa := g_d.later bb_wa; have z_wa := z_d.later bb_wa; have ya0 := q_wa.cell 0 rfl; have ya1 := q_wa.cell 1 rfl; have ya2 := q_wa.cell 2 rfl; clear b_d))
      clear y0 y1 y2 zz1 ya0 ya1 ya2
      have x0 := g_wa.cell 0 rfl
      have x1 := g_wa.cell 1 rfl
      have x2 := g_wa.cell 2 rfl
      have x3 := g_wa.cell 3 rfl
      have x4 := g_wa.cell 4 rfl
      have y0 := q_wa.cell 0 rfl
      have y1 := q_wa.cell 1 rfl
      have y2 := q_wa.cell 2 rfl
      have xd := (g_wa.later (Below.refl _ _).drew).cell 1 rfl
      have xe := (g_wa.later (Below.refl _ _).drew).cell 2 rfl
      go_upto_region 8 with fail
      go_cut [9] (fun s9 wx => s9 = .int .i64 k ∧ Below wa.heap.size wa wx)
      case first =>
        go_wp2_with fail
        go_quiet (fail)
        all_goals (go_wp2_with fail)
        all_goals (go_meet; exact ⟨by simp, below_drewN (Below.refl _ _) _⟩)
      case rest =>
        obtain ⟨rfl, bwx⟩ := hcut
        clear xd xe x0 x1 x2 x3 x4 y0 y1 y2 M U1 U2 U3 UX U4 U5 U6 Q1 Q2 U7 U8 U9 UA UB
        have q_41 := q_wa.later bwx
        have g_41 := g_wa.later bwx
        have z_41 := z_wa.later bwx
        have b0_41 := below_trans b0_wa bwx
        clear q_wa g_wa z_wa b0_wa bwx
        cases s
        · obtain ⟨h1, h2, h3, h4⟩ := R1.out rfl
          subst h1 h2 h3 h4
          clear R0 R1 R2 R3 R4 HC HP2 HI2
          have qold := q_41
          have yy0 := qold.cell 0 rfl
          have yy1 := qold.cell 1 rfl
          have yy2 := qold.cell 2 rfl
          have rone : Rd (wc.alloc (.cells #[.int .i64 1] 3)) .i64 (.slice (some ⟨wc.heap.size, 0, none⟩) 1 1) [1] := rd_new (w := wc) (k := .i64) (e := 3) [1] #[.int .i64 1] rfl (by unfold maxLen; simp)
          have bone := below_alloc wc (.cells #[.int .i64 1] 3)
          have q_61 := q_41.later bone
          have g_61 := g_41.later bone
          have z_61 := z_41.later bone
          have b0_61 := below_trans b0_41 bone
          clear q_41 g_41 z_41 b0_41 bone
          go_wp2_with fail
          refine (HP1.out _ _ _ b0_61 rone).mono ?_
          rintro z wp ⟨vp, rfl, rp, fp, bbp⟩
          obtain ⟨co, cc, hvp⟩ := rp.shape
          subst hvp
          simp only at rp fp ⊢
          clear rone qold yy0 yy1 yy2
          have hF : Hid (Far w.heap.size (.slice co (Dg.dg 65536 cn).length cc)) := fp.mono b0_61.size
          clear fp
          have q_62 := q_61.later bbp
          have g_62 := g_61.later bbp
          have z_62 := z_61.later bbp
          have b0_62 := below_trans b0_61 bbp
          clear q_61 g_61 z_61 b0_61 bbp
          have apc := below_alloc wp (.cells #[.bool cs, .slice co (Dg.dg 65536 cn).length cc, .int .i64 ce] 46)
          have lpc := locE_new wp [.bool cs, .slice co (Dg.dg 65536 cn).length cc, .int .i64 ce] 46
          have hP : w.heap.size + 1 + 1 < wp.heap.size := z_62.lt
          have q_63 := q_62.later apc
          have g_63 := g_62.later apc
          have z_63 := z_62.later apc
          have p_63 := rp.later apc
          have b0_63 := below_trans b0_62 apc
          clear q_62 g_62 z_62 rp b0_62 apc
          go_upto_region 11 with fail
          generalize wp.alloc (.cells #[.bool cs, .slice co (Dg.dg 65536 cn).length cc, .int .i64 ce] 46) = W5 at q_63 g_63 z_63 p_63 lpc b0_63 ⊢
          generalize wp.heap.size = PC at lpc hP ⊢
          have bd5 : Below W5.heap.size W5 W5.drew := (Below.refl _ _).drew
          have yo0 := lpc.cell 0 rfl
          have yo1 := lpc.cell 1 rfl
          have yo2 := lpc.cell 2 rfl
          have q_64 := q_63.later bd5
          have g_64 := g_63.later bd5
          have z_64 := z_63.later bd5
          have p_64 := p_63.later bd5
          have c_64 := lpc.later bd5
          have b0_64 := below_trans b0_63 bd5
          clear q_63 g_63 z_63 p_63 lpc b0_63 bd5
          have buS := ((but_set W5.drew (w.heap.size + 1 + 1) 0 (.bool cs)).trans (but_set _ (w.heap.size + 1 + 1) 1 (.slice co (Dg.dg 65536 cn).length cc))).trans (but_set _ (w.heap.size + 1 + 1) 2 (.int .i64 ce))
          have rS := buS.rd p_64 (rd_offE p_64 (Dg.norm_dg _ _ (by omega)) z_64 z3_zero)
          have bS := buS.below b0_64 (show w.heap.size ≤ w.heap.size + 1 + 1 by omega)
          have zS : LocE (((W5.drew.setCell ⟨w.heap.size + 1 + 1, 0, none⟩ (.bool cs)).setCell ⟨w.heap.size + 1 + 1, 1, none⟩ (.slice co (Dg.dg 65536 cn).length cc)).setCell ⟨w.heap.size + 1 + 1, 2, none⟩ (.int .i64 ce)) (w.heap.size + 1 + 1) 46 [.bool cs, .slice co (Dg.dg 65536 cn).length cc, .int .i64 ce] := ((z_64.set 0 (.bool cs)).set 1 (.slice co (Dg.dg 65536 cn).length cc)).set 2 (.int .i64 ce)
          have x0 := g_64.cell 0 rfl
          have x1 := g_64.cell 1 rfl
          have x2 := g_64.cell 2 rfl
          have x3 := g_64.cell 3 rfl
          have x4 := g_64.cell 4 rfl
          have y0 := c_64.cell 0 rfl
          have y1 := c_64.cell 1 rfl
          have y2 := c_64.cell 2 rfl
          have d0 := z_64.cell 0 rfl
          have f0 := z_64.free 0
          have d1 := z_64.cell 1 rfl
          have f1 := z_64.free 1
          have d2 := z_64.cell 2 rfl
          have f2 := z_64.free 2
          have nn1 : PC ≠ w.heap.size + 1 + 1 := by omega
          have nn2 : w.heap.size + 1 ≠ w.heap.size + 1 + 1 := by omega
          have nn3 : w.heap.size + 1 + 1 ≠ PC := by omega
          have nn4 : w.heap.size + 1 + 1 ≠ w.heap.size + 1 := by omega
          go_wp2_with fail
          go_region_held3 (fun wq => (wq.cell? ⟨PC, 0, none⟩ = some (.bool cs) ∧ wq.cell? ⟨PC, 1, none⟩ = some (.slice co (Dg.dg 65536 cn).length cc) ∧ wq.cell? ⟨PC, 2, none⟩ = some (.int .i64 ce)) ∧ wq.cell? ⟨w.heap.size + 1, 0, none⟩ = some (.int .i64 R) ∧ wq.cell? ⟨w.heap.size + 1, 1, none⟩ = some (.int .i64 D) ∧ wq.cell? ⟨w.heap.size + 1, 2, none⟩ = some (.int .i64 L) ∧ wq.cell? ⟨w.heap.size + 1, 3, none⟩ = some (.int .i64 G) ∧ wq.cell? ⟨w.heap.size + 1, 4, none⟩ = some (.bool true)) (go_keep) (first
            | (go_at_call 25; (with_reducible (refine (HI1.out _ _ _ p_64).mono ?_)); rintro z wi ⟨rfl, bi⟩; have z_i := z_64.later bi; have r_i := p_64.later bi; have b_i := below_trans b0_64 bi; have di0 := z_i.cell 0 rfl; have di1 := z_i.cell 1 rfl; have di2 := z_i.cell 2 rfl; have ei0 := z_i.free 0; have ei1 := z_i.free 1; have ei2 := z_i.free 2; have c_i := c_64.later bi; have g_i := g_64.later bi; have yi0 := c_i.cell 0 rfl; have yi1 := c_i.cell 1 rfl; have yi2 := c_i.cell 2 rfl; have xi0 := g_i.cell 0 rfl; have xi1 := g_i.cell 1 rfl; have xi2 := g_i.cell 2 rfl; have xi3 := g_i.cell 3 rfl; have xi4 := g_i.cell 4 rfl)
            | (go_at_call 25; (with_reducible (refine (HI1.out _ _ _ rS).mono ?_)); rintro z wi ⟨rfl, bi⟩; have zS_i := zS.later bi; have r_i := rS.later bi; have b_i := below_trans bS bi; have di0 := zS_i.cell 0 rfl; have di1 := zS_i.cell 1 rfl; have di2 := zS_i.cell 2 rfl))
          all_goals (go_wp2)
          all_goals (first
            | (have bu := ((but_set wi (w.heap.size + 1 + 1) 0 (.bool cs)).trans (but_set _ (w.heap.size + 1 + 1) 1 (.slice co (Dg.dg 65536 cn).length cc))).trans (but_set _ (w.heap.size + 1 + 1) 2 (.int .i64 ce)); have cX : LocE (((wi.setCell ⟨w.heap.size + 1 + 1, 0, none⟩ (.bool cs)).setCell ⟨w.heap.size + 1 + 1, 1, none⟩ (.slice co (Dg.dg 65536 cn).length cc)).setCell ⟨w.heap.size + 1 + 1, 2, none⟩ (.int .i64 ce)) (w.heap.size + 1 + 1) 46 [.bool cs, .slice co (Dg.dg 65536 cn).length cc, .int .i64 ce] := ((z_i.set 0 (.bool cs)).set 1 (.slice co (Dg.dg 65536 cn).length cc)).set 2 (.int .i64 ce); have bX := bu.below b_i (show w.heap.size ≤ w.heap.size + 1 + 1 by omega); have rX := bu.rd r_i (rd_offE r_i (Dg.norm_dg _ _ (by omega)) z_i z3_zero); have s0 := cX.cell 0 rfl; have s1 := cX.cell 1 rfl; have s2 := cX.cell 2 rfl; refine bodyPost_ret (v := .tuple #[.agg #[.bool cs, .slice co (Dg.dg 65536 cn).length cc, .int .i64 ce], .bool ic]) (by simp [results, Tryd.results29, go_sem, s0, s1, s2]) rfl ?_; exact ⟨_, rfl, rX, hF.out, bX⟩)
            | (refine bodyPost_ret (v := .tuple #[.agg #[.bool cs, .slice co (Dg.dg 65536 cn).length cc, .int .i64 ce], .bool ic]) (by simp [results, Tryd.results29, go_sem, di0, di1, di2]) rfl ?_; exact ⟨_, rfl, r_i, hF.out, b_i⟩))
        · replace R2 : Hid _ := R2.out rfl
          replace R3 : Hid _ := R3.out rfl
          replace R4 : Hid _ := R4.out rfl
          replace HC : Hid _ := HC.out rfl
          replace HP2 : Hid _ := HP2.out rfl
          replace HI2 : Hid _ := HI2.out rfl
          clear R0 R1
          have qold := q_41
          have yy0 := qold.cell 0 rfl
          have yy1 := qold.cell 1 rfl
          have yy2 := qold.cell 2 rfl
          have rone : Rd (wc.alloc (.cells #[.int .i64 1] 3)) .i64 (.slice (some ⟨wc.heap.size, 0, none⟩) 1 1) [1] := rd_new (w := wc) (k := .i64) (e := 3) [1] #[.int .i64 1] rfl (by unfold maxLen; simp)
          have bone := below_alloc wc (.cells #[.int .i64 1] 3)
          have q_161 := q_41.later bone
          have g_161 := g_41.later bone
          have z_161 := z_41.later bone
          have b0_161 := below_trans b0_41 bone
          clear q_41 g_41 z_41 b0_41 bone
          go_wp2_with fail
          refine (HP2.out _ _ _ b0_161 rone).mono ?_
          rintro z wp ⟨vp, rfl, rp, fp, bbp⟩
          obtain ⟨fo, fc, hvp⟩ := rp.shape
          subst hvp
          simp only at rp fp ⊢
          clear rone qold yy0 yy1 yy2
          have hF : Hid (Far w.heap.size (.slice fo (Dg.dg 65536 fn).length fc)) := fp.mono b0_161.size
          clear fp
          have q_162 := q_161.later bbp
          have g_162 := g_161.later bbp
          have z_162 := z_161.later bbp
          have b0_162 := below_trans b0_161 bbp
          clear q_161 g_161 z_161 b0_161 bbp
          have apc := below_alloc wp (.cells #[.bool fs, .slice fo (Dg.dg 65536 fn).length fc, .int .i64 fe] 46)
          have lpc := locE_new wp [.bool fs, .slice fo (Dg.dg 65536 fn).length fc, .int .i64 fe] 46
          have hP : w.heap.size + 1 + 1 < wp.heap.size := z_162.lt
          have q_163 := q_162.later apc
          have g_163 := g_162.later apc
          have z_163 := z_162.later apc
          have p_163 := rp.later apc
          have b0_163 := below_trans b0_162 apc
          clear q_162 g_162 z_162 rp b0_162 apc
          go_upto_region 13 with fail
          generalize wp.alloc (.cells #[.bool fs, .slice fo (Dg.dg 65536 fn).length fc, .int .i64 fe] 46) = W5 at q_163 g_163 z_163 p_163 lpc b0_163 ⊢
          generalize wp.heap.size = PF at lpc hP ⊢
          have x0 := g_163.cell 0 rfl
          have x1 := g_163.cell 1 rfl
          have x2 := g_163.cell 2 rfl
          have x3 := g_163.cell 3 rfl
          have x4 := g_163.cell 4 rfl
          have y0 := lpc.cell 0 rfl
          have y1 := lpc.cell 1 rfl
          have y2 := lpc.cell 2 rfl
          go_wp2_with fail
          refine (HI2.out _ _ _ p_163).mono ?_
          rintro z wi ⟨rfl, bbi⟩
          clear x0 x1 x2 x3 x4 y0 y1 y2 HI2
          have q_164 := q_163.later bbi
          have g_164 := g_163.later bbi
          have z_164 := z_163.later bbi
          have p_164 := p_163.later bbi
          have c_164 := lpc.later bbi
          have b0_164 := below_trans b0_163 bbi
          clear q_163 g_163 z_163 p_163 lpc b0_163 bbi
          cases fi
          · replace R3 : Hid _ := R3.out rfl
            replace R4 : Hid _ := R4.out rfl
            clear R2 HC HP2 hF p_164
            have p0 := c_164.cell 0 rfl
            have o0 := c_164.free 0
            have p1 := c_164.cell 1 rfl
            have o1 := c_164.free 1
            have p2 := c_164.cell 2 rfl
            have o2 := c_164.free 2
            have qold := q_164
            have yy0 := qold.cell 0 rfl
            have yy1 := qold.cell 1 rfl
            have yy2 := qold.cell 2 rfl
            have rone : Rd (wi.alloc (.cells #[.int .i64 1] 3)) .i64 (.slice (some ⟨wi.heap.size, 0, none⟩) 1 1) [1] := rd_new (w := wi) (k := .i64) (e := 3) [1] #[.int .i64 1] rfl (by unfold maxLen; simp)
            have bone := below_alloc wi (.cells #[.int .i64 1] 3)
            have q_201 := q_164.later bone
            have g_201 := g_164.later bone
            have z_201 := z_164.later bone
            have c_201 := c_164.later bone
            have b0_201 := below_trans b0_164 bone
            clear q_164 g_164 z_164 c_164 b0_164 bone
            go_wp2_with fail
            refine (HP1.out _ _ _ b0_201 rone).mono ?_
            rintro z wp ⟨vp, rfl, rp, fp, bbp⟩
            obtain ⟨co, cc, hvp⟩ := rp.shape
            subst hvp
            simp only at rp fp ⊢
            clear rone qold yy0 yy1 yy2
            have hF : Hid (Far w.heap.size (.slice co (Dg.dg 65536 cn).length cc)) := fp.mono b0_201.size
            have hlt := c_201.lt
            have q_202 := q_201.later bbp
            have g_202 := g_201.later bbp
            have z_202 := z_201.later bbp
            have c_202 := c_201.later bbp
            have b0_202 := below_trans b0_201 bbp
            clear q_201 g_201 z_201 c_201 b0_201 bbp
            have u0 := c_202.cell 0 rfl
            have v0 := c_202.free 0
            have u1 := c_202.cell 1 rfl
            have v1 := c_202.free 1
            have u2 := c_202.cell 2 rfl
            have v2 := c_202.free 2
            go_upto_region 16 with fail
            have bu := ((but_set wp PF 0 (.bool cs)).trans (but_set _ PF 1 (.slice co (Dg.dg 65536 cn).length cc))).trans (but_set _ PF 2 (.int .i64 ce))
            have q6 := bu.loc q_202 (by omega)
            have g6 := bu.loc g_202 (by omega)
            have z6 := bu.loc z_202 (by omega)
            have c6 : LocE (((wp.setCell ⟨PF, 0, none⟩ (.bool cs)).setCell ⟨PF, 1, none⟩ (.slice co (Dg.dg 65536 cn).length cc)).setCell ⟨PF, 2, none⟩ (.int .i64 ce)) PF 46 [.bool cs, .slice co (Dg.dg 65536 cn).length cc, .int .i64 ce] := ((c_202.set 0 (.bool cs)).set 1 (.slice co (Dg.dg 65536 cn).length cc)).set 2 (.int .i64 ce)
            have r6 := bu.rd rp (far_off fp hlt)
            have b6 := bu.below b0_202 (by omega)
            generalize (((wp.setCell ⟨PF, 0, none⟩ (.bool cs)).setCell ⟨PF, 1, none⟩ (.slice co (Dg.dg 65536 cn).length cc)).setCell ⟨PF, 2, none⟩ (.int .i64 ce)) = W6 at q6 g6 z6 c6 r6 b6 ⊢
            clear q_202 g_202 z_202 c_202 rp b0_202 bu fp hlt p0 p1 p2 o0 o1 o2 u0 u1 u2 v0 v1 v2
            have x0 := g6.cell 0 rfl
            have x1 := g6.cell 1 rfl
            have x2 := g6.cell 2 rfl
            have x3 := g6.cell 3 rfl
            have x4 := g6.cell 4 rfl
            have y0 := c6.cell 0 rfl
            have y1 := c6.cell 1 rfl
            have y2 := c6.cell 2 rfl
            go_wp2_with fail
            refine (HI1.out _ _ _ r6).mono ?_
            rintro z wj ⟨rfl, bbj⟩
            clear x0 x1 x2 x3 x4 y0 y1 y2 HI1 HP1
            have q_203 := q6.later bbj
            have g_203 := g6.later bbj
            have z_203 := z6.later bbj
            have c_203 := c6.later bbj
            have p_203 := r6.later bbj
            have b0_203 := below_trans b6 bbj
            clear q6 g6 z6 c6 r6 b6 bbj
            cases ic
            · obtain ⟨h1, h2, h3, h4⟩ := R4.out rfl
              subst h1 h2 h3 h4
              have d0 := z_203.cell 0 rfl
              have f0 := z_203.free 0
              have d1 := z_203.cell 1 rfl
              have f1 := z_203.free 1
              have d2 := z_203.cell 2 rfl
              have f2 := z_203.free 2
              go_wp2
              have bu : But (w.heap.size + 1 + 1) wj (((wj.setCell ⟨w.heap.size + 1 + 1, 0, none⟩ (.bool false)).setCell ⟨w.heap.size + 1 + 1, 1, none⟩ (.slice none 0 0)).setCell ⟨w.heap.size + 1 + 1, 2, none⟩ (.int .i64 0)) := ((but_set wj (w.heap.size + 1 + 1) 0 (.bool false)).trans (but_set _ (w.heap.size + 1 + 1) 1 (.slice none 0 0))).trans (but_set _ (w.heap.size + 1 + 1) 2 (.int .i64 0))
              have cX : LocE (((wj.setCell ⟨w.heap.size + 1 + 1, 0, none⟩ (.bool false)).setCell ⟨w.heap.size + 1 + 1, 1, none⟩ (.slice none 0 0)).setCell ⟨w.heap.size + 1 + 1, 2, none⟩ (.int .i64 0)) (w.heap.size + 1 + 1) 46 [.bool false, .slice none 0 0, .int .i64 0] := ((z_203.set 0 (.bool false)).set 1 (.slice none 0 0)).set 2 (.int .i64 0)
              have bX := bu.below b0_203 (show w.heap.size ≤ w.heap.size + 1 + 1 by omega)
              have s0 := cX.cell 0 rfl
              have s1 := cX.cell 1 rfl
              have s2 := cX.cell 2 rfl
              refine bodyPost_ret (v := .tuple #[.agg #[.bool false, .slice none 0 0, .int .i64 0], .bool true]) (by simp [results, Tryd.results29, go_sem, s0, s1, s2]) rfl ?_
              exact ⟨_, rfl, rd_nil _ _, (fun a n c hv => by cases hv), bX⟩
            · obtain ⟨h1, h2, h3, h4⟩ := R3.out rfl
              subst h1 h2 h3 h4
              have y0 := c_203.cell 0 rfl
              have y1 := c_203.cell 1 rfl
              have y2 := c_203.cell 2 rfl
              have d0 := z_203.cell 0 rfl
              have f0 := z_203.free 0
              have d1 := z_203.cell 1 rfl
              have f1 := z_203.free 1
              have d2 := z_203.cell 2 rfl
              have f2 := z_203.free 2
              go_wp2
              have bu : But (w.heap.size + 1 + 1) wj (((wj.setCell ⟨w.heap.size + 1 + 1, 0, none⟩ (.bool cs)).setCell ⟨w.heap.size + 1 + 1, 1, none⟩ (.slice co (Dg.dg 65536 cn).length cc)).setCell ⟨w.heap.size + 1 + 1, 2, none⟩ (.int .i64 ce)) := ((but_set wj (w.heap.size + 1 + 1) 0 (.bool cs)).trans (but_set _ (w.heap.size + 1 + 1) 1 (.slice co (Dg.dg 65536 cn).length cc))).trans (but_set _ (w.heap.size + 1 + 1) 2 (.int .i64 ce))
              have cX : LocE (((wj.setCell ⟨w.heap.size + 1 + 1, 0, none⟩ (.bool cs)).setCell ⟨w.heap.size + 1 + 1, 1, none⟩ (.slice co (Dg.dg 65536 cn).length cc)).setCell ⟨w.heap.size + 1 + 1, 2, none⟩ (.int .i64 ce)) (w.heap.size + 1 + 1) 46 [.bool cs, .slice co (Dg.dg 65536 cn).length cc, .int .i64 ce] := ((z_203.set 0 (.bool cs)).set 1 (.slice co (Dg.dg 65536 cn).length cc)).set 2 (.int .i64 ce)
              have bX := bu.below b0_203 (show w.heap.size ≤ w.heap.size + 1 + 1 by omega)
              have rX := bu.rd p_203 (rd_offE p_203 (Dg.norm_dg _ _ (by omega)) z_203 z3_zero)
              have s0 := cX.cell 0 rfl
              have s1 := cX.cell 1 rfl
              have s2 := cX.cell 2 rfl
              refine bodyPost_ret (v := .tuple #[.agg #[.bool cs, .slice co (Dg.dg 65536 cn).length cc, .int .i64 ce], .bool true]) (by simp [results, Tryd.results29, go_sem, s0, s1, s2]) rfl ?_
              exact ⟨_, rfl, rX, hF.out, bX⟩
          · obtain ⟨h1, h2, h3, h4⟩ := R2.out rfl
            subst h1 h2 h3 h4
            clear R2 R3 R4 HP1 HP2 HI1
            have x0 := q_164.cell 0 rfl
            have x1 := q_164.cell 1 rfl
            have x2 := q_164.cell 2 rfl
            have y0 := c_164.cell 0 rfl
            have y1 := c_164.cell 1 rfl
            have y2 := c_164.cell 2 rfl
            go_wp2_with fail
            refine (HC.out _ _ _ b0_164 p_164).mono ?_
            rintro z wj ⟨rfl, bbj⟩
            clear x0 x1 x2 y0 y1 y2 HC
            have q_261 := q_164.later bbj
            have g_261 := g_164.later bbj
            have z_261 := z_164.later bbj
            have p_261 := p_164.later bbj
            have c_261 := c_164.later bbj
            have b0_261 := below_trans b0_164 bbj
            clear q_164 g_164 z_164 p_164 c_164 b0_164 bbj
            have y0 := c_261.cell 0 rfl
            have y1 := c_261.cell 1 rfl
            have y2 := c_261.cell 2 rfl
            have d0 := z_261.cell 0 rfl
            have f0 := z_261.free 0
            have d1 := z_261.cell 1 rfl
            have f1 := z_261.free 1
            have d2 := z_261.cell 2 rfl
            have f2 := z_261.free 2
            go_wp2
            have bu : But (w.heap.size + 1 + 1) wj (((wj.setCell ⟨w.heap.size + 1 + 1, 0, none⟩ (.bool fs)).setCell ⟨w.heap.size + 1 + 1, 1, none⟩ (.slice fo (Dg.dg 65536 fn).length fc)).setCell ⟨w.heap.size + 1 + 1, 2, none⟩ (.int .i64 fe)) := ((but_set wj (w.heap.size + 1 + 1) 0 (.bool fs)).trans (but_set _ (w.heap.size + 1 + 1) 1 (.slice fo (Dg.dg 65536 fn).length fc))).trans (but_set _ (w.heap.size + 1 + 1) 2 (.int .i64 fe))
            have cX : LocE (((wj.setCell ⟨w.heap.size + 1 + 1, 0, none⟩ (.bool fs)).setCell ⟨w.heap.size + 1 + 1, 1, none⟩ (.slice fo (Dg.dg 65536 fn).length fc)).setCell ⟨w.heap.size + 1 + 1, 2, none⟩ (.int .i64 fe)) (w.heap.size + 1 + 1) 46 [.bool fs, .slice fo (Dg.dg 65536 fn).length fc, .int .i64 fe] := ((z_261.set 0 (.bool fs)).set 1 (.slice fo (Dg.dg 65536 fn).length fc)).set 2 (.int .i64 fe)
            have bX := bu.below b0_261 (show w.heap.size ≤ w.heap.size + 1 + 1 by omega)
            have rX := bu.rd p_261 (rd_offE p_261 (Dg.norm_dg _ _ (by omega)) z_261 z3_zero)
            have s0 := cX.cell 0 rfl
            have s1 := cX.cell 1 rfl
            have s2 := cX.cell 2 rfl
            refine bodyPost_ret (v := .tuple #[.agg #[.bool fs, .slice fo (Dg.dg 65536 fn).length fc, .int .i64 fe], .bool true]) (by simp [results, Tryd.results29, go_sem, s0, s1, s2]) rfl ?_
            exact ⟨_, rfl, rX, hF.out, bX⟩
end Go.Proofs.YtmjhlflemfkflaaDoor

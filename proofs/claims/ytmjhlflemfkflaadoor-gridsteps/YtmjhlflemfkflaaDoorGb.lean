/-
  Texts laid together: Gk6, Gb1, Gb2, Gb3.
-/
import Derived.Test.YtmjhlflemfkflaaDoorGj
import Derived.Test.YtmjhlflemfkflaaDoorGt
/-
  Grids: spots are held.
-/
namespace Go.Proofs.YtmjhlflemfkflaaDoor
open Go.RowKit

theorem held_bare {R D L G : Int} (gr : Bool) (t : Trip) (hLG : L ≤ G) : heldB R D L G gr (bare t).n (bare t).e = heldB R D L G gr t.n t.e := by
  rw [← held_in gr t hLG, ← held_in gr (bare t) hLG, bare_bare]

theorem spot_held {R D L G : Int} {gr s : Bool} {d : Nat} {p : Int} (hg : gridC R D L G = 0) (h : InSpot R D L G gr d p) : heldB R D L G gr (bare ⟨s, d, (widthN R : Int) * p⟩).n (bare ⟨s, d, (widthN R : Int) * p⟩).e = true := by
  obtain ⟨-, d1, -, -, -, -, -, lg, -⟩ := gridC_zero hg
  rw [held_bare gr _ lg]
  rcases h with ⟨rfl, rfl⟩ | ⟨h0, h1, h2, h3, h4⟩
  · exact held_zero R D L G gr _
  · rw [held_spot d1 h3 h1 h4 h0]
    exact decide_eq_true h2

theorem spot_dchk {R D L G : Int} {gr s : Bool} {d : Nat} {p : Int} (hg : gridC R D L G = 0) (h : InSpot R D L G gr d p) : dchk (Dg.dg 4294967296 (bare ⟨s, d, (widthN R : Int) * p⟩).n) (bare ⟨s, d, (widthN R : Int) * p⟩).e = 0 := by
  obtain ⟨l, p1, p2, w1, w2, tzl⟩ := spot_fits hg h
  refine dchk_of ?_ ?_ ?_
  · exact Nat.le_trans (dg_len_mono _ _ d (by omega) (bare_n_le _)) (by omega)
  · by_cases h0 : d = 0
    · simp [bare, h0]
    · have := (bare_e_ge (t := ⟨s, d, (widthN R : Int) * p⟩) h0).2
      simp only at this
      omega
  · by_cases h0 : d = 0
    · simp [bare, h0]
    · have := (bare_e_ge (t := ⟨s, d, (widthN R : Int) * p⟩) h0).2
      simp only at this
      omega
end Go.Proofs.YtmjhlflemfkflaaDoor
/-
  Grids: the mathematics of GridBetween: a step from a spot.
-/
namespace Go.Proofs.YtmjhlflemfkflaaDoor
open Go.RowKit

/-- A spot's number, found again. -/
theorem found_bare {R D L G : Int} {gr s : Bool} {d : Nat} {p : Int} (h1 : 1 ≤ D) (h0 : d ≠ 0) (hp : L ≤ p) (hG : p ≤ G) (hd : d < 2 ^ (widthN R * D.toNat)) (hf : 2 ^ (widthN R * (D - 1).toNat) ≤ d ∨ (gr = true ∧ p = L)) :
    fD R D L G gr (bare ⟨s, d, (widthN R : Int) * p⟩).n (bare ⟨s, d, (widthN R : Int) * p⟩).e = d ∧ fK R D L G gr (bare ⟨s, d, (widthN R : Int) * p⟩).n (bare ⟨s, d, (widthN R : Int) * p⟩).e = p := by
  have hb := bare_top (t := ⟨s, d, (widthN R : Int) * p⟩) h0
  simp only at hb
  obtain ⟨b0, b1, b2⟩ := hb
  have hLG : L ≤ G := by omega
  have hh : heldB R D L G gr (bare ⟨s, d, (widthN R : Int) * p⟩).n (bare ⟨s, d, (widthN R : Int) * p⟩).e = true := by
    rw [held_bare gr _ hLG, held_spot h1 hd hp hf h0]
    exact decide_eq_true hG
  have hs : spotK R D L gr (bare ⟨s, d, (widthN R : Int) * p⟩).n (bare ⟨s, d, (widthN R : Int) * p⟩).e = p := by
    have e1 : spotK R D L gr (bare ⟨s, d, (widthN R : Int) * p⟩).n (bare ⟨s, d, (widthN R : Int) * p⟩).e = spotK R D L gr d ((widthN R : Int) * p) := by
      unfold spotK
      rw [show (bitLen (bare ⟨s, d, (widthN R : Int) * p⟩).n : Int) - 1 + (bare ⟨s, d, (widthN R : Int) * p⟩).e = (bitLen d : Int) - 1 + (widthN R : Int) * p by omega]
    exact e1.trans (spot_is h1 hd hp hf)
  refine ⟨?_, (if_neg b0).trans ((if_pos hh).trans hs)⟩
  rw [show fD R D L G gr (bare ⟨s, d, (widthN R : Int) * p⟩).n (bare ⟨s, d, (widthN R : Int) * p⟩).e = findD R D L gr (bare ⟨s, d, (widthN R : Int) * p⟩).n (bare ⟨s, d, (widthN R : Int) * p⟩).e from (if_neg b0).trans (if_pos hh)]
  unfold findD
  rw [hs, b1, show (widthN R : Int) * p + (tz d : Int) - (widthN R : Int) * p = (tz d : Int) by omega]
  unfold shN
  rw [if_neg (by omega), Int.toNat_natCast]
  obtain ⟨m, hm⟩ := tz_spec h0
  have e4 : (bare ⟨s, d, (widthN R : Int) * p⟩).n = 2 * m + 1 := by
    unfold bare
    rw [if_neg h0]
    exact div_tz hm
  rw [e4, Nat.mul_comm]
  exact hm.symm

theorem far_next {R D L : Int} {gr : Bool} {d : Nat} {p : Int} (h : d ≠ 0 ∨ gr = true) : farD R D gr d = carD R D (d + 1) ∧ farK R D L gr d p = carP R D (d + 1) p := by
  have hn : ¬(d = 0 ∧ gr = false) := fun c => by
    rcases h with h | h
    · exact h c.1
    · rw [c.2] at h
      cases h
  exact ⟨if_neg hn, if_neg hn⟩

theorem near_prev {R D L : Int} {gr : Bool} {d : Nat} {p : Int} (h1 : 1 ≤ D) (hp : L ≤ p) (hf : 2 ^ (widthN R * (D - 1).toNat) ≤ d ∨ (gr = true ∧ p = L)) :
    nearD R D L gr (carD R D (d + 1)) (carP R D (d + 1) p) = d ∧ nearK R D L (carD R D (d + 1)) (carP R D (d + 1) p) = p := by
  have hpw : 2 ^ (widthN R * (D - 1).toNat) < 2 ^ (widthN R * D.toNat) := by
    refine Nat.pow_lt_pow_right (by omega) ?_
    exact Nat.mul_lt_mul_of_pos_left (by omega) (by have := widthN_le R; omega)
  unfold carD carP nearD nearK
  by_cases hq : d + 1 = 2 ^ (widthN R * D.toNat)
  · have hlt : L < p + 1 := by omega
    rw [if_pos hq, if_pos hq, if_pos rfl, if_pos rfl, if_pos hlt, if_pos hlt]
    omega
  · rw [if_neg hq, if_neg hq]
    by_cases hfi : d + 1 = 2 ^ (widthN R * (D - 1).toNat)
    · rcases hf with hf | ⟨hg, rfl⟩
      · omega
      · rw [if_pos hfi, if_pos hfi, if_neg (Int.lt_irrefl p), if_neg (Int.lt_irrefl p), if_pos hg]
        omega
    · rw [if_neg hfi, if_neg hfi]
      omega
end Go.Proofs.YtmjhlflemfkflaaDoor
/-
  Grids: the mathematics of GridBetween.
-/
namespace Go.Proofs.YtmjhlflemfkflaaDoor
open Go.RowKit

/-- A carry changes no number. -/
theorem car_bare (R D : Int) (s : Bool) (d : Nat) (p : Int) (h1 : 1 ≤ D) : bare ⟨s, carD R D d, (widthN R : Int) * carP R D d p⟩ = bare ⟨s, d, (widthN R : Int) * p⟩ := by
  unfold carD carP
  by_cases h : d = 2 ^ (widthN R * D.toNat)
  · rw [if_pos h, if_pos h]
    have hc := Int.natCast_mul (widthN R) D.toNat
    have hc1 := Int.natCast_mul (widthN R) (D - 1).toNat
    rw [Int.toNat_of_nonneg (by omega)] at hc hc1
    have e1 : (widthN R : Int) * (p + 1) + ((widthN R * (D - 1).toNat : Nat) : Int) = (widthN R : Int) * p + ((widthN R * D.toNat : Nat) : Int) := by
      rw [hc, hc1, Int.mul_add, Int.mul_sub]
      omega
    refine bare_of_V (K := (max (-((widthN R : Int) * p)) (max (-((widthN R : Int) * (p + 1))) 0)).toNat) (by simp only; omega) (by simp only; omega) ?_
    rw [V_nat, V_nat]
    simp only
    rw [h, ← Nat.pow_add, ← Nat.pow_add]
    congr 2
    omega
  · rw [if_neg h, if_neg h]

theorem bare_nil (s : Bool) (e f : Int) : bare ⟨s, 0, e⟩ = bare ⟨s, 0, f⟩ := by simp [bare]

/-- What is rounded, by its digits. -/
theorem rnd_is {xs ys : List Nat} {E R D L G : Int} {gr qs : Bool} {way : Int} (hC : roundC xs ys E R D L G way = 0) (sa : Dg.Small 4294967296 xs) (sb : Dg.Small 4294967296 ys) (hl : ¬xs.length = 0) :
    (rndBad xs ys E R D L G gr qs way = false ↔ ¬G < carP R D (digP R D L gr qs (Dg.vl 4294967296 xs) (Dg.vl 4294967296 ys) E way) (cutP R D L gr (Dg.vl 4294967296 xs) (Dg.vl 4294967296 ys) E) ∧ (¬powerR R D (topQ (Dg.vl 4294967296 xs) (Dg.vl 4294967296 ys) E) < L ∨ gr = true)) ∧
    (rndBad xs ys E R D L G gr qs way = false → rndT xs ys E R D L G gr qs way = bare ⟨qs, digP R D L gr qs (Dg.vl 4294967296 xs) (Dg.vl 4294967296 ys) E way, (widthN R : Int) * cutP R D L gr (Dg.vl 4294967296 xs) (Dg.vl 4294967296 ys) E⟩) ∧
    (roundP xs ys E R D L G gr qs way).ex = decide (leftP R D L gr (Dg.vl 4294967296 xs) (Dg.vl 4294967296 ys) E = 0) := by
  obtain ⟨c1, c2, c3⟩ := roundC_all hC
  obtain ⟨-, d1, -, -, -, -, -, lg, -⟩ := gridC_zero c2
  obtain ⟨a1, a2, hm, -, -⟩ := ratioC_zero c1
  have hN := gvl_ne sa a1 hl
  have hM := gvl_ne sb a2 (by omega)
  have hP : roundP xs ys E R D L G gr qs way = roundT R D L G gr qs (Dg.vl 4294967296 xs) (Dg.vl 4294967296 ys) E way := (if_pos hC).trans (if_neg hl)
  rw [roundT_flat gr qs _ _ E way d1 lg hN hM] at hP
  obtain ⟨N, hNN⟩ : ∃ N, Dg.vl 4294967296 xs = N := ⟨_, rfl⟩
  obtain ⟨M, hMM⟩ : ∃ M, Dg.vl 4294967296 ys = M := ⟨_, rfl⟩
  rw [hNN, hMM] at hP ⊢
  refine ⟨?_, ?_, by rw [hP]⟩
  · unfold rndBad
    rw [hP, hC]
    by_cases h1 : G < carP R D (digP R D L gr qs N M E way) (cutP R D L gr N M E)
    · simp [h1]
    · by_cases h2 : powerR R D (topQ N M E) < L
      · cases gr <;> simp [h1, h2]
      · simp [h1, h2]
  · intro hb
    unfold rndT
    rw [if_neg (by rw [hb]; decide), hP]
    simp only
    by_cases hz : carD R D (digP R D L gr qs N M E way) = 0
    · rw [if_pos hz, ← car_bare R D qs (digP R D L gr qs N M E way) _ d1, hz]
      exact bare_nil _ _ _
    · rw [if_neg hz]
      exact car_bare R D qs _ _ d1

theorem dig_two (R D L : Int) (gr qs : Bool) (N M : Nat) (E way : Int) : digP R D L gr qs N M E way = wholeP R D L gr N M E ∨ digP R D L gr qs N M E way = wholeP R D L gr N M E + 1 := by
  unfold digP
  split
  · exact .inr rfl
  · exact .inl rfl

theorem dig_none {R D L : Int} {gr qs : Bool} {N M : Nat} {E way : Int} (h : leftP R D L gr N M E = 0) : digP R D L gr qs N M E way = wholeP R D L gr N M E := by
  unfold digP
  rw [if_neg]
  rintro ⟨c, -⟩
  exact of_decide_eq_false c h

theorem dig_down {R D L : Int} {gr qs : Bool} {N M : Nat} {E : Int} (h : ¬leftP R D L gr N M E = 0) : digP R D L gr qs N M E 5 = if qs = true then wholeP R D L gr N M E + 1 else wholeP R D L gr N M E := by
  have hg : goesP R D L gr qs N M E 5 = qs := by
    unfold goesP awayB
    simp
  unfold digP
  rw [hg, decide_eq_false h]
  simp

theorem dig_up {R D L : Int} {gr qs : Bool} {N M : Nat} {E : Int} (h : ¬leftP R D L gr N M E = 0) : digP R D L gr qs N M E 4 = if qs = true then wholeP R D L gr N M E else wholeP R D L gr N M E + 1 := by
  have hg : goesP R D L gr qs N M E 4 = !qs := by
    unfold goesP awayB
    simp
  unfold digP
  rw [hg, decide_eq_false h]
  cases qs <;> simp

/-- Two neighbours are not the same number. -/
theorem next_ne (s : Bool) (d : Nat) (k : Int) : bare ⟨s, d, k⟩ ≠ bare ⟨s, d + 1, k⟩ := fun h => by
  have hV : V (max (-k) 0).toNat (bare ⟨s, d, k⟩) = V (max (-k) 0).toNat (bare ⟨s, d + 1, k⟩) := by rw [h]
  rw [V_bare (by simp only; omega), V_bare (by simp only; omega), V_nat, V_nat] at hV
  simp only at hV
  have := sz_inj hV.symm (Nat.ne_of_gt (Nat.mul_pos (by omega) (two_pos _)))
  have h2 := Nat.eq_of_mul_eq_mul_right (two_pos _) this.2
  omega
end Go.Proofs.YtmjhlflemfkflaaDoor
/-
  Grids: the mathematics of GridBetween: the step from what is rounded down to what is rounded up.
-/
namespace Go.Proofs.YtmjhlflemfkflaaDoor
open Go.RowKit

theorem spot_shortT {R D L G : Int} {gr : Bool} (s : Bool) {d : Nat} {p : Int} (hg : gridC R D L G = 0) (h : InSpot R D L G gr d p) : shortT ⟨s, d, (widthN R : Int) * p⟩ = (bare ⟨s, d, (widthN R : Int) * p⟩, 0) := by
  have := spot_short (s := s) hg h
  unfold dbothR at this
  by_cases hp : placeC (Dg.dg 4294967296 d) p R D L G = 0
  · rw [if_pos hp, Dg.vl_dg _ _ (by omega)] at this
    exact this
  · rw [if_neg hp] at this
    simp only [Prod.mk.injEq] at this
    exact absurd this.2 hp

theorem stepR_at {R D L G : Int} {gr up : Bool} {t : Trip} {d : Nat} {k : Int} (hg : gridC R D L G = 0) (h1 : dchk (Dg.dg 4294967296 t.n) t.e = 0) (h2 : heldB R D L G gr t.n t.e = true) (hd : stepD R D L G gr t.s up (Dg.dg 4294967296 t.n).length t.n t.e = d) (hk : stepK R D L G gr t.s up (Dg.dg 4294967296 t.n).length t.n t.e = k) (hG : ¬G < k) :
    stepR R D L G gr t.s up (Dg.dg 4294967296 t.n) t.e = shortT ⟨stepN t.s up (Dg.dg 4294967296 t.n).length, d, (widthN R : Int) * k⟩ := by
  unfold stepR
  rw [Dg.vl_dg _ _ (by omega), if_pos (show onC (dchk (Dg.dg 4294967296 t.n) t.e) (gridC R D L G) = 0 from (if_pos h1).trans hg), if_pos h2, hk, hd, if_neg hG]

theorem dg_len_zero {n : Nat} : (Dg.dg 4294967296 n).length = 0 ↔ n = 0 := by
  rw [List.length_eq_zero_iff, Dg.dg_nil_iff _ _ (by omega)]

theorem next_spot {R D L G : Int} {gr : Bool} {d : Nat} {k : Int} (h1 : 1 ≤ D) (hk : L ≤ k) (hc : carP R D (d + 1) k ≤ G) (hd : d < 2 ^ (widthN R * D.toNat)) (hf : 2 ^ (widthN R * (D - 1).toNat) ≤ d ∨ (gr = true ∧ k = L)) :
    carD R D (d + 1) ≠ 0 ∧ L ≤ carP R D (d + 1) k ∧ carP R D (d + 1) k ≤ G ∧ carD R D (d + 1) < 2 ^ (widthN R * D.toNat) ∧ (2 ^ (widthN R * (D - 1).toNat) ≤ carD R D (d + 1) ∨ (gr = true ∧ carP R D (d + 1) k = L)) := by
  have hpw : 2 ^ (widthN R * (D - 1).toNat) < 2 ^ (widthN R * D.toNat) := by
    refine Nat.pow_lt_pow_right (by omega) ?_
    exact Nat.mul_lt_mul_of_pos_left (by omega) (by have := widthN_le R; omega)
  have hp0 := two_pos (widthN R * (D - 1).toNat)
  unfold carD carP at *
  by_cases hq : d + 1 = 2 ^ (widthN R * D.toNat)
  · rw [if_pos hq] at hc ⊢
    rw [if_pos hq]
    exact ⟨by omega, by omega, hc, hpw, .inl (Nat.le_refl _)⟩
  · rw [if_neg hq] at hc ⊢
    rw [if_neg hq]
    refine ⟨by omega, hk, hc, by omega, ?_⟩
    rcases hf with hf | hf
    · exact .inl (by omega)
    · exact .inr hf

theorem carP_ge (R D : Int) (d : Nat) (k : Int) : k ≤ carP R D d k := by
  unfold carP
  split <;> omega

/-- Up from a number that is not below 0. -/
theorem step_pos {R D L G : Int} {gr : Bool} {d : Nat} {k : Int} (hg : gridC R D L G = 0) (hk : L ≤ k) (hc : carP R D (d + 1) k ≤ G) (hd : d < 2 ^ (widthN R * D.toNat)) (hf : 2 ^ (widthN R * (D - 1).toNat) ≤ d ∨ (gr = true ∧ k = L)) :
    stepR R D L G gr (bare ⟨false, d, (widthN R : Int) * k⟩).s true (Dg.dg 4294967296 (bare ⟨false, d, (widthN R : Int) * k⟩).n) (bare ⟨false, d, (widthN R : Int) * k⟩).e = (bare ⟨false, d + 1, (widthN R : Int) * k⟩, 0) := by
  obtain ⟨-, d1, -, -, -, -, -, lg, -⟩ := gridC_zero hg
  have hge := carP_ge R D (d + 1) k
  obtain ⟨n1, n2, n3, n4, n5⟩ := next_spot d1 hk hc hd hf
  have hin : InSpot R D L G gr d k ∨ d = 0 := by
    by_cases h0 : d = 0
    · exact .inr h0
    · exact .inl (.inr ⟨h0, hk, by omega, hd, hf⟩)
  have hfirst := two_pos (widthN R * (D - 1).toNat)
  have hS := spot_shortT false hg (.inr ⟨n1, n2, n3, n4, n5⟩ : InSpot R D L G gr (carD R D (d + 1)) (carP R D (d + 1) k))
  rw [car_bare R D false (d + 1) k d1] at hS
  have hs0 : (bare ⟨false, d, (widthN R : Int) * k⟩).s = false := by
    unfold bare
    split <;> rfl
  have hsn : ∀ l, stepN false true l = false := fun l => by
    unfold stepN
    split <;> rfl
  by_cases h0 : d = 0
  · subst h0
    have hgr : gr = true ∧ k = L := by
      rcases hf with hf | hf
      · omega
      · exact hf
    have hz : bare ⟨false, 0, (widthN R : Int) * k⟩ = ⟨false, 0, 0⟩ := by simp [bare]
    rw [hz]
    obtain ⟨q1, q2⟩ := far_next (R := R) (D := D) (L := L) (gr := gr) (d := 0) (p := L) (.inr hgr.1)
    have := stepR_at (R := R) (D := D) (L := L) (G := G) (gr := gr) (up := true) (t := ⟨false, 0, 0⟩) (d := carD R D (0 + 1)) (k := carP R D (0 + 1) k) hg (dchk_of (n := 0) (e := 0) (Nat.zero_le _) (by omega) (by omega)) (held_zero R D L G gr 0) ?_ ?_ (by omega)
    · simp only at this
      rw [this, hsn]
      exact hS
    · unfold stepD
      rw [hsn, if_neg (by decide), show fD R D L G gr 0 0 = 0 from if_pos rfl]
      exact q1
    · unfold stepK
      rw [hsn, if_neg (by decide), show fD R D L G gr 0 0 = 0 from if_pos rfl, show fK R D L G gr 0 0 = L from if_pos rfl, hgr.2]
      exact q2
  · have hi : InSpot R D L G gr d k := hin.resolve_right h0
    obtain ⟨f1, f2⟩ := found_bare (G := G) (s := false) d1 h0 hk (by omega) hd hf
    obtain ⟨q1, q2⟩ := far_next (R := R) (D := D) (L := L) (gr := gr) (d := d) (p := k) (.inl h0)
    have := stepR_at (R := R) (D := D) (L := L) (G := G) (gr := gr) (up := true) (t := bare ⟨false, d, (widthN R : Int) * k⟩) (d := carD R D (d + 1)) (k := carP R D (d + 1) k) hg (spot_dchk hg hi) (spot_held hg hi) ?_ ?_ (by omega)
    · rw [this, hs0, hsn]
      exact hS
    · unfold stepD
      rw [hs0, hsn, if_neg (by decide), f1]
      exact q1
    · unfold stepK
      rw [hs0, hsn, if_neg (by decide), f1, f2]
      exact q2

/-- Up from a number below 0. -/
theorem step_neg {R D L G : Int} {gr : Bool} {d : Nat} {k : Int} (hg : gridC R D L G = 0) (hk : L ≤ k) (hc : carP R D (d + 1) k ≤ G) (hd : d < 2 ^ (widthN R * D.toNat)) (hf : 2 ^ (widthN R * (D - 1).toNat) ≤ d ∨ (gr = true ∧ k = L)) :
    stepR R D L G gr (bare ⟨true, d + 1, (widthN R : Int) * k⟩).s true (Dg.dg 4294967296 (bare ⟨true, d + 1, (widthN R : Int) * k⟩).n) (bare ⟨true, d + 1, (widthN R : Int) * k⟩).e = (bare ⟨true, d, (widthN R : Int) * k⟩, 0) := by
  obtain ⟨-, d1, -, -, -, -, -, lg, -⟩ := gridC_zero hg
  have hge := carP_ge R D (d + 1) k
  obtain ⟨n1, n2, n3, n4, n5⟩ := next_spot d1 hk hc hd hf
  have hi : InSpot R D L G gr (carD R D (d + 1)) (carP R D (d + 1) k) := .inr ⟨n1, n2, n3, n4, n5⟩
  have hS : shortT ⟨true, d, (widthN R : Int) * k⟩ = (bare ⟨true, d, (widthN R : Int) * k⟩, 0) := by
    by_cases h0 : d = 0
    · subst h0
      have e := bare_nil true ((widthN R : Int) * k) ((widthN R : Int) * 0)
      rw [short_bare e, e]
      exact spot_shortT true hg (.inl ⟨rfl, rfl⟩ : InSpot R D L G gr 0 0)
    · exact spot_shortT true hg (.inr ⟨h0, hk, by omega, hd, hf⟩ : InSpot R D L G gr d k)
  rw [← car_bare R D true (d + 1) k d1]
  obtain ⟨f1, f2⟩ := found_bare (G := G) (s := true) d1 n1 n2 n3 n4 n5
  obtain ⟨q1, q2⟩ := near_prev (R := R) (L := L) (gr := gr) (d := d) (p := k) d1 hk hf
  have hb := bare_top (t := ⟨true, carD R D (d + 1), (widthN R : Int) * carP R D (d + 1) k⟩) n1
  have hs0 : (bare ⟨true, carD R D (d + 1), (widthN R : Int) * carP R D (d + 1) k⟩).s = true := by
    unfold bare
    rw [if_neg n1]
  have hsn : stepN true true (Dg.dg 4294967296 (bare ⟨true, carD R D (d + 1), (widthN R : Int) * carP R D (d + 1) k⟩).n).length = true := if_neg (fun c => hb.1 (dg_len_zero.1 c))
  have := stepR_at (R := R) (D := D) (L := L) (G := G) (gr := gr) (up := true) (t := bare ⟨true, carD R D (d + 1), (widthN R : Int) * carP R D (d + 1) k⟩) (d := d) (k := k) hg (spot_dchk hg hi) (spot_held hg hi) ?_ ?_ (by omega)
  · rw [this, hs0, hsn]
    exact hS
  · unfold stepD
    rw [hs0, hsn, if_pos rfl, f1, f2]
    exact q1
  · unfold stepK
    rw [hs0, hsn, if_pos rfl, f1, f2]
    exact q2
end Go.Proofs.YtmjhlflemfkflaaDoor

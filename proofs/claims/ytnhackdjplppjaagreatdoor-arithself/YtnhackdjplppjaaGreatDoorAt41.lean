/-
  Texts laid together: Rk1, Rk2, Ar8, As9, Oq1, As10.
-/
import Derived.Test.YtnhackdjplppjaaGreatDoorAt34
import Derived.Test.YtnhackdjplppjaaGreatDoorAt38
set_option maxRecDepth 100000
namespace Go.Proofs.YtnhackdjplppjaaGreatDoor
def Like (J : Int) (N1 M1 : Nat) (E1 : Int) (N2 M2 : Nat) (E2 : Int) : Prop :=
 ∀ j, J ≤ j → numP N1 (E1 - j) / denP M1 (E1 - j) = numP N2 (E2 - j) / denP M2 (E2 - j) ∧ (numP N1 (E1 - j) % denP M1 (E1 - j) = 0 ↔ numP N2 (E2 - j) % denP M2 (E2 - j) = 0)
theorem Like.trans {J K : Int} {N1 M1 N2 M2 N3 M3 : Nat} {E1 E2 E3 : Int} (h : Like J N1 M1 E1 N2 M2 E2) (g : Like K N2 M2 E2 N3 M3 E3) : Like (max J K) N1 M1 E1 N3 M3 E3 := fun j hj => by
 obtain ⟨a1, a2⟩ := h j (by omega)
 obtain ⟨b1, b2⟩ := g j (by omega)
 exact ⟨a1.trans b1, a2.trans b2⟩
theorem Like.symm {J : Int} {N1 M1 N2 M2 : Nat} {E1 E2 : Int} (h : Like J N1 M1 E1 N2 M2 E2) : Like J N2 M2 E2 N1 M1 E1 := fun j hj => ⟨(h j hj).1.symm, (h j hj).2.symm⟩
theorem Like.mono {J K : Int} {N1 M1 N2 M2 : Nat} {E1 E2 : Int} (h : Like J N1 M1 E1 N2 M2 E2) (hk : J ≤ K) : Like K N1 M1 E1 N2 M2 E2 := fun j hj => h j (by omega)
theorem halve_step {X Y X' Y' : Nat} (hY : 0 < Y) (hY' : 0 < Y') (h : X * Y' = 2 * X' * Y) :
  X' / Y' = X / Y / 2 ∧ (X' % Y' = 0 ↔ X / Y % 2 = 0 ∧ X % Y = 0) ∧ cmpI ((X' % Y' * 2 : Nat) : Int) (Y' : Int) = if X / Y % 2 = 1 then (if X % Y = 0 then 0 else 1) else -1 := by
 obtain ⟨q, hq⟩ : ∃ q, X / Y = q := ⟨_, rfl⟩
 obtain ⟨r, hr⟩ : ∃ r, X % Y = r := ⟨_, rfl⟩
 have hX : X = Y * q + r := by rw [← hq, ← hr]; exact (Nat.div_add_mod X Y).symm
 have hrY : r < Y := by rw [← hr]; exact Nat.mod_lt _ hY
 have hb : q % 2 < 2 := Nat.mod_lt _ (by omega)
 have hq2 : q = 2 * (q / 2) + q % 2 := (Nat.div_add_mod q 2).symm
 generalize hA : q / 2 = a at hq2
 generalize hB : q % 2 = b at hq2 hb
 have e1 : 2 * X' * Y = (Y * (2 * a + b) + r) * Y' := by rw [← h, hX, ← hq2]
 have hlt : X' < Y' * (a + 1) := by
  refine Nat.lt_of_mul_lt_mul_left (a := 2 * Y) ?_
  have e2 : (Y * (2 * a + b) + r) * Y' < (2 * Y * (a + 1)) * Y' := by
   refine Nat.mul_lt_mul_of_pos_right ?_ hY'
   have : Y * (2 * a + b) ≤ Y * (2 * a + 1) := Nat.mul_le_mul_left _ (by omega)
   have e3 : 2 * Y * (a + 1) = Y * (2 * a + 1) + Y := by
    rw [Nat.mul_add, Nat.mul_add, Nat.mul_comm 2 Y, Nat.mul_assoc]; omega
   omega
  calc 2 * Y * X' = 2 * X' * Y := by rw [Nat.mul_assoc, Nat.mul_comm Y X', Nat.mul_assoc]
   _ < (2 * Y * (a + 1)) * Y' := by rw [e1]; exact e2
   _ = 2 * Y * (Y' * (a + 1)) := by rw [Nat.mul_assoc, Nat.mul_comm (a + 1) Y']
 have hge : Y' * a ≤ X' := by
  refine Nat.le_of_mul_le_mul_left (show 2 * Y * (Y' * a) ≤ 2 * Y * X' from ?_) (by omega)
  have c1 : 2 * Y * (Y' * a) = (Y * (2 * a)) * Y' := by rw [Nat.mul_comm Y' a, ← Nat.mul_assoc, Nat.mul_comm 2 Y, Nat.mul_assoc Y 2 a]
  have c2 : Y * (2 * a) ≤ Y * (2 * a + b) + r := Nat.le_trans (Nat.mul_le_mul_left _ (by omega)) (Nat.le_add_right _ _)
  have c3 : (Y * (2 * a + b) + r) * Y' = 2 * Y * X' := by rw [← e1, Nat.mul_assoc, Nat.mul_comm X' Y, Nat.mul_assoc]
  rw [c1, ← c3]
  exact Nat.mul_le_mul_right _ c2
 have hd : X' / Y' = a := Nat.div_eq_of_lt_le (by rw [Nat.mul_comm]; exact hge) (by rw [Nat.mul_comm]; exact hlt)
 obtain ⟨r', hr'⟩ : ∃ r', X' % Y' = r' := ⟨_, rfl⟩
 have hX' : X' = Y' * a + r' := by rw [← hd, ← hr']; exact (Nat.div_add_mod X' Y').symm
 have hr'Y : r' < Y' := by rw [← hr']; exact Nat.mod_lt _ hY'
 have e4 : 2 * r' * Y = (b * Y + r) * Y' := by
  have e5 : 2 * (Y' * a + r') * Y = (Y * (2 * a + b) + r) * Y' := by rw [← hX']; exact e1
  have e6 : 2 * (Y' * a + r') * Y = 2 * Y' * a * Y + 2 * r' * Y := by rw [Nat.mul_add, Nat.add_mul, ← Nat.mul_assoc]
  have e7 : (Y * (2 * a + b) + r) * Y' = 2 * Y' * a * Y + (b * Y + r) * Y' := by
   rw [Nat.mul_add, Nat.add_assoc, Nat.add_mul, Nat.mul_comm Y b]
   congr 1
   rw [Nat.mul_comm Y (2 * a), Nat.mul_assoc, Nat.mul_comm Y Y', ← Nat.mul_assoc, Nat.mul_assoc 2 a Y', Nat.mul_comm a Y', ← Nat.mul_assoc]
  omega
 rw [hq, hr, hd, hr', hA, hB]
 have hb01 : b = 0 ∨ b = 1 := by omega
 refine ⟨rfl, ?_, ?_⟩
 ·constructor
  ·intro h0
   subst h0
   have : (b * Y + r) * Y' = 0 := by rw [← e4]; simp
   have h2 : b * Y + r = 0 := by
    rcases Nat.mul_eq_zero.1 this with h | h
    ·exact h
    ·omega
   rcases hb01 with rfl | rfl
   ·exact ⟨rfl, by omega⟩
   ·omega
  ·rintro ⟨rfl, rfl⟩
   have : 2 * r' * Y = 0 := by rw [e4]; simp
   rcases Nat.mul_eq_zero.1 this with h | h <;> omega
 ·unfold cmpI
  rcases hb01 with rfl | rfl
  ·rw [if_neg (show ¬ (0 : Nat) = 1 by omega)]
   have : r' * 2 < Y' := by
    refine Nat.lt_of_mul_lt_mul_right (a := Y) ?_
    rw [Nat.mul_comm r' 2, e4, Nat.zero_mul, Nat.zero_add, Nat.mul_comm Y' Y]
    exact Nat.mul_lt_mul_of_pos_right hrY hY'
   rw [if_pos (by omega)]
  ·rw [if_pos (show (1 : Nat) = 1 from rfl)]
   rw [Nat.one_mul] at e4
   by_cases h0 : r = 0
   ·rw [if_pos h0]
    subst h0
    have : r' * 2 = Y' := by
     refine Nat.eq_of_mul_eq_mul_right hY ?_
     rw [Nat.mul_comm r' 2, e4, Nat.add_zero, Nat.mul_comm]
    rw [if_neg (by omega), if_neg (by omega)]
   ·rw [if_neg h0]
    have : Y' < r' * 2 := by
     refine Nat.lt_of_mul_lt_mul_right (a := Y) ?_
     rw [Nat.mul_comm r' 2, e4, Nat.mul_comm Y' Y]
     exact Nat.mul_lt_mul_of_pos_right (by omega) hY'
    rw [if_neg (by omega), if_pos (by omega)]
theorem denP_gt {M : Nat} (h : M ≠ 0) (n : Int) : 0 < denP M n := by
 rw [denP_pow]
 exact Nat.mul_pos (by omega) (two_pos _)
theorem num_step (N M : Nat) (n : Int) : numP N (n + 1) * denP M n = 2 * numP N n * denP M (n + 1) := by
 rw [numP_pow, numP_pow, denP_pow, denP_pow]
 by_cases h : 0 ≤ n
 ·rw [show (-n).toNat = 0 from by omega, show (-(n + 1)).toNat = 0 from by omega, show (n + 1).toNat = n.toNat + 1 from by omega, Nat.pow_succ]
  simp only [Nat.pow_zero, Nat.mul_one]
  rw [← Nat.mul_assoc N, Nat.mul_comm _ 2, ← Nat.mul_assoc 2, Nat.mul_assoc 2]
 ·rw [show n.toNat = 0 from by omega, show (n + 1).toNat = 0 from by omega, show (-n).toNat = (-(n + 1)).toNat + 1 from by omega, Nat.pow_succ]
  simp only [Nat.pow_zero, Nat.mul_one]
  rw [← Nat.mul_assoc M, ← Nat.mul_assoc N, Nat.mul_comm _ 2, ← Nat.mul_assoc 2]
theorem round_same {R D L G : Int} {gr qs : Bool} {N1 M1 N2 M2 : Nat} {E1 E2 way : Int} (m1 : M1 ≠ 0) (m2 : M2 ≠ 0) (ht : topQ N1 M1 E1 = topQ N2 M2 E2)
  (h1 : numP N1 (E1 - ((widthN R : Int) * cutP R D L gr N1 M1 E1 - 1)) / denP M1 (E1 - ((widthN R : Int) * cutP R D L gr N1 M1 E1 - 1)) = numP N2 (E2 - ((widthN R : Int) * cutP R D L gr N1 M1 E1 - 1)) / denP M2 (E2 - ((widthN R : Int) * cutP R D L gr N1 M1 E1 - 1)))
  (h2 : numP N1 (E1 - ((widthN R : Int) * cutP R D L gr N1 M1 E1 - 1)) % denP M1 (E1 - ((widthN R : Int) * cutP R D L gr N1 M1 E1 - 1)) = 0 ↔ numP N2 (E2 - ((widthN R : Int) * cutP R D L gr N1 M1 E1 - 1)) % denP M2 (E2 - ((widthN R : Int) * cutP R D L gr N1 M1 E1 - 1)) = 0) :
  roundT R D L G gr qs N1 M1 E1 way = roundT R D L G gr qs N2 M2 E2 way := by
 have hc : cutP R D L gr N2 M2 E2 = cutP R D L gr N1 M1 E1 := by unfold cutP; rw [ht]
 obtain ⟨c, hC⟩ : ∃ c, (widthN R : Int) * cutP R D L gr N1 M1 E1 = c := ⟨_, rfl⟩
 have s1 := halve_step (denP_gt m1 (E1 - c + 1)) (denP_gt m1 (E1 - c)) (num_step N1 M1 (E1 - c))
 have s2 := halve_step (denP_gt m2 (E2 - c + 1)) (denP_gt m2 (E2 - c)) (num_step N2 M2 (E2 - c))
 rw [hC, show E1 - (c - 1) = E1 - c + 1 from by omega, show E2 - (c - 1) = E2 - c + 1 from by omega] at h1 h2
 rw [h1] at s1
 have hz : ∀ x : Int, (if numP N1 (E1 - c + 1) % denP M1 (E1 - c + 1) = 0 then (0 : Int) else x) = if numP N2 (E2 - c + 1) % denP M2 (E2 - c + 1) = 0 then 0 else x := fun x => by
  by_cases g : numP N1 (E1 - c + 1) % denP M1 (E1 - c + 1) = 0
  ·rw [if_pos g, if_pos (h2.1 g)]
  ·rw [if_neg g, if_neg (fun k => g (h2.2 k))]
 have w : wholeP R D L gr N1 M1 E1 = wholeP R D L gr N2 M2 E2 := by
  unfold wholeP shP
  rw [hc, hC, s1.1, s2.1]
 have l : (leftP R D L gr N1 M1 E1 = 0) = (leftP R D L gr N2 M2 E2 = 0) := by
  unfold leftP shP
  rw [hc, hC]
  refine propext (s1.2.1.trans (Iff.trans ?_ s2.2.1.symm))
  rw [h2]
 have l' : decide (leftP R D L gr N1 M1 E1 = 0) = decide (leftP R D L gr N2 M2 E2 = 0) := by simp only [l]
 have g : goesP R D L gr qs N1 M1 E1 way = goesP R D L gr qs N2 M2 E2 way := by
  unfold goesP
  rw [w]
  have k1 := s1.2.2
  have k2 := s2.2.2
  rw [hz] at k1
  unfold leftP shP
  rw [hc, hC, k1, k2]
 have d : digP R D L gr qs N1 M1 E1 way = digP R D L gr qs N2 M2 E2 way := by
  unfold digP
  rw [w, g, l']
 unfold roundT
 rw [d, l', ht, hc]
theorem top_like {J : Int} {N1 M1 N2 M2 : Nat} {E1 E2 : Int} (n1 : N1 ≠ 0) (m1 : M1 ≠ 0) (n2 : N2 ≠ 0) (m2 : M2 ≠ 0) (h : Like J N1 M1 E1 N2 M2 E2) (hJ : J ≤ topQ N1 M1 E1) : topQ N1 M1 E1 = topQ N2 M2 E2 := by
 have key : ∀ {N M : Nat} {E : Int} (i : Int), N ≠ 0 → M ≠ 0 → (1 ≤ numP N (E - i) / denP M (E - i) ↔ i ≤ topQ N M E) := fun {N M E} i hN hM => by
  have := whole_ge N M (E - i) 0 hN hM
  rw [topQ_zero N M E]
  rw [Nat.pow_zero] at this
  constructor
  ·intro g; have := this.1 g; omega
  ·intro g; exact this.2 (by omega)
 have a1 := (key (E := E1) (topQ N1 M1 E1) n1 m1).2 (Int.le_refl _)
 have a2 := fun g => (key (E := E1) (topQ N1 M1 E1 + 1) n1 m1).1 g
 rw [(h _ hJ).1] at a1
 have b1 := (key (E := E2) _ n2 m2).1 a1
 have b2 : ¬ topQ N1 M1 E1 + 1 ≤ topQ N2 M2 E2 := fun g => by
  have := (key (E := E2) _ n2 m2).2 g
  rw [← (h _ (by omega)).1] at this
  have := a2 this
  omega
 omega
theorem round_like {R D L G J : Int} {gr qs : Bool} {N1 M1 N2 M2 : Nat} {E1 E2 way : Int} (n1 : N1 ≠ 0) (m1 : M1 ≠ 0) (n2 : N2 ≠ 0) (m2 : M2 ≠ 0) (hD : 1 ≤ D) (hw : widthN R * D.toNat ≤ 64) (h : Like J N1 M1 E1 N2 M2 E2) (hJ : J + 64 ≤ topQ N1 M1 E1) :
  roundT R D L G gr qs N1 M1 E1 way = roundT R D L G gr qs N2 M2 E2 way := by
 have hc : J ≤ (widthN R : Int) * cutP R D L gr N1 M1 E1 - 1 := by
  have h1 : powerR R D (topQ N1 M1 E1) ≤ cutP R D L gr N1 M1 E1 := by
   unfold cutP
   split
   ·rename_i g
    simp at g
    omega
   ·omega
  have h2 : (widthN R : Int) * powerR R D (topQ N1 M1 E1) ≤ (widthN R : Int) * cutP R D L gr N1 M1 E1 := Int.mul_le_mul_of_nonneg_left h1 (by omega)
  have h3 : topQ N1 M1 E1 - 63 ≤ (widthN R : Int) * powerR R D (topQ N1 M1 E1) := by
   unfold powerR
   have hw1 := widthN_le R
   have e := Int.mul_ediv_add_emod (topQ N1 M1 E1) (widthN R : Int)
   have l := Int.emod_lt_of_pos (topQ N1 M1 E1) (b := (widthN R : Int)) (by omega)
   rw [Int.mul_sub]
   have hd : ((widthN R * D.toNat : Nat) : Int) = (widthN R : Int) * D := by rw [Int.natCast_mul, Int.toNat_of_nonneg (by omega)]
   rw [Int.mul_sub, Int.mul_one]
   omega
  omega
 obtain ⟨g1, g2⟩ := h _ hc
 exact round_same m1 m2 (top_like n1 m1 n2 m2 h (by omega)) g1 g2
theorem frac_same {X1 Y1 X2 Y2 : Nat} (h1 : 0 < Y1) (h2 : 0 < Y2) (h : X1 * Y2 = X2 * Y1) : X1 / Y1 = X2 / Y2 ∧ (X1 % Y1 = 0 ↔ X2 % Y2 = 0) := by
 have key : ∀ {X1 Y1 X2 Y2 : Nat}, 0 < Y1 → 0 < Y2 → X1 * Y2 = X2 * Y1 → X2 / Y2 ≤ X1 / Y1 ∧ (X2 % Y2 = 0 → X1 % Y1 = 0) := fun {X1 Y1 X2 Y2} h1 h2 h => by
  refine ⟨?_, fun g => ?_⟩
  ·refine (Nat.le_div_iff_mul_le h1).2 ?_
   refine Nat.le_of_mul_le_mul_right ?_ h2
   rw [h, Nat.mul_assoc, Nat.mul_comm Y1 Y2, ← Nat.mul_assoc]
   exact Nat.mul_le_mul_right _ (Nat.div_mul_le_self X2 Y2)
  ·obtain ⟨k, hk⟩ := Nat.dvd_of_mod_eq_zero g
   have : X1 = Y1 * k := by
    refine Nat.eq_of_mul_eq_mul_right h2 ?_
    rw [h, hk, Nat.mul_assoc, Nat.mul_comm k Y1, Nat.mul_comm Y2, Nat.mul_assoc]
   rw [this]
   exact Nat.mul_mod_right _ _
 have a := key h1 h2 h
 have b := key h2 h1 h.symm
 exact ⟨Nat.le_antisymm b.1 a.1, b.2, a.2⟩
theorem dvd_mul_pow {M d x y : Nat} (hM : M ≠ 0) (e : x = M * y) : M * 2 ^ d ∣ x ↔ 2 ^ d ∣ y := by
 subst e
 constructor
 ·rintro ⟨k, hk⟩
  refine ⟨k, Nat.eq_of_mul_eq_mul_left (by omega : 0 < M) ?_⟩
  rw [hk, Nat.mul_assoc]
 ·rintro ⟨k, rfl⟩
  exact ⟨k, by rw [Nat.mul_assoc]⟩
theorem like_endless (N M sh : Nat) (E : Int) (s left : Bool) (hM : M ≠ 0) (hl : left = decide (0 < N * 2 ^ sh % M)) : Like (E - sh) N M E (endlessT s (N * 2 ^ sh / M) (E - sh) left).n 1 (endlessT s (N * 2 ^ sh / M) (E - sh) left).e := fun j hj => by
 obtain ⟨d, hd⟩ : ∃ d : Nat, j = E - sh + d := ⟨(j - (E - sh)).toNat, by omega⟩
 subst hd
 have c1 := frac_same (X1 := numP N (E - (E - sh + d))) (Y1 := denP M (E - (E - sh + d))) (X2 := N * 2 ^ sh) (Y2 := M * 2 ^ d) (denP_gt hM _) (Nat.mul_pos (by omega) (two_pos _)) (by
  rw [numP_pow, denP_pow]
  by_cases g : (d : Int) ≤ sh
  ·rw [show (E - (E - (sh : Int) + (d : Int))).toNat = sh - d from by omega, show (-(E - (E - (sh : Int) + (d : Int)))).toNat = 0 from by omega, Nat.pow_zero, Nat.mul_one]
   rw [Nat.mul_assoc, Nat.mul_assoc, Nat.mul_comm M (2 ^ d), ← Nat.mul_assoc (2 ^ (sh - d)), ← Nat.pow_add, show sh - d + d = sh from by omega]
  ·rw [show (E - (E - (sh : Int) + (d : Int))).toNat = 0 from by omega, show (-(E - (E - (sh : Int) + (d : Int)))).toNat = d - sh from by omega, Nat.pow_zero, Nat.mul_one]
   rw [Nat.mul_assoc N, Nat.mul_comm (2 ^ sh), Nat.mul_assoc M, ← Nat.pow_add, show d - sh + sh = d from by omega])
 have hsh : N * 2 ^ sh / (M * 2 ^ d) = N * 2 ^ sh / M / 2 ^ d := (Nat.div_div_eq_div_mul ..).symm
 have c2 : numP (endlessT s (N * 2 ^ sh / M) (E - sh) left).n ((endlessT s (N * 2 ^ sh / M) (E - sh) left).e - (E - sh + d)) = N * 2 ^ sh / M * 2 + (if left = true then 1 else 0) := by
  rw [numP_pow]
  show (N * 2 ^ sh / M * 2 + (if left = true then 1 else 0)) * 2 ^ (E - (sh : Int) - 1 - (E - (sh : Int) + (d : Int))).toNat = _
  rw [show (E - (sh : Int) - 1 - (E - (sh : Int) + (d : Int))).toNat = 0 from by omega, Nat.pow_zero, Nat.mul_one]
 have c3 : denP 1 ((endlessT s (N * 2 ^ sh / M) (E - sh) left).e - (E - sh + d)) = 2 * 2 ^ d := by
  rw [denP_pow]
  show 1 * 2 ^ (-(E - (sh : Int) - 1 - (E - (sh : Int) + (d : Int)))).toNat = _
  rw [show (-(E - (sh : Int) - 1 - (E - (sh : Int) + (d : Int)))).toNat = d + 1 from by omega, Nat.pow_succ, Nat.one_mul, Nat.mul_comm]
 rw [c1.1, c2, c3, hsh]
 obtain ⟨q, hq⟩ : ∃ q, N * 2 ^ sh / M = q := ⟨_, rfl⟩
 have hdm := Nat.div_add_mod (N * 2 ^ sh) M
 rw [hq] at hdm ⊢
 have hbit : (q * 2 + (if left = true then 1 else 0)) / 2 = q := by cases left <;> simp <;> omega
 refine ⟨by rw [← Nat.div_div_eq_div_mul, hbit], c1.2.trans ?_⟩
 have e2 : ∀ x y : Nat, x % y = 0 ↔ y ∣ x := fun x y => ⟨Nat.dvd_of_mod_eq_zero, Nat.mod_eq_zero_of_dvd⟩
 by_cases h0 : N * 2 ^ sh % M = 0
 ·rw [h0, Nat.add_zero] at hdm
  have hlf : left = false := by rw [hl, h0]; rfl
  subst hlf
  rw [e2, e2, dvd_mul_pow hM hdm.symm]
  simp only [Bool.false_eq_true, if_false, Nat.add_zero]
  rw [Nat.mul_comm q 2]
  constructor
  ·rintro ⟨k, hk⟩
   exact ⟨k, by rw [hk, Nat.mul_assoc]⟩
  ·rintro ⟨k, hk⟩
   exact ⟨k, by rw [Nat.mul_assoc] at hk; omega⟩
 ·have hlf : left = true := by rw [hl]; simp; omega
  subst hlf
  rw [e2, e2]
  constructor
  ·rintro ⟨k, hk⟩
   exfalso
   refine h0 (Nat.mod_eq_zero_of_dvd ⟨2 ^ d * k, ?_⟩)
   rw [hk, Nat.mul_assoc]
  ·rintro ⟨k, hk⟩
   simp only [if_true] at hk
   rw [Nat.mul_assoc] at hk
   omega
end Go.Proofs.YtnhackdjplppjaaGreatDoor
namespace Go.Proofs.YtnhackdjplppjaaGreatDoor
theorem bit_lt {n k : Nat} (h : bitLen n ≤ k) : n < 2 ^ k := Nat.lt_of_lt_of_le (bitLen_spec n).1 (Nat.pow_le_pow_right (by omega) h)
theorem bit_ge {n j : Nat} (h : j < bitLen n) : 2 ^ j ≤ n := Nat.le_of_not_lt fun g => by
 have := bitLen_le_of n j g
 omega
theorem pow_dvd_tz {n k : Nat} (h : n ≠ 0) : 2 ^ k ∣ n ↔ k ≤ tz n := by
 obtain ⟨m, hm⟩ := tz_spec h
 constructor
 ·intro hd
  by_cases g : k ≤ tz n
  ·exact g
  exfalso
  obtain ⟨c, hc⟩ := hd
  have e : 2 ^ k = 2 ^ tz n * (2 * 2 ^ (k - tz n - 1)) := by
   rw [← Nat.pow_succ', ← Nat.pow_add]
   congr 1
   omega
  have h2 : 2 ^ tz n * (2 * m + 1) = 2 ^ tz n * (2 * (2 ^ (k - tz n - 1) * c)) := by
   refine hm.symm.trans (hc.trans ?_)
   rw [e, Nat.mul_assoc, Nat.mul_assoc]
  have := Nat.eq_of_mul_eq_mul_left (two_pos (tz n)) h2
  omega
 ·intro g
  refine ⟨2 ^ (tz n - k) * (2 * m + 1), ?_⟩
  rw [← Nat.mul_assoc, ← Nat.pow_add, show k + (tz n - k) = tz n from by omega]
  exact hm
theorem kept_like (t : Trip) (h0 : t.n ≠ 0) : Like (t.e + ((bitLen t.n - 128 : Nat) : Int)) t.n 1 t.e (keptT t).n 1 (keptT t).e := by
 unfold keptT
 by_cases g : bitLen t.n ≤ 128
 ·rw [if_pos g]
  exact fun j _ => ⟨rfl, Iff.rfl⟩
 ·rw [if_neg g]
  obtain ⟨sp, hs⟩ : ∃ s, bitLen t.n - 128 = s := ⟨_, rfl⟩
  rw [hs]
  have h1 : Like (t.e + (sp : Int)) t.n 1 t.e t.n (2 ^ sp) (t.e + (sp : Int)) := fun j _ => by
   refine frac_same (denP_gt (by omega) _) (denP_gt (by have := two_pos sp; omega) _) ?_
   rw [numP_pow, numP_pow, denP_pow, denP_pow]
   rw [Nat.one_mul, Nat.mul_assoc, Nat.mul_assoc, ← Nat.pow_add, ← Nat.pow_add, ← Nat.pow_add]
   refine congrArg (fun x => t.n * 2 ^ x) ?_
   omega
  have h2 := like_endless t.n (2 ^ sp) 0 (t.e + (sp : Int)) t.s (decide (tz t.n < sp)) (by have := two_pos sp; omega) (by
   rw [Nat.pow_zero, Nat.mul_one, decide_eq_decide]
   have := pow_dvd_tz (k := sp) h0
   rw [Nat.dvd_iff_mod_eq_zero] at this
   omega)
  simp only [Nat.pow_zero, Nat.mul_one, Int.natCast_zero, Int.sub_zero] at h2
  have h3 := h1.trans h2
  exact h3.mono (by omega)
theorem kept_parts (t : Trip) (h0 : t.n ≠ 0) : (keptT t).n ≠ 0 ∧ (keptT t).s = t.s ∧ (keptT t).n < 2 ^ 129 ∧ t.e - 1 ≤ (keptT t).e ∧ (keptT t).e ≤ t.e + ((bitLen t.n - 128 : Nat) : Int) := by
 unfold keptT
 by_cases g : bitLen t.n ≤ 128
 ·rw [if_pos g]
  exact ⟨h0, rfl, bit_lt (by omega), by omega, by omega⟩
 ·rw [if_neg g]
  obtain ⟨sp, hs⟩ : ∃ s, bitLen t.n - 128 = s := ⟨_, rfl⟩
  rw [hs]
  have l1 : 2 ^ (sp + 127) ≤ t.n := bit_ge (by omega)
  have l2 : t.n < 2 ^ (sp + 128) := bit_lt (by omega)
  have d1 : 2 ^ 127 ≤ t.n / 2 ^ sp := (Nat.le_div_iff_mul_le (two_pos sp)).2 (by rw [← Nat.pow_add, Nat.add_comm]; exact l1)
  have d2 : t.n / 2 ^ sp < 2 ^ 128 := (Nat.div_lt_iff_lt_mul (two_pos sp)).2 (by rw [← Nat.pow_add, Nat.add_comm]; exact l2)
  generalize t.n / 2 ^ sp = q at d1 d2
  refine ⟨?_, rfl, ?_, ?_, ?_⟩
  ·show q * 2 + (if decide (tz t.n < sp) = true then 1 else 0) ≠ 0
   have : 0 < 2 ^ 127 := two_pos _
   omega
  ·show q * 2 + (if decide (tz t.n < sp) = true then 1 else 0) < 2 ^ 129
   have e : 2 ^ 129 = 2 ^ 128 * 2 := Nat.pow_succ ..
   have : (if decide (tz t.n < sp) = true then 1 else 0) ≤ 1 := by split <;> omega
   omega
  ·show t.e - 1 ≤ t.e + (sp : Int) - 1
   omega
  ·show t.e + (sp : Int) - 1 ≤ t.e + (sp : Int)
   omega
def rtE (t : Trip) : Int := min (max (keptT t).e (-20000)) 20000
def rtN (t : Trip) : Nat := (keptT t).n * 2 ^ ((keptT t).e - rtE t).toNat
def rtM (t : Trip) : Nat := 2 ^ (rtE t - (keptT t).e).toNat
theorem rt_like (t : Trip) (h0 : t.n ≠ 0) : Like (t.e + ((bitLen t.n - 128 : Nat) : Int)) t.n 1 t.e (rtN t) (rtM t) (rtE t) := by
 refine ((kept_like t h0).trans (K := t.e + ((bitLen t.n - 128 : Nat) : Int)) ?_).mono (by omega)
 refine fun j _ => frac_same (denP_gt (by omega) _) (denP_gt (by unfold rtM; have := two_pos (rtE t - (keptT t).e).toNat; omega) _) ?_
 unfold rtN rtM
 generalize rtE t = r
 rw [numP_pow, numP_pow, denP_pow, denP_pow]
 rw [Nat.one_mul, Nat.mul_assoc, Nat.mul_assoc, Nat.mul_assoc, ← Nat.pow_add, ← Nat.pow_add, ← Nat.pow_add, ← Nat.pow_add]
 congr 2
 omega
theorem rt_round {R D L G : Int} {gr : Bool} {way : Int} (t : Trip) (h0 : t.n ≠ 0) (hD : 1 ≤ D) (hw : widthN R * D.toNat ≤ 64) :
  roundT R D L G gr t.s (rtN t) (rtM t) (rtE t) way = roundT R D L G gr t.s t.n 1 t.e way := by
 have hm : rtM t ≠ 0 := by unfold rtM; have := two_pos (rtE t - (keptT t).e).toNat; omega
 have hn : rtN t ≠ 0 := by
  unfold rtN
  have h1 := (kept_parts t h0).1
  have h2 := two_pos ((keptT t).e - rtE t).toNat
  exact Nat.mul_ne_zero h1 (by omega)
 by_cases hb : bitLen t.n ≤ 128
 ·-- nothing is lost
  have hl : Like (t.e - 70) t.n 1 t.e (rtN t) (rtM t) (rtE t) := by
   have hk : keptT t = t := if_pos hb
   refine fun j _ => frac_same (denP_gt (by omega) _) (denP_gt hm _) ?_
   unfold rtN rtM
   rw [hk]
   generalize rtE t = r
   rw [numP_pow, numP_pow, denP_pow, denP_pow]
   rw [Nat.one_mul, Nat.mul_assoc, Nat.mul_assoc, Nat.mul_assoc, ← Nat.pow_add, ← Nat.pow_add, ← Nat.pow_add, ← Nat.pow_add]
   congr 2
   omega
  refine (round_like h0 (by omega) hn hm hD hw hl ?_).symm
  rw [topQ_one h0]
  have : bitLen t.n ≠ 0 := fun h => by
   have := bit_lt (Nat.le_of_eq h)
   rw [Nat.pow_zero] at this
   omega
  omega
 ·refine (round_like h0 (by omega) hn hm hD hw (rt_like t h0) ?_).symm
  rw [topQ_one h0]
  omega
theorem rt_small (t : Trip) (h0 : t.n ≠ 0) (hb : bitLen t.n ≤ 100000) (e1 : -100000 ≤ t.e) (e2 : t.e ≤ 100000) : (∃ a, rtN t < 2 ^ a ∧ a ≤ 190000) ∧ (∃ b, rtM t < 2 ^ b ∧ b ≤ 90000) ∧ -20000 ≤ rtE t ∧ rtE t ≤ 20000 := by
 obtain ⟨k1, k2, k3, k4, k5⟩ := kept_parts t h0
 have hE : -20000 ≤ rtE t ∧ rtE t ≤ 20000 := by unfold rtE; omega
 refine ⟨⟨129 + ((keptT t).e - rtE t).toNat, ?_, ?_⟩, ⟨(rtE t - (keptT t).e).toNat + 1, ?_, ?_⟩, hE⟩
 ·unfold rtN
  rw [Nat.pow_add]
  exact Nat.mul_lt_mul_of_pos_right k3 (two_pos _)
 ·unfold rtE
  omega
 ·unfold rtM
  exact Nat.pow_lt_pow_right (by omega) (by omega)
 ·unfold rtE
  omega
end Go.Proofs.YtnhackdjplppjaaGreatDoor
namespace Go.Proofs.YtnhackdjplppjaaGreatDoor
open Go.RowKit
theorem cgrid_flat (k : Nat) (hk : 1 ≤ k ∧ k ≤ 8) (w : World) : Calls Tryz.prog 50 #[.int .i64 (k : Int)] w fun z w' => z = .returned (.tuple #[.agg #[.int .i64 (rdN k : Int), .int .i64 (dgN k : Int), .int .i64 (lsI k), .int .i64 (gsI k), .bool (decide (k ≤ 3))], .int .i64 0]) ∧ Below w.heap.size w w' := by
 rcases eight hk with rfl | rfl | rfl | rfl | rfl | rfl | rfl | rfl
 ·exact cgrid_1 w
 ·exact cgrid_2 w
 ·exact cgrid_3 w
 ·exact cgrid_4 w
 ·exact cgrid_5 w
 ·exact cgrid_6 w
 ·exact cgrid_7 w
 ·exact cgrid_8 w
theorem refT_other {k : Nat} (hk : 1 ≤ k ∧ k ≤ 8) {ng : Bool} {E F : Nat} (hc : clsN k ng E F ≠ 2) : refT k ng E F = ⟨false, 0, 0⟩ := by
 by_cases h1 : clsN k ng E F = 1
 ·exact refT_zero hk h1
 have h2 : 2 ^ exN k = onesN k + 1 := by
  rcases eight hk with rfl | rfl | rfl | rfl | rfl | rfl | rfl | rfl <;> decide
 have h63 : k = 3 → 2 ^ (dgN k - 1) = 2 ^ 63 := fun h => by subst h; rfl
 unfold clsN at hc h1
 unfold refT
 by_cases h3 : k ≤ 3
 ·rw [if_pos h3] at hc h1
  by_cases he : E = 0
  ·rw [if_pos he] at hc h1
   by_cases hf : F = 0
   ·rw [if_pos hf] at h1
    exact absurd rfl h1
   ·rw [if_neg hf] at hc
    exact absurd rfl hc
  ·rw [if_neg he] at hc
   by_cases ho : E = onesN k
   ·by_cases h4 : k = 3
    ·rw [if_pos h4, if_pos (.inl (by omega))]
    ·rw [if_neg h4, if_pos (by omega), if_pos (by omega)]
   ·rw [if_neg ho] at hc
    by_cases h4 : k = 3 ∧ F < 2 ^ 63
    ·rw [if_pos h4.1, if_pos (.inr ⟨by omega, by rw [h63 h4.1]; exact h4.2⟩)]
    ·rw [if_neg h4] at hc
     exact absurd rfl hc
 ·rw [if_neg h3] at hc h1
  rw [if_neg (show ¬ k = 3 by omega), if_neg (show ¬ k ≤ 2 by omega)]
  by_cases h5 : k ≤ 5
  ·rw [if_pos h5] at hc h1
   by_cases hf : F = 0
   ·rw [if_pos hf] at h1
    exact absurd rfl h1
   ·rw [if_neg hf] at hc
    exact absurd rfl hc
  ·rw [if_neg h5] at hc ⊢
   by_cases he : E = 0
   ·rw [if_pos he]
   ·rw [if_neg he] at hc
    exact absurd rfl hc
theorem opnum_is {k : Nat} (hk : 1 ≤ k ∧ k ≤ 8) (s : ByteArray) :
  dbothR (placeC (Dg.dg 4294967296 (valM k (fldN k s) (fldE k s) (fldF k s))) (valP k (fldN k s) (fldE k s) (fldF k s)) (rdN k : Int) (dgN k : Int) (lsI k) (gsI k)) ⟨valG k (fldN k s) (fldE k s) (fldF k s), Dg.vl 4294967296 (Dg.dg 4294967296 (valM k (fldN k s) (fldE k s) (fldF k s))), (widthN (rdN k : Int) : Int) * valP k (fldN k s) (fldE k s) (fldF k s)⟩ = (nxT k s, 0) := by
 by_cases hc : clsN k (fldN k s) (fldE k s) (fldF k s) = 2
 ·exact num_is hk s (.inr hc)
 ·have hgr := (fmt_fit hk).2.2.2.2.2.2.2.2.2.2.2
  have hM : valM k (fldN k s) (fldE k s) (fldF k s) = 0 := if_neg hc
  have hP : valP k (fldN k s) (fldE k s) (fldF k s) = 0 := if_neg hc
  have hnil : Dg.dg 4294967296 0 = [] := (Dg.dg_nil_iff _ _ (by omega)).2 rfl
  rw [hM, hP, hnil, placeC_fine (by decide) hgr (by decide)]
  unfold nxT
  rw [refT_other hk hc]
  exact shortT_nil _ _
theorem wread_any (n : Int) (s : ByteArray) (w : World) (hT : Tab w) : Calls Tryz.prog 137 #[.int .i64 n, .string s] w (WRes w ((decC n s : Nat) : Int) (decG n s) (decM n s) (decP n s) (opT n s) (patC n s)) := by
 have HD := fun w1 => decode_any n s w1
 by_cases hp : patC n s = 0
 ·have hf : famC n ≠ 0 := fun hf => by
   unfold patC at hp
   rw [if_pos hf] at hp
   omega
  obtain ⟨k1, k2, k3⟩ := famC_in hf
  obtain ⟨k, rfl⟩ : ∃ k : Nat, n = (k : Int) := ⟨n.toNat, k3.symm⟩
  rw [Int.toNat_natCast] at k1 k2
  have hk : 1 ≤ k ∧ k ≤ 8 := ⟨k1, k2⟩
  have hG : decG (k : Int) s = valG k (fldN k s) (fldE k s) (fldF k s) := by
   unfold decG
   rw [if_pos hp, Int.toNat_natCast]
  have hM : decM (k : Int) s = valM k (fldN k s) (fldE k s) (fldF k s) := by
   unfold decM
   rw [if_pos hp, Int.toNat_natCast]
  have hP : decP (k : Int) s = valP k (fldN k s) (fldE k s) (fldF k s) := by
   unfold decP
   rw [if_pos hp, Int.toNat_natCast]
  have hO : opT (k : Int) s = nxT k s := by
   unfold opT
   rw [if_pos hp, Int.toNat_natCast]
  rw [hp] at HD ⊢
  rw [hO]
  refine wread_W (k : Int) _ _ _ _ _ _ _ _ _ (nxT k s) s w (fun w1 => cgrid_flat k hk w1) HD (fun vo vc w1 b r => ?_)
  have hn := opnum_is hk s
  have hN := fun w2 (b2 : Below w1.heap.size w1 w2) => gNumber_any (rdN k : Int) (dgN k : Int) (lsI k) (gsI k) (decide (k ≤ 3)) (decG (k : Int) s) vo vc _ (decP (k : Int) s) false false false w2 (r.later b2) (Dg.small_dg 4294967296 _ (by omega)) (hT.later (below_trans b b2))
  rw [hG, hM, hP] at hN ⊢
  rw [hn] at hN
  exact wnumber_W _ _ _ _ _ _ 0 _ _ vo _ vc (nxT k s) w1 hN
 ·have hC : decC n s = 0 := if_neg hp
  have hG : decG n s = false := if_neg hp
  have hM : decM n s = 0 := if_neg hp
  have hP : decP n s = 0 := if_neg hp
  have hO : opT n s = ⟨false, 0, 0⟩ := if_neg hp
  rw [hC, hG, hM, hP, hO]
  by_cases hf : famC n = 0
  ·have h6 : patC n s = 6 := by
    unfold patC
    rw [if_pos hf]
   rw [h6]
   exact wrd1 n 6 (by decide) s w (fun w1 => cgrid_none n w1 hf)
  ·obtain ⟨k1, k2, k3⟩ := famC_in hf
   obtain ⟨k, rfl⟩ : ∃ k : Nat, n = (k : Int) := ⟨n.toNat, k3.symm⟩
   rw [Int.toNat_natCast] at k1 k2
   exact wrd2 (k : Int) _ hp _ _ _ _ _ _ _ _ _ s w (fun w1 => cgrid_flat k ⟨k1, k2⟩ w1) HD
theorem deskOf_any (k : Nat) (hk : 1 ≤ k ∧ k ≤ 8) (w : World) : Calls Tryz.prog 80 #[.int .i64 (k : Int)] w fun z w' => z = .returned (.tuple #[.agg #[.int .i64 (k : Int), .int .i64 0, .int .i64 (famC (k : Int)), .int .i64 (rdN k : Int), .int .i64 (dgN k : Int), .int .i64 (lsI k), .int .i64 (gsI k), .bool (decide (k ≤ 3))], .int .i64 0]) ∧ Below w.heap.size w w' :=
 deskOf_W (k : Int) _ _ _ _ _ _ w (fun w1 => cgrid_flat k hk w1) (fun w1 => family_any (k : Int) w1)
end Go.Proofs.YtnhackdjplppjaaGreatDoor
namespace Go.Proofs.YtnhackdjplppjaaGreatDoor
open Go.RowKit
set_option maxHeartbeats 3200000 in
theorem add_W (n way f1 e1 : Int) (a b st : ByteArray) (w : World)
  (HR : ∀ pb w1, Below w.heap.size w w1 → LocE w1 pb 9 [.string a, .string b] → Calls Tryz.prog 53 #[.int .i64 n, .int .i64 way, .func (.func 54) #[] #[], .slice (some ⟨pb, 0, none⟩) 2 2] w1 fun z w' => z = .returned (.tuple #[.string st, .int .i64 f1, .int .i64 e1]) ∧ Below w1.heap.size w1 w') :
  Calls Tryz.prog 17 #[.int .i64 n, .string a, .string b, .int .i64 way] w fun z w' => z = .returned (.tuple #[.string st, .int .i64 f1, .int .i64 e1]) ∧ Below w.heap.size w w' := by
 replace HR : Hid _ := HR
 have al := below_alloc w (.cells #[.string a, .string b] 9)
 have ln := locE_new w [.string a, .string b] 9
 go_enter Tryz.func17, Tryz.ntmps17
 go_wp2_with fail
 refine (HR.out _ _ al ln).mono ?_
 rintro z w1 ⟨rfl, b1⟩
 have b2 := below_trans al b1
 go_wp2
 go_ret3
 exact ⟨rfl, b2⟩
def patOne : ByteArray := strOf [63, 128, 0, 0]
def patTwo : ByteArray := strOf [64, 0, 0, 0]
theorem patOne_ok : patC 1 patOne = 0 ∧ decC 1 patOne = 2 ∧ decG 1 patOne = false ∧ opT 1 patOne = ⟨false, 1, 0⟩ := by
 refine ⟨?_, ?_, ?_, ?_⟩ <;> kernel_rfl
theorem one_plus : plusT ⟨false, 1, 0⟩ ⟨false, 1, 0⟩ = ⟨false, 2, 0⟩ := by kernel_rfl
theorem two_round : roundC [2] [1] 0 2 24 (-149) 104 1 = 0 ∧ roundP [2] [1] 0 2 24 (-149) 104 true false 1 = ⟨false, 8388608, -22, true, false, false⟩ := by
 refine ⟨?_, ?_⟩ <;> kernel_rfl
theorem two_enc : encE 1 2 false [8388608] (-22) = 0 ∧ encS 1 2 false [8388608] (-22) = patTwo := by
 refine ⟨?_, ?_⟩ <;> kernel_rfl
end Go.Proofs.YtnhackdjplppjaaGreatDoor
namespace Go.Proofs.YtnhackdjplppjaaGreatDoor
open Go.RowKit
def rfG (n : Int) (p : ByteArray) : Bool := refG n.toNat (fldN n.toNat p) (fldE n.toNat p) (fldF n.toNat p)
def rfT (n : Int) (p : ByteArray) : Trip := refT n.toNat (fldN n.toNat p) (fldE n.toNat p) (fldF n.toNat p)
def rfC (n : Int) (p : ByteArray) (v : Value) : List Value := [.int .i64 ((decC n p : Nat) : Int), .bool (rfG n p), .bool (rfT n p).s, v, .int .i64 (rfT n p).e]
def RfAt (w : World) (n : Int) (g : Option Nat) (p : ByteArray) (v : Value) : Prop :=
 (∃ so sc, v = .slice so (Dg.dg 65536 (rfT n p).n).length sc) ∧ Rd w .i64 v (Dg.dg 65536 (rfT n p).n) ∧ ∀ b, g = some b → OffB b v (Dg.dg 65536 (rfT n p).n)
def RfsAt (w : World) (n : Int) (g : Option Nat) : List ByteArray → List Value → Prop
 | [], cs => cs = []
 | p :: ps, cs => ∃ v rest, cs = rfC n p v ++ rest ∧ RfAt w n g p v ∧ RfsAt w n g ps rest
theorem RfsAt.mono {w w' : World} {n : Int} {g g' : Option Nat} (h : ∀ p v, RfAt w n g p v → RfAt w' n g' p v) : ∀ {ps : List ByteArray} {cs : List Value}, RfsAt w n g ps cs → RfsAt w' n g' ps cs
 | [], _, hc => hc
 | p :: _, _, hc => by
  obtain ⟨v, rest, h1, h2, h3⟩ := hc
  exact ⟨v, rest, h1, h p v h2, RfsAt.mono h h3⟩
theorem RfsAt.snoc {w : World} {n : Int} {g : Option Nat} {p : ByteArray} {v : Value} (hv : RfAt w n g p v) : ∀ {ps : List ByteArray} {cs : List Value}, RfsAt w n g ps cs → RfsAt w n g (ps ++ [p]) (cs ++ rfC n p v)
 | [], cs, hc => by
  have : cs = [] := hc
  subst this
  exact ⟨v, [], by simp, hv, rfl⟩
 | q :: _, _, hc => by
  obtain ⟨u, rest, h1, h2, h3⟩ := hc
  subst h1
  exact ⟨u, rest ++ rfC n p v, by simp, h2, RfsAt.snoc hv h3⟩
def RfsI (w : World) (n : Int) (ps : List ByteArray) (i : Nat) (lv : Value) (wr : World) : Prop :=
 ∃ cs, wr.ownsRow w.heap.size 32 5 lv i cs ∧ RfsAt wr n lv.ownBlock (ps.take i) cs ∧ errL n ps = errL n (ps.drop i)
theorem RfAt.later {w w' : World} {n : Int} {g : Option Nat} {p : ByteArray} {v : Value} (h : RfAt w n g p v) (hb : Below w.heap.size w w') : RfAt w' n g p v := ⟨h.1, h.2.1.later hb, h.2.2⟩
theorem RfsI.later {w wr w' : World} {n : Int} {ps : List ByteArray} {i : Nat} {lv : Value} (h : RfsI w n ps i lv wr) (hb : Below wr.heap.size wr w') : RfsI w n ps i lv w' := by
 obtain ⟨cs, h1, h2, h3⟩ := h
 exact ⟨cs, own_row_later h1 hb, h2.mono (fun p v k => k.later hb), h3⟩
structure RfsV (w : World) (n : Int) (ps : List ByteArray) (g cap : Nat) : Prop where
 fit : ps.length ≤ cap
 most : cap ≤ maxLen
 each : ∀ (i : Nat) p, ps[i]? = some p → ∃ so sc, w.rangeAt g (i * 5) (rfC n p (.slice so (Dg.dg 65536 (rfT n p).n).length sc)) ∧ Rd w .i64 (.slice so (Dg.dg 65536 (rfT n p).n).length sc) (Dg.dg 65536 (rfT n p).n)
theorem RfsV.later {w w' : World} {n : Int} {ps : List ByteArray} {g cap : Nat} (h : RfsV w n ps g cap) (hb : Below w.heap.size w w') : RfsV w' n ps g cap :=
 ⟨h.fit, h.most, fun i p hp => by
  obtain ⟨so, sc, h1, h2⟩ := h.each i p hp
  exact ⟨so, sc, range_later h1 hb, h2.later hb⟩⟩
end Go.Proofs.YtnhackdjplppjaaGreatDoor
namespace Go.Proofs.YtnhackdjplppjaaGreatDoor
open Go.RowKit
set_option maxHeartbeats 3200000 in
theorem begun_sum (w : World) (g cap : Nat) (h : OpsV w 1 [patOne, patOne] g cap) :
  Calls Tryz.prog 54 #[.agg #[.int .i64 1, .int .i64 1, .int .i64 1, .int .i64 2, .int .i64 24, .int .i64 (-149), .int .i64 104, .bool true], .slice (some ⟨g, 0, none⟩) 2 cap] w (OpRes2 w 2 false ⟨false, 2, 0⟩ 0) := by
 obtain ⟨o1, o2, o3, o4⟩ := patOne_ok
 obtain ⟨xo, xc, hx, rx⟩ := h.each 0 patOne rfl
 obtain ⟨yo, yc, hy, ry⟩ := h.each 1 patOne rfl
 unfold opC at hx hy
 rw [o2, o3, o4] at hx hy
 rw [o4] at rx ry
 have hs := fun w1 (b : Below w.heap.size w w1) => dsum_num 1 1 1 2 24 (-149) 104 2 2 true false false ⟨false, 1, 0⟩ ⟨false, 1, 0⟩ xo yo xc yc false w1 rfl rfl rfl (fun w2 b2 => dplus_any _ _ ⟨false, 1, 0⟩ ⟨false, 1, 0⟩ w2 ⟨_, rfl, (rx.later b).later b2⟩ ⟨_, rfl, (ry.later b).later b2⟩ (by decide) (by decide) (by decide) (by decide) (by decide) (by decide))
 rw [one_plus, show numC ⟨false, 2, 0⟩ = 2 from rfl, show numG ⟨false, 2, 0⟩ false = false from rfl, show numT ⟨false, 2, 0⟩ = ⟨false, 2, 0⟩ from rfl] at hs
 exact add1_W 1 1 1 2 24 (-149) 104 2 2 2 0 true false false false ⟨false, 1, 0⟩ ⟨false, 1, 0⟩ ⟨false, 2, 0⟩ xo yo xc yc g cap w hx hy hs
set_option maxHeartbeats 3200000 in
theorem begun_answer (w : World) (ro : Option Addr) (rc : Nat) (hr : Rd w .u32 (.slice ro (Dg.dg 4294967296 2).length rc) (Dg.dg 4294967296 2)) (hT : Tab w) :
  Calls Tryz.prog 107 #[.agg #[.int .i64 1, .int .i64 1, .int .i64 1, .int .i64 2, .int .i64 24, .int .i64 (-149), .int .i64 104, .bool true], .agg #[.int .i64 2, .bool false, .bool false, .slice ro (Dg.dg 4294967296 2).length rc, .int .i64 0], .int .i64 0] w fun z w' => z = .returned (.tuple #[.string patTwo, .int .i64 0, .int .i64 0]) ∧ Below w.heap.size w w' := by
 refine answer_num 1 1 1 2 24 (-149) 104 0 true false ⟨false, 2, 0⟩ ro rc false 2 1 0 false 8388608 (-22) true false false 2 false 8388608 (-22) 0 0 patTwo 0 0 w (by kernel_rfl) ?_ ?_ ?_ ?_
 ·intro w1 b1
  refine ratioOf_W ⟨false, 2, 0⟩ ⟨false, 2, 0⟩ ro rc 0 0 2 1 w1 rfl ?_ (fun h => absurd h (by decide)) (fun _ => ⟨rfl, rfl, ?_⟩)
  ·intro w2 b2
   exact (kept_short ⟨false, 2, 0⟩ ro rc w2 ((hr.later b1).later b2) (by decide) (by decide)).mono (fun z w' h => ⟨_, h.1, ((hr.later b1).later b2).later h.2, h.2⟩)
  ·intro q w2 hq
   have := shifted_any (.slice (some ⟨q, 0, none⟩) 1 1) [1] 0 w2 (rd_one hq) (fun i => by
    match i with
    | 0 => decide
    | i + 1 => simp) (by simp) (by decide) (by decide)
   rw [show shN (Dg.vl 4294967296 [1]) 0 = 1 from rfl] at this
   exact this
 ·intro no nc mo mc w1 b1 h1 h2
  have := gRound_any false no nc [2] mo mc [1] 0 2 24 (-149) 104 true 1 w1 h1 h2 (fun i => by
    match i with
    | 0 => decide
    | i + 1 => simp) (fun i => by
    match i with
    | 0 => decide
    | i + 1 => simp)
  rw [two_round.1, two_round.2] at this
  exact this.mono (fun z w' h => by
   obtain ⟨v, rfl, own, b2⟩ := h
   obtain ⟨po, pc, hv⟩ := own.rd.shape
   subst hv
   exact ⟨po, pc, rfl, own.rd, b2⟩)
 ·intro po pc w1 b1 h1
  exact settle_in 1 1 1 2 24 (-149) 104 (-22) true false true false po _ pc 8388608 w1 rfl h1 (fun h => by cases h) 2 0 rfl rfl
 ·intro vo vc w1 b1 h1
  have := dencode_W 1 1 1 2 24 (-149) 104 2 (-22) 0 0 true false vo (Dg.dg 4294967296 8388608).length vc patTwo w1 (fun w2 b2 => by
   have := encode_any 1 2 false vo vc [8388608] (-22) w2 (h1.later b2) (fun i => by
    match i with
    | 0 => decide
    | i + 1 => simp) ((hT.later b1).later b2)
   rw [two_enc.1, two_enc.2] at this
   exact this)
  rw [if_pos rfl] at this
  exact this
set_option maxHeartbeats 3200000 in
theorem begun_add (w : World) (hT : Tab w) :
  Calls Tryz.prog 17 #[.int .i64 1, .string patOne, .string patOne, .int .i64 1] w fun z w' => z = .returned (.tuple #[.string patTwo, .int .i64 0, .int .i64 0]) ∧ Below w.heap.size w w' := by
 obtain ⟨o1, o2, o3, o4⟩ := patOne_ok
 refine add_W 1 1 0 0 patOne patOne patTwo w (fun pb w1 b1 hl => ?_)
 refine reckon_ok 1 2 24 (-149) 104 1 1 2 0 0 0 true false ⟨false, 2, 0⟩ _ 2 [patOne, patOne] pb patTwo w1 (by decide) (by decide) rfl (by decide) (by decide) (by unfold errL errL errL; rw [if_pos o1, if_pos o1]) (by simp [noNum, o2]) hl (fun args W => by kernel_rfl) (fun w2 => deskOf_any 1 (by decide) w2) (fun w2 b2 h2 => ?_) (fun g cap w2 _ hV => begun_sum w2 g cap hV) (fun ro rc w2 b2 h2 => begun_answer w2 ro rc h2 ((hT.later b1).later b2))
 exact operands_W 1 0 _ _ _ _ _ _ [patOne, patOne] pb w2 h2 (by simp) (fun p w3 b3 => wread_any 1 p w3 (((hT.later b1).later b2).later b3))
theorem made_run2 {P : Program} (W : World) (e src dst : TypeId) (zs : List Nat) (hs : P.underlying src = some (.slice e)) (he : P.underlying e = some (.int .u8)) (hd : P.underlying dst = some .string) (hm : zs.length ≤ maxLen) :
  (convert src dst (.slice (some ⟨W.heap.size, 0, none⟩) zs.length zs.length)).run P (W.alloc (.cells (zs.map (fun n : Nat => Value.int .u8 (n : Int))).toArray e)) = .ok (.string (strOf zs)) (W.alloc (.cells (zs.map (fun n : Nat => Value.int .u8 (n : Int))).toArray e)) :=
 convert_bytes src dst hs he hd (own_of_heap (base := W.heap.size) (heap_alloc_new _ _) (Nat.le_refl _) hm)
set_option maxHeartbeats 3200000 in
theorem arithBegun_any (w : World) (hT : Tab w) : Calls Tryz.prog 20 #[] w fun z w' => z = .returned (.bool true) ∧ Below w.heap.size w w' := by
 have hcA : ∀ W : World, (convert 110 9 (.slice (some ⟨W.heap.size, 0, none⟩) 4 4)).run Tryz.prog (W.alloc (.cells #[.int .u8 63, .int .u8 128, .int .u8 0, .int .u8 0] 5)) = .ok (.string patOne) (W.alloc (.cells #[.int .u8 63, .int .u8 128, .int .u8 0, .int .u8 0] 5)) := fun W => made_run2 W 5 110 9 [63, 128, 0, 0] Tryz.underlying110 Tryz.underlying5 Tryz.underlying9 (by unfold maxLen; simp)
 have hcB : ∀ W : World, (convert 110 9 (.slice (some ⟨W.heap.size, 0, none⟩) 4 4)).run Tryz.prog (W.alloc (.cells #[.int .u8 64, .int .u8 0, .int .u8 0, .int .u8 0] 5)) = .ok (.string patTwo) (W.alloc (.cells #[.int .u8 64, .int .u8 0, .int .u8 0, .int .u8 0] 5)) := fun W => made_run2 W 5 110 9 [64, 0, 0, 0] Tryz.underlying110 Tryz.underlying5 Tryz.underlying9 (by unfold maxLen; simp)
 have HA : Hid (∀ w1, Below w.heap.size w w1 → Calls Tryz.prog 17 #[.int .i64 1, .string patOne, .string patOne, .int .i64 1] w1 fun z w' => z = .returned (.tuple #[.string patTwo, .int .i64 0, .int .i64 0]) ∧ Below w1.heap.size w1 w') := fun w1 b => begun_add w1 (hT.later b)
 generalize patOne = pA at *
 generalize patTwo = pB at *
 have b1 := below_alloc w (.cells #[.int .u8 63, .int .u8 128, .int .u8 0, .int .u8 0] 5)
 clear hT
 go_enter Tryz.func20, Tryz.ntmps20
 go_wp2_with fail
 refine (HA.out _ b1).mono ?_
 rintro z w2 ⟨rfl, b2⟩
 have b02 := below_trans b1 b2
 have b3 := below_trans b02 (below_alloc w2 (.cells #[.int .u8 64, .int .u8 0, .int .u8 0, .int .u8 0] 5))
 clear b1 b2
 go_wp2
 go_ret
 exact ⟨rfl, b3⟩
end Go.Proofs.YtnhackdjplppjaaGreatDoor

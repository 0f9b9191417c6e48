/-
  Texts laid together: Gr5, Gm1, Dr1, Dy5, Dy6, Dy7, Dr2, Dt1.
-/
import Derived.Test.YtiiphandhpilgaaGreatDoorNd26
import Derived.Test.YtiiphandhpilgaaGreatDoorNd27
set_option maxRecDepth 100000
namespace Go.Proofs.YtiiphandhpilgaaGreatDoor
open Go.RowKit
def cutP (R D L : Int) (gr : Bool) (N M : Nat) (E : Int) : Int :=
 if (decide (powerR R D (topQ N M E) < L) && gr) = true then L else powerR R D (topQ N M E)
def shP (R D L : Int) (gr : Bool) (N M : Nat) (E : Int) : Int := E - (widthN R : Int) * cutP R D L gr N M E
def wholeP (R D L : Int) (gr : Bool) (N M : Nat) (E : Int) : Nat := numP N (shP R D L gr N M E) / denP M (shP R D L gr N M E)
def leftP (R D L : Int) (gr : Bool) (N M : Nat) (E : Int) : Nat := numP N (shP R D L gr N M E) % denP M (shP R D L gr N M E)
def goesP (R D L : Int) (gr qs : Bool) (N M : Nat) (E way : Int) : Bool :=
 awayB way (cmpI ((leftP R D L gr N M E * 2 : Nat) : Int) ((denP M (shP R D L gr N M E) : Nat) : Int)) (decide (wholeP R D L gr N M E % 2 = 1)) qs
def digP (R D L : Int) (gr qs : Bool) (N M : Nat) (E way : Int) : Nat :=
 if decide (leftP R D L gr N M E = 0) = false ∧ goesP R D L gr qs N M E way = true then wholeP R D L gr N M E + 1 else wholeP R D L gr N M E
def roundT (R D L G : Int) (gr qs : Bool) (N M : Nat) (E way : Int) : PlaceT :=
 if digP R D L gr qs N M E way = 0 then ⟨qs, 0, 0, decide (leftP R D L gr N M E = 0), false, decide (powerR R D (topQ N M E) < L)⟩
 else ⟨qs, carD R D (digP R D L gr qs N M E way), carP R D (digP R D L gr qs N M E way) (cutP R D L gr N M E), decide (leftP R D L gr N M E = 0), decide (G < carP R D (digP R D L gr qs N M E way) (cutP R D L gr N M E)), decide (powerR R D (topQ N M E) < L)⟩
theorem topQ_range (N M : Nat) (E : Int) (hla : (Dg.dg 4294967296 N).length ≤ 10000) (hlb : (Dg.dg 4294967296 M).length ≤ 10000) (e1 : -20000 ≤ E) (e2 : E ≤ 20000) : -340001 ≤ topQ N M E ∧ topQ N M E ≤ 340001 := by
 have h1 : bitLen N ≤ 32 * 10000 := bitLen_lenG hla
 have h2 : bitLen M ≤ 32 * 10000 := bitLen_lenG hlb
 unfold topQ
 split <;> omega
theorem powerR_range {R D t : Int} (h1 : 1 ≤ D) (h2 : D ≤ 120) (t1 : -340001 ≤ t) (t2 : t ≤ 340001) : -341000 ≤ powerR R D t ∧ powerR R D t ≤ 341000 ∧ -341000 ≤ (widthN R : Int) * powerR R D t ∧ (widthN R : Int) * powerR R D t ≤ 341000 := by
 unfold powerR widthN
 split <;> omega
theorem cutP_range {R D L G : Int} {gr : Bool} {N M : Nat} {E : Int} (hg : gridC R D L G = 0) (hla : (Dg.dg 4294967296 N).length ≤ 10000) (hlb : (Dg.dg 4294967296 M).length ≤ 10000) (e1 : -20000 ≤ E) (e2 : E ≤ 20000) : -341000 ≤ cutP R D L gr N M E ∧ cutP R D L gr N M E ≤ 341000 ∧ -341000 ≤ (widthN R : Int) * cutP R D L gr N M E ∧ (widthN R : Int) * cutP R D L gr N M E ≤ 341000 := by
 obtain ⟨hR, d1, d2, l1, l2, -, -, -, -⟩ := gridC_zero hg
 obtain ⟨t1, t2⟩ := topQ_range N M E hla hlb e1 e2
 have hp := powerR_range (R := R) d1 d2 t1 t2
 unfold cutP
 split
 ·have hw := widthN_le R
  unfold widthN
  split <;> omega
 ·exact hp
theorem wrap_mid (x : Int) (h1 : -1000000 ≤ x) (h2 : x ≤ 1000000) : IntKind.i64.wrap x = x := by
 exact IntWalk.i64_in _ ⟨by omega, by omega⟩
set_option maxHeartbeats 1600000 in
theorem ground_any (R D L G : Int) (gr qs : Bool) (ao : Option Addr) (ca : Nat) (bo : Option Addr) (cb : Nat) (N M : Nat) (E way : Int) (fn : FuncId) (w : World) (hg : gridC R D L G = 0)
  (ha : Rd w .u32 (.slice ao (Dg.dg 4294967296 N).length ca) (Dg.dg 4294967296 N)) (hb : Rd w .u32 (.slice bo (Dg.dg 4294967296 M).length cb) (Dg.dg 4294967296 M)) (hla : (Dg.dg 4294967296 N).length ≤ 10000) (hlb : (Dg.dg 4294967296 M).length ≤ 10000) (hM : 0 < M) (e1 : -20000 ≤ E) (e2 : E ≤ 20000)
  (HE : ∀ args W, Sem.run Tryz.prog (callFunc fn args) W = .ok (.enter fn args) W)
  (HAW : ∀ half odd neg w1, Calls Tryz.prog fn #[.agg #[.int .i64 half, .bool odd, .bool neg]] w1 fun z w' => z = .returned (.bool (awayB way half odd neg)) ∧ Below w1.heap.size w1 w') :
  Calls Tryz.prog 112 #[.agg #[.int .i64 R, .int .i64 D, .int .i64 L, .int .i64 G, .bool gr], .agg #[.bool qs, .slice ao (Dg.dg 4294967296 N).length ca, .slice bo (Dg.dg 4294967296 M).length cb, .int .i64 E], .func (.func fn) #[] #[]] w (PlaceRes w (roundT R D L G gr qs N M E way)) := by
 obtain ⟨hR, d1, d2, l1, l2, g1, g2, lg, l16⟩ := gridC_zero hg
 obtain ⟨t1, t2⟩ := topQ_range N M E hla hlb e1 e2
 obtain ⟨c1, c2, c3, c4⟩ := cutP_range (gr := gr) hg hla hlb e1 e2
 have hM0 : 0 < denP M (shP R D L gr N M E) := by unfold denP; split <;> first | exact Nat.mul_pos hM (Nat.pow_pos (by omega)) | exact hM
 have n1 : -500000 ≤ shP R D L gr N M E := by unfold shP; omega
 have n2 : shP R D L gr N M E ≤ 500000 := by unfold shP; omega
 have hNl : (Dg.dg 4294967296 (numP N (shP R D L gr N M E))).length ≤ 25626 := by
  unfold numP
  split
  ·omega
  ·exact Nat.le_trans (up_len32 N _ 10000 15626 hla (by omega)) (by omega)
 have hMl : (Dg.dg 4294967296 (denP M (shP R D L gr N M E))).length ≤ 25626 := by
  unfold denP
  split
  ·exact Nat.le_trans (up_len32 M _ 10000 15626 hlb (by omega)) (by omega)
  ·omega
 have hq : (Dg.dg 4294967296 (wholeP R D L gr N M E)).length ≤ 25626 := Nat.le_trans (dg_len_mono _ _ _ (by omega) (Nat.div_le_self _ _)) hNl
 have hr : (Dg.dg 4294967296 (leftP R D L gr N M E)).length ≤ 25626 := Nat.le_trans (dg_len_mono _ _ _ (by omega) (Nat.le_of_lt (Nat.mod_lt _ hM0))) hMl
 refine groundW_any R D L G gr qs ao _ ca bo _ cb E fn (topQ N M E) (powerR R D (topQ N M E)) (cutP R D L gr N M E) (widthN R) (wholeP R D L gr N M E) (leftP R D L gr N M E) (denP M (shP R D L gr N M E)) (cmpI ((leftP R D L gr N M E * 2 : Nat) : Int) ((denP M (shP R D L gr N M E) : Nat) : Int)) (decide (wholeP R D L gr N M E % 2 = 1)) (goesP R D L gr qs N M E way) (decide (powerR R D (topQ N M E) < L)) (decide (leftP R D L gr N M E = 0)) (decide (powerR R D (topQ N M E) < L) && gr) (digP R D L gr qs N M E way) (carD R D (digP R D L gr qs N M E way)) (carP R D (digP R D L gr qs N M E way) (cutP R D L gr N M E)) (roundT R D L G gr qs N M E way) w rfl rfl rfl ?_ ?_ ?_ ?_ ?_ ?_ ?_ ?_ HE ?_ ?_ ?_ ?_ ?_ ?_ ?_ ?_ ?_ ?_
 ·intro h
  exact if_pos h
 ·intro h
  exact if_neg (by rw [h]; decide)
 ·exact wrap_mid _ (by omega) (by omega)
 ·exact wrap_mid _ (by omega) (by omega)
 ·intro h1 h2
  exact if_pos ⟨h1, h2⟩
 ·intro h
  refine if_neg ?_
  rintro ⟨h1, h2⟩
  rcases h with h | h
  ·rw [h1] at h
   cases h
  ·rw [h2] at h
   cases h
 ·intro h
  exact if_pos h
 ·intro h
  exact if_neg h
 ·intro w1 b
  exact gtop_any qs ao ca bo cb N M E w1 (ha.later b) (hb.later b) hla hlb hM (by omega) (by omega)
 ·intro w1
  exact gpower_any R D L G gr _ w1 d1 d2 (by omega) (by omega)
 ·intro w1
  have := width_any R D L G gr w1
  rwa [widthR_nat] at this
 ·intro w1 b
  exact gparts_any qs ao ca bo cb N M E (shP R D L gr N M E) w1 (ha.later b) (hb.later b) (by omega) (by omega) hM n1 n2
 ·intro v w1 h
  have := shifted_any v _ 1 w1 h (Dg.small_dg _ _ (by omega)) (by omega) (by omega) (by omega)
  rw [Dg.vl_dg _ _ (by omega)] at this
  exact this
 ·intro v u w1 h1 h2
  have := compare_any v u _ _ w1 h1 h2 (Dg.small_dg _ _ (by omega)) (Dg.small_dg _ _ (by omega)) (Dg.norm_dg _ _ (by omega)) (Dg.norm_dg _ _ (by omega))
  rwa [Dg.vl_dg _ _ (by omega), Dg.vl_dg _ _ (by omega)] at this
 ·intro v w1 h
  exact odd_any v _ w1 h
 ·intro w1
  exact HAW _ _ _ w1
 ·intro v u w1 h1 h2
  have := plus_any v u _ _ w1 h1 h2 (Dg.small_dg _ _ (by omega)) (Dg.small_cons.2 ⟨by omega, Dg.small_nil _ (by omega)⟩) (by omega) (by simp)
  rwa [Dg.vl_dg _ _ (by omega), show Dg.vl 4294967296 [1] = 1 from rfl] at this
 ·intro v base w1 ho hbs
  exact gcarried_any R D L G gr v _ _ base w1 ho hbs d1 d2 (by omega) (by omega)
end Go.Proofs.YtiiphandhpilgaaGreatDoor
namespace Go.Proofs.YtiiphandhpilgaaGreatDoor
open Go.RowKit
theorem numP_pow (N : Nat) (n : Int) : numP N n = N * 2 ^ n.toNat := by
 unfold numP
 split
 ·rw [show n.toNat = 0 by omega, Nat.pow_zero, Nat.mul_one]
 ·rfl
theorem denP_pow (M : Nat) (n : Int) : denP M n = M * 2 ^ (-n).toNat := by
 unfold denP
 split
 ·rfl
 ·rw [show (-n).toNat = 0 by omega, Nat.pow_zero, Nat.mul_one]
theorem two_pos (k : Nat) : 0 < 2 ^ k := Nat.pow_pos (by omega)
theorem ge_mono {N M a b a' b' : Nat} (h : M * 2 ^ b ≤ N * 2 ^ a) (hk : b' + a ≤ b + a') : M * 2 ^ b' ≤ N * 2 ^ a' := by
 refine Nat.le_of_mul_le_mul_right (c := 2 ^ a) ?_ (two_pos a)
 calc M * 2 ^ b' * 2 ^ a = M * 2 ^ (b' + a) := by rw [Nat.mul_assoc, ← Nat.pow_add]
  _ ≤ M * 2 ^ (b + a') := Nat.mul_le_mul_left _ (Nat.pow_le_pow_right (by omega) hk)
  _ = M * 2 ^ b * 2 ^ a' := by rw [Nat.mul_assoc, ← Nat.pow_add]
  _ ≤ N * 2 ^ a * 2 ^ a' := Nat.mul_le_mul_right _ h
  _ = N * 2 ^ a' * 2 ^ a := by rw [Nat.mul_right_comm]
theorem topQ_zero (N M : Nat) (E : Int) : topQ N M E = E + topQ N M 0 := by
 unfold topQ
 omega
theorem top_iff (N M a b : Nat) (hN : N ≠ 0) (hM : M ≠ 0) : M * 2 ^ b ≤ N * 2 ^ a ↔ (b : Int) ≤ topQ N M 0 + a := by
 obtain ⟨n1, n2, n3⟩ := bitLen_hi N hN
 obtain ⟨m1, m2, m3⟩ := bitLen_hi M hM
 obtain ⟨ln, hln⟩ : ∃ ln, bitLen N = ln := ⟨_, rfl⟩
 obtain ⟨lm, hlm⟩ : ∃ lm, bitLen M = lm := ⟨_, rfl⟩
 have ht : topQ N M 0 = 0 + (((ln : Int) - (lm : Int)) - (if numP N (-((ln : Int) - (lm : Int))) / denP M (-((ln : Int) - (lm : Int))) = 0 then 1 else 0)) := by
  unfold topQ
  rw [hln, hlm]
 rw [hln] at n1 n2 n3
 rw [hlm] at m1 m2 m3
 have low : M * 2 ^ (ln - 1) ≤ N * 2 ^ lm := by
  rw [Nat.mul_comm]
  exact Nat.mul_le_mul n2 (Nat.le_of_lt m3)
 have high : ¬M * 2 ^ ln ≤ N * 2 ^ (lm - 1) := by
  have h1 : N * 2 ^ (lm - 1) < 2 ^ ln * 2 ^ (lm - 1) := Nat.mul_lt_mul_of_pos_right n3 (two_pos _)
  have h2 : 2 ^ ln * 2 ^ (lm - 1) ≤ M * 2 ^ ln := by
   rw [Nat.mul_comm (2 ^ ln)]
   exact Nat.mul_le_mul_right _ m2
  omega
 have hq : numP N (-((ln : Int) - (lm : Int))) / denP M (-((ln : Int) - (lm : Int))) = 0 ↔ ¬M * 2 ^ (ln - lm) ≤ N * 2 ^ (lm - ln) := by
  rw [numP_pow, denP_pow, show (-((ln : Int) - (lm : Int))).toNat = lm - ln by omega, show (-(-((ln : Int) - (lm : Int)))).toNat = ln - lm by omega, Nat.div_eq_zero_iff]
  have := Nat.mul_pos (Nat.pos_of_ne_zero hM) (two_pos (ln - lm))
  omega
 by_cases hz : numP N (-((ln : Int) - (lm : Int))) / denP M (-((ln : Int) - (lm : Int))) = 0
 ·rw [if_pos hz] at ht
  have h0 := hq.1 hz
  constructor
  ·intro h
   refine Decidable.byContradiction fun c => h0 (ge_mono h ?_)
   omega
  ·intro h
   exact ge_mono low (by omega)
 ·rw [if_neg hz] at ht
  have h0 : M * 2 ^ (ln - lm) ≤ N * 2 ^ (lm - ln) := Decidable.byContradiction fun c => hz (hq.2 c)
  constructor
  ·intro h
   refine Decidable.byContradiction fun c => high (ge_mono h ?_)
   omega
  ·intro h
   exact ge_mono h0 (by omega)
theorem whole_ge (N M : Nat) (n : Int) (j : Nat) (hN : N ≠ 0) (hM : M ≠ 0) : 2 ^ j ≤ numP N n / denP M n ↔ (j : Int) ≤ topQ N M 0 + n := by
 rw [numP_pow, denP_pow, Nat.le_div_iff_mul_le (Nat.mul_pos (Nat.pos_of_ne_zero hM) (two_pos _)), ← Nat.mul_assoc, Nat.mul_comm (2 ^ j), Nat.mul_assoc, ← Nat.pow_add, top_iff N M _ _ hN hM]
 omega
theorem lt_bits (d m : Nat) : bitLen d < m + 1 ↔ ¬2 ^ m ≤ d := by
 constructor
 ·intro h c
  have hd : d ≠ 0 := by
   have := two_pos m
   omega
  obtain ⟨-, -, h3⟩ := bitLen_hi d hd
  have : (2 : Nat) ^ bitLen d ≤ 2 ^ m := Nat.pow_le_pow_right (by omega) (by omega)
  omega
 ·intro h
  have := bitLen_le_of d m (by omega)
  omega
theorem seek_iff (R D k : Int) (N M : Nat) (E : Int) (h1 : 1 ≤ D) (hN : N ≠ 0) (hM : M ≠ 0) :
  bitLen (numP N (E - (widthN R : Int) * k) / denP M (E - (widthN R : Int) * k)) < widthN R * (D - 1).toNat + 1 ↔ powerR R D (topQ N M E) < k := by
 rw [lt_bits, whole_ge N M _ _ hN hM, topQ_zero N M E]
 unfold powerR
 obtain ⟨t, ht⟩ : ∃ t, topQ N M 0 = t := ⟨_, rfl⟩
 rw [ht]
 unfold widthN
 split <;> simp <;> omega
theorem whole_lt (R D L : Int) (gr : Bool) (N M : Nat) (E : Int) (h1 : 1 ≤ D) (hN : N ≠ 0) (hM : M ≠ 0) : wholeP R D L gr N M E < 2 ^ (widthN R * D.toNat) := by
 refine Nat.lt_of_not_le fun c => ?_
 unfold wholeP shP at c
 rw [whole_ge N M _ _ hN hM] at c
 have hc : powerR R D (topQ N M E) ≤ cutP R D L gr N M E := by
  unfold cutP
  by_cases h : (decide (powerR R D (topQ N M E) < L) && gr) = true
  ·rw [if_pos h]
   have := of_decide_eq_true (Bool.and_eq_true_iff.1 h).1
   omega
  ·rw [if_neg h]
   exact Int.le_refl _
 obtain ⟨k, hk⟩ : ∃ k, cutP R D L gr N M E = k := ⟨_, rfl⟩
 rw [hk] at c hc
 rw [topQ_zero] at hc
 obtain ⟨t, ht⟩ : ∃ t, topQ N M 0 = t := ⟨_, rfl⟩
 rw [ht] at c hc
 unfold powerR widthN at hc
 unfold widthN at c
 split at c <;> simp_all <;> omega
theorem whole_pos (R D L : Int) (gr : Bool) (N M : Nat) (E : Int) (h1 : 1 ≤ D) (hN : N ≠ 0) (hM : M ≠ 0) (h : cutP R D L gr N M E = powerR R D (topQ N M E)) : 0 < wholeP R D L gr N M E := by
 have h2 : ¬bitLen (wholeP R D L gr N M E) < widthN R * (D - 1).toNat + 1 := by
  unfold wholeP shP
  rw [h, seek_iff R D _ N M E h1 hN hM]
  omega
 have : wholeP R D L gr N M E ≠ 0 := by
  intro c
  rw [c] at h2
  simp at h2
  rw [bitLen_zero] at h2
  omega
 omega
theorem dig_short (R D L : Int) (gr : Bool) (N M : Nat) (E : Int) (h1 : 1 ≤ D) (hN : N ≠ 0) (hM : M ≠ 0) (p : Int) : carD R D (wholeP R D L gr N M E) = wholeP R D L gr N M E ∧ carP R D (wholeP R D L gr N M E) p = p := by
 have h := whole_lt R D L gr N M E h1 hN hM
 unfold carD carP
 rw [if_neg (by omega), if_neg (by omega)]
 exact ⟨rfl, rfl⟩
theorem carD_zero (R D : Int) (d : Nat) : carD R D d = 0 ↔ d = 0 := by
 unfold carD
 have h1 := two_pos (widthN R * D.toNat)
 have h2 := two_pos (widthN R * (D - 1).toNat)
 split <;> omega
theorem dig_ge (R D L : Int) (gr qs : Bool) (N M : Nat) (E way : Int) : wholeP R D L gr N M E ≤ digP R D L gr qs N M E way := by
 unfold digP
 split <;> omega
theorem roundT_flat {R D L G : Int} (gr qs : Bool) (N M : Nat) (E way : Int) (h1 : 1 ≤ D) (hLG : L ≤ G) (hN : N ≠ 0) (hM : M ≠ 0) :
  roundT R D L G gr qs N M E way = ⟨qs, carD R D (digP R D L gr qs N M E way), if carD R D (digP R D L gr qs N M E way) = 0 then 0 else carP R D (digP R D L gr qs N M E way) (cutP R D L gr N M E), decide (leftP R D L gr N M E = 0), decide (G < carP R D (digP R D L gr qs N M E way) (cutP R D L gr N M E)), decide (powerR R D (topQ N M E) < L)⟩ := by
 unfold roundT
 by_cases h0 : digP R D L gr qs N M E way = 0
 ·have hw : wholeP R D L gr N M E = 0 := by
   have := dig_ge R D L gr qs N M E way
   omega
  have hc : cutP R D L gr N M E = L := by
   refine Decidable.byContradiction fun c => ?_
   have e : cutP R D L gr N M E = powerR R D (topQ N M E) := by
    unfold cutP at c ⊢
    split at c
    ·exact absurd rfl c
    ·rw [if_neg (by assumption)]
   have := whole_pos R D L gr N M E h1 hN hM e
   omega
  have hd := dig_short R D L gr N M E h1 hN hM (cutP R D L gr N M E)
  rw [if_pos h0, h0, if_pos ((carD_zero R D 0).2 rfl), (carD_zero R D 0).2 rfl]
  rw [hw] at hd
  rw [hd.2, hc, decide_eq_false (show ¬G < L by omega)]
 ·rw [if_neg h0, if_neg (fun c => h0 ((carD_zero R D _).1 c))]
end Go.Proofs.YtiiphandhpilgaaGreatDoor
namespace Go.Proofs.YtiiphandhpilgaaGreatDoor
open Go.RowKit
def Rv (w : World) (v : Value) (t : Trip) : Prop := ∃ s, v = .agg #[.bool t.s, s, .int .i64 t.e] ∧ Rd w .i64 s (Dg.dg 65536 t.n)
theorem Rv.later {w w' : World} {v : Value} {t : Trip} (h : Rv w v t) (hb : Below w.heap.size w w') : Rv w' v t := by
 obtain ⟨s, hv, hr⟩ := h
 exact ⟨s, hv, hr.later hb⟩
def ZB (w : World) (b : Nat) : Prop := b < w.heap.size ∧ ∃ ty, w.heap[b]? = some (.cells #[.bool false, .slice none 0 0, .int .i64 0] ty (0, 0))
theorem ZB.later {w w' : World} {b : Nat} (h : ZB w b) (hb : Below w.heap.size w w') : ZB w' b := by
 obtain ⟨hl, ty, hh⟩ := h
 exact ⟨Nat.lt_of_lt_of_le hl hb.size, ty, (hb.block b hl).trans hh⟩
theorem ZB.rd {w : World} {b : Nat} {v : Value} {zs : List Nat} (h : ZB w b) (hr : Rd w .i64 v zs) (hn : Dg.Norm zs) (x0 x1 x2 : Value) :
  Rd (((w.setCell ⟨b, 0, none⟩ x0).setCell ⟨b, 1, none⟩ x1).setCell ⟨b, 2, none⟩ x2) .i64 v zs := by
 obtain ⟨hl, ty, hh⟩ := h
 obtain ⟨ao, cap, rfl, h1, h2, h3⟩ := hr
 refine ⟨ao, cap, rfl, h1, h2, fun hp => ?_⟩
 obtain ⟨c, off, rfl, hc⟩ := h3 hp
 refine ⟨c, off, rfl, fun i hi => ?_⟩
 have hne : c ≠ b := by
  intro e
  subst e
  have k1 := hc (zs.length - 1) (by omega)
  have hz := hn (List.length_pos_iff.1 hp)
  unfold World.cell? at k1
  simp only [hh] at k1
  obtain ⟨o, ho⟩ : ∃ o, off + (zs.length - 1) = o := ⟨_, rfl⟩
  rw [ho] at k1
  generalize zs.getD (zs.length - 1) 0 = d at *
  match o, k1 with
  | 0, k1 => simp at k1
  | 1, k1 => simp at k1
  | 2, k1 => simp at k1; omega
  | o + 3, k1 => simp at k1
 rw [World.cell?_setCell_other (h := by simp), World.cell?_setCell_other (h := by simp), World.cell?_setCell_other (h := by simp)]
 exact hc i hi
end Go.Proofs.YtiiphandhpilgaaGreatDoor
namespace Go.Proofs.YtiiphandhpilgaaGreatDoor
open Go.RowKit
def dchk (xs : List Nat) (e : Int) : Int := if chk xs = 0 then (if e < -20000 ∨ 20000 < e then 3 else 0) else chk xs
theorem dcheck_any (s : Bool) (ao : Option Addr) (ca : Nat) (xs : List Nat) (e : Int) (w : World) (hr : Rd w .u32 (.slice ao xs.length ca) xs) :
  Calls Tryz.prog 99 #[.agg #[.bool s, .slice ao xs.length ca, .int .i64 e]] w fun z w' => z = .returned (.int .i64 (dchk xs e)) ∧ Below w.heap.size w w' := by
 have bA := below_alloc w (.cells #[.bool s, .slice ao xs.length ca, .int .i64 e] 87)
 have hk := check_any _ xs _ (hr.later bA)
 unfold dchk
 obtain ⟨c, hc⟩ : ∃ c, chk xs = c := ⟨_, rfl⟩
 rw [hc] at hk ⊢
 clear hc hr
 by_cases h : c = 0
 ·subst h
  rw [if_pos rfl]
  by_cases h1 : e < -20000
  ·rw [if_pos (Or.inl h1)]
   go_enter Tryz.func99, Tryz.ntmps99
   go_wp2_with fail
   refine hk.mono ?_
   rintro z w' ⟨rfl, rfl⟩
   clear hk
   go_wp2
   go_ret
   exact ⟨rfl, bA⟩
  ·by_cases h2 : 20000 < e
   ·rw [if_pos (Or.inr h2)]
    go_enter Tryz.func99, Tryz.ntmps99
    go_wp2_with fail
    refine hk.mono ?_
    rintro z w' ⟨rfl, rfl⟩
    clear hk
    go_wp2
    go_ret
    exact ⟨rfl, bA⟩
   ·rw [if_neg (by omega)]
    go_enter Tryz.func99, Tryz.ntmps99
    go_wp2_with fail
    refine hk.mono ?_
    rintro z w' ⟨rfl, rfl⟩
    clear hk
    go_wp2
    go_ret
    exact ⟨rfl, bA⟩
 ·rw [if_neg h]
  go_enter Tryz.func99, Tryz.ntmps99
  go_wp2_with fail
  refine hk.mono ?_
  rintro z w' ⟨rfl, rfl⟩
  clear hk
  go_wp2
  go_ret
  exact ⟨rfl, bA⟩
end Go.Proofs.YtiiphandhpilgaaGreatDoor
namespace Go.Proofs.YtiiphandhpilgaaGreatDoor
open Go.RowKit
theorem tz_fits (n L : Nat) (h : (Dg.dg 4294967296 n).length ≤ L) : tz n ≤ 32 * L := by
 by_cases h0 : n = 0
 ·subst h0; exact Nat.zero_le _
 ·obtain ⟨m, hm⟩ := tz_spec h0
  have h1 := Dg.vl_lt 4294967296 (Dg.dg 4294967296 n) (Dg.small_dg _ _ (by omega))
  rw [Dg.vl_dg _ _ (by omega)] at h1
  have h2 : 4294967296 ^ (Dg.dg 4294967296 n).length ≤ 4294967296 ^ L := Nat.pow_le_pow_right (by omega) h
  have h3 : (4294967296 : Nat) ^ L = 2 ^ (32 * L) := by rw [Nat.pow_mul]
  have h4 : 2 ^ tz n * 1 ≤ 2 ^ tz n * (2 * m + 1) := Nat.mul_le_mul_left _ (by omega)
  rw [← hm, Nat.mul_one] at h4
  have h5 : 2 ^ tz n < 2 ^ (32 * L) := by rw [← h3]; omega
  exact Nat.le_of_lt ((Nat.pow_lt_pow_iff_right (by omega)).1 h5)
def dbothR (c : Int) (t : Trip) : Trip × Int := if c = 0 then shortT t else (⟨false, 0, 0⟩, c)
theorem dchk_zero {xs : List Nat} {e : Int} (h : dchk xs e = 0) : chk xs = 0 ∧ -20000 ≤ e ∧ e ≤ 20000 := by
 unfold dchk at h
 by_cases h1 : chk xs = 0
 ·rw [if_pos h1] at h
  by_cases h2 : e < -20000 ∨ 20000 < e
  ·rw [if_pos h2] at h; omega
  ·exact ⟨h1, by omega, by omega⟩
 ·rw [if_neg h1] at h; exact absurd h h1
theorem locals3 (w : World) (a0 a1 a2 b0 b1 b2 c0 c1 c2 : Value) (ta tb tc : TypeId) :
  Loc (((w.alloc (.cells #[a0, a1, a2] ta)).alloc (.cells #[b0, b1, b2] tb)).alloc (.cells #[c0, c1, c2] tc)) w.heap.size a0 a1 a2 ∧
  Loc (((w.alloc (.cells #[a0, a1, a2] ta)).alloc (.cells #[b0, b1, b2] tb)).alloc (.cells #[c0, c1, c2] tc)) (w.heap.size + 1) b0 b1 b2 ∧
  Loc (((w.alloc (.cells #[a0, a1, a2] ta)).alloc (.cells #[b0, b1, b2] tb)).alloc (.cells #[c0, c1, c2] tc)) (w.heap.size + 1 + 1) c0 c1 c2 ∧
  Below w.heap.size w (((w.alloc (.cells #[a0, a1, a2] ta)).alloc (.cells #[b0, b1, b2] tb)).alloc (.cells #[c0, c1, c2] tc)) ∧
  (((w.alloc (.cells #[a0, a1, a2] ta)).alloc (.cells #[b0, b1, b2] tb)).alloc (.cells #[c0, c1, c2] tc)).heap.size = w.heap.size + 1 + 1 + 1 := by
 have la := loc_new w a0 a1 a2 ta
 have lb := loc_new (w.alloc (.cells #[a0, a1, a2] ta)) b0 b1 b2 tb
 have lc := loc_new ((w.alloc (.cells #[a0, a1, a2] ta)).alloc (.cells #[b0, b1, b2] tb)) c0 c1 c2 tc
 have bB := below_alloc (w.alloc (.cells #[a0, a1, a2] ta)) (.cells #[b0, b1, b2] tb)
 have bC := below_alloc ((w.alloc (.cells #[a0, a1, a2] ta)).alloc (.cells #[b0, b1, b2] tb)) (.cells #[c0, c1, c2] tc)
 refine ⟨(la.later bB).later bC, ?_, ?_, below_trans (below_trans (below_alloc w _) bB) bC, by simp [World.size_alloc]⟩
 ·have := lb.later bC
  rwa [World.size_alloc] at this
 ·rwa [World.size_alloc, World.size_alloc] at lc
end Go.Proofs.YtiiphandhpilgaaGreatDoor
namespace Go.Proofs.YtiiphandhpilgaaGreatDoor
open Go.RowKit
theorem dv_of {w : World} {s : Bool} {ao : Option Addr} {ca : Nat} {xs : List Nat} {e : Int} (hr : Rd w .u32 (.slice ao xs.length ca) xs) (sa : Dg.Small 4294967296 xs) (hn : Dg.Norm xs) :
  Dv w (.agg #[.bool s, .slice ao xs.length ca, .int .i64 e]) ⟨s, Dg.vl 4294967296 xs, e⟩ := by
 have h := Dg.eq_dg 4294967296 (by omega) xs _ sa hn rfl
 refine ⟨_, rfl, ?_⟩
 simp only
 rw [← h]
 exact hr
end Go.Proofs.YtiiphandhpilgaaGreatDoor
namespace Go.Proofs.YtiiphandhpilgaaGreatDoor
open Go.RowKit
theorem dg16_len (n L : Nat) (h : (Dg.dg 4294967296 n).length ≤ L) : (Dg.dg 65536 n).length ≤ 2 * L := by
 apply Dg.dg_len_le 65536 _ _ (by omega)
 have h1 := Dg.vl_lt 4294967296 (Dg.dg 4294967296 n) (Dg.small_dg _ _ (by omega))
 rw [Dg.vl_dg _ _ (by omega)] at h1
 have h2 : 4294967296 ^ (Dg.dg 4294967296 n).length ≤ 4294967296 ^ L := Nat.pow_le_pow_right (by omega) h
 rw [pow_two]
 omega
end Go.Proofs.YtiiphandhpilgaaGreatDoor
namespace Go.Proofs.YtiiphandhpilgaaGreatDoor
theorem dchk_of {n : Nat} {e : Int} (h : (Dg.dg 4294967296 n).length ≤ 1200) (h1 : -20000 ≤ e) (h2 : e ≤ 20000) : dchk (Dg.dg 4294967296 n) e = 0 := by
 unfold dchk
 rw [chk_of (Dg.norm_dg _ _ (by omega)) h, if_pos rfl, if_neg (by omega)]
end Go.Proofs.YtiiphandhpilgaaGreatDoor

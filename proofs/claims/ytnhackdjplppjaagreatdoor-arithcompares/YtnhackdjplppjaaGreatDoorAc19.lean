/-
  Texts laid together: Gr5, Gm1, Gr6, Gr7.
-/
import Derived.Test.YtnhackdjplppjaaGreatDoorAc18
set_option maxRecDepth 100000
namespace Go.Proofs.YtnhackdjplppjaaGreatDoor
open Go.RowKit
def cutP (R D L : Int) (gr : Bool) (N M : Nat) (E : Int) : Int :=
 if (decide (powerR R D (topQ N M E) < L) && gr) = true then L else powerR R D (topQ N M E)
def shP (R D L : Int) (gr : Bool) (N M : Nat) (E : Int) : Int := E - (widthN R : Int) * cutP R D L gr N M E
def wholeP (R D L : Int) (gr : Bool) (N M : Nat) (E : Int) : Nat := numP N (shP R D L gr N M E) / denP M (shP R D L gr N M E)
def leftP (R D L : Int) (gr : Bool) (N M : Nat) (E : Int) : Nat := numP N (shP R D L gr N M E) % denP M (shP R D L gr N M E)
def goesP (R D L : Int) (gr qs : Bool) (N M : Nat) (E way : Int) : Bool :=
 awayB way (cmpI ((leftP R D L gr N M E * 2 : Nat) : Int) ((denP M (shP R D L gr N M E) : Nat) : Int)) (decide (wholeP R D L gr N M E % 2 = 1)) qs
def digP (R D L : Int) (gr qs : Bool) (N M : Nat) (E way : Int) : Nat :=
 if decide (leftP R D L gr N M E = 0) = false ∧ goesP R D L gr qs N M E way = true then wholeP R D L gr N M E + 1 else wholeP R D L gr N M E
def roundT (R D L G : Int) (gr qs : Bool) (N M : Nat) (E way : Int) : PlaceT :=
 if digP R D L gr qs N M E way = 0 then ⟨qs, 0, 0, decide (leftP R D L gr N M E = 0), false, decide (powerR R D (topQ N M E) < L)⟩
 else ⟨qs, carD R D (digP R D L gr qs N M E way), carP R D (digP R D L gr qs N M E way) (cutP R D L gr N M E), decide (leftP R D L gr N M E = 0), decide (G < carP R D (digP R D L gr qs N M E way) (cutP R D L gr N M E)), decide (powerR R D (topQ N M E) < L)⟩
theorem topQ_range (N M : Nat) (E : Int) (hla : (Dg.dg 4294967296 N).length ≤ 10000) (hlb : (Dg.dg 4294967296 M).length ≤ 10000) (e1 : -20000 ≤ E) (e2 : E ≤ 20000) : -340001 ≤ topQ N M E ∧ topQ N M E ≤ 340001 := by
 have h1 : bitLen N ≤ 32 * 10000 := bitLen_lenG hla
 have h2 : bitLen M ≤ 32 * 10000 := bitLen_lenG hlb
 unfold topQ
 split <;> omega
theorem powerR_range {R D t : Int} (h1 : 1 ≤ D) (h2 : D ≤ 120) (t1 : -340001 ≤ t) (t2 : t ≤ 340001) : -341000 ≤ powerR R D t ∧ powerR R D t ≤ 341000 ∧ -341000 ≤ (widthN R : Int) * powerR R D t ∧ (widthN R : Int) * powerR R D t ≤ 341000 := by
 unfold powerR widthN
 split <;> omega
theorem cutP_range {R D L G : Int} {gr : Bool} {N M : Nat} {E : Int} (hg : gridC R D L G = 0) (hla : (Dg.dg 4294967296 N).length ≤ 10000) (hlb : (Dg.dg 4294967296 M).length ≤ 10000) (e1 : -20000 ≤ E) (e2 : E ≤ 20000) : -341000 ≤ cutP R D L gr N M E ∧ cutP R D L gr N M E ≤ 341000 ∧ -341000 ≤ (widthN R : Int) * cutP R D L gr N M E ∧ (widthN R : Int) * cutP R D L gr N M E ≤ 341000 := by
 obtain ⟨hR, d1, d2, l1, l2, -, -, -, -⟩ := gridC_zero hg
 obtain ⟨t1, t2⟩ := topQ_range N M E hla hlb e1 e2
 have hp := powerR_range (R := R) d1 d2 t1 t2
 unfold cutP
 split
 ·have hw := widthN_le R
  unfold widthN
  split <;> omega
 ·exact hp
theorem wrap_mid (x : Int) (h1 : -1000000 ≤ x) (h2 : x ≤ 1000000) : IntKind.i64.wrap x = x := by
 exact IntWalk.i64_in _ ⟨by omega, by omega⟩
set_option maxHeartbeats 1600000 in
theorem ground_any (R D L G : Int) (gr qs : Bool) (ao : Option Addr) (ca : Nat) (bo : Option Addr) (cb : Nat) (N M : Nat) (E way : Int) (fn : FuncId) (w : World) (hg : gridC R D L G = 0)
  (ha : Rd w .u32 (.slice ao (Dg.dg 4294967296 N).length ca) (Dg.dg 4294967296 N)) (hb : Rd w .u32 (.slice bo (Dg.dg 4294967296 M).length cb) (Dg.dg 4294967296 M)) (hla : (Dg.dg 4294967296 N).length ≤ 10000) (hlb : (Dg.dg 4294967296 M).length ≤ 10000) (hM : 0 < M) (e1 : -20000 ≤ E) (e2 : E ≤ 20000)
  (HE : ∀ args W, Sem.run Tryz.prog (callFunc fn args) W = .ok (.enter fn args) W)
  (HAW : ∀ half odd neg w1, Calls Tryz.prog fn #[.agg #[.int .i64 half, .bool odd, .bool neg]] w1 fun z w' => z = .returned (.bool (awayB way half odd neg)) ∧ Below w1.heap.size w1 w') :
  Calls Tryz.prog 144 #[.agg #[.int .i64 R, .int .i64 D, .int .i64 L, .int .i64 G, .bool gr], .agg #[.bool qs, .slice ao (Dg.dg 4294967296 N).length ca, .slice bo (Dg.dg 4294967296 M).length cb, .int .i64 E], .func (.func fn) #[] #[]] w (PlaceRes w (roundT R D L G gr qs N M E way)) := by
 obtain ⟨hR, d1, d2, l1, l2, g1, g2, lg, l16⟩ := gridC_zero hg
 obtain ⟨t1, t2⟩ := topQ_range N M E hla hlb e1 e2
 obtain ⟨c1, c2, c3, c4⟩ := cutP_range (gr := gr) hg hla hlb e1 e2
 have hM0 : 0 < denP M (shP R D L gr N M E) := by unfold denP; split <;> first | exact Nat.mul_pos hM (Nat.pow_pos (by omega)) | exact hM
 have n1 : -500000 ≤ shP R D L gr N M E := by unfold shP; omega
 have n2 : shP R D L gr N M E ≤ 500000 := by unfold shP; omega
 have hNl : (Dg.dg 4294967296 (numP N (shP R D L gr N M E))).length ≤ 25626 := by
  unfold numP
  split
  ·omega
  ·exact Nat.le_trans (up_len32 N _ 10000 15626 hla (by omega)) (by omega)
 have hMl : (Dg.dg 4294967296 (denP M (shP R D L gr N M E))).length ≤ 25626 := by
  unfold denP
  split
  ·exact Nat.le_trans (up_len32 M _ 10000 15626 hlb (by omega)) (by omega)
  ·omega
 have hq : (Dg.dg 4294967296 (wholeP R D L gr N M E)).length ≤ 25626 := Nat.le_trans (dg_len_mono _ _ _ (by omega) (Nat.div_le_self _ _)) hNl
 have hr : (Dg.dg 4294967296 (leftP R D L gr N M E)).length ≤ 25626 := Nat.le_trans (dg_len_mono _ _ _ (by omega) (Nat.le_of_lt (Nat.mod_lt _ hM0))) hMl
 refine groundW_any R D L G gr qs ao _ ca bo _ cb E fn (topQ N M E) (powerR R D (topQ N M E)) (cutP R D L gr N M E) (widthN R) (wholeP R D L gr N M E) (leftP R D L gr N M E) (denP M (shP R D L gr N M E)) (cmpI ((leftP R D L gr N M E * 2 : Nat) : Int) ((denP M (shP R D L gr N M E) : Nat) : Int)) (decide (wholeP R D L gr N M E % 2 = 1)) (goesP R D L gr qs N M E way) (decide (powerR R D (topQ N M E) < L)) (decide (leftP R D L gr N M E = 0)) (decide (powerR R D (topQ N M E) < L) && gr) (digP R D L gr qs N M E way) (carD R D (digP R D L gr qs N M E way)) (carP R D (digP R D L gr qs N M E way) (cutP R D L gr N M E)) (roundT R D L G gr qs N M E way) w rfl rfl rfl ?_ ?_ ?_ ?_ ?_ ?_ ?_ ?_ HE ?_ ?_ ?_ ?_ ?_ ?_ ?_ ?_ ?_ ?_
 ·intro h
  exact if_pos h
 ·intro h
  exact if_neg (by rw [h]; decide)
 ·exact wrap_mid _ (by omega) (by omega)
 ·exact wrap_mid _ (by omega) (by omega)
 ·intro h1 h2
  exact if_pos ⟨h1, h2⟩
 ·intro h
  refine if_neg ?_
  rintro ⟨h1, h2⟩
  rcases h with h | h
  ·rw [h1] at h
   cases h
  ·rw [h2] at h
   cases h
 ·intro h
  exact if_pos h
 ·intro h
  exact if_neg h
 ·intro w1 b
  exact gtop_any qs ao ca bo cb N M E w1 (ha.later b) (hb.later b) hla hlb hM (by omega) (by omega)
 ·intro w1
  exact gpower_any R D L G gr _ w1 d1 d2 (by omega) (by omega)
 ·intro w1
  have := width_any R D L G gr w1
  rwa [widthR_nat] at this
 ·intro w1 b
  exact gparts_any qs ao ca bo cb N M E (shP R D L gr N M E) w1 (ha.later b) (hb.later b) (by omega) (by omega) hM n1 n2
 ·intro v w1 h
  have := shifted_any v _ 1 w1 h (Dg.small_dg _ _ (by omega)) (by omega) (by omega) (by omega)
  rw [Dg.vl_dg _ _ (by omega)] at this
  exact this
 ·intro v u w1 h1 h2
  have := compare_any v u _ _ w1 h1 h2 (Dg.small_dg _ _ (by omega)) (Dg.small_dg _ _ (by omega)) (Dg.norm_dg _ _ (by omega)) (Dg.norm_dg _ _ (by omega))
  rwa [Dg.vl_dg _ _ (by omega), Dg.vl_dg _ _ (by omega)] at this
 ·intro v w1 h
  exact odd_any v _ w1 h
 ·intro w1
  exact HAW _ _ _ w1
 ·intro v u w1 h1 h2
  have := plus_any v u _ _ w1 h1 h2 (Dg.small_dg _ _ (by omega)) (Dg.small_cons.2 ⟨by omega, Dg.small_nil _ (by omega)⟩) (by omega) (by simp)
  rwa [Dg.vl_dg _ _ (by omega), show Dg.vl 4294967296 [1] = 1 from rfl] at this
 ·intro v base w1 ho hbs
  exact gcarried_any R D L G gr v _ _ base w1 ho hbs d1 d2 (by omega) (by omega)
end Go.Proofs.YtnhackdjplppjaaGreatDoor
namespace Go.Proofs.YtnhackdjplppjaaGreatDoor
open Go.RowKit
theorem numP_pow (N : Nat) (n : Int) : numP N n = N * 2 ^ n.toNat := by
 unfold numP
 split
 ·rw [show n.toNat = 0 by omega, Nat.pow_zero, Nat.mul_one]
 ·rfl
theorem denP_pow (M : Nat) (n : Int) : denP M n = M * 2 ^ (-n).toNat := by
 unfold denP
 split
 ·rfl
 ·rw [show (-n).toNat = 0 by omega, Nat.pow_zero, Nat.mul_one]
theorem two_pos (k : Nat) : 0 < 2 ^ k := Nat.pow_pos (by omega)
theorem ge_mono {N M a b a' b' : Nat} (h : M * 2 ^ b ≤ N * 2 ^ a) (hk : b' + a ≤ b + a') : M * 2 ^ b' ≤ N * 2 ^ a' := by
 refine Nat.le_of_mul_le_mul_right (c := 2 ^ a) ?_ (two_pos a)
 calc M * 2 ^ b' * 2 ^ a = M * 2 ^ (b' + a) := by rw [Nat.mul_assoc, ← Nat.pow_add]
  _ ≤ M * 2 ^ (b + a') := Nat.mul_le_mul_left _ (Nat.pow_le_pow_right (by omega) hk)
  _ = M * 2 ^ b * 2 ^ a' := by rw [Nat.mul_assoc, ← Nat.pow_add]
  _ ≤ N * 2 ^ a * 2 ^ a' := Nat.mul_le_mul_right _ h
  _ = N * 2 ^ a' * 2 ^ a := by rw [Nat.mul_right_comm]
theorem topQ_zero (N M : Nat) (E : Int) : topQ N M E = E + topQ N M 0 := by
 unfold topQ
 omega
theorem top_iff (N M a b : Nat) (hN : N ≠ 0) (hM : M ≠ 0) : M * 2 ^ b ≤ N * 2 ^ a ↔ (b : Int) ≤ topQ N M 0 + a := by
 obtain ⟨n1, n2, n3⟩ := bitLen_hi N hN
 obtain ⟨m1, m2, m3⟩ := bitLen_hi M hM
 obtain ⟨ln, hln⟩ : ∃ ln, bitLen N = ln := ⟨_, rfl⟩
 obtain ⟨lm, hlm⟩ : ∃ lm, bitLen M = lm := ⟨_, rfl⟩
 have ht : topQ N M 0 = 0 + (((ln : Int) - (lm : Int)) - (if numP N (-((ln : Int) - (lm : Int))) / denP M (-((ln : Int) - (lm : Int))) = 0 then 1 else 0)) := by
  unfold topQ
  rw [hln, hlm]
 rw [hln] at n1 n2 n3
 rw [hlm] at m1 m2 m3
 have low : M * 2 ^ (ln - 1) ≤ N * 2 ^ lm := by
  rw [Nat.mul_comm]
  exact Nat.mul_le_mul n2 (Nat.le_of_lt m3)
 have high : ¬M * 2 ^ ln ≤ N * 2 ^ (lm - 1) := by
  have h1 : N * 2 ^ (lm - 1) < 2 ^ ln * 2 ^ (lm - 1) := Nat.mul_lt_mul_of_pos_right n3 (two_pos _)
  have h2 : 2 ^ ln * 2 ^ (lm - 1) ≤ M * 2 ^ ln := by
   rw [Nat.mul_comm (2 ^ ln)]
   exact Nat.mul_le_mul_right _ m2
  omega
 have hq : numP N (-((ln : Int) - (lm : Int))) / denP M (-((ln : Int) - (lm : Int))) = 0 ↔ ¬M * 2 ^ (ln - lm) ≤ N * 2 ^ (lm - ln) := by
  rw [numP_pow, denP_pow, show (-((ln : Int) - (lm : Int))).toNat = lm - ln by omega, show (-(-((ln : Int) - (lm : Int)))).toNat = ln - lm by omega, Nat.div_eq_zero_iff]
  have := Nat.mul_pos (Nat.pos_of_ne_zero hM) (two_pos (ln - lm))
  omega
 by_cases hz : numP N (-((ln : Int) - (lm : Int))) / denP M (-((ln : Int) - (lm : Int))) = 0
 ·rw [if_pos hz] at ht
  have h0 := hq.1 hz
  constructor
  ·intro h
   refine Decidable.byContradiction fun c => h0 (ge_mono h ?_)
   omega
  ·intro h
   exact ge_mono low (by omega)
 ·rw [if_neg hz] at ht
  have h0 : M * 2 ^ (ln - lm) ≤ N * 2 ^ (lm - ln) := Decidable.byContradiction fun c => hz (hq.2 c)
  constructor
  ·intro h
   refine Decidable.byContradiction fun c => high (ge_mono h ?_)
   omega
  ·intro h
   exact ge_mono h0 (by omega)
theorem whole_ge (N M : Nat) (n : Int) (j : Nat) (hN : N ≠ 0) (hM : M ≠ 0) : 2 ^ j ≤ numP N n / denP M n ↔ (j : Int) ≤ topQ N M 0 + n := by
 rw [numP_pow, denP_pow, Nat.le_div_iff_mul_le (Nat.mul_pos (Nat.pos_of_ne_zero hM) (two_pos _)), ← Nat.mul_assoc, Nat.mul_comm (2 ^ j), Nat.mul_assoc, ← Nat.pow_add, top_iff N M _ _ hN hM]
 omega
theorem lt_bits (d m : Nat) : bitLen d < m + 1 ↔ ¬2 ^ m ≤ d := by
 constructor
 ·intro h c
  have hd : d ≠ 0 := by
   have := two_pos m
   omega
  obtain ⟨-, -, h3⟩ := bitLen_hi d hd
  have : (2 : Nat) ^ bitLen d ≤ 2 ^ m := Nat.pow_le_pow_right (by omega) (by omega)
  omega
 ·intro h
  have := bitLen_le_of d m (by omega)
  omega
theorem seek_iff (R D k : Int) (N M : Nat) (E : Int) (h1 : 1 ≤ D) (hN : N ≠ 0) (hM : M ≠ 0) :
  bitLen (numP N (E - (widthN R : Int) * k) / denP M (E - (widthN R : Int) * k)) < widthN R * (D - 1).toNat + 1 ↔ powerR R D (topQ N M E) < k := by
 rw [lt_bits, whole_ge N M _ _ hN hM, topQ_zero N M E]
 unfold powerR
 obtain ⟨t, ht⟩ : ∃ t, topQ N M 0 = t := ⟨_, rfl⟩
 rw [ht]
 unfold widthN
 split <;> simp <;> omega
theorem whole_lt (R D L : Int) (gr : Bool) (N M : Nat) (E : Int) (h1 : 1 ≤ D) (hN : N ≠ 0) (hM : M ≠ 0) : wholeP R D L gr N M E < 2 ^ (widthN R * D.toNat) := by
 refine Nat.lt_of_not_le fun c => ?_
 unfold wholeP shP at c
 rw [whole_ge N M _ _ hN hM] at c
 have hc : powerR R D (topQ N M E) ≤ cutP R D L gr N M E := by
  unfold cutP
  by_cases h : (decide (powerR R D (topQ N M E) < L) && gr) = true
  ·rw [if_pos h]
   have := of_decide_eq_true (Bool.and_eq_true_iff.1 h).1
   omega
  ·rw [if_neg h]
   exact Int.le_refl _
 obtain ⟨k, hk⟩ : ∃ k, cutP R D L gr N M E = k := ⟨_, rfl⟩
 rw [hk] at c hc
 rw [topQ_zero] at hc
 obtain ⟨t, ht⟩ : ∃ t, topQ N M 0 = t := ⟨_, rfl⟩
 rw [ht] at c hc
 unfold powerR widthN at hc
 unfold widthN at c
 split at c <;> simp_all <;> omega
theorem whole_pos (R D L : Int) (gr : Bool) (N M : Nat) (E : Int) (h1 : 1 ≤ D) (hN : N ≠ 0) (hM : M ≠ 0) (h : cutP R D L gr N M E = powerR R D (topQ N M E)) : 0 < wholeP R D L gr N M E := by
 have h2 : ¬bitLen (wholeP R D L gr N M E) < widthN R * (D - 1).toNat + 1 := by
  unfold wholeP shP
  rw [h, seek_iff R D _ N M E h1 hN hM]
  omega
 have : wholeP R D L gr N M E ≠ 0 := by
  intro c
  rw [c] at h2
  simp at h2
  rw [bitLen_zero] at h2
  omega
 omega
theorem dig_short (R D L : Int) (gr : Bool) (N M : Nat) (E : Int) (h1 : 1 ≤ D) (hN : N ≠ 0) (hM : M ≠ 0) (p : Int) : carD R D (wholeP R D L gr N M E) = wholeP R D L gr N M E ∧ carP R D (wholeP R D L gr N M E) p = p := by
 have h := whole_lt R D L gr N M E h1 hN hM
 unfold carD carP
 rw [if_neg (by omega), if_neg (by omega)]
 exact ⟨rfl, rfl⟩
theorem carD_zero (R D : Int) (d : Nat) : carD R D d = 0 ↔ d = 0 := by
 unfold carD
 have h1 := two_pos (widthN R * D.toNat)
 have h2 := two_pos (widthN R * (D - 1).toNat)
 split <;> omega
theorem dig_ge (R D L : Int) (gr qs : Bool) (N M : Nat) (E way : Int) : wholeP R D L gr N M E ≤ digP R D L gr qs N M E way := by
 unfold digP
 split <;> omega
theorem roundT_flat {R D L G : Int} (gr qs : Bool) (N M : Nat) (E way : Int) (h1 : 1 ≤ D) (hLG : L ≤ G) (hN : N ≠ 0) (hM : M ≠ 0) :
  roundT R D L G gr qs N M E way = ⟨qs, carD R D (digP R D L gr qs N M E way), if carD R D (digP R D L gr qs N M E way) = 0 then 0 else carP R D (digP R D L gr qs N M E way) (cutP R D L gr N M E), decide (leftP R D L gr N M E = 0), decide (G < carP R D (digP R D L gr qs N M E way) (cutP R D L gr N M E)), decide (powerR R D (topQ N M E) < L)⟩ := by
 unfold roundT
 by_cases h0 : digP R D L gr qs N M E way = 0
 ·have hw : wholeP R D L gr N M E = 0 := by
   have := dig_ge R D L gr qs N M E way
   omega
  have hc : cutP R D L gr N M E = L := by
   refine Decidable.byContradiction fun c => ?_
   have e : cutP R D L gr N M E = powerR R D (topQ N M E) := by
    unfold cutP at c ⊢
    split at c
    ·exact absurd rfl c
    ·rw [if_neg (by assumption)]
   have := whole_pos R D L gr N M E h1 hN hM e
   omega
  have hd := dig_short R D L gr N M E h1 hN hM (cutP R D L gr N M E)
  rw [if_pos h0, h0, if_pos ((carD_zero R D 0).2 rfl), (carD_zero R D 0).2 rfl]
  rw [hw] at hd
  rw [hd.2, hc, decide_eq_false (show ¬G < L by omega)]
 ·rw [if_neg h0, if_neg (fun c => h0 ((carD_zero R D _).1 c))]
end Go.Proofs.YtnhackdjplppjaaGreatDoor
namespace Go.Proofs.YtnhackdjplppjaaGreatDoor
open Go.RowKit
def PlaceAns (w : World) (c : Int) (t : PlaceT) (e : Ending) (w' : World) : Prop :=
 ∃ v, e = .returned (.tuple #[.agg #[.bool t.s, v, .int .i64 t.p, .bool t.ex, .bool t.ov, .bool t.un], .int .i64 c]) ∧ Own w' w.heap.size 141 .u32 v (Dg.dg 4294967296 t.d) ∧ Below w.heap.size w w'
def noPlace : PlaceT := ⟨false, 0, 0, false, false, false⟩
theorem equalIn_fn_nil {P : Program} (w : World) (d : Nat) {t : TypeId} {ps rs : Array TypeId} {vd : Bool} (h : P.underlying t = some (.func ps rs vd)) (f : Fn) (a b : Array Value) : (Op.equalIn (d + 1) t (.func f a b) .nilFunc).run P w = .ok false w := by
 simp [Op.equalIn, run_underlying h]
theorem equalIn_nil_nil {P : Program} (w : World) (d : Nat) {t : TypeId} {ps rs : Array TypeId} {vd : Bool} (h : P.underlying t = some (.func ps rs vd)) : (Op.equalIn (d + 1) t .nilFunc .nilFunc).run P w = .ok true w := by
 simp [Op.equalIn, run_underlying h]
theorem eql_fn_nil {P : Program} (w : World) {t : TypeId} {ps rs : Array TypeId} {vd : Bool} (h : P.underlying t = some (.func ps rs vd)) (f : Fn) (a b : Array Value) : (binOp .eql t (.func f a b) .nilFunc).run P w = .ok (.bool false) w := by
 simp only [binOp]
 simp [Op.equal, Op.maxDepth, equalIn_fn_nil w 9999 h f a b]
theorem eql_nil_nil {P : Program} (w : World) {t : TypeId} {ps rs : Array TypeId} {vd : Bool} (h : P.underlying t = some (.func ps rs vd)) : (binOp .eql t .nilFunc .nilFunc).run P w = .ok (.bool true) w := by
 simp only [binOp]
 simp [Op.equal, Op.maxDepth, equalIn_nil_nil w 9999 h]
set_option maxHeartbeats 3200000 in
theorem gRoundW_any (R D L G : Int) (gr : Bool) (qs : Bool) (no : Option Addr) (nl nc : Nat) (eo : Option Addr) (el ec : Nat) (E way : Int) (c : Int) (fv : Value) (fn : FuncId) (isf z : Bool) (PT : PlaceT) (ac : Int) (at_ : PlaceT) (w : World)
  (hfv : isf = true → fv = .func (.func fn) #[] #[]) (hfn : isf = false → fv = .nilFunc) (hz : ((nl : Int) == 0) = z)
  (HB : ¬c = 0 → ac = c ∧ at_ = noPlace) (HK : c = 0 → isf = false → ac = 6 ∧ at_ = noPlace) (HZ : c = 0 → isf = true → z = true → ac = 0 ∧ at_ = ⟨false, 0, 0, true, false, false⟩) (HG : c = 0 → isf = true → z = false → ac = 0 ∧ at_ = PT)
  (HW : ∀ w1, Below w.heap.size w w1 → Calls Tryz.prog 142 #[.agg #[.bool qs, .slice no nl nc, .slice eo el ec, .int .i64 E], .agg #[.int .i64 R, .int .i64 D, .int .i64 L, .int .i64 G, .bool gr]] w1 fun z w' => z = .returned (.int .i64 c) ∧ Below w1.heap.size w1 w')
  (HL : ∀ w1 r, w1.heap[r]? = some (.map wayE 5) → (Instr.lookup 197 (.map (some r)) (.int .i64 way) false).run Tryz.prog w1 = .ok fv w1)
  (HR : c = 0 → isf = true → z = false → ∀ w1, Below w.heap.size w w1 → Calls Tryz.prog 144 #[.agg #[.int .i64 R, .int .i64 D, .int .i64 L, .int .i64 G, .bool gr], .agg #[.bool qs, .slice no nl nc, .slice eo el ec, .int .i64 E], .func (.func fn) #[] #[]] w1 (PlaceRes w1 PT)) :
  Calls Tryz.prog 86 #[.agg #[.bool qs, .slice no nl nc, .slice eo el ec, .int .i64 E], .agg #[.int .i64 R, .int .i64 D, .int .i64 L, .int .i64 G, .bool gr], .int .i64 way] w (PlaceAns w ac at_) := by
 replace HB : Hid _ := HB
 replace HK : Hid _ := HK
 replace HZ : Hid _ := HZ
 replace HG : Hid _ := HG
 replace HW : Hid _ := HW
 replace HL : Hid _ := HL
 replace HR : Hid _ := HR
 replace hfv : Hid _ := hfv
 replace hfn : Hid _ := hfn
 have HWY : Hid _ := ways_any
 have b1 := below_trans (below_trans (below_alloc w (.cells #[.bool qs, .slice no nl nc, .slice eo el ec, .int .i64 E] 53)) (below_alloc _ (.cells #[.int .i64 R, .int .i64 D, .int .i64 L, .int .i64 G, .bool gr] 56))) (below_alloc _ (.cells #[.bool false, .slice none 0 0, .int .i64 0, .bool false, .bool false, .bool false] 86))
 have q1 := ((locE_new w [.bool qs, .slice no nl nc, .slice eo el ec, .int .i64 E] 53).later (below_alloc _ (.cells #[.int .i64 R, .int .i64 D, .int .i64 L, .int .i64 G, .bool gr] 56))).later (below_alloc _ (.cells #[.bool false, .slice none 0 0, .int .i64 0, .bool false, .bool false, .bool false] 86))
 have g1 := (locE_new (w.alloc (.cells #[.bool qs, .slice no nl nc, .slice eo el ec, .int .i64 E] 53)) [.int .i64 R, .int .i64 D, .int .i64 L, .int .i64 G, .bool gr] 56).later (below_alloc _ (.cells #[.bool false, .slice none 0 0, .int .i64 0, .bool false, .bool false, .bool false] 86))
 have c1 := locE_new ((w.alloc (.cells #[.bool qs, .slice no nl nc, .slice eo el ec, .int .i64 E] 53)).alloc (.cells #[.int .i64 R, .int .i64 D, .int .i64 L, .int .i64 G, .bool gr] 56)) [.bool false, .slice none 0 0, .int .i64 0, .bool false, .bool false, .bool false] 86
 simp only [World.size_alloc] at g1 c1
 obtain ⟨x0, x1, x2, x3⟩ := q1.cs4
 obtain ⟨y0, y1, y2, y3, y4⟩ := g1.cs5
 have en := fun w1 => eql_nil_nil (P := Tryz.prog) w1 Tryz.underlying196
 have ef := fun w1 => eql_fn_nil (P := Tryz.prog) w1 Tryz.underlying196 (.func fn) #[] #[]
 go_enter Tryz.func86, Tryz.ntmps86
 go_wp2_with fail
 refine (HW.out _ b1).mono ?_
 rintro z wa ⟨rfl, bb2⟩
 have q_2 := q1.later bb2
 have g_2 := g1.later bb2
 have c_2 := c1.later bb2
 have b0_2 := below_trans b1 bb2
 clear q1 g1 c1 b1 bb2
 clear x0 x1 x2 x3 y0 y1 y2 y3 y4
 by_cases hc : c = 0
 ·have HK2 : Hid _ := HK.out hc
  have HZ2 : Hid _ := HZ.out hc
  have HG2 : Hid _ := HG.out hc
  have HR2 : Hid _ := HR.out hc
  clear HB HK HZ HG HR
  subst hc
  go_wp2_with fail
  refine (HWY.out _).mono ?_
  rintro z wb ⟨rfl, hm, bb3⟩
  have q_3 := q_2.later bb3
  have g_3 := g_2.later bb3
  have c_3 := c_2.later bb3
  have b0_3 := below_trans b0_2 bb3
  clear q_2 g_2 c_2 b0_2 bb3
  have hl := HL.out wb _ hm
  clear hm
  cases isf
  ·have hf := hfn.out rfl
   have HF : Hid _ := HK2.out rfl
   clear HK2 HZ2 HG2 HR2 hfn hfv
   subst hf
   have s0 := c_3.cell 0 rfl
   have f0 := c_3.free 0
   have s1 := c_3.cell 1 rfl
   have f1 := c_3.free 1
   have s2 := c_3.cell 2 rfl
   have f2 := c_3.free 2
   have s3 := c_3.cell 3 rfl
   have f3 := c_3.free 3
   have s4 := c_3.cell 4 rfl
   have f4 := c_3.free 4
   have s5 := c_3.cell 5 rfl
   have f5 := c_3.free 5
   go_wp2
   have bu : But (w.heap.size + 1 + 1) wb ((((((wb.setCell ⟨w.heap.size + 1 + 1, 0, none⟩ (.bool false)).setCell ⟨w.heap.size + 1 + 1, 1, none⟩ (.slice none 0 0)).setCell ⟨w.heap.size + 1 + 1, 2, none⟩ (.int .i64 0)).setCell ⟨w.heap.size + 1 + 1, 3, none⟩ (.bool false)).setCell ⟨w.heap.size + 1 + 1, 4, none⟩ (.bool false)).setCell ⟨w.heap.size + 1 + 1, 5, none⟩ (.bool false)) := (((((but_set wb (w.heap.size + 1 + 1) 0 (.bool false)).trans (but_set _ (w.heap.size + 1 + 1) 1 (.slice none 0 0))).trans (but_set _ (w.heap.size + 1 + 1) 2 (.int .i64 0))).trans (but_set _ (w.heap.size + 1 + 1) 3 (.bool false))).trans (but_set _ (w.heap.size + 1 + 1) 4 (.bool false))).trans (but_set _ (w.heap.size + 1 + 1) 5 (.bool false))
   have cR : LocE ((((((wb.setCell ⟨w.heap.size + 1 + 1, 0, none⟩ (.bool false)).setCell ⟨w.heap.size + 1 + 1, 1, none⟩ (.slice none 0 0)).setCell ⟨w.heap.size + 1 + 1, 2, none⟩ (.int .i64 0)).setCell ⟨w.heap.size + 1 + 1, 3, none⟩ (.bool false)).setCell ⟨w.heap.size + 1 + 1, 4, none⟩ (.bool false)).setCell ⟨w.heap.size + 1 + 1, 5, none⟩ (.bool false)) (w.heap.size + 1 + 1) 86 [.bool false, .slice none 0 0, .int .i64 0, .bool false, .bool false, .bool false] := (((((c_3.set 0 (.bool false)).set 1 (.slice none 0 0)).set 2 (.int .i64 0)).set 3 (.bool false)).set 4 (.bool false)).set 5 (.bool false)
   have bR := bu.below b0_3 (show w.heap.size ≤ w.heap.size + 1 + 1 by omega)
   clear bu s0 s1 s2 s3 s4 s5 f0 f1 f2 f3 f4 f5 q_3 g_3 c_3
   generalize ((((((wb.setCell ⟨w.heap.size + 1 + 1, 0, none⟩ (.bool false)).setCell ⟨w.heap.size + 1 + 1, 1, none⟩ (.slice none 0 0)).setCell ⟨w.heap.size + 1 + 1, 2, none⟩ (.int .i64 0)).setCell ⟨w.heap.size + 1 + 1, 3, none⟩ (.bool false)).setCell ⟨w.heap.size + 1 + 1, 4, none⟩ (.bool false)).setCell ⟨w.heap.size + 1 + 1, 5, none⟩ (.bool false)) = WR at cR bR ⊢
   obtain ⟨s0, s1, s2, s3, s4, s5⟩ := cR.cs6
   rw [HF.out.1, HF.out.2]
   show bodyPost _ _ _ .ret _ _
   refine bodyPost_ret (v := .tuple #[.agg #[.bool false, .slice none 0 0, .int .i64 0, .bool false, .bool false, .bool false], .int .i64 6]) (by simp [results, Tryz.results86, go_sem, s0, s1, s2, s3, s4, s5]) rfl ?_
   exact ⟨_, rfl, own_nil _ _ _ _, bR⟩
  ·have hf := hfv.out rfl
   have HZ3 : Hid _ := HZ2.out rfl
   have HG3 : Hid _ := HG2.out rfl
   have HR3 : Hid _ := HR2.out rfl
   clear HK2 HZ2 HG2 HR2 hfn hfv
   subst hf
   have x1 := q_3.cell 1 rfl
   cases z
   ·have HF : Hid _ := HG3.out rfl
    have HRF : Hid _ := HR3.out rfl
    clear HZ3 HG3 HR3
    have x0 := q_3.cell 0 rfl
    have x2 := q_3.cell 2 rfl
    have x3 := q_3.cell 3 rfl
    obtain ⟨y0, y1, y2, y3, y4⟩ := g_3.cs5
    have hwb := b0_3.size
    go_wp2_with fail
    refine (HRF.out _ b0_3).mono ?_
    rintro z wc ⟨v, rfl, ou, bb4⟩
    have q_4 := q_3.later bb4
    have g_4 := g_3.later bb4
    have c_4 := c_3.later bb4
    have b0_4 := below_trans b0_3 bb4
    clear q_3 g_3 c_3 b0_3 bb4
    clear x0 x1 x2 x3 y0 y1 y2 y3 y4
    obtain ⟨uo, uk, hv⟩ := ou.rd.shape
    subst hv
    obtain ⟨lu, hlu⟩ : ∃ x, (Dg.dg 4294967296 PT.d).length = x := ⟨_, rfl⟩
    rw [hlu] at ou
    rw [hlu]
    clear hlu
    have s0 := c_4.cell 0 rfl
    have f0 := c_4.free 0
    have s1 := c_4.cell 1 rfl
    have f1 := c_4.free 1
    have s2 := c_4.cell 2 rfl
    have f2 := c_4.free 2
    have s3 := c_4.cell 3 rfl
    have f3 := c_4.free 3
    have s4 := c_4.cell 4 rfl
    have f4 := c_4.free 4
    have s5 := c_4.cell 5 rfl
    have f5 := c_4.free 5
    go_wp2
    have bu : But (w.heap.size + 1 + 1) wc ((((((wc.setCell ⟨w.heap.size + 1 + 1, 0, none⟩ (.bool PT.s)).setCell ⟨w.heap.size + 1 + 1, 1, none⟩ (.slice uo lu uk)).setCell ⟨w.heap.size + 1 + 1, 2, none⟩ (.int .i64 PT.p)).setCell ⟨w.heap.size + 1 + 1, 3, none⟩ (.bool PT.ex)).setCell ⟨w.heap.size + 1 + 1, 4, none⟩ (.bool PT.ov)).setCell ⟨w.heap.size + 1 + 1, 5, none⟩ (.bool PT.un)) := (((((but_set wc (w.heap.size + 1 + 1) 0 (.bool PT.s)).trans (but_set _ (w.heap.size + 1 + 1) 1 (.slice uo lu uk))).trans (but_set _ (w.heap.size + 1 + 1) 2 (.int .i64 PT.p))).trans (but_set _ (w.heap.size + 1 + 1) 3 (.bool PT.ex))).trans (but_set _ (w.heap.size + 1 + 1) 4 (.bool PT.ov))).trans (but_set _ (w.heap.size + 1 + 1) 5 (.bool PT.un))
    have cR : LocE ((((((wc.setCell ⟨w.heap.size + 1 + 1, 0, none⟩ (.bool PT.s)).setCell ⟨w.heap.size + 1 + 1, 1, none⟩ (.slice uo lu uk)).setCell ⟨w.heap.size + 1 + 1, 2, none⟩ (.int .i64 PT.p)).setCell ⟨w.heap.size + 1 + 1, 3, none⟩ (.bool PT.ex)).setCell ⟨w.heap.size + 1 + 1, 4, none⟩ (.bool PT.ov)).setCell ⟨w.heap.size + 1 + 1, 5, none⟩ (.bool PT.un)) (w.heap.size + 1 + 1) 86 [.bool PT.s, .slice uo lu uk, .int .i64 PT.p, .bool PT.ex, .bool PT.ov, .bool PT.un] := (((((c_4.set 0 (.bool PT.s)).set 1 (.slice uo lu uk)).set 2 (.int .i64 PT.p)).set 3 (.bool PT.ex)).set 4 (.bool PT.ov)).set 5 (.bool PT.un)
    have bR := bu.below b0_4 (show w.heap.size ≤ w.heap.size + 1 + 1 by omega)
    have oR := bu.own (ou.lower hwb) c_4 (by decide)
    clear bu s0 s1 s2 s3 s4 s5 f0 f1 f2 f3 f4 f5 q_4 g_4 c_4
    generalize ((((((wc.setCell ⟨w.heap.size + 1 + 1, 0, none⟩ (.bool PT.s)).setCell ⟨w.heap.size + 1 + 1, 1, none⟩ (.slice uo lu uk)).setCell ⟨w.heap.size + 1 + 1, 2, none⟩ (.int .i64 PT.p)).setCell ⟨w.heap.size + 1 + 1, 3, none⟩ (.bool PT.ex)).setCell ⟨w.heap.size + 1 + 1, 4, none⟩ (.bool PT.ov)).setCell ⟨w.heap.size + 1 + 1, 5, none⟩ (.bool PT.un)) = WR at cR bR oR ⊢
    obtain ⟨s0, s1, s2, s3, s4, s5⟩ := cR.cs6
    rw [HF.out.1, HF.out.2]
    show bodyPost _ _ _ .ret _ _
    refine bodyPost_ret (v := .tuple #[.agg #[.bool PT.s, .slice uo lu uk, .int .i64 PT.p, .bool PT.ex, .bool PT.ov, .bool PT.un], .int .i64 0]) (by simp [results, Tryz.results86, go_sem, s0, s1, s2, s3, s4, s5]) rfl ?_
    exact ⟨_, rfl, oR, bR⟩
   ·have HF : Hid _ := HZ3.out rfl
    clear HZ3 HG3 HR3
    have s0 := c_3.cell 0 rfl
    have f0 := c_3.free 0
    have s1 := c_3.cell 1 rfl
    have f1 := c_3.free 1
    have s2 := c_3.cell 2 rfl
    have f2 := c_3.free 2
    have s3 := c_3.cell 3 rfl
    have f3 := c_3.free 3
    have s4 := c_3.cell 4 rfl
    have f4 := c_3.free 4
    have s5 := c_3.cell 5 rfl
    have f5 := c_3.free 5
    go_wp2
    have bu : But (w.heap.size + 1 + 1) wb ((((((wb.setCell ⟨w.heap.size + 1 + 1, 0, none⟩ (.bool false)).setCell ⟨w.heap.size + 1 + 1, 1, none⟩ (.slice none 0 0)).setCell ⟨w.heap.size + 1 + 1, 2, none⟩ (.int .i64 0)).setCell ⟨w.heap.size + 1 + 1, 3, none⟩ (.bool true)).setCell ⟨w.heap.size + 1 + 1, 4, none⟩ (.bool false)).setCell ⟨w.heap.size + 1 + 1, 5, none⟩ (.bool false)) := (((((but_set wb (w.heap.size + 1 + 1) 0 (.bool false)).trans (but_set _ (w.heap.size + 1 + 1) 1 (.slice none 0 0))).trans (but_set _ (w.heap.size + 1 + 1) 2 (.int .i64 0))).trans (but_set _ (w.heap.size + 1 + 1) 3 (.bool true))).trans (but_set _ (w.heap.size + 1 + 1) 4 (.bool false))).trans (but_set _ (w.heap.size + 1 + 1) 5 (.bool false))
    have cR : LocE ((((((wb.setCell ⟨w.heap.size + 1 + 1, 0, none⟩ (.bool false)).setCell ⟨w.heap.size + 1 + 1, 1, none⟩ (.slice none 0 0)).setCell ⟨w.heap.size + 1 + 1, 2, none⟩ (.int .i64 0)).setCell ⟨w.heap.size + 1 + 1, 3, none⟩ (.bool true)).setCell ⟨w.heap.size + 1 + 1, 4, none⟩ (.bool false)).setCell ⟨w.heap.size + 1 + 1, 5, none⟩ (.bool false)) (w.heap.size + 1 + 1) 86 [.bool false, .slice none 0 0, .int .i64 0, .bool true, .bool false, .bool false] := (((((c_3.set 0 (.bool false)).set 1 (.slice none 0 0)).set 2 (.int .i64 0)).set 3 (.bool true)).set 4 (.bool false)).set 5 (.bool false)
    have bR := bu.below b0_3 (show w.heap.size ≤ w.heap.size + 1 + 1 by omega)
    clear bu s0 s1 s2 s3 s4 s5 f0 f1 f2 f3 f4 f5 q_3 g_3 c_3
    generalize ((((((wb.setCell ⟨w.heap.size + 1 + 1, 0, none⟩ (.bool false)).setCell ⟨w.heap.size + 1 + 1, 1, none⟩ (.slice none 0 0)).setCell ⟨w.heap.size + 1 + 1, 2, none⟩ (.int .i64 0)).setCell ⟨w.heap.size + 1 + 1, 3, none⟩ (.bool true)).setCell ⟨w.heap.size + 1 + 1, 4, none⟩ (.bool false)).setCell ⟨w.heap.size + 1 + 1, 5, none⟩ (.bool false)) = WR at cR bR ⊢
    obtain ⟨s0, s1, s2, s3, s4, s5⟩ := cR.cs6
    rw [HF.out.1, HF.out.2]
    show bodyPost _ _ _ .ret _ _
    refine bodyPost_ret (v := .tuple #[.agg #[.bool false, .slice none 0 0, .int .i64 0, .bool true, .bool false, .bool false], .int .i64 0]) (by simp [results, Tryz.results86, go_sem, s0, s1, s2, s3, s4, s5]) rfl ?_
    exact ⟨_, rfl, own_nil _ _ _ _, bR⟩
 ·have hcf : (c == 0) = false := by simp; exact hc
  have HF : Hid _ := HB.out hc
  clear hc HB HK HZ HG HR
  have s0 := c_2.cell 0 rfl
  have f0 := c_2.free 0
  have s1 := c_2.cell 1 rfl
  have f1 := c_2.free 1
  have s2 := c_2.cell 2 rfl
  have f2 := c_2.free 2
  have s3 := c_2.cell 3 rfl
  have f3 := c_2.free 3
  have s4 := c_2.cell 4 rfl
  have f4 := c_2.free 4
  have s5 := c_2.cell 5 rfl
  have f5 := c_2.free 5
  go_wp2
  have bu : But (w.heap.size + 1 + 1) wa ((((((wa.setCell ⟨w.heap.size + 1 + 1, 0, none⟩ (.bool false)).setCell ⟨w.heap.size + 1 + 1, 1, none⟩ (.slice none 0 0)).setCell ⟨w.heap.size + 1 + 1, 2, none⟩ (.int .i64 0)).setCell ⟨w.heap.size + 1 + 1, 3, none⟩ (.bool false)).setCell ⟨w.heap.size + 1 + 1, 4, none⟩ (.bool false)).setCell ⟨w.heap.size + 1 + 1, 5, none⟩ (.bool false)) := (((((but_set wa (w.heap.size + 1 + 1) 0 (.bool false)).trans (but_set _ (w.heap.size + 1 + 1) 1 (.slice none 0 0))).trans (but_set _ (w.heap.size + 1 + 1) 2 (.int .i64 0))).trans (but_set _ (w.heap.size + 1 + 1) 3 (.bool false))).trans (but_set _ (w.heap.size + 1 + 1) 4 (.bool false))).trans (but_set _ (w.heap.size + 1 + 1) 5 (.bool false))
  have cR : LocE ((((((wa.setCell ⟨w.heap.size + 1 + 1, 0, none⟩ (.bool false)).setCell ⟨w.heap.size + 1 + 1, 1, none⟩ (.slice none 0 0)).setCell ⟨w.heap.size + 1 + 1, 2, none⟩ (.int .i64 0)).setCell ⟨w.heap.size + 1 + 1, 3, none⟩ (.bool false)).setCell ⟨w.heap.size + 1 + 1, 4, none⟩ (.bool false)).setCell ⟨w.heap.size + 1 + 1, 5, none⟩ (.bool false)) (w.heap.size + 1 + 1) 86 [.bool false, .slice none 0 0, .int .i64 0, .bool false, .bool false, .bool false] := (((((c_2.set 0 (.bool false)).set 1 (.slice none 0 0)).set 2 (.int .i64 0)).set 3 (.bool false)).set 4 (.bool false)).set 5 (.bool false)
  have bR := bu.below b0_2 (show w.heap.size ≤ w.heap.size + 1 + 1 by omega)
  clear bu s0 s1 s2 s3 s4 s5 f0 f1 f2 f3 f4 f5 q_2 g_2 c_2
  generalize ((((((wa.setCell ⟨w.heap.size + 1 + 1, 0, none⟩ (.bool false)).setCell ⟨w.heap.size + 1 + 1, 1, none⟩ (.slice none 0 0)).setCell ⟨w.heap.size + 1 + 1, 2, none⟩ (.int .i64 0)).setCell ⟨w.heap.size + 1 + 1, 3, none⟩ (.bool false)).setCell ⟨w.heap.size + 1 + 1, 4, none⟩ (.bool false)).setCell ⟨w.heap.size + 1 + 1, 5, none⟩ (.bool false)) = WR at cR bR ⊢
  obtain ⟨s0, s1, s2, s3, s4, s5⟩ := cR.cs6
  rw [HF.out.1, HF.out.2]
  show bodyPost _ _ _ .ret _ _
  refine bodyPost_ret (v := .tuple #[.agg #[.bool false, .slice none 0 0, .int .i64 0, .bool false, .bool false, .bool false], .int .i64 c]) (by simp [results, Tryz.results86, go_sem, s0, s1, s2, s3, s4, s5]) rfl ?_
  exact ⟨_, rfl, own_nil _ _ _ _, bR⟩
end Go.Proofs.YtnhackdjplppjaaGreatDoor
namespace Go.Proofs.YtnhackdjplppjaaGreatDoor
open Go.RowKit
def wayF (way : Int) : FuncId := if way = 1 then 183 else if way = 2 then 184 else if way = 3 then 185 else if way = 4 then 186 else 187
def isWay (way : Int) : Bool := decide (1 ≤ way ∧ way ≤ 5)
def wayV (way : Int) : Value := if isWay way = true then .func (.func (wayF way)) #[] #[] else .nilFunc
theorem way_cases {way : Int} (h : isWay way = true) : way = 1 ∨ way = 2 ∨ way = 3 ∨ way = 4 ∨ way = 5 := by
 have := of_decide_eq_true h
 omega
theorem same_int (x y : Int) : Instr.sameNow (.int .i64) (.int .i64 x) (.int .i64 y) = some (decide (x = y)) := by
 simp [Instr.sameNow]
 by_cases h : x = y <;> simp [h]
theorem way_lookup (way : Int) (w1 : World) (r : Nat) (hm : w1.heap[r]? = some (.map wayE 5)) : (Instr.lookup 197 (.map (some r)) (.int .i64 way) false).run Tryz.prog w1 = .ok (wayV way) w1 := by
 by_cases h : isWay way = true
 ·rcases way_cases h with rfl | rfl | rfl | rfl | rfl
  ·exact find_run Tryz.underlying197 Tryz.underlying3 hm 1 rfl
  ·exact find_run Tryz.underlying197 Tryz.underlying3 hm 2 rfl
  ·exact find_run Tryz.underlying197 Tryz.underlying3 hm 3 rfl
  ·exact find_run Tryz.underlying197 Tryz.underlying3 hm 4 rfl
  ·exact find_run Tryz.underlying197 Tryz.underlying3 hm 5 rfl
 ·have hn : ¬(1 ≤ way ∧ way ≤ 5) := fun c => h (decide_eq_true c)
  unfold wayV
  rw [if_neg h]
  refine miss_run Tryz.underlying197 Tryz.underlying3 hm way ?_ ?_
  ·kernel_rfl
  ·simp [wayE, Instr.findNow, same_int, show ¬way = 1 by omega, show ¬way = 2 by omega, show ¬way = 3 by omega, show ¬way = 4 by omega, show ¬way = 5 by omega]
theorem wayF_calls {way : Int} (h : isWay way = true) (half : Int) (odd neg : Bool) (w1 : World) : Calls Tryz.prog (wayF way) #[.agg #[.int .i64 half, .bool odd, .bool neg]] w1 fun z w' => z = .returned (.bool (awayB way half odd neg)) ∧ Below w1.heap.size w1 w' := by
 rcases way_cases h with rfl | rfl | rfl | rfl | rfl
 ·exact way1_any half odd neg w1
 ·exact way2_any half odd neg w1
 ·exact way3_any half odd neg w1
 ·exact way4_any half odd neg w1
 ·exact way5_any half odd neg w1
theorem enter_of {P : Program} {f : FuncId} {fn : Func} {c : Code} (hf : P.funcs[f]? = some fn) (hname : (fn.name == "runtime.NumGoroutine") = false) (hb : fn.body = some c) (args : Array Value) (w : World) : Sem.run P (callFunc f args) w = .ok (.enter f args) w := by
 have hn : ¬fn.name = "runtime.NumGoroutine" := by simpa using hname
 simp [callFunc, hf, hn, hb]
theorem wayF_enter {way : Int} (h : isWay way = true) (args : Array Value) (W : World) : Sem.run Tryz.prog (callFunc (wayF way) args) W = .ok (.enter (wayF way) args) W := by
 rcases way_cases h with rfl | rfl | rfl | rfl | rfl
 ·exact enter_of Tryz.func183 (by kernel_rfl) rfl args W
 ·exact enter_of Tryz.func184 (by kernel_rfl) rfl args W
 ·exact enter_of Tryz.func185 (by kernel_rfl) rfl args W
 ·exact enter_of Tryz.func186 (by kernel_rfl) rfl args W
 ·exact enter_of Tryz.func187 (by kernel_rfl) rfl args W
def roundC (xs ys : List Nat) (E R D L G way : Int) : Int :=
 if wrongG (ratioC xs ys E) (gridC R D L G) = 0 then (if isWay way = true then 0 else 6) else wrongG (ratioC xs ys E) (gridC R D L G)
def roundP (xs ys : List Nat) (E R D L G : Int) (gr qs : Bool) (way : Int) : PlaceT :=
 if roundC xs ys E R D L G way = 0 then (if xs.length = 0 then ⟨false, 0, 0, true, false, false⟩ else roundT R D L G gr qs (Dg.vl 4294967296 xs) (Dg.vl 4294967296 ys) E way) else noPlace
theorem wrongG_zero {c d : Int} (h : wrongG c d = 0) : c = 0 ∧ d = 0 := by
 unfold wrongG at h
 split at h
 ·exact ⟨by assumption, h⟩
 ·exact absurd h (by assumption)
theorem ratioC_zero {xs ys : List Nat} {E : Int} (h : ratioC xs ys E = 0) : chk xs = 0 ∧ chk ys = 0 ∧ 0 < ys.length ∧ -20000 ≤ E ∧ E ≤ 20000 := by
 unfold ratioC at h
 by_cases h1 : chk xs = 0
 ·rw [if_pos h1] at h
  by_cases h2 : chk ys = 0
  ·rw [if_pos h2] at h
   by_cases h3 : ys.length = 0 ∨ farB 20000 E = true
   ·rw [if_pos h3] at h
    cases h
   ·have h4 : ¬farB 20000 E = true := fun c => h3 (Or.inr c)
    unfold farB at h4
    simp at h4
    refine ⟨h1, h2, ?_, by omega, by omega⟩
    have : ¬ys.length = 0 := fun c => h3 (Or.inl c)
    omega
  ·rw [if_neg h2] at h
   exact absurd h h2
 ·rw [if_neg h1] at h
  exact absurd h h1
theorem gRound_any (qs : Bool) (ao : Option Addr) (ca : Nat) (xs : List Nat) (bo : Option Addr) (cb : Nat) (ys : List Nat) (E R D L G : Int) (gr : Bool) (way : Int) (w : World) (ha : Rd w .u32 (.slice ao xs.length ca) xs) (hb : Rd w .u32 (.slice bo ys.length cb) ys) (sa : Dg.Small 4294967296 xs) (sb : Dg.Small 4294967296 ys) :
  Calls Tryz.prog 86 #[.agg #[.bool qs, .slice ao xs.length ca, .slice bo ys.length cb, .int .i64 E], .agg #[.int .i64 R, .int .i64 D, .int .i64 L, .int .i64 G, .bool gr], .int .i64 way] w (PlaceAns w (roundC xs ys E R D L G way) (roundP xs ys E R D L G gr qs way)) := by
 refine gRoundW_any R D L G gr qs ao xs.length ca bo ys.length cb E way (wrongG (ratioC xs ys E) (gridC R D L G)) (wayV way) (wayF way) (isWay way) ((xs.length : Int) == 0) (roundT R D L G gr qs (Dg.vl 4294967296 xs) (Dg.vl 4294967296 ys) E way) _ _ w ?_ ?_ rfl ?_ ?_ ?_ ?_ ?_ ?_ ?_
 ·intro h
  exact if_pos h
 ·intro h
  exact if_neg (by rw [h]; decide)
 ·intro h
  have e : roundC xs ys E R D L G way = wrongG (ratioC xs ys E) (gridC R D L G) := if_neg h
  exact ⟨e, by unfold roundP; rw [e, if_neg h]⟩
 ·intro h hw
  have e : roundC xs ys E R D L G way = 6 := (if_pos h).trans (if_neg (by rw [hw]; decide))
  exact ⟨e, by unfold roundP; rw [e]; rfl⟩
 ·intro h hw hz
  have e : roundC xs ys E R D L G way = 0 := (if_pos h).trans (if_pos hw)
  have hx : xs.length = 0 := by simpa using hz
  exact ⟨e, by unfold roundP; rw [e, if_pos rfl, if_pos hx]⟩
 ·intro h hw hz
  have e : roundC xs ys E R D L G way = 0 := (if_pos h).trans (if_pos hw)
  have hx : ¬xs.length = 0 := by simpa using hz
  exact ⟨e, by unfold roundP; rw [e, if_pos rfl, if_neg hx]⟩
 ·intro w1 b
  exact gwrong_any qs ao ca xs bo cb ys E R D L G gr w1 (ha.later b) (hb.later b)
 ·intro w1 r hm
  exact way_lookup way w1 r hm
 ·intro h hw hz w1 b
  obtain ⟨h1, h2⟩ := wrongG_zero h
  obtain ⟨c1, c2, hl, e1, e2⟩ := ratioC_zero h1
  obtain ⟨nx, lx⟩ := chk_zero c1
  obtain ⟨ny, ly⟩ := chk_zero c2
  have ex : Dg.dg 4294967296 (Dg.vl 4294967296 xs) = xs := Dg.dg_vl _ (by omega) _ sa nx
  have ey : Dg.dg 4294967296 (Dg.vl 4294967296 ys) = ys := Dg.dg_vl _ (by omega) _ sb ny
  have hM : 0 < Dg.vl 4294967296 ys := by
   refine Nat.pos_of_ne_zero fun c => ?_
   rw [c] at ey
   rw [← ey] at hl
   exact absurd hl (by decide)
  have := ground_any R D L G gr qs ao ca bo cb (Dg.vl 4294967296 xs) (Dg.vl 4294967296 ys) E way (wayF way) w1 h2 (by rw [ex]; exact ha.later b) (by rw [ey]; exact hb.later b) (by rw [ex]; omega) (by rw [ey]; omega) hM e1 e2 (wayF_enter hw) (wayF_calls hw)
  rwa [ex, ey] at this
end Go.Proofs.YtnhackdjplppjaaGreatDoor

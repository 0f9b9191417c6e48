/-
  Grids: the contract of the reference's RoundTo, whole.
-/
import Derived.Test.YtmjhlflemfkflaaGq6
namespace Go.Proofs.Ytmjhlflemfkflaa
open Go.RowKit

theorem cutP_true {R D L : Int} {gr : Bool} {N M : Nat} {E : Int} (h : (decide (powerR R D (topQ N M E) < L) && gr) = true) : cutP R D L gr N M E = L := if_pos h

theorem cutP_false {R D L : Int} {gr : Bool} {N M : Nat} {E : Int} (h : (decide (powerR R D (topQ N M E) < L) && gr) = false) : cutP R D L gr N M E = powerR R D (topQ N M E) := if_neg (by rw [h]; decide)

theorem digP_up {R D L : Int} {gr qs : Bool} {N M : Nat} {E way : Int} (h1 : decide (leftP R D L gr N M E = 0) = false) (h2 : goesP R D L gr qs N M E way = true) : digP R D L gr qs N M E way = wholeP R D L gr N M E + 1 := if_pos ⟨h1, h2⟩

theorem digP_not {R D L : Int} {gr qs : Bool} {N M : Nat} {E way : Int} (h : decide (leftP R D L gr N M E = 0) = true ∨ goesP R D L gr qs N M E way = false) : digP R D L gr qs N M E way = wholeP R D L gr N M E := by
  refine if_neg ?_
  rintro ⟨h1, h2⟩
  rcases h with h | h
  · rw [h1] at h
    cases h
  · rw [h2] at h
    cases h

theorem len_cap (B x y L : Nat) (hB : 2 ≤ B) (h : x ≤ y) (hy : (Dg.dg B y).length ≤ L) : (Dg.dg B x).length ≤ L := Nat.le_trans (dg_len_mono B x y hB h) hy

theorem len_next {x L : Nat} (h : (Dg.dg 65536 x).length ≤ L) : (Dg.dg 65536 (x + 1)).length ≤ L + 1 := by
  refine Dg.dg_len_le 65536 _ _ (by omega) ?_
  have h1 := Dg.vl_lt 65536 (Dg.dg 65536 x) (Dg.small_dg _ _ (by omega))
  rw [Dg.vl_dg _ _ (by omega)] at h1
  have h2 : 65536 ^ (Dg.dg 65536 x).length ≤ 65536 ^ L := Nat.pow_le_pow_right (by omega) h
  have h3 : (65536 : Nat) ^ (L + 1) = 65536 ^ L * 65536 := Nat.pow_succ ..
  have h4 : 0 < (65536 : Nat) ^ L := Nat.pow_pos (by omega)
  generalize (65536 : Nat) ^ L = c at *
  omega

theorem bits_len16 {a L : Nat} (h : (Dg.dg 65536 a).length ≤ L) : bitLen a ≤ 16 * L := by
  refine bitLen_le_of a _ ?_
  rw [Nat.pow_mul]
  have h1 := Dg.vl_lt 65536 _ (Dg.small_dg 65536 a (by omega))
  rw [Dg.vl_dg _ _ (by omega)] at h1
  exact Nat.lt_of_lt_of_le h1 (Nat.pow_le_pow_right (by omega) h)

theorem refLen_below (v : Value) (n : Nat) (w : World) (h : Rd w .i64 v (Dg.dg 65536 n)) (hl : (Dg.dg 65536 n).length ≤ 3000000) : Calls Try.prog 54 #[v] w fun z w' => z = .returned (.int .i64 (bitLen n : Nat)) ∧ Below w.heap.size w w' := by
  have := reflen_any v _ w h (Dg.small_dg _ _ (by omega)) (Dg.norm_dg _ _ (by omega)) hl
  rw [Dg.vl_dg _ _ (by omega)] at this
  refine this.mono ?_
  rintro z w' ⟨rfl, rfl⟩
  exact ⟨rfl, Below.refl _ _⟩

theorem seek_range {R D k t b : Int} (h1 : t / (widthN R : Int) - (D - 1) ≤ k) (h2 : k ≤ b / (widthN R : Int) - D + 2) (t1 : -341000 ≤ t) (b2 : b ≤ 341000) (d1 : 1 ≤ D) (d2 : D ≤ 120) : -360000 ≤ (widthN R : Int) * k ∧ (widthN R : Int) * k ≤ 360000 := by
  unfold widthN at *
  split at h1 <;> simp_all <;> omega

set_option maxHeartbeats 1600000 in
theorem roundTo_any (R D L G : Int) (gr qs : Bool) (no : Option Addr) (nc : Nat) (eo : Option Addr) (ec : Nat) (N M : Nat) (E way : Int) (w : World) (hg : gridC R D L G = 0) (hway : isWay way = true)
    (ha : Rd w .i64 (.slice no (Dg.dg 65536 N).length nc) (Dg.dg 65536 N)) (hb : Rd w .i64 (.slice eo (Dg.dg 65536 M).length ec) (Dg.dg 65536 M)) (hla : (Dg.dg 65536 N).length ≤ 20000) (hlb : (Dg.dg 65536 M).length ≤ 20000) (hN : N ≠ 0) (hM : M ≠ 0) (e1 : -20000 ≤ E) (e2 : E ≤ 20000) :
    Calls Try.prog 30 #[.agg #[.bool qs, .slice no (Dg.dg 65536 N).length nc, .slice eo (Dg.dg 65536 M).length ec, .int .i64 E], .agg #[.int .i64 R, .int .i64 D, .int .i64 L, .int .i64 G, .bool gr], .int .i64 way] w (RPRes w (roundT R D L G gr qs N M E way)) := by
  obtain ⟨hR, d1, d2, l1, l2, g1, g2, lg, l16⟩ := gridC_zero hg
  have hbn := bits_len16 hla
  have hbm := bits_len16 hlb
  have hs := seek_from R D N M E
  have hst := seek_start R D E (bitLen N) (bitLen M) (by omega)
  have hK1 : -400000 ≤ powerR R D (topQ N M E) := by
    have : -350000 ≤ topQ N M E := by unfold topQ; split <;> omega
    unfold powerR widthN
    split <;> simp <;> omega
  have hk0 : ((bitLen N : Int) - (bitLen M : Int) + E) / (widthN R : Int) - D + 2 ≤ 400000 := by
    unfold widthN
    split <;> simp <;> omega
  have hwn := widthN_le R
  have hWK : ∀ k, powerR R D (topQ N M E) ≤ k → k ≤ ((bitLen N : Int) - (bitLen M : Int) + E) / (widthN R : Int) - D + 2 → -360000 ≤ (widthN R : Int) * k ∧ (widthN R : Int) * k ≤ 360000 := fun k h1 h2 =>
    seek_range h1 h2 (by unfold topQ; split <;> omega) (by omega) d1 d2
  have hNM : ∀ n : Int, n ≤ 900000 → (Dg.dg 65536 (numP N n)).length ≤ 160000 := fun n h => numP_len16 (Nat.le_trans hla (by omega)) h
  have hDM : ∀ n : Int, -900000 ≤ n → (Dg.dg 65536 (denP M n)).length ≤ 160000 := fun n h => denP_len16 (Nat.le_trans hlb (by omega)) h
  have hcr : -360000 ≤ (widthN R : Int) * cutP R D L gr N M E ∧ (widthN R : Int) * cutP R D L gr N M E ≤ 360000 ∧ -400000 ≤ cutP R D L gr N M E ∧ cutP R D L gr N M E ≤ 400000 := by
    by_cases h : (decide (powerR R D (topQ N M E) < L) && gr) = true
    · rw [cutP_true h]
      have := l16
      refine ⟨?_, ?_, by omega, by omega⟩ <;> (clear hWK hs hst hK1 hk0; unfold widthN; split <;> simp <;> omega)
    · rw [cutP_false (by simpa using h)]
      have := hWK _ (Int.le_refl _) (by omega)
      exact ⟨this.1, this.2, hK1, by omega⟩
  have hq : (Dg.dg 65536 (wholeP R D L gr N M E)).length ≤ 160000 := len_cap 65536 _ _ _ (by omega) (Nat.div_le_self _ _) (hNM _ (by unfold shP; omega))
  have hY0 : 0 < denP M (shP R D L gr N M E) := denP_pos _ (Nat.pos_of_ne_zero hM)
  have hr : (Dg.dg 65536 (leftP R D L gr N M E)).length ≤ 160000 := len_cap 65536 _ _ _ (by omega) (Nat.le_of_lt (Nat.mod_lt _ hY0)) (hDM _ (by unfold shP; omega))
  have hDc := width_cast R D (by omega)
  have hDc1 := width_cast R (D - 1) (by omega)
  have hpow : widthN R * (D - 1).toNat ≤ 480 := by
    have : (D - 1).toNat ≤ 119 := by omega
    exact Nat.le_trans (Nat.mul_le_mul hwn.2 this) (by omega)
  have hm1 : (widthN R : Int) * (D - 1) ≤ 480 := by omega
  have hm2 : (widthN R : Int) * D ≤ 480 := by
    have := width_range (R := R) (k := D) (a := 120) (by omega) (by omega)
    omega
  have hm3 : 0 ≤ (widthN R : Int) * D := by omega
  have a1 := Int.natAbs_tdiv_le_natAbs ((bitLen N : Int) - (bitLen M : Int) + E + 800000) (widthN R : Int)
  have a2 := Int.natAbs_tdiv_le_natAbs (800000 : Int) (widthN R : Int)
  refine roundToW R D L G gr qs no _ nc eo _ ec E way (widthN R) (bitLen N) (bitLen M) (((bitLen N : Int) - (bitLen M : Int) + E + 800000).tdiv (widthN R : Int)) ((800000 : Int).tdiv (widthN R : Int)) (powerR R D (topQ N M E)) (((bitLen N : Int) - (bitLen M : Int) + E) / (widthN R : Int) - D + 2) (cutP R D L gr N M E)
    (fun k => numP N (E - (widthN R : Int) * k) / denP M (E - (widthN R : Int) * k)) (fun k => numP N (E - (widthN R : Int) * k) % denP M (E - (widthN R : Int) * k)) (fun k => denP M (E - (widthN R : Int) * k)) (fun k => bitLen (numP N (E - (widthN R : Int) * k) / denP M (E - (widthN R : Int) * k)))
    (wholeP R D L gr N M E) (leftP R D L gr N M E) (denP M (shP R D L gr N M E)) (bitLen (wholeP R D L gr N M E + 1)) (cmpI ((leftP R D L gr N M E * 2 : Nat) : Int) ((denP M (shP R D L gr N M E) : Nat) : Int)) (decide (wholeP R D L gr N M E % 2 = 1)) (goesP R D L gr qs N M E way) (decide (powerR R D (topQ N M E) < L)) (decide (leftP R D L gr N M E = 0)) (decide (powerR R D (topQ N M E) < L) && gr) (decide (widthN R * D.toNat < bitLen (wholeP R D L gr N M E + 1)))
    (carD R D (digP R D L gr qs N M E way)) (carP R D (digP R D L gr qs N M E way) (cutP R D L gr N M E)) (roundT R D L G gr qs N M E way) w ?_ ?_ ?_ (Int.le_of_lt hs) ?_ ?_ ?_ rfl rfl ?_ ?_ ?_ ?_ ?_ ?_ ?_ ?_ ?_ ?_ ?_ ?_ rfl rfl rfl rfl cutP_true ?_ ?_ ?_ ?_ ?_ ?_ ?_ ?_ (roundT_flat gr qs N M E way d1 lg hN hM) ?_ ?_ ?_ ?_ ?_ ?_ ?_ ?_ ?_ ?_ ?_ ?_
  · simp
    rw [Dg.dg_nil_iff _ _ (by omega)]
    exact hN
  · simp
    omega
  · omega
  · exact IntWalk.i64_in _ ⟨by omega, by omega⟩
  · exact IntWalk.i64_in _ ⟨by omega, by omega⟩
  · exact IntWalk.i64_in _ ⟨by omega, by omega⟩
  · exact IntWalk.i64_in _ ⟨by omega, by omega⟩
  · exact IntWalk.i64_in _ ⟨by omega, by omega⟩
  · exact IntWalk.i64_in _ ⟨by omega, by omega⟩
  · exact IntWalk.i64_in _ ⟨by omega, by omega⟩
  · rw [hst]
    exact IntWalk.i64_in _ ⟨by omega, by omega⟩
  · intro k h1 h2
    have := hWK k h1 h2
    exact ⟨IntWalk.i64_in _ ⟨by omega, by omega⟩, IntWalk.i64_in _ ⟨by omega, by omega⟩⟩
  · have := width_range (R := R) (k := L) (a := 17000) (by omega) (by omega)
    exact IntWalk.i64_in _ ⟨by omega, by omega⟩
  · exact IntWalk.i64_in _ ⟨by omega, by omega⟩
  · exact IntWalk.i64_in _ ⟨by omega, by omega⟩
  · exact IntWalk.i64_in _ ⟨by omega, by omega⟩
  · exact IntWalk.i64_in _ ⟨by omega, by omega⟩
  · exact IntWalk.i64_in _ ⟨by omega, by omega⟩
  · intro h
    have e := cutP_false h
    refine ⟨e, ?_, ?_, ?_⟩
    · unfold wholeP shP
      rw [e]
    · unfold leftP shP
      rw [e]
    · unfold shP
      rw [e]
  · intro k h1 h2
    have := (seek_iff R D k N M E d1 hN hM).2 h1
    omega
  · have := mt (seek_iff R D (powerR R D (topQ N M E)) N M E d1 hN hM).1 (Int.lt_irrefl _)
    omega
  · intro h
    have := of_decide_eq_true h
    omega
  · intro h
    have := of_decide_eq_false h
    omega
  · intro h1 h2 h3
    rw [digP_up h1 h2]
    exact if_pos ((dig_long R D L gr N M E d1 hN hM).1 (of_decide_eq_true h3))
  · intro h1 h2 h3
    have h4 : ¬wholeP R D L gr N M E + 1 = 2 ^ (widthN R * D.toNat) := fun c => of_decide_eq_false h3 ((dig_long R D L gr N M E d1 hN hM).2 c)
    rw [digP_up h1 h2]
    exact ⟨if_neg h4, if_neg h4⟩
  · intro h
    rw [digP_not h]
    exact dig_short R D L gr N M E d1 hN hM _
  · intro w1
    have := refWidth_any R D L G gr w1
    rwa [widthR_nat] at this
  · intro w1 b
    exact refLen_below _ N w1 (ha.later b) (by omega)
  · intro w1 b
    exact refLen_below _ M w1 (hb.later b) (by omega)
  · intro k w1 h1 h2 b
    have := hWK k h1 h2
    exact refparts_any qs no _ nc eo _ ec N M E _ w1 (ha.later b) (hb.later b) (by omega) (by omega) (Nat.pos_of_ne_zero hM) (by omega) (by omega)
  · intro h w1 b
    have := refparts_any qs no _ nc eo _ ec N M E ((widthN R : Int) * cutP R D L gr N M E) w1 (ha.later b) (hb.later b) (by omega) (by omega) (Nat.pos_of_ne_zero hM) (by omega) (by omega)
    rw [show E - (widthN R : Int) * cutP R D L gr N M E = shP R D L gr N M E from rfl, cutP_true h] at this
    exact this
  · intro k v w1 h1 h2 r
    have := hWK k h1 h2
    exact refLen_below v _ w1 r (Nat.le_trans (len_cap 65536 _ _ _ (by omega) (Nat.div_le_self _ _) (hNM _ (by omega))) (by omega))
  · intro v u w1 r1 r2
    have := reftimes_any v u _ _ w1 r1 r2 (Dg.small_dg _ _ (by omega)) (Dg.small_cons.2 ⟨by omega, Dg.small_nil _ (by omega)⟩) (by omega) (by simp)
    rwa [Dg.vl_dg _ _ (by omega), show Dg.vl 65536 [2] = 2 from rfl] at this
  · intro v u w1 r1 r2
    have := refcmp_any v u _ _ w1 r1 r2 (Dg.small_dg _ _ (by omega)) (Dg.small_dg _ _ (by omega)) (Dg.norm_dg _ _ (by omega)) (Dg.norm_dg _ _ (by omega))
    rwa [Dg.vl_dg _ _ (by omega), Dg.vl_dg _ _ (by omega)] at this
  · intro w1
    exact refAway_any hway qs _ _ w1
  · intro v u w1 r1 r2
    have := refplus_any v u _ _ w1 r1 r2 (Dg.small_dg _ _ (by omega)) (Dg.small_cons.2 ⟨by omega, Dg.small_nil _ (by omega)⟩) (Dg.norm_dg _ _ (by omega)) (by rw [show ([1] : List Nat) = Dg.dg 65536 1 from by decide]; exact Dg.norm_dg _ _ (by omega)) (by omega) (by simp)
    rwa [Dg.vl_dg _ _ (by omega), show Dg.vl 65536 [1] = 1 from rfl] at this
  · intro v w1 r
    exact refLen_below v _ w1 r (Nat.le_trans (len_next hq) (by omega))
  · intro h1 h2 h3 w1
    rw [digP_up h2 h3, show carD R D (wholeP R D L gr N M E + 1) = 2 ^ (widthN R * (D - 1).toNat) from if_pos ((dig_long R D L gr N M E d1 hN hM).1 (of_decide_eq_true h1)), ← hDc1]
    exact pow2_own _ (widthN R * (D - 1).toNat / 16) (widthN R * (D - 1).toNat % 16) w1 (by omega) (by omega) (by omega)
end Go.Proofs.Ytmjhlflemfkflaa

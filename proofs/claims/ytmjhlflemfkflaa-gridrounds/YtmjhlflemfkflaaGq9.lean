/-
  Grids: the walk of GridRounds, paid.
-/
import Derived.Test.YtmjhlflemfkflaaGq8
namespace Go.Proofs.Ytmjhlflemfkflaa
open Go.RowKit

theorem roundC_a {xs ys : List Nat} {E R D L G way : Int} (h : ¬ratioC xs ys E = 0) : roundC xs ys E R D L G way = ratioC xs ys E := by
  have e : wrongG (ratioC xs ys E) (gridC R D L G) = ratioC xs ys E := if_neg h
  unfold roundC
  rw [e, if_neg h]

theorem roundC_b {xs ys : List Nat} {E R D L G way : Int} (h : ratioC xs ys E = 0) (h2 : ¬gridC R D L G = 0) : roundC xs ys E R D L G way = gridC R D L G := by
  have e : wrongG (ratioC xs ys E) (gridC R D L G) = gridC R D L G := if_pos h
  unfold roundC
  rw [e, if_neg h2]

theorem roundC_c {xs ys : List Nat} {E R D L G way : Int} (h : ratioC xs ys E = 0) (h2 : gridC R D L G = 0) : roundC xs ys E R D L G way = if isWay way = true then 0 else 6 := by
  have e : wrongG (ratioC xs ys E) (gridC R D L G) = gridC R D L G := if_pos h
  unfold roundC
  rw [e, if_pos h2]

theorem roundP_no {xs ys : List Nat} {E R D L G way : Int} {gr qs : Bool} (h : ¬roundC xs ys E R D L G way = 0) : roundP xs ys E R D L G gr qs way = noPlace := if_neg h

theorem roundC_zero {xs ys : List Nat} {E R D L G way : Int} (h : roundC xs ys E R D L G way = 0) : ratioC xs ys E = 0 ∧ gridC R D L G = 0 ∧ isWay way = true := by
  by_cases h1 : ratioC xs ys E = 0
  · by_cases h2 : gridC R D L G = 0
    · refine ⟨h1, h2, ?_⟩
      rw [roundC_c h1 h2] at h
      by_cases h3 : isWay way = true
      · exact h3
      · rw [if_neg h3] at h
        cases h
    · rw [roundC_b h1 h2] at h
      exact absurd h h2
  · rw [roundC_a h1] at h
    exact absurd h h1

theorem roundT_le (R D L G : Int) (gr qs : Bool) (N M : Nat) (E way : Int) (h1 : 1 ≤ D) (hN : N ≠ 0) (hM : M ≠ 0) : (roundT R D L G gr qs N M E way).d ≤ 2 ^ (widthN R * D.toNat) := by
  have h := whole_lt R D L gr N M E h1 hN hM
  have hd : digP R D L gr qs N M E way ≤ wholeP R D L gr N M E + 1 := by
    unfold digP
    split <;> omega
  have hp : 2 ^ (widthN R * (D - 1).toNat) ≤ 2 ^ (widthN R * D.toNat) := Nat.pow_le_pow_right (by omega) (Nat.mul_le_mul_left _ (by omega))
  unfold roundT
  split
  · exact Nat.zero_le _
  · show carD R D (digP R D L gr qs N M E way) ≤ _
    unfold carD
    split <;> omega

theorem two_len16 {d k L : Nat} (h : d ≤ 2 ^ k) (hk : k + 1 ≤ 16 * L) : (Dg.dg 65536 d).length ≤ L := by
  refine Dg.dg_len_le 65536 _ _ (by omega) (Nat.lt_of_le_of_lt h ?_)
  rw [show (65536 : Nat) = 2 ^ 16 from by decide, ← Nat.pow_mul]
  exact Nat.pow_lt_pow_right (by omega) (by omega)

theorem vl_ne {xs : List Nat} (sa : Dg.Small 4294967296 xs) (h : chk xs = 0) (hl : ¬xs.length = 0) : Dg.vl 4294967296 xs ≠ 0 := fun c => by
  have ex : Dg.dg 4294967296 (Dg.vl 4294967296 xs) = xs := Dg.dg_vl _ (by omega) _ sa (chk_zero h).1
  rw [c] at ex
  rw [← ex] at hl
  exact hl rfl

theorem roundP_len {xs ys : List Nat} {E R D L G way : Int} {gr qs : Bool} (sa : Dg.Small 4294967296 xs) (sb : Dg.Small 4294967296 ys) : (Dg.dg 65536 (roundP xs ys E R D L G gr qs way).d).length ≤ 31 := by
  unfold roundP
  split
  · rename_i h
    obtain ⟨h1, h2, -⟩ := roundC_zero h
    split
    · exact Nat.zero_le _
    · rename_i hz
      obtain ⟨c1, c2, hl, -, -⟩ := ratioC_zero h1
      obtain ⟨-, d1, d2, -⟩ := gridC_zero h2
      refine two_len16 (roundT_le R D L G gr qs _ _ E way d1 (vl_ne sa c1 hz) (vl_ne sb c2 (by omega))) ?_
      have := Nat.mul_le_mul (widthN_le R).2 (show D.toNat ≤ 120 by omega)
      omega
  · exact Nat.zero_le _

theorem gridRounds_walk (qs : Bool) (ao : Option Addr) (ca : Nat) (xs : List Nat) (bo : Option Addr) (cb : Nat) (ys : List Nat) (E R D L G : Int) (gr : Bool) (way : Int) (w : World) (ha : Rd w .u32 (.slice ao xs.length ca) xs) (hb : Rd w .u32 (.slice bo ys.length cb) ys) (sa : Dg.Small 4294967296 xs) (sb : Dg.Small 4294967296 ys) :
    Calls Try.prog 5 #[.agg #[.bool qs, .slice ao xs.length ca, .slice bo ys.length cb, .int .i64 E], .agg #[.int .i64 R, .int .i64 D, .int .i64 L, .int .i64 G, .bool gr], .int .i64 way] w fun z w' => z = .returned (.bool true) ∧ Below w.heap.size w w' := by
  obtain ⟨⟨ts, td, tp, tx, tv, tu⟩, hT⟩ : ∃ T, roundP xs ys E R D L G gr qs way = T := ⟨_, rfl⟩
  have hl16 : ratioC xs ys E = 0 → (xs.length ≤ 10000 ∧ (Dg.dg 65536 (Dg.vl 4294967296 xs)).length ≤ 20000) ∧ (ys.length ≤ 10000 ∧ (Dg.dg 65536 (Dg.vl 4294967296 ys)).length ≤ 20000) := fun h => by
    obtain ⟨c1, c2, -, -, -⟩ := ratioC_zero h
    have l1 := (chk_zero c1).2
    have l2 := (chk_zero c2).2
    have l3 := len16 sa
    have l4 := len16 sb
    omega
  have hout : ratioC xs ys E = 0 → gridC R D L G = 0 → isWay way = true → (⟨ts, td, tp, tx, tv, tu⟩ : PlaceT) = if xs.length = 0 then ⟨false, 0, 0, true, false, false⟩ else roundT R D L G gr qs (Dg.vl 4294967296 xs) (Dg.vl 4294967296 ys) E way := fun h1 h2 h3 => by
    rw [← hT]
    exact if_pos (by rw [roundC_c h1 h2, if_pos h3])
  have htd : (Dg.dg 65536 td).length ≤ 1000000 := by
    have := roundP_len (xs := xs) (ys := ys) (E := E) (R := R) (D := D) (L := L) (G := G) (way := way) (gr := gr) (qs := qs) sa sb
    rw [hT] at this
    exact Nat.le_trans this (by omega)
  refine gridRoundsW qs ao _ ca bo _ cb E R D L G gr way (ratioC xs ys E) (gridC R D L G) (roundC xs ys E R D L G way) (isWay way) ts td tp tx tv tu (Dg.vl 4294967296 xs) (Dg.vl 4294967296 ys) w ?_ ?_ ?_ ?_ ?_ ?_ ?_ ?_ ?_ ?_ gbegun_any ?_
  · intro h
    have e := roundC_a (R := R) (D := D) (L := L) (G := G) (way := way) h
    exact ⟨e, hT.symm.trans (roundP_no (by rw [e]; exact h))⟩
  · intro h h2
    have e := roundC_b (way := way) h h2
    exact ⟨e, hT.symm.trans (roundP_no (by rw [e]; exact h2))⟩
  · intro h h2 h3
    have e := roundC_c (way := way) h h2
    rw [if_neg (by rw [h3]; decide)] at e
    exact ⟨e, hT.symm.trans (roundP_no (by rw [e]; decide))⟩
  · intro h h2 h3
    rw [roundC_c h h2, if_pos h3]
  · intro w1 b
    rw [← hT]
    exact gRound_any qs ao ca xs bo cb ys E R D L G gr way w1 (ha.later b) (hb.later b) sa sb
  · intro w1 b
    exact refCheckRatio_any qs ao ca xs bo cb ys E w1 (ha.later b) (hb.later b)
  · intro w1
    exact refGcheck_any R D L G gr w1
  · intro w1
    exact refIsWay_any way w1
  · intro h h2 h3 w1 b
    have l := hl16 h
    exact ofRatio_any qs ao ca xs bo cb ys E w1 (ha.later b) (hb.later b) sa sb (by omega) (by omega)
  · intro h h2 h3 no nc eo ec w1 r1 r2
    rw [hout h h2 h3]
    obtain ⟨c1, c2, hl, e1, e2⟩ := ratioC_zero h
    have l := hl16 h
    have hM : Dg.vl 4294967296 ys ≠ 0 := vl_ne sb c2 (by omega)
    by_cases hz : xs.length = 0
    · rw [if_pos hz]
      have e0 : Dg.vl 4294967296 xs = 0 := by rw [List.length_eq_zero_iff.1 hz]; rfl
      rw [e0]
      exact roundTo_zero R D L G gr qs no nc eo _ ec E way w1
    · rw [if_neg hz]
      have hN : Dg.vl 4294967296 xs ≠ 0 := vl_ne sa c1 hz
      exact roundTo_any R D L G gr qs no nc eo ec _ _ E way w1 h2 h3 r1 r2 l.1.2 l.2.2 hN hM e1 e2
  · intro uo ul uc vo vl vc w1 r1 r2
    exact samePlace_any ts tp tx tv tu td uo ul uc vo vl vc w1 r1 r2 htd
end Go.Proofs.Ytmjhlflemfkflaa

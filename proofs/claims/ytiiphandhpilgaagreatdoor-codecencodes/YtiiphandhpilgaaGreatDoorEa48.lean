/-
  Texts laid together: Ef2, Ce12, Gk3, Gk6.
-/
import Derived.Test.YtiiphandhpilgaaGreatDoorEa03
import Derived.Test.YtiiphandhpilgaaGreatDoorEa22
import Derived.Test.YtiiphandhpilgaaGreatDoorEa26
import Derived.Test.YtiiphandhpilgaaGreatDoorEa46
import Derived.Test.YtiiphandhpilgaaGreatDoorEa47
import Derived.Test.YtiiphandhpilgaaGreatDoorEa13
import Derived.Test.YtiiphandhpilgaaGreatDoorEa23
import Derived.Test.YtiiphandhpilgaaGreatDoorEa40
import Derived.Test.YtiiphandhpilgaaGreatDoorEa41
import Derived.Test.YtiiphandhpilgaaGreatDoorEa42
import Derived.Test.YtiiphandhpilgaaGreatDoorEa43
namespace Go.Proofs.YtiiphandhpilgaaGreatDoor
open Go.RowKit
theorem format_flat (k : Nat) (hk : 1 ≤ k ∧ k ≤ 8) (w : World) : Calls Tryz.prog 12 #[.int .i64 (k : Int)] w fun z w' => z = .returned (.tuple #[.agg #[.int .i64 (szN k : Int), .int .i64 (exN k : Int), .int .i64 (frN k : Int), .int .i64 (rdN k : Int), .int .i64 (dgN k : Int), .int .i64 (lsI k), .int .i64 (gsI k), .bool (decide (k ≤ 3)), .int .i64 (fmN k : Int)], .bool true]) ∧ Below w.heap.size w w' := by
  have h := format_any k hk w
  rcases eight hk with rfl | rfl | rfl | rfl | rfl | rfl | rfl | rfl
  all_goals exact h

theorem wdI_nat (R : Int) : wdI R = (widthN R : Int) := by
  unfold wdI widthN
  split <;> rfl

theorem pow2_small (m : Nat) (hm : m ≤ 200) (w : World) : Calls Tryz.prog 31 #[.int .i64 (m : Int)] w (RNum w (2 ^ m)) :=
  pow2_any m (m / 16) (m % 16) w (by omega) (Nat.mod_lt _ (by omega)) (by omega)

/-- What is known of the formats' numbers. -/
theorem fmt_fit {k : Nat} (hk : 1 ≤ k ∧ k ≤ 8) : 1 ≤ exN k ∧ 1 ≤ frN k ∧ 1 ≤ dgN k ∧ dgN k ≤ 64 ∧ -16445 ≤ lsI k ∧ lsI k ≤ 0 ∧ lsI k ≤ gsI k ∧ gsI k ≤ 16320 ∧ widthN (rdN k : Int) * dgN k ≤ 64 ∧ widthN (rdN k : Int) ≤ 4 ∧ 1 ≤ widthN (rdN k : Int) ∧ gridC (rdN k : Int) (dgN k : Int) (lsI k) (gsI k) = 0 := by
  rcases eight hk with rfl | rfl | rfl | rfl | rfl | rfl | rfl | rfl <;> exact ⟨by decide, by decide, by decide, by decide, by decide, by decide, by decide, by decide, by decide, by decide, by decide, by decide⟩

/-- The power at which the reference writes a number. -/
def rfK (k : Nat) (n : Nat) (e : Int) : Int := max (lsI k) (powerR (rdN k : Int) (dgN k : Int) (e + (bitLen n : Int) - 1))

theorem reflen_small (v : Value) (a : Nat) (w : World) (h : Rd w .i64 v (Dg.dg 65536 a)) (hl : (Dg.dg 65536 a).length ≤ 2000000) : Calls Tryz.prog 28 #[v] w fun z w' => z = .returned (.int .i64 (bitLen a : Int)) ∧ Below w.heap.size w w' := by
  have := reflen_any _ _ w h (Dg.small_dg _ _ (by omega)) (Dg.norm_dg _ _ (by omega)) (by omega)
  rw [Dg.vl_dg _ _ (by omega)] at this
  refine this.mono ?_
  rintro z w' ⟨rfl, rfl⟩
  exact ⟨rfl, Below.refl _ _⟩

theorem dg16_mono {a b : Nat} (h : a ≤ b) : (Dg.dg 65536 a).length ≤ (Dg.dg 65536 b).length := by
  refine Dg.dg_len_le 65536 a _ (by omega) (Nat.lt_of_le_of_lt h ?_)
  have := Dg.vl_lt 65536 (Dg.dg 65536 b) (Dg.small_dg 65536 b (by omega))
  rwa [Dg.vl_dg 65536 b (by omega)] at this

theorem lead_le {d j : Nat} (h : bitLen d = j + 1) : 2 ^ j ≤ d := by
  rcases Nat.lt_or_ge d (2 ^ j) with c | c
  · have := bitLen_le_of d j c
    omega
  · exact c

set_option maxHeartbeats 1600000 in
theorem encodeOf_pay (k : Nat) (hk : 1 ≤ k ∧ k ≤ 8) (c : Int) (g ts : Bool) (so : Option Addr) (tn sc : Nat) (te : Int) (E F : Nat) (ng : Bool) (K : Int) (d : Nat) (w : World) (hE : E < 65536) (hF : F < 340282366920938463463374607431768211456) (hd : d < 340282366920938463463374607431768211456)
    (HN : c = 2 → Rd w .i64 (.slice so (Dg.dg 65536 tn).length sc) (Dg.dg 65536 tn) ∧ (Dg.dg 65536 tn).length ≤ 20000 ∧ -79000 ≤ te ∧ te ≤ 200000 ∧ K = rfK k tn te ∧ d = shN tn (te - (widthN (rdN k : Int) : Int) * K) ∧ K - lsI k < 65536)
    (HC : (c = 1 ∧ E = 0 ∧ F = 0 ∧ ng = g) ∨ (c = 5 ∧ E = 0 ∧ F = 0 ∧ ng = true) ∨ (c = 3 ∧ (k : Int) = 3 ∧ E + 1 = 2 ^ exN k ∧ F = 2 ^ 63 ∧ ng = g) ∨ (c = 3 ∧ (k : Int) ≠ 3 ∧ E + 1 = 2 ^ exN k ∧ F = 0 ∧ ng = g) ∨ (c = 4 ∧ (k : Int) = 3 ∧ E + 1 = 2 ^ exN k ∧ F = 2 ^ 63 + 2 ^ 62 ∧ ng = g) ∨ (c = 4 ∧ (k : Int) ≠ 3 ∧ E + 1 = 2 ^ exN k ∧ F = 2 ^ (frN k - 1) ∧ ng = g) ∨ (c = 2 ∧ ng = g ∧ (((fmN k : Int) = 2 ∧ E = (K - lsI k).toNat ∧ F = d) ∨ ((fmN k : Int) ≠ 2 ∧ (bitLen d : Int) ≠ (dgN k : Int) ∧ E = (K - lsI k).toNat ∧ F = d) ∨ ((fmN k : Int) ≠ 2 ∧ (bitLen d : Int) = (dgN k : Int) ∧ (k : Int) = 3 ∧ E = (K - lsI k).toNat + 1 ∧ F = d) ∨ ((fmN k : Int) ≠ 2 ∧ (bitLen d : Int) = (dgN k : Int) ∧ (k : Int) ≠ 3 ∧ E = (K - lsI k).toNat + 1 ∧ F = d - 2 ^ (dgN k - 1))))) :
    Calls Tryz.prog 8 #[.int .i64 (k : Int), .agg #[.int .i64 c, .bool g, .bool ts, .slice so (Dg.dg 65536 tn).length sc, .int .i64 te]] w fun z w' => z = .returned (.string (strOf (wrtB k ng E F))) ∧ Below w.heap.size w w' := by
  obtain ⟨s1, s2, s3, s4, -, s7⟩ := sizes_fit hk
  obtain ⟨f1, f2, f3, f4, f5, f6, f7, f8, f9, f10, f11, -⟩ := fmt_fit hk
  have hdl := Dg.dg_len_le 65536 d 8 (by omega) hd
  have hw0 : ¬ ((widthN (rdN k : Int) : Nat) : Int) = 0 := by omega
  refine encodeOf_W (k : Int) (szN k) (exN k) (frN k) (8 * szN k) (rdN k : Int) (dgN k : Int) (lsI k) (gsI k) (fmN k : Int) (widthN (rdN k : Int) : Int) (decide (k ≤ 3)) c g ts so tn sc te E F ng (strOf (wrtB k ng E F)) (2 ^ 63) (2 ^ 62) (2 ^ 63 + 2 ^ 62) (2 ^ (frN k - 1)) (2 ^ (dgN k - 1)) (bitLen tn : Int) K (powerR (rdN k : Int) (dgN k : Int) (te + (bitLen tn : Int) - 1)) ((te + (bitLen tn : Int) - 1 + 80000).tdiv (widthN (rdN k : Int) : Int)) ((80000 : Int).tdiv (widthN (rdN k : Int) : Int)) (bitLen d : Int) d (K - lsI k).toNat w
    s2 f1 s4 f2 s1 hE (by omega) (by omega) (by simpa using hw0) hw0 ?_ (fun w1 => format_flat k hk w1) ?_ (fun w1 => pow2_small 63 (by omega) w1) (fun w1 => pow2_small 62 (by omega) w1) ?_ ?_ ?_ ?_ ?_ (fun v w1 h => reflen_small v d w1 h (by omega)) ?_ (fun w1 => from_any E w1 hE) (fun v w1 h => bitsOfN_any v E (exN k) w1 h (by omega) (by omega) f1) (fun v w1 h => bitsOfN_any v F (frN k) w1 h hF (by omega) f2) ?_ HC
  · intro h2
    obtain ⟨hr, hl, e1, e2, hK, -, hKL⟩ := HN h2
    have hbl : bitLen tn ≤ 16 * 20000 := gbits16 hl
    have hsk := inR_seek (rdN k : Int) (dgN k : Int) te (bitLen tn) (by omega)
    have q1 := Int.natAbs_tdiv_le_natAbs (te + (bitLen tn : Int) - 1 + 80000) (widthN (rdN k : Int) : Int)
    have q2 := Int.natAbs_tdiv_le_natAbs (80000 : Int) (widthN (rdN k : Int) : Int)
    have hKK : K = max (lsI k) (powerR (rdN k : Int) (dgN k : Int) (te + (bitLen tn : Int) - 1)) := hK
    have hK1 : lsI k ≤ K := by rw [hKK]; exact Int.le_max_left _ _
    have hwK : -100000 ≤ (widthN (rdN k : Int) : Int) * K ∧ (widthN (rdN k : Int) : Int) * K ≤ 500000 := by
      rcases (show widthN (rdN k : Int) = 1 ∨ widthN (rdN k : Int) = 4 from by unfold widthN; split <;> omega) with h | h <;> rw [h] <;> omega
    refine ⟨IntWalk.i64_in _ ⟨by omega, by omega⟩, IntWalk.i64_in _ ⟨by omega, by omega⟩, IntWalk.i64_in _ ⟨by omega, by omega⟩, rfl, rfl, IntWalk.i64_in _ ⟨by omega, by omega⟩, IntWalk.i64_in _ ⟨by omega, by omega⟩, IntWalk.i64_in _ ⟨by omega, by omega⟩, IntWalk.i64_in _ ⟨by omega, by omega⟩, ?_, hKK.symm, IntWalk.i64_in _ ⟨by omega, by omega⟩, IntWalk.i64_in _ ⟨by omega, by omega⟩, ?_, by omega⟩
    · rw [hsk]
      exact IntWalk.i64_in _ ⟨by omega, by omega⟩
    · rw [Int.toNat_of_nonneg (by omega)]
      exact IntWalk.i64_in _ ⟨by omega, by omega⟩
  · intro w1
    have := cwidth_any (rdN k : Int) (dgN k : Int) (lsI k) (gsI k) (decide (k ≤ 3)) w1
    rwa [wdI_nat] at this
  · intro v u w1 h1 h2
    have := refplus_any v u _ _ w1 h1 h2 (Dg.small_dg _ _ (by omega)) (Dg.small_dg _ _ (by omega)) (Dg.norm_dg _ _ (by omega)) (Dg.norm_dg _ _ (by omega)) (Nat.le_trans (Dg.dg_len_le 65536 (2 ^ 63) 8 (by omega) (by decide)) (by omega)) (Nat.le_trans (Dg.dg_len_le 65536 (2 ^ 62) 8 (by omega) (by decide)) (by omega))
    rwa [Dg.vl_dg _ _ (by omega), Dg.vl_dg _ _ (by omega)] at this
  · intro w1
    rw [show (frN k : Int) - 1 = ((frN k - 1 : Nat) : Int) from by omega]
    exact pow2_small (frN k - 1) (by omega) w1
  · intro w1
    rw [show (dgN k : Int) - 1 = ((dgN k - 1 : Nat) : Int) from by omega]
    exact pow2_small (dgN k - 1) (by omega) w1
  · intro h2 w1 b1
    obtain ⟨hr, hl, -⟩ := HN h2
    exact reflen_small _ tn w1 (hr.later b1) (by omega)
  · intro h2 w1 b1
    obtain ⟨hr, hl, e1, e2, hK, hdd, hKL⟩ := HN h2
    have hK1 : lsI k ≤ K := by rw [hK]; exact Int.le_max_left _ _
    have hwK : -100000 ≤ (widthN (rdN k : Int) : Int) * K ∧ (widthN (rdN k : Int) : Int) * K ≤ 500000 := by
      rcases (show widthN (rdN k : Int) = 1 ∨ widthN (rdN k : Int) = 4 from by unfold widthN; split <;> omega) with h | h <;> rw [h] <;> omega
    have := floorOf_any _ ⟨false, tn, te - (widthN (rdN k : Int) : Int) * K⟩ w1 ⟨_, rfl, hr.later b1⟩ (by show (Dg.dg 65536 tn).length ≤ 100000; omega) (by show -1000000 ≤ te - (widthN (rdN k : Int) : Int) * K; omega) (by show te - (widthN (rdN k : Int) : Int) * K ≤ 1000000; omega)
    rw [hdd]
    exact this
  · intro hlen v u w1 h1 h2
    have hle : 2 ^ (dgN k - 1) ≤ d := lead_le (by omega)
    have := refless_any v u _ _ w1 h1 h2 (Dg.small_dg _ _ (by omega)) (Dg.small_dg _ _ (by omega)) (by omega) (dg16_mono hle) (by rw [Dg.vl_dg _ _ (by omega), Dg.vl_dg _ _ (by omega)]; exact hle)
    rwa [Dg.vl_dg _ _ (by omega), Dg.vl_dg _ _ (by omega)] at this
  · intro gg cap w1 hcell
    have := patternOf_any k hk gg 0 cap (patF (exN k) (frN k) ng E F) w1 (fun i hi => by
      rw [Nat.zero_add, hcell i hi, pat_row _ _ _ _ _ _ (by omega)])
    rwa [← wrtB_bits hk] at this

/-- EncodeOf of what is no number. -/
theorem encodeOf_oth (k m : Nat) (hk : 1 ≤ k ∧ k ≤ 8) (hm : m = 1 ∨ m = 3 ∨ m = 4 ∨ m = 5) (hs : spcOk k m = true) (g ts : Bool) (so : Option Addr) (tn sc : Nat) (te : Int) (w : World) :
    Calls Tryz.prog 8 #[.int .i64 (k : Int), .agg #[.int .i64 (m : Int), .bool g, .bool ts, .slice so (Dg.dg 65536 tn).length sc, .int .i64 te]] w fun z w' => z = .returned (.string (strOf (wrtB k (spcG k m || g) (spcE k m) (spcF k m)))) ∧ Below w.heap.size w w' := by
  refine encodeOf_pay k hk (m : Int) g ts so tn sc te (spcE k m) (spcF k m) (spcG k m || g) 0 0 w (spcE_small m hk) (Nat.lt_trans (spcF_small m hk) (by decide)) (by decide) (fun h => by omega) ?_
  rcases hm with rfl | rfl | rfl | rfl
  · exact .inl ⟨rfl, if_neg (fun h => by omega), by unfold spcF; simp, rfl⟩
  · refine .inr (.inr ?_)
    have h3 : k ≤ 3 := by simpa [spcOk] using hs
    rcases (show k = 1 ∨ k = 2 ∨ k = 3 from by omega) with rfl | rfl | rfl
    · exact .inr (.inl ⟨rfl, by decide, by decide, by decide, rfl⟩)
    · exact .inr (.inl ⟨rfl, by decide, by decide, by decide, rfl⟩)
    · exact .inl ⟨rfl, by decide, by decide, by decide, rfl⟩
  · refine .inr (.inr (.inr (.inr ?_)))
    have h3 : k ≤ 3 := by simpa [spcOk] using hs
    rcases (show k = 1 ∨ k = 2 ∨ k = 3 from by omega) with rfl | rfl | rfl
    · exact .inr (.inl ⟨rfl, by decide, by decide, by decide, rfl⟩)
    · exact .inr (.inl ⟨rfl, by decide, by decide, by decide, rfl⟩)
    · exact .inl ⟨rfl, by decide, by decide, by decide, rfl⟩
  · have h6 : 6 ≤ k := by simpa [spcOk] using hs
    refine .inr (.inl ⟨rfl, if_neg (fun h => by omega), ?_, ?_⟩)
    · unfold spcF
      rw [if_neg (by omega)]
    · simp [spcG, h6]

theorem and_lead {d j : Nat} (h : d < 2 ^ (j + 1)) : d &&& 2 ^ j ≠ 0 ↔ bitLen d = j + 1 := by
  have hb := bitLen_le_of d (j + 1) h
  rw [and_bit]
  have hp : 0 < 2 ^ j := Nat.pow_pos (by omega)
  by_cases hc : 2 ^ j ≤ d
  · have h1 : bitLen d = j + 1 := by
      have := (lt_bits d j).1
      have h2 : ¬ bitLen d < j + 1 := fun c => this c hc
      omega
    have ht : d.testBit j = true := by
      rw [Nat.testBit_eq_decide_div_mod_eq]
      have : d / 2 ^ j = 1 := by
        rw [Nat.pow_succ] at h
        have h3 : 1 ≤ d / 2 ^ j := (Nat.le_div_iff_mul_le hp).2 (by omega)
        have h4 : d / 2 ^ j < 2 := (Nat.div_lt_iff_lt_mul hp).2 (by omega)
        omega
      rw [this]
      rfl
    rw [if_pos ht]
    exact ⟨fun _ => h1, fun _ => by omega⟩
  · have h1 : bitLen d < j + 1 := (lt_bits d j).2 hc
    have ht : d.testBit j = false := by
      rw [Nat.testBit_eq_decide_div_mod_eq, Nat.div_eq_of_lt (by omega)]
      rfl
    rw [if_neg (by rw [ht]; simp)]
    exact ⟨fun c => absurd rfl c, fun c => by omega⟩

set_option maxHeartbeats 1600000 in
/-- EncodeOf of a number that the format's grid holds. -/
theorem encodeOf_num (k : Nat) (hk : 1 ≤ k ∧ k ≤ 8) (g s ts : Bool) (so : Option Addr) (tn sc : Nat) (te : Int) (w : World) (hr : Rd w .i64 (.slice so (Dg.dg 65536 tn).length sc) (Dg.dg 65536 tn)) (hl : (Dg.dg 65536 tn).length ≤ 20000) (e1 : -79000 ≤ te) (e2 : te ≤ 200000) (h0 : tn ≠ 0)
    (hh : heldB (rdN k : Int) (dgN k : Int) (lsI k) (gsI k) (decide (k ≤ 3)) tn te = true) :
    Calls Tryz.prog 8 #[.int .i64 (k : Int), .agg #[.int .i64 2, .bool g, .bool ts, .slice so (Dg.dg 65536 tn).length sc, .int .i64 te]] w fun z w' => z = .returned (.string (strOf (wrtB k g (heE (rdN k : Int) (lsI k) (leadN k) (plT k s tn te)) (plT k s tn te).d))) ∧ Below w.heap.size w w' := by
  obtain ⟨f1, f2, f3, f4, f5, f6, f7, f8, f9, f10, f11, hgc⟩ := fmt_fit hk
  obtain ⟨-, hpd, hpp, hne⟩ := held_place (s := s) (way := 3) (by omega) f7 h0 hh
  have hK : spotK (rdN k : Int) (dgN k : Int) (lsI k) (decide (k ≤ 3)) tn te = rfK k tn te := held_power h0 hh
  obtain ⟨ho, hu, -⟩ := held_round (s := s) (way := 3) (by omega) f7 h0 hh
  have hsp := (round_spot (by omega) f7 h0 (by omega) ho hu).resolve_left (fun c => hne (by rw [← hpd]; exact c.1))
  have hp : (plT k s tn te).p = rfK k tn te := by rw [← hK]; exact hpp
  have hdd : (plT k s tn te).d = shN tn (te - (widthN (rdN k : Int) : Int) * rfK k tn te) := by rw [← hK]; exact hpd
  obtain ⟨-, hp1, hp2, hdlt, -⟩ := hsp
  change lsI k ≤ (plT k s tn te).p at hp1
  change (plT k s tn te).p ≤ gsI k at hp2
  change (plT k s tn te).d < _ at hdlt
  rw [hp] at hp1 hp2
  have hd64 : (plT k s tn te).d < 2 ^ 64 := Nat.lt_of_lt_of_le hdlt (Nat.pow_le_pow_right (by omega) (by rw [Int.toNat_natCast]; exact f9))
  unfold heE
  rw [hp]
  generalize plT k s tn te = pt at *
  generalize hKK : rfK k tn te = K at *
  have HN : (2 : Int) = 2 → Rd w .i64 (.slice so (Dg.dg 65536 tn).length sc) (Dg.dg 65536 tn) ∧ (Dg.dg 65536 tn).length ≤ 20000 ∧ -79000 ≤ te ∧ te ≤ 200000 ∧ K = rfK k tn te ∧ pt.d = shN tn (te - (widthN (rdN k : Int) : Int) * K) ∧ K - lsI k < 65536 := fun _ => ⟨hr, hl, e1, e2, hKK.symm, hdd, by omega⟩
  have hdb : pt.d < 340282366920938463463374607431768211456 := Nat.lt_trans hd64 (by decide)
  by_cases hR : (rdN k : Int) = 2
  · have hfm : (fmN k : Int) ≠ 2 := by
      rcases eight hk with rfl | rfl | rfl | rfl | rfl | rfl | rfl | rfl <;> revert hR <;> decide
    have hw1 : widthN (rdN k : Int) = 1 := by rw [hR]; rfl
    rw [hw1, Nat.one_mul, Int.toNat_natCast] at hdlt
    have hdj : dgN k - 1 + 1 = dgN k := by omega
    have hal := and_lead (d := pt.d) (j := dgN k - 1) (by rw [hdj]; exact hdlt)
    rw [hdj] at hal
    by_cases hb : bitLen pt.d = dgN k
    · rw [if_pos ⟨hR, hal.2 hb⟩]
      by_cases h3 : k = 3
      · exact encodeOf_pay k hk 2 g ts so tn sc te _ _ g K pt.d w (by omega) hdb hdb HN (.inr (.inr (.inr (.inr (.inr (.inr ⟨rfl, rfl, .inr (.inr (.inl ⟨hfm, by omega, by omega, rfl, rfl⟩))⟩))))))
      · have hfr : dgN k - 1 = frN k := by
          rcases eight hk with rfl | rfl | rfl | rfl | rfl | rfl | rfl | rfl <;> revert hR h3 <;> decide
        have hle : 2 ^ frN k ≤ pt.d := by rw [← hfr]; exact lead_le (by omega)
        rw [← wrtB_less hk g _ pt.d hle]
        exact encodeOf_pay k hk 2 g ts so tn sc te _ _ g K pt.d w (by omega) (Nat.lt_of_le_of_lt (Nat.sub_le _ _) hdb) hdb HN (.inr (.inr (.inr (.inr (.inr (.inr ⟨rfl, rfl, .inr (.inr (.inr ⟨hfm, by omega, by omega, rfl, by rw [hfr]⟩))⟩))))))
    · rw [if_neg (fun c => hb (hal.1 c.2)), Nat.add_zero]
      exact encodeOf_pay k hk 2 g ts so tn sc te _ _ g K pt.d w (by omega) hdb hdb HN (.inr (.inr (.inr (.inr (.inr (.inr ⟨rfl, rfl, .inr (.inl ⟨hfm, by omega, rfl, rfl⟩)⟩))))))
  · have hfm : (fmN k : Int) = 2 := by
      rcases eight hk with rfl | rfl | rfl | rfl | rfl | rfl | rfl | rfl <;> revert hR <;> decide
    rw [if_neg (fun c => hR c.1), Nat.add_zero]
    exact encodeOf_pay k hk 2 g ts so tn sc te _ _ g K pt.d w (by omega) hdb hdb HN (.inr (.inr (.inr (.inr (.inr (.inr ⟨rfl, rfl, .inl ⟨hfm, rfl, rfl⟩⟩))))))
end Go.Proofs.YtiiphandhpilgaaGreatDoor
namespace Go.Proofs.YtiiphandhpilgaaGreatDoor
open Go.RowKit
/-- What Encode answers: an error's number and a text. -/
def encE (n c : Int) (ng : Bool) (xs : List Nat) (p : Int) : Int :=
  if famC n = 0 ∨ c < 1 ∨ 5 < c then 6 else if chk xs ≠ 0 then chk xs else if c = 2 then enE n.toNat ng xs p else othE n.toNat c.toNat xs.length ng p
def encS (n c : Int) (ng : Bool) (xs : List Nat) (p : Int) : ByteArray :=
  if famC n = 0 ∨ c < 1 ∨ 5 < c then ⟨#[]⟩ else if chk xs ≠ 0 then ⟨#[]⟩ else if c = 2 then enS n.toNat ng xs p else othS n.toNat c.toNat xs.length ng p

theorem encode_any (n c : Int) (ng : Bool) (ao : Option Addr) (ca : Nat) (xs : List Nat) (p : Int) (w : World) (hr : Rd w .u32 (.slice ao xs.length ca) xs) (sa : Dg.Small 4294967296 xs) (hT : Tab w) :
    Calls Tryz.prog 6 #[.int .i64 n, .agg #[.int .i64 c, .bool ng, .slice ao xs.length ca, .int .i64 p]] w fun z w' => z = .returned (.tuple #[.string (encS n c ng xs p), .int .i64 (encE n c ng xs p)]) ∧ Below w.heap.size w w' := by
  have HN : ∀ w1, Below w.heap.size w w1 → Calls Tryz.prog 21 #[.slice ao xs.length ca] w1 fun z w' => z = .returned (.int .i64 (chk xs)) ∧ Below w1.heap.size w1 w' := fun w1 b => (check_any _ xs w1 (hr.later b)).mono (fun _ _ h => ⟨h.1, by rw [h.2]; exact Below.refl _ _⟩)
  unfold encE encS
  by_cases hf : famC n = 0
  · rw [if_pos (.inl hf), if_pos (.inl hf)]
    exact enc_none n c p ng ao xs.length ca w (fun w1 => layoutOf_none n w1 hf)
  · obtain ⟨h1, h2, h3⟩ := famC_in hf
    obtain ⟨k, rfl⟩ : ∃ k : Nat, n = (k : Int) := ⟨n.toNat, h3.symm⟩
    rw [Int.toNat_natCast] at h1 h2 ⊢
    have HL := fun w1 => layoutOf_any k ⟨h1, h2⟩ w1
    by_cases hc1 : c < 1
    · rw [if_pos (.inr (.inl hc1)), if_pos (.inr (.inl hc1))]
      rcases eight ⟨h1, h2⟩ with rfl | rfl | rfl | rfl | rfl | rfl | rfl | rfl
      all_goals exact enc_low _ _ _ _ _ _ _ _ _ _ c p ng ao xs.length ca w HL hc1
    · by_cases hc5 : 5 < c
      · rw [if_pos (.inr (.inr hc5)), if_pos (.inr (.inr hc5))]
        rcases eight ⟨h1, h2⟩ with rfl | rfl | rfl | rfl | rfl | rfl | rfl | rfl
        all_goals exact enc_high _ _ _ _ _ _ _ _ _ _ c p ng ao xs.length ca w HL hc5
      · have hno : ¬ (famC (k : Int) = 0 ∨ c < 1 ∨ 5 < c) := by
          rintro (h | h | h)
          · exact hf h
          · exact hc1 h
          · exact hc5 h
        rw [if_neg hno, if_neg hno]
        by_cases hn : chk xs = 0
        · rw [if_neg (show ¬ chk xs ≠ 0 from fun h => h hn), if_neg (show ¬ chk xs ≠ 0 from fun h => h hn)]
          by_cases hc2 : c = 2
          · subst hc2
            rw [if_pos rfl, if_pos rfl]
            have HO := fun w1 (b : Below w.heap.size w w1) => encodeNumber_any k ⟨h1, h2⟩ ng ao ca xs p w1 (hr.later b) sa hn (hT.later b)
            generalize enS k ng xs p = st at *
            generalize enE k ng xs p = er at *
            rcases eight ⟨h1, h2⟩ with rfl | rfl | rfl | rfl | rfl | rfl | rfl | rfl
            all_goals exact enc_number _ _ _ _ _ _ _ _ _ _ p ng ao xs.length ca w HL _ HN st er HO hn
          · rw [if_neg hc2, if_neg hc2]
            obtain ⟨m, hm⟩ : ∃ m : Nat, c = (m : Int) := ⟨c.toNat, by omega⟩
            subst hm
            rw [Int.toNat_natCast]
            have HO := fun w1 => encodeOther_any k m ⟨h1, h2⟩ (by omega) ng ao xs.length ca p w1
            generalize othS k m xs.length ng p = st at *
            generalize othE k m xs.length ng p = er at *
            rcases eight ⟨h1, h2⟩ with rfl | rfl | rfl | rfl | rfl | rfl | rfl | rfl
            all_goals exact enc_other _ _ _ _ _ _ _ _ _ _ _ p ng ao xs.length ca w HL _ HN st er HO (by omega) (by omega) (by omega) hn
        · rw [if_pos hn, if_pos hn]
          rcases eight ⟨h1, h2⟩ with rfl | rfl | rfl | rfl | rfl | rfl | rfl | rfl
          all_goals exact enc_digits _ _ _ _ _ _ _ _ _ _ c p ng ao xs.length ca w HL _ HN (by omega) (by omega) hn
end Go.Proofs.YtiiphandhpilgaaGreatDoor
namespace Go.Proofs.YtiiphandhpilgaaGreatDoor
open Go.RowKit
theorem two_len {d k L : Nat} (h : d < 2 ^ k) (hk : k ≤ 32 * L) : (Dg.dg 4294967296 d).length ≤ L := by
  refine Dg.dg_len_le 4294967296 _ _ (by omega) (Nat.lt_of_lt_of_le h ?_)
  rw [show (4294967296 : Nat) = 2 ^ 32 from by decide, ← Nat.pow_mul]
  exact Nat.pow_le_pow_right (by omega) hk

end Go.Proofs.YtiiphandhpilgaaGreatDoor
namespace Go.Proofs.YtiiphandhpilgaaGreatDoor
open Go.RowKit
theorem held_bare {R D L G : Int} (gr : Bool) (t : Trip) (hLG : L ≤ G) : heldB R D L G gr (bare t).n (bare t).e = heldB R D L G gr t.n t.e := by
  rw [← held_in gr t hLG, ← held_in gr (bare t) hLG, bare_bare]

end Go.Proofs.YtiiphandhpilgaaGreatDoor

/-
  Patterns: the law of CodecSteps, paid.
-/
import Derived.Test.YtiiphandhpilgaaGreatDoorNd47
import Derived.Test.YtiiphandhpilgaaGreatDoorNd48
namespace Go.Proofs.YtiiphandhpilgaaGreatDoor
open Go.RowKit
theorem step_back {R D L G : Int} {gr : Bool} {T B : Trip} (hg : gridC R D L G = 0) (hd : dchk (Dg.dg 4294967296 T.n) T.e = 0) (hh : heldB R D L G gr T.n T.e = true) (hb : bare T = T) (h : stepR R D L G gr T.s true (Dg.dg 4294967296 T.n) T.e = (B, 0)) :
  stepR R D L G gr B.s false (Dg.dg 4294967296 B.n) B.e = (T, 0) ∧ signT (plusT T (negT B)) = -1 := by
 obtain ⟨-, d1, -, -, -, -, -, lg, -⟩ := gridC_zero hg
 obtain ⟨z1, z2, z3, z4, z5, z6⟩ := far_zero (R := R) (D := D) (L := L) (gr := gr) d1
 have hzero : ∀ (s : Bool) (e : Int), bare ⟨s, 0, e⟩ = ⟨false, 0, 0⟩ := fun s e => by simp [bare]
 by_cases h0 : T.n = 0
 ·have hT : T = ⟨false, 0, 0⟩ := by
   rw [← hb]
   unfold bare
   rw [if_pos h0]
  subst hT
  have hz := zero_step (gr := gr) (e := 0) false true hg (by omega) (by omega)
  have hB : B = bare ⟨!true, farD R D gr 0, (widthN R : Int) * L⟩ := congrArg Prod.fst (h.symm.trans hz)
  subst hB
  have := near_step (gr := gr) false hg z2 (Int.le_refl L) lg z3 z4 z5 rfl
  refine ⟨?_, ?_⟩
  ·rw [hzero] at this
   exact this
  ·rw [← hzero false 0, sign_bare]
   obtain ⟨K, hK⟩ : ∃ K : Nat, K = ((widthN R : Int) * L).natAbs := ⟨_, rfl⟩
   refine less_sign (K := K) (by simp only; omega) (by simp only; omega) ?_
   rw [V_so, V_so]
   simp only [Bool.false_eq_true, if_false, Nat.zero_mul, Bool.not_true]
   have h3 := Nat.mul_pos (Nat.pos_of_ne_zero z2) (two_pos ((widthN R : Int) * L + (K : Int)).toNat)
   omega
 ·obtain ⟨f1, f2, f3, f4, f5, f6, -⟩ := found_spot d1 h0 hh
  have ff := found_full d1 h0 hh
  have ft := found_trip T.s d1 h0 hh
  rw [show (⟨T.s, T.n, T.e⟩ : Trip) = T from rfl, hb] at ft
  generalize findD R D L gr T.n T.e = d at *
  generalize spotK R D L gr T.n T.e = k at *
  have hTs : T.s = (bare ⟨T.s, d, (widthN R : Int) * k⟩).s := by rw [← ft]
  obtain ⟨s, hs⟩ : ∃ s, T.s = s := ⟨_, rfl⟩
  rw [hs] at ft
  cases s
  ·-- above 0
   have hcar : carP R D (d + 1) k ≤ G := by
    refine Decidable.byContradiction fun c => ?_
    have hst := step_spot (s := T.s) (up := true) hg hd hh
    have hl : (Dg.dg 4294967296 T.n).length ≠ 0 := fun c => h0 (dg_len_zero.1 c)
    have hK : stepK R D L G gr T.s true (Dg.dg 4294967296 T.n).length T.n T.e = carP R D (d + 1) k := by
     unfold stepK
     rw [show stepN T.s true (Dg.dg 4294967296 T.n).length = T.s from if_neg hl, if_neg (by rw [hs]; decide), f1, f2]
     exact (far_next (R := R) (D := D) (L := L) (gr := gr) (.inl f3)).2
    unfold stepR at h
    rw [Dg.vl_dg _ _ (by omega), if_pos (show onC (dchk (Dg.dg 4294967296 T.n) T.e) (gridC R D L G) = 0 from (if_pos hd).trans hg), if_pos hh, hK, if_pos (by omega)] at h
    have := congrArg Prod.snd h
    simp at this
   have hfar := far_step (gr := gr) false hg f3 f5 hcar f4 ff
   rw [← ft, show (!false) = true from rfl, h] at hfar
   have hB := congrArg Prod.fst hfar
   simp only at hB
   subst hB
   obtain ⟨q1, q2, q3, q4, q5⟩ := next_spot (gr := gr) d1 f5 hcar f4 ff
   obtain ⟨p1, p2⟩ := near_prev (R := R) (D := D) (L := L) (gr := gr) d1 f5 ff
   have := near_step (gr := gr) false hg q1 q2 q3 q4 q5 p1 p2
   refine ⟨by rw [← ft] at this; exact this, ?_⟩
   rw [ft, car_bare R D false (d + 1) k d1, sign_bare]
   obtain ⟨K, hK⟩ : ∃ K : Nat, K = ((widthN R : Int) * k).natAbs := ⟨_, rfl⟩
   refine less_sign (K := K) (by simp only; omega) (by simp only; omega) ?_
   rw [V_so, V_so]
   simp only [Bool.false_eq_true, if_false]
   have h3 : d * 2 ^ ((widthN R : Int) * k + (K : Int)).toNat < (d + 1) * 2 ^ ((widthN R : Int) * k + (K : Int)).toNat := Nat.mul_lt_mul_of_pos_right (by omega) (two_pos _)
   omega
  ·-- below 0
   have hnear := near_step (gr := gr) true hg f3 f5 f6 f4 ff rfl rfl
   rw [← ft, h] at hnear
   have hB := congrArg Prod.fst hnear
   simp only at hB
   subst hB
   obtain ⟨n1, n2⟩ := far_near (gr := gr) d1 f3 f5 f4 ff
   obtain ⟨p1, p2⟩ := prev_spot (gr := gr) d1 f5 f6 f4 ff
   refine ⟨?_, ?_⟩
   ·by_cases hz : nearD R D L gr d k = 0
    ·obtain ⟨m1, m2⟩ := n1 hz
     rw [hz, hzero, zero_step false false hg (by simp) (by simp), ft, m1, m2]
     rfl
    ·obtain ⟨m1, m2⟩ := n2 hz
     obtain ⟨-, r1, r2, r3, r4⟩ := (p2.resolve_left hz).resolve_left (fun c => hz c.1)
     have := far_step (gr := gr) true hg hz r1 (by rw [m2]; exact f6) r3 r4
     rw [m1, m2, ← ft] at this
     exact this
   ·rw [ft, sign_bare]
    obtain ⟨K, hK⟩ : ∃ K : Nat, K = ((widthN R : Int) * k).natAbs + ((widthN R : Int) * nearK R D L d k).natAbs := ⟨_, rfl⟩
    exact less_sign (K := K) (by simp only; omega) (by simp only; omega) (near_less (gr := gr) d1 f3 f5 (by omega) (by omega))
theorem nxS_num {k : Nat} (hk : 1 ≤ k ∧ k ≤ 8) {T : Trip} (h0 : T.n ≠ 0) (hh : heldB (rdN k : Int) (dgN k : Int) (lsI k) (gsI k) (decide (k ≤ 3)) T.n T.e = true) (hb : bare T = T) :
  (nxS k T).size = szN k ∧ fldN k (nxS k T) = T.s ∧ clsN k T.s (fldE k (nxS k T)) (fldF k (nxS k T)) = 2 ∧ nxT k (nxS k T) = T := by
 obtain ⟨f1, f2, f3, f4, f5, f6, f7, f8, f9, f10, f11, hgc⟩ := fmt_fit hk
 have hS : nxS k T = strOf (wrtB k T.s (heE (rdN k : Int) (lsI k) (leadN k) (plT k T.s T.n T.e)) (plT k T.s T.n T.e).d) := if_neg h0
 obtain ⟨p1, p2, p3, p4⟩ := held_place (s := T.s) (way := 3) (by omega : (1 : Int) ≤ (dgN k : Int)) f7 h0 hh
 obtain ⟨ho, hu, hbr⟩ := held_round (s := T.s) (way := 3) (by omega : (1 : Int) ≤ (dgN k : Int)) f7 h0 hh
 have hsp := (round_spot (by omega) f7 h0 (by omega) ho hu).resolve_left (fun c => p4 (by rw [← p2]; exact c.1))
 have hpl : roundT (rdN k : Int) (dgN k : Int) (lsI k) (gsI k) (decide (k ≤ 3)) T.s T.n 1 T.e 3 = plT k T.s T.n T.e := rfl
 rw [hpl] at p1 hbr hsp
 generalize plT k T.s T.n T.e = pt at *
 obtain ⟨q0, q1, q2, q3, q4⟩ := hsp
 have hdg : ((dgN k : Int) - 1).toNat = dgN k - 1 := by omega
 rw [Int.toNat_natCast] at q3
 rw [hdg] at q4
 obtain ⟨r1, r2, r3, r4⟩ := spot_fields hk T.s pt q1 q2 q0 q3 (q4.imp_right (fun h => ⟨by simpa using h.1, h.2⟩))
 obtain ⟨w1, w2, w3, w4⟩ := fields_written hk T.s (heE (rdN k : Int) (lsI k) (leadN k) pt) pt.d
 rw [Nat.mod_eq_of_lt r1] at w2
 unfold nxT
 rw [hS, w4, w1, w2, w3]
 refine ⟨rfl, rfl, r2, ?_⟩
 rw [refT_num hk r1 (Nat.mod_lt _ (two_pos _)) r2, r3, r4, wdI_is hk]
 rw [show (⟨T.s, T.n, T.e⟩ : Trip) = T from rfl, hb, p1] at hbr
 exact hbr
theorem nxS_zero {k : Nat} (hk : 1 ≤ k ∧ k ≤ 8) {T : Trip} (h0 : T.n = 0) :
  (nxS k T).size = szN k ∧ clsN k (fldN k (nxS k T)) (fldE k (nxS k T)) (fldF k (nxS k T)) = 1 ∧ valG k (fldN k (nxS k T)) (fldE k (nxS k T)) (fldF k (nxS k T)) = false ∧ nxT k (nxS k T) = ⟨false, 0, 0⟩ := by
 have hS : nxS k T = strOf (wrtB k false 0 0) := if_pos h0
 obtain ⟨w1, w2, w3, w4⟩ := fields_written hk false 0 0
 rw [Nat.zero_mod] at w2 w3
 have hc : clsN k false 0 0 = 1 := by rcases eight hk with rfl | rfl | rfl | rfl | rfl | rfl | rfl | rfl <;> decide
 unfold nxT
 rw [hS, w4, w1, w2, w3]
 refine ⟨rfl, hc, ?_, refT_zero hk hc⟩
 unfold valG
 rw [if_pos (by omega)]
set_option maxHeartbeats 3200000 in
theorem codecSteps_walk (n : Int) (s : ByteArray) (w : World) (hT : Tab w) :
  Calls Tryz.prog 5 #[.int .i64 n, .string s] w fun z w' => z = .returned (.bool true) ∧ Below w.heap.size w w' := by
 have HN1 := fun w1 (b : Below w.heap.size w w1) => next_any n s true w1 (hT.later b)
 by_cases hE : nextE n s true = 0
 ·have hp : patC n s = 0 := by
   refine Decidable.byContradiction fun c => ?_
   unfold nextE at hE
   rw [if_neg c] at hE
   exact c hE
  have hf : famC n ≠ 0 := fun hf => by
   unfold patC at hp
   rw [if_pos hf] at hp
   omega
  obtain ⟨k1, k2, k3⟩ := famC_in hf
  obtain ⟨k, rfl⟩ : ∃ k : Nat, n = (k : Int) := ⟨n.toNat, k3.symm⟩
  rw [Int.toNat_natCast] at k1 k2
  have hk : 1 ≤ k ∧ k ≤ 8 := ⟨k1, k2⟩
  have hgr := (fmt_fit hk).2.2.2.2.2.2.2.2.2.2.2
  have hC : ∀ q, patC (k : Int) q = 0 → decC (k : Int) q = clsN k (fldN k q) (fldE k q) (fldF k q) := fun q h => by
   unfold decC
   rw [if_pos h, Int.toNat_natCast]
  have hG : ∀ q, patC (k : Int) q = 0 → decG (k : Int) q = valG k (fldN k q) (fldE k q) (fldF k q) := fun q h => by
   unfold decG
   rw [if_pos h, Int.toNat_natCast]
  have hM : ∀ q, patC (k : Int) q = 0 → decM (k : Int) q = valM k (fldN k q) (fldE k q) (fldF k q) := fun q h => by
   unfold decM
   rw [if_pos h, Int.toNat_natCast]
  have hP : ∀ q, patC (k : Int) q = 0 → decP (k : Int) q = valP k (fldN k q) (fldE k q) (fldF k q) := fun q h => by
   unfold decP
   rw [if_pos h, Int.toNat_natCast]
  have hO : ∀ q, patC (k : Int) q = 0 → opT (k : Int) q = nxT k q := fun q h => by
   unfold opT
   rw [if_pos h, Int.toNat_natCast]
  have hcl : clsN k (fldN k s) (fldE k s) (fldF k s) = 1 ∨ clsN k (fldN k s) (fldE k s) (fldF k s) = 2 := by
   refine Decidable.byContradiction fun c => ?_
   unfold nextE at hE
   rw [if_pos hp, hC s hp, if_neg c] at hE
   omega
  have hR : (nxR k s true).2 = 0 := by
   unfold nextE at hE
   rw [if_pos hp, hC s hp, if_pos hcl, Int.toNat_natCast] at hE
   exact hE
  have ht : nextS (k : Int) s true = nxS k (nxR k s true).1 := by
   unfold nextS
   rw [if_pos hE, Int.toNat_natCast]
  obtain ⟨hh, s', d, q, hB, hi⟩ := nx_step hk s true hcl hR
  obtain ⟨hd, hbT⟩ := nx_num hk s hcl
  have hbT' : bare (nxT k s) = nxT k s := hbT
  obtain ⟨B, eB⟩ : ∃ B, (nxR k s true).1 = B := ⟨_, rfl⟩
  have hst : stepR (rdN k : Int) (dgN k : Int) (lsI k) (gsI k) (decide (k ≤ 3)) (nxT k s).s true (Dg.dg 4294967296 (nxT k s).n) (nxT k s).e = (B, 0) := Prod.ext eB hR
  rw [eB] at hB ht
  obtain ⟨hback, hsign⟩ := step_back hgr hd hh hbT' hst
  have hbB : bare B = B := by rw [hB, bare_bare]
  have hhB : heldB (rdN k : Int) (dgN k : Int) (lsI k) (gsI k) (decide (k ≤ 3)) B.n B.e = true := by rw [hB]; exact spot_held hgr hi
  have hdB : dchk (Dg.dg 4294967296 B.n) B.e = 0 := by rw [hB]; exact spot_dchk hgr hi
  have htt : patC (k : Int) (nxS k B) = 0 ∧ (clsN k (fldN k (nxS k B)) (fldE k (nxS k B)) (fldF k (nxS k B)) = 1 ∨ clsN k (fldN k (nxS k B)) (fldE k (nxS k B)) (fldF k (nxS k B)) = 2) ∧ nxT k (nxS k B) = B := by
   by_cases h0 : B.n = 0
   ·obtain ⟨a1, a2, -, a4⟩ := nxS_zero hk h0
    refine ⟨patC_ok hk a1, .inl a2, ?_⟩
    rw [a4, ← hbB]
    unfold bare
    rw [if_pos h0]
   ·obtain ⟨a1, a2, a3, a4⟩ := nxS_num hk h0 hhB hbB
    exact ⟨patC_ok hk a1, .inr (by rw [a2]; exact a3), a4⟩
  obtain ⟨t1, t2, t3⟩ := htt
  generalize nxS k B = t at *
  have hR2 : nxR k t false = (nxT k s, 0) := by
   unfold nxR
   rw [t3]
   exact hback
  have hE2 : nextE (k : Int) t false = 0 := by
   unfold nextE
   rw [if_pos t1, hC t t1, if_pos t2, Int.toNat_natCast, hR2]
  have hS2 : nextS (k : Int) t false = nxS k (nxT k s) := by
   unfold nextS
   rw [if_pos hE2, Int.toNat_natCast, hR2]
  have HN2 := fun w1 (b : Below w.heap.size w w1) => next_any (k : Int) t false w1 (hT.later b)
  rw [hE2, hS2] at HN2
  rw [hE, ht] at HN1
  have HC := fun w1 (b : Below w.heap.size w w1) => acompare_num k hk s t w1 (hT.later b) hp t1 (by rw [hC s hp]; exact hcl) (by rw [hC t t1]; exact t2) (by rw [hO s hp]; exact hd) (by rw [hO t t1, t3]; exact hdB)
  rw [hO s hp, hO t t1, t3, hsign] at HC
  have HD1 := fun w1 => decode_any (k : Int) s w1
  rw [hp, hC s hp, hG s hp, hM s hp, hP s hp] at HD1
  obtain ⟨s1, s2⟩ := fld_lt k s
  by_cases h0 : (nxT k s).n = 0
  ·have hc1 : clsN k (fldN k s) (fldE k s) (fldF k s) = 1 := by
    rcases hcl with h | h
    ·exact h
    ·exfalso
     unfold nxT at h0
     rw [refT_num hk s1 s2 h] at h0
     exact Nat.ne_of_gt (plcN_pos h) ((bareN_nil _).1 h0)
   obtain ⟨u1, u2, u3, u4⟩ := nxS_zero hk h0
   have pu := patC_ok hk u1
   have HD2 := fun w1 => decode_any (k : Int) (nxS k (nxT k s)) w1
   rw [pu, hC _ pu, hG _ pu, hM _ pu, hP _ pu, u2, u3, show valM k (fldN k (nxS k (nxT k s))) (fldE k (nxS k (nxT k s))) (fldF k (nxS k (nxT k s))) = 0 from if_neg (by omega), show valP k (fldN k (nxS k (nxT k s))) (fldE k (nxS k (nxT k s))) (fldF k (nxS k (nxT k s))) = 0 from if_neg (by omega)] at HD2
   rw [hc1, show valM k (fldN k s) (fldE k s) (fldF k s) = 0 from if_neg (by omega), show valP k (fldN k s) (fldE k s) (fldF k s) = 0 from if_neg (by omega)] at HD1
   generalize valG k (fldN k s) (fldE k s) (fldF k s) = g at HD1
   refine steps_W (k : Int) s t (nxS k (nxT k s)) 0 ((1 : Nat) : Int) 0 ((1 : Nat) : Int) 0 g false 0 0 (!g) w codecBegun_any HN1 (fun _ => HN2) (fun _ => HD1) (fun _ => HD2) (fun _ => HC) ?_ (fun _ _ => ⟨rfl, rfl⟩)
   intro _ ao ac bo bc w1 ra rb
   cases g
   ·exact sameValue_true _ _ _ ao bo _ ac bc w1 ra rb
   ·exact sameValue_sign _ _ _ true ao bo _ _ ac bc w1
  ·have hc2 : clsN k (fldN k s) (fldE k s) (fldF k s) = 2 := by
    rcases hcl with h | h
    ·exfalso
     unfold nxT at h0
     rw [refT_zero hk h] at h0
     exact h0 rfl
    ·exact h
   obtain ⟨u1, u2, u3, u4⟩ := nxS_num hk h0 hh hbT'
   have hT1 : nxT k s = bare ⟨fldN k s, plcN k (fldE k s) (fldF k s), (widthN (rdN k : Int) : Int) * plcP k (fldE k s)⟩ := by
    unfold nxT
    rw [refT_num hk s1 s2 hc2, wdI_is hk]
   have hsg : (nxT k s).s = fldN k s := by
    rw [hT1]
    unfold bare
    rw [if_neg (Nat.ne_of_gt (plcN_pos hc2))]
   rw [hsg] at u2 u3
   generalize nxS k (nxT k s) = u at *
   have pu := patC_ok hk u1
   obtain ⟨v1, v2⟩ := fld_lt k u
   have hT2 : nxT k u = bare ⟨fldN k s, plcN k (fldE k u) (fldF k u), (widthN (rdN k : Int) : Int) * plcP k (fldE k u)⟩ := by
    unfold nxT
    rw [u2, refT_num hk v1 v2 u3, wdI_is hk]
   rw [u4, hT1] at hT2
   obtain ⟨m1, m2⟩ := same_value hk s1 s2 (frN_64 hk s2) hc2 v1 v2 (frN_64 hk v2) u3 hT2
   have HD2 := fun w1 => decode_any (k : Int) (u) w1
   have g1 : valG k (fldN k s) (fldE k s) (fldF k s) = fldN k s := by
    unfold valG
    rw [if_pos (by omega)]
   have g2 : valG k (fldN k s) (fldE k (u)) (fldF k (u)) = fldN k s := by
    unfold valG
    rw [if_pos (by omega)]
   rw [pu, hC _ pu, hG _ pu, hM _ pu, hP _ pu, u2, u3, g2, ← m1, ← m2] at HD2
   rw [hc2, g1] at HD1
   refine steps_W (k : Int) s t (u) 0 ((2 : Nat) : Int) _ ((2 : Nat) : Int) _ (fldN k s) (fldN k s) _ _ true w codecBegun_any HN1 (fun _ => HN2) (fun _ => HD1) (fun _ => HD2) (fun _ => HC) ?_ (fun _ h => by cases h)
   intro _ ao ac bo bc w1 ra rb
   exact sameValue_true _ _ _ ao bo _ ac bc w1 ra rb
 ·exact steps_W n s (nextS n s true) ⟨#[]⟩ (nextE n s true) 0 0 0 0 false false 0 0 true w codecBegun_any HN1 (fun h => absurd h hE) (fun h => absurd h hE) (fun h => absurd h hE) (fun h => absurd h hE) (fun h => absurd h hE) (fun h => absurd h hE)
end Go.Proofs.YtiiphandhpilgaaGreatDoor

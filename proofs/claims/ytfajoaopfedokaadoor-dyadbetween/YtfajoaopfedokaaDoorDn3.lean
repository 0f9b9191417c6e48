/-
  The law DyadBetween.
-/
import Derived.Test.YtfajoaopfedokaaDoorDn2
import Derived.Test.YtfajoaopfedokaaDoorDt2
namespace Go.Proofs.YtfajoaopfedokaaDoor
open Go.RowKit

set_option maxRecDepth 100000 in
set_option maxHeartbeats 6400000 in
theorem dbetween_walk (s : Bool) (ao : Option Addr) (ca : Nat) (xs : List Nat) (e b : Int) (w : World) (hr : Rd w .u32 (.slice ao xs.length ca) xs) (sa : Dg.Small 4294967296 xs) (hT : Tab w) :
    Calls Tryd.prog 4 #[.agg #[.bool s, .slice ao xs.length ca, .int .i64 e], .int .i64 b] w fun z w' => z = .returned (.bool true) ∧ Below w.heap.size w w' := by
  have bb := below_alloc w (.cells #[.bool s, .slice ao xs.length ca, .int .i64 e] 25)
  have l_a := loc_new w (.bool s) (.slice ao xs.length ca) (.int .i64 e) 25
  have r_a := hr.later bb
  obtain ⟨⟨⟨s1, n1, e1⟩, c1⟩, h1⟩ : ∃ r, cutR s xs e b false = r := ⟨_, rfl⟩
  have HR1 : Hid (cutR s xs e b false = (⟨s1, n1, e1⟩, c1)) := h1
  obtain ⟨⟨⟨s2, n2, e2⟩, c2⟩, h2⟩ : ∃ r, cutR s xs e b true = r := ⟨_, rfl⟩
  have HR2 : Hid (cutR s xs e b true = (⟨s2, n2, e2⟩, c2)) := h2
  obtain ⟨⟨s3, n3, e3⟩, h3⟩ : ∃ r, bare ⟨s, Dg.vl 4294967296 xs, e⟩ = r := ⟨_, rfl⟩
  have HOK : Hid (c1 = 0 → c2 = 0 → bareR s xs e = (⟨s3, n3, e3⟩, 0) ∧ cutR s1 (Dg.dg 4294967296 n1) e1 b true = (⟨s1, n1, e1⟩, 0) ∧ dchk2 (Dg.dg 4294967296 n1) e1 xs e = 0 ∧ dchk2 xs e (Dg.dg 4294967296 n2) e2 = 0 ∧
      dcmpR 0 ⟨s1, Dg.vl 4294967296 (Dg.dg 4294967296 n1), e1⟩ ⟨s, Dg.vl 4294967296 xs, e⟩ ≤ 0 ∧ dcmpR 0 ⟨s, Dg.vl 4294967296 xs, e⟩ ⟨s2, Dg.vl 4294967296 (Dg.dg 4294967296 n2), e2⟩ ≤ 0 ∧
      chk (Dg.dg 4294967296 n3) = 0 ∧ chk (Dg.dg 4294967296 n2) = 0 ∧ (bitLen n2 : Int) ≤ b ∧ ((bitLen n3 : Int) ≤ b → s1 = s2 ∧ n1 = n2 ∧ e1 = e2) ∧ (¬(bitLen n3 : Int) ≤ b → ¬(s1 = s2 ∧ e1 = e2 ∧ Dg.dg 4294967296 n1 = Dg.dg 4294967296 n2))) := fun i1 i2 => by
    rw [i1] at h1
    rw [i2] at h2
    obtain ⟨d1, d2, d3, d4, d5, _, _, _⟩ := cutR_ok h1
    obtain ⟨_, _, _, g4, g5, _, _, _⟩ := cutR_ok h2
    obtain ⟨q1, q2⟩ := bare_ok sa h1
    have q3 := again_ok h1
    rw [h3] at q1 q2
    simp only at d5 g5 q2 q3
    refine ⟨q1, q3, dchk2_of d5 d1, dchk2_of d1 g5, ?_, ?_, (dchk_zero q2).1, (dchk_zero g5).1, ?_, ?_, ?_⟩
    · unfold dcmpR
      rw [if_pos rfl, Dg.vl_dg _ _ (by omega), d4]
      exact low_le d2
    · unfold dcmpR
      rw [if_pos rfl, Dg.vl_dg _ _ (by omega), g4]
      exact high_ge d2
    · have := cut_bits ⟨s, Dg.vl 4294967296 xs, e⟩ b true d2
      rw [← g4] at this
      exact this
    · intro hn
      have := (same_iff (A := ⟨s, Dg.vl 4294967296 xs, e⟩) d2).2 (by rw [h3]; exact hn)
      rw [← d4, ← g4] at this
      simp only [Trip.mk.injEq] at this
      exact this
    · intro hn hE
      apply hn
      have := (same_iff (A := ⟨s, Dg.vl 4294967296 xs, e⟩) d2).1 (by
        rw [← d4, ← g4]
        obtain ⟨t1, t2, t3⟩ := hE
        have t4 := Dg.dg_inj _ _ _ (by omega) t3
        rw [t1, t2, t4])
      rw [h3] at this
      exact this
  have HBTa : Hid (∀ v n w1, chk (Dg.dg 4294967296 n) = 0 → Rd w1 .u32 v (Dg.dg 4294967296 n) → Calls Tryd.prog 27 #[v] w1 fun z w' => z = .returned (.tuple #[.int .i64 (bitLen n : Nat), .int .i64 0]) ∧ Below w1.heap.size w1 w') := fun v n w1 hc r => by
    have := bits_nat v _ w1 r (Dg.small_dg _ _ (by omega))
    rwa [hc, if_pos rfl, Dg.vl_dg _ _ (by omega)] at this
  clear h1 h2 h3 hr
  go_enter Tryd.func4, Tryd.ntmps4
  go_wp2_with fail
  refine (dbegun_any _ (hT.later bb)).mono ?_
  rintro z w1 ⟨rfl, b1⟩
  replace l_a := l_a.later b1
  replace r_a := r_a.later b1
  replace bb := below_trans bb b1
  clear b1
  obtain ⟨-, ⟨a_0, a_1, a_2⟩, -⟩ := id l_a
  have hk := dcut_any s ao ca xs e b false _ r_a sa (hT.later bb)
  change Calls _ _ _ _ (DAns _ (cutR s xs e b false)) at hk
  rw [HR1.out] at hk
  go_wp2_with fail
  refine hk.mono ?_
  rintro z w2 ⟨vr, rfl, oo, b1⟩
  clear hk
  obtain ⟨o1, k1, hvr⟩ := oo.rd.shape
  subst hvr
  clear a_0 a_1 a_2
  replace l_a := l_a.later b1
  replace r_a := r_a.later b1
  replace bb := below_trans bb b1
  have bB := below_alloc w2 (.cells #[.bool s1, .slice o1 (Dg.dg 4294967296 n1).length k1, .int .i64 e1] 25)
  replace l_a := l_a.later bB
  replace r_a := r_a.later bB
  replace bb := below_trans bb bB
  have l_d1 := loc_new w2 (.bool s1) (.slice o1 (Dg.dg 4294967296 n1).length k1) (.int .i64 e1) 25
  have r_d1 := (oo.later bB).rd
  clear b1 bB oo
  obtain ⟨-, ⟨a_0, a_1, a_2⟩, -⟩ := id l_a
  have hk := dcut_any s ao ca xs e b true _ r_a sa (hT.later bb)
  change Calls _ _ _ _ (DAns _ (cutR s xs e b true)) at hk
  rw [HR2.out] at hk
  go_wp2_with fail
  refine hk.mono ?_
  rintro z w3 ⟨vr, rfl, oo, b1⟩
  clear hk
  obtain ⟨o2, k2, hvr⟩ := oo.rd.shape
  subst hvr
  clear a_0 a_1 a_2
  replace l_a := l_a.later b1
  replace r_a := r_a.later b1
  replace l_d1 := l_d1.later b1
  replace r_d1 := r_d1.later b1
  replace bb := below_trans bb b1
  have bB := below_alloc w3 (.cells #[.bool s2, .slice o2 (Dg.dg 4294967296 n2).length k2, .int .i64 e2] 25)
  replace l_a := l_a.later bB
  replace r_a := r_a.later bB
  replace l_d1 := l_d1.later bB
  replace r_d1 := r_d1.later bB
  replace bb := below_trans bb bB
  have l_d2 := loc_new w3 (.bool s2) (.slice o2 (Dg.dg 4294967296 n2).length k2) (.int .i64 e2) 25
  have r_d2 := (oo.later bB).rd
  clear b1 bB oo
  by_cases i1 : c1 = 0
  · subst i1
    by_cases i2 : c2 = 0
    · subst i2
      obtain ⟨q1, q2, q3, q4, q5, q6, q7, q8, q9, q10, q11⟩ := HOK.out (by first | rfl | trivial) (by first | rfl | trivial)
      have HR3 : Hid _ := q1
      have HR4 : Hid _ := q2
      have HQ7 : Hid _ := q7
      have HQ8 : Hid _ := q8
      have HQ10 : Hid _ := q10
      have HQ11 : Hid _ := q11
      obtain ⟨x1, hx1⟩ : ∃ x, dcmpR 0 ⟨s1, Dg.vl 4294967296 (Dg.dg 4294967296 n1), e1⟩ ⟨s, Dg.vl 4294967296 xs, e⟩ = x := ⟨_, rfl⟩
      obtain ⟨x2, hx2⟩ : ∃ x, dcmpR 0 ⟨s, Dg.vl 4294967296 xs, e⟩ ⟨s2, Dg.vl 4294967296 (Dg.dg 4294967296 n2), e2⟩ = x := ⟨_, rfl⟩
      rw [hx1] at q5
      rw [hx2] at q6
      have HX1 : Hid _ := hx1
      have HX2 : Hid _ := hx2
      have HQ3 : Hid _ := q3
      have HQ4 : Hid _ := q4
      clear q1 q2 q3 q4 q7 q8 q10 q11 hx1 hx2 HOK HR1 HR2
      obtain ⟨-, ⟨a_0, a_1, a_2⟩, -⟩ := id l_a
      have hk := dyBare_any s ao ca xs e _ r_a sa (hT.later bb)
      change Calls _ _ _ _ (DAns _ (bareR s xs e)) at hk
      rw [HR3.out] at hk
      go_wp2_with fail
      refine hk.mono ?_
      rintro z w4 ⟨vr, rfl, oo, b1⟩
      clear hk
      obtain ⟨o3, k3, hvr⟩ := oo.rd.shape
      subst hvr
      clear a_0 a_1 a_2
      replace l_a := l_a.later b1
      replace r_a := r_a.later b1
      replace l_d1 := l_d1.later b1
      replace r_d1 := r_d1.later b1
      replace l_d2 := l_d2.later b1
      replace r_d2 := r_d2.later b1
      replace bb := below_trans bb b1
      have bB := below_alloc w4 (.cells #[.bool s3, .slice o3 (Dg.dg 4294967296 n3).length k3, .int .i64 e3] 25)
      replace l_a := l_a.later bB
      replace r_a := r_a.later bB
      replace l_d1 := l_d1.later bB
      replace r_d1 := r_d1.later bB
      replace l_d2 := l_d2.later bB
      replace r_d2 := r_d2.later bB
      replace bb := below_trans bb bB
      have l_d3 := loc_new w4 (.bool s3) (.slice o3 (Dg.dg 4294967296 n3).length k3) (.int .i64 e3) 25
      have r_d3 := (oo.later bB).rd
      clear b1 bB oo
      obtain ⟨-, ⟨d1_0, d1_1, d1_2⟩, -⟩ := id l_d1
      obtain ⟨-, ⟨a_0, a_1, a_2⟩, -⟩ := id l_a
      have hk := dyCompare_any s1 o1 k1 (Dg.dg 4294967296 n1) e1 s ao ca xs e _ r_d1 r_a (Dg.small_dg _ _ (by omega)) sa
      rw [HQ3.out, HX1.out] at hk
      go_wp2_with fail
      refine hk.mono ?_
      rintro z w5 ⟨rfl, b1⟩
      clear hk
      clear d1_0 d1_1 d1_2 a_0 a_1 a_2
      replace l_a := l_a.later b1
      replace r_a := r_a.later b1
      replace l_d1 := l_d1.later b1
      replace r_d1 := r_d1.later b1
      replace l_d2 := l_d2.later b1
      replace r_d2 := r_d2.later b1
      replace l_d3 := l_d3.later b1
      replace r_d3 := r_d3.later b1
      replace bb := below_trans bb b1
      clear b1
      obtain ⟨-, ⟨a_0, a_1, a_2⟩, -⟩ := id l_a
      obtain ⟨-, ⟨d2_0, d2_1, d2_2⟩, -⟩ := id l_d2
      have hk := dyCompare_any s ao ca xs e s2 o2 k2 (Dg.dg 4294967296 n2) e2 _ r_a r_d2 sa (Dg.small_dg _ _ (by omega))
      rw [HQ4.out, HX2.out] at hk
      go_wp2_with fail
      refine hk.mono ?_
      rintro z w6 ⟨rfl, b1⟩
      clear hk
      clear a_0 a_1 a_2 d2_0 d2_1 d2_2
      replace l_a := l_a.later b1
      replace r_a := r_a.later b1
      replace l_d1 := l_d1.later b1
      replace r_d1 := r_d1.later b1
      replace l_d2 := l_d2.later b1
      replace r_d2 := r_d2.later b1
      replace l_d3 := l_d3.later b1
      replace r_d3 := r_d3.later b1
      replace bb := below_trans bb b1
      clear b1
      obtain ⟨-, ⟨d3_0, d3_1, d3_2⟩, -⟩ := id l_d3
      go_wp2_with fail
      refine (HBTa.out _ n3 _ HQ7.out r_d3).mono ?_
      rintro z w7 ⟨rfl, b1⟩
      clear d3_0 d3_1 d3_2
      replace l_a := l_a.later b1
      replace r_a := r_a.later b1
      replace l_d1 := l_d1.later b1
      replace r_d1 := r_d1.later b1
      replace l_d2 := l_d2.later b1
      replace r_d2 := r_d2.later b1
      replace l_d3 := l_d3.later b1
      replace r_d3 := r_d3.later b1
      replace bb := below_trans bb b1
      clear b1
      obtain ⟨-, ⟨d1_0, d1_1, d1_2⟩, -⟩ := id l_d1
      have hk := dcut_any s1 o1 k1 (Dg.dg 4294967296 n1) e1 b true _ r_d1 (Dg.small_dg _ _ (by omega)) (hT.later bb)
      change Calls _ _ _ _ (DAns _ (cutR s1 (Dg.dg 4294967296 n1) e1 b true)) at hk
      rw [HR4.out] at hk
      go_wp2_with fail
      refine hk.mono ?_
      rintro z w8 ⟨vr, rfl, oo, b1⟩
      clear hk
      obtain ⟨o4, k4, hvr⟩ := oo.rd.shape
      subst hvr
      clear d1_0 d1_1 d1_2
      replace l_a := l_a.later b1
      replace r_a := r_a.later b1
      replace l_d1 := l_d1.later b1
      replace r_d1 := r_d1.later b1
      replace l_d2 := l_d2.later b1
      replace r_d2 := r_d2.later b1
      replace l_d3 := l_d3.later b1
      replace r_d3 := r_d3.later b1
      replace bb := below_trans bb b1
      have bB := below_alloc w8 (.cells #[.bool s1, .slice o4 (Dg.dg 4294967296 n1).length k4, .int .i64 e1] 25)
      replace l_a := l_a.later bB
      replace r_a := r_a.later bB
      replace l_d1 := l_d1.later bB
      replace r_d1 := r_d1.later bB
      replace l_d2 := l_d2.later bB
      replace r_d2 := r_d2.later bB
      replace l_d3 := l_d3.later bB
      replace r_d3 := r_d3.later bB
      replace bb := below_trans bb bB
      have l_d4 := loc_new w8 (.bool s1) (.slice o4 (Dg.dg 4294967296 n1).length k4) (.int .i64 e1) 25
      have r_d4 := (oo.later bB).rd
      clear b1 bB oo
      obtain ⟨-, ⟨d2_0, d2_1, d2_2⟩, -⟩ := id l_d2
      go_wp2_with fail
      refine (HBTa.out _ n2 _ HQ8.out r_d2).mono ?_
      rintro z w9 ⟨rfl, b1⟩
      clear d2_0 d2_1 d2_2
      replace l_a := l_a.later b1
      replace r_a := r_a.later b1
      replace l_d1 := l_d1.later b1
      replace r_d1 := r_d1.later b1
      replace l_d2 := l_d2.later b1
      replace r_d2 := r_d2.later b1
      replace l_d3 := l_d3.later b1
      replace r_d3 := r_d3.later b1
      replace l_d4 := l_d4.later b1
      replace r_d4 := r_d4.later b1
      replace bb := below_trans bb b1
      clear b1
      by_cases hn : (bitLen n3 : Int) ≤ b
      · obtain ⟨rfl, rfl, rfl⟩ := HQ10.out hn
        obtain ⟨-, ⟨d1_0, d1_1, d1_2⟩, -⟩ := id l_d1
        obtain ⟨-, ⟨d2_0, d2_1, d2_2⟩, -⟩ := id l_d2
        go_wp2_with fail
        refine (sameDy_true _ _ _ _ _ _ _ _ r_d1 r_d2).mono ?_
        rintro z w10 ⟨rfl, b1⟩
        clear d1_0 d1_1 d1_2 d2_0 d2_1 d2_2
        replace l_a := l_a.later b1
        replace r_a := r_a.later b1
        replace l_d1 := l_d1.later b1
        replace r_d1 := r_d1.later b1
        replace l_d2 := l_d2.later b1
        replace r_d2 := r_d2.later b1
        replace l_d3 := l_d3.later b1
        replace r_d3 := r_d3.later b1
        replace l_d4 := l_d4.later b1
        replace r_d4 := r_d4.later b1
        replace bb := below_trans bb b1
        clear b1
        obtain ⟨-, ⟨d4_0, d4_1, d4_2⟩, -⟩ := id l_d4
        obtain ⟨-, ⟨d1_0, d1_1, d1_2⟩, -⟩ := id l_d1
        go_wp2_with fail
        refine (sameDy_true _ _ _ _ _ _ _ _ r_d4 r_d1).mono ?_
        rintro z w11 ⟨rfl, b1⟩
        clear d4_0 d4_1 d4_2 d1_0 d1_1 d1_2
        replace l_a := l_a.later b1
        replace r_a := r_a.later b1
        replace l_d1 := l_d1.later b1
        replace r_d1 := r_d1.later b1
        replace l_d2 := l_d2.later b1
        replace r_d2 := r_d2.later b1
        replace l_d3 := l_d3.later b1
        replace r_d3 := r_d3.later b1
        replace l_d4 := l_d4.later b1
        replace r_d4 := r_d4.later b1
        replace bb := below_trans bb b1
        clear b1
        go_wp2
        go_ret
        exact ⟨rfl, bb⟩
      · have hnd : decide ((bitLen n3 : Int) ≤ b) = false := decide_eq_false hn
        have hsd := sameDy_any s1 o1 k1 (Dg.dg 4294967296 n1) e1 s2 o2 k2 (Dg.dg 4294967296 n2) e2 _ r_d1 r_d2
        rw [decide_eq_false (HQ11.out (by omega))] at hsd
        obtain ⟨-, ⟨d1_0, d1_1, d1_2⟩, -⟩ := id l_d1
        obtain ⟨-, ⟨d2_0, d2_1, d2_2⟩, -⟩ := id l_d2
        go_wp2_with fail
        refine (hsd).mono ?_
        rintro z w10 ⟨rfl, b1⟩
        clear d1_0 d1_1 d1_2 d2_0 d2_1 d2_2
        replace l_a := l_a.later b1
        replace r_a := r_a.later b1
        replace l_d1 := l_d1.later b1
        replace r_d1 := r_d1.later b1
        replace l_d2 := l_d2.later b1
        replace r_d2 := r_d2.later b1
        replace l_d3 := l_d3.later b1
        replace r_d3 := r_d3.later b1
        replace l_d4 := l_d4.later b1
        replace r_d4 := r_d4.later b1
        replace bb := below_trans bb b1
        clear b1
        clear hsd
        obtain ⟨-, ⟨d4_0, d4_1, d4_2⟩, -⟩ := id l_d4
        obtain ⟨-, ⟨d1_0, d1_1, d1_2⟩, -⟩ := id l_d1
        go_wp2_with fail
        refine (sameDy_true _ _ _ _ _ _ _ _ r_d4 r_d1).mono ?_
        rintro z w11 ⟨rfl, b1⟩
        clear d4_0 d4_1 d4_2 d1_0 d1_1 d1_2
        replace l_a := l_a.later b1
        replace r_a := r_a.later b1
        replace l_d1 := l_d1.later b1
        replace r_d1 := r_d1.later b1
        replace l_d2 := l_d2.later b1
        replace r_d2 := r_d2.later b1
        replace l_d3 := l_d3.later b1
        replace r_d3 := r_d3.later b1
        replace l_d4 := l_d4.later b1
        replace r_d4 := r_d4.later b1
        replace bb := below_trans bb b1
        clear b1
        go_wp2
        go_ret
        exact ⟨rfl, bb⟩
    · clear HOK
      go_wp2
      go_ret
      exact ⟨rfl, bb⟩
  · clear HOK
    go_wp2
    go_ret
    exact ⟨rfl, bb⟩
end Go.Proofs.YtfajoaopfedokaaDoor

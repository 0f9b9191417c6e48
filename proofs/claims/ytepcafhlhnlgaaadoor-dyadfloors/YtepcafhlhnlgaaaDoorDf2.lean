/-
  The law DyadFloors.
-/
import Derived.Test.YtepcafhlhnlgaaaDoorDf1
namespace Go.Proofs.YtepcafhlhnlgaaaDoor
open Go.RowKit

theorem bare_sign (t : Trip) : (bare t).s = decide (signT t < 0) := by
  unfold bare signT
  by_cases h : t.n = 0
  · simp [h]
  · simp only [if_neg h]
    cases t.s <;> simp

set_option maxRecDepth 100000 in
set_option maxHeartbeats 1600000 in
theorem dfloors_walk (s : Bool) (ao : Option Addr) (ca : Nat) (xs : List Nat) (e : Int) (w : World) (hr : Rd w .u32 (.slice ao xs.length ca) xs) (sa : Dg.Small 4294967296 xs) (hT : Tab w) :
    Calls Tryd.prog 10 #[.agg #[.bool s, .slice ao xs.length ca, .int .i64 e]] w fun z w' => z = .returned (.bool true) ∧ Below w.heap.size w w' := by
  have bb := below_alloc w (.cells #[.bool s, .slice ao xs.length ca, .int .i64 e] 25)
  have l0 := loc_new w (.bool s) (.slice ao xs.length ca) (.int .i64 e) 25
  have hfl := dfloor_any s ao ca xs e _ (hr.later bb) sa
  have HC : Hid (∀ w1, Below w.heap.size w w1 → Calls Tryd.prog 15 #[.agg #[.bool s, .slice ao xs.length ca, .int .i64 e]] w1 fun z w' => z = .returned (.int .i64 (dchk xs e)) ∧ Below w1.heap.size w1 w') := fun w1 b1 => refcheckDy_any s ao ca xs e w1 (hr.later b1)
  have HBG : Hid (∀ w1, Below w.heap.size w w1 → Calls Tryd.prog 13 #[] w1 fun z w' => z = .returned (.bool true) ∧ Below w1.heap.size w1 w') := fun w1 b1 => dbegun_any w1 (hT.later b1)
  obtain ⟨T, hTT⟩ : ∃ T : Trip, (⟨s, Dg.vl 4294967296 xs, e⟩ : Trip) = T := ⟨_, rfl⟩
  have HO : Hid (dchk xs e = 0 → (∀ w1, Below w.heap.size w w1 → Calls Tryd.prog 17 #[.agg #[.bool s, .slice ao xs.length ca, .int .i64 e]] w1 (RDRes w1 (bare T))) ∧
      (∀ v w1, Rv w1 v (bare T) → Calls Tryd.prog 30 #[v] w1 (RNum w1 (shN (Dg.vl 4294967296 xs) e))) ∧ (Dg.dg 65536 (shN (Dg.vl 4294967296 xs) e)).length ≤ 3000000) := fun h => by
    obtain ⟨c1, e1, e2⟩ := dchk_zero h
    have z1 := chk_zero c1
    have x1 : (Dg.dg 4294967296 (Dg.vl 4294967296 xs)).length ≤ 1200 := by rw [← Dg.eq_dg 4294967296 (by omega) xs _ sa z1.1 rfl]; exact z1.2
    obtain ⟨p1, p2, p3⟩ := bare_fits' (t := T) (by rw [← hTT]; exact x1) (by rw [← hTT]; exact e1) (by rw [← hTT]; exact e2)
    refine ⟨fun w1 b1 => ?_, fun v w1 hv => ?_, ?_⟩
    · rw [← hTT]; exact ofDyad_any s ao ca xs e w1 (hr.later b1) sa (by omega) (by omega) (by omega)
    · have := floorOf_any v (bare T) w1 hv (by omega) (by omega) (by omega)
      rw [shN_bare, ← hTT] at this
      exact this
    · exact Nat.le_trans (shN_len2 (dg16_len _ 1200 x1) (by omega) (by omega)) (by omega)
  have hbs := bare_sign T
  have HCS := capd_split (shN (Dg.vl 4294967296 xs) e)
  have HLO : Hid ((Dg.dg 65536 (shN (Dg.vl 4294967296 xs) e)).length ≤ 3000000 → ∀ vw w1, Rd w1 .i64 vw (Dg.dg 65536 (shN (Dg.vl 4294967296 xs) e)) → Calls Tryd.prog 31 #[.int .i64 0, vw] w1 fun z w' => z = .returned (.int .i64 (capd (shN (Dg.vl 4294967296 xs) e)).2) ∧ Below w1.heap.size w1 w') := fun h vw w1 r => long_any vw _ w1 r h
  unfold floorL floorB floorC at hfl
  rw [hTT] at hfl
  obtain ⟨N, hN⟩ : ∃ N, shN (Dg.vl 4294967296 xs) e = N := ⟨_, rfl⟩
  rw [hN] at hfl HO HCS HLO
  obtain ⟨⟨l, k⟩, hk⟩ : ∃ r, capd N = r := ⟨_, rfl⟩
  rw [hk] at hfl HCS HLO
  obtain ⟨c, hc⟩ : ∃ c, dchk xs e = c := ⟨_, rfl⟩
  rw [hc] at hfl HC HO
  obtain ⟨g, hg⟩ : ∃ g, decide (signT T < 0) = g := ⟨_, rfl⟩
  rw [hg] at hfl hbs
  simp only at HCS HLO hfl
  have HCS2 : Hid (l = if k = 0 then Dg.dg 4294967296 N else []) := HCS
  obtain ⟨⟨bs, bn, be⟩, hbt⟩ : ∃ bt, bare T = bt := ⟨_, rfl⟩
  rw [hbt] at hbs HO
  simp only at hbs
  subst hbs
  clear hr sa hT hTT hc hg hk hN hbt HCS
  by_cases h : c = 0
  · subst h
    simp only [if_true] at hfl
    obtain ⟨hof, hfo, hln⟩ := HO.out rfl
    have HOF : Hid _ := hof
    have HFO : Hid _ := hfo
    have HLO2 : Hid _ := HLO.out hln
    have HLN : Hid _ := hln
    clear HO HLO hof hfo hln
    go_enter Tryd.func10, Tryd.ntmps10
    go_wp2_with fail
    refine hfl.mono ?_
    rintro z w1 ⟨v1, rfl, o1, b1⟩
    have l1 := l0.later b1
    have b01 := below_trans bb b1
    obtain ⟨-, ⟨c0, c1, c2⟩, -⟩ := id l1
    clear hfl b1 l0 bb
    go_wp2_with fail
    refine (HC.out _ b01).mono ?_
    rintro z w2 ⟨rfl, b2⟩
    have l2 := l1.later b2
    have b02 := below_trans b01 b2
    have o2 := o1.later b2
    clear c0 c1 c2 l1 b01 o1 b2
    obtain ⟨-, ⟨c0, c1, c2⟩, -⟩ := id l2
    go_wp2_with fail
    refine (HOF.out _ b02).mono ?_
    rintro z w3 ⟨vt, rfl, r3, b3⟩
    obtain ⟨to, tc, hvt⟩ := r3.shape
    subst hvt
    have bB := below_alloc w3 (.cells #[.bool bs, .slice to (Dg.dg 65536 bn).length tc, .int .i64 be] 34)
    have lx := loc_new w3 (.bool bs) (.slice to (Dg.dg 65536 bn).length tc) (.int .i64 be) 34
    have r3 := r3.later bB
    have o3 := (o2.later b3).later bB
    have b03 := below_trans (below_trans b02 b3) bB
    clear c0 c1 c2 l2 b02 o2 b3 bB
    obtain ⟨-, ⟨c0, c1, c2⟩, -⟩ := id lx
    go_wp2_with fail
    refine (HFO.out _ _ ⟨_, rfl, r3⟩).mono ?_
    rintro z w4 ⟨v4, rfl, r4, b4⟩
    have lx4 := lx.later b4
    have o4 := o3.later b4
    have b04 := below_trans b03 b4
    clear c0 c1 c2 lx o3 b03 b4 r3
    go_wp2_with fail
    refine (HLO2.out _ _ r4).mono ?_
    rintro z w5 ⟨rfl, b5⟩
    have lx5 := lx4.later b5
    have o5 := o4.later b5
    have r5 := r4.later b5
    have b05 := below_trans b04 b5
    clear lx4 o4 r4 b5 b04
    obtain ⟨-, ⟨c0, c1, c2⟩, -⟩ := id lx5
    by_cases hk0 : k = 0
    · subst hk0
      simp only [if_true] at *
      go_wp2_with fail
      refine (HBG.out _ b05).mono ?_
      rintro z w6 ⟨rfl, b6⟩
      have b06 := below_trans b05 b6
      have hni := natIs_true v1 v4 l 0 N w6 (o5.later b6).rd (r5.later b6) HLN.out (by rw [if_pos rfl]; exact HCS2.out)
      go_wp2_with fail
      refine hni.mono ?_
      rintro z w7 ⟨rfl, b7⟩
      have b07 := below_trans b06 b7
      clear hni
      go_wp2
      go_ret
      exact ⟨rfl, b07⟩
    · have g0 : (k == 0) = false := by simp; exact hk0
      have HK0 : Hid (¬k = 0) := hk0
      go_wp2_with fail
      refine (HBG.out _ b05).mono ?_
      rintro z w6 ⟨rfl, b6⟩
      have b06 := below_trans b05 b6
      have hni := natIs_true v1 v4 l k N w6 (o5.later b6).rd (r5.later b6) HLN.out HCS2.out
      go_wp2_with fail
      refine hni.mono ?_
      rintro z w7 ⟨rfl, b7⟩
      have b07 := below_trans b06 b7
      clear hni
      go_wp2
      go_ret
      exact ⟨rfl, b07⟩
  · simp only [if_neg h] at hfl
    have h3 : (c == 0) = false := by simp [h]
    have HH : Hid (¬c = 0) := h
    clear HO HLO
    go_enter Tryd.func10, Tryd.ntmps10
    go_wp2_with fail
    refine hfl.mono ?_
    rintro z w1 ⟨v1, rfl, o1, b1⟩
    have l1 := l0.later b1
    have b01 := below_trans bb b1
    obtain ⟨-, ⟨c0, c1, c2⟩, -⟩ := id l1
    clear hfl b1 l0 bb
    go_wp2_with fail
    refine (HC.out _ b01).mono ?_
    rintro z w2 ⟨rfl, b2⟩
    have b02 := below_trans b01 b2
    have o2 := o1.later b2
    clear c0 c1 c2 l1 b01 o1 b2
    go_wp2_with fail
    refine (HBG.out _ b02).mono ?_
    rintro z w6 ⟨rfl, b6⟩
    have b06 := below_trans b02 b6
    have hni := natIs_true v1 (.slice none 0 0) [] c 0 w6 (o2.later b6).rd (rd_nil _ _) (by simp [Dg.dg_zero]) (by rw [if_neg HH.out])
    go_wp2_with fail
    refine hni.mono ?_
    rintro z w7 ⟨rfl, b7⟩
    have b07 := below_trans b06 b7
    clear hni
    go_wp2
    go_ret
    exact ⟨rfl, b07⟩
end Go.Proofs.YtepcafhlhnlgaaaDoor

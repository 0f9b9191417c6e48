/-
  Contracts of dyad.Bare and of dyadIs; the law DyadBares.
-/
import Derived.Test.YtmdjmjnnenddfaaDoorDr2
namespace Go.Proofs.YtmdjmjnnenddfaaDoor
open Go.RowKit

set_option maxRecDepth 100000 in
set_option maxHeartbeats 1600000 in
theorem dyBare_any (s : Bool) (ao : Option Addr) (ca : Nat) (xs : List Nat) (e : Int) (w : World) (hr : Rd w .u32 (.slice ao xs.length ca) xs) (sa : Dg.Small 4294967296 xs) (hT : Tab w) :
    Calls Tryd.prog 16 #[.agg #[.bool s, .slice ao xs.length ca, .int .i64 e]] w (DAns w (dbothR (dchk xs e) ⟨s, Dg.vl 4294967296 xs, e⟩)) := by
  have bA := below_trans (below_alloc w (.cells #[.bool s, .slice ao xs.length ca, .int .i64 e] 25)) (below_alloc _ (.cells #[.bool false, .slice none 0 0, .int .i64 0] 25))
  have l1 := (loc_new w (.bool s) (.slice ao xs.length ca) (.int .i64 e) 25).later (below_alloc _ (.cells #[.bool false, .slice none 0 0, .int .i64 0] 25))
  have l2 := loc_new (w.alloc (.cells #[.bool s, .slice ao xs.length ca, .int .i64 e] 25)) (.bool false) (.slice none 0 0) (.int .i64 0) 25
  rw [World.size_alloc] at l2
  obtain ⟨W, hW⟩ : ∃ W, ((w.alloc (.cells #[.bool s, .slice ao xs.length ca, .int .i64 e] 25)).alloc (.cells #[.bool false, .slice none 0 0, .int .i64 0] 25)) = W := ⟨_, rfl⟩
  have sW : W.heap.size = w.heap.size + 1 + 1 := by rw [← hW]; simp [World.size_alloc]
  rw [hW] at bA l1 l2
  have bX := below_alloc W (.cells #[.bool s, .slice ao xs.length ca, .int .i64 e] 25)
  have b01 := below_trans bA bX
  have l1 := l1.later bX
  have l2 := l2.later bX
  have hw := dwrong1_any W.heap.size s ao ca xs e (W.alloc (.cells #[.bool s, .slice ao xs.length ca, .int .i64 e] 25))
    (by rw [World.cell?_alloc_at _ _ _ _ rfl]; rfl) (by rw [World.cell?_alloc_at _ _ _ _ rfl]; rfl) (by rw [World.cell?_alloc_at _ _ _ _ rfl]; rfl) (hr.later b01)
  rw [sW] at hw
  rw [← hW] at hw l1 l2 b01
  have HS : Hid (dchk xs e = 0 → ∀ w1, Below w.heap.size w w1 → Calls Tryd.prog 40 #[.agg #[.bool s, .slice ao xs.length ca, .int .i64 e]] w1 (DAns w1 (shortT ⟨s, Dg.vl 4294967296 xs, e⟩))) := fun h w1 b1 => by
    obtain ⟨c1, e1, e2⟩ := dchk_zero h
    have z1 := chk_zero c1
    have x1 : (Dg.dg 4294967296 (Dg.vl 4294967296 xs)).length ≤ 1200 := by rw [← Dg.eq_dg 4294967296 (by omega) xs _ sa z1.1 rfl]; exact z1.2
    exact dshort_any _ _ w1 (dv_of (hr.later b1) sa z1.1) (by simp only; omega) ⟨by simp only; omega, by simp only; omega⟩ (hT.later b1) (by have := tz_fits (Dg.vl 4294967296 xs) 1200 x1; simp only; omega)
  unfold dbothR
  obtain ⟨c, hc⟩ : ∃ c, dchk xs e = c := ⟨_, rfl⟩
  rw [hc] at hw HS ⊢
  clear hc bA bX sW hW hr sa hT
  by_cases h : c = 0
  · subst h
    rw [if_pos rfl]
    have HS2 : Hid (∀ w1, Below w.heap.size w w1 → Calls Tryd.prog 40 #[.agg #[.bool s, .slice ao xs.length ca, .int .i64 e]] w1 (DAns w1 (shortT ⟨s, Dg.vl 4294967296 xs, e⟩))) := HS.out rfl
    obtain ⟨⟨⟨rs, rn, re⟩, rc⟩, hrr⟩ : ∃ r, shortT ⟨s, Dg.vl 4294967296 xs, e⟩ = r := ⟨_, rfl⟩
    rw [hrr] at HS2 ⊢
    clear HS
    clear hrr
    go_enter Tryd.func16, Tryd.ntmps16
    go_wp2_with fail
    refine hw.mono ?_
    rintro z w1 ⟨rfl, b1⟩
    have l1 := l1.later b1
    have l2 := l2.later b1
    have b01 := below_trans b01 b1
    obtain ⟨-, ⟨ca0, ca1, ca2⟩, -⟩ := id l1
    clear hw b1
    go_wp2_with fail
    refine (of_dy s ao xs.length ca e _).mono ?_
    rintro z w3 ⟨rfl, b3⟩
    have hlt := (l2.later b3).1
    have l23 := l2.later b3
    have b03 := below_trans b01 b3
    go_wp2_with fail
    refine (HS2.out w3 b03).mono ?_
    rintro z w6 ⟨vr, rfl, o6, b6⟩
    have lc6 := l23.later b6
    have b06 := below_trans b03 b6
    obtain ⟨so, sc, hvr⟩ := o6.rd.shape
    subst hvr
    obtain ⟨hl6, ⟨d0, d1, d2⟩, f0, f1, f2⟩ := id lc6
    go_wp2
    obtain ⟨-, ⟨g0, g1, g2⟩, -⟩ := loc_set lc6 (.bool rs) (.slice so (Dg.dg 4294967296 rn).length sc) (.int .i64 re)
    have o7 := o6.apart3 (b := w.heap.size + 1) hlt (.bool rs) (.slice so (Dg.dg 4294967296 rn).length sc) (.int .i64 re)
    have b8 := below_set3 b06 (show w.heap.size ≤ w.heap.size + 1 by omega) (.bool rs) (.slice so (Dg.dg 4294967296 rn).length sc) (.int .i64 re)
    refine bodyPost_ret (v := .tuple #[.agg #[.bool rs, .slice so (Dg.dg 4294967296 rn).length sc, .int .i64 re], .int .i64 rc]) (by simp [results, Tryd.results16, go_sem, g0, g1, g2]) rfl ?_
    exact ⟨_, rfl, o7.lower b03.size, b8⟩
  · rw [if_neg h]
    go_enter Tryd.func16, Tryd.ntmps16
    go_wp2_with fail
    refine hw.mono ?_
    rintro z w1 ⟨rfl, b1⟩
    have l2 := l2.later b1
    have b01 := below_trans b01 b1
    obtain ⟨hl6, ⟨d0, d1, d2⟩, f0, f1, f2⟩ := id l2
    clear hw b1 HS
    go_wp2
    obtain ⟨-, ⟨g0, g1, g2⟩, -⟩ := loc_set l2 (.bool false) (.slice none 0 0) (.int .i64 0)
    have b8 := below_set3 b01 (show w.heap.size ≤ w.heap.size + 1 by omega) (.bool false) (.slice none 0 0) (.int .i64 0)
    refine bodyPost_ret (v := .tuple #[.agg #[.bool false, .slice none 0 0, .int .i64 0], .int .i64 c]) (by simp [results, Tryd.results16, go_sem, g0, g1, g2]) rfl ?_
    exact ⟨_, rfl, own_nil _ _ _ _, b8⟩

theorem toT_err {t : Trip} {qs : Bool} {qn : Nat} {qe qc : Int} (h : toT t = (⟨qs, qn, qe⟩, qc)) (hc : ¬qc = 0) : qs = false ∧ qn = 0 ∧ qe = 0 := by
  unfold toT at h
  by_cases h1 : 1200 < (Dg.dg 4294967296 t.n).length
  · rw [if_pos h1] at h
    simp only [Prod.mk.injEq, Trip.mk.injEq] at h
    exact ⟨h.1.1.symm, h.1.2.1.symm, h.1.2.2.symm⟩
  · rw [if_neg h1] at h
    by_cases h2 : t.e < -20000 ∨ 20000 < t.e
    · rw [if_pos h2] at h
      simp only [Prod.mk.injEq, Trip.mk.injEq] at h
      exact ⟨h.1.1.symm, h.1.2.1.symm, h.1.2.2.symm⟩
    · rw [if_neg h2] at h
      simp only [Prod.mk.injEq] at h
      exact absurd h.2.symm hc

theorem rd_empty {w w' : World} {k : IntKind} {so : Option Addr} {sc : Nat} (h : Rd w k (.slice so 0 sc) []) : Rd w' k (.slice so 0 sc) [] := by
  obtain ⟨ao, ca, hv, h1, h2, _⟩ := h
  exact ⟨ao, ca, hv, h1, h2, fun h => by simp at h⟩

/-- What must come: the number, or what is wrong. -/
def wantR (c : Int) (t : Trip) : Trip × Int := if c = 0 then toT t else (⟨false, 0, 0⟩, c)

set_option maxRecDepth 100000 in
set_option maxHeartbeats 1600000 in
theorem dyadIs_any (v : Value) (t : Trip) (rs : Bool) (rn : Nat) (re rc c : Int) (so : Option Addr) (sc : Nat) (w : World) (hA : Rd w .u32 (.slice so (Dg.dg 4294967296 rn).length sc) (Dg.dg 4294967296 rn)) (hv : Rv w v t) (hL : (Dg.dg 65536 t.n).length ≤ 100000)
    (hw : wantR c t = (⟨rs, rn, re⟩, rc)) :
    Calls Tryd.prog 18 #[.agg #[.bool rs, .slice so (Dg.dg 4294967296 rn).length sc, .int .i64 re], .int .i64 rc, .int .i64 c, v] w fun z w' => z = .returned (.bool true) ∧ Below w.heap.size w w' := by
  have HTD : Hid (∀ w1, Below w.heap.size w w1 → Calls Tryd.prog 43 #[v] w1 (RDAns w1 (toT t))) := fun w1 b1 => toDyad_any v t w1 (hv.later b1) hL
  obtain ⟨s0, rfl, hr⟩ := hv
  obtain ⟨ao, ca, rfl⟩ := hr.shape
  obtain ⟨m, hm⟩ : ∃ m, (Dg.dg 65536 t.n).length = m := ⟨_, rfl⟩
  rw [hm] at HTD ⊢
  obtain ⟨⟨⟨qs, qn, qe⟩, qc⟩, hq⟩ : ∃ q, toT t = q := ⟨_, rfl⟩
  rw [hq] at HTD
  unfold wantR at hw
  rw [hq] at hw
  by_cases h : c = 0
  · subst h
    rw [if_pos rfl] at hw
    by_cases h2 : qc = 0
    · subst h2
      obtain ⟨⟨rfl, rfl, rfl⟩, rfl⟩ : (qs = rs ∧ qn = rn ∧ qe = re) ∧ rc = 0 := by
        simp only [Prod.mk.injEq, Trip.mk.injEq] at hw
        exact ⟨hw.1, hw.2.symm⟩
      clear hw hq hm hr hL
      have bA := below_trans (below_alloc w (.cells #[.bool qs, .slice so (Dg.dg 4294967296 qn).length sc, .int .i64 qe] 25)) (below_alloc _ (.cells #[.bool t.s, .slice ao m ca, .int .i64 t.e] 34))
      have l1 := (loc_new w (.bool qs) (.slice so (Dg.dg 4294967296 qn).length sc) (.int .i64 qe) 25).later (below_alloc _ (.cells #[.bool t.s, .slice ao m ca, .int .i64 t.e] 34))
      go_enter Tryd.func18, Tryd.ntmps18
      go_wp2_with fail
      refine (HTD.out _ bA).mono ?_
      rintro z w1 ⟨vs, rfl, r1, b1⟩
      have l1 := l1.later b1
      have b01 := below_trans bA b1
      have rA := hA.later b01
      obtain ⟨xo, xc, hx⟩ := r1.shape
      subst hx
      have bX := below_alloc w1 (.cells #[(.bool qs), (.slice xo (Dg.dg 4294967296 qn).length xc), (.int .i64 qe)] 25)
      have lX := l1.later bX
      have b02 := below_trans b01 bX
      have r2 := r1.later bX
      have rA2 := rA.later bX
      obtain ⟨-, ⟨c0, c1, c2⟩, -⟩ := id lX
      clear bA b1 HTD hA bX
      have hsm := sameDy_any qs so sc (Dg.dg 4294967296 qn) qe qs xo xc (Dg.dg 4294967296 qn) qe _ rA2 r2
      rw [show decide (qs = qs ∧ qe = qe ∧ Dg.dg 4294967296 qn = Dg.dg 4294967296 qn) = true from decide_eq_true ⟨rfl, rfl, rfl⟩] at hsm
      go_wp2_with fail
      refine hsm.mono ?_
      rintro z w2 ⟨rfl, b3⟩
      have b4 := below_trans b02 b3
      clear hsm
      go_wp2
      go_ret
      exact ⟨rfl, b4⟩
    · obtain ⟨⟨hs1, hn1, he1⟩, hc1⟩ : (qs = rs ∧ qn = rn ∧ qe = re) ∧ qc = rc := by
        simp only [Prod.mk.injEq, Trip.mk.injEq] at hw
        exact hw
      obtain ⟨z1, z2, z3⟩ := toT_err hq h2
      subst hs1 hn1 he1 hc1
      have h3 : (qc == 0) = false := by simp [h2]
      obtain ⟨ys, hys⟩ : ∃ ys, Dg.dg 4294967296 qn = ys := ⟨_, rfl⟩
      have hnil : ys = [] := by rw [← hys, z2]; rfl
      rw [hys, hnil] at hA ⊢
      rw [z1, z3]
      simp only [List.length_nil] at hA ⊢
      clear hw hq hm hr hL hys hnil z1 z2 z3
      have bA := below_trans (below_alloc w (.cells #[.bool false, .slice so 0 sc, .int .i64 0] 25)) (below_alloc _ (.cells #[.bool t.s, .slice ao m ca, .int .i64 t.e] 34))
      have l1 := (loc_new w (.bool false) (.slice so 0 sc) (.int .i64 0) 25).later (below_alloc _ (.cells #[.bool t.s, .slice ao m ca, .int .i64 t.e] 34))
      go_enter Tryd.func18, Tryd.ntmps18
      go_wp2_with fail
      refine (HTD.out _ bA).mono ?_
      rintro z w1 ⟨vs, rfl, r1, b1⟩
      have l1 := l1.later b1
      have b01 := below_trans bA b1
      have rA := hA.later b01
      obtain ⟨xo, xc, hx⟩ := r1.shape
      subst hx
      have bX := below_alloc w1 (.cells #[.bool false, .slice none 0 0, .int .i64 0] 25)
      have lX := l1.later bX
      have b03 := below_trans b01 bX
      have rA2 := rA.later bX
      clear bA b1 HTD hA bX r1
      obtain ⟨-, ⟨c0, c1, c2⟩, -⟩ := id lX
      have hsm := sameDy_any false so sc [] 0 false none 0 [] 0 (w1.alloc (.cells #[.bool false, .slice none 0 0, .int .i64 0] 25)) rA2 (rd_nil _ _)
      rw [show decide (false = false ∧ (0 : Int) = 0 ∧ ([] : List Nat) = []) = true from decide_eq_true ⟨rfl, rfl, rfl⟩] at hsm
      go_wp2_with fail
      refine hsm.mono ?_
      rintro z w2 ⟨rfl, b3⟩
      have b4 := below_trans b03 b3
      clear hsm
      go_wp2
      go_ret
      exact ⟨rfl, b4⟩
  · rw [if_neg h] at hw
    obtain ⟨⟨rfl, rfl, rfl⟩, rfl⟩ : (false = rs ∧ 0 = rn ∧ 0 = re) ∧ c = rc := by
      simp only [Prod.mk.injEq, Trip.mk.injEq] at hw
      exact hw
    have h3 : (c == 0) = false := by simp [h]
    rw [show Dg.dg 4294967296 0 = [] from rfl] at hA ⊢
    simp only [List.length_nil] at hA ⊢
    clear hw hq hm hr hL
    have bA := below_trans (below_alloc w (.cells #[.bool false, .slice so 0 sc, .int .i64 0] 25)) (below_alloc _ (.cells #[.bool t.s, .slice ao m ca, .int .i64 t.e] 34))
    have l1 := (loc_new w (.bool false) (.slice so 0 sc) (.int .i64 0) 25).later (below_alloc _ (.cells #[.bool t.s, .slice ao m ca, .int .i64 t.e] 34))
    go_enter Tryd.func18, Tryd.ntmps18
    go_wp2_with fail
    refine (HTD.out _ bA).mono ?_
    rintro z w1 ⟨vs, rfl, r1, b1⟩
    have l1 := l1.later b1
    have b01 := below_trans bA b1
    have rA := hA.later b01
    obtain ⟨xo, xc, hx⟩ := r1.shape
    subst hx
    have bX := below_alloc w1 (.cells #[.bool false, .slice none 0 0, .int .i64 0] 25)
    have lX := l1.later bX
    have b03 := below_trans b01 bX
    have rA2 := rA.later bX
    clear bA b1 HTD hA bX r1
    obtain ⟨-, ⟨c0, c1, c2⟩, -⟩ := id lX
    have hsm := sameDy_any false so sc [] 0 false none 0 [] 0 (w1.alloc (.cells #[.bool false, .slice none 0 0, .int .i64 0] 25)) rA2 (rd_nil _ _)
    rw [show decide (false = false ∧ (0 : Int) = 0 ∧ ([] : List Nat) = []) = true from decide_eq_true ⟨rfl, rfl, rfl⟩] at hsm
    go_wp2_with fail
    refine hsm.mono ?_
    rintro z w2 ⟨rfl, b3⟩
    have b4 := below_trans b03 b3
    clear hsm
    go_wp2
    go_ret
    exact ⟨rfl, b4⟩
end Go.Proofs.YtmdjmjnnenddfaaDoor

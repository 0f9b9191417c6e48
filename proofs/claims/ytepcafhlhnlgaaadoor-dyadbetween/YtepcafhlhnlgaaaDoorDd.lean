/-
  Texts laid together: Dl5, Dy9.
-/
import Derived.Test.YtepcafhlhnlgaaaDoorDc
/-
  Contract of dyad.Scale; the law DyadScales.
-/
namespace Go.Proofs.YtepcafhlhnlgaaaDoor
open Go.RowKit

/-- What is wrong with a dyad, or with how far it is scaled. -/
def schk (xs : List Nat) (e n : Int) : Int := if dchk xs e = 0 then (if n < -40000 ∨ 40000 < n then 3 else 0) else dchk xs e

theorem loc_set2 {w : World} {b : Nat} {v0 v1 v2 : Value} (h : Loc w b v0 v1 v2) (x2 : Value) : Loc (w.setCell ⟨b, 2, none⟩ x2) b v0 v1 x2 := by
  obtain ⟨hl, ⟨c0, c1, c2⟩, f0, f1, f2⟩ := h
  refine ⟨by simpa using hl, ⟨?_, ?_, ?_⟩, by simpa using f0, by simpa using f1, by simpa using f2⟩
  · rw [World.cell?_setCell_other (h := by simp)]; exact c0
  · rw [World.cell?_setCell_other (h := by simp)]; exact c1
  · exact World.cell?_setCell_same _ _ _ c2

theorem Loc.apart2 {w : World} {b c : Nat} {v0 v1 v2 : Value} (h : Loc w b v0 v1 v2) (hne : c ≠ b) (x2 : Value) : Loc (w.setCell ⟨c, 2, none⟩ x2) b v0 v1 v2 := by
  obtain ⟨hl, ⟨c0, c1, c2⟩, f0, f1, f2⟩ := h
  refine ⟨by simpa using hl, ⟨?_, ?_, ?_⟩, by simpa using f0, by simpa using f1, by simpa using f2⟩
  · rw [World.cell?_setCell_other (h := by simp)]; exact c0
  · rw [World.cell?_setCell_other (h := by simp)]; exact c1
  · rw [World.cell?_setCell_other (h := by simp)]; exact c2

set_option maxRecDepth 100000 in
theorem beyond_no (n : Int) (w : World) (h1 : ¬n < -40000) (h2 : ¬40000 < n) : Calls Tryd.prog 36 #[.int .i64 n, .int .i64 40000] w fun z w' => z = .returned (.bool false) ∧ w' = w := by
  go_enter Tryd.func36, Tryd.ntmps36
  go_wp2
  go_ret
  exact ⟨rfl, rfl⟩

set_option maxRecDepth 100000 in
set_option maxHeartbeats 1600000 in
theorem dscale_any (s : Bool) (ao : Option Addr) (ca : Nat) (xs : List Nat) (e n : Int) (w : World) (hr : Rd w .u32 (.slice ao xs.length ca) xs) (sa : Dg.Small 4294967296 xs) (hT : Tab w) :
    Calls Tryd.prog 26 #[.agg #[.bool s, .slice ao xs.length ca, .int .i64 e], .int .i64 n] w (DAns w (dbothR (schk xs e n) ⟨s, Dg.vl 4294967296 xs, e + n⟩)) := by
  have bA := below_trans (below_alloc w (.cells #[.bool s, .slice ao xs.length ca, .int .i64 e] 25)) (below_alloc _ (.cells #[.bool false, .slice none 0 0, .int .i64 0] 25))
  have l1 := (loc_new w (.bool s) (.slice ao xs.length ca) (.int .i64 e) 25).later (below_alloc _ (.cells #[.bool false, .slice none 0 0, .int .i64 0] 25))
  have l2 := loc_new (w.alloc (.cells #[.bool s, .slice ao xs.length ca, .int .i64 e] 25)) (.bool false) (.slice none 0 0) (.int .i64 0) 25
  rw [World.size_alloc] at l2
  obtain ⟨W, hW⟩ : ∃ W, ((w.alloc (.cells #[.bool s, .slice ao xs.length ca, .int .i64 e] 25)).alloc (.cells #[.bool false, .slice none 0 0, .int .i64 0] 25)) = W := ⟨_, rfl⟩
  have sW : W.heap.size = w.heap.size + 1 + 1 := by rw [← hW]; simp [World.size_alloc]
  rw [hW] at bA l1 l2
  have bX := below_alloc W (.cells #[.bool s, .slice ao xs.length ca, .int .i64 e] 25)
  have b01 := below_trans bA bX
  have l1 := l1.later bX
  have l2 := l2.later bX
  have hw := dwrong1_any W.heap.size s ao ca xs e (W.alloc (.cells #[.bool s, .slice ao xs.length ca, .int .i64 e] 25))
    (by rw [World.cell?_alloc_at _ _ _ _ rfl]; rfl) (by rw [World.cell?_alloc_at _ _ _ _ rfl]; rfl) (by rw [World.cell?_alloc_at _ _ _ _ rfl]; rfl) (hr.later b01)
  rw [sW] at hw
  rw [← hW] at hw l1 l2 b01
  have HS : Hid (dchk xs e = 0 → -40000 ≤ n → n ≤ 40000 → ∀ w1, Below w.heap.size w w1 → Calls Tryd.prog 40 #[.agg #[.bool s, .slice ao xs.length ca, .int .i64 (e + n)]] w1 (DAns w1 (shortT ⟨s, Dg.vl 4294967296 xs, e + n⟩))) := fun h n1 n2 w1 b1 => by
    obtain ⟨c1, e1, e2⟩ := dchk_zero h
    have z1 := chk_zero c1
    have x1 : (Dg.dg 4294967296 (Dg.vl 4294967296 xs)).length ≤ 1200 := by rw [← Dg.eq_dg 4294967296 (by omega) xs _ sa z1.1 rfl]; exact z1.2
    exact dshort_any _ _ w1 (dv_of (hr.later b1) sa z1.1) (by simp only; omega) ⟨by simp only; omega, by simp only; omega⟩ (hT.later b1) (by have := tz_fits (Dg.vl 4294967296 xs) 1200 x1; simp only; omega)
  have HE : Hid (dchk xs e = 0 → -20000 ≤ e ∧ e ≤ 20000) := fun h => (dchk_zero h).2
  unfold dbothR schk
  obtain ⟨c, hc⟩ : ∃ c, dchk xs e = c := ⟨_, rfl⟩
  rw [hc] at hw HS HE ⊢
  clear hc bA bX sW hW hr sa hT
  by_cases h : c = 0
  · subst h
    rw [if_pos rfl]
    obtain ⟨e1, e2⟩ := HE.out rfl
    by_cases h1 : n < -40000
    · rw [if_pos (Or.inl h1), if_neg (by omega)]
      clear HS HE
      go_enter Tryd.func26, Tryd.ntmps26
      go_wp2_with fail
      refine hw.mono ?_
      rintro z w1 ⟨rfl, b1⟩
      have l2 := l2.later b1
      have b01 := below_trans b01 b1
      obtain ⟨hl6, ⟨d0, d1, d2⟩, f0, f1, f2⟩ := id l2
      clear hw b1
      go_wp2
      obtain ⟨-, ⟨g0, g1, g2⟩, -⟩ := loc_set l2 (.bool false) (.slice none 0 0) (.int .i64 0)
      have b8 := below_set3 b01 (show w.heap.size ≤ w.heap.size + 1 by omega) (.bool false) (.slice none 0 0) (.int .i64 0)
      refine bodyPost_ret (v := .tuple #[.agg #[.bool false, .slice none 0 0, .int .i64 0], .int .i64 3]) (by simp [results, Tryd.results26, go_sem, g0, g1, g2]) rfl ?_
      exact ⟨_, rfl, own_nil _ _ _ _, b8⟩
    · by_cases h2 : 40000 < n
      · rw [if_pos (Or.inr h2), if_neg (by omega)]
        clear HS HE
        go_enter Tryd.func26, Tryd.ntmps26
        go_wp2_with fail
        refine hw.mono ?_
        rintro z w1 ⟨rfl, b1⟩
        have l2 := l2.later b1
        have b01 := below_trans b01 b1
        obtain ⟨hl6, ⟨d0, d1, d2⟩, f0, f1, f2⟩ := id l2
        clear hw b1
        go_wp2
        obtain ⟨-, ⟨g0, g1, g2⟩, -⟩ := loc_set l2 (.bool false) (.slice none 0 0) (.int .i64 0)
        have b8 := below_set3 b01 (show w.heap.size ≤ w.heap.size + 1 by omega) (.bool false) (.slice none 0 0) (.int .i64 0)
        refine bodyPost_ret (v := .tuple #[.agg #[.bool false, .slice none 0 0, .int .i64 0], .int .i64 3]) (by simp [results, Tryd.results26, go_sem, g0, g1, g2]) rfl ?_
        exact ⟨_, rfl, own_nil _ _ _ _, b8⟩
      · rw [if_neg (show ¬(n < -40000 ∨ 40000 < n) by omega), if_pos rfl]
        have HS2 : Hid (∀ w1, Below w.heap.size w w1 → Calls Tryd.prog 40 #[.agg #[.bool s, .slice ao xs.length ca, .int .i64 (e + n)]] w1 (DAns w1 (shortT ⟨s, Dg.vl 4294967296 xs, e + n⟩))) := HS.out rfl (by omega) (by omega)
        obtain ⟨⟨⟨rs, rn, re⟩, rc⟩, hrr⟩ : ∃ r, shortT ⟨s, Dg.vl 4294967296 xs, e + n⟩ = r := ⟨_, rfl⟩
        rw [hrr] at HS2 ⊢
        clear HS HE hrr
        go_enter Tryd.func26, Tryd.ntmps26
        go_wp2_with fail
        refine hw.mono ?_
        rintro z w1 ⟨rfl, b1⟩
        have l1 := l1.later b1
        have l2 := l2.later b1
        have b01 := below_trans b01 b1
        obtain ⟨hl1, ⟨ca0, ca1, ca2⟩, k0, k1, k2⟩ := id l1
        have l1s := loc_set2 l1 (.int .i64 (e + n))
        have l2s := l2.apart2 (c := w.heap.size) (by omega) (.int .i64 (e + n))
        have b02 := b01.setCell (p := ⟨w.heap.size, 2, none⟩) (Nat.le_refl _) (.int .i64 (e + n))
        obtain ⟨-, ⟨cs0, cs1, cs2⟩, -⟩ := id l1s
        clear hw b1
        go_wp2_with fail
        refine (beyond_no n w1 (by omega) (by omega)).mono ?_
        rintro z w2 ⟨rfl, rfl⟩
        go_wp2_with fail
        refine (of_dy s ao xs.length ca (e + n) _).mono ?_
        rintro z w3 ⟨rfl, b3⟩
        have hlt := (l2s.later b3).1
        have l23 := l2s.later b3
        have b03 := below_trans b02 b3
        go_wp2_with fail
        refine (HS2.out w3 b03).mono ?_
        rintro z w6 ⟨vr, rfl, o6, b6⟩
        have lc6 := l23.later b6
        have b06 := below_trans b03 b6
        obtain ⟨so, sc, hvr⟩ := o6.rd.shape
        subst hvr
        obtain ⟨hl6, ⟨d0, d1, d2⟩, f0, f1, f2⟩ := id lc6
        go_wp2
        obtain ⟨-, ⟨g0, g1, g2⟩, -⟩ := loc_set lc6 (.bool rs) (.slice so (Dg.dg 4294967296 rn).length sc) (.int .i64 re)
        have o7 := o6.apart3 (b := w.heap.size + 1) hlt (.bool rs) (.slice so (Dg.dg 4294967296 rn).length sc) (.int .i64 re)
        have b8 := below_set3 b06 (show w.heap.size ≤ w.heap.size + 1 by omega) (.bool rs) (.slice so (Dg.dg 4294967296 rn).length sc) (.int .i64 re)
        refine bodyPost_ret (v := .tuple #[.agg #[.bool rs, .slice so (Dg.dg 4294967296 rn).length sc, .int .i64 re], .int .i64 rc]) (by simp [results, Tryd.results26, go_sem, g0, g1, g2]) rfl ?_
        exact ⟨_, rfl, o7.lower b03.size, b8⟩
  · rw [if_neg h, if_neg h]
    clear HS HE
    go_enter Tryd.func26, Tryd.ntmps26
    go_wp2_with fail
    refine hw.mono ?_
    rintro z w1 ⟨rfl, b1⟩
    have l2 := l2.later b1
    have b01 := below_trans b01 b1
    obtain ⟨hl6, ⟨d0, d1, d2⟩, f0, f1, f2⟩ := id l2
    clear hw b1
    go_wp2
    obtain ⟨-, ⟨g0, g1, g2⟩, -⟩ := loc_set l2 (.bool false) (.slice none 0 0) (.int .i64 0)
    have b8 := below_set3 b01 (show w.heap.size ≤ w.heap.size + 1 by omega) (.bool false) (.slice none 0 0) (.int .i64 0)
    refine bodyPost_ret (v := .tuple #[.agg #[.bool false, .slice none 0 0, .int .i64 0], .int .i64 c]) (by simp [results, Tryd.results26, go_sem, g0, g1, g2]) rfl ?_
    exact ⟨_, rfl, own_nil _ _ _ _, b8⟩
end Go.Proofs.YtepcafhlhnlgaaaDoor
/-
  Contracts of long.Sign, long.Minus, long.Compare.
-/
namespace Go.Proofs.YtepcafhlhnlgaaaDoor
open Go.RowKit

/-- -1, 0 or 1. -/
def signT (t : Trip) : Int := if t.n = 0 then 0 else if t.s then -1 else 1

set_option maxRecDepth 100000 in
theorem dsign_any (v : Value) (t : Trip) (w : World) (hv : Dv w v t) : Calls Tryd.prog 59 #[v] w fun z w' => z = .returned (.int .i64 (signT t)) ∧ Below w.heap.size w w' := by
  obtain ⟨s0, rfl, hr⟩ := hv
  obtain ⟨ao, ca, rfl⟩ := hr.shape
  obtain ⟨ts, n, e⟩ := t
  have hnl := Dg.dg_nil_iff 4294967296 n (by omega)
  simp only at hr ⊢
  unfold signT
  simp only
  obtain ⟨m, hm⟩ : ∃ m, (Dg.dg 4294967296 n).length = m := ⟨_, rfl⟩
  have hz : m = 0 ↔ n = 0 := by rw [← hm, List.length_eq_zero_iff]; exact hnl
  rw [hm]
  have bA := below_alloc w (.cells #[.bool ts, .slice ao m ca, .int .i64 e] 61)
  clear hm hr hnl
  by_cases h : n = 0
  · rw [if_pos h]
    have hm0 := hz.2 h
    subst hm0
    clear hz h
    go_enter Tryd.func59, Tryd.ntmps59
    go_wp2
    go_ret
    exact ⟨rfl, bA⟩
  · rw [if_neg h]
    have hm0 : ((m : Int) == 0) = false := by
      have : ¬m = 0 := fun e => h (hz.1 e)
      simp; exact this
    clear hz h
    cases ts
    · go_enter Tryd.func59, Tryd.ntmps59
      go_wp2
      go_ret
      exact ⟨rfl, bA⟩
    · go_enter Tryd.func59, Tryd.ntmps59
      go_wp2
      go_ret
      exact ⟨rfl, bA⟩

set_option maxRecDepth 100000 in
set_option maxHeartbeats 1600000 in
theorem dminus_any (v u : Value) (a b : Trip) (w : World) (hv : Dv w v a) (hu : Dv w u b) (hLa : (Dg.dg 4294967296 a.n).length ≤ 100000) (hLb : (Dg.dg 4294967296 b.n).length ≤ 100000)
    (ha1 : -100000 ≤ a.e) (ha2 : a.e ≤ 100000) (hb1 : -100000 ≤ b.e) (hb2 : b.e ≤ 100000) :
    Calls Tryd.prog 67 #[v, u] w (DRes w (plusT a (negT b))) := by
  obtain ⟨s0, rfl, ra⟩ := hv
  obtain ⟨ao, ca, rfl⟩ := ra.shape
  obtain ⟨s1, rfl, rb⟩ := hu
  obtain ⟨bo, cb, rfl⟩ := rb.shape
  obtain ⟨sa, an, ae⟩ := a
  obtain ⟨sb, bn, be⟩ := b
  simp only at ra rb hLa hLb ha1 ha2 hb1 hb2 ⊢
  have HP : Hid (∀ w1, Below w.heap.size w w1 → Calls Tryd.prog 47 #[.agg #[.bool sa, .slice ao (Dg.dg 4294967296 an).length ca, .int .i64 ae], .agg #[.bool (!sb), .slice bo (Dg.dg 4294967296 bn).length cb, .int .i64 be]] w1 (DRes w1 (plusT ⟨sa, an, ae⟩ (negT ⟨sb, bn, be⟩)))) := fun w1 b1 =>
    dplus_any _ _ ⟨sa, an, ae⟩ (negT ⟨sb, bn, be⟩) w1 ⟨_, rfl, ra.later b1⟩ ⟨_, rfl, rb.later b1⟩ hLa hLb ha1 ha2 hb1 hb2
  obtain ⟨ma, hma⟩ : ∃ m, (Dg.dg 4294967296 an).length = m := ⟨_, rfl⟩
  obtain ⟨mb, hmb⟩ : ∃ m, (Dg.dg 4294967296 bn).length = m := ⟨_, rfl⟩
  rw [hma, hmb] at HP ⊢
  obtain ⟨⟨rs, rn, re⟩, hrr⟩ : ∃ r, plusT ⟨sa, an, ae⟩ (negT ⟨sb, bn, be⟩) = r := ⟨_, rfl⟩
  rw [hrr] at HP ⊢
  clear hma hmb hrr ra rb hLa hLb
  obtain ⟨la, lb, lc, b01, -⟩ := locals3 w (.bool sa) (.slice ao ma ca) (.int .i64 ae) (.bool (!sb)) (.slice bo mb cb) (.int .i64 be) (.bool false) (.slice none 0 0) (.int .i64 0) 61 61 61
  go_enter Tryd.func67, Tryd.ntmps67
  go_wp2_with fail
  refine (HP.out _ b01).mono ?_
  rintro z w6 ⟨vr, rfl, o6, b6⟩
  have hlt := lc.1
  have lc6 := lc.later b6
  have b06 := below_trans b01 b6
  obtain ⟨so, sc, hvr⟩ := o6.rd.shape
  subst hvr
  obtain ⟨hl6, ⟨d0, d1, d2⟩, f0, f1, f2⟩ := id lc6
  clear lc b6 la lb
  go_wp2
  obtain ⟨-, ⟨g0, g1, g2⟩, -⟩ := loc_set lc6 (.bool rs) (.slice so (Dg.dg 4294967296 rn).length sc) (.int .i64 re)
  have o7 := o6.apart3 (b := w.heap.size + 1 + 1) hlt (.bool rs) (.slice so (Dg.dg 4294967296 rn).length sc) (.int .i64 re)
  have b8 := below_set3 b06 (show w.heap.size ≤ w.heap.size + 1 + 1 by omega) (.bool rs) (.slice so (Dg.dg 4294967296 rn).length sc) (.int .i64 re)
  refine bodyPost_ret (v := .agg #[.bool rs, .slice so (Dg.dg 4294967296 rn).length sc, .int .i64 re]) (by simp [results, Tryd.results67, go_sem, g0, g1, g2]) rfl ?_
  exact ⟨_, rfl, o7.lower b01.size, b8⟩

theorem sign_plus (a b : Trip) : signT (plusT a (negT b)) = sgn (V (a.e.natAbs + b.e.natAbs) a - V (a.e.natAbs + b.e.natAbs) b) := by
  have h1 : -((a.e.natAbs + b.e.natAbs : Nat) : Int) ≤ a.e := by omega
  have h2 : -((a.e.natAbs + b.e.natAbs : Nat) : Int) ≤ (negT b).e := by show _ ≤ b.e; omega
  have h3 := V_plus h1 h2
  rw [V_neg] at h3
  have h4 := sgn_V (a.e.natAbs + b.e.natAbs) (plusT a (negT b))
  rw [h3] at h4
  unfold signT
  rw [← h4]
  congr 1

set_option maxRecDepth 100000 in
set_option maxHeartbeats 800000 in
theorem dcompareL_any (v u : Value) (a b : Trip) (w : World) (hv : Dv w v a) (hu : Dv w u b) (hLa : (Dg.dg 4294967296 a.n).length ≤ 100000) (hLb : (Dg.dg 4294967296 b.n).length ≤ 100000)
    (ha1 : -100000 ≤ a.e) (ha2 : a.e ≤ 100000) (hb1 : -100000 ≤ b.e) (hb2 : b.e ≤ 100000) :
    Calls Tryd.prog 44 #[v, u] w fun z w' => z = .returned (.int .i64 (signT (plusT a (negT b)))) ∧ Below w.heap.size w w' := by
  have HM : Hid (∀ w1, Below w.heap.size w w1 → Calls Tryd.prog 67 #[v, u] w1 (DRes w1 (plusT a (negT b)))) := fun w1 b1 => dminus_any v u a b w1 (hv.later b1) (hu.later b1) hLa hLb ha1 ha2 hb1 hb2
  obtain ⟨s0, rfl, ra⟩ := hv
  obtain ⟨ao, ca, rfl⟩ := ra.shape
  obtain ⟨s1, rfl, rb⟩ := hu
  obtain ⟨bo, cb, rfl⟩ := rb.shape
  obtain ⟨T, hT⟩ : ∃ T, plusT a (negT b) = T := ⟨_, rfl⟩
  rw [hT] at HM ⊢
  obtain ⟨ma, hma⟩ : ∃ m, (Dg.dg 4294967296 a.n).length = m := ⟨_, rfl⟩
  obtain ⟨mb, hmb⟩ : ∃ m, (Dg.dg 4294967296 b.n).length = m := ⟨_, rfl⟩
  rw [hma, hmb] at HM ⊢
  clear hT hma hmb ra rb
  have bA := below_trans (below_alloc w (.cells #[.bool a.s, .slice ao ma ca, .int .i64 a.e] 61)) (below_alloc _ (.cells #[.bool b.s, .slice bo mb cb, .int .i64 b.e] 61))
  go_enter Tryd.func44, Tryd.ntmps44
  go_wp2_with fail
  refine (HM.out _ bA).mono ?_
  rintro z w1 ⟨vr, rfl, o1, b1⟩
  have b01 := below_trans bA b1
  go_wp2_with fail
  refine (dsign_any _ T w1 ⟨_, rfl, o1.rd⟩).mono ?_
  rintro z w2 ⟨rfl, b2⟩
  have b02 := below_trans b01 b2
  go_wp2
  go_ret
  exact ⟨rfl, b02⟩
end Go.Proofs.YtepcafhlhnlgaaaDoor

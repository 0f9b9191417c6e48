/-
  Texts laid together: Dl5, Dy9.
-/
import Derived.Test.YtgbccbmflokooaaGreatDoorDc
import Derived.Deep.RegionHeld3
/-
  Contract of dyad.Scale; the law DyadScales.
-/
namespace Go.Proofs.YtgbccbmflokooaaGreatDoor
open Go.RowKit

/-- What is wrong with a dyad, or with how far it is scaled. -/
def schk (xs : List Nat) (e n : Int) : Int := if dchk xs e = 0 then (if n < -40000 ∨ 40000 < n then 3 else 0) else dchk xs e

theorem loc_set2 {w : World} {b : Nat} {v0 v1 v2 : Value} (h : Loc w b v0 v1 v2) (x2 : Value) : Loc (w.setCell ⟨b, 2, none⟩ x2) b v0 v1 x2 := by
  obtain ⟨hl, ⟨c0, c1, c2⟩, f0, f1, f2⟩ := h
  refine ⟨by simpa using hl, ⟨?_, ?_, ?_⟩, by simpa using f0, by simpa using f1, by simpa using f2⟩
  · rw [World.cell?_setCell_other (h := by simp)]; exact c0
  · rw [World.cell?_setCell_other (h := by simp)]; exact c1
  · exact World.cell?_setCell_same _ _ _ c2

theorem Loc.apart2 {w : World} {b c : Nat} {v0 v1 v2 : Value} (h : Loc w b v0 v1 v2) (hne : c ≠ b) (x2 : Value) : Loc (w.setCell ⟨c, 2, none⟩ x2) b v0 v1 v2 := by
  obtain ⟨hl, ⟨c0, c1, c2⟩, f0, f1, f2⟩ := h
  refine ⟨by simpa using hl, ⟨?_, ?_, ?_⟩, by simpa using f0, by simpa using f1, by simpa using f2⟩
  · rw [World.cell?_setCell_other (h := by simp)]; exact c0
  · rw [World.cell?_setCell_other (h := by simp)]; exact c1
  · rw [World.cell?_setCell_other (h := by simp)]; exact c2

set_option maxRecDepth 100000 in
theorem beyond_no (n : Int) (w : World) (h1 : ¬n < -40000) (h2 : ¬40000 < n) : Calls Tryz.prog 123 #[.int .i64 n, .int .i64 40000] w fun z w' => z = .returned (.bool false) ∧ w' = w := by
  go_enter Tryz.func123, Tryz.ntmps123
  go_wp2
  go_ret
  exact ⟨rfl, rfl⟩

end Go.Proofs.YtgbccbmflokooaaGreatDoor
/-
  Contracts of long.Sign, long.Minus, long.Compare.
-/
namespace Go.Proofs.YtgbccbmflokooaaGreatDoor
open Go.RowKit

/-- -1, 0 or 1. -/
def signT (t : Trip) : Int := if t.n = 0 then 0 else if t.s then -1 else 1

set_option maxRecDepth 100000 in
theorem dsign_any (v : Value) (t : Trip) (w : World) (hv : Dv w v t) : Calls Tryz.prog 122 #[v] w fun z w' => z = .returned (.int .i64 (signT t)) ∧ Below w.heap.size w w' := by
  obtain ⟨s0, rfl, hr⟩ := hv
  obtain ⟨ao, ca, rfl⟩ := hr.shape
  obtain ⟨ts, n, e⟩ := t
  have hnl := Dg.dg_nil_iff 4294967296 n (by omega)
  simp only at hr ⊢
  unfold signT
  simp only
  obtain ⟨m, hm⟩ : ∃ m, (Dg.dg 4294967296 n).length = m := ⟨_, rfl⟩
  have hz : m = 0 ↔ n = 0 := by rw [← hm, List.length_eq_zero_iff]; exact hnl
  rw [hm]
  have bA := below_alloc w (.cells #[.bool ts, .slice ao m ca, .int .i64 e] 112)
  clear hm hr hnl
  by_cases h : n = 0
  · rw [if_pos h]
    have hm0 := hz.2 h
    subst hm0
    clear hz h
    go_enter Tryz.func122, Tryz.ntmps122
    go_wp2
    go_ret
    exact ⟨rfl, bA⟩
  · rw [if_neg h]
    have hm0 : ((m : Int) == 0) = false := by
      have : ¬m = 0 := fun e => h (hz.1 e)
      simp; exact this
    clear hz h
    cases ts
    · go_enter Tryz.func122, Tryz.ntmps122
      go_wp2
      go_ret
      exact ⟨rfl, bA⟩
    · go_enter Tryz.func122, Tryz.ntmps122
      go_wp2
      go_ret
      exact ⟨rfl, bA⟩

set_option maxRecDepth 100000 in
theorem dopp_any (s : Bool) (ao : Option Addr) (la ca : Nat) (e : Int) (w : World) :
    Calls Tryz.prog 142 #[.agg #[.bool s, .slice ao la ca, .int .i64 e]] w fun z w' => z = .returned (.agg #[.bool (!s), .slice ao la ca, .int .i64 e]) ∧ Below w.heap.size w w' := by
  go_enter Tryz.func142, Tryz.ntmps142
  go_wp2
  go_returns
  exact ⟨rfl, ((Below.refl _ _).alloc (Nat.le_refl _) _).alloc (by simp [World.size_alloc]) _⟩

set_option maxRecDepth 100000 in
set_option maxHeartbeats 1600000 in
theorem dminus_any (v u : Value) (a b : Trip) (w : World) (hv : Dv w v a) (hu : Dv w u b) (hLa : (Dg.dg 4294967296 a.n).length ≤ 100000) (hLb : (Dg.dg 4294967296 b.n).length ≤ 100000)
    (ha1 : -100000 ≤ a.e) (ha2 : a.e ≤ 100000) (hb1 : -100000 ≤ b.e) (hb2 : b.e ≤ 100000) :
    Calls Tryz.prog 121 #[v, u] w (DRes w (plusT a (negT b))) := by
  obtain ⟨s0, rfl, ra⟩ := hv
  obtain ⟨ao, ca, rfl⟩ := ra.shape
  obtain ⟨s1, rfl, rb⟩ := hu
  obtain ⟨bo, cb, rfl⟩ := rb.shape
  obtain ⟨sa, an, ae⟩ := a
  obtain ⟨sb, bn, be⟩ := b
  simp only at ra rb hLa hLb ha1 ha2 hb1 hb2 ⊢
  have HP : Hid (∀ w1, Below w.heap.size w w1 → Calls Tryz.prog 141 #[.agg #[.bool sa, .slice ao (Dg.dg 4294967296 an).length ca, .int .i64 ae], .agg #[.bool (!sb), .slice bo (Dg.dg 4294967296 bn).length cb, .int .i64 be]] w1 (DRes w1 (plusT ⟨sa, an, ae⟩ (negT ⟨sb, bn, be⟩)))) := fun w1 b1 =>
    dplus_any _ _ ⟨sa, an, ae⟩ (negT ⟨sb, bn, be⟩) w1 ⟨_, rfl, ra.later b1⟩ ⟨_, rfl, rb.later b1⟩ hLa hLb ha1 ha2 hb1 hb2
  obtain ⟨ma, hma⟩ : ∃ m, (Dg.dg 4294967296 an).length = m := ⟨_, rfl⟩
  obtain ⟨mb, hmb⟩ : ∃ m, (Dg.dg 4294967296 bn).length = m := ⟨_, rfl⟩
  rw [hma, hmb] at HP ⊢
  obtain ⟨⟨rs, rn, re⟩, hrr⟩ : ∃ r, plusT ⟨sa, an, ae⟩ (negT ⟨sb, bn, be⟩) = r := ⟨_, rfl⟩
  rw [hrr] at HP ⊢
  clear hma hmb hrr ra rb hLa hLb
  obtain ⟨la, lb, lc, b01, -⟩ := locals3 w (.bool sa) (.slice ao ma ca) (.int .i64 ae) (.bool sb) (.slice bo mb cb) (.int .i64 be) (.bool false) (.slice none 0 0) (.int .i64 0) 112 112 112
  obtain ⟨W, hW⟩ : ∃ W, (((w.alloc (.cells #[.bool sa, .slice ao ma ca, .int .i64 ae] 112)).alloc (.cells #[.bool sb, .slice bo mb cb, .int .i64 be] 112)).alloc (.cells #[.bool false, .slice none 0 0, .int .i64 0] 112)) = W := ⟨_, rfl⟩
  rw [hW] at la lb lc b01
  have bd : Below W.heap.size W W.drew := (Below.refl _ _).drew
  replace la := la.later bd
  replace lb := lb.later bd
  replace lc := lc.later bd
  have b02 := below_trans b01 bd
  rw [← hW] at la lb lc b02
  clear bd b01 hW
  obtain ⟨-, ⟨ca0, ca1, ca2⟩, -⟩ := id la
  obtain ⟨-, ⟨cb0, cb1, cb2⟩, -⟩ := id lb
  have ne3 : w.heap.size + 1 + 1 ≠ w.heap.size := by omega
  have ne4 : w.heap.size ≠ w.heap.size + 1 + 1 := by omega
  go_enter Tryz.func121, Tryz.ntmps121
  go_wp2_with fail
  go_region_held3 (fun wq => (wq.cell? ⟨w.heap.size, 0, none⟩ = some (.bool sa) ∧ wq.cell? ⟨w.heap.size, 1, none⟩ = some (.slice ao ma ca) ∧ wq.cell? ⟨w.heap.size, 2, none⟩ = some (.int .i64 ae)) ∧ wq.cell? ⟨w.heap.size + 1, 0, none⟩ = some (.bool sb) ∧ wq.cell? ⟨w.heap.size + 1, 1, none⟩ = some (.slice bo mb cb) ∧ wq.cell? ⟨w.heap.size + 1, 2, none⟩ = some (.int .i64 be)) (go_keep) (first
    | (go_at_call 142; refine (dopp_any sb bo mb cb be _).mono ?_; rintro z w5 ⟨rfl, b5⟩; have la5 := la.later b5; have lb5 := lb.later b5; have lc5 := lc.later b5; have b05 := below_trans b02 b5; obtain ⟨-, ⟨t0, t1, t2⟩, -⟩ := id la5; obtain ⟨-, ⟨t3, t4, t5⟩, -⟩ := id lb5)
    | (go_at_call 141; refine (HP.out w5 b05).mono ?_; rintro z w6 ⟨vr, rfl, o6, b6⟩; have la6 := la5.later b6; have lb6 := lb5.later b6; have lc6 := lc5.later b6; have b06 := below_trans b05 b6; obtain ⟨-, ⟨u0, u1, u2⟩, -⟩ := id la6; obtain ⟨-, ⟨u3, u4, u5⟩, -⟩ := id lb6; obtain ⟨so, sc, hvt⟩ := o6.rd.shape; subst hvt; obtain ⟨hl6, ⟨d0, d1, d2⟩, f0, f1, f2⟩ := id lc6))
  all_goals go_wp2
  have hlt := lc5.1
  obtain ⟨-, ⟨g0, g1, g2⟩, -⟩ := loc_set lc6 (.bool rs) (.slice so (Dg.dg 4294967296 rn).length sc) (.int .i64 re)
  have b8 := below_set3 b06 (show w.heap.size ≤ w.heap.size + 1 + 1 by omega) (.bool rs) (.slice so (Dg.dg 4294967296 rn).length sc) (.int .i64 re)
  refine bodyPost_ret (v := .agg #[.bool rs, .slice so (Dg.dg 4294967296 rn).length sc, .int .i64 re]) (by simp [results, Tryz.results121, go_sem, g0, g1, g2]) rfl ?_
  exact ⟨_, rfl, (o6.apart3 hlt _ _ _).lower (by have := b05.size; omega), b8⟩

theorem sign_plus (a b : Trip) : signT (plusT a (negT b)) = sgn (V (a.e.natAbs + b.e.natAbs) a - V (a.e.natAbs + b.e.natAbs) b) := by
  have h1 : -((a.e.natAbs + b.e.natAbs : Nat) : Int) ≤ a.e := by omega
  have h2 : -((a.e.natAbs + b.e.natAbs : Nat) : Int) ≤ (negT b).e := by show _ ≤ b.e; omega
  have h3 := V_plus h1 h2
  rw [V_neg] at h3
  have h4 := sgn_V (a.e.natAbs + b.e.natAbs) (plusT a (negT b))
  rw [h3] at h4
  unfold signT
  rw [← h4]
  congr 1

set_option maxRecDepth 100000 in
set_option maxHeartbeats 800000 in
theorem dcompareL_any (v u : Value) (a b : Trip) (w : World) (hv : Dv w v a) (hu : Dv w u b) (hLa : (Dg.dg 4294967296 a.n).length ≤ 100000) (hLb : (Dg.dg 4294967296 b.n).length ≤ 100000)
    (ha1 : -100000 ≤ a.e) (ha2 : a.e ≤ 100000) (hb1 : -100000 ≤ b.e) (hb2 : b.e ≤ 100000) :
    Calls Tryz.prog 90 #[v, u] w fun z w' => z = .returned (.int .i64 (signT (plusT a (negT b)))) ∧ Below w.heap.size w w' := by
  have HM : Hid (∀ w1, Below w.heap.size w w1 → Calls Tryz.prog 121 #[v, u] w1 (DRes w1 (plusT a (negT b)))) := fun w1 b1 => dminus_any v u a b w1 (hv.later b1) (hu.later b1) hLa hLb ha1 ha2 hb1 hb2
  obtain ⟨s0, rfl, ra⟩ := hv
  obtain ⟨ao, ca, rfl⟩ := ra.shape
  obtain ⟨s1, rfl, rb⟩ := hu
  obtain ⟨bo, cb, rfl⟩ := rb.shape
  obtain ⟨T, hT⟩ : ∃ T, plusT a (negT b) = T := ⟨_, rfl⟩
  rw [hT] at HM ⊢
  obtain ⟨ma, hma⟩ : ∃ m, (Dg.dg 4294967296 a.n).length = m := ⟨_, rfl⟩
  obtain ⟨mb, hmb⟩ : ∃ m, (Dg.dg 4294967296 b.n).length = m := ⟨_, rfl⟩
  rw [hma, hmb] at HM ⊢
  clear hT hma hmb ra rb
  have bA := below_trans (below_alloc w (.cells #[.bool a.s, .slice ao ma ca, .int .i64 a.e] 112)) (below_alloc _ (.cells #[.bool b.s, .slice bo mb cb, .int .i64 b.e] 112))
  go_enter Tryz.func90, Tryz.ntmps90
  go_wp2_with fail
  refine (HM.out _ bA).mono ?_
  rintro z w1 ⟨vr, rfl, o1, b1⟩
  have b01 := below_trans bA b1
  go_wp2_with fail
  refine (dsign_any _ T w1 ⟨_, rfl, o1.rd⟩).mono ?_
  rintro z w2 ⟨rfl, b2⟩
  have b02 := below_trans b01 b2
  go_wp2
  go_ret
  exact ⟨rfl, b02⟩
end Go.Proofs.YtgbccbmflokooaaGreatDoor

/-
  The reference's DTimes, TwoDyads.
-/
import Derived.Test.YtmdjmjnnenddfaaDoorDl2
namespace Go.Proofs.YtmdjmjnnenddfaaDoor
open Go.RowKit

theorem locals3z (w : World) (a0 a1 a2 b0 b1 b2 : Value) (ta tb tc : TypeId) :
    ZB (((w.alloc (.cells #[a0, a1, a2] ta)).alloc (.cells #[b0, b1, b2] tb)).alloc (.cells #[.bool false, .slice none 0 0, .int .i64 0] tc)) (w.heap.size + 1 + 1) := by
  have := zb_new ((w.alloc (.cells #[a0, a1, a2] ta)).alloc (.cells #[b0, b1, b2] tb)) tc
  rwa [World.size_alloc, World.size_alloc] at this

theorem mul_len16 (x y L M : Nat) (hx : (Dg.dg 65536 x).length ≤ L) (hy : (Dg.dg 65536 y).length ≤ M) : (Dg.dg 65536 (x * y)).length ≤ L + M := by
  apply Dg.dg_len_le 65536 _ _ (by omega)
  have h1 := Dg.vl_lt 65536 (Dg.dg 65536 x) (Dg.small_dg _ _ (by omega))
  have h2 := Dg.vl_lt 65536 (Dg.dg 65536 y) (Dg.small_dg _ _ (by omega))
  rw [Dg.vl_dg _ _ (by omega)] at h1 h2
  have h3 : 65536 ^ (Dg.dg 65536 x).length ≤ 65536 ^ L := Nat.pow_le_pow_right (by omega) hx
  have h4 : 65536 ^ (Dg.dg 65536 y).length ≤ 65536 ^ M := Nat.pow_le_pow_right (by omega) hy
  rw [Nat.pow_add]
  exact Nat.mul_lt_mul'' (by omega) (by omega)

set_option maxRecDepth 100000 in
theorem twoDy_any (s : Bool) (ao : Option Addr) (ca : Nat) (xs : List Nat) (e : Int) (t : Bool) (bo : Option Addr) (cb : Nat) (ys : List Nat) (f : Int) (w : World) (hr : Rd w .u32 (.slice ao xs.length ca) xs) (hq : Rd w .u32 (.slice bo ys.length cb) ys) :
    Calls Tryd.prog 20 #[.agg #[.bool s, .slice ao xs.length ca, .int .i64 e], .agg #[.bool t, .slice bo ys.length cb, .int .i64 f]] w fun z w' => z = .returned (.int .i64 (dchk2 xs e ys f)) ∧ Below w.heap.size w w' := by
  have bA := below_trans (below_alloc w (.cells #[.bool s, .slice ao xs.length ca, .int .i64 e] 25)) (below_alloc _ (.cells #[.bool t, .slice bo ys.length cb, .int .i64 f] 25))
  have l1 := (loc_new w (.bool s) (.slice ao xs.length ca) (.int .i64 e) 25).later (below_alloc _ (.cells #[.bool t, .slice bo ys.length cb, .int .i64 f] 25))
  have l2 := loc_new (w.alloc (.cells #[.bool s, .slice ao xs.length ca, .int .i64 e] 25)) (.bool t) (.slice bo ys.length cb) (.int .i64 f) 25
  rw [World.size_alloc] at l2
  have h1 := refcheckDy_any s ao ca xs e _ (hr.later bA)
  have H2 : Hid (∀ w1, Below w.heap.size w w1 → Calls Tryd.prog 15 #[.agg #[.bool t, .slice bo ys.length cb, .int .i64 f]] w1 fun z w' => z = .returned (.int .i64 (dchk ys f)) ∧ Below w1.heap.size w1 w') := fun w1 b1 => refcheckDy_any t bo cb ys f w1 (hq.later b1)
  unfold dchk2
  obtain ⟨c, hc⟩ : ∃ c, dchk xs e = c := ⟨_, rfl⟩
  obtain ⟨d, hd⟩ : ∃ d, dchk ys f = d := ⟨_, rfl⟩
  rw [hc] at h1 ⊢
  rw [hd] at H2 ⊢
  clear hc hd hr hq
  by_cases h : c = 0
  · subst h
    rw [if_pos rfl]
    go_enter Tryd.func20, Tryd.ntmps20
    go_wp2_with fail
    refine h1.mono ?_
    rintro z w1 ⟨rfl, b1⟩
    have l2 := l2.later b1
    have b01 := below_trans bA b1
    obtain ⟨-, ⟨c0, c1, c2⟩, -⟩ := id l2
    clear h1 bA b1
    go_wp2_with fail
    refine (H2.out w1 b01).mono ?_
    rintro z w2 ⟨rfl, b2⟩
    have b02 := below_trans b01 b2
    go_wp2
    go_ret
    exact ⟨rfl, b02⟩
  · rw [if_neg h]
    have h3 : (c == 0) = false := by simp [h]
    go_enter Tryd.func20, Tryd.ntmps20
    go_wp2_with fail
    refine h1.mono ?_
    rintro z w1 ⟨rfl, b1⟩
    have b01 := below_trans bA b1
    clear h1
    go_wp2
    go_ret
    exact ⟨rfl, b01⟩

set_option maxRecDepth 100000 in
set_option maxHeartbeats 1600000 in
theorem refdtimes_any (v u : Value) (a b : Trip) (w : World) (hv : Rv w v a) (hu : Rv w u b) (hLa : (Dg.dg 65536 a.n).length ≤ 30000) (hLb : (Dg.dg 65536 b.n).length ≤ 30000)
    (ha1 : -100000 ≤ a.e) (ha2 : a.e ≤ 100000) (hb1 : -100000 ≤ b.e) (hb2 : b.e ≤ 100000) :
    Calls Tryd.prog 25 #[v, u] w (RDRes w (bare (timesT a b))) := by
  obtain ⟨s0, rfl, ra⟩ := hv
  obtain ⟨ao, ca, rfl⟩ := ra.shape
  obtain ⟨s1, rfl, rb⟩ := hu
  obtain ⟨bo, cb, rfl⟩ := rb.shape
  obtain ⟨sa, an, ae⟩ := a
  obtain ⟨sb, bn, be⟩ := b
  simp only at ra rb hLa hLb ha1 ha2 hb1 hb2 ⊢
  have HTI : Hid (∀ w1, Below w.heap.size w w1 → Calls Tryd.prog 53 #[.slice ao (Dg.dg 65536 an).length ca, .slice bo (Dg.dg 65536 bn).length cb] w1 (RNum w1 (an * bn))) := fun w1 b1 => by
    have := reftimes_any _ _ _ _ w1 (ra.later b1) (rb.later b1) (Dg.small_dg _ _ (by omega)) (Dg.small_dg _ _ (by omega)) (by omega) (by omega)
    rwa [Dg.vl_dg _ _ (by omega), Dg.vl_dg _ _ (by omega)] at this
  have hml := mul_len16 an bn 30000 30000 hLa hLb
  unfold timesT
  simp only
  obtain ⟨X, hX⟩ : ∃ X, an * bn = X := ⟨_, rfl⟩
  obtain ⟨ma, hma⟩ : ∃ m, (Dg.dg 65536 an).length = m := ⟨_, rfl⟩
  obtain ⟨mb, hmb⟩ : ∃ m, (Dg.dg 65536 bn).length = m := ⟨_, rfl⟩
  rw [hX, hma, hmb] at HTI
  rw [hX] at hml
  rw [hX, hma, hmb]
  have HB : Hid (∀ v w1, Rv w1 v ⟨sa != sb, X, ae + be⟩ → Calls Tryd.prog 41 #[v] w1 (RDRes w1 (bare ⟨sa != sb, X, ae + be⟩))) := fun v w1 hv => bared_any v _ w1 hv (by simp only; omega) (by simp only; omega) (by simp only; omega)
  obtain ⟨⟨rs, rn, re⟩, hbt⟩ : ∃ bt, bare ⟨sa != sb, X, ae + be⟩ = bt := ⟨_, rfl⟩
  rw [hbt] at HB ⊢
  clear hX hma hmb ra rb hLa hLb hbt hml
  obtain ⟨la, lb, lc, b01, -⟩ := locals3 w (.bool sa) (.slice ao ma ca) (.int .i64 ae) (.bool sb) (.slice bo mb cb) (.int .i64 be) (.bool false) (.slice none 0 0) (.int .i64 0) 34 34 34
  have zc := locals3z w (.bool sa) (.slice ao ma ca) (.int .i64 ae) (.bool sb) (.slice bo mb cb) (.int .i64 be) 34 34 34
  obtain ⟨W, hW⟩ : ∃ W, (((w.alloc (.cells #[.bool sa, .slice ao ma ca, .int .i64 ae] 34)).alloc (.cells #[.bool sb, .slice bo mb cb, .int .i64 be] 34)).alloc (.cells #[.bool false, .slice none 0 0, .int .i64 0] 34)) = W := ⟨_, rfl⟩
  rw [hW] at la lb lc b01 zc
  have bd : Below W.heap.size W W.drew := (Below.refl _ _).drew
  have la := la.later bd
  have lb := lb.later bd
  have lc := lc.later bd
  have zc := zc.later bd
  have b02 := below_trans b01 bd
  rw [← hW] at la lb lc b02 zc
  clear bd b01 hW
  obtain ⟨-, ⟨ca0, ca1, ca2⟩, -⟩ := id la
  obtain ⟨-, ⟨cb0, cb1, cb2⟩, -⟩ := id lb
  have ne3 : w.heap.size + 1 + 1 ≠ w.heap.size := by omega
  have ne4 : w.heap.size ≠ w.heap.size + 1 + 1 := by omega
  have e4 : IntKind.i64.wrap (ae + be) = ae + be := IntWalk.i64_in _ ⟨by omega, by omega⟩
  go_enter Tryd.func25, Tryd.ntmps25
  go_wp2_with fail
  go_region_held3 (fun wq => (wq.cell? ⟨w.heap.size, 0, none⟩ = some (.bool sa) ∧ wq.cell? ⟨w.heap.size, 1, none⟩ = some (.slice ao ma ca) ∧ wq.cell? ⟨w.heap.size, 2, none⟩ = some (.int .i64 ae)) ∧ wq.cell? ⟨w.heap.size + 1, 0, none⟩ = some (.bool sb) ∧ wq.cell? ⟨w.heap.size + 1, 1, none⟩ = some (.slice bo mb cb) ∧ wq.cell? ⟨w.heap.size + 1, 2, none⟩ = some (.int .i64 be)) (go_keep) (first
    | (go_at_call 53; refine (HTI.out _ b02).mono ?_; rintro z w5 ⟨vs, rfl, r5, b5⟩; have la5 := la.later b5; have lb5 := lb.later b5; have lc5 := lc.later b5; have zc5 := zc.later b5; have b05 := below_trans b02 b5; obtain ⟨-, ⟨t0, t1, t2⟩, -⟩ := id la5; obtain ⟨-, ⟨t3, t4, t5⟩, -⟩ := id lb5; obtain ⟨so, sc, hvs⟩ := r5.shape; subst hvs)
    | (go_at_call 41; refine (HB.out _ w5 ⟨_, rfl, r5⟩).mono ?_; rintro z w6 ⟨vt, rfl, r6, b6⟩; have la6 := la5.later b6; have lb6 := lb5.later b6; have lc6 := lc5.later b6; have zc6 := zc5.later b6; have b06 := below_trans b05 b6; obtain ⟨-, ⟨u0, u1, u2⟩, -⟩ := id la6; obtain ⟨-, ⟨u3, u4, u5⟩, -⟩ := id lb6; obtain ⟨to, tc, hvt⟩ := r6.shape; subst hvt; obtain ⟨hl6, ⟨d0, d1, d2⟩, f0, f1, f2⟩ := id lc6))
  all_goals go_wp2
  obtain ⟨-, ⟨g0, g1, g2⟩, -⟩ := loc_set lc6 (.bool rs) (.slice to (Dg.dg 65536 rn).length tc) (.int .i64 re)
  have r7 := zc6.rd r6 (Dg.norm_dg _ _ (by omega)) (.bool rs) (.slice to (Dg.dg 65536 rn).length tc) (.int .i64 re)
  have b8 := below_set3 b06 (show w.heap.size ≤ w.heap.size + 1 + 1 by omega) (.bool rs) (.slice to (Dg.dg 65536 rn).length tc) (.int .i64 re)
  refine bodyPost_ret (v := .agg #[.bool rs, .slice to (Dg.dg 65536 rn).length tc, .int .i64 re]) (by simp [results, Tryd.results25, go_sem, g0, g1, g2]) rfl ?_
  exact ⟨_, rfl, r7, b8⟩
end Go.Proofs.YtmdjmjnnenddfaaDoor

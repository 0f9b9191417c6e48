/-
  Contracts of dyad.both, dyad.Add.
-/
import Derived.Test.YtmdjmjnnenddfaaDoorDy5
namespace Go.Proofs.YtmdjmjnnenddfaaDoor
open Go.RowKit

theorem tz_fits (n L : Nat) (h : (Dg.dg 4294967296 n).length ≤ L) : tz n ≤ 32 * L := by
  by_cases h0 : n = 0
  · subst h0; exact Nat.zero_le _
  · obtain ⟨m, hm⟩ := tz_spec h0
    have h1 := Dg.vl_lt 4294967296 (Dg.dg 4294967296 n) (Dg.small_dg _ _ (by omega))
    rw [Dg.vl_dg _ _ (by omega)] at h1
    have h2 : 4294967296 ^ (Dg.dg 4294967296 n).length ≤ 4294967296 ^ L := Nat.pow_le_pow_right (by omega) h
    have h3 : (4294967296 : Nat) ^ L = 2 ^ (32 * L) := by rw [Nat.pow_mul]
    have h4 : 2 ^ tz n * 1 ≤ 2 ^ tz n * (2 * m + 1) := Nat.mul_le_mul_left _ (by omega)
    rw [← hm, Nat.mul_one] at h4
    have h5 : 2 ^ tz n < 2 ^ (32 * L) := by rw [← h3]; omega
    exact Nat.le_of_lt ((Nat.pow_lt_pow_iff_right (by omega)).1 h5)

/-- What a call answers that is handed two dyads. -/
def dbothR (c : Int) (t : Trip) : Trip × Int := if c = 0 then shortT t else (⟨false, 0, 0⟩, c)

theorem dchk_zero {xs : List Nat} {e : Int} (h : dchk xs e = 0) : chk xs = 0 ∧ -20000 ≤ e ∧ e ≤ 20000 := by
  unfold dchk at h
  by_cases h1 : chk xs = 0
  · rw [if_pos h1] at h
    by_cases h2 : e < -20000 ∨ 20000 < e
    · rw [if_pos h2] at h; omega
    · exact ⟨h1, by omega, by omega⟩
  · rw [if_neg h1] at h; exact absurd h h1

theorem dchk2_zero {xs ys : List Nat} {e f : Int} (h : dchk2 xs e ys f = 0) : dchk xs e = 0 ∧ dchk ys f = 0 := by
  unfold dchk2 at h
  by_cases h1 : dchk xs e = 0
  · rw [if_pos h1] at h; exact ⟨h1, h⟩
  · rw [if_neg h1] at h; exact absurd h h1

theorem locals3 (w : World) (a0 a1 a2 b0 b1 b2 c0 c1 c2 : Value) (ta tb tc : TypeId) :
    Loc (((w.alloc (.cells #[a0, a1, a2] ta)).alloc (.cells #[b0, b1, b2] tb)).alloc (.cells #[c0, c1, c2] tc)) w.heap.size a0 a1 a2 ∧
    Loc (((w.alloc (.cells #[a0, a1, a2] ta)).alloc (.cells #[b0, b1, b2] tb)).alloc (.cells #[c0, c1, c2] tc)) (w.heap.size + 1) b0 b1 b2 ∧
    Loc (((w.alloc (.cells #[a0, a1, a2] ta)).alloc (.cells #[b0, b1, b2] tb)).alloc (.cells #[c0, c1, c2] tc)) (w.heap.size + 1 + 1) c0 c1 c2 ∧
    Below w.heap.size w (((w.alloc (.cells #[a0, a1, a2] ta)).alloc (.cells #[b0, b1, b2] tb)).alloc (.cells #[c0, c1, c2] tc)) ∧
    (((w.alloc (.cells #[a0, a1, a2] ta)).alloc (.cells #[b0, b1, b2] tb)).alloc (.cells #[c0, c1, c2] tc)).heap.size = w.heap.size + 1 + 1 + 1 := by
  have la := loc_new w a0 a1 a2 ta
  have lb := loc_new (w.alloc (.cells #[a0, a1, a2] ta)) b0 b1 b2 tb
  have lc := loc_new ((w.alloc (.cells #[a0, a1, a2] ta)).alloc (.cells #[b0, b1, b2] tb)) c0 c1 c2 tc
  have bB := below_alloc (w.alloc (.cells #[a0, a1, a2] ta)) (.cells #[b0, b1, b2] tb)
  have bC := below_alloc ((w.alloc (.cells #[a0, a1, a2] ta)).alloc (.cells #[b0, b1, b2] tb)) (.cells #[c0, c1, c2] tc)
  refine ⟨(la.later bB).later bC, ?_, ?_, below_trans (below_trans (below_alloc w _) bB) bC, by simp [World.size_alloc]⟩
  · have := lb.later bC
    rwa [World.size_alloc] at this
  · rwa [World.size_alloc, World.size_alloc] at lc

set_option maxRecDepth 100000 in
set_option maxHeartbeats 1600000 in
theorem dboth_plus (s : Bool) (ao : Option Addr) (ca : Nat) (xs : List Nat) (e : Int) (t : Bool) (bo : Option Addr) (cb : Nat) (ys : List Nat) (f : Int) (w : World) (T : Trip)
    (hr : Rd w .u32 (.slice ao xs.length ca) xs) (hq : Rd w .u32 (.slice bo ys.length cb) ys) (hT : Tab w)
    (hK : dchk2 xs e ys f = 0 → (Dg.dg 4294967296 T.n).length ≤ 30000 ∧ -1000000 ≤ T.e ∧ T.e ≤ 1000000 ∧ ∀ w1 : World, Below w.heap.size w w1 → Calls Tryd.prog 47 #[.agg #[.bool s, .slice ao xs.length ca, .int .i64 e], .agg #[.bool t, .slice bo ys.length cb, .int .i64 f]] w1 (DRes w1 T)) :
    Calls Tryd.prog 46 #[.agg #[.bool s, .slice ao xs.length ca, .int .i64 e], .agg #[.bool t, .slice bo ys.length cb, .int .i64 f], .func (.func 47) #[] #[]] w (DAns w (dbothR (dchk2 xs e ys f) T)) := by
  obtain ⟨la, lb, lc, bW, sW⟩ := locals3 w (.bool s) (.slice ao xs.length ca) (.int .i64 e) (.bool t) (.slice bo ys.length cb) (.int .i64 f) (.bool false) (.slice none 0 0) (.int .i64 0) 25 25 25
  obtain ⟨W, hW⟩ : ∃ W, (((w.alloc (.cells #[.bool s, .slice ao xs.length ca, .int .i64 e] 25)).alloc (.cells #[.bool t, .slice bo ys.length cb, .int .i64 f] 25)).alloc (.cells #[.bool false, .slice none 0 0, .int .i64 0] 25)) = W := ⟨_, rfl⟩
  rw [hW] at la lb lc bW sW
  have bX := below_alloc W (.cells #[.bool s, .slice ao xs.length ca, .int .i64 e, .bool t, .slice bo ys.length cb, .int .i64 f] 25)
  have b01 := below_trans bW bX
  have la := la.later bX
  have lb := lb.later bX
  have lc := lc.later bX
  have hw := dwrong2_any W.heap.size s ao ca xs e t bo cb ys f (W.alloc (.cells #[.bool s, .slice ao xs.length ca, .int .i64 e, .bool t, .slice bo ys.length cb, .int .i64 f] 25))
    (by rw [World.cell?_alloc_at _ _ _ _ rfl]; rfl) (by rw [World.cell?_alloc_at _ _ _ _ rfl]; rfl) (by rw [World.cell?_alloc_at _ _ _ _ rfl]; rfl) (by rw [World.cell?_alloc_at _ _ _ _ rfl]; rfl) (by rw [World.cell?_alloc_at _ _ _ _ rfl]; rfl) (by rw [World.cell?_alloc_at _ _ _ _ rfl]; rfl)
    (hr.later b01) (hq.later b01)
  rw [sW] at hw
  rw [← hW] at hw la lb lc b01
  clear bX bW sW hW
  unfold dbothR
  obtain ⟨c, hc⟩ : ∃ c, dchk2 xs e ys f = c := ⟨_, rfl⟩
  rw [hc] at hw hK ⊢
  clear hc
  have ne3 : w.heap.size + 1 + 1 ≠ w.heap.size := by omega
  have ne4 : w.heap.size ≠ w.heap.size + 1 + 1 := by omega
  by_cases h : c = 0
  · subst h
    rw [if_pos rfl]
    obtain ⟨hL, he1, he2, hk⟩ := hK rfl
    have HK : Hid (∀ w1 : World, Below w.heap.size w w1 → Calls Tryd.prog 47 #[.agg #[.bool s, .slice ao xs.length ca, .int .i64 e], .agg #[.bool t, .slice bo ys.length cb, .int .i64 f]] w1 (DRes w1 T)) := hk
    have HS : Hid (∀ v w1, Below w.heap.size w w1 → Dv w1 v T → Calls Tryd.prog 40 #[v] w1 (DAns w1 (shortT T))) := fun v w1 b1 hv =>
      dshort_any v T w1 hv (by omega) ⟨he1, he2⟩ (hT.later b1) (by have := tz_fits T.n 30000 hL; omega)
    clear hK hk hr hq hT hL
    obtain ⟨r, hrr⟩ : ∃ r, shortT T = r := ⟨_, rfl⟩
    rw [hrr] at HS ⊢
    obtain ⟨⟨rs, rn, re⟩, rc⟩ := r
    clear hrr
    go_enter Tryd.func46, Tryd.ntmps46
    go_wp2_with fail
    refine hw.mono ?_
    rintro z w1 ⟨rfl, b1⟩
    have la := la.later b1
    have lb := lb.later b1
    have lc := lc.later b1
    have b01 := below_trans b01 b1
    have bd : Below w1.heap.size w1 w1.drew := (Below.refl _ _).drew
    have la := la.later bd
    have lb := lb.later bd
    have lc := lc.later bd
    have b02 := below_trans b01 bd
    obtain ⟨-, ⟨ca0, ca1, ca2⟩, -⟩ := id la
    obtain ⟨-, ⟨cb0, cb1, cb2⟩, -⟩ := id lb
    clear hw b1 bd b01
    go_wp2_with fail
    go_region_held3 (fun wq => (wq.cell? ⟨w.heap.size, 0, none⟩ = some (.bool s) ∧ wq.cell? ⟨w.heap.size, 1, none⟩ = some (.slice ao xs.length ca) ∧ wq.cell? ⟨w.heap.size, 2, none⟩ = some (.int .i64 e)) ∧ wq.cell? ⟨w.heap.size + 1, 0, none⟩ = some (.bool t) ∧ wq.cell? ⟨w.heap.size + 1, 1, none⟩ = some (.slice bo ys.length cb) ∧ wq.cell? ⟨w.heap.size + 1, 2, none⟩ = some (.int .i64 f)) (go_keep) (first
      | (go_at_call 39; refine (of_dy s ao xs.length ca e w1.drew).mono ?_; rintro z w3 ⟨rfl, b3⟩; have la3 := la.later b3; have lb3 := lb.later b3; have lc3 := lc.later b3; have b03 := below_trans b02 b3; obtain ⟨-, ⟨p0, p1, p2⟩, -⟩ := id la3; obtain ⟨-, ⟨p3, p4, p5⟩, -⟩ := id lb3; clear b02)
      | (go_at_call 39; refine (of_dy t bo ys.length cb f w3).mono ?_; rintro z w4 ⟨rfl, b4⟩; have la4 := la3.later b4; have lb4 := lb3.later b4; have lc4 := lc3.later b4; have b04 := below_trans b03 b4; obtain ⟨-, ⟨q0, q1, q2⟩, -⟩ := id la4; obtain ⟨-, ⟨q3, q4, q5⟩, -⟩ := id lb4)
      | (go_at_call 47; refine (HK.out w4 b04).mono ?_; rintro z w5 ⟨vs, rfl, o5, b5⟩; have la5 := la4.later b5; have lb5 := lb4.later b5; have lc5 := lc4.later b5; have b05 := below_trans b04 b5; obtain ⟨-, ⟨t0, t1, t2⟩, -⟩ := id la5; obtain ⟨-, ⟨t3, t4, t5⟩, -⟩ := id lb5)
      | (go_at_call 40; refine (HS.out _ w5 b05 ⟨vs, rfl, o5.rd⟩).mono ?_; rintro z w6 ⟨vr, rfl, o6, b6⟩; have la6 := la5.later b6; have lb6 := lb5.later b6; have lc6 := lc5.later b6; have b06 := below_trans b05 b6; obtain ⟨-, ⟨u0, u1, u2⟩, -⟩ := id la6; obtain ⟨-, ⟨u3, u4, u5⟩, -⟩ := id lb6; obtain ⟨so, sc, hvr⟩ := o6.rd.shape; subst hvr; obtain ⟨hl6, ⟨d0, d1, d2⟩, f0, f1, f2⟩ := id lc6))
    all_goals go_wp2
    obtain ⟨-, ⟨g0, g1, g2⟩, -⟩ := loc_set lc6 (.bool rs) (.slice so (Dg.dg 4294967296 rn).length sc) (.int .i64 re)
    have o7 := o6.apart3 (b := w.heap.size + 1 + 1) lc5.1 (.bool rs) (.slice so (Dg.dg 4294967296 rn).length sc) (.int .i64 re)
    have b8 := below_set3 b06 (show w.heap.size ≤ w.heap.size + 1 + 1 by omega) (.bool rs) (.slice so (Dg.dg 4294967296 rn).length sc) (.int .i64 re)
    refine bodyPost_ret (v := .tuple #[.agg #[.bool rs, .slice so (Dg.dg 4294967296 rn).length sc, .int .i64 re], .int .i64 rc]) (by simp [results, Tryd.results46, go_sem, g0, g1, g2]) rfl ?_
    exact ⟨_, rfl, o7.lower b05.size, b8⟩
  · rw [if_neg h]
    clear hK hr hq hT
    go_enter Tryd.func46, Tryd.ntmps46
    go_wp2_with fail
    refine hw.mono ?_
    rintro z w1 ⟨rfl, b1⟩
    have lc := lc.later b1
    have b01 := below_trans b01 b1
    obtain ⟨hl6, ⟨d0, d1, d2⟩, f0, f1, f2⟩ := id lc
    clear hw b1
    go_wp2
    obtain ⟨-, ⟨g0, g1, g2⟩, -⟩ := loc_set lc (.bool false) (.slice none 0 0) (.int .i64 0)
    have b8 := below_set3 b01 (show w.heap.size ≤ w.heap.size + 1 + 1 by omega) (.bool false) (.slice none 0 0) (.int .i64 0)
    refine bodyPost_ret (v := .tuple #[.agg #[.bool false, .slice none 0 0, .int .i64 0], .int .i64 c]) (by simp [results, Tryd.results46, go_sem, g0, g1, g2]) rfl ?_
    exact ⟨_, rfl, own_nil _ _ _ _, b8⟩
set_option maxRecDepth 100000 in
set_option maxHeartbeats 1600000 in
theorem dboth_times (s : Bool) (ao : Option Addr) (ca : Nat) (xs : List Nat) (e : Int) (t : Bool) (bo : Option Addr) (cb : Nat) (ys : List Nat) (f : Int) (w : World) (T : Trip)
    (hr : Rd w .u32 (.slice ao xs.length ca) xs) (hq : Rd w .u32 (.slice bo ys.length cb) ys) (hT : Tab w)
    (hK : dchk2 xs e ys f = 0 → (Dg.dg 4294967296 T.n).length ≤ 30000 ∧ -1000000 ≤ T.e ∧ T.e ≤ 1000000 ∧ ∀ w1 : World, Below w.heap.size w w1 → Calls Tryd.prog 52 #[.agg #[.bool s, .slice ao xs.length ca, .int .i64 e], .agg #[.bool t, .slice bo ys.length cb, .int .i64 f]] w1 (DRes w1 T)) :
    Calls Tryd.prog 46 #[.agg #[.bool s, .slice ao xs.length ca, .int .i64 e], .agg #[.bool t, .slice bo ys.length cb, .int .i64 f], .func (.func 52) #[] #[]] w (DAns w (dbothR (dchk2 xs e ys f) T)) := by
  obtain ⟨la, lb, lc, bW, sW⟩ := locals3 w (.bool s) (.slice ao xs.length ca) (.int .i64 e) (.bool t) (.slice bo ys.length cb) (.int .i64 f) (.bool false) (.slice none 0 0) (.int .i64 0) 25 25 25
  obtain ⟨W, hW⟩ : ∃ W, (((w.alloc (.cells #[.bool s, .slice ao xs.length ca, .int .i64 e] 25)).alloc (.cells #[.bool t, .slice bo ys.length cb, .int .i64 f] 25)).alloc (.cells #[.bool false, .slice none 0 0, .int .i64 0] 25)) = W := ⟨_, rfl⟩
  rw [hW] at la lb lc bW sW
  have bX := below_alloc W (.cells #[.bool s, .slice ao xs.length ca, .int .i64 e, .bool t, .slice bo ys.length cb, .int .i64 f] 25)
  have b01 := below_trans bW bX
  have la := la.later bX
  have lb := lb.later bX
  have lc := lc.later bX
  have hw := dwrong2_any W.heap.size s ao ca xs e t bo cb ys f (W.alloc (.cells #[.bool s, .slice ao xs.length ca, .int .i64 e, .bool t, .slice bo ys.length cb, .int .i64 f] 25))
    (by rw [World.cell?_alloc_at _ _ _ _ rfl]; rfl) (by rw [World.cell?_alloc_at _ _ _ _ rfl]; rfl) (by rw [World.cell?_alloc_at _ _ _ _ rfl]; rfl) (by rw [World.cell?_alloc_at _ _ _ _ rfl]; rfl) (by rw [World.cell?_alloc_at _ _ _ _ rfl]; rfl) (by rw [World.cell?_alloc_at _ _ _ _ rfl]; rfl)
    (hr.later b01) (hq.later b01)
  rw [sW] at hw
  rw [← hW] at hw la lb lc b01
  clear bX bW sW hW
  unfold dbothR
  obtain ⟨c, hc⟩ : ∃ c, dchk2 xs e ys f = c := ⟨_, rfl⟩
  rw [hc] at hw hK ⊢
  clear hc
  have ne3 : w.heap.size + 1 + 1 ≠ w.heap.size := by omega
  have ne4 : w.heap.size ≠ w.heap.size + 1 + 1 := by omega
  by_cases h : c = 0
  · subst h
    rw [if_pos rfl]
    obtain ⟨hL, he1, he2, hk⟩ := hK rfl
    have HK : Hid (∀ w1 : World, Below w.heap.size w w1 → Calls Tryd.prog 52 #[.agg #[.bool s, .slice ao xs.length ca, .int .i64 e], .agg #[.bool t, .slice bo ys.length cb, .int .i64 f]] w1 (DRes w1 T)) := hk
    have HS : Hid (∀ v w1, Below w.heap.size w w1 → Dv w1 v T → Calls Tryd.prog 40 #[v] w1 (DAns w1 (shortT T))) := fun v w1 b1 hv =>
      dshort_any v T w1 hv (by omega) ⟨he1, he2⟩ (hT.later b1) (by have := tz_fits T.n 30000 hL; omega)
    clear hK hk hr hq hT hL
    obtain ⟨r, hrr⟩ : ∃ r, shortT T = r := ⟨_, rfl⟩
    rw [hrr] at HS ⊢
    obtain ⟨⟨rs, rn, re⟩, rc⟩ := r
    clear hrr
    go_enter Tryd.func46, Tryd.ntmps46
    go_wp2_with fail
    refine hw.mono ?_
    rintro z w1 ⟨rfl, b1⟩
    have la := la.later b1
    have lb := lb.later b1
    have lc := lc.later b1
    have b01 := below_trans b01 b1
    have bd : Below w1.heap.size w1 w1.drew := (Below.refl _ _).drew
    have la := la.later bd
    have lb := lb.later bd
    have lc := lc.later bd
    have b02 := below_trans b01 bd
    obtain ⟨-, ⟨ca0, ca1, ca2⟩, -⟩ := id la
    obtain ⟨-, ⟨cb0, cb1, cb2⟩, -⟩ := id lb
    clear hw b1 bd b01
    go_wp2_with fail
    go_region_held3 (fun wq => (wq.cell? ⟨w.heap.size, 0, none⟩ = some (.bool s) ∧ wq.cell? ⟨w.heap.size, 1, none⟩ = some (.slice ao xs.length ca) ∧ wq.cell? ⟨w.heap.size, 2, none⟩ = some (.int .i64 e)) ∧ wq.cell? ⟨w.heap.size + 1, 0, none⟩ = some (.bool t) ∧ wq.cell? ⟨w.heap.size + 1, 1, none⟩ = some (.slice bo ys.length cb) ∧ wq.cell? ⟨w.heap.size + 1, 2, none⟩ = some (.int .i64 f)) (go_keep) (first
      | (go_at_call 39; refine (of_dy s ao xs.length ca e w1.drew).mono ?_; rintro z w3 ⟨rfl, b3⟩; have la3 := la.later b3; have lb3 := lb.later b3; have lc3 := lc.later b3; have b03 := below_trans b02 b3; obtain ⟨-, ⟨p0, p1, p2⟩, -⟩ := id la3; obtain ⟨-, ⟨p3, p4, p5⟩, -⟩ := id lb3; clear b02)
      | (go_at_call 39; refine (of_dy t bo ys.length cb f w3).mono ?_; rintro z w4 ⟨rfl, b4⟩; have la4 := la3.later b4; have lb4 := lb3.later b4; have lc4 := lc3.later b4; have b04 := below_trans b03 b4; obtain ⟨-, ⟨q0, q1, q2⟩, -⟩ := id la4; obtain ⟨-, ⟨q3, q4, q5⟩, -⟩ := id lb4)
      | (go_at_call 52; refine (HK.out w4 b04).mono ?_; rintro z w5 ⟨vs, rfl, o5, b5⟩; have la5 := la4.later b5; have lb5 := lb4.later b5; have lc5 := lc4.later b5; have b05 := below_trans b04 b5; obtain ⟨-, ⟨t0, t1, t2⟩, -⟩ := id la5; obtain ⟨-, ⟨t3, t4, t5⟩, -⟩ := id lb5)
      | (go_at_call 40; refine (HS.out _ w5 b05 ⟨vs, rfl, o5.rd⟩).mono ?_; rintro z w6 ⟨vr, rfl, o6, b6⟩; have la6 := la5.later b6; have lb6 := lb5.later b6; have lc6 := lc5.later b6; have b06 := below_trans b05 b6; obtain ⟨-, ⟨u0, u1, u2⟩, -⟩ := id la6; obtain ⟨-, ⟨u3, u4, u5⟩, -⟩ := id lb6; obtain ⟨so, sc, hvr⟩ := o6.rd.shape; subst hvr; obtain ⟨hl6, ⟨d0, d1, d2⟩, f0, f1, f2⟩ := id lc6))
    all_goals go_wp2
    obtain ⟨-, ⟨g0, g1, g2⟩, -⟩ := loc_set lc6 (.bool rs) (.slice so (Dg.dg 4294967296 rn).length sc) (.int .i64 re)
    have o7 := o6.apart3 (b := w.heap.size + 1 + 1) lc5.1 (.bool rs) (.slice so (Dg.dg 4294967296 rn).length sc) (.int .i64 re)
    have b8 := below_set3 b06 (show w.heap.size ≤ w.heap.size + 1 + 1 by omega) (.bool rs) (.slice so (Dg.dg 4294967296 rn).length sc) (.int .i64 re)
    refine bodyPost_ret (v := .tuple #[.agg #[.bool rs, .slice so (Dg.dg 4294967296 rn).length sc, .int .i64 re], .int .i64 rc]) (by simp [results, Tryd.results46, go_sem, g0, g1, g2]) rfl ?_
    exact ⟨_, rfl, o7.lower b05.size, b8⟩
  · rw [if_neg h]
    clear hK hr hq hT
    go_enter Tryd.func46, Tryd.ntmps46
    go_wp2_with fail
    refine hw.mono ?_
    rintro z w1 ⟨rfl, b1⟩
    have lc := lc.later b1
    have b01 := below_trans b01 b1
    obtain ⟨hl6, ⟨d0, d1, d2⟩, f0, f1, f2⟩ := id lc
    clear hw b1
    go_wp2
    obtain ⟨-, ⟨g0, g1, g2⟩, -⟩ := loc_set lc (.bool false) (.slice none 0 0) (.int .i64 0)
    have b8 := below_set3 b01 (show w.heap.size ≤ w.heap.size + 1 + 1 by omega) (.bool false) (.slice none 0 0) (.int .i64 0)
    refine bodyPost_ret (v := .tuple #[.agg #[.bool false, .slice none 0 0, .int .i64 0], .int .i64 c]) (by simp [results, Tryd.results46, go_sem, g0, g1, g2]) rfl ?_
    exact ⟨_, rfl, own_nil _ _ _ _, b8⟩
end Go.Proofs.YtmdjmjnnenddfaaDoor

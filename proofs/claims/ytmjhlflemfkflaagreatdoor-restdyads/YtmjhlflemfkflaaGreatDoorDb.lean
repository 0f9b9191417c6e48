/-
  Texts laid together: Dy5, Dy6, Dy7, Dy8.
-/
import Derived.Test.YtmjhlflemfkflaaGreatDoorDa
/-
  Contracts of dyad.Check, dyad.wrong.
-/
namespace Go.Proofs.YtmjhlflemfkflaaGreatDoor
open Go.RowKit

/-- What is wrong with a dyad. -/
def dchk (xs : List Nat) (e : Int) : Int := if chk xs = 0 then (if e < -20000 ∨ 20000 < e then 3 else 0) else chk xs

set_option maxRecDepth 100000 in
theorem dcheck_any (s : Bool) (ao : Option Addr) (ca : Nat) (xs : List Nat) (e : Int) (w : World) (hr : Rd w .u32 (.slice ao xs.length ca) xs) :
    Calls Tryz.prog 79 #[.agg #[.bool s, .slice ao xs.length ca, .int .i64 e]] w fun z w' => z = .returned (.int .i64 (dchk xs e)) ∧ Below w.heap.size w w' := by
  have bA := below_alloc w (.cells #[.bool s, .slice ao xs.length ca, .int .i64 e] 25)
  have hk := check_any _ xs _ (hr.later bA)
  unfold dchk
  obtain ⟨c, hc⟩ : ∃ c, chk xs = c := ⟨_, rfl⟩
  rw [hc] at hk ⊢
  clear hc hr
  by_cases h : c = 0
  · subst h
    rw [if_pos rfl]
    by_cases h1 : e < -20000
    · rw [if_pos (Or.inl h1)]
      go_enter Tryz.func79, Tryz.ntmps79
      go_wp2_with fail
      refine hk.mono ?_
      rintro z w' ⟨rfl, rfl⟩
      clear hk
      go_wp2
      go_ret
      exact ⟨rfl, bA⟩
    · by_cases h2 : 20000 < e
      · rw [if_pos (Or.inr h2)]
        go_enter Tryz.func79, Tryz.ntmps79
        go_wp2_with fail
        refine hk.mono ?_
        rintro z w' ⟨rfl, rfl⟩
        clear hk
        go_wp2
        go_ret
        exact ⟨rfl, bA⟩
      · rw [if_neg (by omega)]
        go_enter Tryz.func79, Tryz.ntmps79
        go_wp2_with fail
        refine hk.mono ?_
        rintro z w' ⟨rfl, rfl⟩
        clear hk
        go_wp2
        go_ret
        exact ⟨rfl, bA⟩
  · rw [if_neg h]
    go_enter Tryz.func79, Tryz.ntmps79
    go_wp2_with fail
    refine hk.mono ?_
    rintro z w' ⟨rfl, rfl⟩
    clear hk
    go_wp2
    go_ret
    exact ⟨rfl, bA⟩

def dchk2 (xs : List Nat) (e : Int) (ys : List Nat) (f : Int) : Int := if dchk xs e = 0 then dchk ys f else dchk xs e

set_option maxRecDepth 100000 in
theorem dwrong1_any (b : Nat) (s : Bool) (ao : Option Addr) (ca : Nat) (xs : List Nat) (e : Int) (w : World) (h0 : w.cell? ⟨b, 0, none⟩ = some (.bool s)) (h1 : w.cell? ⟨b, 1, none⟩ = some (.slice ao xs.length ca)) (h2 : w.cell? ⟨b, 2, none⟩ = some (.int .i64 e)) (hr : Rd w .u32 (.slice ao xs.length ca) xs) :
    Calls Tryz.prog 43 #[.slice (some ⟨b, 0, none⟩) 1 1] w fun z w' => z = .returned (.int .i64 (dchk xs e)) ∧ Below w.heap.size w w' := by
  obtain ⟨c, hc⟩ : ∃ c, dchk xs e = c := ⟨_, rfl⟩
  have bA := below_alloc w (.cells #[.bool s, .slice ao xs.length ca, .int .i64 e] 25)
  have hk := dcheck_any s ao ca xs e _ (hr.later bA)
  rw [hc] at hk ⊢
  clear hc
  by_cases h : c = 0
  · subst h
    go_enter Tryz.func43, Tryz.ntmps43
    go_wp2
    refine wp_loop_rounds 2 ?_
    rw [rounds_succ]
    go_wp2_with fail
    refine hk.mono ?_
    rintro z w' ⟨rfl, b1⟩
    have b01 := below_trans bA b1
    go_wp2
    rw [rounds_succ]
    go_wp2
    go_ret
    exact ⟨rfl, b01⟩
  · go_enter Tryz.func43, Tryz.ntmps43
    go_wp2
    refine wp_loop_rounds 2 ?_
    rw [rounds_succ]
    go_wp2_with fail
    refine hk.mono ?_
    rintro z w' ⟨rfl, b1⟩
    have b01 := below_trans bA b1
    go_wp2
    go_ret
    exact ⟨rfl, b01⟩

set_option maxRecDepth 100000 in
theorem dwrong2_any (b : Nat) (s : Bool) (ao : Option Addr) (ca : Nat) (xs : List Nat) (e : Int) (t : Bool) (bo : Option Addr) (cb : Nat) (ys : List Nat) (f : Int) (w : World) (h0 : w.cell? ⟨b, 0, none⟩ = some (.bool s)) (h1 : w.cell? ⟨b, 1, none⟩ = some (.slice ao xs.length ca)) (h2 : w.cell? ⟨b, 2, none⟩ = some (.int .i64 e))
    (h3 : w.cell? ⟨b, 3, none⟩ = some (.bool t)) (h4 : w.cell? ⟨b, 4, none⟩ = some (.slice bo ys.length cb)) (h5 : w.cell? ⟨b, 5, none⟩ = some (.int .i64 f)) (hr : Rd w .u32 (.slice ao xs.length ca) xs) (hq : Rd w .u32 (.slice bo ys.length cb) ys) :
    Calls Tryz.prog 43 #[.slice (some ⟨b, 0, none⟩) 2 2] w fun z w' => z = .returned (.int .i64 (dchk2 xs e ys f)) ∧ Below w.heap.size w w' := by
  unfold dchk2
  obtain ⟨c, hc⟩ : ∃ c, dchk xs e = c := ⟨_, rfl⟩
  obtain ⟨d, hd⟩ : ∃ d, dchk ys f = d := ⟨_, rfl⟩
  have bA := below_alloc w (.cells #[.bool s, .slice ao xs.length ca, .int .i64 e] 25)
  have hk := dcheck_any s ao ca xs e _ (hr.later bA)
  have HQ : Hid (∀ w1, Below w.heap.size w w1 → Calls Tryz.prog 79 #[.agg #[.bool t, .slice bo ys.length cb, .int .i64 f]] w1 fun z w' => z = .returned (.int .i64 d) ∧ Below w1.heap.size w1 w') := fun w1 b1 => by
    have := dcheck_any t bo cb ys f w1 (hq.later b1)
    rwa [hd] at this
  rw [hc] at hk ⊢
  rw [hd]
  clear hc hd hr hq
  by_cases h : c = 0
  · subst h
    rw [if_pos rfl]
    go_enter Tryz.func43, Tryz.ntmps43
    go_wp2
    refine wp_loop_rounds 3 ?_
    rw [rounds_succ]
    go_wp2_with fail
    refine hk.mono ?_
    rintro z w1 ⟨rfl, b1⟩
    have b01 := below_trans bA b1
    have k3 := cell_later b01 h3
    have k4 := cell_later b01 h4
    have k5 := cell_later b01 h5
    have b2 := below_trans b01 (below_alloc w1 (.cells #[.bool t, .slice bo ys.length cb, .int .i64 f] 25))
    clear hk bA b1
    go_wp2
    rw [rounds_succ]
    go_wp2_with fail
    refine (HQ.out _ b2).mono ?_
    rintro z w2 ⟨rfl, b3⟩
    have b03 := below_trans b2 b3
    by_cases h2 : d = 0
    · subst h2
      go_wp2
      rw [rounds_succ]
      go_wp2
      go_ret
      exact ⟨rfl, b03⟩
    · go_wp2
      go_ret
      exact ⟨rfl, b03⟩
  · rw [if_neg h]
    go_enter Tryz.func43, Tryz.ntmps43
    go_wp2
    refine wp_loop_rounds 3 ?_
    rw [rounds_succ]
    go_wp2_with fail
    refine hk.mono ?_
    rintro z w' ⟨rfl, b1⟩
    have b01 := below_trans bA b1
    go_wp2
    go_ret
    exact ⟨rfl, b01⟩
end Go.Proofs.YtmjhlflemfkflaaGreatDoor
/-
  Contracts of dyad.both, dyad.Add.
-/
namespace Go.Proofs.YtmjhlflemfkflaaGreatDoor
open Go.RowKit

theorem tz_fits (n L : Nat) (h : (Dg.dg 4294967296 n).length ≤ L) : tz n ≤ 32 * L := by
  by_cases h0 : n = 0
  · subst h0; exact Nat.zero_le _
  · obtain ⟨m, hm⟩ := tz_spec h0
    have h1 := Dg.vl_lt 4294967296 (Dg.dg 4294967296 n) (Dg.small_dg _ _ (by omega))
    rw [Dg.vl_dg _ _ (by omega)] at h1
    have h2 : 4294967296 ^ (Dg.dg 4294967296 n).length ≤ 4294967296 ^ L := Nat.pow_le_pow_right (by omega) h
    have h3 : (4294967296 : Nat) ^ L = 2 ^ (32 * L) := by rw [Nat.pow_mul]
    have h4 : 2 ^ tz n * 1 ≤ 2 ^ tz n * (2 * m + 1) := Nat.mul_le_mul_left _ (by omega)
    rw [← hm, Nat.mul_one] at h4
    have h5 : 2 ^ tz n < 2 ^ (32 * L) := by rw [← h3]; omega
    exact Nat.le_of_lt ((Nat.pow_lt_pow_iff_right (by omega)).1 h5)

/-- What a call answers that is handed two dyads. -/
def dbothR (c : Int) (t : Trip) : Trip × Int := if c = 0 then shortT t else (⟨false, 0, 0⟩, c)

theorem dchk_zero {xs : List Nat} {e : Int} (h : dchk xs e = 0) : chk xs = 0 ∧ -20000 ≤ e ∧ e ≤ 20000 := by
  unfold dchk at h
  by_cases h1 : chk xs = 0
  · rw [if_pos h1] at h
    by_cases h2 : e < -20000 ∨ 20000 < e
    · rw [if_pos h2] at h; omega
    · exact ⟨h1, by omega, by omega⟩
  · rw [if_neg h1] at h; exact absurd h h1

theorem dchk2_zero {xs ys : List Nat} {e f : Int} (h : dchk2 xs e ys f = 0) : dchk xs e = 0 ∧ dchk ys f = 0 := by
  unfold dchk2 at h
  by_cases h1 : dchk xs e = 0
  · rw [if_pos h1] at h; exact ⟨h1, h⟩
  · rw [if_neg h1] at h; exact absurd h h1

theorem locals3 (w : World) (a0 a1 a2 b0 b1 b2 c0 c1 c2 : Value) (ta tb tc : TypeId) :
    Loc (((w.alloc (.cells #[a0, a1, a2] ta)).alloc (.cells #[b0, b1, b2] tb)).alloc (.cells #[c0, c1, c2] tc)) w.heap.size a0 a1 a2 ∧
    Loc (((w.alloc (.cells #[a0, a1, a2] ta)).alloc (.cells #[b0, b1, b2] tb)).alloc (.cells #[c0, c1, c2] tc)) (w.heap.size + 1) b0 b1 b2 ∧
    Loc (((w.alloc (.cells #[a0, a1, a2] ta)).alloc (.cells #[b0, b1, b2] tb)).alloc (.cells #[c0, c1, c2] tc)) (w.heap.size + 1 + 1) c0 c1 c2 ∧
    Below w.heap.size w (((w.alloc (.cells #[a0, a1, a2] ta)).alloc (.cells #[b0, b1, b2] tb)).alloc (.cells #[c0, c1, c2] tc)) ∧
    (((w.alloc (.cells #[a0, a1, a2] ta)).alloc (.cells #[b0, b1, b2] tb)).alloc (.cells #[c0, c1, c2] tc)).heap.size = w.heap.size + 1 + 1 + 1 := by
  have la := loc_new w a0 a1 a2 ta
  have lb := loc_new (w.alloc (.cells #[a0, a1, a2] ta)) b0 b1 b2 tb
  have lc := loc_new ((w.alloc (.cells #[a0, a1, a2] ta)).alloc (.cells #[b0, b1, b2] tb)) c0 c1 c2 tc
  have bB := below_alloc (w.alloc (.cells #[a0, a1, a2] ta)) (.cells #[b0, b1, b2] tb)
  have bC := below_alloc ((w.alloc (.cells #[a0, a1, a2] ta)).alloc (.cells #[b0, b1, b2] tb)) (.cells #[c0, c1, c2] tc)
  refine ⟨(la.later bB).later bC, ?_, ?_, below_trans (below_trans (below_alloc w _) bB) bC, by simp [World.size_alloc]⟩
  · have := lb.later bC
    rwa [World.size_alloc] at this
  · rwa [World.size_alloc, World.size_alloc] at lc

set_option maxRecDepth 100000 in
set_option maxHeartbeats 1600000 in
theorem dboth_plus (s : Bool) (ao : Option Addr) (ca : Nat) (xs : List Nat) (e : Int) (t : Bool) (bo : Option Addr) (cb : Nat) (ys : List Nat) (f : Int) (w : World) (T : Trip)
    (hr : Rd w .u32 (.slice ao xs.length ca) xs) (hq : Rd w .u32 (.slice bo ys.length cb) ys) (hT : Tab w)
    (hK : dchk2 xs e ys f = 0 → (Dg.dg 4294967296 T.n).length ≤ 30000 ∧ -1000000 ≤ T.e ∧ T.e ≤ 1000000 ∧ ∀ w1 : World, Below w.heap.size w w1 → Calls Tryz.prog 42 #[.agg #[.bool s, .slice ao xs.length ca, .int .i64 e], .agg #[.bool t, .slice bo ys.length cb, .int .i64 f]] w1 (DRes w1 T)) :
    Calls Tryz.prog 41 #[.agg #[.bool s, .slice ao xs.length ca, .int .i64 e], .agg #[.bool t, .slice bo ys.length cb, .int .i64 f], .func (.func 42) #[] #[]] w (DAns w (dbothR (dchk2 xs e ys f) T)) := by
  obtain ⟨la, lb, lc, bW, sW⟩ := locals3 w (.bool s) (.slice ao xs.length ca) (.int .i64 e) (.bool t) (.slice bo ys.length cb) (.int .i64 f) (.bool false) (.slice none 0 0) (.int .i64 0) 25 25 25
  obtain ⟨W, hW⟩ : ∃ W, (((w.alloc (.cells #[.bool s, .slice ao xs.length ca, .int .i64 e] 25)).alloc (.cells #[.bool t, .slice bo ys.length cb, .int .i64 f] 25)).alloc (.cells #[.bool false, .slice none 0 0, .int .i64 0] 25)) = W := ⟨_, rfl⟩
  rw [hW] at la lb lc bW sW
  have bX := below_alloc W (.cells #[.bool s, .slice ao xs.length ca, .int .i64 e, .bool t, .slice bo ys.length cb, .int .i64 f] 25)
  have b01 := below_trans bW bX
  have la := la.later bX
  have lb := lb.later bX
  have lc := lc.later bX
  have hw := dwrong2_any W.heap.size s ao ca xs e t bo cb ys f (W.alloc (.cells #[.bool s, .slice ao xs.length ca, .int .i64 e, .bool t, .slice bo ys.length cb, .int .i64 f] 25))
    (by rw [World.cell?_alloc_at _ _ _ _ rfl]; rfl) (by rw [World.cell?_alloc_at _ _ _ _ rfl]; rfl) (by rw [World.cell?_alloc_at _ _ _ _ rfl]; rfl) (by rw [World.cell?_alloc_at _ _ _ _ rfl]; rfl) (by rw [World.cell?_alloc_at _ _ _ _ rfl]; rfl) (by rw [World.cell?_alloc_at _ _ _ _ rfl]; rfl)
    (hr.later b01) (hq.later b01)
  rw [sW] at hw
  rw [← hW] at hw la lb lc b01
  clear bX bW sW hW
  unfold dbothR
  obtain ⟨c, hc⟩ : ∃ c, dchk2 xs e ys f = c := ⟨_, rfl⟩
  rw [hc] at hw hK ⊢
  clear hc
  have ne3 : w.heap.size + 1 + 1 ≠ w.heap.size := by omega
  have ne4 : w.heap.size ≠ w.heap.size + 1 + 1 := by omega
  by_cases h : c = 0
  · subst h
    rw [if_pos rfl]
    obtain ⟨hL, he1, he2, hk⟩ := hK rfl
    have HK : Hid (∀ w1 : World, Below w.heap.size w w1 → Calls Tryz.prog 42 #[.agg #[.bool s, .slice ao xs.length ca, .int .i64 e], .agg #[.bool t, .slice bo ys.length cb, .int .i64 f]] w1 (DRes w1 T)) := hk
    have HS : Hid (∀ v w1, Below w.heap.size w w1 → Dv w1 v T → Calls Tryz.prog 45 #[v] w1 (DAns w1 (shortT T))) := fun v w1 b1 hv =>
      dshort_any v T w1 hv (by omega) ⟨he1, he2⟩ (hT.later b1) (by have := tz_fits T.n 30000 hL; omega)
    clear hK hk hr hq hT hL
    obtain ⟨r, hrr⟩ : ∃ r, shortT T = r := ⟨_, rfl⟩
    rw [hrr] at HS ⊢
    obtain ⟨⟨rs, rn, re⟩, rc⟩ := r
    clear hrr
    go_enter Tryz.func41, Tryz.ntmps41
    go_wp2_with fail
    refine hw.mono ?_
    rintro z w1 ⟨rfl, b1⟩
    have la := la.later b1
    have lb := lb.later b1
    have lc := lc.later b1
    have b01 := below_trans b01 b1
    have bd : Below w1.heap.size w1 w1.drew := (Below.refl _ _).drew
    have la := la.later bd
    have lb := lb.later bd
    have lc := lc.later bd
    have b02 := below_trans b01 bd
    obtain ⟨-, ⟨ca0, ca1, ca2⟩, -⟩ := id la
    obtain ⟨-, ⟨cb0, cb1, cb2⟩, -⟩ := id lb
    clear hw b1 bd b01
    go_wp2_with fail
    go_region_held3 (fun wq => (wq.cell? ⟨w.heap.size, 0, none⟩ = some (.bool s) ∧ wq.cell? ⟨w.heap.size, 1, none⟩ = some (.slice ao xs.length ca) ∧ wq.cell? ⟨w.heap.size, 2, none⟩ = some (.int .i64 e)) ∧ wq.cell? ⟨w.heap.size + 1, 0, none⟩ = some (.bool t) ∧ wq.cell? ⟨w.heap.size + 1, 1, none⟩ = some (.slice bo ys.length cb) ∧ wq.cell? ⟨w.heap.size + 1, 2, none⟩ = some (.int .i64 f)) (go_keep) (first
      | (go_at_call 25; refine (of_dy s ao xs.length ca e w1.drew).mono ?_; rintro z w3 ⟨rfl, b3⟩; have la3 := la.later b3; have lb3 := lb.later b3; have lc3 := lc.later b3; have b03 := below_trans b02 b3; obtain ⟨-, ⟨p0, p1, p2⟩, -⟩ := id la3; obtain ⟨-, ⟨p3, p4, p5⟩, -⟩ := id lb3; clear b02)
      | (go_at_call 25; refine (of_dy t bo ys.length cb f w3).mono ?_; rintro z w4 ⟨rfl, b4⟩; have la4 := la3.later b4; have lb4 := lb3.later b4; have lc4 := lc3.later b4; have b04 := below_trans b03 b4; obtain ⟨-, ⟨q0, q1, q2⟩, -⟩ := id la4; obtain ⟨-, ⟨q3, q4, q5⟩, -⟩ := id lb4)
      | (go_at_call 42; refine (HK.out w4 b04).mono ?_; rintro z w5 ⟨vs, rfl, o5, b5⟩; have la5 := la4.later b5; have lb5 := lb4.later b5; have lc5 := lc4.later b5; have b05 := below_trans b04 b5; obtain ⟨-, ⟨t0, t1, t2⟩, -⟩ := id la5; obtain ⟨-, ⟨t3, t4, t5⟩, -⟩ := id lb5)
      | (go_at_call 45; refine (HS.out _ w5 b05 ⟨vs, rfl, o5.rd⟩).mono ?_; rintro z w6 ⟨vr, rfl, o6, b6⟩; have la6 := la5.later b6; have lb6 := lb5.later b6; have lc6 := lc5.later b6; have b06 := below_trans b05 b6; obtain ⟨-, ⟨u0, u1, u2⟩, -⟩ := id la6; obtain ⟨-, ⟨u3, u4, u5⟩, -⟩ := id lb6; obtain ⟨so, sc, hvr⟩ := o6.rd.shape; subst hvr; obtain ⟨hl6, ⟨d0, d1, d2⟩, f0, f1, f2⟩ := id lc6))
    all_goals go_wp2
    obtain ⟨-, ⟨g0, g1, g2⟩, -⟩ := loc_set lc6 (.bool rs) (.slice so (Dg.dg 4294967296 rn).length sc) (.int .i64 re)
    have o7 := o6.apart3 (b := w.heap.size + 1 + 1) lc5.1 (.bool rs) (.slice so (Dg.dg 4294967296 rn).length sc) (.int .i64 re)
    have b8 := below_set3 b06 (show w.heap.size ≤ w.heap.size + 1 + 1 by omega) (.bool rs) (.slice so (Dg.dg 4294967296 rn).length sc) (.int .i64 re)
    refine bodyPost_ret (v := .tuple #[.agg #[.bool rs, .slice so (Dg.dg 4294967296 rn).length sc, .int .i64 re], .int .i64 rc]) (by simp [results, Tryz.results41, go_sem, g0, g1, g2]) rfl ?_
    exact ⟨_, rfl, o7.lower b05.size, b8⟩
  · rw [if_neg h]
    clear hK hr hq hT
    go_enter Tryz.func41, Tryz.ntmps41
    go_wp2_with fail
    refine hw.mono ?_
    rintro z w1 ⟨rfl, b1⟩
    have lc := lc.later b1
    have b01 := below_trans b01 b1
    obtain ⟨hl6, ⟨d0, d1, d2⟩, f0, f1, f2⟩ := id lc
    clear hw b1
    go_wp2
    obtain ⟨-, ⟨g0, g1, g2⟩, -⟩ := loc_set lc (.bool false) (.slice none 0 0) (.int .i64 0)
    have b8 := below_set3 b01 (show w.heap.size ≤ w.heap.size + 1 + 1 by omega) (.bool false) (.slice none 0 0) (.int .i64 0)
    refine bodyPost_ret (v := .tuple #[.agg #[.bool false, .slice none 0 0, .int .i64 0], .int .i64 c]) (by simp [results, Tryz.results41, go_sem, g0, g1, g2]) rfl ?_
    exact ⟨_, rfl, own_nil _ _ _ _, b8⟩
end Go.Proofs.YtmjhlflemfkflaaGreatDoor
/-
  Contracts of long.Times, dyad.Add, dyad.Mul.
-/
namespace Go.Proofs.YtmjhlflemfkflaaGreatDoor
open Go.RowKit

theorem add_len (x y L : Nat) (hx : (Dg.dg 4294967296 x).length ≤ L) (hy : (Dg.dg 4294967296 y).length ≤ L) : (Dg.dg 4294967296 (x + y)).length ≤ L + 1 := by
  apply Dg.dg_len_le 4294967296 _ _ (by omega)
  have h1 := Dg.vl_lt 4294967296 (Dg.dg 4294967296 x) (Dg.small_dg _ _ (by omega))
  have h2 := Dg.vl_lt 4294967296 (Dg.dg 4294967296 y) (Dg.small_dg _ _ (by omega))
  rw [Dg.vl_dg _ _ (by omega)] at h1 h2
  have h3 : 4294967296 ^ (Dg.dg 4294967296 x).length ≤ 4294967296 ^ L := Nat.pow_le_pow_right (by omega) hx
  have h4 : 4294967296 ^ (Dg.dg 4294967296 y).length ≤ 4294967296 ^ L := Nat.pow_le_pow_right (by omega) hy
  rw [Nat.pow_succ]
  omega

theorem mul_len (x y L M : Nat) (hx : (Dg.dg 4294967296 x).length ≤ L) (hy : (Dg.dg 4294967296 y).length ≤ M) : (Dg.dg 4294967296 (x * y)).length ≤ L + M := by
  apply Dg.dg_len_le 4294967296 _ _ (by omega)
  have h1 := Dg.vl_lt 4294967296 (Dg.dg 4294967296 x) (Dg.small_dg _ _ (by omega))
  have h2 := Dg.vl_lt 4294967296 (Dg.dg 4294967296 y) (Dg.small_dg _ _ (by omega))
  rw [Dg.vl_dg _ _ (by omega)] at h1 h2
  have h3 : 4294967296 ^ (Dg.dg 4294967296 x).length ≤ 4294967296 ^ L := Nat.pow_le_pow_right (by omega) hx
  have h4 : 4294967296 ^ (Dg.dg 4294967296 y).length ≤ 4294967296 ^ M := Nat.pow_le_pow_right (by omega) hy
  rw [Nat.pow_add]
  exact Nat.mul_lt_mul'' (by omega) (by omega)

theorem plusT_len (a b : Trip) (L j : Nat) (ha : (Dg.dg 4294967296 a.n).length ≤ L) (hb : (Dg.dg 4294967296 b.n).length ≤ L) (h1 : (a.e - min a.e b.e).toNat ≤ 32 * j) (h2 : (b.e - min a.e b.e).toNat ≤ 32 * j) :
    (Dg.dg 4294967296 (plusT a b).n).length ≤ L + j + 1 := by
  have lx := up_len a.n _ L j ha h1
  have ly := up_len b.n _ L j hb h2
  unfold plusT
  simp only
  by_cases hs : a.s = b.s
  · rw [if_pos hs]; exact add_len _ _ _ lx ly
  · rw [if_neg hs]
    by_cases hl : a.n * 2 ^ (a.e - min a.e b.e).toNat < b.n * 2 ^ (b.e - min a.e b.e).toNat
    · rw [if_pos hl]
      exact Nat.le_trans (dg_len_mono _ _ _ (by omega) (Nat.sub_le _ _)) (Nat.le_trans ly (by omega))
    · rw [if_neg hl]
      exact Nat.le_trans (dg_len_mono _ _ _ (by omega) (Nat.sub_le _ _)) (Nat.le_trans lx (by omega))

theorem plusT_e (a b : Trip) : (plusT a b).e = min a.e b.e := by
  unfold plusT
  simp only
  by_cases hs : a.s = b.s
  · rw [if_pos hs]
  · rw [if_neg hs]
    by_cases hl : a.n * 2 ^ (a.e - min a.e b.e).toNat < b.n * 2 ^ (b.e - min a.e b.e).toNat
    · rw [if_pos hl]
    · rw [if_neg hl]

theorem dv_of {w : World} {s : Bool} {ao : Option Addr} {ca : Nat} {xs : List Nat} {e : Int} (hr : Rd w .u32 (.slice ao xs.length ca) xs) (sa : Dg.Small 4294967296 xs) (hn : Dg.Norm xs) :
    Dv w (.agg #[.bool s, .slice ao xs.length ca, .int .i64 e]) ⟨s, Dg.vl 4294967296 xs, e⟩ := by
  have h := Dg.eq_dg 4294967296 (by omega) xs _ sa hn rfl
  refine ⟨_, rfl, ?_⟩
  simp only
  rw [← h]
  exact hr

set_option maxRecDepth 100000 in
set_option maxHeartbeats 800000 in
theorem dadd_any (s : Bool) (ao : Option Addr) (ca : Nat) (xs : List Nat) (e : Int) (t : Bool) (bo : Option Addr) (cb : Nat) (ys : List Nat) (f : Int) (w : World)
    (hr : Rd w .u32 (.slice ao xs.length ca) xs) (hq : Rd w .u32 (.slice bo ys.length cb) ys) (sa : Dg.Small 4294967296 xs) (sb : Dg.Small 4294967296 ys) (hT : Tab w) :
    Calls Tryz.prog 15 #[.agg #[.bool s, .slice ao xs.length ca, .int .i64 e], .agg #[.bool t, .slice bo ys.length cb, .int .i64 f]] w (DAns w (dbothR (dchk2 xs e ys f) (plusT ⟨s, Dg.vl 4294967296 xs, e⟩ ⟨t, Dg.vl 4294967296 ys, f⟩))) := by
  have HBO : Hid (∀ w0, Below w.heap.size w w0 → Calls Tryz.prog 41 #[.agg #[.bool s, .slice ao xs.length ca, .int .i64 e], .agg #[.bool t, .slice bo ys.length cb, .int .i64 f], .func (.func 42) #[] #[]] w0 (DAns w0 (dbothR (dchk2 xs e ys f) (plusT ⟨s, Dg.vl 4294967296 xs, e⟩ ⟨t, Dg.vl 4294967296 ys, f⟩)))) := fun w0 b0 =>
    dboth_plus s ao ca xs e t bo cb ys f w0 (plusT ⟨s, Dg.vl 4294967296 xs, e⟩ ⟨t, Dg.vl 4294967296 ys, f⟩) (hr.later b0) (hq.later b0) (hT.later b0) (fun h => by
      obtain ⟨h1, h2⟩ := dchk2_zero h
      obtain ⟨c1, e1, e2⟩ := dchk_zero h1
      obtain ⟨c2, f1, f2⟩ := dchk_zero h2
      have z1 := chk_zero c1
      have z2 := chk_zero c2
      have x1 : (Dg.dg 4294967296 (Dg.vl 4294967296 xs)).length ≤ 1200 := by rw [← Dg.eq_dg 4294967296 (by omega) xs _ sa z1.1 rfl]; exact z1.2
      have x2 : (Dg.dg 4294967296 (Dg.vl 4294967296 ys)).length ≤ 1200 := by rw [← Dg.eq_dg 4294967296 (by omega) ys _ sb z2.1 rfl]; exact z2.2
      refine ⟨Nat.le_trans (plusT_len _ _ 1200 1251 x1 x2 (by simp only; omega) (by simp only; omega)) (by omega), ?_, ?_, fun w1 b1 => ?_⟩
      · rw [plusT_e]; simp only; omega
      · rw [plusT_e]; simp only; omega
      · exact dplus_any _ _ _ _ w1 (dv_of ((hr.later b0).later b1) sa z1.1) (dv_of ((hq.later b0).later b1) sb z2.1) (by simp only; omega) (by simp only; omega) (by simp only; omega) (by simp only; omega) (by simp only; omega) (by simp only; omega))
  obtain ⟨⟨⟨rs, rn, re⟩, rc⟩, hrr⟩ : ∃ r, dbothR (dchk2 xs e ys f) (plusT ⟨s, Dg.vl 4294967296 xs, e⟩ ⟨t, Dg.vl 4294967296 ys, f⟩) = r := ⟨_, rfl⟩
  rw [hrr] at HBO ⊢
  obtain ⟨-, -, lc, b01, -⟩ := locals3 w (.bool s) (.slice ao xs.length ca) (.int .i64 e) (.bool t) (.slice bo ys.length cb) (.int .i64 f) (.bool false) (.slice none 0 0) (.int .i64 0) 25 25 25
  clear hrr hr hq hT sa sb
  go_enter Tryz.func15, Tryz.ntmps15
  go_wp2_with fail
  refine (HBO.out _ b01).mono ?_
  rintro z w6 ⟨vr, rfl, o6, b6⟩
  have hlt := lc.1
  have lc6 := lc.later b6
  have b06 := below_trans b01 b6
  obtain ⟨so, sc, hvr⟩ := o6.rd.shape
  subst hvr
  obtain ⟨hl6, ⟨d0, d1, d2⟩, f0, f1, f2⟩ := id lc6
  clear lc b6
  go_wp2
  obtain ⟨-, ⟨g0, g1, g2⟩, -⟩ := loc_set lc6 (.bool rs) (.slice so (Dg.dg 4294967296 rn).length sc) (.int .i64 re)
  have o7 := o6.apart3 (b := w.heap.size + 1 + 1) hlt (.bool rs) (.slice so (Dg.dg 4294967296 rn).length sc) (.int .i64 re)
  have b8 := below_set3 b06 (show w.heap.size ≤ w.heap.size + 1 + 1 by omega) (.bool rs) (.slice so (Dg.dg 4294967296 rn).length sc) (.int .i64 re)
  refine bodyPost_ret (v := .tuple #[.agg #[.bool rs, .slice so (Dg.dg 4294967296 rn).length sc, .int .i64 re], .int .i64 rc]) (by simp [results, Tryz.results15, go_sem, g0, g1, g2]) rfl ?_
  exact ⟨_, rfl, o7.lower b01.size, b8⟩

end Go.Proofs.YtmjhlflemfkflaaGreatDoor
/-
  Contracts of the reference's SameDyad, CheckDyad, TwoDyads; dyadBegun; the law DyadChecks.
-/
namespace Go.Proofs.YtmjhlflemfkflaaGreatDoor
open Go.RowKit

set_option maxRecDepth 100000 in
theorem sameDy_any (s : Bool) (ao : Option Addr) (ca : Nat) (xs : List Nat) (e : Int) (t : Bool) (bo : Option Addr) (cb : Nat) (ys : List Nat) (f : Int) (w : World)
    (hr : Rd w .u32 (.slice ao xs.length ca) xs) (hq : Rd w .u32 (.slice bo ys.length cb) ys) :
    Calls Tryz.prog 38 #[.agg #[.bool s, .slice ao xs.length ca, .int .i64 e], .agg #[.bool t, .slice bo ys.length cb, .int .i64 f]] w fun z w' => z = .returned (.bool (decide (s = t ∧ e = f ∧ xs = ys))) ∧ Below w.heap.size w w' := by
  have bA := below_alloc w (.cells #[.bool s, .slice ao xs.length ca, .int .i64 e] 25)
  have bB := below_trans bA (below_alloc _ (.cells #[.bool t, .slice bo ys.length cb, .int .i64 f] 25))
  by_cases h1 : s = t
  · by_cases h2 : e = f
    · subst h1 h2
      have hs := same_any _ _ xs ys _ (hr.later bB) (hq.later bB)
      rw [show decide (s = s ∧ e = e ∧ xs = ys) = decide (xs = ys) from by simp]
      obtain ⟨b, hb⟩ : ∃ b, decide (xs = ys) = b := ⟨_, rfl⟩
      rw [hb] at hs ⊢
      clear hb hr hq
      go_enter Tryz.func38, Tryz.ntmps38
      go_wp2_with fail
      refine hs.mono ?_
      rintro z w1 ⟨rfl, b1⟩
      have b2 := below_trans bB b1
      go_wp2
      go_ret
      exact ⟨rfl, b2⟩
    · rw [show decide (s = t ∧ e = f ∧ xs = ys) = false from by simp [h2]]
      have h3 : (e == f) = false := by simp [h2]
      subst h1
      clear hr hq
      go_enter Tryz.func38, Tryz.ntmps38
      go_wp2
      go_ret
      exact ⟨rfl, bB⟩
  · rw [show decide (s = t ∧ e = f ∧ xs = ys) = false from by simp [h1]]
    have h3 : (s == t) = false := by simp [h1]
    clear hr hq
    go_enter Tryz.func38, Tryz.ntmps38
    go_wp2
    go_ret
    exact ⟨rfl, bB⟩

set_option maxRecDepth 100000 in
theorem refcheckDy_any (s : Bool) (ao : Option Addr) (ca : Nat) (xs : List Nat) (e : Int) (w : World) (hr : Rd w .u32 (.slice ao xs.length ca) xs) :
    Calls Tryz.prog 108 #[.agg #[.bool s, .slice ao xs.length ca, .int .i64 e]] w fun z w' => z = .returned (.int .i64 (dchk xs e)) ∧ Below w.heap.size w w' := by
  have bA := below_alloc w (.cells #[.bool s, .slice ao xs.length ca, .int .i64 e] 25)
  have hk := checkNat_any _ xs _ (hr.later bA)
  unfold dchk
  obtain ⟨c, hc⟩ : ∃ c, chk xs = c := ⟨_, rfl⟩
  rw [hc] at hk ⊢
  clear hc hr
  by_cases h : c = 0
  · subst h
    rw [if_pos rfl]
    by_cases h1 : e < -20000
    · rw [if_pos (Or.inl h1)]
      go_enter Tryz.func108, Tryz.ntmps108
      go_wp2_with fail
      refine hk.mono ?_
      rintro z w' ⟨rfl, rfl⟩
      clear hk
      go_wp2
      go_ret
      exact ⟨rfl, bA⟩
    · by_cases h2 : 20000 < e
      · rw [if_pos (Or.inr h2)]
        go_enter Tryz.func108, Tryz.ntmps108
        go_wp2_with fail
        refine hk.mono ?_
        rintro z w' ⟨rfl, rfl⟩
        clear hk
        go_wp2
        go_ret
        exact ⟨rfl, bA⟩
      · rw [if_neg (by omega)]
        go_enter Tryz.func108, Tryz.ntmps108
        go_wp2_with fail
        refine hk.mono ?_
        rintro z w' ⟨rfl, rfl⟩
        clear hk
        go_wp2
        go_ret
        exact ⟨rfl, bA⟩
  · rw [if_neg h]
    have h0 : (c == 0) = false := by simp [h]
    go_enter Tryz.func108, Tryz.ntmps108
    go_wp2_with fail
    refine hk.mono ?_
    rintro z w' ⟨rfl, rfl⟩
    clear hk
    go_wp2
    go_ret
    exact ⟨rfl, bA⟩

theorem dbegun_value : dbothR (dchk2 [1] 0 [3] 0) (plusT ⟨false, Dg.vl 4294967296 [1], 0⟩ ⟨false, Dg.vl 4294967296 [3], 0⟩) = (⟨false, 1, 2⟩, 0) := by
  have e1 : dchk2 [1] 0 [3] 0 = 0 := by decide
  have e2 : plusT ⟨false, Dg.vl 4294967296 [1], 0⟩ ⟨false, Dg.vl 4294967296 [3], 0⟩ = ⟨false, 4, 0⟩ := rfl
  have e3 : bare ⟨false, 4, 0⟩ = ⟨false, 1, 2⟩ := rfl
  rw [e1, e2]
  unfold dbothR shortT
  rw [e3, if_pos rfl, if_neg (by decide), if_neg (by decide)]

set_option maxRecDepth 100000 in
set_option maxHeartbeats 800000 in
theorem dbegun_any (w : World) (hT : Tab w) : Calls Tryz.prog 12 #[] w fun z w' => z = .returned (.bool true) ∧ Below w.heap.size w w' := by
  have b1 := below_alloc w (.cells #[.int .u32 1] 76)
  have b2 := below_alloc (w.alloc (.cells #[.int .u32 1] 76)) (.cells #[.int .u32 3] 76)
  have r1 := (rd_new (w := w) (k := .u32) (e := 76) [1] #[.int .u32 1] rfl (by unfold maxLen; simp)).later b2
  have r2 := rd_new (w := w.alloc (.cells #[.int .u32 1] 76)) (k := .u32) (e := 76) [3] #[.int .u32 3] rfl (by unfold maxLen; simp)
  have b12 := below_trans b1 b2
  have s1 : Dg.Small 4294967296 [1] := Dg.small_cons.2 ⟨by omega, Dg.small_nil _ (by omega)⟩
  have s2 : Dg.Small 4294967296 [3] := Dg.small_cons.2 ⟨by omega, Dg.small_nil _ (by omega)⟩
  have hm := dadd_any false _ _ [1] 0 false _ _ [3] 0 _ r1 r2 s1 s2 (hT.later b12)
  rw [dbegun_value] at hm
  simp only [World.size_alloc, show [1].length = 1 from rfl, show [3].length = 1 from rfl] at hm
  clear r1 r2 b1 b2 s1 s2
  go_enter Tryz.func12, Tryz.ntmps12
  go_wp2_with fail
  refine hm.mono ?_
  rintro z w1 ⟨v, rfl, own, bel⟩
  have b3 := below_trans b12 bel
  obtain ⟨so, sc, hs⟩ := own.rd.shape
  subst hs
  clear hm
  have c1 := below_alloc w1 (.cells #[.bool false, .slice so (Dg.dg 4294967296 1).length sc, .int .i64 2] 25)
  have c2 := below_alloc (w1.alloc (.cells #[.bool false, .slice so (Dg.dg 4294967296 1).length sc, .int .i64 2] 25)) (.cells #[.int .u32 1] 76)
  have q2 := rd_new (w := w1.alloc (.cells #[.bool false, .slice so (Dg.dg 4294967296 1).length sc, .int .i64 2] 25)) (k := .u32) (e := 76) [1] #[.int .u32 1] rfl (by unfold maxLen; simp)
  have c12 := below_trans c1 c2
  have hsm := sameDy_any false _ _ (Dg.dg 4294967296 1) 2 false _ _ [1] 2 _ (own.rd.later c12) q2
  rw [show decide (false = false ∧ (2 : Int) = 2 ∧ Dg.dg 4294967296 1 = [1]) = true from decide_eq_true ⟨rfl, rfl, rfl⟩] at hsm
  simp only [World.size_alloc, show [1].length = 1 from rfl] at hsm
  have b4 := below_trans b3 c12
  clear c1 c2 c12 q2 own
  go_wp2_with fail
  refine hsm.mono ?_
  rintro z w2 ⟨rfl, b5⟩
  have b6 := b4.trans (b5.mono (by have := b3.size; omega))
  clear hsm
  go_wp2
  go_ret
  exact ⟨rfl, b6⟩

end Go.Proofs.YtmjhlflemfkflaaGreatDoor

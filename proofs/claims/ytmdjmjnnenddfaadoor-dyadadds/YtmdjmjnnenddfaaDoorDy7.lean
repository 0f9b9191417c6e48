/-
  Contracts of long.Times, dyad.Add, dyad.Mul.
-/
import Derived.Test.YtmdjmjnnenddfaaDoorDy6
namespace Go.Proofs.YtmdjmjnnenddfaaDoor
open Go.RowKit

theorem add_len (x y L : Nat) (hx : (Dg.dg 4294967296 x).length ≤ L) (hy : (Dg.dg 4294967296 y).length ≤ L) : (Dg.dg 4294967296 (x + y)).length ≤ L + 1 := by
  apply Dg.dg_len_le 4294967296 _ _ (by omega)
  have h1 := Dg.vl_lt 4294967296 (Dg.dg 4294967296 x) (Dg.small_dg _ _ (by omega))
  have h2 := Dg.vl_lt 4294967296 (Dg.dg 4294967296 y) (Dg.small_dg _ _ (by omega))
  rw [Dg.vl_dg _ _ (by omega)] at h1 h2
  have h3 : 4294967296 ^ (Dg.dg 4294967296 x).length ≤ 4294967296 ^ L := Nat.pow_le_pow_right (by omega) hx
  have h4 : 4294967296 ^ (Dg.dg 4294967296 y).length ≤ 4294967296 ^ L := Nat.pow_le_pow_right (by omega) hy
  rw [Nat.pow_succ]
  omega

theorem mul_len (x y L M : Nat) (hx : (Dg.dg 4294967296 x).length ≤ L) (hy : (Dg.dg 4294967296 y).length ≤ M) : (Dg.dg 4294967296 (x * y)).length ≤ L + M := by
  apply Dg.dg_len_le 4294967296 _ _ (by omega)
  have h1 := Dg.vl_lt 4294967296 (Dg.dg 4294967296 x) (Dg.small_dg _ _ (by omega))
  have h2 := Dg.vl_lt 4294967296 (Dg.dg 4294967296 y) (Dg.small_dg _ _ (by omega))
  rw [Dg.vl_dg _ _ (by omega)] at h1 h2
  have h3 : 4294967296 ^ (Dg.dg 4294967296 x).length ≤ 4294967296 ^ L := Nat.pow_le_pow_right (by omega) hx
  have h4 : 4294967296 ^ (Dg.dg 4294967296 y).length ≤ 4294967296 ^ M := Nat.pow_le_pow_right (by omega) hy
  rw [Nat.pow_add]
  exact Nat.mul_lt_mul'' (by omega) (by omega)

theorem plusT_len (a b : Trip) (L j : Nat) (ha : (Dg.dg 4294967296 a.n).length ≤ L) (hb : (Dg.dg 4294967296 b.n).length ≤ L) (h1 : (a.e - min a.e b.e).toNat ≤ 32 * j) (h2 : (b.e - min a.e b.e).toNat ≤ 32 * j) :
    (Dg.dg 4294967296 (plusT a b).n).length ≤ L + j + 1 := by
  have lx := up_len a.n _ L j ha h1
  have ly := up_len b.n _ L j hb h2
  unfold plusT
  simp only
  by_cases hs : a.s = b.s
  · rw [if_pos hs]; exact add_len _ _ _ lx ly
  · rw [if_neg hs]
    by_cases hl : a.n * 2 ^ (a.e - min a.e b.e).toNat < b.n * 2 ^ (b.e - min a.e b.e).toNat
    · rw [if_pos hl]
      exact Nat.le_trans (dg_len_mono _ _ _ (by omega) (Nat.sub_le _ _)) (Nat.le_trans ly (by omega))
    · rw [if_neg hl]
      exact Nat.le_trans (dg_len_mono _ _ _ (by omega) (Nat.sub_le _ _)) (Nat.le_trans lx (by omega))

theorem plusT_e (a b : Trip) : (plusT a b).e = min a.e b.e := by
  unfold plusT
  simp only
  by_cases hs : a.s = b.s
  · rw [if_pos hs]
  · rw [if_neg hs]
    by_cases hl : a.n * 2 ^ (a.e - min a.e b.e).toNat < b.n * 2 ^ (b.e - min a.e b.e).toNat
    · rw [if_pos hl]
    · rw [if_neg hl]

theorem dv_of {w : World} {s : Bool} {ao : Option Addr} {ca : Nat} {xs : List Nat} {e : Int} (hr : Rd w .u32 (.slice ao xs.length ca) xs) (sa : Dg.Small 4294967296 xs) (hn : Dg.Norm xs) :
    Dv w (.agg #[.bool s, .slice ao xs.length ca, .int .i64 e]) ⟨s, Dg.vl 4294967296 xs, e⟩ := by
  have h := Dg.eq_dg 4294967296 (by omega) xs _ sa hn rfl
  refine ⟨_, rfl, ?_⟩
  simp only
  rw [← h]
  exact hr

set_option maxRecDepth 100000 in
set_option maxHeartbeats 1600000 in
theorem dtimes_any (v u : Value) (a b : Trip) (w : World) (hv : Dv w v a) (hu : Dv w u b) (hLa : (Dg.dg 4294967296 a.n).length ≤ 100000) (hLb : (Dg.dg 4294967296 b.n).length ≤ 100000)
    (ha1 : -100000 ≤ a.e) (ha2 : a.e ≤ 100000) (hb1 : -100000 ≤ b.e) (hb2 : b.e ≤ 100000) :
    Calls Tryd.prog 52 #[v, u] w (DRes w (timesT a b)) := by
  obtain ⟨s0, rfl, ra⟩ := hv
  obtain ⟨ao, ca, rfl⟩ := ra.shape
  obtain ⟨s1, rfl, rb⟩ := hu
  obtain ⟨bo, cb, rfl⟩ := rb.shape
  obtain ⟨sa, an, ae⟩ := a
  obtain ⟨sb, bn, be⟩ := b
  simp only at ra rb hLa hLb ha1 ha2 hb1 hb2 ⊢
  have HTI : Hid (∀ w1, Below w.heap.size w w1 → Calls Tryd.prog 74 #[.slice ao (Dg.dg 4294967296 an).length ca, .slice bo (Dg.dg 4294967296 bn).length cb] w1 (Num w1 (an * bn))) := fun w1 b1 => by
    have := times_any _ _ _ _ w1 (ra.later b1) (rb.later b1) (Dg.small_dg _ _ (by omega)) (Dg.small_dg _ _ (by omega)) (by omega) (by omega)
    rw [Dg.vl_dg _ _ (by omega), Dg.vl_dg _ _ (by omega)] at this
    exact this
  unfold timesT
  simp only
  obtain ⟨X, hX⟩ : ∃ X, an * bn = X := ⟨_, rfl⟩
  obtain ⟨ma, hma⟩ : ∃ m, (Dg.dg 4294967296 an).length = m := ⟨_, rfl⟩
  obtain ⟨mb, hmb⟩ : ∃ m, (Dg.dg 4294967296 bn).length = m := ⟨_, rfl⟩
  rw [hX, hma, hmb] at HTI
  rw [hX, hma, hmb]
  clear hX hma hmb ra rb hLa hLb
  obtain ⟨la, lb, lc, b01, sW⟩ := locals3 w (.bool sa) (.slice ao ma ca) (.int .i64 ae) (.bool sb) (.slice bo mb cb) (.int .i64 be) (.bool false) (.slice none 0 0) (.int .i64 0) 61 61 61
  clear sW
  obtain ⟨W, hW⟩ : ∃ W, (((w.alloc (.cells #[.bool sa, .slice ao ma ca, .int .i64 ae] 61)).alloc (.cells #[.bool sb, .slice bo mb cb, .int .i64 be] 61)).alloc (.cells #[.bool false, .slice none 0 0, .int .i64 0] 61)) = W := ⟨_, rfl⟩
  rw [hW] at la lb lc b01
  have bd : Below W.heap.size W W.drew := (Below.refl _ _).drew
  have la := la.later bd
  have lb := lb.later bd
  have lc := lc.later bd
  have b02 := below_trans b01 bd
  rw [← hW] at la lb lc b02
  clear bd b01 hW
  obtain ⟨-, ⟨ca0, ca1, ca2⟩, -⟩ := id la
  obtain ⟨-, ⟨cb0, cb1, cb2⟩, -⟩ := id lb
  have ne3 : w.heap.size + 1 + 1 ≠ w.heap.size := by omega
  have ne4 : w.heap.size ≠ w.heap.size + 1 + 1 := by omega
  have e4 : IntKind.i64.wrap (ae + be) = ae + be := IntWalk.i64_in _ ⟨by omega, by omega⟩
  go_enter Tryd.func52, Tryd.ntmps52
  go_wp2_with fail
  go_region_held3 (fun wq => (wq.cell? ⟨w.heap.size, 0, none⟩ = some (.bool sa) ∧ wq.cell? ⟨w.heap.size, 1, none⟩ = some (.slice ao ma ca) ∧ wq.cell? ⟨w.heap.size, 2, none⟩ = some (.int .i64 ae)) ∧ wq.cell? ⟨w.heap.size + 1, 0, none⟩ = some (.bool sb) ∧ wq.cell? ⟨w.heap.size + 1, 1, none⟩ = some (.slice bo mb cb) ∧ wq.cell? ⟨w.heap.size + 1, 2, none⟩ = some (.int .i64 be)) (go_keep) (first
    | (go_at_call 73; refine (digits_any sa ao ma ca ae _).mono ?_; rintro z w3 ⟨rfl, b3⟩; have la3 := la.later b3; have lb3 := lb.later b3; have lc3 := lc.later b3; have b03 := below_trans b02 b3; obtain ⟨-, ⟨p0, p1, p2⟩, -⟩ := id la3; obtain ⟨-, ⟨p3, p4, p5⟩, -⟩ := id lb3; clear b02)
    | (go_at_call 73; refine (digits_any sb bo mb cb be w3).mono ?_; rintro z w4 ⟨rfl, b4⟩; have la4 := la3.later b4; have lb4 := lb3.later b4; have lc4 := lc3.later b4; have b04 := below_trans b03 b4; obtain ⟨-, ⟨q0, q1, q2⟩, -⟩ := id la4; obtain ⟨-, ⟨q3, q4, q5⟩, -⟩ := id lb4)
    | (go_at_call 74; refine (HTI.out w4 b04).mono ?_; rintro z w5 ⟨vs, rfl, o5, b5⟩; have la5 := la4.later b5; have lb5 := lb4.later b5; have lc5 := lc4.later b5; have b05 := below_trans b04 b5; obtain ⟨-, ⟨t0, t1, t2⟩, -⟩ := id la5; obtain ⟨-, ⟨t3, t4, t5⟩, -⟩ := id lb5; obtain ⟨so, sc, hvs⟩ := o5.rd.shape; subst hvs)
    | (go_at_call 69; refine (new_any (sa != sb) so _ sc _ w5).mono ?_; rintro z w6 ⟨rfl, b6⟩; have la6 := la5.later b6; have lb6 := lb5.later b6; have lc6 := lc5.later b6; have b06 := below_trans b05 b6; obtain ⟨-, ⟨u0, u1, u2⟩, -⟩ := id la6; obtain ⟨-, ⟨u3, u4, u5⟩, -⟩ := id lb6; obtain ⟨hl6, ⟨d0, d1, d2⟩, f0, f1, f2⟩ := id lc6))
  all_goals go_wp2
  obtain ⟨-, ⟨g0, g1, g2⟩, -⟩ := loc_set lc6 (.bool (sa != sb)) (.slice so (Dg.dg 4294967296 X).length sc) (.int .i64 (ae + be))
  have o7 := (o5.later b6).apart3 (b := w.heap.size + 1 + 1) lc4.1 (.bool (sa != sb)) (.slice so (Dg.dg 4294967296 X).length sc) (.int .i64 (ae + be))
  have b8 := below_set3 b06 (show w.heap.size ≤ w.heap.size + 1 + 1 by omega) (.bool (sa != sb)) (.slice so (Dg.dg 4294967296 X).length sc) (.int .i64 (ae + be))
  refine bodyPost_ret (v := .agg #[.bool (sa != sb), .slice so (Dg.dg 4294967296 X).length sc, .int .i64 (ae + be)]) (by simp [results, Tryd.results52, go_sem, g0, g1, g2]) rfl ?_
  exact ⟨_, rfl, o7.lower b04.size, b8⟩

set_option maxRecDepth 100000 in
set_option maxHeartbeats 800000 in
theorem dadd_any (s : Bool) (ao : Option Addr) (ca : Nat) (xs : List Nat) (e : Int) (t : Bool) (bo : Option Addr) (cb : Nat) (ys : List Nat) (f : Int) (w : World)
    (hr : Rd w .u32 (.slice ao xs.length ca) xs) (hq : Rd w .u32 (.slice bo ys.length cb) ys) (sa : Dg.Small 4294967296 xs) (sb : Dg.Small 4294967296 ys) (hT : Tab w) :
    Calls Tryd.prog 22 #[.agg #[.bool s, .slice ao xs.length ca, .int .i64 e], .agg #[.bool t, .slice bo ys.length cb, .int .i64 f]] w (DAns w (dbothR (dchk2 xs e ys f) (plusT ⟨s, Dg.vl 4294967296 xs, e⟩ ⟨t, Dg.vl 4294967296 ys, f⟩))) := by
  have HBO : Hid (∀ w0, Below w.heap.size w w0 → Calls Tryd.prog 46 #[.agg #[.bool s, .slice ao xs.length ca, .int .i64 e], .agg #[.bool t, .slice bo ys.length cb, .int .i64 f], .func (.func 47) #[] #[]] w0 (DAns w0 (dbothR (dchk2 xs e ys f) (plusT ⟨s, Dg.vl 4294967296 xs, e⟩ ⟨t, Dg.vl 4294967296 ys, f⟩)))) := fun w0 b0 =>
    dboth_plus s ao ca xs e t bo cb ys f w0 (plusT ⟨s, Dg.vl 4294967296 xs, e⟩ ⟨t, Dg.vl 4294967296 ys, f⟩) (hr.later b0) (hq.later b0) (hT.later b0) (fun h => by
      obtain ⟨h1, h2⟩ := dchk2_zero h
      obtain ⟨c1, e1, e2⟩ := dchk_zero h1
      obtain ⟨c2, f1, f2⟩ := dchk_zero h2
      have z1 := chk_zero c1
      have z2 := chk_zero c2
      have x1 : (Dg.dg 4294967296 (Dg.vl 4294967296 xs)).length ≤ 1200 := by rw [← Dg.eq_dg 4294967296 (by omega) xs _ sa z1.1 rfl]; exact z1.2
      have x2 : (Dg.dg 4294967296 (Dg.vl 4294967296 ys)).length ≤ 1200 := by rw [← Dg.eq_dg 4294967296 (by omega) ys _ sb z2.1 rfl]; exact z2.2
      refine ⟨Nat.le_trans (plusT_len _ _ 1200 1251 x1 x2 (by simp only; omega) (by simp only; omega)) (by omega), ?_, ?_, fun w1 b1 => ?_⟩
      · rw [plusT_e]; simp only; omega
      · rw [plusT_e]; simp only; omega
      · exact dplus_any _ _ _ _ w1 (dv_of ((hr.later b0).later b1) sa z1.1) (dv_of ((hq.later b0).later b1) sb z2.1) (by simp only; omega) (by simp only; omega) (by simp only; omega) (by simp only; omega) (by simp only; omega) (by simp only; omega))
  obtain ⟨⟨⟨rs, rn, re⟩, rc⟩, hrr⟩ : ∃ r, dbothR (dchk2 xs e ys f) (plusT ⟨s, Dg.vl 4294967296 xs, e⟩ ⟨t, Dg.vl 4294967296 ys, f⟩) = r := ⟨_, rfl⟩
  rw [hrr] at HBO ⊢
  obtain ⟨-, -, lc, b01, -⟩ := locals3 w (.bool s) (.slice ao xs.length ca) (.int .i64 e) (.bool t) (.slice bo ys.length cb) (.int .i64 f) (.bool false) (.slice none 0 0) (.int .i64 0) 25 25 25
  clear hrr hr hq hT sa sb
  go_enter Tryd.func22, Tryd.ntmps22
  go_wp2_with fail
  refine (HBO.out _ b01).mono ?_
  rintro z w6 ⟨vr, rfl, o6, b6⟩
  have hlt := lc.1
  have lc6 := lc.later b6
  have b06 := below_trans b01 b6
  obtain ⟨so, sc, hvr⟩ := o6.rd.shape
  subst hvr
  obtain ⟨hl6, ⟨d0, d1, d2⟩, f0, f1, f2⟩ := id lc6
  clear lc b6
  go_wp2
  obtain ⟨-, ⟨g0, g1, g2⟩, -⟩ := loc_set lc6 (.bool rs) (.slice so (Dg.dg 4294967296 rn).length sc) (.int .i64 re)
  have o7 := o6.apart3 (b := w.heap.size + 1 + 1) hlt (.bool rs) (.slice so (Dg.dg 4294967296 rn).length sc) (.int .i64 re)
  have b8 := below_set3 b06 (show w.heap.size ≤ w.heap.size + 1 + 1 by omega) (.bool rs) (.slice so (Dg.dg 4294967296 rn).length sc) (.int .i64 re)
  refine bodyPost_ret (v := .tuple #[.agg #[.bool rs, .slice so (Dg.dg 4294967296 rn).length sc, .int .i64 re], .int .i64 rc]) (by simp [results, Tryd.results22, go_sem, g0, g1, g2]) rfl ?_
  exact ⟨_, rfl, o7.lower b01.size, b8⟩

set_option maxRecDepth 100000 in
set_option maxHeartbeats 800000 in
theorem dmul_any (s : Bool) (ao : Option Addr) (ca : Nat) (xs : List Nat) (e : Int) (t : Bool) (bo : Option Addr) (cb : Nat) (ys : List Nat) (f : Int) (w : World)
    (hr : Rd w .u32 (.slice ao xs.length ca) xs) (hq : Rd w .u32 (.slice bo ys.length cb) ys) (sa : Dg.Small 4294967296 xs) (sb : Dg.Small 4294967296 ys) (hT : Tab w) :
    Calls Tryd.prog 24 #[.agg #[.bool s, .slice ao xs.length ca, .int .i64 e], .agg #[.bool t, .slice bo ys.length cb, .int .i64 f]] w (DAns w (dbothR (dchk2 xs e ys f) (timesT ⟨s, Dg.vl 4294967296 xs, e⟩ ⟨t, Dg.vl 4294967296 ys, f⟩))) := by
  have HBO : Hid (∀ w0, Below w.heap.size w w0 → Calls Tryd.prog 46 #[.agg #[.bool s, .slice ao xs.length ca, .int .i64 e], .agg #[.bool t, .slice bo ys.length cb, .int .i64 f], .func (.func 52) #[] #[]] w0 (DAns w0 (dbothR (dchk2 xs e ys f) (timesT ⟨s, Dg.vl 4294967296 xs, e⟩ ⟨t, Dg.vl 4294967296 ys, f⟩)))) := fun w0 b0 =>
    dboth_times s ao ca xs e t bo cb ys f w0 (timesT ⟨s, Dg.vl 4294967296 xs, e⟩ ⟨t, Dg.vl 4294967296 ys, f⟩) (hr.later b0) (hq.later b0) (hT.later b0) (fun h => by
      obtain ⟨h1, h2⟩ := dchk2_zero h
      obtain ⟨c1, e1, e2⟩ := dchk_zero h1
      obtain ⟨c2, f1, f2⟩ := dchk_zero h2
      have z1 := chk_zero c1
      have z2 := chk_zero c2
      have x1 : (Dg.dg 4294967296 (Dg.vl 4294967296 xs)).length ≤ 1200 := by rw [← Dg.eq_dg 4294967296 (by omega) xs _ sa z1.1 rfl]; exact z1.2
      have x2 : (Dg.dg 4294967296 (Dg.vl 4294967296 ys)).length ≤ 1200 := by rw [← Dg.eq_dg 4294967296 (by omega) ys _ sb z2.1 rfl]; exact z2.2
      refine ⟨Nat.le_trans (mul_len _ _ 1200 1200 x1 x2) (by omega), ?_, ?_, fun w1 b1 => ?_⟩
      · unfold timesT; simp only; omega
      · unfold timesT; simp only; omega
      · exact dtimes_any _ _ _ _ w1 (dv_of ((hr.later b0).later b1) sa z1.1) (dv_of ((hq.later b0).later b1) sb z2.1) (by simp only; omega) (by simp only; omega) (by simp only; omega) (by simp only; omega) (by simp only; omega) (by simp only; omega))
  obtain ⟨⟨⟨rs, rn, re⟩, rc⟩, hrr⟩ : ∃ r, dbothR (dchk2 xs e ys f) (timesT ⟨s, Dg.vl 4294967296 xs, e⟩ ⟨t, Dg.vl 4294967296 ys, f⟩) = r := ⟨_, rfl⟩
  rw [hrr] at HBO ⊢
  obtain ⟨-, -, lc, b01, -⟩ := locals3 w (.bool s) (.slice ao xs.length ca) (.int .i64 e) (.bool t) (.slice bo ys.length cb) (.int .i64 f) (.bool false) (.slice none 0 0) (.int .i64 0) 25 25 25
  clear hrr hr hq hT sa sb
  go_enter Tryd.func24, Tryd.ntmps24
  go_wp2_with fail
  refine (HBO.out _ b01).mono ?_
  rintro z w6 ⟨vr, rfl, o6, b6⟩
  have hlt := lc.1
  have lc6 := lc.later b6
  have b06 := below_trans b01 b6
  obtain ⟨so, sc, hvr⟩ := o6.rd.shape
  subst hvr
  obtain ⟨hl6, ⟨d0, d1, d2⟩, f0, f1, f2⟩ := id lc6
  clear lc b6
  go_wp2
  obtain ⟨-, ⟨g0, g1, g2⟩, -⟩ := loc_set lc6 (.bool rs) (.slice so (Dg.dg 4294967296 rn).length sc) (.int .i64 re)
  have o7 := o6.apart3 (b := w.heap.size + 1 + 1) hlt (.bool rs) (.slice so (Dg.dg 4294967296 rn).length sc) (.int .i64 re)
  have b8 := below_set3 b06 (show w.heap.size ≤ w.heap.size + 1 + 1 by omega) (.bool rs) (.slice so (Dg.dg 4294967296 rn).length sc) (.int .i64 re)
  refine bodyPost_ret (v := .tuple #[.agg #[.bool rs, .slice so (Dg.dg 4294967296 rn).length sc, .int .i64 re], .int .i64 rc]) (by simp [results, Tryd.results24, go_sem, g0, g1, g2]) rfl ?_
  exact ⟨_, rfl, o7.lower b01.size, b8⟩
end Go.Proofs.YtmdjmjnnenddfaaDoor

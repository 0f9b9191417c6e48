/-
  Texts laid together: Dr1, Dy5, Dy6, Dy7, Dr2, Dt1, Dy9, Dk1, Gm2, Gm3, Gk2.
-/
import Derived.Test.YtnhackdjplppjaaGreatDoorAt22
set_option maxRecDepth 100000
namespace Go.Proofs.YtnhackdjplppjaaGreatDoor
open Go.RowKit
def Rv (w : World) (v : Value) (t : Trip) : Prop := ∃ s, v = .agg #[.bool t.s, s, .int .i64 t.e] ∧ Rd w .i64 s (Dg.dg 65536 t.n)
theorem Rv.later {w w' : World} {v : Value} {t : Trip} (h : Rv w v t) (hb : Below w.heap.size w w') : Rv w' v t := by
 obtain ⟨s, hv, hr⟩ := h
 exact ⟨s, hv, hr.later hb⟩
def ZB (w : World) (b : Nat) : Prop := b < w.heap.size ∧ ∃ ty, w.heap[b]? = some (.cells #[.bool false, .slice none 0 0, .int .i64 0] ty (0, 0))
theorem ZB.later {w w' : World} {b : Nat} (h : ZB w b) (hb : Below w.heap.size w w') : ZB w' b := by
 obtain ⟨hl, ty, hh⟩ := h
 exact ⟨Nat.lt_of_lt_of_le hl hb.size, ty, (hb.block b hl).trans hh⟩
theorem ZB.rd {w : World} {b : Nat} {v : Value} {zs : List Nat} (h : ZB w b) (hr : Rd w .i64 v zs) (hn : Dg.Norm zs) (x0 x1 x2 : Value) :
  Rd (((w.setCell ⟨b, 0, none⟩ x0).setCell ⟨b, 1, none⟩ x1).setCell ⟨b, 2, none⟩ x2) .i64 v zs := by
 obtain ⟨hl, ty, hh⟩ := h
 obtain ⟨ao, cap, rfl, h1, h2, h3⟩ := hr
 refine ⟨ao, cap, rfl, h1, h2, fun hp => ?_⟩
 obtain ⟨c, off, rfl, hc⟩ := h3 hp
 refine ⟨c, off, rfl, fun i hi => ?_⟩
 have hne : c ≠ b := by
  intro e
  subst e
  have k1 := hc (zs.length - 1) (by omega)
  have hz := hn (List.length_pos_iff.1 hp)
  unfold World.cell? at k1
  simp only [hh] at k1
  obtain ⟨o, ho⟩ : ∃ o, off + (zs.length - 1) = o := ⟨_, rfl⟩
  rw [ho] at k1
  generalize zs.getD (zs.length - 1) 0 = d at *
  match o, k1 with
  | 0, k1 => simp at k1
  | 1, k1 => simp at k1
  | 2, k1 => simp at k1; omega
  | o + 3, k1 => simp at k1
 rw [World.cell?_setCell_other (h := by simp), World.cell?_setCell_other (h := by simp), World.cell?_setCell_other (h := by simp)]
 exact hc i hi
end Go.Proofs.YtnhackdjplppjaaGreatDoor
namespace Go.Proofs.YtnhackdjplppjaaGreatDoor
open Go.RowKit
def dchk (xs : List Nat) (e : Int) : Int := if chk xs = 0 then (if e < -20000 ∨ 20000 < e then 3 else 0) else chk xs
theorem dcheck_any (s : Bool) (ao : Option Addr) (ca : Nat) (xs : List Nat) (e : Int) (w : World) (hr : Rd w .u32 (.slice ao xs.length ca) xs) :
  Calls Tryz.prog 162 #[.agg #[.bool s, .slice ao xs.length ca, .int .i64 e]] w fun z w' => z = .returned (.int .i64 (dchk xs e)) ∧ Below w.heap.size w w' := by
 have bA := below_alloc w (.cells #[.bool s, .slice ao xs.length ca, .int .i64 e] 82)
 have hk := check_any _ xs _ (hr.later bA)
 unfold dchk
 obtain ⟨c, hc⟩ : ∃ c, chk xs = c := ⟨_, rfl⟩
 rw [hc] at hk ⊢
 clear hc hr
 by_cases h : c = 0
 ·subst h
  rw [if_pos rfl]
  by_cases h1 : e < -20000
  ·rw [if_pos (Or.inl h1)]
   go_enter Tryz.func162, Tryz.ntmps162
   go_wp2_with fail
   refine hk.mono ?_
   rintro z w' ⟨rfl, rfl⟩
   clear hk
   go_wp2
   go_ret
   exact ⟨rfl, bA⟩
  ·by_cases h2 : 20000 < e
   ·rw [if_pos (Or.inr h2)]
    go_enter Tryz.func162, Tryz.ntmps162
    go_wp2_with fail
    refine hk.mono ?_
    rintro z w' ⟨rfl, rfl⟩
    clear hk
    go_wp2
    go_ret
    exact ⟨rfl, bA⟩
   ·rw [if_neg (by omega)]
    go_enter Tryz.func162, Tryz.ntmps162
    go_wp2_with fail
    refine hk.mono ?_
    rintro z w' ⟨rfl, rfl⟩
    clear hk
    go_wp2
    go_ret
    exact ⟨rfl, bA⟩
 ·rw [if_neg h]
  go_enter Tryz.func162, Tryz.ntmps162
  go_wp2_with fail
  refine hk.mono ?_
  rintro z w' ⟨rfl, rfl⟩
  clear hk
  go_wp2
  go_ret
  exact ⟨rfl, bA⟩
end Go.Proofs.YtnhackdjplppjaaGreatDoor
namespace Go.Proofs.YtnhackdjplppjaaGreatDoor
open Go.RowKit
theorem tz_fits (n L : Nat) (h : (Dg.dg 4294967296 n).length ≤ L) : tz n ≤ 32 * L := by
 by_cases h0 : n = 0
 ·subst h0; exact Nat.zero_le _
 ·obtain ⟨m, hm⟩ := tz_spec h0
  have h1 := Dg.vl_lt 4294967296 (Dg.dg 4294967296 n) (Dg.small_dg _ _ (by omega))
  rw [Dg.vl_dg _ _ (by omega)] at h1
  have h2 : 4294967296 ^ (Dg.dg 4294967296 n).length ≤ 4294967296 ^ L := Nat.pow_le_pow_right (by omega) h
  have h3 : (4294967296 : Nat) ^ L = 2 ^ (32 * L) := by rw [Nat.pow_mul]
  have h4 : 2 ^ tz n * 1 ≤ 2 ^ tz n * (2 * m + 1) := Nat.mul_le_mul_left _ (by omega)
  rw [← hm, Nat.mul_one] at h4
  have h5 : 2 ^ tz n < 2 ^ (32 * L) := by rw [← h3]; omega
  exact Nat.le_of_lt ((Nat.pow_lt_pow_iff_right (by omega)).1 h5)
def dbothR (c : Int) (t : Trip) : Trip × Int := if c = 0 then shortT t else (⟨false, 0, 0⟩, c)
theorem dchk_zero {xs : List Nat} {e : Int} (h : dchk xs e = 0) : chk xs = 0 ∧ -20000 ≤ e ∧ e ≤ 20000 := by
 unfold dchk at h
 by_cases h1 : chk xs = 0
 ·rw [if_pos h1] at h
  by_cases h2 : e < -20000 ∨ 20000 < e
  ·rw [if_pos h2] at h; omega
  ·exact ⟨h1, by omega, by omega⟩
 ·rw [if_neg h1] at h; exact absurd h h1
theorem locals3 (w : World) (a0 a1 a2 b0 b1 b2 c0 c1 c2 : Value) (ta tb tc : TypeId) :
  Loc (((w.alloc (.cells #[a0, a1, a2] ta)).alloc (.cells #[b0, b1, b2] tb)).alloc (.cells #[c0, c1, c2] tc)) w.heap.size a0 a1 a2 ∧
  Loc (((w.alloc (.cells #[a0, a1, a2] ta)).alloc (.cells #[b0, b1, b2] tb)).alloc (.cells #[c0, c1, c2] tc)) (w.heap.size + 1) b0 b1 b2 ∧
  Loc (((w.alloc (.cells #[a0, a1, a2] ta)).alloc (.cells #[b0, b1, b2] tb)).alloc (.cells #[c0, c1, c2] tc)) (w.heap.size + 1 + 1) c0 c1 c2 ∧
  Below w.heap.size w (((w.alloc (.cells #[a0, a1, a2] ta)).alloc (.cells #[b0, b1, b2] tb)).alloc (.cells #[c0, c1, c2] tc)) ∧
  (((w.alloc (.cells #[a0, a1, a2] ta)).alloc (.cells #[b0, b1, b2] tb)).alloc (.cells #[c0, c1, c2] tc)).heap.size = w.heap.size + 1 + 1 + 1 := by
 have la := loc_new w a0 a1 a2 ta
 have lb := loc_new (w.alloc (.cells #[a0, a1, a2] ta)) b0 b1 b2 tb
 have lc := loc_new ((w.alloc (.cells #[a0, a1, a2] ta)).alloc (.cells #[b0, b1, b2] tb)) c0 c1 c2 tc
 have bB := below_alloc (w.alloc (.cells #[a0, a1, a2] ta)) (.cells #[b0, b1, b2] tb)
 have bC := below_alloc ((w.alloc (.cells #[a0, a1, a2] ta)).alloc (.cells #[b0, b1, b2] tb)) (.cells #[c0, c1, c2] tc)
 refine ⟨(la.later bB).later bC, ?_, ?_, below_trans (below_trans (below_alloc w _) bB) bC, by simp [World.size_alloc]⟩
 ·have := lb.later bC
  rwa [World.size_alloc] at this
 ·rwa [World.size_alloc, World.size_alloc] at lc
end Go.Proofs.YtnhackdjplppjaaGreatDoor
namespace Go.Proofs.YtnhackdjplppjaaGreatDoor
open Go.RowKit
theorem dv_of {w : World} {s : Bool} {ao : Option Addr} {ca : Nat} {xs : List Nat} {e : Int} (hr : Rd w .u32 (.slice ao xs.length ca) xs) (sa : Dg.Small 4294967296 xs) (hn : Dg.Norm xs) :
  Dv w (.agg #[.bool s, .slice ao xs.length ca, .int .i64 e]) ⟨s, Dg.vl 4294967296 xs, e⟩ := by
 have h := Dg.eq_dg 4294967296 (by omega) xs _ sa hn rfl
 refine ⟨_, rfl, ?_⟩
 simp only
 rw [← h]
 exact hr
set_option maxHeartbeats 1600000 in
theorem dtimes_any (v u : Value) (a b : Trip) (w : World) (hv : Dv w v a) (hu : Dv w u b) (hLa : (Dg.dg 4294967296 a.n).length ≤ 100000) (hLb : (Dg.dg 4294967296 b.n).length ≤ 100000)
  (ha1 : -100000 ≤ a.e) (ha2 : a.e ≤ 100000) (hb1 : -100000 ≤ b.e) (hb2 : b.e ≤ 100000) :
  Calls Tryz.prog 126 #[v, u] w (DRes w (timesT a b)) := by
 obtain ⟨s0, rfl, ra⟩ := hv
 obtain ⟨ao, ca, rfl⟩ := ra.shape
 obtain ⟨s1, rfl, rb⟩ := hu
 obtain ⟨bo, cb, rfl⟩ := rb.shape
 obtain ⟨sa, an, ae⟩ := a
 obtain ⟨sb, bn, be⟩ := b
 simp only at ra rb hLa hLb ha1 ha2 hb1 hb2 ⊢
 have HTI : Hid (∀ w1, Below w.heap.size w w1 → Calls Tryz.prog 173 #[.slice ao (Dg.dg 4294967296 an).length ca, .slice bo (Dg.dg 4294967296 bn).length cb] w1 (Num w1 (an * bn))) := fun w1 b1 => by
  have := times_any _ _ _ _ w1 (ra.later b1) (rb.later b1) (Dg.small_dg _ _ (by omega)) (Dg.small_dg _ _ (by omega)) (by omega) (by omega)
  rw [Dg.vl_dg _ _ (by omega), Dg.vl_dg _ _ (by omega)] at this
  exact this
 unfold timesT
 simp only
 obtain ⟨X, hX⟩ : ∃ X, an * bn = X := ⟨_, rfl⟩
 obtain ⟨ma, hma⟩ : ∃ m, (Dg.dg 4294967296 an).length = m := ⟨_, rfl⟩
 obtain ⟨mb, hmb⟩ : ∃ m, (Dg.dg 4294967296 bn).length = m := ⟨_, rfl⟩
 rw [hX, hma, hmb] at HTI
 rw [hX, hma, hmb]
 clear hX hma hmb ra rb hLa hLb
 obtain ⟨la, lb, lc, b01, sW⟩ := locals3 w (.bool sa) (.slice ao ma ca) (.int .i64 ae) (.bool sb) (.slice bo mb cb) (.int .i64 be) (.bool false) (.slice none 0 0) (.int .i64 0) 96 96 96
 clear sW
 obtain ⟨W, hW⟩ : ∃ W, (((w.alloc (.cells #[.bool sa, .slice ao ma ca, .int .i64 ae] 96)).alloc (.cells #[.bool sb, .slice bo mb cb, .int .i64 be] 96)).alloc (.cells #[.bool false, .slice none 0 0, .int .i64 0] 96)) = W := ⟨_, rfl⟩
 rw [hW] at la lb lc b01
 have bd : Below W.heap.size W W.drew := (Below.refl _ _).drew
 have la := la.later bd
 have lb := lb.later bd
 have lc := lc.later bd
 have b02 := below_trans b01 bd
 rw [← hW] at la lb lc b02
 clear bd b01 hW
 obtain ⟨-, ⟨ca0, ca1, ca2⟩, -⟩ := id la
 obtain ⟨-, ⟨cb0, cb1, cb2⟩, -⟩ := id lb
 have ne3 : w.heap.size + 1 + 1 ≠ w.heap.size := by omega
 have ne4 : w.heap.size ≠ w.heap.size + 1 + 1 := by omega
 have e4 : IntKind.i64.wrap (ae + be) = ae + be := IntWalk.i64_in _ ⟨by omega, by omega⟩
 go_enter Tryz.func126, Tryz.ntmps126
 go_wp2_with fail
 go_region_held3 (fun wq => (wq.cell? ⟨w.heap.size, 0, none⟩ = some (.bool sa) ∧ wq.cell? ⟨w.heap.size, 1, none⟩ = some (.slice ao ma ca) ∧ wq.cell? ⟨w.heap.size, 2, none⟩ = some (.int .i64 ae)) ∧ wq.cell? ⟨w.heap.size + 1, 0, none⟩ = some (.bool sb) ∧ wq.cell? ⟨w.heap.size + 1, 1, none⟩ = some (.slice bo mb cb) ∧ wq.cell? ⟨w.heap.size + 1, 2, none⟩ = some (.int .i64 be)) (go_keep) (first
  | (go_at_call 172; refine (digits_any sa ao ma ca ae _).mono ?_; rintro z w3 ⟨rfl, b3⟩; have la3 := la.later b3; have lb3 := lb.later b3; have lc3 := lc.later b3; have b03 := below_trans b02 b3; obtain ⟨-, ⟨p0, p1, p2⟩, -⟩ := id la3; obtain ⟨-, ⟨p3, p4, p5⟩, -⟩ := id lb3; clear b02)
  | (go_at_call 172; refine (digits_any sb bo mb cb be w3).mono ?_; rintro z w4 ⟨rfl, b4⟩; have la4 := la3.later b4; have lb4 := lb3.later b4; have lc4 := lc3.later b4; have b04 := below_trans b03 b4; obtain ⟨-, ⟨q0, q1, q2⟩, -⟩ := id la4; obtain ⟨-, ⟨q3, q4, q5⟩, -⟩ := id lb4)
  | (go_at_call 173; refine (HTI.out w4 b04).mono ?_; rintro z w5 ⟨vs, rfl, o5, b5⟩; have la5 := la4.later b5; have lb5 := lb4.later b5; have lc5 := lc4.later b5; have b05 := below_trans b04 b5; obtain ⟨-, ⟨t0, t1, t2⟩, -⟩ := id la5; obtain ⟨-, ⟨t3, t4, t5⟩, -⟩ := id lb5; obtain ⟨so, sc, hvs⟩ := o5.rd.shape; subst hvs)
  | (go_at_call 159; refine (new_any (sa != sb) so _ sc _ w5).mono ?_; rintro z w6 ⟨rfl, b6⟩; have la6 := la5.later b6; have lb6 := lb5.later b6; have lc6 := lc5.later b6; have b06 := below_trans b05 b6; obtain ⟨-, ⟨u0, u1, u2⟩, -⟩ := id la6; obtain ⟨-, ⟨u3, u4, u5⟩, -⟩ := id lb6; obtain ⟨hl6, ⟨d0, d1, d2⟩, f0, f1, f2⟩ := id lc6))
 all_goals go_wp2
 obtain ⟨-, ⟨g0, g1, g2⟩, -⟩ := loc_set lc6 (.bool (sa != sb)) (.slice so (Dg.dg 4294967296 X).length sc) (.int .i64 (ae + be))
 have o7 := (o5.later b6).apart3 (b := w.heap.size + 1 + 1) lc4.1 (.bool (sa != sb)) (.slice so (Dg.dg 4294967296 X).length sc) (.int .i64 (ae + be))
 have b8 := below_set3 b06 (show w.heap.size ≤ w.heap.size + 1 + 1 by omega) (.bool (sa != sb)) (.slice so (Dg.dg 4294967296 X).length sc) (.int .i64 (ae + be))
 refine bodyPost_ret (v := .agg #[.bool (sa != sb), .slice so (Dg.dg 4294967296 X).length sc, .int .i64 (ae + be)]) (by simp [results, Tryz.results126, go_sem, g0, g1, g2]) rfl ?_
 exact ⟨_, rfl, o7.lower b04.size, b8⟩
end Go.Proofs.YtnhackdjplppjaaGreatDoor
namespace Go.Proofs.YtnhackdjplppjaaGreatDoor
open Go.RowKit
theorem dg16_len (n L : Nat) (h : (Dg.dg 4294967296 n).length ≤ L) : (Dg.dg 65536 n).length ≤ 2 * L := by
 apply Dg.dg_len_le 65536 _ _ (by omega)
 have h1 := Dg.vl_lt 4294967296 (Dg.dg 4294967296 n) (Dg.small_dg _ _ (by omega))
 rw [Dg.vl_dg _ _ (by omega)] at h1
 have h2 : 4294967296 ^ (Dg.dg 4294967296 n).length ≤ 4294967296 ^ L := Nat.pow_le_pow_right (by omega) h
 rw [pow_two]
 omega
end Go.Proofs.YtnhackdjplppjaaGreatDoor
namespace Go.Proofs.YtnhackdjplppjaaGreatDoor
theorem dchk_of {n : Nat} {e : Int} (h : (Dg.dg 4294967296 n).length ≤ 1200) (h1 : -20000 ≤ e) (h2 : e ≤ 20000) : dchk (Dg.dg 4294967296 n) e = 0 := by
 unfold dchk
 rw [chk_of (Dg.norm_dg _ _ (by omega)) h, if_pos rfl, if_neg (by omega)]
end Go.Proofs.YtnhackdjplppjaaGreatDoor
namespace Go.Proofs.YtnhackdjplppjaaGreatDoor
open Go.RowKit
def signT (t : Trip) : Int := if t.n = 0 then 0 else if t.s then -1 else 1
theorem dsign_any (v : Value) (t : Trip) (w : World) (hv : Dv w v t) : Calls Tryz.prog 166 #[v] w fun z w' => z = .returned (.int .i64 (signT t)) ∧ Below w.heap.size w w' := by
 obtain ⟨s0, rfl, hr⟩ := hv
 obtain ⟨ao, ca, rfl⟩ := hr.shape
 obtain ⟨ts, n, e⟩ := t
 have hnl := Dg.dg_nil_iff 4294967296 n (by omega)
 simp only at hr ⊢
 unfold signT
 simp only
 obtain ⟨m, hm⟩ : ∃ m, (Dg.dg 4294967296 n).length = m := ⟨_, rfl⟩
 have hz : m = 0 ↔ n = 0 := by rw [← hm, List.length_eq_zero_iff]; exact hnl
 rw [hm]
 have bA := below_alloc w (.cells #[.bool ts, .slice ao m ca, .int .i64 e] 96)
 clear hm hr hnl
 by_cases h : n = 0
 ·rw [if_pos h]
  have hm0 := hz.2 h
  subst hm0
  clear hz h
  go_enter Tryz.func166, Tryz.ntmps166
  go_wp2
  go_ret
  exact ⟨rfl, bA⟩
 ·rw [if_neg h]
  have hm0 : ((m : Int) == 0) = false := by
   have : ¬m = 0 := fun e => h (hz.1 e)
   simp; exact this
  clear hz h
  cases ts
  ·go_enter Tryz.func166, Tryz.ntmps166
   go_wp2
   go_ret
   exact ⟨rfl, bA⟩
  ·go_enter Tryz.func166, Tryz.ntmps166
   go_wp2
   go_ret
   exact ⟨rfl, bA⟩
end Go.Proofs.YtnhackdjplppjaaGreatDoor
namespace Go.Proofs.YtnhackdjplppjaaGreatDoor
open Go.RowKit
theorem bitLen_shl (q k : Nat) (h : q ≠ 0) : bitLen (2 ^ k * q) = k + bitLen q := by
 have hd : 2 ^ k * q / 2 ^ k = q := Nat.mul_div_cancel_left q (Nat.pow_pos (by omega))
 have := bitLen_shift (2 ^ k * q) k (by rw [hd]; exact h)
 rwa [hd] at this
theorem bitLen_of_len2 {a L : Nat} (h : (Dg.dg 4294967296 a).length ≤ L) : bitLen a ≤ 32 * L := by
 refine bitLen_le_of a _ ?_
 rw [Nat.pow_mul]
 have h1 := Dg.vl_lt 4294967296 _ (Dg.small_dg 4294967296 a (by omega))
 rw [Dg.vl_dg _ _ (by omega)] at h1
 exact Nat.lt_of_lt_of_le h1 (Nat.pow_le_pow_right (by omega) h)
end Go.Proofs.YtnhackdjplppjaaGreatDoor
namespace Go.Proofs.YtnhackdjplppjaaGreatDoor
open Go.RowKit
def spotK (R D L : Int) (gr : Bool) (n : Nat) (e : Int) : Int :=
 if (decide (powerR R D ((bitLen n : Int) - 1 + e) < L) && gr) = true then L else powerR R D ((bitLen n : Int) - 1 + e)
def heldB (R D L G : Int) (gr : Bool) (n : Nat) (e : Int) : Bool :=
 decide (n = 0 ∨ (L ≤ spotK R D L gr n e ∧ spotK R D L gr n e ≤ G ∧ (widthN R : Int) * spotK R D L gr n e ≤ e + (tz n : Int)))
def inR (R D L G : Int) (gr : Bool) (m : Nat) (e : Int) : Bool :=
 decide (m = 0 ∨ ((widthN R : Int) * L ≤ e ∧ e + (bitLen m : Int) ≤ (widthN R : Int) * (G + D) ∧ (gr = true ∨ L ≤ powerR R D (e + (bitLen m : Int) - 1)) ∧ (widthN R : Int) * max L (powerR R D (e + (bitLen m : Int) - 1)) ≤ e))
theorem bare_top {t : Trip} (h : t.n ≠ 0) : (bare t).n ≠ 0 ∧ (bare t).e = t.e + (tz t.n : Int) ∧ (bare t).e + (bitLen (bare t).n : Int) = t.e + (bitLen t.n : Int) := by
 obtain ⟨m, hm⟩ := tz_spec h
 have e : (bare t).n = 2 * m + 1 ∧ (bare t).e = t.e + (tz t.n : Int) := by
  unfold bare
  rw [if_neg h]
  exact ⟨div_tz hm, rfl⟩
 have hb : bitLen t.n = tz t.n + bitLen (2 * m + 1) := by
  have := bitLen_shl (2 * m + 1) (tz t.n) (by omega)
  rwa [← hm] at this
 refine ⟨by omega, e.2, ?_⟩
 rw [e.1, e.2, hb]
 omega
theorem held_in {R D L G : Int} (gr : Bool) (t : Trip) (hLG : L ≤ G) : inR R D L G gr (bare t).n (bare t).e = heldB R D L G gr t.n t.e := by
 unfold inR heldB
 refine decide_eq_decide.2 ?_
 by_cases h : t.n = 0
 ·have : (bare t).n = 0 := by unfold bare; rw [if_pos h]
  simp only [h, this, true_or]
 ·obtain ⟨h1, h2, h3⟩ := bare_top h
  rw [h3]
  simp only [h1, h, false_or, h2]
  unfold spotK
  rw [show t.e + (bitLen t.n : Int) - 1 = (bitLen t.n : Int) - 1 + t.e by omega]
  obtain ⟨p, hp⟩ : ∃ p, (bitLen t.n : Int) - 1 + t.e = p := ⟨_, rfl⟩
  rw [show t.e + (bitLen t.n : Int) = p + 1 by omega, hp]
  clear h1 h2 h3 h
  obtain ⟨z, hz⟩ : ∃ z, t.e + (tz t.n : Int) = z := ⟨_, rfl⟩
  rw [hz]
  have hw : powerR R D p = p / (widthN R : Int) - (D - 1) := rfl
  obtain ⟨k, hk⟩ : ∃ k, powerR R D p = k := ⟨_, rfl⟩
  rw [hk] at hw ⊢
  clear hp hz hk
  unfold widthN at *
  cases gr <;> by_cases h16 : R = 16 <;> simp only [h16, if_true, if_false] at hw ⊢ <;> by_cases hl : k < L <;> simp [hl] <;> omega
end Go.Proofs.YtnhackdjplppjaaGreatDoor
namespace Go.Proofs.YtnhackdjplppjaaGreatDoor
open Go.RowKit
theorem bits_of {d j k : Nat} (h1 : 2 ^ j ≤ d) (h2 : d < 2 ^ k) : j < bitLen d ∧ bitLen d ≤ k := by
 have a := lt_bits d j
 have b := bitLen_le_of d k h2
 omega
theorem power_spot {R D k : Int} {d : Nat} (hD : 1 ≤ D) (h1 : 2 ^ (widthN R * (D - 1).toNat) ≤ d) (h2 : d < 2 ^ (widthN R * D.toNat)) : powerR R D ((bitLen d : Int) - 1 + (widthN R : Int) * k) = k := by
 obtain ⟨b1, b2⟩ := bits_of h1 h2
 unfold powerR
 obtain ⟨b, hb⟩ : ∃ b, bitLen d = b := ⟨_, rfl⟩
 rw [hb] at b1 b2 ⊢
 unfold widthN at *
 split at b1 <;> simp_all <;> omega
theorem power_low {R D k : Int} {d : Nat} (hD : 1 ≤ D) (h2 : d < 2 ^ (widthN R * D.toNat)) : powerR R D ((bitLen d : Int) - 1 + (widthN R : Int) * k) ≤ k := by
 have b2 := bitLen_le_of d _ h2
 unfold powerR
 obtain ⟨b, hb⟩ : ∃ b, bitLen d = b := ⟨_, rfl⟩
 rw [hb] at b2 ⊢
 unfold widthN at *
 split at b2 <;> simp_all <;> omega
theorem spot_is {R D L k : Int} {gr : Bool} {d : Nat} (hD : 1 ≤ D) (h2 : d < 2 ^ (widthN R * D.toNat)) (hk : L ≤ k) (hf : 2 ^ (widthN R * (D - 1).toNat) ≤ d ∨ (gr = true ∧ k = L)) : spotK R D L gr d ((widthN R : Int) * k) = k := by
 unfold spotK
 rcases hf with h1 | ⟨rfl, rfl⟩
 ·rw [power_spot hD h1 h2, decide_eq_false (by omega)]
  rfl
 ·have h := power_low (k := k) hD h2
  by_cases c : powerR R D ((bitLen d : Int) - 1 + (widthN R : Int) * k) < k
  ·rw [decide_eq_true c]
   rfl
  ·rw [decide_eq_false c]
   show powerR R D ((bitLen d : Int) - 1 + (widthN R : Int) * k) = k
   omega
theorem held_spot {R D L G k : Int} {gr : Bool} {d : Nat} (hD : 1 ≤ D) (h2 : d < 2 ^ (widthN R * D.toNat)) (hk : L ≤ k) (hf : 2 ^ (widthN R * (D - 1).toNat) ≤ d ∨ (gr = true ∧ k = L)) (h0 : d ≠ 0) : heldB R D L G gr d ((widthN R : Int) * k) = decide (k ≤ G) := by
 unfold heldB
 rw [spot_is hD h2 hk hf]
 refine decide_eq_decide.2 ?_
 omega
end Go.Proofs.YtnhackdjplppjaaGreatDoor
namespace Go.Proofs.YtnhackdjplppjaaGreatDoor
open Go.RowKit
theorem topQ_one {n : Nat} (h : n ≠ 0) (E : Int) : topQ n 1 E = (bitLen n : Int) - 1 + E := by
 obtain ⟨b1, b2, b3⟩ := bitLen_hi n h
 have t1 := (top_iff n 1 0 (bitLen n - 1) h (by omega)).1 (by simpa using b2)
 have t2 : ¬((bitLen n : Nat) : Int) ≤ topQ n 1 0 + ((0 : Nat) : Int) := fun c => by
  have := (top_iff n 1 0 (bitLen n) h (by omega)).2 c
  simp at this
  omega
 rw [topQ_zero]
 omega
theorem one_parts (s : Bool) (n : Nat) (e k : Int) (hk : k ≤ e + (tz n : Int)) : numP n (e - k) % denP 1 (e - k) = 0 ∧ bare ⟨s, numP n (e - k) / denP 1 (e - k), k⟩ = bare ⟨s, n, e⟩ := by
 by_cases h0 : n = 0
 ·subst h0
  have e1 : numP 0 (e - k) = 0 := by rw [numP_pow]; simp
  rw [e1]
  simp [bare]
 ·by_cases hle : k ≤ e
  ·have e1 : denP 1 (e - k) = 1 := by rw [denP_pow, show (-(e - k)).toNat = 0 by omega]
   rw [e1, numP_pow, Nat.mod_one, Nat.div_one]
   refine ⟨rfl, ?_⟩
   refine bare_of_V (K := (max (-k) 0).toNat) (by simp only; omega) (by simp only; omega) ?_
   rw [V_nat, V_nat]
   simp only
   rw [Nat.mul_assoc, ← Nat.pow_add, show (e - k).toNat + (k + ((max (-k) 0).toNat : Int)).toNat = (e + ((max (-k) 0).toNat : Int)).toNat by omega]
  ·obtain ⟨m, hm⟩ := tz_spec h0
   obtain ⟨q, hq⟩ : ∃ q, n = q * 2 ^ (k - e).toNat := by
    refine ⟨2 ^ (tz n - (k - e).toNat) * (2 * m + 1), ?_⟩
    rw [Nat.mul_right_comm, ← Nat.pow_add, show tz n - (k - e).toNat + (k - e).toNat = tz n by omega]
    exact hm
   have e1 : numP n (e - k) = n := by rw [numP_pow, show (e - k).toNat = 0 by omega, Nat.pow_zero, Nat.mul_one]
   have e2 : denP 1 (e - k) = 2 ^ (k - e).toNat := by rw [denP_pow, Nat.one_mul, show -(e - k) = k - e by omega]
   rw [e1, e2, hq, Nat.mul_mod_left, Nat.mul_div_cancel _ (two_pos _)]
   refine ⟨rfl, ?_⟩
   refine bare_of_V (K := (max (-e) 0).toNat) (by simp only; omega) (by simp only; omega) ?_
   rw [V_nat, V_nat]
   simp only
   rw [Nat.mul_assoc, ← Nat.pow_add, show (k - e).toNat + (e + ((max (-e) 0).toNat : Int)).toNat = (k + ((max (-e) 0).toNat : Int)).toNat by omega]
theorem held_round {R D L G : Int} {gr s : Bool} {n : Nat} {e way : Int} (h1 : 1 ≤ D) (hLG : L ≤ G) (h0 : n ≠ 0) (hh : heldB R D L G gr n e = true) :
  (roundT R D L G gr s n 1 e way).ov = false ∧ ((roundT R D L G gr s n 1 e way).un = false ∨ gr = true) ∧ bare ⟨(roundT R D L G gr s n 1 e way).s, (roundT R D L G gr s n 1 e way).d, (widthN R : Int) * (roundT R D L G gr s n 1 e way).p⟩ = bare ⟨s, n, e⟩ := by
 have hM : (1 : Nat) ≠ 0 := by omega
 have hs : L ≤ spotK R D L gr n e ∧ spotK R D L gr n e ≤ G ∧ (widthN R : Int) * spotK R D L gr n e ≤ e + (tz n : Int) := by
  unfold heldB at hh
  rcases of_decide_eq_true hh with h | h
  ·exact absurd h h0
  ·exact h
 have hc : cutP R D L gr n 1 e = spotK R D L gr n e := by
  unfold cutP spotK
  rw [topQ_one h0]
 obtain ⟨p1, p2⟩ := one_parts s n e ((widthN R : Int) * spotK R D L gr n e) hs.2.2
 have hl : leftP R D L gr n 1 e = 0 := by
  unfold leftP shP
  rw [hc]
  exact p1
 have hd : digP R D L gr s n 1 e way = wholeP R D L gr n 1 e := by
  unfold digP
  rw [if_neg]
  rintro ⟨c, -⟩
  exact of_decide_eq_false c hl
 obtain ⟨c1, c2⟩ := dig_short R D L gr n 1 e h1 h0 hM (cutP R D L gr n 1 e)
 have hw : wholeP R D L gr n 1 e = numP n (e - (widthN R : Int) * spotK R D L gr n e) / denP 1 (e - (widthN R : Int) * spotK R D L gr n e) := by
  unfold wholeP shP
  rw [hc]
 rw [roundT_flat gr s n 1 e way h1 hLG h0 hM, hd, c1, c2, hc]
 refine ⟨decide_eq_false (by omega), ?_, ?_⟩
 ·by_cases hg : gr = true
  ·exact .inr hg
  ·refine .inl (decide_eq_false fun c => ?_)
   have e1 : spotK R D L gr n e = powerR R D (topQ n 1 e) := by
    unfold spotK
    rw [topQ_one h0, if_neg]
    intro c2
    exact hg (Bool.and_eq_true_iff.1 c2).2
   omega
 ·show bare ⟨s, wholeP R D L gr n 1 e, (widthN R : Int) * (if wholeP R D L gr n 1 e = 0 then 0 else spotK R D L gr n e)⟩ = _
  by_cases hz : wholeP R D L gr n 1 e = 0
  ·rw [← p2, ← hw, hz]
   simp [bare]
  ·rw [if_neg hz, hw, p2]
theorem round_spot {R D L G : Int} {gr qs : Bool} {N M : Nat} {E way : Int} (h1 : 1 ≤ D) (hLG : L ≤ G) (hN : N ≠ 0) (hM : M ≠ 0) (ho : (roundT R D L G gr qs N M E way).ov = false) (hu : (roundT R D L G gr qs N M E way).un = false ∨ gr = true) :
  ((roundT R D L G gr qs N M E way).d = 0 ∧ (roundT R D L G gr qs N M E way).p = 0) ∨ ((roundT R D L G gr qs N M E way).d ≠ 0 ∧ L ≤ (roundT R D L G gr qs N M E way).p ∧ (roundT R D L G gr qs N M E way).p ≤ G ∧ (roundT R D L G gr qs N M E way).d < 2 ^ (widthN R * D.toNat) ∧ (2 ^ (widthN R * (D - 1).toNat) ≤ (roundT R D L G gr qs N M E way).d ∨ (gr = true ∧ (roundT R D L G gr qs N M E way).p = L))) := by
 rw [roundT_flat gr qs N M E way h1 hLG hN hM] at ho hu ⊢
 simp only at ho hu ⊢
 have hov := of_decide_eq_false ho
 by_cases hz : carD R D (digP R D L gr qs N M E way) = 0
 ·exact .inl ⟨hz, if_pos hz⟩
 ·refine .inr ⟨hz, ?_⟩
  rw [if_neg hz]
  have hwl := whole_lt R D L gr N M E h1 hN hM
  have hge := dig_ge R D L gr qs N M E way
  have hle : digP R D L gr qs N M E way ≤ wholeP R D L gr N M E + 1 := by
   unfold digP
   split <;> omega
  have hpw : 2 ^ (widthN R * (D - 1).toNat) < 2 ^ (widthN R * D.toNat) := by
   refine Nat.pow_lt_pow_right (by omega) ?_
   exact Nat.mul_lt_mul_of_pos_left (by omega) (by have := widthN_le R; omega)
  have hcut : L ≤ cutP R D L gr N M E ∧ (cutP R D L gr N M E = powerR R D (topQ N M E) ∨ (gr = true ∧ cutP R D L gr N M E = L)) := by
   unfold cutP
   by_cases hc : (decide (powerR R D (topQ N M E) < L) && gr) = true
   ·rw [if_pos hc]
    exact ⟨Int.le_refl _, .inr ⟨(Bool.and_eq_true_iff.1 hc).2, rfl⟩⟩
   ·rw [if_neg hc]
    refine ⟨?_, .inl rfl⟩
    rcases hu with hu | hu
    ·have := of_decide_eq_false hu
     omega
    ·rw [hu, Bool.and_true] at hc
     have : ¬powerR R D (topQ N M E) < L := fun c => hc (decide_eq_true c)
     omega
  unfold carD carP at *
  by_cases hq : digP R D L gr qs N M E way = 2 ^ (widthN R * D.toNat)
  ·rw [if_pos hq] at hov ⊢
   rw [if_pos hq]
   exact ⟨by omega, by omega, hpw, .inl (Nat.le_refl _)⟩
  ·rw [if_neg hq] at hov ⊢
   rw [if_neg hq]
   refine ⟨hcut.1, by omega, by omega, ?_⟩
   rcases hcut.2 with h | h
   ·refine .inl (Nat.le_trans ?_ hge)
    have := mt (seek_iff R D (powerR R D (topQ N M E)) N M E h1 hN hM).1 (Int.lt_irrefl _)
    rw [lt_bits] at this
    unfold wholeP shP
    rw [h]
    omega
   ·exact .inr h
end Go.Proofs.YtnhackdjplppjaaGreatDoor

/-
  Texts laid together: Dy9, Dl3, Dl8, Dl9, Dt1, Dk1, Gm2, Gh1.
-/
import Derived.ChangeMaps4
import Derived.Deep.DeepCutAuto
import Derived.Test.YtnhackdjplppjaaGreatDoorAc23
import Derived.Test.YtnhackdjplppjaaGreatDoorAc17
set_option maxRecDepth 100000
namespace Go.Proofs.YtnhackdjplppjaaGreatDoor
open Go.RowKit
def signT (t : Trip) : Int := if t.n = 0 then 0 else if t.s then -1 else 1
theorem dsign_any (v : Value) (t : Trip) (w : World) (hv : Dv w v t) : Calls Tryz.prog 166 #[v] w fun z w' => z = .returned (.int .i64 (signT t)) ∧ Below w.heap.size w w' := by
 obtain ⟨s0, rfl, hr⟩ := hv
 obtain ⟨ao, ca, rfl⟩ := hr.shape
 obtain ⟨ts, n, e⟩ := t
 have hnl := Dg.dg_nil_iff 4294967296 n (by omega)
 simp only at hr ⊢
 unfold signT
 simp only
 obtain ⟨m, hm⟩ : ∃ m, (Dg.dg 4294967296 n).length = m := ⟨_, rfl⟩
 have hz : m = 0 ↔ n = 0 := by rw [← hm, List.length_eq_zero_iff]; exact hnl
 rw [hm]
 have bA := below_alloc w (.cells #[.bool ts, .slice ao m ca, .int .i64 e] 96)
 clear hm hr hnl
 by_cases h : n = 0
 ·rw [if_pos h]
  have hm0 := hz.2 h
  subst hm0
  clear hz h
  go_enter Tryz.func166, Tryz.ntmps166
  go_wp2
  go_ret
  exact ⟨rfl, bA⟩
 ·rw [if_neg h]
  have hm0 : ((m : Int) == 0) = false := by
   have : ¬m = 0 := fun e => h (hz.1 e)
   simp; exact this
  clear hz h
  cases ts
  ·go_enter Tryz.func166, Tryz.ntmps166
   go_wp2
   go_ret
   exact ⟨rfl, bA⟩
  ·go_enter Tryz.func166, Tryz.ntmps166
   go_wp2
   go_ret
   exact ⟨rfl, bA⟩
theorem dopp_any (s : Bool) (ao : Option Addr) (la ca : Nat) (e : Int) (w : World) :
  Calls Tryz.prog 223 #[.agg #[.bool s, .slice ao la ca, .int .i64 e]] w fun z w' => z = .returned (.agg #[.bool (!s), .slice ao la ca, .int .i64 e]) ∧ Below w.heap.size w w' := by
 go_enter Tryz.func223, Tryz.ntmps223
 go_wp2
 go_returns
 exact ⟨rfl, ((Below.refl _ _).alloc (Nat.le_refl _) _).alloc (by simp [World.size_alloc]) _⟩
set_option maxHeartbeats 1600000 in
theorem dminus_any (v u : Value) (a b : Trip) (w : World) (hv : Dv w v a) (hu : Dv w u b) (hLa : (Dg.dg 4294967296 a.n).length ≤ 100000) (hLb : (Dg.dg 4294967296 b.n).length ≤ 100000)
  (ha1 : -100000 ≤ a.e) (ha2 : a.e ≤ 100000) (hb1 : -100000 ≤ b.e) (hb2 : b.e ≤ 100000) :
  Calls Tryz.prog 182 #[v, u] w (DRes w (plusT a (negT b))) := by
 obtain ⟨s0, rfl, ra⟩ := hv
 obtain ⟨ao, ca, rfl⟩ := ra.shape
 obtain ⟨s1, rfl, rb⟩ := hu
 obtain ⟨bo, cb, rfl⟩ := rb.shape
 obtain ⟨sa, an, ae⟩ := a
 obtain ⟨sb, bn, be⟩ := b
 simp only at ra rb hLa hLb ha1 ha2 hb1 hb2 ⊢
 have HP : Hid (∀ w1, Below w.heap.size w w1 → Calls Tryz.prog 111 #[.agg #[.bool sa, .slice ao (Dg.dg 4294967296 an).length ca, .int .i64 ae], .agg #[.bool (!sb), .slice bo (Dg.dg 4294967296 bn).length cb, .int .i64 be]] w1 (DRes w1 (plusT ⟨sa, an, ae⟩ (negT ⟨sb, bn, be⟩)))) := fun w1 b1 =>
  dplus_any _ _ ⟨sa, an, ae⟩ (negT ⟨sb, bn, be⟩) w1 ⟨_, rfl, ra.later b1⟩ ⟨_, rfl, rb.later b1⟩ hLa hLb ha1 ha2 hb1 hb2
 obtain ⟨ma, hma⟩ : ∃ m, (Dg.dg 4294967296 an).length = m := ⟨_, rfl⟩
 obtain ⟨mb, hmb⟩ : ∃ m, (Dg.dg 4294967296 bn).length = m := ⟨_, rfl⟩
 rw [hma, hmb] at HP ⊢
 obtain ⟨⟨rs, rn, re⟩, hrr⟩ : ∃ r, plusT ⟨sa, an, ae⟩ (negT ⟨sb, bn, be⟩) = r := ⟨_, rfl⟩
 rw [hrr] at HP ⊢
 clear hma hmb hrr ra rb hLa hLb
 obtain ⟨la, lb, lc, b01, -⟩ := locals3 w (.bool sa) (.slice ao ma ca) (.int .i64 ae) (.bool sb) (.slice bo mb cb) (.int .i64 be) (.bool false) (.slice none 0 0) (.int .i64 0) 96 96 96
 obtain ⟨W, hW⟩ : ∃ W, (((w.alloc (.cells #[.bool sa, .slice ao ma ca, .int .i64 ae] 96)).alloc (.cells #[.bool sb, .slice bo mb cb, .int .i64 be] 96)).alloc (.cells #[.bool false, .slice none 0 0, .int .i64 0] 96)) = W := ⟨_, rfl⟩
 rw [hW] at la lb lc b01
 have bd : Below W.heap.size W W.drew := (Below.refl _ _).drew
 replace la := la.later bd
 replace lb := lb.later bd
 replace lc := lc.later bd
 have b02 := below_trans b01 bd
 rw [← hW] at la lb lc b02
 clear bd b01 hW
 obtain ⟨-, ⟨ca0, ca1, ca2⟩, -⟩ := id la
 obtain ⟨-, ⟨cb0, cb1, cb2⟩, -⟩ := id lb
 have ne3 : w.heap.size + 1 + 1 ≠ w.heap.size := by omega
 have ne4 : w.heap.size ≠ w.heap.size + 1 + 1 := by omega
 go_enter Tryz.func182, Tryz.ntmps182
 go_wp2_with fail
 go_region_held3 (fun wq => (wq.cell? ⟨w.heap.size, 0, none⟩ = some (.bool sa) ∧ wq.cell? ⟨w.heap.size, 1, none⟩ = some (.slice ao ma ca) ∧ wq.cell? ⟨w.heap.size, 2, none⟩ = some (.int .i64 ae)) ∧ wq.cell? ⟨w.heap.size + 1, 0, none⟩ = some (.bool sb) ∧ wq.cell? ⟨w.heap.size + 1, 1, none⟩ = some (.slice bo mb cb) ∧ wq.cell? ⟨w.heap.size + 1, 2, none⟩ = some (.int .i64 be)) (go_keep) (first
  | (go_at_call 223; refine (dopp_any sb bo mb cb be _).mono ?_; rintro z w5 ⟨rfl, b5⟩; have la5 := la.later b5; have lb5 := lb.later b5; have lc5 := lc.later b5; have b05 := below_trans b02 b5; obtain ⟨-, ⟨t0, t1, t2⟩, -⟩ := id la5; obtain ⟨-, ⟨t3, t4, t5⟩, -⟩ := id lb5)
  | (go_at_call 111; refine (HP.out w5 b05).mono ?_; rintro z w6 ⟨vr, rfl, o6, b6⟩; have la6 := la5.later b6; have lb6 := lb5.later b6; have lc6 := lc5.later b6; have b06 := below_trans b05 b6; obtain ⟨-, ⟨u0, u1, u2⟩, -⟩ := id la6; obtain ⟨-, ⟨u3, u4, u5⟩, -⟩ := id lb6; obtain ⟨so, sc, hvt⟩ := o6.rd.shape; subst hvt; obtain ⟨hl6, ⟨d0, d1, d2⟩, f0, f1, f2⟩ := id lc6))
 all_goals go_wp2
 have hlt := lc5.1
 obtain ⟨-, ⟨g0, g1, g2⟩, -⟩ := loc_set lc6 (.bool rs) (.slice so (Dg.dg 4294967296 rn).length sc) (.int .i64 re)
 have b8 := below_set3 b06 (show w.heap.size ≤ w.heap.size + 1 + 1 by omega) (.bool rs) (.slice so (Dg.dg 4294967296 rn).length sc) (.int .i64 re)
 refine bodyPost_ret (v := .agg #[.bool rs, .slice so (Dg.dg 4294967296 rn).length sc, .int .i64 re]) (by simp [results, Tryz.results182, go_sem, g0, g1, g2]) rfl ?_
 exact ⟨_, rfl, (o6.apart3 hlt _ _ _).lower (by have := b05.size; omega), b8⟩
theorem sign_plus (a b : Trip) : signT (plusT a (negT b)) = sgn (V (a.e.natAbs + b.e.natAbs) a - V (a.e.natAbs + b.e.natAbs) b) := by
 have h1 : -((a.e.natAbs + b.e.natAbs : Nat) : Int) ≤ a.e := by omega
 have h2 : -((a.e.natAbs + b.e.natAbs : Nat) : Int) ≤ (negT b).e := by show _ ≤ b.e; omega
 have h3 := V_plus h1 h2
 rw [V_neg] at h3
 have h4 := sgn_V (a.e.natAbs + b.e.natAbs) (plusT a (negT b))
 rw [h3] at h4
 unfold signT
 rw [← h4]
 congr 1
set_option maxHeartbeats 800000 in
theorem dcompareL_any (v u : Value) (a b : Trip) (w : World) (hv : Dv w v a) (hu : Dv w u b) (hLa : (Dg.dg 4294967296 a.n).length ≤ 100000) (hLb : (Dg.dg 4294967296 b.n).length ≤ 100000)
  (ha1 : -100000 ≤ a.e) (ha2 : a.e ≤ 100000) (hb1 : -100000 ≤ b.e) (hb2 : b.e ≤ 100000) :
  Calls Tryz.prog 141 #[v, u] w fun z w' => z = .returned (.int .i64 (signT (plusT a (negT b)))) ∧ Below w.heap.size w w' := by
 have HM : Hid (∀ w1, Below w.heap.size w w1 → Calls Tryz.prog 182 #[v, u] w1 (DRes w1 (plusT a (negT b)))) := fun w1 b1 => dminus_any v u a b w1 (hv.later b1) (hu.later b1) hLa hLb ha1 ha2 hb1 hb2
 obtain ⟨s0, rfl, ra⟩ := hv
 obtain ⟨ao, ca, rfl⟩ := ra.shape
 obtain ⟨s1, rfl, rb⟩ := hu
 obtain ⟨bo, cb, rfl⟩ := rb.shape
 obtain ⟨T, hT⟩ : ∃ T, plusT a (negT b) = T := ⟨_, rfl⟩
 rw [hT] at HM ⊢
 obtain ⟨ma, hma⟩ : ∃ m, (Dg.dg 4294967296 a.n).length = m := ⟨_, rfl⟩
 obtain ⟨mb, hmb⟩ : ∃ m, (Dg.dg 4294967296 b.n).length = m := ⟨_, rfl⟩
 rw [hma, hmb] at HM ⊢
 clear hT hma hmb ra rb
 have bA := below_trans (below_alloc w (.cells #[.bool a.s, .slice ao ma ca, .int .i64 a.e] 96)) (below_alloc _ (.cells #[.bool b.s, .slice bo mb cb, .int .i64 b.e] 96))
 go_enter Tryz.func141, Tryz.ntmps141
 go_wp2_with fail
 refine (HM.out _ bA).mono ?_
 rintro z w1 ⟨vr, rfl, o1, b1⟩
 have b01 := below_trans bA b1
 go_wp2_with fail
 refine (dsign_any _ T w1 ⟨_, rfl, o1.rd⟩).mono ?_
 rintro z w2 ⟨rfl, b2⟩
 have b02 := below_trans b01 b2
 go_wp2
 go_ret
 exact ⟨rfl, b02⟩
end Go.Proofs.YtnhackdjplppjaaGreatDoor
namespace Go.Proofs.YtnhackdjplppjaaGreatDoor
open Go.RowKit
theorem bare_fits {t : Trip} (h : (Dg.dg 4294967296 t.n).length ≤ 1200) (h1 : -20000 ≤ t.e) (h2 : t.e ≤ 20000) : (Dg.dg 65536 (bare t).n).length ≤ 2400 ∧ -20000 ≤ (bare t).e ∧ (bare t).e ≤ 58400 := by
 have h3 := tz_fits t.n 1200 h
 have h4 := dg16_len t.n 1200 h
 unfold bare
 split
 ·exact ⟨by show ([] : List Nat).length ≤ 2400; simp, by simp, by simp⟩
 ·refine ⟨Nat.le_trans (dg_len_mono 65536 _ t.n (by omega) (Nat.div_le_self _ _)) (by omega), ?_, ?_⟩
  ·simp only; omega
  ·simp only; omega
theorem bare_n_le (t : Trip) : (bare t).n ≤ t.n := by
 unfold bare
 split
 ·exact Nat.zero_le _
 ·exact Nat.div_le_self _ _
end Go.Proofs.YtnhackdjplppjaaGreatDoor
namespace Go.Proofs.YtnhackdjplppjaaGreatDoor
open Go.RowKit
def minusT (t : Trip) : Trip := ⟨!t.s && decide (0 < t.n), t.n, t.e⟩
theorem V_minusT (K : Nat) (t : Trip) : V K (minusT t) = -V K t := by
 rw [← V_neg, V_nat, V_nat]
 unfold minusT negT
 simp only
 by_cases h : 0 < t.n
 ·simp [h]
 ·have h0 : t.n = 0 := by omega
  rw [h0, Nat.zero_mul]
  simp [sz]
theorem sign_V (K : Nat) (t : Trip) : signT t = sgn (V K t) := (sgn_V K t).symm
theorem sign_ref (A B : Trip) : signT (bare (dplusT (bare A) (minusT (bare B)))) = signT (plusT A (negT B)) := by
 have h1 : -((A.e.natAbs + B.e.natAbs : Nat) : Int) ≤ A.e := by omega
 have h2 : -((A.e.natAbs + B.e.natAbs : Nat) : Int) ≤ B.e := by omega
 have h3 : -((A.e.natAbs + B.e.natAbs : Nat) : Int) ≤ (minusT (bare B)).e := bare_e h2
 rw [sign_V (A.e.natAbs + B.e.natAbs), V_bare (dplus_e (bare_e h1) h3), V_dplus (bare_e h1) h3, V_minusT, V_bare h1, V_bare h2, sign_plus]
 congr 1
set_option maxHeartbeats 800000 in
theorem refminus_same (s0 : Value) (t : Trip) (w : World) (hr : Rd w .i64 s0 (Dg.dg 65536 t.n)) : Calls Tryz.prog 23 #[.agg #[.bool t.s, s0, .int .i64 t.e]] w fun z w' => z = .returned (.agg #[.bool (minusT t).s, s0, .int .i64 (minusT t).e]) ∧ Below w.heap.size w w' := by
 obtain ⟨ao, ca, rfl⟩ := hr.shape
 obtain ⟨ts, n, e⟩ := t
 have hnl := Dg.dg_nil_iff 65536 n (by omega)
 simp only at hr ⊢
 unfold minusT
 simp only
 have hz : (0 < (Dg.dg 65536 n).length) ↔ 0 < n := by
  rw [List.length_pos_iff, Ne, hnl]; omega
 obtain ⟨m, hm⟩ : ∃ m, (Dg.dg 65536 n).length = m := ⟨_, rfl⟩
 rw [hm] at hz hr ⊢
 clear hr
 by_cases h : 0 < n
 ·have h6 := hz.2 h
  rw [decide_eq_true h, Bool.and_true]
  clear hz h hm hnl
  cases ts
  ·go_enter Tryz.func23, Tryz.ntmps23
   go_wp2
   go_returns
   exact ⟨rfl, below_trans (below_alloc w _) (below_alloc _ _)⟩
  ·go_enter Tryz.func23, Tryz.ntmps23
   go_wp2
   go_returns
   exact ⟨rfl, below_trans (below_alloc w _) (below_alloc _ _)⟩
 ·have h6 : ¬0 < m := fun e => h (hz.1 e)
  rw [decide_eq_false h, Bool.and_false]
  clear hz h hm hnl
  cases ts
  ·go_enter Tryz.func23, Tryz.ntmps23
   go_wp2
   go_returns
   exact ⟨rfl, below_trans (below_alloc w _) (below_alloc _ _)⟩
  ·go_enter Tryz.func23, Tryz.ntmps23
   go_wp2
   go_returns
   exact ⟨rfl, below_trans (below_alloc w _) (below_alloc _ _)⟩
theorem refminus_any (v : Value) (t : Trip) (w : World) (hv : Rv w v t) : Calls Tryz.prog 23 #[v] w (RDRes w (minusT t)) := by
 obtain ⟨s0, rfl, hr⟩ := hv
 refine (refminus_same s0 t w hr).mono ?_
 rintro z w' ⟨rfl, b⟩
 exact ⟨_, rfl, hr.later b, b⟩
end Go.Proofs.YtnhackdjplppjaaGreatDoor
namespace Go.Proofs.YtnhackdjplppjaaGreatDoor
open Go.RowKit
set_option maxHeartbeats 1600000 in
theorem refdcmp_any (v u : Value) (a b : Trip) (w : World) (hv : Rv w v a) (hu : Rv w u b) (hLa : (Dg.dg 65536 a.n).length ≤ 30000) (hLb : (Dg.dg 65536 b.n).length ≤ 30000)
  (ha1 : -200000 ≤ a.e) (ha2 : a.e ≤ 200000) (hb1 : -200000 ≤ b.e) (hb2 : b.e ≤ 200000) :
  Calls Tryz.prog 85 #[v, u] w fun z w' => z = .returned (.int .i64 (signT (bare (dplusT a (minusT b))))) ∧ Below w.heap.size w w' := by
 have HM : Hid (∀ w1, Below w.heap.size w w1 → Calls Tryz.prog 23 #[u] w1 (RDRes w1 (minusT b))) := fun w1 b1 => refminus_any u b w1 (hu.later b1)
 have HP : Hid (∀ x w1, Below w.heap.size w w1 → Rv w1 x (minusT b) → Calls Tryz.prog 118 #[v, x] w1 (RDRes w1 (bare (dplusT a (minusT b))))) := fun x w1 b1 hx => refdplus_any v x a (minusT b) w1 (hv.later b1) hx hLa hLb ha1 ha2 hb1 hb2
 obtain ⟨s0, rfl, ra⟩ := hv
 obtain ⟨ao, ca, rfl⟩ := ra.shape
 obtain ⟨s1, rfl, rb⟩ := hu
 obtain ⟨bo, cb, rfl⟩ := rb.shape
 obtain ⟨⟨rs, rn, re⟩, hT⟩ : ∃ T, bare (dplusT a (minusT b)) = T := ⟨_, rfl⟩
 rw [hT] at HP ⊢
 obtain ⟨⟨ms, mn, me⟩, hMT⟩ : ∃ T, minusT b = T := ⟨_, rfl⟩
 rw [hMT] at HP HM
 have hnl := Dg.dg_nil_iff 65536 rn (by omega)
 obtain ⟨ma, hma⟩ : ∃ m, (Dg.dg 65536 a.n).length = m := ⟨_, rfl⟩
 obtain ⟨mb, hmb⟩ : ∃ m, (Dg.dg 65536 b.n).length = m := ⟨_, rfl⟩
 rw [hma] at HP ⊢
 rw [hmb] at HM ⊢
 obtain ⟨sa, an, ae⟩ := a
 obtain ⟨sb, bn, be⟩ := b
 simp only at HP HM ⊢
 clear hT hma hmb ra rb hLa hLb hMT
 unfold signT
 simp only
 have bA := below_trans (below_alloc w (.cells #[.bool sa, .slice ao ma ca, .int .i64 ae] 30)) (below_alloc _ (.cells #[.bool sb, .slice bo mb cb, .int .i64 be] 30))
 have la := (loc_new w (.bool sa) (.slice ao ma ca) (.int .i64 ae) 30).later (below_alloc _ (.cells #[.bool sb, .slice bo mb cb, .int .i64 be] 30))
 have lb := loc_new (w.alloc (.cells #[.bool sa, .slice ao ma ca, .int .i64 ae] 30)) (.bool sb) (.slice bo mb cb) (.int .i64 be) 30
 rw [World.size_alloc] at lb
 obtain ⟨W, hW⟩ : ∃ W, ((w.alloc (.cells #[.bool sa, .slice ao ma ca, .int .i64 ae] 30)).alloc (.cells #[.bool sb, .slice bo mb cb, .int .i64 be] 30)) = W := ⟨_, rfl⟩
 rw [hW] at bA la lb
 have bd : Below W.heap.size W W.drew := (Below.refl _ _).drew
 have b02 := below_trans bA bd
 have la2 := la.later bd
 have lb2 := lb.later bd
 have lzW := loc_new W.drew (.bool false) (.slice none 0 0) (.int .i64 0) 30
 have sW : W.drew.heap.size = w.heap.size + 1 + 1 := by rw [← hW]; simp [World.size_alloc]
 rw [sW] at lzW
 rw [← hW] at b02 la2 lb2 lzW
 obtain ⟨-, ⟨c0, c1, c2⟩, -⟩ := id la2
 obtain ⟨-, ⟨c3, c4, c5⟩, -⟩ := id lb2
 clear bA la lb bd hW sW
 have ne3 : w.heap.size + 1 + 1 ≠ w.heap.size := by omega
 have ne4 : w.heap.size + 1 + 1 ≠ w.heap.size + 1 := by omega
 go_enter Tryz.func85, Tryz.ntmps85
 go_wp2_with fail
 go_region_held3 (fun wq => (wq.cell? ⟨w.heap.size, 0, none⟩ = some (.bool sa) ∧ wq.cell? ⟨w.heap.size, 1, none⟩ = some (.slice ao ma ca) ∧ wq.cell? ⟨w.heap.size, 2, none⟩ = some (.int .i64 ae)) ∧ wq.cell? ⟨w.heap.size + 1, 0, none⟩ = some (.bool sb) ∧ wq.cell? ⟨w.heap.size + 1, 1, none⟩ = some (.slice bo mb cb) ∧ wq.cell? ⟨w.heap.size + 1, 2, none⟩ = some (.int .i64 be)) (go_keep) (first
   | (go_at_call 23; refine (HM.out _ b02).mono ?_; rintro z w3 ⟨v1, rfl, q1, b3⟩; have la3 := la2.later b3; have lb3 := lb2.later b3; have b03 := below_trans b02 b3; obtain ⟨-, ⟨p0, p1, p2⟩, -⟩ := id la3; obtain ⟨-, ⟨p3, p4, p5⟩, -⟩ := id lb3; have x0 := World.new_ne w3 _ p0; have x1 := World.new_ne w3 _ p3)
   | (go_at_call 23; refine (HM.out _ (below_trans b02 (below_alloc _ (.cells #[.bool false, .slice none 0 0, .int .i64 0] 30)))).mono ?_; rintro z w3 ⟨v1, rfl, q1, b3⟩; have la3 := (la2.later (below_alloc _ (.cells #[.bool false, .slice none 0 0, .int .i64 0] 30))).later b3; have lb3 := (lb2.later (below_alloc _ (.cells #[.bool false, .slice none 0 0, .int .i64 0] 30))).later b3; have b03 := below_trans (below_trans b02 (below_alloc _ (.cells #[.bool false, .slice none 0 0, .int .i64 0] 30))) b3; have lz3 := lzW.later b3; obtain ⟨-, ⟨p0, p1, p2⟩, -⟩ := id la3; obtain ⟨-, ⟨p3, p4, p5⟩, -⟩ := id lb3; have x0 := World.new_ne w3 _ p0; have x1 := World.new_ne w3 _ p3)
   | (go_at_call 118; refine (HP.out _ w3 b03 ⟨_, rfl, q1⟩).mono ?_; rintro z w4 ⟨v2, rfl, q2, b4⟩; obtain ⟨tq, tc, hvt⟩ := q2.shape; subst hvt; have la4 := la3.later b4; have lb4 := lb3.later b4; have b04 := below_trans b03 b4; (try (have lz4 := lz3.later b4; obtain ⟨-, ⟨d0, d1, d2⟩, f0, f1, f2⟩ := id lz4)); obtain ⟨-, ⟨u0, u1, u2⟩, -⟩ := id la4; obtain ⟨-, ⟨u3, u4, u5⟩, -⟩ := id lb4; have y0 := World.new_ne w4 _ u0; have y1 := World.new_ne w4 _ u3)
   | (go_at_call 118; refine (HP.out _ _ (below_trans b03 (below_alloc _ (.cells #[.bool false, .slice none 0 0, .int .i64 0] 30))) ⟨_, rfl, q1.later (below_alloc _ (.cells #[.bool false, .slice none 0 0, .int .i64 0] 30))⟩).mono ?_; rintro z w4 ⟨v2, rfl, q2, b4⟩; obtain ⟨tq, tc, hvt⟩ := q2.shape; subst hvt; have la4 := (la3.later (below_alloc _ (.cells #[.bool false, .slice none 0 0, .int .i64 0] 30))).later b4; have lb4 := (lb3.later (below_alloc _ (.cells #[.bool false, .slice none 0 0, .int .i64 0] 30))).later b4; have b04 := below_trans (below_trans b03 (below_alloc _ (.cells #[.bool false, .slice none 0 0, .int .i64 0] 30))) b4; have lz4 := (loc_new w3 (.bool false) (.slice none 0 0) (.int .i64 0) 30).later b4; obtain ⟨-, ⟨d0, d1, d2⟩, f0, f1, f2⟩ := id lz4; obtain ⟨-, ⟨u0, u1, u2⟩, -⟩ := id la4; obtain ⟨-, ⟨u3, u4, u5⟩, -⟩ := id lb4))
 ·have hlen : (Dg.dg 65536 rn).length = 0 ↔ rn = 0 := by rw [List.length_eq_zero_iff]; exact hnl
  have hs3 := b03.size
  have bZ := below_trans b04 (below_alloc w4 (.cells #[.bool rs, .slice tq (Dg.dg 65536 rn).length tc, .int .i64 re] 30))
  clear la2 lb2 lzW c0 c1 c2 c3 c4 c5 HP HM la3 lb3 p0 p1 p2 p3 p4 p5 q1 q2 la4 lb4 hnl b02 b03 b04 b3 b4 x0 x1 ne3 ne4
  by_cases h : rn = 0
  ·have h6 := hlen.2 h
   have H : Hid (rn = 0) := h
   rw [h6] at bZ
   clear hlen h
   go_wp2
   go_ret
   exact ⟨by first | rfl | rw [if_pos H.out], bZ⟩
  ·have h7 : ¬(Dg.dg 65536 rn).length = 0 := fun e => h (hlen.1 e)
   have H : Hid (¬rn = 0) := h
   have h6 : (((Dg.dg 65536 rn).length : Int) == 0) = false := by
    revert h7
    generalize (Dg.dg 65536 rn).length = mr
    intro h7
    simp; exact h7
   clear hlen h h7
   cases rs
   ·go_wp2
    go_ret
    exact ⟨by first | rfl | (rw [if_neg H.out]; rfl), bZ⟩
   ·go_wp2
    go_ret
    exact ⟨by first | rfl | (rw [if_neg H.out]; rfl), bZ⟩
 ·obtain ⟨-, ⟨g0, g1, g2⟩, -⟩ := loc_set lz4 (.bool rs) (.slice tq (Dg.dg 65536 rn).length tc) (.int .i64 re)
  have hlen : (Dg.dg 65536 rn).length = 0 ↔ rn = 0 := by rw [List.length_eq_zero_iff]; exact hnl
  have hs3 := b03.size
  have bZ := below_set3 b04 hs3 (.bool rs) (.slice tq (Dg.dg 65536 rn).length tc) (.int .i64 re)
  clear la2 lb2 lzW c0 c1 c2 c3 c4 c5 HP HM la3 lb3 p0 p1 p2 p3 p4 p5 q1 q2 la4 lb4 hnl b02 b03 b04 b3 b4 x0 x1 ne3 ne4
  by_cases h : rn = 0
  ·have h6 := hlen.2 h
   have H : Hid (rn = 0) := h
   rw [h6] at bZ
   clear hlen h
   go_wp2
   go_ret
   exact ⟨by first | rfl | rw [if_pos H.out], bZ⟩
  ·have h7 : ¬(Dg.dg 65536 rn).length = 0 := fun e => h (hlen.1 e)
   have H : Hid (¬rn = 0) := h
   have h6 : (((Dg.dg 65536 rn).length : Int) == 0) = false := by
    revert h7
    generalize (Dg.dg 65536 rn).length = mr
    intro h7
    simp; exact h7
   clear hlen h h7
   cases rs
   ·go_wp2
    go_ret
    exact ⟨by first | rfl | (rw [if_neg H.out]; rfl), bZ⟩
   ·go_wp2
    go_ret
    exact ⟨by first | rfl | (rw [if_neg H.out]; rfl), bZ⟩
 ·obtain ⟨-, ⟨g0, g1, g2⟩, -⟩ := loc_set lz4 (.bool rs) (.slice tq (Dg.dg 65536 rn).length tc) (.int .i64 re)
  have hlen : (Dg.dg 65536 rn).length = 0 ↔ rn = 0 := by rw [List.length_eq_zero_iff]; exact hnl
  have hs3 := b03.size
  have bZ := below_set3 b04 (show w.heap.size ≤ w.heap.size + 1 + 1 by omega) (.bool rs) (.slice tq (Dg.dg 65536 rn).length tc) (.int .i64 re)
  clear la2 lb2 lzW c0 c1 c2 c3 c4 c5 HP HM la3 lb3 p0 p1 p2 p3 p4 p5 q1 q2 la4 lb4 hnl b02 b03 b04 b3 b4 x0 x1 ne3 ne4
  by_cases h : rn = 0
  ·have h6 := hlen.2 h
   have H : Hid (rn = 0) := h
   rw [h6] at bZ
   clear hlen h
   go_wp2
   go_ret
   exact ⟨by first | rfl | rw [if_pos H.out], bZ⟩
  ·have h7 : ¬(Dg.dg 65536 rn).length = 0 := fun e => h (hlen.1 e)
   have H : Hid (¬rn = 0) := h
   have h6 : (((Dg.dg 65536 rn).length : Int) == 0) = false := by
    revert h7
    generalize (Dg.dg 65536 rn).length = mr
    intro h7
    simp; exact h7
   clear hlen h h7
   cases rs
   ·go_wp2
    go_ret
    exact ⟨by first | rfl | (rw [if_neg H.out]; rfl), bZ⟩
   ·go_wp2
    go_ret
    exact ⟨by first | rfl | (rw [if_neg H.out]; rfl), bZ⟩
end Go.Proofs.YtnhackdjplppjaaGreatDoor
namespace Go.Proofs.YtnhackdjplppjaaGreatDoor
theorem dchk_of {n : Nat} {e : Int} (h : (Dg.dg 4294967296 n).length ≤ 1200) (h1 : -20000 ≤ e) (h2 : e ≤ 20000) : dchk (Dg.dg 4294967296 n) e = 0 := by
 unfold dchk
 rw [chk_of (Dg.norm_dg _ _ (by omega)) h, if_pos rfl, if_neg (by omega)]
end Go.Proofs.YtnhackdjplppjaaGreatDoor
namespace Go.Proofs.YtnhackdjplppjaaGreatDoor
open Go.RowKit
theorem bitLen_shl (q k : Nat) (h : q ≠ 0) : bitLen (2 ^ k * q) = k + bitLen q := by
 have hd : 2 ^ k * q / 2 ^ k = q := Nat.mul_div_cancel_left q (Nat.pow_pos (by omega))
 have := bitLen_shift (2 ^ k * q) k (by rw [hd]; exact h)
 rwa [hd] at this
end Go.Proofs.YtnhackdjplppjaaGreatDoor
namespace Go.Proofs.YtnhackdjplppjaaGreatDoor
open Go.RowKit
def spotK (R D L : Int) (gr : Bool) (n : Nat) (e : Int) : Int :=
 if (decide (powerR R D ((bitLen n : Int) - 1 + e) < L) && gr) = true then L else powerR R D ((bitLen n : Int) - 1 + e)
def heldB (R D L G : Int) (gr : Bool) (n : Nat) (e : Int) : Bool :=
 decide (n = 0 ∨ (L ≤ spotK R D L gr n e ∧ spotK R D L gr n e ≤ G ∧ (widthN R : Int) * spotK R D L gr n e ≤ e + (tz n : Int)))
theorem bare_top {t : Trip} (h : t.n ≠ 0) : (bare t).n ≠ 0 ∧ (bare t).e = t.e + (tz t.n : Int) ∧ (bare t).e + (bitLen (bare t).n : Int) = t.e + (bitLen t.n : Int) := by
 obtain ⟨m, hm⟩ := tz_spec h
 have e : (bare t).n = 2 * m + 1 ∧ (bare t).e = t.e + (tz t.n : Int) := by
  unfold bare
  rw [if_neg h]
  exact ⟨div_tz hm, rfl⟩
 have hb : bitLen t.n = tz t.n + bitLen (2 * m + 1) := by
  have := bitLen_shl (2 * m + 1) (tz t.n) (by omega)
  rwa [← hm] at this
 refine ⟨by omega, e.2, ?_⟩
 rw [e.1, e.2, hb]
 omega
end Go.Proofs.YtnhackdjplppjaaGreatDoor
namespace Go.Proofs.YtnhackdjplppjaaGreatDoor
open Go.RowKit
def FindRes (w : World) (h : Bool) (d : Nat) (k : Int) (e : Ending) (w' : World) : Prop :=
 ∃ u, e = .returned (.tuple #[.agg #[u, .int .i64 k], .bool h]) ∧ Own w' w.heap.size 141 .u32 u (Dg.dg 4294967296 d) ∧ Below w.heap.size w w'
theorem field_dyad (b : Bool) (x : Option Addr) (y z : Nat) (e : Int) (W : World) : (Instr.field 96 (.agg #[.bool b, .slice x y z, .int .i64 e]) 0).run Tryz.prog W = .ok (.agg #[.bool b, .slice x y z, .int .i64 e]) W := by kernel_rfl
theorem field_exp (b : Bool) (x : Option Addr) (y z : Nat) (e : Int) (W : World) : (Instr.field 82 (.agg #[.bool b, .slice x y z, .int .i64 e]) 2).run Tryz.prog W = .ok (.int .i64 e) W := by kernel_rfl
set_option maxHeartbeats 1600000 in
theorem mfind_zero (R D L G : Int) (gr s : Bool) (ao : Option Addr) (la ca : Nat) (e : Int) (w : World)
  (HSG : ∀ w1, Below w.heap.size w w1 → Calls Tryz.prog 166 #[.agg #[.bool s, .slice ao la ca, .int .i64 e]] w1 fun z w' => z = .returned (.int .i64 0) ∧ Below w1.heap.size w1 w') :
  Calls Tryz.prog 163 #[.agg #[.int .i64 R, .int .i64 D, .int .i64 L, .int .i64 G, .bool gr], .agg #[.bool s, .slice ao la ca, .int .i64 e]] w (FindRes w true 0 L) := by
 replace HSG : Hid _ := HSG
 have b1 := below_trans (below_trans (below_alloc w (.cells #[.int .i64 R, .int .i64 D, .int .i64 L, .int .i64 G, .bool gr] 159)) (below_alloc _ (.cells #[.bool s, .slice ao la ca, .int .i64 e] 96))) (below_alloc _ (.cells #[.slice none 0 0, .int .i64 0] 163))
 have g1 := ((locE_new w [.int .i64 R, .int .i64 D, .int .i64 L, .int .i64 G, .bool gr] 159).later (below_alloc _ (.cells #[.bool s, .slice ao la ca, .int .i64 e] 96))).later (below_alloc _ (.cells #[.slice none 0 0, .int .i64 0] 163))
 have q1 := (locE_new (w.alloc (.cells #[.int .i64 R, .int .i64 D, .int .i64 L, .int .i64 G, .bool gr] 159)) [.bool s, .slice ao la ca, .int .i64 e] 96).later (below_alloc _ (.cells #[.slice none 0 0, .int .i64 0] 163))
 have c1 := locE_new ((w.alloc (.cells #[.int .i64 R, .int .i64 D, .int .i64 L, .int .i64 G, .bool gr] 159)).alloc (.cells #[.bool s, .slice ao la ca, .int .i64 e] 96)) [.slice none 0 0, .int .i64 0] 163
 simp only [World.size_alloc] at q1 c1
 obtain ⟨y0, y1, y2⟩ := q1.cs3
 go_enter Tryz.func163, Tryz.ntmps163
 go_wp2_with fail
 refine (HSG.out _ b1).mono ?_
 rintro z w2 ⟨rfl, bb2⟩
 clear y0 y1 y2
 have g_2 := g1.later bb2
 have q_2 := q1.later bb2
 have c_2 := c1.later bb2
 have b0_2 := below_trans b1 bb2
 clear g1 q1 c1 b1 bb2
 have x2 := g_2.cell 2 rfl
 have d0 := c_2.cell 0 rfl
 have f0 := c_2.free 0
 have d1 := c_2.cell 1 rfl
 have f1 := c_2.free 1
 go_wp2
 have bu : But (w.heap.size + 1 + 1) w2 ((w2.setCell ⟨w.heap.size + 1 + 1, 0, none⟩ (.slice none 0 0)).setCell ⟨w.heap.size + 1 + 1, 1, none⟩ (.int .i64 L)) := (but_set w2 (w.heap.size + 1 + 1) 0 (.slice none 0 0)).trans (but_set _ (w.heap.size + 1 + 1) 1 (.int .i64 L))
 have cX : LocE ((w2.setCell ⟨w.heap.size + 1 + 1, 0, none⟩ (.slice none 0 0)).setCell ⟨w.heap.size + 1 + 1, 1, none⟩ (.int .i64 L)) (w.heap.size + 1 + 1) 163 [.slice none 0 0, .int .i64 L] := (c_2.set 0 (.slice none 0 0)).set 1 (.int .i64 L)
 have bX := bu.below b0_2 (show w.heap.size ≤ w.heap.size + 1 + 1 by omega)
 obtain ⟨s0, s1⟩ := cX.cs2
 refine bodyPost_ret (v := .tuple #[.agg #[.slice none 0 0, .int .i64 L], .bool true]) (by simp [results, Tryz.results163, go_sem, s0, s1]) rfl ?_
 exact ⟨_, rfl, own_nil _ _ _ _, bX⟩
set_option maxHeartbeats 6400000 in
theorem mfindW (R D L G : Int) (gr s : Bool) (ao : Option Addr) (la ca : Nat) (e sg bl pw K wd : Int) (bs : Bool) (bn : Nat) (be : Int) (un bb hb : Bool) (rd : Nat) (rk : Int) (w : World)
  (hsg : (sg == 0) = false) (W1 : IntKind.i64.wrap (bl - 1) = bl - 1) (W2 : IntKind.i64.wrap (bl - 1 + e) = bl - 1 + e) (W3 : IntKind.i64.wrap (wd * K) = wd * K) (W4 : IntKind.i64.wrap (e - wd * K) = e - wd * K)
  (hun : un = decide (pw < L)) (hbb : (un && gr) = bb) (HP1 : bb = true → K = L) (HP2 : bb = false → K = pw)
  (HH1 : hb = true → ¬K < L ∧ ¬G < K ∧ ¬be < wd * K) (HH2 : hb = false → K < L ∨ (¬K < L ∧ G < K) ∨ (¬K < L ∧ ¬G < K ∧ be < wd * K)) (HR1 : hb = true → rk = K) (HR2 : hb = false → rd = 0 ∧ rk = 0)
  (HSG : ∀ w1, Below w.heap.size w w1 → Calls Tryz.prog 166 #[.agg #[.bool s, .slice ao la ca, .int .i64 e]] w1 fun z w' => z = .returned (.int .i64 sg) ∧ Below w1.heap.size w1 w')
  (HDI : ∀ w1, Calls Tryz.prog 172 #[.agg #[.bool s, .slice ao la ca, .int .i64 e]] w1 fun z w' => z = .returned (.slice ao la ca) ∧ Below w1.heap.size w1 w')
  (HBI : ∀ w1, Below w.heap.size w w1 → Calls Tryz.prog 176 #[.slice ao la ca] w1 fun z w' => z = .returned (.int .i64 bl) ∧ Below w1.heap.size w1 w')
  (HPW : ∀ w1, Calls Tryz.prog 188 #[.agg #[.int .i64 R, .int .i64 D, .int .i64 L, .int .i64 G, .bool gr], .int .i64 (bl - 1 + e)] w1 fun z w' => z = .returned (.int .i64 pw) ∧ Below w1.heap.size w1 w')
  (HWD : ∀ w1, Calls Tryz.prog 160 #[.agg #[.int .i64 R, .int .i64 D, .int .i64 L, .int .i64 G, .bool gr]] w1 fun z w' => z = .returned (.int .i64 wd) ∧ Below w1.heap.size w1 w')
  (HBA : ∀ w1, Below w.heap.size w w1 → Calls Tryz.prog 161 #[.agg #[.bool s, .slice ao la ca, .int .i64 e]] w1 (DRes w1 ⟨bs, bn, be⟩))
  (HSH : hb = true → ∀ w1, Below w.heap.size w w1 → Calls Tryz.prog 177 #[.slice ao la ca, .int .i64 (e - wd * K)] w1 (Num w1 rd)) :
  Calls Tryz.prog 163 #[.agg #[.int .i64 R, .int .i64 D, .int .i64 L, .int .i64 G, .bool gr], .agg #[.bool s, .slice ao la ca, .int .i64 e]] w (FindRes w hb rd rk) := by
 replace HP1 : Hid _ := HP1
 replace HP2 : Hid _ := HP2
 replace HH1 : Hid _ := HH1
 replace HH2 : Hid _ := HH2
 replace HR1 : Hid _ := HR1
 replace HR2 : Hid _ := HR2
 replace HSG : Hid _ := HSG
 replace HDI : Hid _ := HDI
 replace HBI : Hid _ := HBI
 replace HPW : Hid _ := HPW
 replace HWD : Hid _ := HWD
 replace HBA : Hid _ := HBA
 replace HSH : Hid _ := HSH
 have HUN : Hid _ := hun
 have HBB : Hid _ := hbb
 clear hun hbb
 have b1 := below_trans (below_trans (below_alloc w (.cells #[.int .i64 R, .int .i64 D, .int .i64 L, .int .i64 G, .bool gr] 159)) (below_alloc _ (.cells #[.bool s, .slice ao la ca, .int .i64 e] 96))) (below_alloc _ (.cells #[.slice none 0 0, .int .i64 0] 163))
 have g1 := ((locE_new w [.int .i64 R, .int .i64 D, .int .i64 L, .int .i64 G, .bool gr] 159).later (below_alloc _ (.cells #[.bool s, .slice ao la ca, .int .i64 e] 96))).later (below_alloc _ (.cells #[.slice none 0 0, .int .i64 0] 163))
 have q1 := (locE_new (w.alloc (.cells #[.int .i64 R, .int .i64 D, .int .i64 L, .int .i64 G, .bool gr] 159)) [.bool s, .slice ao la ca, .int .i64 e] 96).later (below_alloc _ (.cells #[.slice none 0 0, .int .i64 0] 163))
 have c1 := locE_new ((w.alloc (.cells #[.int .i64 R, .int .i64 D, .int .i64 L, .int .i64 G, .bool gr] 159)).alloc (.cells #[.bool s, .slice ao la ca, .int .i64 e] 96)) [.slice none 0 0, .int .i64 0] 163
 simp only [World.size_alloc] at q1 c1
 obtain ⟨y0, y1, y2⟩ := q1.cs3
 go_enter Tryz.func163, Tryz.ntmps163
 go_wp2_with fail
 refine (HSG.out _ b1).mono ?_
 rintro z w2 ⟨rfl, bb2⟩
 clear y0 y1 y2
 have g_2 := g1.later bb2
 have q_2 := q1.later bb2
 have c_2 := c1.later bb2
 have b0_2 := below_trans b1 bb2
 clear g1 q1 c1 b1 bb2
 have bd_2 : Below w2.heap.size w2 w2.drew := (Below.refl _ _).drew
 have g_3 := g_2.later bd_2
 have q_3 := q_2.later bd_2
 have c_3 := c_2.later bd_2
 have b0_3 := below_trans b0_2 bd_2
 clear g_2 q_2 c_2 b0_2 bd_2
 obtain ⟨x0, x1, x2, x3, x4⟩ := g_3.cs5
 obtain ⟨y0, y1, y2⟩ := q_3.cs3
 go_wp2_with fail
 go_region_held3 (fun wq => (wq.cell? ⟨w.heap.size, 0, none⟩ = some (.int .i64 R) ∧ wq.cell? ⟨w.heap.size, 1, none⟩ = some (.int .i64 D) ∧ wq.cell? ⟨w.heap.size, 2, none⟩ = some (.int .i64 L) ∧ wq.cell? ⟨w.heap.size, 3, none⟩ = some (.int .i64 G) ∧ wq.cell? ⟨w.heap.size, 4, none⟩ = some (.bool gr)) ∧ wq.cell? ⟨w.heap.size + 1, 0, none⟩ = some (.bool s) ∧ wq.cell? ⟨w.heap.size + 1, 1, none⟩ = some (.slice ao la ca) ∧ wq.cell? ⟨w.heap.size + 1, 2, none⟩ = some (.int .i64 e)) (go_keep) (first
  | (go_at_call 172; have hgd := b0_3; clear hgd; refine (HDI.out _).mono ?_; rintro z wa ⟨rfl, bb_wa⟩; have b0_wa := below_trans b0_3 bb_wa; have g_wa := g_3.later bb_wa; have q_wa := q_3.later bb_wa; have c_wa := c_3.later bb_wa; obtain ⟨xwa0, xwa1, xwa2, xwa3, xwa4⟩ := g_wa.cs5; obtain ⟨ywa0, ywa1, ywa2⟩ := q_wa.cs3; clear b0_3)
  | (go_at_call 176; have hgd := b0_wa; clear hgd; refine (HBI.out _ b0_wa).mono ?_; rintro z wb ⟨rfl, bb_wb⟩; have b0_wb := below_trans b0_wa bb_wb; have g_wb := g_wa.later bb_wb; have q_wb := q_wa.later bb_wb; have c_wb := c_wa.later bb_wb; obtain ⟨xwb0, xwb1, xwb2, xwb3, xwb4⟩ := g_wb.cs5; obtain ⟨ywb0, ywb1, ywb2⟩ := q_wb.cs3; clear b0_wa)
  | (go_at_call 188; have hgd := b0_wb; clear hgd; refine (HPW.out _).mono ?_; rintro z wc ⟨rfl, bb_wc⟩; have b0_wc := below_trans b0_wb bb_wc; have g_wc := g_wb.later bb_wc; have q_wc := q_wb.later bb_wc; have c_wc := c_wb.later bb_wc; obtain ⟨xwc0, xwc1, xwc2, xwc3, xwc4⟩ := g_wc.cs5; obtain ⟨ywc0, ywc1, ywc2⟩ := q_wc.cs3; clear b0_wb))
 go_goals
 clear x0 x1 x2 x3 x4 y0 y1 y2 xwa0 xwa1 xwa2 xwa3 xwa4 xwb0 xwb1 xwb2 xwb3 xwb4 xwc0 xwc1 xwc2 xwc3 xwc4 ywa0 ywa1 ywa2 ywb0 ywb1 ywb2 ywc0 ywc1 ywc2
 have x2 := g_wc.cell 2 rfl
 have x4 := g_wc.cell 4 rfl
 have hlt : decide (pw < L) = un := HUN.out.symm
 go_upto_region 4 with fail
 skip
 go_cut [34] (fun s34 wx => s34 = .bool bb ∧ wx = wc)
 case first =>
  cases un
  ·go_wp2_with fail
   go_meet
   exact ⟨by rw [← HBB.out]; rfl, rfl⟩
  ·go_wp2_with fail
   go_meet
   exact ⟨by rw [← HBB.out]; rfl, rfl⟩
 case rest =>
  obtain ⟨rfl, hw34⟩ := hcut
  subst hw34
  go_upto_if 34 with fail
  go_cut [6] (fun s6 wx => s6 = .int .i64 K ∧ wx = wc)
  case first =>
   cases bb
   ·have eK : Hid (K = pw) := HP2.out rfl
    go_wp2_with fail
    go_meet
    exact ⟨by rw [eK.out], rfl⟩
   ·have eK : Hid (K = L) := HP1.out rfl
    go_wp2_with fail
    go_meet
    exact ⟨by rw [eK.out], rfl⟩
  case rest =>
   obtain ⟨rfl, hw6⟩ := hcut
   subst hw6
   clear x2 x4 hlt HP1 HP2
   obtain ⟨x0, x1, x2, x3, x4⟩ := g_wc.cs5
   go_wp2_with fail
   refine (HWD.out _).mono ?_
   rintro z w5 ⟨rfl, bb5⟩
   clear x0 x1 x2 x3 x4
   have g_11 := g_wc.later bb5
   have q_11 := q_wc.later bb5
   have c_11 := c_wc.later bb5
   have b0_11 := below_trans b0_wc bb5
   clear g_wc q_wc c_wc b0_wc bb5
   obtain ⟨x0, x1, x2, x3, x4⟩ := g_11.cs5
   obtain ⟨y0, y1, y2⟩ := q_11.cs3
   cases hb
   ·obtain ⟨rfl, rfl⟩ := HR2.out rfl
    have hx := HH2.out rfl
    clear HH1 HH2 HR1 HR2 HSH
    rcases hx with hx | ⟨hx1, hx⟩ | ⟨hx1, hx2, hx⟩
    ·skip
     have d0 := c_11.cell 0 rfl
     have f0 := c_11.free 0
     have d1 := c_11.cell 1 rfl
     have f1 := c_11.free 1
     go_wp2
     have bu : But (w.heap.size + 1 + 1) w5 ((w5.setCell ⟨w.heap.size + 1 + 1, 0, none⟩ (.slice none 0 0)).setCell ⟨w.heap.size + 1 + 1, 1, none⟩ (.int .i64 0)) := (but_set w5 (w.heap.size + 1 + 1) 0 (.slice none 0 0)).trans (but_set _ (w.heap.size + 1 + 1) 1 (.int .i64 0))
     have cX : LocE ((w5.setCell ⟨w.heap.size + 1 + 1, 0, none⟩ (.slice none 0 0)).setCell ⟨w.heap.size + 1 + 1, 1, none⟩ (.int .i64 0)) (w.heap.size + 1 + 1) 163 [.slice none 0 0, .int .i64 0] := (c_11.set 0 (.slice none 0 0)).set 1 (.int .i64 0)
     have bX := bu.below b0_11 (show w.heap.size ≤ w.heap.size + 1 + 1 by omega)
     obtain ⟨s0, s1⟩ := cX.cs2
     refine bodyPost_ret (v := .tuple #[.agg #[.slice none 0 0, .int .i64 0], .bool false]) (by simp [results, Tryz.results163, go_sem, s0, s1]) rfl ?_
     exact ⟨_, rfl, own_nil _ _ _ _, bX⟩
    ·have e1 : decide (K < L) = false := decide_eq_false (by omega)
     have d0 := c_11.cell 0 rfl
     have f0 := c_11.free 0
     have d1 := c_11.cell 1 rfl
     have f1 := c_11.free 1
     go_wp2
     have bu : But (w.heap.size + 1 + 1) w5 ((w5.setCell ⟨w.heap.size + 1 + 1, 0, none⟩ (.slice none 0 0)).setCell ⟨w.heap.size + 1 + 1, 1, none⟩ (.int .i64 0)) := (but_set w5 (w.heap.size + 1 + 1) 0 (.slice none 0 0)).trans (but_set _ (w.heap.size + 1 + 1) 1 (.int .i64 0))
     have cX : LocE ((w5.setCell ⟨w.heap.size + 1 + 1, 0, none⟩ (.slice none 0 0)).setCell ⟨w.heap.size + 1 + 1, 1, none⟩ (.int .i64 0)) (w.heap.size + 1 + 1) 163 [.slice none 0 0, .int .i64 0] := (c_11.set 0 (.slice none 0 0)).set 1 (.int .i64 0)
     have bX := bu.below b0_11 (show w.heap.size ≤ w.heap.size + 1 + 1 by omega)
     obtain ⟨s0, s1⟩ := cX.cs2
     refine bodyPost_ret (v := .tuple #[.agg #[.slice none 0 0, .int .i64 0], .bool false]) (by simp [results, Tryz.results163, go_sem, s0, s1]) rfl ?_
     exact ⟨_, rfl, own_nil _ _ _ _, bX⟩
    ·have e1 : decide (K < L) = false := decide_eq_false (by omega)
     have e2 : decide (G < K) = false := decide_eq_false (by omega)
     go_wp2_with fail
     refine (HBA.out _ b0_11).mono ?_
     rintro z w6 ⟨vb, rfl, ob6, bb6⟩
     obtain ⟨vo6, vc6, hvb6⟩ := ob6.rd.shape
     subst hvb6
     clear ob6
     have hfd := fun W => field_dyad bs vo6 (Dg.dg 4294967296 bn).length vc6 be W
     have hfe := fun W => field_exp bs vo6 (Dg.dg 4294967296 bn).length vc6 be W
     clear x0 x1 x2 x3 x4 y0 y1 y2
     have g_12 := g_11.later bb6
     have q_12 := q_11.later bb6
     have c_12 := c_11.later bb6
     have b0_12 := below_trans b0_11 bb6
     clear g_11 q_11 c_11 b0_11 bb6
     have d0 := c_12.cell 0 rfl
     have f0 := c_12.free 0
     have d1 := c_12.cell 1 rfl
     have f1 := c_12.free 1
     go_wp2
     have bu : But (w.heap.size + 1 + 1) w6 ((w6.setCell ⟨w.heap.size + 1 + 1, 0, none⟩ (.slice none 0 0)).setCell ⟨w.heap.size + 1 + 1, 1, none⟩ (.int .i64 0)) := (but_set w6 (w.heap.size + 1 + 1) 0 (.slice none 0 0)).trans (but_set _ (w.heap.size + 1 + 1) 1 (.int .i64 0))
     have cX : LocE ((w6.setCell ⟨w.heap.size + 1 + 1, 0, none⟩ (.slice none 0 0)).setCell ⟨w.heap.size + 1 + 1, 1, none⟩ (.int .i64 0)) (w.heap.size + 1 + 1) 163 [.slice none 0 0, .int .i64 0] := (c_12.set 0 (.slice none 0 0)).set 1 (.int .i64 0)
     have bX := bu.below b0_12 (show w.heap.size ≤ w.heap.size + 1 + 1 by omega)
     obtain ⟨s0, s1⟩ := cX.cs2
     refine bodyPost_ret (v := .tuple #[.agg #[.slice none 0 0, .int .i64 0], .bool false]) (by simp [results, Tryz.results163, go_sem, s0, s1]) rfl ?_
     exact ⟨_, rfl, own_nil _ _ _ _, bX⟩
   ·obtain ⟨h1, h2, h3⟩ := HH1.out rfl
    have hrk := HR1.out rfl
    have HS1 : Hid _ := HSH.out rfl
    clear HH1 HH2 HR1 HR2 HSH
    subst hrk
    have e1 : decide (rk < L) = false := decide_eq_false (by omega)
    have e2 : decide (G < rk) = false := decide_eq_false (by omega)
    have e3 : decide (be < wd * rk) = false := decide_eq_false (by omega)
    go_wp2_with fail
    refine (HBA.out _ b0_11).mono ?_
    rintro z w6 ⟨vb, rfl, ob6, bb6⟩
    obtain ⟨vo6, vc6, hvb6⟩ := ob6.rd.shape
    subst hvb6
    clear ob6
    have hfd := fun W => field_dyad bs vo6 (Dg.dg 4294967296 bn).length vc6 be W
    have hfe := fun W => field_exp bs vo6 (Dg.dg 4294967296 bn).length vc6 be W
    clear x0 x1 x2 x3 x4 y0 y1 y2
    have g_12 := g_11.later bb6
    have q_12 := q_11.later bb6
    have c_12 := c_11.later bb6
    have b0_12 := below_trans b0_11 bb6
    clear g_11 q_11 c_11 b0_11 bb6
    have bd_12 : Below w6.heap.size w6 w6.drew := (Below.refl _ _).drew
    have g_13 := g_12.later bd_12
    have q_13 := q_12.later bd_12
    have c_13 := c_12.later bd_12
    have b0_13 := below_trans b0_12 bd_12
    clear g_12 q_12 c_12 b0_12 bd_12
    obtain ⟨y0, y1, y2⟩ := q_13.cs3
    have nA : w.heap.size + 1 + 1 ≠ w.heap.size + 1 := by omega
    go_wp2_with fail
    go_region_held3 (fun wq => wq.cell? ⟨w.heap.size + 1, 0, none⟩ = some (.bool s) ∧ wq.cell? ⟨w.heap.size + 1, 1, none⟩ = some (.slice ao la ca) ∧ wq.cell? ⟨w.heap.size + 1, 2, none⟩ = some (.int .i64 e)) (go_keep) (first
     | (go_at_call 172; have hgd := b0_13; clear hgd; refine (HDI.out _).mono ?_; rintro z wf ⟨rfl, bb_wf⟩; have b0_wf := below_trans b0_13 bb_wf; have g_wf := g_13.later bb_wf; have q_wf := q_13.later bb_wf; have c_wf := c_13.later bb_wf; obtain ⟨ywf0, ywf1, ywf2⟩ := q_wf.cs3; clear b0_13)
     | (go_at_call 177; have hgd := b0_wf; clear hgd; refine (HS1.out _ b0_wf).mono ?_; rintro z wg ⟨vs, rfl, os, bb_wg⟩; have b0_wg := below_trans b0_wf bb_wg; have g_wg := g_wf.later bb_wg; have q_wg := q_wf.later bb_wg; have c_wg := c_wf.later bb_wg; obtain ⟨ywg0, ywg1, ywg2⟩ := q_wg.cs3; obtain ⟨so, sc, hvs⟩ := os.rd.shape; subst hvs; obtain ⟨d0, d1⟩ := c_wg.cs2; have f0 := c_wg.free 0; have f1 := c_wg.free 1; have oL := os.lower b0_wf.size; clear b0_wf))
    go_goals
    clear d0 d1 f0 f1
    have d0 := c_wg.cell 0 rfl
    have f0 := c_wg.free 0
    have d1 := c_wg.cell 1 rfl
    have f1 := c_wg.free 1
    go_wp2
    have bu : But (w.heap.size + 1 + 1) wg ((wg.setCell ⟨w.heap.size + 1 + 1, 0, none⟩ (.slice so (Dg.dg 4294967296 rd).length sc)).setCell ⟨w.heap.size + 1 + 1, 1, none⟩ (.int .i64 rk)) := (but_set wg (w.heap.size + 1 + 1) 0 (.slice so (Dg.dg 4294967296 rd).length sc)).trans (but_set _ (w.heap.size + 1 + 1) 1 (.int .i64 rk))
    have cX : LocE ((wg.setCell ⟨w.heap.size + 1 + 1, 0, none⟩ (.slice so (Dg.dg 4294967296 rd).length sc)).setCell ⟨w.heap.size + 1 + 1, 1, none⟩ (.int .i64 rk)) (w.heap.size + 1 + 1) 163 [.slice so (Dg.dg 4294967296 rd).length sc, .int .i64 rk] := (c_wg.set 0 (.slice so (Dg.dg 4294967296 rd).length sc)).set 1 (.int .i64 rk)
    have bX := bu.below b0_wg (show w.heap.size ≤ w.heap.size + 1 + 1 by omega)
    have oX := bu.own oL c_wg (by decide)
    obtain ⟨s0, s1⟩ := cX.cs2
    refine bodyPost_ret (v := .tuple #[.agg #[.slice so (Dg.dg 4294967296 rd).length sc, .int .i64 rk], .bool true]) (by simp [results, Tryz.results163, go_sem, s0, s1]) rfl ?_
    exact ⟨_, rfl, oX, bX⟩
end Go.Proofs.YtnhackdjplppjaaGreatDoor

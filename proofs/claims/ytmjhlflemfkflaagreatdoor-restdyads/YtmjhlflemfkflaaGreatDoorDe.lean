/-
  Texts laid together: Dl7, Dl3, Dl8, Dl9.
-/
import Derived.Test.YtmjhlflemfkflaaGreatDoorDr6
import Derived.Test.YtmjhlflemfkflaaGreatDoorDd
import Derived.Test.YtmjhlflemfkflaaGreatDoorDc
/-
  Contracts of dyad.Compare and of the reference's Minus, DCmp.
-/
namespace Go.Proofs.YtmjhlflemfkflaaGreatDoor
open Go.RowKit

/-- What Compare answers. -/
def dcmpR (c : Int) (a b : Trip) : Int := if c = 0 then signT (plusT a (negT b)) else 0

set_option maxRecDepth 100000 in
set_option maxHeartbeats 1600000 in
theorem dyCompare_any (s : Bool) (ao : Option Addr) (ca : Nat) (xs : List Nat) (e : Int) (t : Bool) (bo : Option Addr) (cb : Nat) (ys : List Nat) (f : Int) (w : World)
    (hr : Rd w .u32 (.slice ao xs.length ca) xs) (hq : Rd w .u32 (.slice bo ys.length cb) ys) (sa : Dg.Small 4294967296 xs) (sb : Dg.Small 4294967296 ys) :
    Calls Tryz.prog 97 #[.agg #[.bool s, .slice ao xs.length ca, .int .i64 e], .agg #[.bool t, .slice bo ys.length cb, .int .i64 f]] w fun z w' =>
      z = .returned (.tuple #[.int .i64 (dcmpR (dchk2 xs e ys f) ⟨s, Dg.vl 4294967296 xs, e⟩ ⟨t, Dg.vl 4294967296 ys, f⟩), .int .i64 (dchk2 xs e ys f)]) ∧ Below w.heap.size w w' := by
  have bA := below_trans (below_alloc w (.cells #[.bool s, .slice ao xs.length ca, .int .i64 e] 25)) (below_alloc _ (.cells #[.bool t, .slice bo ys.length cb, .int .i64 f] 25))
  have la := (loc_new w (.bool s) (.slice ao xs.length ca) (.int .i64 e) 25).later (below_alloc _ (.cells #[.bool t, .slice bo ys.length cb, .int .i64 f] 25))
  have lb := loc_new (w.alloc (.cells #[.bool s, .slice ao xs.length ca, .int .i64 e] 25)) (.bool t) (.slice bo ys.length cb) (.int .i64 f) 25
  rw [World.size_alloc] at lb
  obtain ⟨W, hW⟩ : ∃ W, ((w.alloc (.cells #[.bool s, .slice ao xs.length ca, .int .i64 e] 25)).alloc (.cells #[.bool t, .slice bo ys.length cb, .int .i64 f] 25)) = W := ⟨_, rfl⟩
  have sW : W.heap.size = w.heap.size + 1 + 1 := by rw [← hW]; simp [World.size_alloc]
  rw [hW] at bA la lb
  have bX := below_alloc W (.cells #[.bool s, .slice ao xs.length ca, .int .i64 e, .bool t, .slice bo ys.length cb, .int .i64 f] 25)
  have b01 := below_trans bA bX
  have la := la.later bX
  have lb := lb.later bX
  have hw := dwrong2_any W.heap.size s ao ca xs e t bo cb ys f (W.alloc (.cells #[.bool s, .slice ao xs.length ca, .int .i64 e, .bool t, .slice bo ys.length cb, .int .i64 f] 25))
    (by rw [World.cell?_alloc_at _ _ _ _ rfl]; rfl) (by rw [World.cell?_alloc_at _ _ _ _ rfl]; rfl) (by rw [World.cell?_alloc_at _ _ _ _ rfl]; rfl) (by rw [World.cell?_alloc_at _ _ _ _ rfl]; rfl) (by rw [World.cell?_alloc_at _ _ _ _ rfl]; rfl) (by rw [World.cell?_alloc_at _ _ _ _ rfl]; rfl)
    (hr.later b01) (hq.later b01)
  rw [sW] at hw
  rw [← hW] at hw la lb b01
  have HC : Hid (dchk2 xs e ys f = 0 → ∀ w1, Below w.heap.size w w1 → Calls Tryz.prog 99 #[.agg #[.bool s, .slice ao xs.length ca, .int .i64 e], .agg #[.bool t, .slice bo ys.length cb, .int .i64 f]] w1 fun z w' => z = .returned (.int .i64 (signT (plusT ⟨s, Dg.vl 4294967296 xs, e⟩ (negT ⟨t, Dg.vl 4294967296 ys, f⟩)))) ∧ Below w1.heap.size w1 w') := fun h w1 b1 => by
    obtain ⟨h1, h2⟩ := dchk2_zero h
    obtain ⟨c1, e1, e2⟩ := dchk_zero h1
    obtain ⟨c2, f1, f2⟩ := dchk_zero h2
    have z1 := chk_zero c1
    have z2 := chk_zero c2
    have x1 : (Dg.dg 4294967296 (Dg.vl 4294967296 xs)).length ≤ 1200 := by rw [← Dg.eq_dg 4294967296 (by omega) xs _ sa z1.1 rfl]; exact z1.2
    have x2 : (Dg.dg 4294967296 (Dg.vl 4294967296 ys)).length ≤ 1200 := by rw [← Dg.eq_dg 4294967296 (by omega) ys _ sb z2.1 rfl]; exact z2.2
    exact dcompareL_any _ _ _ _ w1 (dv_of (hr.later b1) sa z1.1) (dv_of (hq.later b1) sb z2.1) (by simp only; omega) (by simp only; omega) (by simp only; omega) (by simp only; omega) (by simp only; omega) (by simp only; omega)
  unfold dcmpR
  obtain ⟨c, hc⟩ : ∃ c, dchk2 xs e ys f = c := ⟨_, rfl⟩
  rw [hc] at hw HC ⊢
  obtain ⟨g, hg⟩ : ∃ g, signT (plusT ⟨s, Dg.vl 4294967296 xs, e⟩ (negT ⟨t, Dg.vl 4294967296 ys, f⟩)) = g := ⟨_, rfl⟩
  rw [hg] at HC ⊢
  clear hc hg bA bX sW hW hr hq sa sb
  by_cases h : c = 0
  · subst h
    rw [if_pos rfl]
    have HC2 : Hid (∀ w1, Below w.heap.size w w1 → Calls Tryz.prog 99 #[.agg #[.bool s, .slice ao xs.length ca, .int .i64 e], .agg #[.bool t, .slice bo ys.length cb, .int .i64 f]] w1 fun z w' => z = .returned (.int .i64 g) ∧ Below w1.heap.size w1 w') := HC.out rfl
    clear HC
    go_enter Tryz.func97, Tryz.ntmps97
    go_wp2_with fail
    refine hw.mono ?_
    rintro z w1 ⟨rfl, b1⟩
    have la := la.later b1
    have lb := lb.later b1
    have b01 := below_trans b01 b1
    have bd : Below w1.heap.size w1 w1.drew := (Below.refl _ _).drew
    have la := la.later bd
    have lb := lb.later bd
    have b02 := below_trans b01 bd
    obtain ⟨-, ⟨ca0, ca1, ca2⟩, -⟩ := id la
    obtain ⟨-, ⟨cb0, cb1, cb2⟩, -⟩ := id lb
    clear hw b1 bd b01
    go_wp2_with fail
    go_region_held3 (fun wq => (wq.cell? ⟨w.heap.size, 0, none⟩ = some (.bool s) ∧ wq.cell? ⟨w.heap.size, 1, none⟩ = some (.slice ao xs.length ca) ∧ wq.cell? ⟨w.heap.size, 2, none⟩ = some (.int .i64 e)) ∧ wq.cell? ⟨w.heap.size + 1, 0, none⟩ = some (.bool t) ∧ wq.cell? ⟨w.heap.size + 1, 1, none⟩ = some (.slice bo ys.length cb) ∧ wq.cell? ⟨w.heap.size + 1, 2, none⟩ = some (.int .i64 f)) (go_keep) (first
      | (go_at_call 25; refine (of_dy s ao xs.length ca e w1.drew).mono ?_; rintro z w3 ⟨rfl, b3⟩; have la3 := la.later b3; have lb3 := lb.later b3; have b03 := below_trans b02 b3; obtain ⟨-, ⟨p0, p1, p2⟩, -⟩ := id la3; obtain ⟨-, ⟨p3, p4, p5⟩, -⟩ := id lb3; clear b02)
      | (go_at_call 25; refine (of_dy t bo ys.length cb f w3).mono ?_; rintro z w4 ⟨rfl, b4⟩; have la4 := la3.later b4; have lb4 := lb3.later b4; have b04 := below_trans b03 b4; obtain ⟨-, ⟨q0, q1, q2⟩, -⟩ := id la4; obtain ⟨-, ⟨q3, q4, q5⟩, -⟩ := id lb4)
      | (go_at_call 99; refine (HC2.out w4 b04).mono ?_; rintro z w5 ⟨rfl, b5⟩; have la5 := la4.later b5; have lb5 := lb4.later b5; have b05 := below_trans b04 b5; obtain ⟨-, ⟨t0, t1, t2⟩, -⟩ := id la5; obtain ⟨-, ⟨t3, t4, t5⟩, -⟩ := id lb5))
    all_goals go_wp2
    go_ret2
    exact ⟨rfl, b05⟩
  · rw [if_neg h]
    clear HC
    go_enter Tryz.func97, Tryz.ntmps97
    go_wp2_with fail
    refine hw.mono ?_
    rintro z w1 ⟨rfl, b1⟩
    have b01 := below_trans b01 b1
    clear hw b1
    go_wp2
    go_ret2
    exact ⟨rfl, b01⟩
end Go.Proofs.YtmjhlflemfkflaaGreatDoor
/-
  The law DyadMuls.
-/
namespace Go.Proofs.YtmjhlflemfkflaaGreatDoor
open Go.RowKit

theorem bare_fits {t : Trip} (h : (Dg.dg 4294967296 t.n).length ≤ 1200) (h1 : -20000 ≤ t.e) (h2 : t.e ≤ 20000) : (Dg.dg 65536 (bare t).n).length ≤ 2400 ∧ -20000 ≤ (bare t).e ∧ (bare t).e ≤ 58400 := by
  have h3 := tz_fits t.n 1200 h
  have h4 := dg16_len t.n 1200 h
  unfold bare
  split
  · exact ⟨by show ([] : List Nat).length ≤ 2400; simp, by simp, by simp⟩
  · refine ⟨Nat.le_trans (dg_len_mono 65536 _ t.n (by omega) (Nat.div_le_self _ _)) (by omega), ?_, ?_⟩
    · simp only; omega
    · simp only; omega

theorem bare_n_le (t : Trip) : (bare t).n ≤ t.n := by
  unfold bare
  split
  · exact Nat.zero_le _
  · exact Nat.div_le_self _ _

end Go.Proofs.YtmjhlflemfkflaaGreatDoor
/-
  The reference's Minus, DCmp; the law DyadCompares.
-/
namespace Go.Proofs.YtmjhlflemfkflaaGreatDoor
open Go.RowKit

def minusT (t : Trip) : Trip := ⟨!t.s && decide (0 < t.n), t.n, t.e⟩

theorem V_minusT (K : Nat) (t : Trip) : V K (minusT t) = -V K t := by
  rw [← V_neg, V_nat, V_nat]
  unfold minusT negT
  simp only
  by_cases h : 0 < t.n
  · simp [h]
  · have h0 : t.n = 0 := by omega
    rw [h0, Nat.zero_mul]
    simp [sz]

theorem sign_V (K : Nat) (t : Trip) : signT t = sgn (V K t) := (sgn_V K t).symm

theorem sign_ref (A B : Trip) : signT (bare (dplusT (bare A) (minusT (bare B)))) = signT (plusT A (negT B)) := by
  have h1 : -((A.e.natAbs + B.e.natAbs : Nat) : Int) ≤ A.e := by omega
  have h2 : -((A.e.natAbs + B.e.natAbs : Nat) : Int) ≤ B.e := by omega
  have h3 : -((A.e.natAbs + B.e.natAbs : Nat) : Int) ≤ (minusT (bare B)).e := bare_e h2
  rw [sign_V (A.e.natAbs + B.e.natAbs), V_bare (dplus_e (bare_e h1) h3), V_dplus (bare_e h1) h3, V_minusT, V_bare h1, V_bare h2, sign_plus]
  congr 1

set_option maxRecDepth 100000 in
set_option maxHeartbeats 800000 in
theorem refminus_same (s0 : Value) (t : Trip) (w : World) (hr : Rd w .i64 s0 (Dg.dg 65536 t.n)) : Calls Tryz.prog 48 #[.agg #[.bool t.s, s0, .int .i64 t.e]] w fun z w' => z = .returned (.agg #[.bool (minusT t).s, s0, .int .i64 (minusT t).e]) ∧ Below w.heap.size w w' := by
  obtain ⟨ao, ca, rfl⟩ := hr.shape
  obtain ⟨ts, n, e⟩ := t
  have hnl := Dg.dg_nil_iff 65536 n (by omega)
  simp only at hr ⊢
  unfold minusT
  simp only
  have hz : (0 < (Dg.dg 65536 n).length) ↔ 0 < n := by
    rw [List.length_pos_iff, Ne, hnl]; omega
  obtain ⟨m, hm⟩ : ∃ m, (Dg.dg 65536 n).length = m := ⟨_, rfl⟩
  rw [hm] at hz hr ⊢
  clear hr
  by_cases h : 0 < n
  · have h6 := hz.2 h
    rw [decide_eq_true h, Bool.and_true]
    clear hz h hm hnl
    cases ts
    · go_enter Tryz.func48, Tryz.ntmps48
      go_wp2
      go_returns
      exact ⟨rfl, below_trans (below_alloc w _) (below_alloc _ _)⟩
    · go_enter Tryz.func48, Tryz.ntmps48
      go_wp2
      go_returns
      exact ⟨rfl, below_trans (below_alloc w _) (below_alloc _ _)⟩
  · have h6 : ¬0 < m := fun e => h (hz.1 e)
    rw [decide_eq_false h, Bool.and_false]
    clear hz h hm hnl
    cases ts
    · go_enter Tryz.func48, Tryz.ntmps48
      go_wp2
      go_returns
      exact ⟨rfl, below_trans (below_alloc w _) (below_alloc _ _)⟩
    · go_enter Tryz.func48, Tryz.ntmps48
      go_wp2
      go_returns
      exact ⟨rfl, below_trans (below_alloc w _) (below_alloc _ _)⟩

theorem refminus_any (v : Value) (t : Trip) (w : World) (hv : Rv w v t) : Calls Tryz.prog 48 #[v] w (RDRes w (minusT t)) := by
  obtain ⟨s0, rfl, hr⟩ := hv
  refine (refminus_same s0 t w hr).mono ?_
  rintro z w' ⟨rfl, b⟩
  exact ⟨_, rfl, hr.later b, b⟩

end Go.Proofs.YtmjhlflemfkflaaGreatDoor
/-
  The reference's DCmp; the law DyadCompares.
-/
namespace Go.Proofs.YtmjhlflemfkflaaGreatDoor
open Go.RowKit

set_option maxRecDepth 100000 in
set_option maxHeartbeats 1600000 in
theorem refdcmp_any (v u : Value) (a b : Trip) (w : World) (hv : Rv w v a) (hu : Rv w u b) (hLa : (Dg.dg 65536 a.n).length ≤ 30000) (hLb : (Dg.dg 65536 b.n).length ≤ 30000)
    (ha1 : -200000 ≤ a.e) (ha2 : a.e ≤ 200000) (hb1 : -200000 ≤ b.e) (hb2 : b.e ≤ 200000) :
    Calls Tryz.prog 19 #[v, u] w fun z w' => z = .returned (.int .i64 (signT (bare (dplusT a (minusT b))))) ∧ Below w.heap.size w w' := by
  have HM : Hid (∀ w1, Below w.heap.size w w1 → Calls Tryz.prog 48 #[u] w1 (RDRes w1 (minusT b))) := fun w1 b1 => refminus_any u b w1 (hu.later b1)
  have HP : Hid (∀ x w1, Below w.heap.size w w1 → Rv w1 x (minusT b) → Calls Tryz.prog 47 #[v, x] w1 (RDRes w1 (bare (dplusT a (minusT b))))) := fun x w1 b1 hx => refdplus_any v x a (minusT b) w1 (hv.later b1) hx hLa hLb ha1 ha2 hb1 hb2
  obtain ⟨s0, rfl, ra⟩ := hv
  obtain ⟨ao, ca, rfl⟩ := ra.shape
  obtain ⟨s1, rfl, rb⟩ := hu
  obtain ⟨bo, cb, rfl⟩ := rb.shape
  obtain ⟨⟨rs, rn, re⟩, hT⟩ : ∃ T, bare (dplusT a (minusT b)) = T := ⟨_, rfl⟩
  rw [hT] at HP ⊢
  obtain ⟨⟨ms, mn, me⟩, hMT⟩ : ∃ T, minusT b = T := ⟨_, rfl⟩
  rw [hMT] at HP HM
  have hnl := Dg.dg_nil_iff 65536 rn (by omega)
  obtain ⟨ma, hma⟩ : ∃ m, (Dg.dg 65536 a.n).length = m := ⟨_, rfl⟩
  obtain ⟨mb, hmb⟩ : ∃ m, (Dg.dg 65536 b.n).length = m := ⟨_, rfl⟩
  rw [hma] at HP ⊢
  rw [hmb] at HM ⊢
  obtain ⟨sa, an, ae⟩ := a
  obtain ⟨sb, bn, be⟩ := b
  simp only at HP HM ⊢
  clear hT hma hmb ra rb hLa hLb hMT
  unfold signT
  simp only
  have bA := below_trans (below_alloc w (.cells #[.bool sa, .slice ao ma ca, .int .i64 ae] 34)) (below_alloc _ (.cells #[.bool sb, .slice bo mb cb, .int .i64 be] 34))
  have la := (loc_new w (.bool sa) (.slice ao ma ca) (.int .i64 ae) 34).later (below_alloc _ (.cells #[.bool sb, .slice bo mb cb, .int .i64 be] 34))
  have lb := loc_new (w.alloc (.cells #[.bool sa, .slice ao ma ca, .int .i64 ae] 34)) (.bool sb) (.slice bo mb cb) (.int .i64 be) 34
  rw [World.size_alloc] at lb
  obtain ⟨W, hW⟩ : ∃ W, ((w.alloc (.cells #[.bool sa, .slice ao ma ca, .int .i64 ae] 34)).alloc (.cells #[.bool sb, .slice bo mb cb, .int .i64 be] 34)) = W := ⟨_, rfl⟩
  rw [hW] at bA la lb
  have bd : Below W.heap.size W W.drew := (Below.refl _ _).drew
  have b02 := below_trans bA bd
  have la2 := la.later bd
  have lb2 := lb.later bd
  have lzW := loc_new W.drew (.bool false) (.slice none 0 0) (.int .i64 0) 34
  have sW : W.drew.heap.size = w.heap.size + 1 + 1 := by rw [← hW]; simp [World.size_alloc]
  rw [sW] at lzW
  rw [← hW] at b02 la2 lb2 lzW
  obtain ⟨-, ⟨c0, c1, c2⟩, -⟩ := id la2
  obtain ⟨-, ⟨c3, c4, c5⟩, -⟩ := id lb2
  clear bA la lb bd hW sW
  have ne3 : w.heap.size + 1 + 1 ≠ w.heap.size := by omega
  have ne4 : w.heap.size + 1 + 1 ≠ w.heap.size + 1 := by omega
  go_enter Tryz.func19, Tryz.ntmps19
  go_wp2_with fail
  go_region_held3 (fun wq => (wq.cell? ⟨w.heap.size, 0, none⟩ = some (.bool sa) ∧ wq.cell? ⟨w.heap.size, 1, none⟩ = some (.slice ao ma ca) ∧ wq.cell? ⟨w.heap.size, 2, none⟩ = some (.int .i64 ae)) ∧ wq.cell? ⟨w.heap.size + 1, 0, none⟩ = some (.bool sb) ∧ wq.cell? ⟨w.heap.size + 1, 1, none⟩ = some (.slice bo mb cb) ∧ wq.cell? ⟨w.heap.size + 1, 2, none⟩ = some (.int .i64 be)) (go_keep) (first
      | (go_at_call 48; refine (HM.out _ b02).mono ?_; rintro z w3 ⟨v1, rfl, q1, b3⟩; have la3 := la2.later b3; have lb3 := lb2.later b3; have b03 := below_trans b02 b3; obtain ⟨-, ⟨p0, p1, p2⟩, -⟩ := id la3; obtain ⟨-, ⟨p3, p4, p5⟩, -⟩ := id lb3; have x0 := World.new_ne w3 _ p0; have x1 := World.new_ne w3 _ p3)
      | (go_at_call 48; refine (HM.out _ (below_trans b02 (below_alloc _ (.cells #[.bool false, .slice none 0 0, .int .i64 0] 34)))).mono ?_; rintro z w3 ⟨v1, rfl, q1, b3⟩; have la3 := (la2.later (below_alloc _ (.cells #[.bool false, .slice none 0 0, .int .i64 0] 34))).later b3; have lb3 := (lb2.later (below_alloc _ (.cells #[.bool false, .slice none 0 0, .int .i64 0] 34))).later b3; have b03 := below_trans (below_trans b02 (below_alloc _ (.cells #[.bool false, .slice none 0 0, .int .i64 0] 34))) b3; have lz3 := lzW.later b3; obtain ⟨-, ⟨p0, p1, p2⟩, -⟩ := id la3; obtain ⟨-, ⟨p3, p4, p5⟩, -⟩ := id lb3; have x0 := World.new_ne w3 _ p0; have x1 := World.new_ne w3 _ p3)
      | (go_at_call 47; refine (HP.out _ w3 b03 ⟨_, rfl, q1⟩).mono ?_; rintro z w4 ⟨v2, rfl, q2, b4⟩; obtain ⟨to, tc, hvt⟩ := q2.shape; subst hvt; have la4 := la3.later b4; have lb4 := lb3.later b4; have b04 := below_trans b03 b4; (try (have lz4 := lz3.later b4; obtain ⟨-, ⟨d0, d1, d2⟩, f0, f1, f2⟩ := id lz4)); obtain ⟨-, ⟨u0, u1, u2⟩, -⟩ := id la4; obtain ⟨-, ⟨u3, u4, u5⟩, -⟩ := id lb4; have y0 := World.new_ne w4 _ u0; have y1 := World.new_ne w4 _ u3)
      | (go_at_call 47; refine (HP.out _ _ (below_trans b03 (below_alloc _ (.cells #[.bool false, .slice none 0 0, .int .i64 0] 34))) ⟨_, rfl, q1.later (below_alloc _ (.cells #[.bool false, .slice none 0 0, .int .i64 0] 34))⟩).mono ?_; rintro z w4 ⟨v2, rfl, q2, b4⟩; obtain ⟨to, tc, hvt⟩ := q2.shape; subst hvt; have la4 := (la3.later (below_alloc _ (.cells #[.bool false, .slice none 0 0, .int .i64 0] 34))).later b4; have lb4 := (lb3.later (below_alloc _ (.cells #[.bool false, .slice none 0 0, .int .i64 0] 34))).later b4; have b04 := below_trans (below_trans b03 (below_alloc _ (.cells #[.bool false, .slice none 0 0, .int .i64 0] 34))) b4; have lz4 := (loc_new w3 (.bool false) (.slice none 0 0) (.int .i64 0) 34).later b4; obtain ⟨-, ⟨d0, d1, d2⟩, f0, f1, f2⟩ := id lz4; obtain ⟨-, ⟨u0, u1, u2⟩, -⟩ := id la4; obtain ⟨-, ⟨u3, u4, u5⟩, -⟩ := id lb4))
  · have hlen : (Dg.dg 65536 rn).length = 0 ↔ rn = 0 := by rw [List.length_eq_zero_iff]; exact hnl
    have hs3 := b03.size
    have bZ := below_trans b04 (below_alloc w4 (.cells #[.bool rs, .slice to (Dg.dg 65536 rn).length tc, .int .i64 re] 34))
    clear la2 lb2 lzW c0 c1 c2 c3 c4 c5 HP HM la3 lb3 p0 p1 p2 p3 p4 p5 q1 q2 la4 lb4 hnl b02 b03 b04 b3 b4 x0 x1 ne3 ne4
    by_cases h : rn = 0
    · have h6 := hlen.2 h
      have H : Hid (rn = 0) := h
      rw [h6] at bZ
      clear hlen h
      go_wp2
      go_ret
      exact ⟨by first | rfl | rw [if_pos H.out], bZ⟩
    · have h7 : ¬(Dg.dg 65536 rn).length = 0 := fun e => h (hlen.1 e)
      have H : Hid (¬rn = 0) := h
      have h6 : (((Dg.dg 65536 rn).length : Int) == 0) = false := by
        revert h7
        generalize (Dg.dg 65536 rn).length = mr
        intro h7
        simp; exact h7
      clear hlen h h7
      cases rs
      · go_wp2
        go_ret
        exact ⟨by first | rfl | (rw [if_neg H.out]; rfl), bZ⟩
      · go_wp2
        go_ret
        exact ⟨by first | rfl | (rw [if_neg H.out]; rfl), bZ⟩
  · obtain ⟨-, ⟨g0, g1, g2⟩, -⟩ := loc_set lz4 (.bool rs) (.slice to (Dg.dg 65536 rn).length tc) (.int .i64 re)
    have hlen : (Dg.dg 65536 rn).length = 0 ↔ rn = 0 := by rw [List.length_eq_zero_iff]; exact hnl
    have hs3 := b03.size
    have bZ := below_set3 b04 hs3 (.bool rs) (.slice to (Dg.dg 65536 rn).length tc) (.int .i64 re)
    clear la2 lb2 lzW c0 c1 c2 c3 c4 c5 HP HM la3 lb3 p0 p1 p2 p3 p4 p5 q1 q2 la4 lb4 hnl b02 b03 b04 b3 b4 x0 x1 ne3 ne4
    by_cases h : rn = 0
    · have h6 := hlen.2 h
      have H : Hid (rn = 0) := h
      rw [h6] at bZ
      clear hlen h
      go_wp2
      go_ret
      exact ⟨by first | rfl | rw [if_pos H.out], bZ⟩
    · have h7 : ¬(Dg.dg 65536 rn).length = 0 := fun e => h (hlen.1 e)
      have H : Hid (¬rn = 0) := h
      have h6 : (((Dg.dg 65536 rn).length : Int) == 0) = false := by
        revert h7
        generalize (Dg.dg 65536 rn).length = mr
        intro h7
        simp; exact h7
      clear hlen h h7
      cases rs
      · go_wp2
        go_ret
        exact ⟨by first | rfl | (rw [if_neg H.out]; rfl), bZ⟩
      · go_wp2
        go_ret
        exact ⟨by first | rfl | (rw [if_neg H.out]; rfl), bZ⟩
  · obtain ⟨-, ⟨g0, g1, g2⟩, -⟩ := loc_set lz4 (.bool rs) (.slice to (Dg.dg 65536 rn).length tc) (.int .i64 re)
    have hlen : (Dg.dg 65536 rn).length = 0 ↔ rn = 0 := by rw [List.length_eq_zero_iff]; exact hnl
    have hs3 := b03.size
    have bZ := below_set3 b04 (show w.heap.size ≤ w.heap.size + 1 + 1 by omega) (.bool rs) (.slice to (Dg.dg 65536 rn).length tc) (.int .i64 re)
    clear la2 lb2 lzW c0 c1 c2 c3 c4 c5 HP HM la3 lb3 p0 p1 p2 p3 p4 p5 q1 q2 la4 lb4 hnl b02 b03 b04 b3 b4 x0 x1 ne3 ne4
    by_cases h : rn = 0
    · have h6 := hlen.2 h
      have H : Hid (rn = 0) := h
      rw [h6] at bZ
      clear hlen h
      go_wp2
      go_ret
      exact ⟨by first | rfl | rw [if_pos H.out], bZ⟩
    · have h7 : ¬(Dg.dg 65536 rn).length = 0 := fun e => h (hlen.1 e)
      have H : Hid (¬rn = 0) := h
      have h6 : (((Dg.dg 65536 rn).length : Int) == 0) = false := by
        revert h7
        generalize (Dg.dg 65536 rn).length = mr
        intro h7
        simp; exact h7
      clear hlen h h7
      cases rs
      · go_wp2
        go_ret
        exact ⟨by first | rfl | (rw [if_neg H.out]; rfl), bZ⟩
      · go_wp2
        go_ret
        exact ⟨by first | rfl | (rw [if_neg H.out]; rfl), bZ⟩
end Go.Proofs.YtmjhlflemfkflaaGreatDoor

/-
  Texts laid together: Bl15, BlM, Bl16, Bl17.
-/
import Derived.Test.YtfajoaopfedokaaDoorBb
import Derived.Test.YtfajoaopfedokaaDoorBc
import Derived.Test.YtfajoaopfedokaaDoorDe
import Derived.Test.YtfajoaopfedokaaDoorBd
/-
  Balls: contract of ball.Has.
-/
namespace Go.Proofs.YtfajoaopfedokaaDoor
open Go.RowKit

/-- What Has answers: an error, and whether it is in it. -/
def hasC (c d : Int) : Int := if c = 0 then d else c
def hasV (c d g1 g2 : Int) : Bool := if c = 0 then (if d = 0 then hasB g1 g2 else false) else false

set_option maxRecDepth 100000 in
set_option maxHeartbeats 1600000 in
theorem bHasE_any (s : Bool) (ao : Option Addr) (ca la : Nat) (e : Int) (t : Bool) (bo : Option Addr) (cb lb : Nat) (f : Int) (r : Bool) (co : Option Addr) (cc lc : Nat) (k : Int) (c d g1 g2 : Int) (w : World)
    (HC : ∀ w1, Below w.heap.size w w1 → Calls Tryd.prog 30 #[.agg #[.bool s, .slice ao la ca, .int .i64 e, .bool t, .slice bo lb cb, .int .i64 f]] w1 fun z w' => z = .returned (.int .i64 c) ∧ Below w1.heap.size w1 w')
    (HD : ∀ w1, Below w.heap.size w w1 → Calls Tryd.prog 75 #[.agg #[.bool r, .slice co lc cc, .int .i64 k]] w1 fun z w' => z = .returned (.int .i64 d) ∧ Below w1.heap.size w1 w')
    (HH : c = 0 → d = 0 → ∀ w1, Below w.heap.size w w1 → Calls Tryd.prog 76 #[.agg #[.bool s, .slice ao la ca, .int .i64 e, .bool t, .slice bo lb cb, .int .i64 f], .agg #[.bool r, .slice co lc cc, .int .i64 k]] w1 fun z w' => z = .returned (.bool (hasB g1 g2)) ∧ Below w1.heap.size w1 w') :
    Calls Tryd.prog 32 #[.agg #[.bool s, .slice ao la ca, .int .i64 e, .bool t, .slice bo lb cb, .int .i64 f], .agg #[.bool r, .slice co lc cc, .int .i64 k]] w fun z w' => z = .returned (.tuple #[.bool (hasV c d g1 g2), .int .i64 (hasC c d)]) ∧ Below w.heap.size w w' := by
  have HHC : Hid _ := HC
  have HHD : Hid _ := HD
  have HHH : Hid _ := HH
  clear HC HD HH
  have bA := below_trans (below_alloc w (.cells #[.bool s, .slice ao la ca, .int .i64 e, .bool t, .slice bo lb cb, .int .i64 f] 43)) (below_alloc _ (.cells #[.bool r, .slice co lc cc, .int .i64 k] 25))
  have l1 := (loc6_new w (.bool s) (.slice ao la ca) (.int .i64 e) (.bool t) (.slice bo lb cb) (.int .i64 f) 43).later (below_alloc _ (.cells #[.bool r, .slice co lc cc, .int .i64 k] 25))
  have m1 := loc_new (w.alloc (.cells #[.bool s, .slice ao la ca, .int .i64 e, .bool t, .slice bo lb cb, .int .i64 f] 43)) (.bool r) (.slice co lc cc) (.int .i64 k) 25
  rw [World.size_alloc] at m1
  unfold hasV hasC
  by_cases hc : c = 0
  · subst hc
    rw [if_pos rfl, if_pos rfl]
    replace HHH : Hid _ := HHH.out rfl
    by_cases hd : d = 0
    · subst hd
      rw [if_pos rfl]
      replace HHH : Hid _ := HHH.out rfl
      obtain ⟨hv, hve⟩ : ∃ v, hasB g1 g2 = v := ⟨_, rfl⟩
      rw [hve] at HHH ⊢
      clear hve
      go_enter Tryd.func32, Tryd.ntmps32
      go_wp2_with fail
      refine (HHC.out _ bA).mono ?_
      rintro z w2 ⟨rfl, b2⟩
      have b02 := below_trans bA b2
      have l2 := l1.later b2
      have m2 := m1.later b2
      clear bA l1 m1 b2
      obtain ⟨-, ⟨x0, x1, x2⟩, -⟩ := id m2
      go_wp2_with fail
      refine (HHD.out _ b02).mono ?_
      rintro z w3 ⟨rfl, b3⟩
      have bd : Below w3.heap.size w3 w3.drew := (Below.refl _ _).drew
      have b03 := below_trans (below_trans b02 b3) bd
      have l3 := (l2.later b3).later bd
      have m3 := (m2.later b3).later bd
      clear b02 l2 m2 b3 x0 x1 x2 bd
      obtain ⟨-, ⟨c0, c1, c2, c3, c4, c5⟩, -⟩ := id l3
      obtain ⟨-, ⟨x0, x1, x2⟩, -⟩ := id m3
      go_wp2_with fail
      go_region_held3 (fun wq => (wq.cell? ⟨w.heap.size, 0, none⟩ = some (.bool s) ∧ wq.cell? ⟨w.heap.size, 1, none⟩ = some (.slice ao la ca) ∧ wq.cell? ⟨w.heap.size, 2, none⟩ = some (.int .i64 e)) ∧ (wq.cell? ⟨w.heap.size, 3, none⟩ = some (.bool t) ∧ wq.cell? ⟨w.heap.size, 4, none⟩ = some (.slice bo lb cb) ∧ wq.cell? ⟨w.heap.size, 5, none⟩ = some (.int .i64 f)) ∧ wq.cell? ⟨w.heap.size + 1, 0, none⟩ = some (.bool r) ∧ wq.cell? ⟨w.heap.size + 1, 1, none⟩ = some (.slice co lc cc) ∧ wq.cell? ⟨w.heap.size + 1, 2, none⟩ = some (.int .i64 k)) (go_keep) (first
        | (go_at_call 68; refine (of_dy r co lc cc k _).mono ?_; rintro z w4 ⟨rfl, b4⟩; have l4 := l3.later b4; have m4 := m3.later b4; have b04 := below_trans b03 b4; obtain ⟨-, ⟨p0, p1, p2, p3, p4, p5⟩, -⟩ := id l4; obtain ⟨-, ⟨y0, y1, y2⟩, -⟩ := id m4)
        | (go_at_call 76; refine (HHH.out w4 b04).mono ?_; rintro z w5 ⟨rfl, b5⟩; have l5 := l4.later b5; have m5 := m4.later b5; have b05 := below_trans b04 b5; obtain ⟨-, ⟨q0, q1, q2, q3, q4, q5⟩, -⟩ := id l5; obtain ⟨-, ⟨n0, n1, n2⟩, -⟩ := id m5))
      all_goals go_wp2
      go_ret2
      exact ⟨rfl, b05⟩
    · rw [if_neg hd]
      go_enter Tryd.func32, Tryd.ntmps32
      go_wp2_with fail
      refine (HHC.out _ bA).mono ?_
      rintro z w2 ⟨rfl, b2⟩
      have b02 := below_trans bA b2
      have m2 := m1.later b2
      clear bA l1 m1 b2
      obtain ⟨-, ⟨x0, x1, x2⟩, -⟩ := id m2
      go_wp2_with fail
      refine (HHD.out _ b02).mono ?_
      rintro z w3 ⟨rfl, b3⟩
      have b03 := below_trans b02 b3
      go_wp2
      go_ret2
      exact ⟨rfl, b03⟩
  · rw [if_neg hc, if_neg hc]
    go_enter Tryd.func32, Tryd.ntmps32
    go_wp2_with fail
    refine (HHC.out _ bA).mono ?_
    rintro z w2 ⟨rfl, b2⟩
    have b02 := below_trans bA b2
    go_wp2
    go_ret2
    exact ⟨rfl, b02⟩

theorem bHas_any (s : Bool) (ao : Option Addr) (ca : Nat) (xs : List Nat) (e : Int) (t : Bool) (bo : Option Addr) (cb : Nat) (ys : List Nat) (f : Int) (r : Bool) (co : Option Addr) (cc : Nat) (zs : List Nat) (k : Int) (w : World)
    (ha : Rd w .u32 (.slice ao xs.length ca) xs) (hb : Rd w .u32 (.slice bo ys.length cb) ys) (hz : Rd w .u32 (.slice co zs.length cc) zs) (sa : Dg.Small 4294967296 xs) (sb : Dg.Small 4294967296 ys) (sc : Dg.Small 4294967296 zs) :
    Calls Tryd.prog 32 #[.agg #[.bool s, .slice ao xs.length ca, .int .i64 e, .bool t, .slice bo ys.length cb, .int .i64 f], .agg #[.bool r, .slice co zs.length cc, .int .i64 k]] w fun z w' => z = .returned (.tuple #[.bool (hasV (bchk s xs e t ys f) (dchk zs k) (cmpT ⟨s, Dg.vl 4294967296 xs, e⟩ ⟨r, Dg.vl 4294967296 zs, k⟩) (cmpT ⟨t, Dg.vl 4294967296 ys, f⟩ ⟨r, Dg.vl 4294967296 zs, k⟩)), .int .i64 (hasC (bchk s xs e t ys f) (dchk zs k))]) ∧ Below w.heap.size w w' := by
  refine bHasE_any s ao ca xs.length e t bo cb ys.length f r co cc zs.length k _ _ _ _ w (fun w1 b1 => bcheck_any s ao ca xs e t bo cb ys f w1 (ha.later b1) (hb.later b1) sa sb) (fun w1 b1 => dcheck_any r co cc zs k w1 (hz.later b1)) (fun h1 h2 w1 b1 => ?_)
  obtain ⟨i1, i2, _⟩ := bchk_zero h1
  obtain ⟨v1, v2, v3, v4, v5⟩ := num_ok i1 sa
  obtain ⟨u1, u2, u3, u4, u5⟩ := num_ok i2 sb
  obtain ⟨z1, z2, z3, z4, z5⟩ := num_ok h2 sc
  refine bhas_any s ao ca xs.length e t bo cb ys.length f r co cc zs.length k _ _ w1 (signT_le _) (fun w2 b2 => ?_) (fun w2 b2 => ?_)
  · exact dcompareL_any _ _ ⟨s, Dg.vl 4294967296 xs, e⟩ ⟨r, Dg.vl 4294967296 zs, k⟩ w2 (dv_of (ha.later (below_trans b1 b2)) sa v1) (dv_of (hz.later (below_trans b1 b2)) sc z1) (by rw [v2]; omega) (by rw [z2]; omega) (by show -100000 ≤ e; omega) (by show e ≤ 100000; omega) (by show -100000 ≤ k; omega) (by show k ≤ 100000; omega)
  · exact dcompareL_any _ _ ⟨t, Dg.vl 4294967296 ys, f⟩ ⟨r, Dg.vl 4294967296 zs, k⟩ w2 (dv_of (hb.later (below_trans b1 b2)) sb u1) (dv_of (hz.later (below_trans b1 b2)) sc z1) (by rw [u2]; omega) (by rw [z2]; omega) (by show -100000 ≤ f; omega) (by show f ≤ 100000; omega) (by show -100000 ≤ k; omega) (by show k ≤ 100000; omega)
end Go.Proofs.YtfajoaopfedokaaDoor
/-
  Balls: blocks that a region makes, with what they hold; the reference's DCmp by values.
-/
namespace Go.Proofs.YtfajoaopfedokaaDoor
open Go.RowKit

def New6 (W : World) (base : Nat) (v : Value) : Prop := ∃ p, v = .pointer (some ⟨p, 0, none⟩) ∧ base ≤ p ∧ Loc6 W p (.bool false) (.slice none 0 0) (.int .i64 0) (.bool false) (.slice none 0 0) (.int .i64 0) ∧ ZB6 W p
def NewZ (W : World) (base : Nat) (v : Value) : Prop := ∃ p, v = .pointer (some ⟨p, 0, none⟩) ∧ base ≤ p ∧ Loc W p (.bool false) (.slice none 0 0) (.int .i64 0) ∧ ZB W p

theorem New6.later {W W' : World} {base : Nat} {v : Value} (h : New6 W base v) (hb : Below W.heap.size W W') : New6 W' base v := by
  obtain ⟨p, h1, h2, h3, h4⟩ := h
  exact ⟨p, h1, h2, h3.later hb, h4.later hb⟩
theorem NewZ.later {W W' : World} {base : Nat} {v : Value} (h : NewZ W base v) (hb : Below W.heap.size W W') : NewZ W' base v := by
  obtain ⟨p, h1, h2, h3, h4⟩ := h
  exact ⟨p, h1, h2, h3.later hb, h4.later hb⟩
theorem new6_ne {W : World} {base : Nat} {v : Value} (h : New6 W base v) : v ≠ .pointer (some ⟨W.heap.size, 0, none⟩) := by
  obtain ⟨p, rfl, _, h3, _⟩ := h
  intro e
  have : p = W.heap.size := by simpa using e
  have := h3.1
  omega
theorem newZ_ne {W : World} {base : Nat} {v : Value} (h : NewZ W base v) : v ≠ .pointer (some ⟨W.heap.size, 0, none⟩) := by
  obtain ⟨p, rfl, _, h3, _⟩ := h
  intro e
  have : p = W.heap.size := by simpa using e
  have := h3.1
  omega
theorem new6_new (W : World) (base : Nat) (ty : TypeId) (h : base ≤ W.heap.size) : New6 (W.alloc (.cells #[.bool false, .slice none 0 0, .int .i64 0, .bool false, .slice none 0 0, .int .i64 0] ty)) base (.pointer (some ⟨W.heap.size, 0, none⟩)) :=
  ⟨_, rfl, h, loc6_new W _ _ _ _ _ _ ty, zb6_new W ty⟩
theorem newZ_new (W : World) (base : Nat) (ty : TypeId) (h : base ≤ W.heap.size) : NewZ (W.alloc (.cells #[.bool false, .slice none 0 0, .int .i64 0] ty)) base (.pointer (some ⟨W.heap.size, 0, none⟩)) :=
  ⟨_, rfl, h, loc_new W _ _ _ ty, zb_new W ty⟩

theorem ZB.off {w w' : World} {q b : Nat} (h : ZB w q) (hg : w.grownBy w' (some b)) (hne : q ≠ b) : ZB w' q := by
  obtain ⟨hl, ty, hh⟩ := h
  exact ⟨Nat.lt_of_lt_of_le hl hg.size, ty, (hg.block q hl (by intro e; cases e; exact hne rfl)).trans hh⟩
theorem ZB6.off {w w' : World} {q b : Nat} (h : ZB6 w q) (hg : w.grownBy w' (some b)) (hne : q ≠ b) : ZB6 w' q := by
  obtain ⟨hl, ty, hh⟩ := h
  exact ⟨Nat.lt_of_lt_of_le hl hg.size, ty, (hg.block q hl (by intro e; cases e; exact hne rfl)).trans hh⟩
theorem ZB.off6 {w : World} {q b : Nat} (h : ZB w q) (hne : q ≠ b) (x0 x1 x2 x3 x4 x5 : Value) : ZB ((((((w.setCell ⟨b, 0, none⟩ x0).setCell ⟨b, 1, none⟩ x1).setCell ⟨b, 2, none⟩ x2).setCell ⟨b, 3, none⟩ x3).setCell ⟨b, 4, none⟩ x4).setCell ⟨b, 5, none⟩ x5) q :=
  (((((h.off (grown_set w b 0 x0) hne).off (grown_set _ b 1 x1) hne).off (grown_set _ b 2 x2) hne).off (grown_set _ b 3 x3) hne).off (grown_set _ b 4 x4) hne).off (grown_set _ b 5 x5) hne
theorem ZB6.off6 {w : World} {q b : Nat} (h : ZB6 w q) (hne : q ≠ b) (x0 x1 x2 x3 x4 x5 : Value) : ZB6 ((((((w.setCell ⟨b, 0, none⟩ x0).setCell ⟨b, 1, none⟩ x1).setCell ⟨b, 2, none⟩ x2).setCell ⟨b, 3, none⟩ x3).setCell ⟨b, 4, none⟩ x4).setCell ⟨b, 5, none⟩ x5) q :=
  (((((h.off (grown_set w b 0 x0) hne).off (grown_set _ b 1 x1) hne).off (grown_set _ b 2 x2) hne).off (grown_set _ b 3 x3) hne).off (grown_set _ b 4 x4) hne).off (grown_set _ b 5 x5) hne
theorem ZB.off3 {w : World} {q b : Nat} (h : ZB w q) (hne : q ≠ b) (x0 x1 x2 : Value) : ZB (((w.setCell ⟨b, 0, none⟩ x0).setCell ⟨b, 1, none⟩ x1).setCell ⟨b, 2, none⟩ x2) q :=
  ((h.off (grown_set w b 0 x0) hne).off (grown_set _ b 1 x1) hne).off (grown_set _ b 2 x2) hne

theorem Loc.off6 {w : World} {b c : Nat} {v0 v1 v2 : Value} (h : Loc w b v0 v1 v2) (hne : c ≠ b) (x0 x1 x2 x3 x4 x5 : Value) :
    Loc ((((((w.setCell ⟨c, 0, none⟩ x0).setCell ⟨c, 1, none⟩ x1).setCell ⟨c, 2, none⟩ x2).setCell ⟨c, 3, none⟩ x3).setCell ⟨c, 4, none⟩ x4).setCell ⟨c, 5, none⟩ x5) b v0 v1 v2 := by
  obtain ⟨hl, ⟨c0, c1, c2⟩, f0, f1, f2⟩ := h
  refine ⟨by simpa using hl, ⟨?_, ?_, ?_⟩, by simpa using f0, by simpa using f1, by simpa using f2⟩
  all_goals (rw [World.cell?_setCell_other (h := by simp), World.cell?_setCell_other (h := by simp), World.cell?_setCell_other (h := by simp), World.cell?_setCell_other (h := by simp), World.cell?_setCell_other (h := by simp), World.cell?_setCell_other (h := by simp)]; assumption)
theorem Loc6.off6 {w : World} {b c : Nat} {v0 v1 v2 v3 v4 v5 : Value} (h : Loc6 w b v0 v1 v2 v3 v4 v5) (hne : c ≠ b) (x0 x1 x2 x3 x4 x5 : Value) :
    Loc6 ((((((w.setCell ⟨c, 0, none⟩ x0).setCell ⟨c, 1, none⟩ x1).setCell ⟨c, 2, none⟩ x2).setCell ⟨c, 3, none⟩ x3).setCell ⟨c, 4, none⟩ x4).setCell ⟨c, 5, none⟩ x5) b v0 v1 v2 v3 v4 v5 := by
  obtain ⟨hl, ⟨c0, c1, c2, c3, c4, c5⟩, f0, f1, f2, f3, f4, f5⟩ := h
  refine ⟨by simpa using hl, ⟨?_, ?_, ?_, ?_, ?_, ?_⟩, by simpa using f0, by simpa using f1, by simpa using f2, by simpa using f3, by simpa using f4, by simpa using f5⟩
  all_goals (rw [World.cell?_setCell_other (h := by simp), World.cell?_setCell_other (h := by simp), World.cell?_setCell_other (h := by simp), World.cell?_setCell_other (h := by simp), World.cell?_setCell_other (h := by simp), World.cell?_setCell_other (h := by simp)]; assumption)

/-- A ball of the reference's, as a value. -/
def RB6 (W : World) (v : Value) (x y : Trip) : Prop := ∃ p q, v = .agg #[.bool x.s, p, .int .i64 x.e, .bool y.s, q, .int .i64 y.e] ∧ Rd W .i64 p (Dg.dg 65536 x.n) ∧ Rd W .i64 q (Dg.dg 65536 y.n)
theorem RB6.later {W W' : World} {v : Value} {x y : Trip} (h : RB6 W v x y) (hb : Below W.heap.size W W') : RB6 W' v x y := by
  obtain ⟨p, q, h1, h2, h3⟩ := h
  exact ⟨p, q, h1, h2.later hb, h3.later hb⟩

theorem signT_sgn (K : Nat) (t : Trip) : signT t = sgn (V K t) := (sgn_V K t).symm

theorem rcmp_sgn {K : Nat} {a b : Trip} (ha : -(K : Int) ≤ a.e) (hb : -(K : Int) ≤ b.e) : signT (bare (dplusT a (minusT b))) = sgn (V K a - V K b) := by
  have hm : -(K : Int) ≤ (minusT b).e := hb
  rw [signT_sgn K, V_bare (dplus_e ha hm), V_dplus ha hm, V_minusT]
  congr 1

/-- The reference compares what is bare as the program compares what is not. -/
theorem rcmp_cmp (a b : Trip) : signT (bare (dplusT (bare a) (minusT (bare b)))) = cmpT a b := by
  have k0 : -((a.e.natAbs + b.e.natAbs : Nat) : Int) ≤ a.e := by omega
  have k1 : -((a.e.natAbs + b.e.natAbs : Nat) : Int) ≤ b.e := by omega
  rw [rcmp_sgn (bare_e k0) (bare_e k1), V_bare k0, V_bare k1, cmpT_sgn k0 k1]

theorem cmpT_swap (a b : Trip) : cmpT a b = -cmpT b a := by
  have k0 : -((a.e.natAbs + b.e.natAbs : Nat) : Int) ≤ a.e := by omega
  have k1 : -((a.e.natAbs + b.e.natAbs : Nat) : Int) ≤ b.e := by omega
  rw [cmpT_sgn k0 k1, cmpT_sgn k1 k0]
  generalize V (a.e.natAbs + b.e.natAbs) a = x
  generalize V (a.e.natAbs + b.e.natAbs) b = y
  unfold sgn
  repeat' split
  all_goals omega
end Go.Proofs.YtfajoaopfedokaaDoor
/-
  Balls: the law BallHas.
-/
namespace Go.Proofs.YtfajoaopfedokaaDoor
open Go.RowKit

/-- What the law wants. -/
def hasW (c d G1 G2 : Int) : Bool := if c = 0 then (if d = 0 then (decide (G1 ≤ 0) && decide (G2 ≤ 0)) else false) else false

set_option maxRecDepth 100000 in
set_option maxHeartbeats 1600000 in
theorem bhasW_any (s : Bool) (ao : Option Addr) (ca la : Nat) (e : Int) (t : Bool) (bo : Option Addr) (cb lb : Nat) (f : Int) (r : Bool) (co : Option Addr) (cc lc : Nat) (k : Int) (c d G1 G2 : Int) (x y zt : Trip) (w : World)
    (HH : ∀ w1, Below w.heap.size w w1 → Calls Tryd.prog 32 #[.agg #[.bool s, .slice ao la ca, .int .i64 e, .bool t, .slice bo lb cb, .int .i64 f], .agg #[.bool r, .slice co lc cc, .int .i64 k]] w1 fun z w' => z = .returned (.tuple #[.bool (hasW c d G1 G2), .int .i64 (hasC c d)]) ∧ Below w1.heap.size w1 w')
    (HC : ∀ w1, Below w.heap.size w w1 → Calls Tryd.prog 31 #[.agg #[.bool s, .slice ao la ca, .int .i64 e, .bool t, .slice bo lb cb, .int .i64 f]] w1 fun z w' => z = .returned (.int .i64 c) ∧ Below w1.heap.size w1 w')
    (HD : ∀ w1, Below w.heap.size w w1 → Calls Tryd.prog 33 #[.agg #[.bool r, .slice co lc cc, .int .i64 k]] w1 fun z w' => z = .returned (.int .i64 d) ∧ Below w1.heap.size w1 w')
    (HO : c = 0 → d = 0 → ∀ w1, Below w.heap.size w w1 → Calls Tryd.prog 34 #[.agg #[.bool s, .slice ao la ca, .int .i64 e, .bool t, .slice bo lb cb, .int .i64 f]] w1 (RBRes w1 x y))
    (HP : c = 0 → d = 0 → ∀ w1, Below w.heap.size w w1 → Calls Tryd.prog 23 #[.agg #[.bool r, .slice co lc cc, .int .i64 k]] w1 (RDRes w1 zt))
    (HX1 : c = 0 → d = 0 → ∀ v u w1, Rv w1 v x → Rv w1 u zt → Calls Tryd.prog 22 #[v, u] w1 fun z w' => z = .returned (.int .i64 G1) ∧ Below w1.heap.size w1 w')
    (HX2 : c = 0 → d = 0 → ∀ v u w1, Rv w1 v zt → Rv w1 u y → Calls Tryd.prog 22 #[v, u] w1 fun z w' => z = .returned (.int .i64 G2) ∧ Below w1.heap.size w1 w')
    (HB : ∀ w1, Below w.heap.size w w1 → Calls Tryd.prog 29 #[] w1 fun z w' => z = .returned (.bool true) ∧ Below w1.heap.size w1 w') :
    Calls Tryd.prog 6 #[.agg #[.bool s, .slice ao la ca, .int .i64 e, .bool t, .slice bo lb cb, .int .i64 f], .agg #[.bool r, .slice co lc cc, .int .i64 k]] w fun z w' => z = .returned (.bool true) ∧ Below w.heap.size w w' := by
  replace HH : Hid _ := HH
  replace HC : Hid _ := HC
  replace HD : Hid _ := HD
  replace HO : Hid _ := HO
  replace HP : Hid _ := HP
  replace HX1 : Hid _ := HX1
  replace HX2 : Hid _ := HX2
  replace HB : Hid _ := HB
  have bA := below_trans (below_alloc w (.cells #[.bool s, .slice ao la ca, .int .i64 e, .bool t, .slice bo lb cb, .int .i64 f] 43)) (below_alloc _ (.cells #[.bool r, .slice co lc cc, .int .i64 k] 25))
  have l1 := (loc6_new w (.bool s) (.slice ao la ca) (.int .i64 e) (.bool t) (.slice bo lb cb) (.int .i64 f) 43).later (below_alloc _ (.cells #[.bool r, .slice co lc cc, .int .i64 k] 25))
  have m1 := loc_new (w.alloc (.cells #[.bool s, .slice ao la ca, .int .i64 e, .bool t, .slice bo lb cb, .int .i64 f] 43)) (.bool r) (.slice co lc cc) (.int .i64 k) 25
  rw [World.size_alloc] at m1
  by_cases hc : c = 0
  · subst hc
    by_cases hd : d = 0
    · subst hd
      replace HO : Hid _ := HO.out rfl rfl
      replace HP : Hid _ := HP.out rfl rfl
      replace HX1 : Hid _ := HX1.out rfl rfl
      replace HX2 : Hid _ := HX2.out rfl rfl
      obtain ⟨xs, xn, xe⟩ := x
      obtain ⟨ys, yn, ye⟩ := y
      obtain ⟨zs, zn, ze⟩ := zt
      have eC : hasC 0 0 = 0 := rfl
      have eW : hasW 0 0 G1 G2 = (decide (G1 ≤ 0) && decide (G2 ≤ 0)) := by simp [hasW]
      rw [eC, eW] at HH
      clear eC eW
      go_enter Tryd.func6, Tryd.ntmps6
      go_wp2_with fail
      refine (HH.out _ bA).mono ?_
      rintro z w2 ⟨rfl, b2⟩
      have b02 := below_trans bA b2
      have l2 := l1.later b2
      have m2 := m1.later b2
      clear bA l1 m1 b2 HH
      obtain ⟨-, ⟨c0, c1, c2, c3, c4, c5⟩, -⟩ := id l2
      go_wp2_with fail
      refine (HC.out _ b02).mono ?_
      rintro z w3 ⟨rfl, b3⟩
      have b03 := below_trans b02 b3
      have l3 := l2.later b3
      have m3 := m2.later b3
      clear b02 l2 m2 b3 HC c0 c1 c2 c3 c4 c5
      obtain ⟨-, ⟨x0, x1, x2⟩, -⟩ := id m3
      go_wp2_with fail
      refine (HD.out _ b03).mono ?_
      rintro z w4 ⟨rfl, b4⟩
      have b04 := below_trans b03 b4
      have l4 := l3.later b4
      have m4 := m3.later b4
      clear b03 l3 m3 b4 HD x0 x1 x2
      go_wp2_with fail
      generalize w.heap.size + 1 = BX at m4 ⊢
      refine wp_region_any (by kernel_rfl) ?_
      refine wpAny_until (fun listed a W => ∃ (ll0 ll1 ll2 ll3 ll4 ll5 : Bool) (u25 u26 u27 u28 u9 u10 : Value), listed = #[ll0, ll1, ll2, ll3, ll4, ll5, false, false] ∧ a = { tmps := #[.agg #[.bool s, .slice ao la ca, .int .i64 e, .bool t, .slice bo lb cb, .int .i64 f], .agg #[.bool r, .slice co lc cc, .int .i64 k], .pointer (some ⟨w.heap.size, 0, none⟩), .pointer (some ⟨BX, 0, none⟩), .bool false, .bool (decide (G1 ≤ 0) && decide (G2 ≤ 0)), .int .i64 0, .int .i64 0, .bool false, u9, u10, .tuple #[.bool (decide (G1 ≤ 0) && decide (G2 ≤ 0)), .int .i64 0], .agg #[.bool s, .slice ao la ca, .int .i64 e, .bool t, .slice bo lb cb, .int .i64 f], .agg #[.bool r, .slice co lc cc, .int .i64 k], .tuple #[.bool (decide (G1 ≤ 0) && decide (G2 ≤ 0)), .int .i64 0], .bool (decide (G1 ≤ 0) && decide (G2 ≤ 0)), .int .i64 0, .agg #[.bool s, .slice ao la ca, .int .i64 e, .bool t, .slice bo lb cb, .int .i64 f], .int .i64 0, .int .i64 0, .bool true, .agg #[.bool r, .slice co lc cc, .int .i64 k], .int .i64 0, .int .i64 0, .bool true, u25, u26, u27, u28, undef, undef, undef, undef, undef, undef, undef, undef, undef, undef, undef, undef, undef, undef, undef, undef, undef, undef, undef, undef, undef, undef, undef], defers := [] } ∧ Below w4.heap.size w4 W ∧ (ll0 = true → u25 = .agg #[.bool s, .slice ao la ca, .int .i64 e, .bool t, .slice bo lb cb, .int .i64 f]) ∧ (ll1 = true → RB6 W u26 ⟨xs, xn, xe⟩ ⟨ys, yn, ye⟩) ∧ (ll2 = true → u27 = .agg #[.bool r, .slice co lc cc, .int .i64 k]) ∧ (ll3 = true → Rv W u28 ⟨zs, zn, ze⟩) ∧ (ll4 = true → New6 W w4.heap.size u9) ∧ (ll5 = true → NewZ W w4.heap.size u10) ∧ (ll1 = true → ll0 = true) ∧ (ll3 = true → ll2 = true ∧ ll1 = true) ∧ (ll4 = true → ll5 = true → u9 ≠ u10)) #[true, true, true, true, true, true, false, false] 2 rfl ?hend ?hstep 8 _ _ _ rfl ?start
      case start =>
        refine ⟨false, false, false, false, false, false, undef, undef, undef, undef, undef, undef, rfl, rfl, (Below.refl _ _).drew, ?_, ?_, ?_, ?_, ?_, ?_, ?_, ?_, ?_⟩ <;> simp
      case hstep =>
        rintro listed a W ⟨ll0, ll1, ll2, ll3, ll4, ll5, u25, u26, u27, u28, u9, u10, rfl, rfl, bel, h0, h1, h2, h3, h4, h5, e1, e3, d4_5⟩ hne
        obtain ⟨-, ⟨c0, c1, c2, c3, c4, c5⟩, -⟩ := l4.later bel
        obtain ⟨-, ⟨x0, x1, x2⟩, -⟩ := m4.later bel
        constructor
        · intro hnil
          apply hne
          obtain rfl : ll0 = true := not_ready (j := 0) hnil rfl (by kernel_rfl)
          obtain rfl : ll1 = true := not_ready (j := 1) hnil rfl (by kernel_rfl)
          obtain rfl : ll2 = true := not_ready (j := 2) hnil rfl (by kernel_rfl)
          obtain rfl : ll3 = true := not_ready (j := 3) hnil rfl (by kernel_rfl)
          obtain rfl : ll4 = true := not_ready (j := 4) hnil rfl (by kernel_rfl)
          obtain rfl : ll5 = true := not_ready (j := 5) hnil rfl (by kernel_rfl)
          rfl
        · intro i hi
          replace h0 : Hid _ := h0
          replace h1 : Hid _ := h1
          replace h2 : Hid _ := h2
          replace h3 : Hid _ := h3
          replace h4 : Hid _ := h4
          replace h5 : Hid _ := h5
          replace e1 : Hid _ := e1
          replace e3 : Hid _ := e3
          replace d4_5 : Hid _ := d4_5
          have hlt := ready_lt hi
          match i, hlt, hi with
          | 0, _, hi =>
            refine wpOp_via (i := 0) rfl rfl (fun K hK => ?_)
            go_simp
            exact hK.out _ _ ⟨true, ll1, ll2, ll3, ll4, ll5, _, u26, u27, u28, u9, u10, rfl, rfl, bel, fun _ => rfl, h1, h2, h3, h4, h5, fun _ => rfl, e3, d4_5⟩
          | 1, _, hi =>
            obtain rfl : ll0 = true := ready_dep (d := 0) rfl (by kernel_rfl) hi
            obtain rfl := h0.out rfl
            refine wpOp_via (i := 1) rfl rfl (fun K hK => ?_)
            go_simp
            refine (HO.out _ (below_trans b04 bel)).mono ?_
            rintro z W2 ⟨pp, qq, rfl, rp, rq, b4⟩
            have hp : RB6 W2 _ ⟨xs, xn, xe⟩ ⟨ys, yn, ye⟩ := ⟨pp, qq, rfl, rp, rq⟩
            go_simp
            exact hK.out _ _ ⟨true, true, ll2, ll3, ll4, ll5, _, _, u27, u28, u9, u10, rfl, rfl, below_trans bel b4, fun _ => rfl, fun _ => hp, h2, fun h => (h3.out h).later b4, fun h => (h4.out h).later b4, fun h => (h5.out h).later b4, fun _ => rfl, fun h => ⟨(e3.out h).1, rfl⟩, d4_5⟩
          | 2, _, hi =>
            refine wpOp_via (i := 2) rfl rfl (fun K hK => ?_)
            go_simp
            exact hK.out _ _ ⟨ll0, ll1, true, ll3, ll4, ll5, u25, u26, _, u28, u9, u10, rfl, rfl, bel, h0, h1, fun _ => rfl, h3, h4, h5, e1, fun h => ⟨rfl, (e3.out h).2⟩, d4_5⟩
          | 3, _, hi =>
            obtain rfl : ll2 = true := ready_dep (d := 2) rfl (by kernel_rfl) hi
            obtain rfl : ll1 = true := ready_dep (d := 1) rfl (by kernel_rfl) hi
            obtain rfl := h2.out rfl
            refine wpOp_via (i := 3) rfl rfl (fun K hK => ?_)
            go_simp
            refine (HP.out _ (below_trans b04 bel)).mono ?_
            rintro z W2 ⟨pz, rfl, rz, b4⟩
            have hp : Rv W2 _ ⟨zs, zn, ze⟩ := ⟨pz, rfl, rz⟩
            go_simp
            exact hK.out _ _ ⟨ll0, true, true, true, ll4, ll5, u25, u26, _, _, u9, u10, rfl, rfl, below_trans bel b4, h0, fun h => (h1.out h).later b4, fun _ => rfl, fun _ => hp, fun h => (h4.out h).later b4, fun h => (h5.out h).later b4, e1, fun _ => ⟨rfl, rfl⟩, d4_5⟩
          | 4, _, hi =>
            refine wpOp_via (i := 4) rfl rfl (fun K hK => ?_)
            have bz := below_alloc W (.cells #[.bool false, .slice none 0 0, .int .i64 0, .bool false, .slice none 0 0, .int .i64 0] 50)
            go_simp
            exact hK.out _ _ ⟨ll0, ll1, ll2, ll3, true, ll5, u25, u26, u27, u28, _, u10, rfl, rfl, below_trans bel bz, h0, fun h => (h1.out h).later bz, h2, fun h => (h3.out h).later bz, fun _ => new6_new W _ 50 bel.size, fun h => (h5.out h).later bz, e1, e3, fun _ h => (newZ_ne (h5.out h)).symm⟩
          | 5, _, hi =>
            refine wpOp_via (i := 5) rfl rfl (fun K hK => ?_)
            have bz := below_alloc W (.cells #[.bool false, .slice none 0 0, .int .i64 0] 33)
            go_simp
            exact hK.out _ _ ⟨ll0, ll1, ll2, ll3, ll4, true, u25, u26, u27, u28, u9, _, rfl, rfl, below_trans bel bz, h0, fun h => (h1.out h).later bz, h2, fun h => (h3.out h).later bz, fun h => (h4.out h).later bz, fun _ => newZ_new W _ 33 bel.size, e1, e3, fun h _ => new6_ne (h4.out h)⟩
          | 6, _, hi =>
            exfalso
            apply hne
            obtain rfl : ll1 = true := ready_dep (d := 1) rfl (by kernel_rfl) hi
            obtain rfl : ll3 = true := ready_dep (d := 3) rfl (by kernel_rfl) hi
            obtain rfl : ll4 = true := ready_dep (d := 4) rfl (by kernel_rfl) hi
            obtain rfl : ll5 = true := ready_dep (d := 5) rfl (by kernel_rfl) hi
            obtain ⟨rfl, -⟩ := e3.out rfl
            obtain rfl := e1.out rfl
            rfl
          | 7, _, hi =>
            exact absurd (ready_dep (d := 6) rfl (by kernel_rfl) hi) (by simp)
          | i + 8, hlt, _ => exact absurd hlt (by simp)
      case hend =>
        rintro a W ⟨ll0, ll1, ll2, ll3, ll4, ll5, u25, u26, u27, u28, u9, u10, hl, rfl, bel, h0, h1, h2, h3, h4, h5, e1, e3, d4_5⟩
        have hl := congrArg Array.toList hl
        simp only [List.cons.injEq, and_true] at hl
        obtain ⟨rfl, rfl, rfl, rfl, rfl, rfl⟩ := hl
        obtain rfl := h0 rfl
        obtain ⟨pp, qq, rfl, rp, rq⟩ := h1 rfl
        obtain rfl := h2 rfl
        obtain ⟨pz, rfl, rz⟩ := h3 rfl
        obtain ⟨q4, rfl, hb4, z4, y4⟩ := h4 rfl
        obtain ⟨q5, rfl, hb5, z5, y5⟩ := h5 rfl
        have n4_5 : q4 ≠ q5 := fun h => d4_5 rfl rfl (by rw [h])
        clear hl e1 e3 d4_5
        obtain ⟨po, pc, hpe⟩ := rp.shape
        subst hpe
        obtain ⟨qo, qc, hqe⟩ := rq.shape
        subst hqe
        obtain ⟨zo, zc, hze⟩ := rz.shape
        subst hze
        simp only at rp rq rz ⊢
        obtain ⟨hx0, ⟨p0, p1, p2, p3, p4, p5⟩, f0, f1, f2, f3, f4, f5⟩ := id z4
        refine wpAny_one (i := 6) (by kernel_rfl) (wpOp_via (i := 6) rfl rfl (fun K hK => ?_))
        go_simp
        refine hK.out _ _ ?_
        clear hK
        have y4' := loc6_set z4 (.bool xs) (.slice po (Dg.dg 65536 xn).length pc) (.int .i64 xe) (.bool ys) (.slice qo (Dg.dg 65536 yn).length qc) (.int .i64 ye)
        have z5' := z5.off6 (c := q4) n4_5 (.bool xs) (.slice po (Dg.dg 65536 xn).length pc) (.int .i64 xe) (.bool ys) (.slice qo (Dg.dg 65536 yn).length qc) (.int .i64 ye)
        have y5' := y5.off6 n4_5.symm (.bool xs) (.slice po (Dg.dg 65536 xn).length pc) (.int .i64 xe) (.bool ys) (.slice qo (Dg.dg 65536 yn).length qc) (.int .i64 ye)
        have rp' := y4.rd rp (Dg.norm_dg _ _ (by omega)) (.bool xs) (.slice po (Dg.dg 65536 xn).length pc) (.int .i64 xe) (.bool ys) (.slice qo (Dg.dg 65536 yn).length qc) (.int .i64 ye)
        have rq' := y4.rd rq (Dg.norm_dg _ _ (by omega)) (.bool xs) (.slice po (Dg.dg 65536 xn).length pc) (.int .i64 xe) (.bool ys) (.slice qo (Dg.dg 65536 yn).length qc) (.int .i64 ye)
        have rz' := y4.rd rz (Dg.norm_dg _ _ (by omega)) (.bool xs) (.slice po (Dg.dg 65536 xn).length pc) (.int .i64 xe) (.bool ys) (.slice qo (Dg.dg 65536 yn).length qc) (.int .i64 ye)
        have bl0 := below_set6 bel hb4 (.bool xs) (.slice po (Dg.dg 65536 xn).length pc) (.int .i64 xe) (.bool ys) (.slice qo (Dg.dg 65536 yn).length qc) (.int .i64 ye)
        clear z4 z5 y4 y5 rp rq rz bel hx0 p0 p1 p2 p3 p4 p5 f0 f1 f2 f3 f4 f5
        generalize ((((((W.setCell ⟨q4, 0, none⟩ (.bool xs)).setCell ⟨q4, 1, none⟩ (.slice po (Dg.dg 65536 xn).length pc)).setCell ⟨q4, 2, none⟩ (.int .i64 xe)).setCell ⟨q4, 3, none⟩ (.bool ys)).setCell ⟨q4, 4, none⟩ (.slice qo (Dg.dg 65536 yn).length qc)).setCell ⟨q4, 5, none⟩ (.int .i64 ye)) = W1 at y4' z5' y5' rp' rq' rz' bl0 ⊢
        obtain ⟨hx0, ⟨p0, p1, p2⟩, f0, f1, f2⟩ := id z5'
        refine wpAny_one (i := 7) (by kernel_rfl) (wpOp_via (i := 7) rfl rfl (fun K hK => ?_))
        go_simp
        refine hK.out _ _ ?_
        clear hK
        have z6 := loc_set z5' (.bool zs) (.slice zo (Dg.dg 65536 zn).length zc) (.int .i64 ze)
        have y6 := y4'.apart3 (c := q5) n4_5.symm (.bool zs) (.slice zo (Dg.dg 65536 zn).length zc) (.int .i64 ze)
        have rp6 := y5'.rd rp' (Dg.norm_dg _ _ (by omega)) (.bool zs) (.slice zo (Dg.dg 65536 zn).length zc) (.int .i64 ze)
        have rq6 := y5'.rd rq' (Dg.norm_dg _ _ (by omega)) (.bool zs) (.slice zo (Dg.dg 65536 zn).length zc) (.int .i64 ze)
        have rz6 := y5'.rd rz' (Dg.norm_dg _ _ (by omega)) (.bool zs) (.slice zo (Dg.dg 65536 zn).length zc) (.int .i64 ze)
        have bl1 := below_set3 bl0 hb5 (.bool zs) (.slice zo (Dg.dg 65536 zn).length zc) (.int .i64 ze)
        clear y4' z5' y5' rp' rq' rz' bl0 hx0 p0 p1 p2 f0 f1 f2
        generalize (((W1.setCell ⟨q5, 0, none⟩ (.bool zs)).setCell ⟨q5, 1, none⟩ (.slice zo (Dg.dg 65536 zn).length zc)).setCell ⟨q5, 2, none⟩ (.int .i64 ze)) = W2 at z6 y6 rp6 rq6 rz6 bl1 ⊢
        refine wpAny_done (by kernel_rfl) ?_
        have b06 := below_trans b04 bl1
        obtain ⟨-, ⟨p0, p1, p2, p3, p4, p5⟩, -⟩ := id y6
        obtain ⟨-, ⟨x0, x1, x2⟩, -⟩ := id z6
        clear l4 m4 b04 bl1
        go_goals
        go_wp2_with fail
        refine (HX1.out _ _ W2 ⟨_, rfl, rp6⟩ ⟨_, rfl, rz6⟩).mono ?_
        rintro z w7 ⟨rfl, b7⟩
        have b07 := below_trans b06 b7
        have y7 := y6.later b7
        have z7 := z6.later b7
        have rq7 := rq6.later b7
        have rz7 := rz6.later b7
        clear p0 p1 p2 p3 p4 p5 x0 x1 x2 y6 z6 rp6 rq6 rz6 b06 b7
        by_cases hg : G1 ≤ 0
        · obtain ⟨-, ⟨p0, p1, p2, p3, p4, p5⟩, -⟩ := id y7
          obtain ⟨-, ⟨x0, x1, x2⟩, -⟩ := id z7
          go_wp2_with fail
          refine (HX2.out _ _ w7 ⟨_, rfl, rz7⟩ ⟨_, rfl, rq7⟩).mono ?_
          rintro z w8 ⟨rfl, b8⟩
          have b08 := below_trans b07 b8
          clear p0 p1 p2 p3 p4 p5 x0 x1 x2 y7 z7 rq7 rz7 b07 b8
          go_wp2_with fail
          refine (HB.out w8 b08).mono ?_
          rintro z w9 ⟨rfl, b9⟩
          have b09 := below_trans b08 b9
          go_wp2
          go_ret
          exact ⟨by simp, b09⟩
        · go_wp2_with fail
          refine (HB.out w7 b07).mono ?_
          rintro z w9 ⟨rfl, b9⟩
          have b09 := below_trans b07 b9
          go_wp2
          go_ret
          exact ⟨by simp, b09⟩
    · have eC : hasC 0 d = d := rfl
      have eW : hasW 0 d G1 G2 = false := by simp [hasW, hd]
      rw [eC, eW] at HH
      clear eC eW HO HP HX1 HX2
      go_enter Tryd.func6, Tryd.ntmps6
      go_wp2_with fail
      refine (HH.out _ bA).mono ?_
      rintro z w2 ⟨rfl, b2⟩
      have b02 := below_trans bA b2
      have l2 := l1.later b2
      have m2 := m1.later b2
      clear bA l1 m1 b2 HH
      obtain ⟨-, ⟨c0, c1, c2, c3, c4, c5⟩, -⟩ := id l2
      go_wp2_with fail
      refine (HC.out _ b02).mono ?_
      rintro z w3 ⟨rfl, b3⟩
      have b03 := below_trans b02 b3
      have m3 := m2.later b3
      clear b02 l2 m2 b3 HC c0 c1 c2 c3 c4 c5
      obtain ⟨-, ⟨x0, x1, x2⟩, -⟩ := id m3
      go_wp2_with fail
      refine (HD.out _ b03).mono ?_
      rintro z w4 ⟨rfl, b4⟩
      have b04 := below_trans b03 b4
      clear b03 m3 b4 HD x0 x1 x2
      go_wp2_with fail
      refine (HB.out _ b04).mono ?_
      rintro z w5 ⟨rfl, b5⟩
      have b05 := below_trans b04 b5
      go_wp2
      go_ret
      exact ⟨by simp, b05⟩
  · have eC : hasC c d = c := if_neg hc
    have eW : hasW c d G1 G2 = false := if_neg hc
    rw [eC, eW] at HH
    clear eC eW HO HP HX1 HX2
    go_enter Tryd.func6, Tryd.ntmps6
    go_wp2_with fail
    refine (HH.out _ bA).mono ?_
    rintro z w2 ⟨rfl, b2⟩
    have b02 := below_trans bA b2
    have l2 := l1.later b2
    clear bA l1 m1 b2 HH
    obtain ⟨-, ⟨c0, c1, c2, c3, c4, c5⟩, -⟩ := id l2
    go_wp2_with fail
    refine (HC.out _ b02).mono ?_
    rintro z w3 ⟨rfl, b3⟩
    have b03 := below_trans b02 b3
    clear b02 l2 b3 HC c0 c1 c2 c3 c4 c5
    go_wp2_with fail
    refine (HB.out _ b03).mono ?_
    rintro z w5 ⟨rfl, b5⟩
    have b05 := below_trans b03 b5
    go_wp2
    go_ret
    exact ⟨by simp, b05⟩
end Go.Proofs.YtfajoaopfedokaaDoor
/-
  Balls: the law BallHas, of whatever it is handed.
-/
namespace Go.Proofs.YtfajoaopfedokaaDoor
open Go.RowKit

theorem hasV_W (c d : Int) (A0 A1 P : Trip) : hasV c d (cmpT A0 P) (cmpT A1 P) = hasW c d (cmpT A0 P) (cmpT P A1) := by
  unfold hasV hasW hasB
  rw [cmpT_swap P A1]
  have : decide (0 ≤ cmpT A1 P) = decide (-cmpT A1 P ≤ 0) := by
    by_cases h : 0 ≤ cmpT A1 P
    · rw [decide_eq_true h, decide_eq_true (by omega)]
    · rw [decide_eq_false h, decide_eq_false (by omega)]
  rw [this]

theorem bare_n_le3 (t : Trip) : (bare t).n ≤ t.n := by
  unfold bare
  split
  · exact Nat.zero_le _
  · exact Nat.div_le_self _ _

theorem len16_bare {s : Bool} {xs : List Nat} {e : Int} (sa : Dg.Small 4294967296 xs) (hl : xs.length ≤ 1200) : (Dg.dg 65536 (bare ⟨s, Dg.vl 4294967296 xs, e⟩).n).length ≤ 30000 := by
  have h1 := len16 sa
  have h2 := dg_len_mono 65536 _ _ (by omega) (bare_n_le3 ⟨s, Dg.vl 4294967296 xs, e⟩)
  exact Nat.le_trans h2 (by show (Dg.dg 65536 (Dg.vl 4294967296 xs)).length ≤ 30000; omega)

theorem bare_e_in {s : Bool} {xs : List Nat} {e : Int} (hd : Dg.dg 4294967296 (Dg.vl 4294967296 xs) = xs) (hl : xs.length ≤ 1200) (h1 : -20000 ≤ e) (h2 : e ≤ 20000) : -200000 ≤ (bare ⟨s, Dg.vl 4294967296 xs, e⟩).e ∧ (bare ⟨s, Dg.vl 4294967296 xs, e⟩).e ≤ 200000 := by
  have ht := tz_fits (Dg.vl 4294967296 xs) 1200 (by rw [hd]; exact hl)
  unfold bare
  split
  · exact ⟨by show -200000 ≤ (0 : Int); omega, by show (0 : Int) ≤ 200000; omega⟩
  · exact ⟨by show -200000 ≤ e + (tz (Dg.vl 4294967296 xs) : Int); omega, by show e + (tz (Dg.vl 4294967296 xs) : Int) ≤ 200000; omega⟩

theorem bhas_walk (s : Bool) (ao : Option Addr) (ca : Nat) (xs : List Nat) (e : Int) (t : Bool) (bo : Option Addr) (cb : Nat) (ys : List Nat) (f : Int) (r : Bool) (co : Option Addr) (cc : Nat) (zs : List Nat) (k : Int) (w : World)
    (ha : Rd w .u32 (.slice ao xs.length ca) xs) (hb : Rd w .u32 (.slice bo ys.length cb) ys) (hz : Rd w .u32 (.slice co zs.length cc) zs) (sa : Dg.Small 4294967296 xs) (sb : Dg.Small 4294967296 ys) (sc : Dg.Small 4294967296 zs) (hT : Tab w) :
    Calls Tryd.prog 6 #[.agg #[.bool s, .slice ao xs.length ca, .int .i64 e, .bool t, .slice bo ys.length cb, .int .i64 f], .agg #[.bool r, .slice co zs.length cc, .int .i64 k]] w fun z w' => z = .returned (.bool true) ∧ Below w.heap.size w w' := by
  refine bhasW_any s ao ca xs.length e t bo cb ys.length f r co cc zs.length k (bchk s xs e t ys f) (dchk zs k) (cmpT ⟨s, Dg.vl 4294967296 xs, e⟩ ⟨r, Dg.vl 4294967296 zs, k⟩) (cmpT ⟨r, Dg.vl 4294967296 zs, k⟩ ⟨t, Dg.vl 4294967296 ys, f⟩) (bare ⟨s, Dg.vl 4294967296 xs, e⟩) (bare ⟨t, Dg.vl 4294967296 ys, f⟩) (bare ⟨r, Dg.vl 4294967296 zs, k⟩) w
    (fun w1 b1 => ?_) (fun w1 b1 => refcheckBall_any s ao ca xs e t bo cb ys f w1 (ha.later b1) (hb.later b1) sa sb) (fun w1 b1 => refcheckDy_any r co cc zs k w1 (hz.later b1)) (fun h1 h2 w1 b1 => ?_) (fun h1 h2 w1 b1 => ?_) (fun h1 h2 v u w1 hv hu => ?_) (fun h1 h2 v u w1 hv hu => ?_) (fun w1 b1 => bbegun_any w1 (hT.later b1))
  · rw [← hasV_W]
    exact bHas_any s ao ca xs e t bo cb ys f r co cc zs k w1 (ha.later b1) (hb.later b1) (hz.later b1) sa sb sc
  · obtain ⟨i1, i2, _⟩ := bchk_zero h1
    obtain ⟨v1, v2, v3, v4, v5⟩ := num_ok i1 sa
    obtain ⟨u1, u2, u3, u4, u5⟩ := num_ok i2 sb
    exact ofBall_any s ao ca xs.length e t bo cb ys.length f _ _ w1 (fun w2 b2 => ofDyad_any s ao ca xs e w2 (ha.later (below_trans b1 b2)) sa (by omega) (by omega) (by omega)) (fun w2 b2 => ofDyad_any t bo cb ys f w2 (hb.later (below_trans b1 b2)) sb (by omega) (by omega) (by omega))
  · obtain ⟨z1, z2, z3, z4, z5⟩ := num_ok h2 sc
    exact ofDyad_any r co cc zs k w1 (hz.later b1) sc (by omega) (by omega) (by omega)
  · obtain ⟨i1, i2, _⟩ := bchk_zero h1
    obtain ⟨v1, v2, v3, v4, v5⟩ := num_ok i1 sa
    obtain ⟨z1, z2, z3, z4, z5⟩ := num_ok h2 sc
    have e1 := bare_e_in (s := s) v2 v3 v4 v5
    have e2 := bare_e_in (s := r) z2 z3 z4 z5
    rw [← rcmp_cmp]
    exact refdcmp_any v u _ _ w1 hv hu (len16_bare sa v3) (len16_bare sc z3) e1.1 e1.2 e2.1 e2.2
  · obtain ⟨i1, i2, _⟩ := bchk_zero h1
    obtain ⟨u1, u2, u3, u4, u5⟩ := num_ok i2 sb
    obtain ⟨z1, z2, z3, z4, z5⟩ := num_ok h2 sc
    have e1 := bare_e_in (s := t) u2 u3 u4 u5
    have e2 := bare_e_in (s := r) z2 z3 z4 z5
    rw [← rcmp_cmp]
    exact refdcmp_any v u _ _ w1 hv hu (len16_bare sc z3) (len16_bare sb u3) e2.1 e2.2 e1.1 e1.2
end Go.Proofs.YtfajoaopfedokaaDoor

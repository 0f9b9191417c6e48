/-
  Texts laid together: Bl15, BlM, Bl16, Bl17.
-/
import Derived.Test.YtmjhlflemfkflaaGreatDoorBb
import Derived.Test.YtmjhlflemfkflaaGreatDoorBc
import Derived.Test.YtmjhlflemfkflaaGreatDoorDe
import Derived.Test.YtmjhlflemfkflaaGreatDoorBd
/-
  Balls: contract of ball.Has.
-/
namespace Go.Proofs.YtmjhlflemfkflaaGreatDoor
open Go.RowKit

/-- What Has answers: an error, and whether it is in it. -/
def hasC (c d : Int) : Int := if c = 0 then d else c
def hasV (c d g1 g2 : Int) : Bool := if c = 0 then (if d = 0 then hasB g1 g2 else false) else false

end Go.Proofs.YtmjhlflemfkflaaGreatDoor
/-
  Balls: blocks that a region makes, with what they hold; the reference's DCmp by values.
-/
namespace Go.Proofs.YtmjhlflemfkflaaGreatDoor
open Go.RowKit

def New6 (W : World) (base : Nat) (v : Value) : Prop := ∃ p, v = .pointer (some ⟨p, 0, none⟩) ∧ base ≤ p ∧ Loc6 W p (.bool false) (.slice none 0 0) (.int .i64 0) (.bool false) (.slice none 0 0) (.int .i64 0) ∧ ZB6 W p
def NewZ (W : World) (base : Nat) (v : Value) : Prop := ∃ p, v = .pointer (some ⟨p, 0, none⟩) ∧ base ≤ p ∧ Loc W p (.bool false) (.slice none 0 0) (.int .i64 0) ∧ ZB W p

theorem New6.later {W W' : World} {base : Nat} {v : Value} (h : New6 W base v) (hb : Below W.heap.size W W') : New6 W' base v := by
  obtain ⟨p, h1, h2, h3, h4⟩ := h
  exact ⟨p, h1, h2, h3.later hb, h4.later hb⟩
theorem NewZ.later {W W' : World} {base : Nat} {v : Value} (h : NewZ W base v) (hb : Below W.heap.size W W') : NewZ W' base v := by
  obtain ⟨p, h1, h2, h3, h4⟩ := h
  exact ⟨p, h1, h2, h3.later hb, h4.later hb⟩
theorem new6_ne {W : World} {base : Nat} {v : Value} (h : New6 W base v) : v ≠ .pointer (some ⟨W.heap.size, 0, none⟩) := by
  obtain ⟨p, rfl, _, h3, _⟩ := h
  intro e
  have : p = W.heap.size := by simpa using e
  have := h3.1
  omega
theorem newZ_ne {W : World} {base : Nat} {v : Value} (h : NewZ W base v) : v ≠ .pointer (some ⟨W.heap.size, 0, none⟩) := by
  obtain ⟨p, rfl, _, h3, _⟩ := h
  intro e
  have : p = W.heap.size := by simpa using e
  have := h3.1
  omega
theorem new6_new (W : World) (base : Nat) (ty : TypeId) (h : base ≤ W.heap.size) : New6 (W.alloc (.cells #[.bool false, .slice none 0 0, .int .i64 0, .bool false, .slice none 0 0, .int .i64 0] ty)) base (.pointer (some ⟨W.heap.size, 0, none⟩)) :=
  ⟨_, rfl, h, loc6_new W _ _ _ _ _ _ ty, zb6_new W ty⟩
theorem newZ_new (W : World) (base : Nat) (ty : TypeId) (h : base ≤ W.heap.size) : NewZ (W.alloc (.cells #[.bool false, .slice none 0 0, .int .i64 0] ty)) base (.pointer (some ⟨W.heap.size, 0, none⟩)) :=
  ⟨_, rfl, h, loc_new W _ _ _ ty, zb_new W ty⟩

theorem ZB.off {w w' : World} {q b : Nat} (h : ZB w q) (hg : w.grownBy w' (some b)) (hne : q ≠ b) : ZB w' q := by
  obtain ⟨hl, ty, hh⟩ := h
  exact ⟨Nat.lt_of_lt_of_le hl hg.size, ty, (hg.block q hl (by intro e; cases e; exact hne rfl)).trans hh⟩
theorem ZB6.off {w w' : World} {q b : Nat} (h : ZB6 w q) (hg : w.grownBy w' (some b)) (hne : q ≠ b) : ZB6 w' q := by
  obtain ⟨hl, ty, hh⟩ := h
  exact ⟨Nat.lt_of_lt_of_le hl hg.size, ty, (hg.block q hl (by intro e; cases e; exact hne rfl)).trans hh⟩
theorem ZB.off6 {w : World} {q b : Nat} (h : ZB w q) (hne : q ≠ b) (x0 x1 x2 x3 x4 x5 : Value) : ZB ((((((w.setCell ⟨b, 0, none⟩ x0).setCell ⟨b, 1, none⟩ x1).setCell ⟨b, 2, none⟩ x2).setCell ⟨b, 3, none⟩ x3).setCell ⟨b, 4, none⟩ x4).setCell ⟨b, 5, none⟩ x5) q :=
  (((((h.off (grown_set w b 0 x0) hne).off (grown_set _ b 1 x1) hne).off (grown_set _ b 2 x2) hne).off (grown_set _ b 3 x3) hne).off (grown_set _ b 4 x4) hne).off (grown_set _ b 5 x5) hne
theorem ZB6.off6 {w : World} {q b : Nat} (h : ZB6 w q) (hne : q ≠ b) (x0 x1 x2 x3 x4 x5 : Value) : ZB6 ((((((w.setCell ⟨b, 0, none⟩ x0).setCell ⟨b, 1, none⟩ x1).setCell ⟨b, 2, none⟩ x2).setCell ⟨b, 3, none⟩ x3).setCell ⟨b, 4, none⟩ x4).setCell ⟨b, 5, none⟩ x5) q :=
  (((((h.off (grown_set w b 0 x0) hne).off (grown_set _ b 1 x1) hne).off (grown_set _ b 2 x2) hne).off (grown_set _ b 3 x3) hne).off (grown_set _ b 4 x4) hne).off (grown_set _ b 5 x5) hne
theorem ZB.off3 {w : World} {q b : Nat} (h : ZB w q) (hne : q ≠ b) (x0 x1 x2 : Value) : ZB (((w.setCell ⟨b, 0, none⟩ x0).setCell ⟨b, 1, none⟩ x1).setCell ⟨b, 2, none⟩ x2) q :=
  ((h.off (grown_set w b 0 x0) hne).off (grown_set _ b 1 x1) hne).off (grown_set _ b 2 x2) hne

theorem Loc.off6 {w : World} {b c : Nat} {v0 v1 v2 : Value} (h : Loc w b v0 v1 v2) (hne : c ≠ b) (x0 x1 x2 x3 x4 x5 : Value) :
    Loc ((((((w.setCell ⟨c, 0, none⟩ x0).setCell ⟨c, 1, none⟩ x1).setCell ⟨c, 2, none⟩ x2).setCell ⟨c, 3, none⟩ x3).setCell ⟨c, 4, none⟩ x4).setCell ⟨c, 5, none⟩ x5) b v0 v1 v2 := by
  obtain ⟨hl, ⟨c0, c1, c2⟩, f0, f1, f2⟩ := h
  refine ⟨by simpa using hl, ⟨?_, ?_, ?_⟩, by simpa using f0, by simpa using f1, by simpa using f2⟩
  all_goals (rw [World.cell?_setCell_other (h := by simp), World.cell?_setCell_other (h := by simp), World.cell?_setCell_other (h := by simp), World.cell?_setCell_other (h := by simp), World.cell?_setCell_other (h := by simp), World.cell?_setCell_other (h := by simp)]; assumption)
theorem Loc6.off6 {w : World} {b c : Nat} {v0 v1 v2 v3 v4 v5 : Value} (h : Loc6 w b v0 v1 v2 v3 v4 v5) (hne : c ≠ b) (x0 x1 x2 x3 x4 x5 : Value) :
    Loc6 ((((((w.setCell ⟨c, 0, none⟩ x0).setCell ⟨c, 1, none⟩ x1).setCell ⟨c, 2, none⟩ x2).setCell ⟨c, 3, none⟩ x3).setCell ⟨c, 4, none⟩ x4).setCell ⟨c, 5, none⟩ x5) b v0 v1 v2 v3 v4 v5 := by
  obtain ⟨hl, ⟨c0, c1, c2, c3, c4, c5⟩, f0, f1, f2, f3, f4, f5⟩ := h
  refine ⟨by simpa using hl, ⟨?_, ?_, ?_, ?_, ?_, ?_⟩, by simpa using f0, by simpa using f1, by simpa using f2, by simpa using f3, by simpa using f4, by simpa using f5⟩
  all_goals (rw [World.cell?_setCell_other (h := by simp), World.cell?_setCell_other (h := by simp), World.cell?_setCell_other (h := by simp), World.cell?_setCell_other (h := by simp), World.cell?_setCell_other (h := by simp), World.cell?_setCell_other (h := by simp)]; assumption)

/-- A ball of the reference's, as a value. -/
def RB6 (W : World) (v : Value) (x y : Trip) : Prop := ∃ p q, v = .agg #[.bool x.s, p, .int .i64 x.e, .bool y.s, q, .int .i64 y.e] ∧ Rd W .i64 p (Dg.dg 65536 x.n) ∧ Rd W .i64 q (Dg.dg 65536 y.n)
theorem RB6.later {W W' : World} {v : Value} {x y : Trip} (h : RB6 W v x y) (hb : Below W.heap.size W W') : RB6 W' v x y := by
  obtain ⟨p, q, h1, h2, h3⟩ := h
  exact ⟨p, q, h1, h2.later hb, h3.later hb⟩

theorem signT_sgn (K : Nat) (t : Trip) : signT t = sgn (V K t) := (sgn_V K t).symm

theorem rcmp_sgn {K : Nat} {a b : Trip} (ha : -(K : Int) ≤ a.e) (hb : -(K : Int) ≤ b.e) : signT (bare (dplusT a (minusT b))) = sgn (V K a - V K b) := by
  have hm : -(K : Int) ≤ (minusT b).e := hb
  rw [signT_sgn K, V_bare (dplus_e ha hm), V_dplus ha hm, V_minusT]
  congr 1

/-- The reference compares what is bare as the program compares what is not. -/
theorem rcmp_cmp (a b : Trip) : signT (bare (dplusT (bare a) (minusT (bare b)))) = cmpT a b := by
  have k0 : -((a.e.natAbs + b.e.natAbs : Nat) : Int) ≤ a.e := by omega
  have k1 : -((a.e.natAbs + b.e.natAbs : Nat) : Int) ≤ b.e := by omega
  rw [rcmp_sgn (bare_e k0) (bare_e k1), V_bare k0, V_bare k1, cmpT_sgn k0 k1]

theorem cmpT_swap (a b : Trip) : cmpT a b = -cmpT b a := by
  have k0 : -((a.e.natAbs + b.e.natAbs : Nat) : Int) ≤ a.e := by omega
  have k1 : -((a.e.natAbs + b.e.natAbs : Nat) : Int) ≤ b.e := by omega
  rw [cmpT_sgn k0 k1, cmpT_sgn k1 k0]
  generalize V (a.e.natAbs + b.e.natAbs) a = x
  generalize V (a.e.natAbs + b.e.natAbs) b = y
  unfold sgn
  repeat' split
  all_goals omega
end Go.Proofs.YtmjhlflemfkflaaGreatDoor
/-
  Balls: the law BallHas.
-/
namespace Go.Proofs.YtmjhlflemfkflaaGreatDoor
open Go.RowKit

/-- What the law wants. -/
def hasW (c d G1 G2 : Int) : Bool := if c = 0 then (if d = 0 then (decide (G1 ≤ 0) && decide (G2 ≤ 0)) else false) else false

end Go.Proofs.YtmjhlflemfkflaaGreatDoor
/-
  Balls: the law BallHas, of whatever it is handed.
-/
namespace Go.Proofs.YtmjhlflemfkflaaGreatDoor
open Go.RowKit

theorem hasV_W (c d : Int) (A0 A1 P : Trip) : hasV c d (cmpT A0 P) (cmpT A1 P) = hasW c d (cmpT A0 P) (cmpT P A1) := by
  unfold hasV hasW hasB
  rw [cmpT_swap P A1]
  have : decide (0 ≤ cmpT A1 P) = decide (-cmpT A1 P ≤ 0) := by
    by_cases h : 0 ≤ cmpT A1 P
    · rw [decide_eq_true h, decide_eq_true (by omega)]
    · rw [decide_eq_false h, decide_eq_false (by omega)]
  rw [this]

theorem bare_n_le3 (t : Trip) : (bare t).n ≤ t.n := by
  unfold bare
  split
  · exact Nat.zero_le _
  · exact Nat.div_le_self _ _

theorem len16_bare {s : Bool} {xs : List Nat} {e : Int} (sa : Dg.Small 4294967296 xs) (hl : xs.length ≤ 1200) : (Dg.dg 65536 (bare ⟨s, Dg.vl 4294967296 xs, e⟩).n).length ≤ 30000 := by
  have h1 := len16 sa
  have h2 := dg_len_mono 65536 _ _ (by omega) (bare_n_le3 ⟨s, Dg.vl 4294967296 xs, e⟩)
  exact Nat.le_trans h2 (by show (Dg.dg 65536 (Dg.vl 4294967296 xs)).length ≤ 30000; omega)

theorem bare_e_in {s : Bool} {xs : List Nat} {e : Int} (hd : Dg.dg 4294967296 (Dg.vl 4294967296 xs) = xs) (hl : xs.length ≤ 1200) (h1 : -20000 ≤ e) (h2 : e ≤ 20000) : -200000 ≤ (bare ⟨s, Dg.vl 4294967296 xs, e⟩).e ∧ (bare ⟨s, Dg.vl 4294967296 xs, e⟩).e ≤ 200000 := by
  have ht := tz_fits (Dg.vl 4294967296 xs) 1200 (by rw [hd]; exact hl)
  unfold bare
  split
  · exact ⟨by show -200000 ≤ (0 : Int); omega, by show (0 : Int) ≤ 200000; omega⟩
  · exact ⟨by show -200000 ≤ e + (tz (Dg.vl 4294967296 xs) : Int); omega, by show e + (tz (Dg.vl 4294967296 xs) : Int) ≤ 200000; omega⟩

end Go.Proofs.YtmjhlflemfkflaaGreatDoor

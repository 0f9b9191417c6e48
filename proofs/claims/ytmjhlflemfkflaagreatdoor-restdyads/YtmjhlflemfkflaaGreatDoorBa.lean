/-
  Texts laid together: Bl1, Bl6, Bl7, Bm1.
-/
import Derived.Test.YtmjhlflemfkflaaGreatDoorDe
import Derived.Test.YtmjhlflemfkflaaGreatDoorDc
import Derived.Deep.RegionHeld3
import Derived.Test.YtmjhlflemfkflaaGreatDoorDd
/-
  Balls: contracts of ball.Check and of the reference's CheckBall.
-/
namespace Go.Proofs.YtmjhlflemfkflaaGreatDoor
open Go.RowKit

/-- A ball of one's own: six cells. -/
def Loc6 (w : World) (b : Nat) (v0 v1 v2 v3 v4 v5 : Value) : Prop :=
  b < w.heap.size ∧ (w.cell? ⟨b, 0, none⟩ = some v0 ∧ w.cell? ⟨b, 1, none⟩ = some v1 ∧ w.cell? ⟨b, 2, none⟩ = some v2 ∧ w.cell? ⟨b, 3, none⟩ = some v3 ∧ w.cell? ⟨b, 4, none⟩ = some v4 ∧ w.cell? ⟨b, 5, none⟩ = some v5) ∧
    (w.frozen? ⟨b, 0, none⟩ = false ∧ w.frozen? ⟨b, 1, none⟩ = false ∧ w.frozen? ⟨b, 2, none⟩ = false ∧ w.frozen? ⟨b, 3, none⟩ = false ∧ w.frozen? ⟨b, 4, none⟩ = false ∧ w.frozen? ⟨b, 5, none⟩ = false)

theorem Loc6.later {w w' : World} {b : Nat} {v0 v1 v2 v3 v4 v5 : Value} (h : Loc6 w b v0 v1 v2 v3 v4 v5) (hb : Below w.heap.size w w') : Loc6 w' b v0 v1 v2 v3 v4 v5 := by
  obtain ⟨hl, ⟨c0, c1, c2, c3, c4, c5⟩, f0, f1, f2, f3, f4, f5⟩ := h
  refine ⟨Nat.lt_of_lt_of_le hl hb.size, ⟨cell_later hb c0, cell_later hb c1, cell_later hb c2, cell_later hb c3, cell_later hb c4, cell_later hb c5⟩, ?_, ?_, ?_, ?_, ?_, ?_⟩
  all_goals rw [hb.frozen (by exact hl)]; assumption

theorem loc6_new (w : World) (v0 v1 v2 v3 v4 v5 : Value) (ty : TypeId) : Loc6 (w.alloc (.cells #[v0, v1, v2, v3, v4, v5] ty)) w.heap.size v0 v1 v2 v3 v4 v5 := by
  refine ⟨by simp [World.size_alloc], ⟨?_, ?_, ?_, ?_, ?_, ?_⟩, ?_, ?_, ?_, ?_, ?_, ?_⟩
  all_goals first | (rw [World.cell?_alloc_at _ _ _ _ rfl]; rfl) | simp

/-- What is wrong with a ball. -/
def bchk (s : Bool) (xs : List Nat) (e : Int) (t : Bool) (ys : List Nat) (f : Int) : Int :=
  if dchk2 xs e ys f = 0 then (if 0 < signT (plusT ⟨s, Dg.vl 4294967296 xs, e⟩ (negT ⟨t, Dg.vl 4294967296 ys, f⟩)) then 4 else 0) else dchk2 xs e ys f

set_option maxRecDepth 100000 in
set_option maxHeartbeats 800000 in
theorem bcheck_any (s : Bool) (ao : Option Addr) (ca : Nat) (xs : List Nat) (e : Int) (t : Bool) (bo : Option Addr) (cb : Nat) (ys : List Nat) (f : Int) (w : World)
    (hr : Rd w .u32 (.slice ao xs.length ca) xs) (hq : Rd w .u32 (.slice bo ys.length cb) ys) (sa : Dg.Small 4294967296 xs) (sb : Dg.Small 4294967296 ys) :
    Calls Tryz.prog 52 #[.agg #[.bool s, .slice ao xs.length ca, .int .i64 e, .bool t, .slice bo ys.length cb, .int .i64 f]] w fun z w' => z = .returned (.int .i64 (bchk s xs e t ys f)) ∧ Below w.heap.size w w' := by
  have bA := below_alloc w (.cells #[.bool s, .slice ao xs.length ca, .int .i64 e, .bool t, .slice bo ys.length cb, .int .i64 f] 27)
  have hc := dyCompare_any s ao ca xs e t bo cb ys f _ (hr.later bA) (hq.later bA) sa sb
  unfold dcmpR at hc
  unfold bchk
  obtain ⟨c, hcc⟩ : ∃ c, dchk2 xs e ys f = c := ⟨_, rfl⟩
  obtain ⟨g, hg⟩ : ∃ g, signT (plusT ⟨s, Dg.vl 4294967296 xs, e⟩ (negT ⟨t, Dg.vl 4294967296 ys, f⟩)) = g := ⟨_, rfl⟩
  rw [hcc, hg] at hc ⊢
  clear hcc hg hr hq sa sb
  by_cases h : c = 0
  · subst h
    simp only [if_true] at hc ⊢
    by_cases h2 : 0 < g
    · rw [if_pos h2]
      go_enter Tryz.func52, Tryz.ntmps52
      go_wp2_with fail
      refine hc.mono ?_
      rintro z w1 ⟨rfl, b1⟩
      have b01 := below_trans bA b1
      clear hc
      go_wp2
      go_ret
      exact ⟨rfl, b01⟩
    · rw [if_neg h2]
      go_enter Tryz.func52, Tryz.ntmps52
      go_wp2_with fail
      refine hc.mono ?_
      rintro z w1 ⟨rfl, b1⟩
      have b01 := below_trans bA b1
      clear hc
      go_wp2
      go_ret
      exact ⟨rfl, b01⟩
  · simp only [if_neg h] at hc ⊢
    go_enter Tryz.func52, Tryz.ntmps52
    go_wp2_with fail
    refine hc.mono ?_
    rintro z w1 ⟨rfl, b1⟩
    have b01 := below_trans bA b1
    clear hc
    go_wp2
    go_ret
    exact ⟨rfl, b01⟩
end Go.Proofs.YtmjhlflemfkflaaGreatDoor
/-
  Blocks of six cells, and the contract of the reference's OfBall.
-/
namespace Go.Proofs.YtmjhlflemfkflaaGreatDoor
open Go.RowKit

theorem below_set6 {B b : Nat} {w w1 : World} (h : Below B w w1) (hb : B ≤ b) (x0 x1 x2 x3 x4 x5 : Value) : Below B w ((((((w1.setCell ⟨b, 0, none⟩ x0).setCell ⟨b, 1, none⟩ x1).setCell ⟨b, 2, none⟩ x2).setCell ⟨b, 3, none⟩ x3).setCell ⟨b, 4, none⟩ x4).setCell ⟨b, 5, none⟩ x5) :=
  ((((((h.setCell (p := ⟨b, 0, none⟩) hb x0).setCell (p := ⟨b, 1, none⟩) hb x1).setCell (p := ⟨b, 2, none⟩) hb x2).setCell (p := ⟨b, 3, none⟩) hb x3).setCell (p := ⟨b, 4, none⟩) hb x4).setCell (p := ⟨b, 5, none⟩) hb x5)

theorem loc6_set {w : World} {b : Nat} {v0 v1 v2 v3 v4 v5 : Value} (h : Loc6 w b v0 v1 v2 v3 v4 v5) (x0 x1 x2 x3 x4 x5 : Value) :
    Loc6 ((((((w.setCell ⟨b, 0, none⟩ x0).setCell ⟨b, 1, none⟩ x1).setCell ⟨b, 2, none⟩ x2).setCell ⟨b, 3, none⟩ x3).setCell ⟨b, 4, none⟩ x4).setCell ⟨b, 5, none⟩ x5) b x0 x1 x2 x3 x4 x5 := by
  obtain ⟨hl, ⟨c0, c1, c2, c3, c4, c5⟩, f0, f1, f2, f3, f4, f5⟩ := h
  refine ⟨by simpa using hl, ⟨?_, ?_, ?_, ?_, ?_, ?_⟩, by simpa using f0, by simpa using f1, by simpa using f2, by simpa using f3, by simpa using f4, by simpa using f5⟩
  · have k : w.cell? ⟨b, 0, none⟩ = some v0 := by exact c0
    rw [World.cell?_setCell_other (h := by simp), World.cell?_setCell_other (h := by simp), World.cell?_setCell_other (h := by simp), World.cell?_setCell_other (h := by simp), World.cell?_setCell_other (h := by simp)]
    exact World.cell?_setCell_same _ _ _ k
  · have k : (w.setCell ⟨b, 0, none⟩ x0).cell? ⟨b, 1, none⟩ = some v1 := by rw [World.cell?_setCell_other (h := by simp)]; exact c1
    rw [World.cell?_setCell_other (h := by simp), World.cell?_setCell_other (h := by simp), World.cell?_setCell_other (h := by simp), World.cell?_setCell_other (h := by simp)]
    exact World.cell?_setCell_same _ _ _ k
  · have k : ((w.setCell ⟨b, 0, none⟩ x0).setCell ⟨b, 1, none⟩ x1).cell? ⟨b, 2, none⟩ = some v2 := by rw [World.cell?_setCell_other (h := by simp), World.cell?_setCell_other (h := by simp)]; exact c2
    rw [World.cell?_setCell_other (h := by simp), World.cell?_setCell_other (h := by simp), World.cell?_setCell_other (h := by simp)]
    exact World.cell?_setCell_same _ _ _ k
  · have k : (((w.setCell ⟨b, 0, none⟩ x0).setCell ⟨b, 1, none⟩ x1).setCell ⟨b, 2, none⟩ x2).cell? ⟨b, 3, none⟩ = some v3 := by rw [World.cell?_setCell_other (h := by simp), World.cell?_setCell_other (h := by simp), World.cell?_setCell_other (h := by simp)]; exact c3
    rw [World.cell?_setCell_other (h := by simp), World.cell?_setCell_other (h := by simp)]
    exact World.cell?_setCell_same _ _ _ k
  · have k : ((((w.setCell ⟨b, 0, none⟩ x0).setCell ⟨b, 1, none⟩ x1).setCell ⟨b, 2, none⟩ x2).setCell ⟨b, 3, none⟩ x3).cell? ⟨b, 4, none⟩ = some v4 := by rw [World.cell?_setCell_other (h := by simp), World.cell?_setCell_other (h := by simp), World.cell?_setCell_other (h := by simp), World.cell?_setCell_other (h := by simp)]; exact c4
    rw [World.cell?_setCell_other (h := by simp)]
    exact World.cell?_setCell_same _ _ _ k
  · have k : (((((w.setCell ⟨b, 0, none⟩ x0).setCell ⟨b, 1, none⟩ x1).setCell ⟨b, 2, none⟩ x2).setCell ⟨b, 3, none⟩ x3).setCell ⟨b, 4, none⟩ x4).cell? ⟨b, 5, none⟩ = some v5 := by rw [World.cell?_setCell_other (h := by simp), World.cell?_setCell_other (h := by simp), World.cell?_setCell_other (h := by simp), World.cell?_setCell_other (h := by simp), World.cell?_setCell_other (h := by simp)]; exact c5
    exact World.cell?_setCell_same _ _ _ k

/-- The block of a result of six cells that nothing was stored into. -/
def ZB6 (w : World) (b : Nat) : Prop := b < w.heap.size ∧ ∃ ty, w.heap[b]? = some (.cells #[.bool false, .slice none 0 0, .int .i64 0, .bool false, .slice none 0 0, .int .i64 0] ty (0, 0))

theorem ZB6.later {w w' : World} {b : Nat} (h : ZB6 w b) (hb : Below w.heap.size w w') : ZB6 w' b := by
  obtain ⟨hl, ty, hh⟩ := h
  exact ⟨Nat.lt_of_lt_of_le hl hb.size, ty, (hb.block b hl).trans hh⟩

theorem zb6_new (w : World) (ty : TypeId) : ZB6 (w.alloc (.cells #[.bool false, .slice none 0 0, .int .i64 0, .bool false, .slice none 0 0, .int .i64 0] ty)) w.heap.size :=
  ⟨by simp [World.size_alloc], ty, heap_alloc_new _ _⟩

theorem ZB6.rd {w : World} {b : Nat} {v : Value} {zs : List Nat} (h : ZB6 w b) (hr : Rd w .i64 v zs) (hn : Dg.Norm zs) (x0 x1 x2 x3 x4 x5 : Value) :
    Rd ((((((w.setCell ⟨b, 0, none⟩ x0).setCell ⟨b, 1, none⟩ x1).setCell ⟨b, 2, none⟩ x2).setCell ⟨b, 3, none⟩ x3).setCell ⟨b, 4, none⟩ x4).setCell ⟨b, 5, none⟩ x5) .i64 v zs := by
  obtain ⟨hl, ty, hh⟩ := h
  obtain ⟨ao, cap, rfl, h1, h2, h3⟩ := hr
  refine ⟨ao, cap, rfl, h1, h2, fun hp => ?_⟩
  obtain ⟨c, off, rfl, hc⟩ := h3 hp
  refine ⟨c, off, rfl, fun i hi => ?_⟩
  have hne : c ≠ b := by
    intro e
    subst e
    have k1 := hc (zs.length - 1) (by omega)
    have hz := hn (List.length_pos_iff.1 hp)
    unfold World.cell? at k1
    simp only [hh] at k1
    obtain ⟨o, ho⟩ : ∃ o, off + (zs.length - 1) = o := ⟨_, rfl⟩
    rw [ho] at k1
    generalize zs.getD (zs.length - 1) 0 = d at *
    match o, k1 with
    | 0, k1 => simp at k1
    | 1, k1 => simp at k1
    | 2, k1 => simp at k1; omega
    | 3, k1 => simp at k1
    | 4, k1 => simp at k1
    | 5, k1 => simp at k1; omega
    | o + 6, k1 => simp at k1
  rw [World.cell?_setCell_other (h := by simp), World.cell?_setCell_other (h := by simp), World.cell?_setCell_other (h := by simp), World.cell?_setCell_other (h := by simp), World.cell?_setCell_other (h := by simp), World.cell?_setCell_other (h := by simp)]
  exact hc i hi

theorem ZB6.rd32 {w : World} {b : Nat} {v : Value} {zs : List Nat} (h : ZB6 w b) (hr : Rd w .u32 v zs) (x0 x1 x2 x3 x4 x5 : Value) :
    Rd ((((((w.setCell ⟨b, 0, none⟩ x0).setCell ⟨b, 1, none⟩ x1).setCell ⟨b, 2, none⟩ x2).setCell ⟨b, 3, none⟩ x3).setCell ⟨b, 4, none⟩ x4).setCell ⟨b, 5, none⟩ x5) .u32 v zs := by
  obtain ⟨hl, ty, hh⟩ := h
  obtain ⟨ao, cap, rfl, h1, h2, h3⟩ := hr
  refine ⟨ao, cap, rfl, h1, h2, fun hp => ?_⟩
  obtain ⟨c, off, rfl, hc⟩ := h3 hp
  refine ⟨c, off, rfl, fun i hi => ?_⟩
  have hne : c ≠ b := by
    intro e
    subst e
    have k1 := hc (zs.length - 1) (by omega)
    unfold World.cell? at k1
    simp only [hh] at k1
    obtain ⟨o, ho⟩ : ∃ o, off + (zs.length - 1) = o := ⟨_, rfl⟩
    rw [ho] at k1
    match o, k1 with
    | 0, k1 => simp at k1
    | 1, k1 => simp at k1
    | 2, k1 => simp at k1
    | 3, k1 => simp at k1
    | 4, k1 => simp at k1
    | 5, k1 => simp at k1
    | o + 6, k1 => simp at k1
  rw [World.cell?_setCell_other (h := by simp), World.cell?_setCell_other (h := by simp), World.cell?_setCell_other (h := by simp), World.cell?_setCell_other (h := by simp), World.cell?_setCell_other (h := by simp), World.cell?_setCell_other (h := by simp)]
  exact hc i hi

/-- A ball of the reference's own numbers is handed back. -/
def RBRes (w : World) (t u : Trip) (e : Ending) (w' : World) : Prop :=
  ∃ p q, e = .returned (.agg #[.bool t.s, p, .int .i64 t.e, .bool u.s, q, .int .i64 u.e]) ∧ Rd w' .i64 p (Dg.dg 65536 t.n) ∧ Rd w' .i64 q (Dg.dg 65536 u.n) ∧ Below w.heap.size w w'
set_option maxRecDepth 100000 in
set_option maxHeartbeats 1600000 in
theorem ofBall_any (s : Bool) (ao : Option Addr) (ca la : Nat) (e : Int) (t : Bool) (bo : Option Addr) (cb lb : Nat) (f : Int) (x y : Trip) (w : World)
    (H1 : ∀ w1, Below w.heap.size w w1 → Calls Tryz.prog 18 #[.agg #[.bool s, .slice ao la ca, .int .i64 e]] w1 (RDRes w1 x))
    (H2 : ∀ w1, Below w.heap.size w w1 → Calls Tryz.prog 18 #[.agg #[.bool t, .slice bo lb cb, .int .i64 f]] w1 (RDRes w1 y)) :
    Calls Tryz.prog 7 #[.agg #[.bool s, .slice ao la ca, .int .i64 e, .bool t, .slice bo lb cb, .int .i64 f]] w (RBRes w x y) := by
  have HC1 : Hid _ := H1
  have HC2 : Hid _ := H2
  clear H1 H2
  obtain ⟨xs, xn, xe⟩ := x
  obtain ⟨ys, yn, ye⟩ := y
  have bA := below_trans (below_alloc w (.cells #[.bool s, .slice ao la ca, .int .i64 e, .bool t, .slice bo lb cb, .int .i64 f] 27)) (below_alloc _ (.cells #[.bool false, .slice none 0 0, .int .i64 0, .bool false, .slice none 0 0, .int .i64 0] 36))
  have l1 := (loc6_new w (.bool s) (.slice ao la ca) (.int .i64 e) (.bool t) (.slice bo lb cb) (.int .i64 f) 27).later (below_alloc _ (.cells #[.bool false, .slice none 0 0, .int .i64 0, .bool false, .slice none 0 0, .int .i64 0] 36))
  have l2 := loc6_new (w.alloc (.cells #[.bool s, .slice ao la ca, .int .i64 e, .bool t, .slice bo lb cb, .int .i64 f] 27)) (.bool false) (.slice none 0 0) (.int .i64 0) (.bool false) (.slice none 0 0) (.int .i64 0) 36
  have z2 := zb6_new (w.alloc (.cells #[.bool s, .slice ao la ca, .int .i64 e, .bool t, .slice bo lb cb, .int .i64 f] 27)) 36
  rw [World.size_alloc] at l2 z2
  obtain ⟨W, hW⟩ : ∃ W, ((w.alloc (.cells #[.bool s, .slice ao la ca, .int .i64 e, .bool t, .slice bo lb cb, .int .i64 f] 27)).alloc (.cells #[.bool false, .slice none 0 0, .int .i64 0, .bool false, .slice none 0 0, .int .i64 0] 36)) = W := ⟨_, rfl⟩
  rw [hW] at bA l1 l2 z2
  have bd : Below W.heap.size W W.drew := (Below.refl _ _).drew
  have l1 := l1.later bd
  have l2 := l2.later bd
  have z2 := z2.later bd
  have b02 := below_trans bA bd
  rw [← hW] at l1 l2 z2 b02
  clear bA bd hW
  obtain ⟨-, ⟨c0, c1, c2, c3, c4, c5⟩, -⟩ := id l1
  have ne3 : w.heap.size + 1 ≠ w.heap.size := by omega
  go_enter Tryz.func7, Tryz.ntmps7
  go_wp2_with fail
  go_region_held3 (fun wq => (wq.cell? ⟨w.heap.size, 0, none⟩ = some (.bool s) ∧ wq.cell? ⟨w.heap.size, 1, none⟩ = some (.slice ao la ca) ∧ wq.cell? ⟨w.heap.size, 2, none⟩ = some (.int .i64 e)) ∧ wq.cell? ⟨w.heap.size, 3, none⟩ = some (.bool t) ∧ wq.cell? ⟨w.heap.size, 4, none⟩ = some (.slice bo lb cb) ∧ wq.cell? ⟨w.heap.size, 5, none⟩ = some (.int .i64 f)) (go_keep) (first
    | (go_at_call 18; refine (HC1.out _ b02).mono ?_; rintro z w3 ⟨vs, rfl, r3, b3⟩; have l13 := l1.later b3; have l23 := l2.later b3; have z23 := z2.later b3; have b03 := below_trans b02 b3; clear b02; obtain ⟨-, ⟨p0, p1, p2, p3, p4, p5⟩, -⟩ := id l13; obtain ⟨so0, sc0, hv0⟩ := r3.shape; subst hv0)
    | (go_at_call 18; refine (HC2.out w3 b03).mono ?_; rintro z w4 ⟨vt, rfl, r4, b4⟩; have r34 := r3.later b4; have l14 := l13.later b4; have l24 := l23.later b4; have z24 := z23.later b4; have b04 := below_trans b03 b4; obtain ⟨so, sc, hvs⟩ := r4.shape; subst hvs; obtain ⟨-, ⟨q0, q1, q2, q3, q4, q5⟩, -⟩ := id l14; obtain ⟨hl3, ⟨d0, d1, d2, d3, d4, d5⟩, f0, f1, f2, f3, f4, f5⟩ := id l24))
  all_goals go_wp2
  obtain ⟨-, ⟨g0, g1, g2, g3, g4, g5⟩, -⟩ := loc6_set l24 (.bool xs) (.slice so0 (Dg.dg 65536 xn).length sc0) (.int .i64 xe) (.bool ys) (.slice so (Dg.dg 65536 yn).length sc) (.int .i64 ye)
  have r7 := z24.rd r34 (Dg.norm_dg _ _ (by omega)) (.bool xs) (.slice so0 (Dg.dg 65536 xn).length sc0) (.int .i64 xe) (.bool ys) (.slice so (Dg.dg 65536 yn).length sc) (.int .i64 ye)
  have r8 := z24.rd r4 (Dg.norm_dg _ _ (by omega)) (.bool xs) (.slice so0 (Dg.dg 65536 xn).length sc0) (.int .i64 xe) (.bool ys) (.slice so (Dg.dg 65536 yn).length sc) (.int .i64 ye)
  have b8 := below_set6 b04 (show w.heap.size ≤ w.heap.size + 1 by omega) (.bool xs) (.slice so0 (Dg.dg 65536 xn).length sc0) (.int .i64 xe) (.bool ys) (.slice so (Dg.dg 65536 yn).length sc) (.int .i64 ye)
  refine bodyPost_ret (v := .agg #[.bool xs, .slice so0 (Dg.dg 65536 xn).length sc0, .int .i64 xe, .bool ys, .slice so (Dg.dg 65536 yn).length sc, .int .i64 ye]) (by simp [results, Tryz.results7, go_sem, g0, g1, g2, g3, g4, g5]) rfl ?_
  exact ⟨_, _, rfl, r7, r8, b8⟩
end Go.Proofs.YtmjhlflemfkflaaGreatDoor
/-
  Balls: the contract of the reference's ToBall.
-/
namespace Go.Proofs.YtmjhlflemfkflaaGreatDoor
open Go.RowKit

/-- A ball of two answers, or the first error. -/
def ballR (r q : Trip × Int) : Trip × Trip × Int := if r.2 = 0 then if q.2 = 0 then (r.1, q.1, 0) else (⟨false, 0, 0⟩, ⟨false, 0, 0⟩, q.2) else (⟨false, 0, 0⟩, ⟨false, 0, 0⟩, r.2)

/-- A ball and an error are handed back. -/
def BAns (w : World) (r : Trip × Trip × Int) (e : Ending) (w' : World) : Prop :=
  ∃ p q, e = .returned (.tuple #[.agg #[.bool r.1.s, p, .int .i64 r.1.e, .bool r.2.1.s, q, .int .i64 r.2.1.e], .int .i64 r.2.2]) ∧ Rd w' .u32 p (Dg.dg 4294967296 r.1.n) ∧ Rd w' .u32 q (Dg.dg 4294967296 r.2.1.n) ∧ Below w.heap.size w w'

set_option maxRecDepth 100000 in
set_option maxHeartbeats 1600000 in
theorem toBall_any (s : Bool) (ao : Option Addr) (ca la : Nat) (e : Int) (t : Bool) (bo : Option Addr) (cb lb : Nat) (f : Int) (n : Int) (x y : Trip) (r q : Trip × Int) (w : World)
    (H1 : ∀ w1, Below w.heap.size w w1 → Calls Tryz.prog 35 #[.agg #[.bool s, .slice ao la ca, .int .i64 e], .int .i64 n, .bool false] w1 (RDRes w1 x))
    (H2 : ∀ w1, Below w.heap.size w w1 → Calls Tryz.prog 35 #[.agg #[.bool t, .slice bo lb cb, .int .i64 f], .int .i64 n, .bool true] w1 (RDRes w1 y))
    (T1 : ∀ v w1, Rv w1 v x → Calls Tryz.prog 74 #[v] w1 (RDAns w1 r))
    (T2 : ∀ v w1, Rv w1 v y → Calls Tryz.prog 74 #[v] w1 (RDAns w1 q)) :
    Calls Tryz.prog 39 #[.agg #[.bool s, .slice ao la ca, .int .i64 e], .agg #[.bool t, .slice bo lb cb, .int .i64 f], .int .i64 n] w (BAns w (ballR r q)) := by
  have HC1 : Hid _ := H1
  have HC2 : Hid _ := H2
  have HT1 : Hid _ := T1
  have HT2 : Hid _ := T2
  clear H1 H2 T1 T2
  obtain ⟨⟨rs, rn, re⟩, c⟩ := r
  obtain ⟨⟨qs, qn, qe⟩, d⟩ := q
  have l1 := (loc_new w (.bool s) (.slice ao la ca) (.int .i64 e) 34).later (below_alloc _ (.cells #[.bool t, .slice bo lb cb, .int .i64 f] 34))
  have m1 := loc_new (w.alloc (.cells #[.bool s, .slice ao la ca, .int .i64 e] 34)) (.bool t) (.slice bo lb cb) (.int .i64 f) 34
  have b1 := below_trans (below_alloc w (.cells #[.bool s, .slice ao la ca, .int .i64 e] 34)) (below_alloc _ (.cells #[.bool t, .slice bo lb cb, .int .i64 f] 34))
  have k1 := loc6_new ((w.alloc (.cells #[.bool s, .slice ao la ca, .int .i64 e] 34)).alloc (.cells #[.bool t, .slice bo lb cb, .int .i64 f] 34)) (.bool false) (.slice none 0 0) (.int .i64 0) (.bool false) (.slice none 0 0) (.int .i64 0) 27
  have z1 := zb6_new ((w.alloc (.cells #[.bool s, .slice ao la ca, .int .i64 e] 34)).alloc (.cells #[.bool t, .slice bo lb cb, .int .i64 f] 34)) 27
  have bz := below_alloc ((w.alloc (.cells #[.bool s, .slice ao la ca, .int .i64 e] 34)).alloc (.cells #[.bool t, .slice bo lb cb, .int .i64 f] 34)) (.cells #[.bool false, .slice none 0 0, .int .i64 0, .bool false, .slice none 0 0, .int .i64 0] 27)
  have l2 := l1.later bz
  have m2 := m1.later bz
  have b2 := below_trans b1 bz
  simp only [World.size_alloc] at m2 k1 z1
  clear l1 m1 b1 bz
  obtain ⟨-, ⟨c0, c1, c2⟩, -⟩ := id l2
  go_enter Tryz.func39, Tryz.ntmps39
  go_wp2_with fail
  refine (HC1.out _ b2).mono ?_
  rintro z w3 ⟨v3, rfl, r3, b3⟩
  have b03 := below_trans b2 b3
  have m3 := m2.later b3
  have k3 := k1.later b3
  have z3 := z1.later b3
  clear b2 l2 m2 k1 z1 b3 c0 c1 c2
  obtain ⟨o3, c3, h3⟩ := r3.shape
  subst h3
  go_wp2_with fail
  refine (HT1.out _ w3 ⟨_, rfl, r3⟩).mono ?_
  rintro z w4 ⟨v4, rfl, r4, b4⟩
  have b04 := below_trans b03 b4
  have m4 := m3.later b4
  have k4 := k3.later b4
  have z4 := z3.later b4
  clear b03 m3 k3 z3 b4 r3
  obtain ⟨o4, c4, h4⟩ := r4.shape
  subst h4
  simp only at r4 ⊢
  have b5 := below_alloc w4 (.cells #[.bool rs, .slice o4 (Dg.dg 4294967296 rn).length c4, .int .i64 re] 25)
  have a5 := loc_new w4 (.bool rs) (.slice o4 (Dg.dg 4294967296 rn).length c4) (.int .i64 re) 25
  have b05 := below_trans b04 b5
  have m5 := m4.later b5
  have k5 := k4.later b5
  have z5 := z4.later b5
  have r5 := r4.later b5
  clear b04 m4 k4 z4 b5 r4
  obtain ⟨-, ⟨d0, d1, d2⟩, -⟩ := id m5
  go_wp2_with fail
  refine (HC2.out _ b05).mono ?_
  rintro z w6 ⟨v6, rfl, r6, b6⟩
  have b06 := below_trans b05 b6
  have a6 := a5.later b6
  have k6 := k5.later b6
  have z6 := z5.later b6
  have r56 := r5.later b6
  clear b05 m5 k5 z5 b6 r5 d0 d1 d2 a5
  obtain ⟨o6, c6, h6⟩ := r6.shape
  subst h6
  go_wp2_with fail
  refine (HT2.out _ w6 ⟨_, rfl, r6⟩).mono ?_
  rintro z w7 ⟨v7, rfl, r7, b7⟩
  have b07 := below_trans b06 b7
  have a7 := a6.later b7
  have k7 := k6.later b7
  have z7 := z6.later b7
  have r57 := r56.later b7
  clear b06 a6 k6 z6 b7 r6 r56
  obtain ⟨o7, c7, h7⟩ := r7.shape
  subst h7
  simp only at r7 ⊢
  have b8 := below_alloc w7 (.cells #[.bool qs, .slice o7 (Dg.dg 4294967296 qn).length c7, .int .i64 qe] 25)
  have e8 := loc_new w7 (.bool qs) (.slice o7 (Dg.dg 4294967296 qn).length c7) (.int .i64 qe) 25
  have b08 := below_trans b07 b8
  have a8 := a7.later b8
  have k8 := k7.later b8
  have z8 := z7.later b8
  have r58 := r57.later b8
  have r78 := r7.later b8
  clear b07 a7 k7 z7 b8 r57 r7
  obtain ⟨-, ⟨i0, i1, i2⟩, -⟩ := id a8
  obtain ⟨-, ⟨j0, j1, j2⟩, -⟩ := id e8
  obtain ⟨hl, ⟨g0, g1, g2, g3, g4, g5⟩, f0, f1, f2, f3, f4, f5⟩ := id k8
  by_cases hc : c = 0
  · subst hc
    by_cases hd : d = 0
    · subst hd
      go_wp2
      obtain ⟨-, ⟨u0, u1, u2, u3, u4, u5⟩, -⟩ := loc6_set k8 (.bool rs) (.slice o4 (Dg.dg 4294967296 rn).length c4) (.int .i64 re) (.bool qs) (.slice o7 (Dg.dg 4294967296 qn).length c7) (.int .i64 qe)
      have bb := below_set6 b08 (show w.heap.size ≤ w.heap.size + 1 + 1 by omega) (.bool rs) (.slice o4 (Dg.dg 4294967296 rn).length c4) (.int .i64 re) (.bool qs) (.slice o7 (Dg.dg 4294967296 qn).length c7) (.int .i64 qe)
      refine bodyPost_ret (v := .tuple #[.agg #[.bool rs, .slice o4 (Dg.dg 4294967296 rn).length c4, .int .i64 re, .bool qs, .slice o7 (Dg.dg 4294967296 qn).length c7, .int .i64 qe], .int .i64 0]) (by simp [results, Tryz.results39, go_sem, u0, u1, u2, u3, u4, u5]) rfl ?_
      have hR : ballR (⟨rs, rn, re⟩, 0) (⟨qs, qn, qe⟩, 0) = (⟨rs, rn, re⟩, ⟨qs, qn, qe⟩, 0) := by simp [ballR]
      rw [hR]
      exact ⟨_, _, rfl, z8.rd32 r58 (.bool rs) (.slice o4 (Dg.dg 4294967296 rn).length c4) (.int .i64 re) (.bool qs) (.slice o7 (Dg.dg 4294967296 qn).length c7) (.int .i64 qe), z8.rd32 r78 (.bool rs) (.slice o4 (Dg.dg 4294967296 rn).length c4) (.int .i64 re) (.bool qs) (.slice o7 (Dg.dg 4294967296 qn).length c7) (.int .i64 qe), bb⟩
    · go_wp2
      obtain ⟨-, ⟨u0, u1, u2, u3, u4, u5⟩, -⟩ := loc6_set k8 (.bool false) (.slice none 0 0) (.int .i64 0) (.bool false) (.slice none 0 0) (.int .i64 0)
      have bb := below_set6 b08 (show w.heap.size ≤ w.heap.size + 1 + 1 by omega) (.bool false) (.slice none 0 0) (.int .i64 0) (.bool false) (.slice none 0 0) (.int .i64 0)
      refine bodyPost_ret (v := .tuple #[.agg #[.bool false, .slice none 0 0, .int .i64 0, .bool false, .slice none 0 0, .int .i64 0], .int .i64 d]) (by simp [results, Tryz.results39, go_sem, u0, u1, u2, u3, u4, u5]) rfl ?_
      have hR : ballR (⟨rs, rn, re⟩, 0) (⟨qs, qn, qe⟩, d) = (⟨false, 0, 0⟩, ⟨false, 0, 0⟩, d) := by simp [ballR, hd]
      rw [hR]
      exact ⟨_, _, rfl, rd_nil _ _, rd_nil _ _, bb⟩
  · go_wp2
    obtain ⟨-, ⟨u0, u1, u2, u3, u4, u5⟩, -⟩ := loc6_set k8 (.bool false) (.slice none 0 0) (.int .i64 0) (.bool false) (.slice none 0 0) (.int .i64 0)
    have bb := below_set6 b08 (show w.heap.size ≤ w.heap.size + 1 + 1 by omega) (.bool false) (.slice none 0 0) (.int .i64 0) (.bool false) (.slice none 0 0) (.int .i64 0)
    refine bodyPost_ret (v := .tuple #[.agg #[.bool false, .slice none 0 0, .int .i64 0, .bool false, .slice none 0 0, .int .i64 0], .int .i64 c]) (by simp [results, Tryz.results39, go_sem, u0, u1, u2, u3, u4, u5]) rfl ?_
    have hR : ballR (⟨rs, rn, re⟩, c) (⟨qs, qn, qe⟩, d) = (⟨false, 0, 0⟩, ⟨false, 0, 0⟩, c) := by simp [ballR, hc]
    rw [hR]
    exact ⟨_, _, rfl, rd_nil _ _, rd_nil _ _, bb⟩
end Go.Proofs.YtmjhlflemfkflaaGreatDoor
/-
  The least and the greatest one of some numbers with a point, without the program.
-/
namespace Go.Proofs.YtmjhlflemfkflaaGreatDoor

/-- How two numbers stand to one another. -/
def cmpT (a b : Trip) : Int := signT (plusT a (negT b))

theorem cmpT_sgn {K : Nat} {a b : Trip} (ha : -(K : Int) ≤ a.e) (hb : -(K : Int) ≤ b.e) : cmpT a b = sgn (V K a - V K b) := by
  have h1 : V K (plusT a (negT b)) = V K a - V K b := by rw [V_plus ha (by exact hb), V_neg]; omega
  rw [← h1, sgn_V]
  rfl

theorem cmpT_lt {K : Nat} {a b : Trip} (ha : -(K : Int) ≤ a.e) (hb : -(K : Int) ≤ b.e) : cmpT a b < 0 ↔ V K a < V K b := by
  rw [cmpT_sgn ha hb]
  unfold sgn
  split
  · omega
  · split <;> omega

theorem cmpT_gt {K : Nat} {a b : Trip} (ha : -(K : Int) ≤ a.e) (hb : -(K : Int) ≤ b.e) : 0 < cmpT a b ↔ V K b < V K a := by
  rw [cmpT_sgn ha hb]
  unfold sgn
  split
  · omega
  · split <;> omega

theorem cmpT_ways (a b : Trip) : cmpT a b = -1 ∨ cmpT a b = 0 ∨ cmpT a b = 1 := by
  unfold cmpT signT
  split
  · omega
  · split <;> omega

/-- Which one is the least of the first ones, as it is found. -/
def loI (x : Nat → Trip) : Nat → Nat
  | 0 => 0
  | i + 1 => if cmpT (x (i + 1)) (x (loI x i)) < 0 then i + 1 else loI x i

/-- Which one is the greatest. -/
def hiI (x : Nat → Trip) : Nat → Nat
  | 0 => 0
  | i + 1 => if 0 < cmpT (x (i + 1)) (x (hiI x i)) then i + 1 else hiI x i

def loT (x : Nat → Trip) (i : Nat) : Trip := x (loI x i)
def hiT (x : Nat → Trip) (i : Nat) : Trip := x (hiI x i)

theorem loI_le (x : Nat → Trip) (i : Nat) : loI x i ≤ i := by
  induction i with
  | zero => exact Nat.le_refl _
  | succ i ih => unfold loI; split <;> omega

theorem hiI_le (x : Nat → Trip) (i : Nat) : hiI x i ≤ i := by
  induction i with
  | zero => exact Nat.le_refl _
  | succ i ih => unfold hiI; split <;> omega

theorem loI_pos {x : Nat → Trip} {i : Nat} (h : cmpT (x (i + 1)) (x (loI x i)) < 0) : loI x (i + 1) = i + 1 := if_pos h
theorem loI_neg {x : Nat → Trip} {i : Nat} (h : ¬cmpT (x (i + 1)) (x (loI x i)) < 0) : loI x (i + 1) = loI x i := if_neg h
theorem hiI_pos {x : Nat → Trip} {i : Nat} (h : 0 < cmpT (x (i + 1)) (x (hiI x i))) : hiI x (i + 1) = i + 1 := if_pos h
theorem hiI_neg {x : Nat → Trip} {i : Nat} (h : ¬0 < cmpT (x (i + 1)) (x (hiI x i))) : hiI x (i + 1) = hiI x i := if_neg h

theorem loT_in (x : Nat → Trip) (i : Nat) : ∃ j, j ≤ i ∧ loT x i = x j := ⟨_, loI_le x i, rfl⟩
theorem hiT_in (x : Nat → Trip) (i : Nat) : ∃ j, j ≤ i ∧ hiT x i = x j := ⟨_, hiI_le x i, rfl⟩

theorem loT_all (x : Nat → Trip) (i : Nat) (P : Trip → Prop) (h : ∀ j, j ≤ i → P (x j)) : P (loT x i) := by
  obtain ⟨j, h1, h2⟩ := loT_in x i
  rw [h2]
  exact h j h1

theorem hiT_all (x : Nat → Trip) (i : Nat) (P : Trip → Prop) (h : ∀ j, j ≤ i → P (x j)) : P (hiT x i) := by
  obtain ⟨j, h1, h2⟩ := hiT_in x i
  rw [h2]
  exact h j h1

theorem loT_le {K : Nat} (x : Nat → Trip) (i : Nat) (h : ∀ j, j ≤ i → -(K : Int) ≤ (x j).e) : ∀ j, j ≤ i → V K (loT x i) ≤ V K (x j) := by
  induction i with
  | zero =>
    intro j hj
    have : j = 0 := by omega
    subst this
    exact Int.le_refl _
  | succ i ih =>
    intro j hj
    have h0 := h (i + 1) (Nat.le_refl _)
    have h1 : -(K : Int) ≤ (loT x i).e := loT_all x i (fun t => -(K : Int) ≤ t.e) (fun j hj => h j (by omega))
    have ih := ih (fun j hj => h j (by omega))
    have hc := cmpT_lt h0 h1
    by_cases hlt : cmpT (x (i + 1)) (loT x i) < 0
    · have he : loT x (i + 1) = x (i + 1) := congrArg x (loI_pos hlt)
      rw [he]
      have := hc.1 hlt
      by_cases hji : j = i + 1
      · subst hji; exact Int.le_refl _
      · have := ih j (by omega); omega
    · have he : loT x (i + 1) = loT x i := congrArg x (loI_neg hlt)
      rw [he]
      by_cases hji : j = i + 1
      · subst hji
        by_cases hv : V K (x (i + 1)) < V K (loT x i)
        · exact absurd (hc.2 hv) hlt
        · omega
      · exact ih j (by omega)

theorem hiT_ge {K : Nat} (x : Nat → Trip) (i : Nat) (h : ∀ j, j ≤ i → -(K : Int) ≤ (x j).e) : ∀ j, j ≤ i → V K (x j) ≤ V K (hiT x i) := by
  induction i with
  | zero =>
    intro j hj
    have : j = 0 := by omega
    subst this
    exact Int.le_refl _
  | succ i ih =>
    intro j hj
    have h0 := h (i + 1) (Nat.le_refl _)
    have h1 : -(K : Int) ≤ (hiT x i).e := hiT_all x i (fun t => -(K : Int) ≤ t.e) (fun j hj => h j (by omega))
    have ih := ih (fun j hj => h j (by omega))
    have hc := cmpT_gt h0 h1
    by_cases hlt : 0 < cmpT (x (i + 1)) (hiT x i)
    · have he : hiT x (i + 1) = x (i + 1) := congrArg x (hiI_pos hlt)
      rw [he]
      have := hc.1 hlt
      by_cases hji : j = i + 1
      · subst hji; exact Int.le_refl _
      · have := ih j (by omega); omega
    · have he : hiT x (i + 1) = hiT x i := congrArg x (hiI_neg hlt)
      rw [he]
      by_cases hji : j = i + 1
      · subst hji
        by_cases hv : V K (hiT x i) < V K (x (i + 1))
        · exact absurd (hc.2 hv) hlt
        · omega
      · exact ih j (by omega)

/-- Whoever is no more than all, and one of them by value, is the least by value. -/
theorem loT_bare {K : Nat} (x : Nat → Trip) (i : Nat) (y : Trip) (h : ∀ j, j ≤ i → -(K : Int) ≤ (x j).e) (hy : -(K : Int) ≤ y.e) (h1 : ∀ j, j ≤ i → V K y ≤ V K (x j)) (h2 : ∃ j, j ≤ i ∧ V K y = V K (x j)) : bare (loT x i) = bare y := by
  obtain ⟨j, hj, e⟩ := h2
  obtain ⟨k, hk, ek⟩ := loT_in x i
  refine bare_of_V (loT_all x i (fun t => -(K : Int) ≤ t.e) h) hy ?_
  have a1 := loT_le x i h j hj
  have a2 := h1 k hk
  rw [← ek] at a2
  omega

theorem hiT_bare {K : Nat} (x : Nat → Trip) (i : Nat) (y : Trip) (h : ∀ j, j ≤ i → -(K : Int) ≤ (x j).e) (hy : -(K : Int) ≤ y.e) (h1 : ∀ j, j ≤ i → V K (x j) ≤ V K y) (h2 : ∃ j, j ≤ i ∧ V K y = V K (x j)) : bare (hiT x i) = bare y := by
  obtain ⟨j, hj, e⟩ := h2
  obtain ⟨k, hk, ek⟩ := hiT_in x i
  refine bare_of_V (hiT_all x i (fun t => -(K : Int) ≤ t.e) h) hy ?_
  have a1 := hiT_ge x i h j hj
  have a2 := h1 k hk
  rw [← ek] at a2
  omega
end Go.Proofs.YtmjhlflemfkflaaGreatDoor

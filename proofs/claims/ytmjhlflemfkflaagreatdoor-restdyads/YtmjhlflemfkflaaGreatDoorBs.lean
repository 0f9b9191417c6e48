/-
  Texts laid together: Bs1, Bs2, Bl8.
-/
import Derived.Test.YtmjhlflemfkflaaGreatDoorBa
import Derived.Test.YtmjhlflemfkflaaGreatDoorDk1
/-
  Spans: contracts of span.Of, Around.
-/
namespace Go.Proofs.YtmjhlflemfkflaaGreatDoor
open Go.RowKit

theorem Loc6.apart3 {w : World} {b c : Nat} {v0 v1 v2 v3 v4 v5 : Value} (h : Loc6 w b v0 v1 v2 v3 v4 v5) (hne : c ≠ b) (x0 x1 x2 : Value) :
    Loc6 (((w.setCell ⟨c, 0, none⟩ x0).setCell ⟨c, 1, none⟩ x1).setCell ⟨c, 2, none⟩ x2) b v0 v1 v2 v3 v4 v5 := by
  obtain ⟨hl, ⟨c0, c1, c2, c3, c4, c5⟩, f0, f1, f2, f3, f4, f5⟩ := h
  refine ⟨by simpa using hl, ⟨?_, ?_, ?_, ?_, ?_, ?_⟩, by simpa using f0, by simpa using f1, by simpa using f2, by simpa using f3, by simpa using f4, by simpa using f5⟩
  all_goals (rw [World.cell?_setCell_other (h := by simp), World.cell?_setCell_other (h := by simp), World.cell?_setCell_other (h := by simp)]; assumption)

theorem Loc6.apart3h {w : World} {b c : Nat} {v0 v1 v2 v3 v4 v5 : Value} (h : Loc6 w b v0 v1 v2 v3 v4 v5) (hne : c ≠ b) (x0 x1 x2 : Value) :
    Loc6 (((w.setCell ⟨c, 3, none⟩ x0).setCell ⟨c, 4, none⟩ x1).setCell ⟨c, 5, none⟩ x2) b v0 v1 v2 v3 v4 v5 := by
  obtain ⟨hl, ⟨c0, c1, c2, c3, c4, c5⟩, f0, f1, f2, f3, f4, f5⟩ := h
  refine ⟨by simpa using hl, ⟨?_, ?_, ?_, ?_, ?_, ?_⟩, by simpa using f0, by simpa using f1, by simpa using f2, by simpa using f3, by simpa using f4, by simpa using f5⟩
  all_goals (rw [World.cell?_setCell_other (h := by simp), World.cell?_setCell_other (h := by simp), World.cell?_setCell_other (h := by simp)]; assumption)

theorem Loc.apart3h {w : World} {b c : Nat} {v0 v1 v2 : Value} (h : Loc w b v0 v1 v2) (_hne : c ≠ b) (x0 x1 x2 : Value) :
    Loc (((w.setCell ⟨c, 3, none⟩ x0).setCell ⟨c, 4, none⟩ x1).setCell ⟨c, 5, none⟩ x2) b v0 v1 v2 := by
  obtain ⟨hl, ⟨c0, c1, c2⟩, f0, f1, f2⟩ := h
  refine ⟨by simpa using hl, ⟨?_, ?_, ?_⟩, by simpa using f0, by simpa using f1, by simpa using f2⟩
  all_goals (rw [World.cell?_setCell_other (h := by simp), World.cell?_setCell_other (h := by simp), World.cell?_setCell_other (h := by simp)]; assumption)

theorem loc6_lo {w : World} {b : Nat} {v0 v1 v2 v3 v4 v5 : Value} (h : Loc6 w b v0 v1 v2 v3 v4 v5) (x0 x1 x2 : Value) :
    Loc6 (((w.setCell ⟨b, 0, none⟩ x0).setCell ⟨b, 1, none⟩ x1).setCell ⟨b, 2, none⟩ x2) b x0 x1 x2 v3 v4 v5 := by
  obtain ⟨hl, ⟨c0, c1, c2, c3, c4, c5⟩, f0, f1, f2, f3, f4, f5⟩ := h
  refine ⟨by simpa using hl, ⟨?_, ?_, ?_, ?_, ?_, ?_⟩, by simpa using f0, by simpa using f1, by simpa using f2, by simpa using f3, by simpa using f4, by simpa using f5⟩
  · rw [World.cell?_setCell_other (h := by simp), World.cell?_setCell_other (h := by simp)]
    exact World.cell?_setCell_same _ _ _ c0
  · have k : (w.setCell ⟨b, 0, none⟩ x0).cell? ⟨b, 1, none⟩ = some v1 := by rw [World.cell?_setCell_other (h := by simp)]; exact c1
    rw [World.cell?_setCell_other (h := by simp)]
    exact World.cell?_setCell_same _ _ _ k
  · have k : ((w.setCell ⟨b, 0, none⟩ x0).setCell ⟨b, 1, none⟩ x1).cell? ⟨b, 2, none⟩ = some v2 := by rw [World.cell?_setCell_other (h := by simp), World.cell?_setCell_other (h := by simp)]; exact c2
    exact World.cell?_setCell_same _ _ _ k
  all_goals (rw [World.cell?_setCell_other (h := by simp), World.cell?_setCell_other (h := by simp), World.cell?_setCell_other (h := by simp)]; assumption)

theorem loc6_hi {w : World} {b : Nat} {v0 v1 v2 v3 v4 v5 : Value} (h : Loc6 w b v0 v1 v2 v3 v4 v5) (x0 x1 x2 : Value) :
    Loc6 (((w.setCell ⟨b, 3, none⟩ x0).setCell ⟨b, 4, none⟩ x1).setCell ⟨b, 5, none⟩ x2) b v0 v1 v2 x0 x1 x2 := by
  obtain ⟨hl, ⟨c0, c1, c2, c3, c4, c5⟩, f0, f1, f2, f3, f4, f5⟩ := h
  refine ⟨by simpa using hl, ⟨?_, ?_, ?_, ?_, ?_, ?_⟩, by simpa using f0, by simpa using f1, by simpa using f2, by simpa using f3, by simpa using f4, by simpa using f5⟩
  · rw [World.cell?_setCell_other (h := by simp), World.cell?_setCell_other (h := by simp), World.cell?_setCell_other (h := by simp)]; exact c0
  · rw [World.cell?_setCell_other (h := by simp), World.cell?_setCell_other (h := by simp), World.cell?_setCell_other (h := by simp)]; exact c1
  · rw [World.cell?_setCell_other (h := by simp), World.cell?_setCell_other (h := by simp), World.cell?_setCell_other (h := by simp)]; exact c2
  · rw [World.cell?_setCell_other (h := by simp), World.cell?_setCell_other (h := by simp)]
    exact World.cell?_setCell_same _ _ _ c3
  · have k : (w.setCell ⟨b, 3, none⟩ x0).cell? ⟨b, 4, none⟩ = some v4 := by rw [World.cell?_setCell_other (h := by simp)]; exact c4
    rw [World.cell?_setCell_other (h := by simp)]
    exact World.cell?_setCell_same _ _ _ k
  · have k : ((w.setCell ⟨b, 3, none⟩ x0).setCell ⟨b, 4, none⟩ x1).cell? ⟨b, 5, none⟩ = some v5 := by rw [World.cell?_setCell_other (h := by simp), World.cell?_setCell_other (h := by simp)]; exact c5
    exact World.cell?_setCell_same _ _ _ k

theorem below_set3h {B b : Nat} {w w1 : World} (h : Below B w w1) (hb : B ≤ b) (x0 x1 x2 : Value) : Below B w (((w1.setCell ⟨b, 3, none⟩ x0).setCell ⟨b, 4, none⟩ x1).setCell ⟨b, 5, none⟩ x2) :=
  (((h.setCell (p := ⟨b, 3, none⟩) hb x0).setCell (p := ⟨b, 4, none⟩) hb x1).setCell (p := ⟨b, 5, none⟩) hb x2)

set_option maxRecDepth 100000 in
theorem spanOf_any (s : Bool) (ao : Option Addr) (la ca : Nat) (e : Int) (w : World) :
    Calls Tryz.prog 98 #[.agg #[.bool s, .slice ao la ca, .int .i64 e]] w fun z w' => z = .returned (.agg #[.bool s, .slice ao la ca, .int .i64 e, .bool s, .slice ao la ca, .int .i64 e]) ∧ Below w.heap.size w w' := by
  go_enter Tryz.func98, Tryz.ntmps98
  go_wp2
  go_returns
  exact ⟨rfl, ((Below.refl _ _).alloc (Nat.le_refl _) _).alloc (by simp [World.size_alloc]) _⟩

/-- Both ends so far, in one block. -/
def EndsAt (wr : World) (p : Nat) (x : Nat → Trip) (ao : Nat → Option Addr) (ca : Nat → Nat) (l h : Nat) : Prop :=
  Loc6 wr p (.bool (x l).s) (.slice (ao l) (Dg.dg 4294967296 (x l).n).length (ca l)) (.int .i64 (x l).e) (.bool (x h).s) (.slice (ao h) (Dg.dg 4294967296 (x h).n).length (ca h)) (.int .i64 (x h).e)

/-- Where the loop of Around stands. -/
def AroundR (w : World) (m : Nat) (x : Nat → Trip) (ao : Nat → Option Addr) (ca : Nat → Nat) (p : Nat) (iv : Value) (wr : World) : Prop :=
  ∃ i : Nat, i + 1 ≤ m ∧ iv = .int .i64 i ∧ Below w.heap.size w wr ∧ EndsAt wr p x ao ca (loI x i) (hiI x i) ∧
    Loc6 wr w.heap.size (.bool false) (.slice none 0 0) (.int .i64 0) (.bool false) (.slice none 0 0) (.int .i64 0)

/-- The ends of some numbers are handed back, wherever their digits lie. -/
def ARes (w : World) (x : Nat → Trip) (ao : Nat → Option Addr) (ca : Nat → Nat) (l h : Nat) (z : Ending) (w' : World) : Prop :=
  z = .returned (.agg #[.bool (x l).s, .slice (ao l) (Dg.dg 4294967296 (x l).n).length (ca l), .int .i64 (x l).e, .bool (x h).s, .slice (ao h) (Dg.dg 4294967296 (x h).n).length (ca h), .int .i64 (x h).e]) ∧ Below w.heap.size w w'

set_option maxRecDepth 100000 in
set_option maxHeartbeats 1600000 in
theorem spanAround_any (b : Nat) (m : Nat) (x : Nat → Trip) (ao : Nat → Option Addr) (ca : Nat → Nat) (w : World) (hm : 2 ≤ m) (hm2 : m ≤ 4) (hb : b < w.heap.size)
    (h0 : ∀ j, j < m → w.cell? ⟨b, 3 * j, none⟩ = some (.bool (x j).s)) (h1 : ∀ j, j < m → w.cell? ⟨b, 3 * j + 1, none⟩ = some (.slice (ao j) (Dg.dg 4294967296 (x j).n).length (ca j))) (h2 : ∀ j, j < m → w.cell? ⟨b, 3 * j + 2, none⟩ = some (.int .i64 (x j).e))
    (HC : ∀ j k w1, j < m → k < m → Below w.heap.size w w1 → Calls Tryz.prog 99 #[.agg #[.bool (x j).s, .slice (ao j) (Dg.dg 4294967296 (x j).n).length (ca j), .int .i64 (x j).e], .agg #[.bool (x k).s, .slice (ao k) (Dg.dg 4294967296 (x k).n).length (ca k), .int .i64 (x k).e]] w1 fun z w' => z = .returned (.int .i64 (cmpT (x j) (x k))) ∧ Below w1.heap.size w1 w') :
    Calls Tryz.prog 53 #[.slice (some ⟨b, 0, none⟩) m m] w (ARes w x ao ca (loI x (m - 1)) (hiI x (m - 1))) := by
  have c00 : w.cell? ⟨b, 0, none⟩ = some (.bool (x 0).s) := h0 0 (by omega)
  have c01 : w.cell? ⟨b, 1, none⟩ = some (.slice (ao 0) (Dg.dg 4294967296 (x 0).n).length (ca 0)) := h1 0 (by omega)
  have c02 : w.cell? ⟨b, 2, none⟩ = some (.int .i64 (x 0).e) := h2 0 (by omega)
  have HH0 : Hid _ := h0
  have HH1 : Hid _ := h1
  have HH2 : Hid _ := h2
  have HHC : Hid _ := HC
  clear h0 h1 h2 HC
  have n1 : b ≠ w.heap.size := by omega
  have hm' : (0 : Int) < (m : Int) := by omega
  have LS : ∀ P W, Below w.heap.size w W → Loc6 W P (.bool (x 0).s) (.slice (ao 0) (Dg.dg 4294967296 (x 0).n).length (ca 0)) (.int .i64 (x 0).e) (.bool (x 0).s) (.slice (ao 0) (Dg.dg 4294967296 (x 0).n).length (ca 0)) (.int .i64 (x 0).e) → Loc6 W w.heap.size (.bool false) (.slice none 0 0) (.int .i64 0) (.bool false) (.slice none 0 0) (.int .i64 0) → AroundR w m x ao ca P (.int .i64 0) W :=
    fun P W hB hP hK => ⟨0, by omega, rfl, hB, hP, hK⟩
  have LS' : Hid _ := LS
  clear LS
  obtain ⟨s, hs⟩ : ∃ s, (x 0).s = s := ⟨_, rfl⟩
  obtain ⟨a0, ha0⟩ : ∃ s, ao 0 = s := ⟨_, rfl⟩
  obtain ⟨c0, hc0⟩ : ∃ s, ca 0 = s := ⟨_, rfl⟩
  obtain ⟨la, hla⟩ : ∃ s, (Dg.dg 4294967296 (x 0).n).length = s := ⟨_, rfl⟩
  obtain ⟨e, he⟩ : ∃ s, (x 0).e = s := ⟨_, rfl⟩
  rw [hs, ha0, hc0, hla, he] at LS'
  rw [hs] at c00
  rw [ha0, hc0, hla] at c01
  rw [he] at c02
  clear hs ha0 hc0 hla he
  have k0 := loc6_new w (.bool false) (.slice none 0 0) (.int .i64 0) (.bool false) (.slice none 0 0) (.int .i64 0) 98
  have b0 := below_alloc w (.cells #[.bool false, .slice none 0 0, .int .i64 0, .bool false, .slice none 0 0, .int .i64 0] 98)
  go_enter Tryz.func53, Tryz.ntmps53
  go_wp2_with fail
  refine (spanOf_any s a0 la c0 e _).mono ?_
  rintro z w1 ⟨rfl, b1⟩
  have ba := below_alloc w1 (.cells #[.bool s, .slice a0 la c0, .int .i64 e, .bool s, .slice a0 la c0, .int .i64 e] 98)
  have p1 := loc6_new w1 (.bool s) (.slice a0 la c0) (.int .i64 e) (.bool s) (.slice a0 la c0) (.int .i64 e) 98
  have k2 := (k0.later b1).later ba
  have hPw : w.heap.size < w1.heap.size := (k0.later b1).1
  have b02 := below_trans (below_trans b0 b1) ba
  have L0 := LS'.out _ _ b02 p1 k2
  clear k0 b0 b1 ba p1 k2 b02 LS' c00 c01 c02 n1
  go_wp2_with fail
  generalize w1.heap.size = P at hPw L0 ⊢
  generalize (w1.alloc (.cells #[.bool s, .slice a0 la c0, .int .i64 e, .bool s, .slice a0 la c0, .int .i64 e] 98)) = W at L0 ⊢
  have hp0 : P ≠ w.heap.size := by omega
  have hp1 : w.heap.size ≤ P := by omega
  go_loopw [13] (AroundR w m x ao ca P) (fun iv _ => m - (intOf iv).toNat)
  case atStart => exact L0
  case round =>
    clear L0
    obtain ⟨i, hi, rfl, bel, lp, lk⟩ := hrel
    by_cases hlt : i + 1 < m
    · have d0 : wr.cell? ⟨b, 3 + i * 3, none⟩ = some (.bool (x (i + 1)).s) := by rw [show 3 + i * 3 = 3 * (i + 1) by omega]; exact cell_later bel (HH0.out (i + 1) hlt)
      have d1 : wr.cell? ⟨b, 3 + i * 3 + 1, none⟩ = some (.slice (ao (i + 1)) (Dg.dg 4294967296 (x (i + 1)).n).length (ca (i + 1))) := by rw [show 3 + i * 3 = 3 * (i + 1) by omega]; exact cell_later bel (HH1.out (i + 1) hlt)
      have d2 : wr.cell? ⟨b, 3 + i * 3 + 2, none⟩ = some (.int .i64 (x (i + 1)).e) := by rw [show 3 + i * 3 = 3 * (i + 1) by omega]; exact cell_later bel (HH2.out (i + 1) hlt)
      have hl1 := loI_le x i
      have hl2 := hiI_le x i
      have ba := below_alloc wr (.cells #[.bool (x (i + 1)).s, .slice (ao (i + 1)) (Dg.dg 4294967296 (x (i + 1)).n).length (ca (i + 1)), .int .i64 (x (i + 1)).e] 66)
      have r1 := loc_new wr (.bool (x (i + 1)).s) (.slice (ao (i + 1)) (Dg.dg 4294967296 (x (i + 1)).n).length (ca (i + 1))) (.int .i64 (x (i + 1)).e) 66
      have bel1 := below_trans bel ba
      have hrp : P ≠ wr.heap.size := by have := lp.1; omega
      have lp1 := Loc6.later lp ba
      have lk1 := lk.later ba
      clear lp lk ba
      obtain ⟨-, ⟨p0, p1, p2, -⟩, -⟩ := id lp1
      go_wp2_with fail
      refine (HHC.out (i + 1) (loI x i) _ hlt (by omega) bel1).mono ?_
      rintro z w2 ⟨rfl, b2⟩
      have bel2 := below_trans bel1 b2
      have lp2 := Loc6.later lp1 b2
      have lk2 := lk1.later b2
      have r2 := r1.later b2
      clear p0 p1 p2 lp1 lk1 r1 b2 bel1 d0 d1 d2
      generalize wr.heap.size = R at hrp r2 ⊢
      obtain ⟨-, ⟨e0, e1, e2⟩, -⟩ := id r2
      by_cases hc : cmpT (x (i + 1)) (x (loI x i)) < 0
      · have hI := loI_pos hc
        generalize cmpT (x (i + 1)) (x (loI x i)) = c1 at hc ⊢
        obtain ⟨hpl, ⟨p0, p1, p2, -⟩, f0, f1, f2, -⟩ := id lp2
        have lp3 := loc6_lo lp2 (.bool (x (i + 1)).s) (.slice (ao (i + 1)) (Dg.dg 4294967296 (x (i + 1)).n).length (ca (i + 1))) (.int .i64 (x (i + 1)).e)
        have r3 := r2.apart (c := P) hrp (.bool (x (i + 1)).s) (.slice (ao (i + 1)) (Dg.dg 4294967296 (x (i + 1)).n).length (ca (i + 1))) (.int .i64 (x (i + 1)).e)
        have lk3 := lk2.apart3 (c := P) (by omega) (.bool (x (i + 1)).s) (.slice (ao (i + 1)) (Dg.dg 4294967296 (x (i + 1)).n).length (ca (i + 1))) (.int .i64 (x (i + 1)).e)
        have bel3 := below_set3 bel2 (b := P) (by omega) (.bool (x (i + 1)).s) (.slice (ao (i + 1)) (Dg.dg 4294967296 (x (i + 1)).n).length (ca (i + 1))) (.int .i64 (x (i + 1)).e)
        obtain ⟨-, ⟨q0, q1, q2, q3, q4, q5⟩, -⟩ := id lp3
        obtain ⟨-, ⟨s0, s1, s2⟩, -⟩ := id r3
        clear lp2 lk2 r2 bel2
        go_wp2_with fail
        refine (HHC.out (i + 1) (hiI x i) _ hlt (by omega) bel3).mono ?_
        rintro z w4 ⟨rfl, b4⟩
        have bel4 := below_trans bel3 b4
        have lp4 := lp3.later b4
        have lk4 := lk3.later b4
        have r4 := r3.later b4
        clear lp3 lk3 r3 bel3 b4 q0 q1 q2 q3 q4 q5 s0 s1 s2
        obtain ⟨-, ⟨t0, t1, t2⟩, -⟩ := id r4
        by_cases hd : 0 < cmpT (x (i + 1)) (x (hiI x i))
        · have hJ := hiI_pos hd
          generalize cmpT (x (i + 1)) (x (hiI x i)) = c2 at hd ⊢
          obtain ⟨hql, ⟨-, -, -, q0, q1, q2⟩, -, -, -, g0, g1, g2⟩ := id lp4
          have lp5 := loc6_hi lp4 (.bool (x (i + 1)).s) (.slice (ao (i + 1)) (Dg.dg 4294967296 (x (i + 1)).n).length (ca (i + 1))) (.int .i64 (x (i + 1)).e)
          have lk5 := lk4.apart3h (c := P) (by omega) (.bool (x (i + 1)).s) (.slice (ao (i + 1)) (Dg.dg 4294967296 (x (i + 1)).n).length (ca (i + 1))) (.int .i64 (x (i + 1)).e)
          have bel5 := below_set3h bel4 (b := P) (by omega) (.bool (x (i + 1)).s) (.slice (ao (i + 1)) (Dg.dg 4294967296 (x (i + 1)).n).length (ca (i + 1))) (.int .i64 (x (i + 1)).e)
          clear lp4 lk4 r4 bel4
          go_wp2
          go_roundw
          case rel => exact ⟨i + 1, by omega, by go_num, bel5, by rw [hI, hJ]; exact lp5, lk5⟩
          case measure => simp [intOf]; omega
        · have hJ := hiI_neg hd
          generalize cmpT (x (i + 1)) (x (hiI x i)) = c2 at hd ⊢
          clear r4
          go_wp2
          go_roundw
          case rel => exact ⟨i + 1, by omega, by go_num, bel4, by rw [hI, hJ]; exact lp4, lk4⟩
          case measure => simp [intOf]; omega
      · have hI := loI_neg hc
        generalize cmpT (x (i + 1)) (x (loI x i)) = c1 at hc ⊢
        obtain ⟨-, ⟨-, -, -, q0, q1, q2⟩, -⟩ := id lp2
        go_wp2_with fail
        refine (HHC.out (i + 1) (hiI x i) _ hlt (by omega) bel2).mono ?_
        rintro z w4 ⟨rfl, b4⟩
        have bel4 := below_trans bel2 b4
        have lp4 := Loc6.later lp2 b4
        have lk4 := lk2.later b4
        have r4 := r2.later b4
        clear lp2 lk2 r2 bel2 b4 q0 q1 q2
        obtain ⟨-, ⟨t0, t1, t2⟩, -⟩ := id r4
        by_cases hd : 0 < cmpT (x (i + 1)) (x (hiI x i))
        · have hJ := hiI_pos hd
          generalize cmpT (x (i + 1)) (x (hiI x i)) = c2 at hd ⊢
          obtain ⟨hql, ⟨-, -, -, q0, q1, q2⟩, -, -, -, g0, g1, g2⟩ := id lp4
          have lp5 := loc6_hi lp4 (.bool (x (i + 1)).s) (.slice (ao (i + 1)) (Dg.dg 4294967296 (x (i + 1)).n).length (ca (i + 1))) (.int .i64 (x (i + 1)).e)
          have lk5 := lk4.apart3h (c := P) (by omega) (.bool (x (i + 1)).s) (.slice (ao (i + 1)) (Dg.dg 4294967296 (x (i + 1)).n).length (ca (i + 1))) (.int .i64 (x (i + 1)).e)
          have bel5 := below_set3h bel4 (b := P) (by omega) (.bool (x (i + 1)).s) (.slice (ao (i + 1)) (Dg.dg 4294967296 (x (i + 1)).n).length (ca (i + 1))) (.int .i64 (x (i + 1)).e)
          clear lp4 lk4 r4 bel4
          go_wp2
          go_roundw
          case rel => exact ⟨i + 1, by omega, by go_num, bel5, by rw [hI, hJ]; exact lp5, lk5⟩
          case measure => simp [intOf]; omega
        · have hJ := hiI_neg hd
          generalize cmpT (x (i + 1)) (x (hiI x i)) = c2 at hd ⊢
          clear r4
          go_wp2
          go_roundw
          case rel => exact ⟨i + 1, by omega, by go_num, bel4, by rw [hI, hJ]; exact lp4, lk4⟩
          case measure => simp [intOf]; omega
    · have hmi : m - 1 = i := by omega
      rw [hmi]
      unfold EndsAt at lp
      unfold ARes
      obtain ⟨-, ⟨p0, p1, p2, p3, p4, p5⟩, -⟩ := id lp
      obtain ⟨hl, ⟨v0, v1, v2, v3, v4, v5⟩, f0, f1, f2, f3, f4, f5⟩ := id lk
      go_wp2
      obtain ⟨-, ⟨u0, u1, u2, u3, u4, u5⟩, -⟩ := loc6_set lk (.bool (x (loI x i)).s) (.slice (ao (loI x i)) (Dg.dg 4294967296 (x (loI x i)).n).length (ca (loI x i))) (.int .i64 (x (loI x i)).e) (.bool (x (hiI x i)).s) (.slice (ao (hiI x i)) (Dg.dg 4294967296 (x (hiI x i)).n).length (ca (hiI x i))) (.int .i64 (x (hiI x i)).e)
      have bb := below_set6 bel (show w.heap.size ≤ w.heap.size by omega) (.bool (x (loI x i)).s) (.slice (ao (loI x i)) (Dg.dg 4294967296 (x (loI x i)).n).length (ca (loI x i))) (.int .i64 (x (loI x i)).e) (.bool (x (hiI x i)).s) (.slice (ao (hiI x i)) (Dg.dg 4294967296 (x (hiI x i)).n).length (ca (hiI x i))) (.int .i64 (x (hiI x i)).e)
      refine bodyPost_ret (v := .agg #[.bool (x (loI x i)).s, .slice (ao (loI x i)) (Dg.dg 4294967296 (x (loI x i)).n).length (ca (loI x i)), .int .i64 (x (loI x i)).e, .bool (x (hiI x i)).s, .slice (ao (hiI x i)) (Dg.dg 4294967296 (x (hiI x i)).n).length (ca (hiI x i)), .int .i64 (x (hiI x i)).e]) (by simp [results, Tryz.results53, go_sem, u0, u1, u2, u3, u4, u5]) rfl ?_
      rw [hmi]
      exact ⟨rfl, bb⟩
end Go.Proofs.YtmjhlflemfkflaaGreatDoor
/-
  Spans: contracts of span.Cut, Short.
-/
namespace Go.Proofs.YtmjhlflemfkflaaGreatDoor
open Go.RowKit

/-- A span is handed back, wherever the digits of its ends lie. -/
def SRes (w : World) (l h : Trip) (z : Ending) (w' : World) : Prop :=
  ∃ p q, z = .returned (.agg #[.bool l.s, p, .int .i64 l.e, .bool h.s, q, .int .i64 h.e]) ∧ Rd w' .u32 p (Dg.dg 4294967296 l.n) ∧ Rd w' .u32 q (Dg.dg 4294967296 h.n) ∧ Below w.heap.size w w'

set_option maxRecDepth 100000 in
set_option maxHeartbeats 1600000 in
theorem spanCut_any (s : Bool) (ao : Option Addr) (ca la : Nat) (e : Int) (t : Bool) (bo : Option Addr) (cb lb : Nat) (f : Int) (n : Int) (x y : Trip) (w : World)
    (HL : ∀ w1, Below w.heap.size w w1 → Calls Tryz.prog 44 #[.agg #[.bool s, .slice ao la ca, .int .i64 e], .int .i64 n, .bool false] w1 (DVRes w1 x))
    (HH : ∀ w1, Below w.heap.size w w1 → Calls Tryz.prog 44 #[.agg #[.bool t, .slice bo lb cb, .int .i64 f], .int .i64 n, .bool true] w1 (DVRes w1 y)) :
    Calls Tryz.prog 54 #[.agg #[.bool s, .slice ao la ca, .int .i64 e, .bool t, .slice bo lb cb, .int .i64 f], .int .i64 n] w (SRes w x y) := by
  have H1 : Hid _ := HL
  have H2 : Hid _ := HH
  clear HL HH
  obtain ⟨xs, xn, xe⟩ := x
  obtain ⟨ys, yn, ye⟩ := y
  have l1 := (loc6_new w (.bool s) (.slice ao la ca) (.int .i64 e) (.bool t) (.slice bo lb cb) (.int .i64 f) 98).later (below_alloc _ (.cells #[.bool false, .slice none 0 0, .int .i64 0, .bool false, .slice none 0 0, .int .i64 0] 98))
  have k1 := loc6_new (w.alloc (.cells #[.bool s, .slice ao la ca, .int .i64 e, .bool t, .slice bo lb cb, .int .i64 f] 98)) (.bool false) (.slice none 0 0) (.int .i64 0) (.bool false) (.slice none 0 0) (.int .i64 0) 98
  have z1 := zb6_new (w.alloc (.cells #[.bool s, .slice ao la ca, .int .i64 e, .bool t, .slice bo lb cb, .int .i64 f] 98)) 98
  have b1 := below_trans (below_alloc w (.cells #[.bool s, .slice ao la ca, .int .i64 e, .bool t, .slice bo lb cb, .int .i64 f] 98)) (below_alloc _ (.cells #[.bool false, .slice none 0 0, .int .i64 0, .bool false, .slice none 0 0, .int .i64 0] 98))
  simp only [World.size_alloc] at k1 z1
  obtain ⟨W, hW⟩ : ∃ W, ((w.alloc (.cells #[.bool s, .slice ao la ca, .int .i64 e, .bool t, .slice bo lb cb, .int .i64 f] 98)).alloc (.cells #[.bool false, .slice none 0 0, .int .i64 0, .bool false, .slice none 0 0, .int .i64 0] 98)) = W := ⟨_, rfl⟩
  rw [hW] at l1 k1 z1 b1
  have bd : Below W.heap.size W W.drew := (Below.refl _ _).drew
  have l2 := l1.later bd
  have k2 := k1.later bd
  have z2 := z1.later bd
  have b02 := below_trans b1 bd
  rw [← hW] at l2 k2 z2 b02
  clear l1 k1 z1 b1 bd hW
  obtain ⟨-, ⟨c0, c1, c2, c3, c4, c5⟩, -⟩ := id l2
  have ne1 : w.heap.size + 1 ≠ w.heap.size := by omega
  have ne2 : w.heap.size ≠ w.heap.size + 1 := by omega
  go_enter Tryz.func54, Tryz.ntmps54
  go_wp2_with fail
  go_region_held3 (fun wq => wq.cell? ⟨w.heap.size, 0, none⟩ = some (.bool s) ∧ wq.cell? ⟨w.heap.size, 1, none⟩ = some (.slice ao la ca) ∧ wq.cell? ⟨w.heap.size, 2, none⟩ = some (.int .i64 e) ∧ wq.cell? ⟨w.heap.size, 3, none⟩ = some (.bool t) ∧ wq.cell? ⟨w.heap.size, 4, none⟩ = some (.slice bo lb cb) ∧ wq.cell? ⟨w.heap.size, 5, none⟩ = some (.int .i64 f)) (go_keep) (first
    | (go_at_call 44; have hgd := b02; clear hgd; refine (H1.out _ b02).mono ?_; rintro z w3 ⟨v3, rfl, r3, b3⟩; have l3 := l2.later b3; have k3 := k2.later b3; have z3 := z2.later b3; have b03 := below_trans b02 b3; obtain ⟨po, pc, hp⟩ := r3.shape; subst hp; obtain ⟨-, ⟨d0, d1, d2, d3, d4, d5⟩, -⟩ := id l3; clear b02)
    | (go_at_call 44; have hgd := b03; clear hgd; refine (H2.out _ b03).mono ?_; rintro z w4 ⟨v4, rfl, r4, b4⟩; have r34 := r3.later b4; have l4 := l3.later b4; have k4 := k3.later b4; have z4 := z3.later b4; have b04 := below_trans b03 b4; obtain ⟨qo, qc, hq⟩ := r4.shape; subst hq; obtain ⟨-, ⟨e0, e1, e2, e3, e4, e5⟩, -⟩ := id l4; obtain ⟨hl, ⟨v0, v1, v2, v3, v4, v5⟩, f0, f1, f2, f3, f4, f5⟩ := id k4; clear b03))
  all_goals go_wp2
  obtain ⟨-, ⟨u0, u1, u2, u3, u4, u5⟩, -⟩ := loc6_set k4 (.bool xs) (.slice po (Dg.dg 4294967296 xn).length pc) (.int .i64 xe) (.bool ys) (.slice qo (Dg.dg 4294967296 yn).length qc) (.int .i64 ye)
  have bb := below_set6 b04 (show w.heap.size ≤ w.heap.size + 1 by omega) (.bool xs) (.slice po (Dg.dg 4294967296 xn).length pc) (.int .i64 xe) (.bool ys) (.slice qo (Dg.dg 4294967296 yn).length qc) (.int .i64 ye)
  have r5 := z4.rd32 r34 (.bool xs) (.slice po (Dg.dg 4294967296 xn).length pc) (.int .i64 xe) (.bool ys) (.slice qo (Dg.dg 4294967296 yn).length qc) (.int .i64 ye)
  have r6 := z4.rd32 r4 (.bool xs) (.slice po (Dg.dg 4294967296 xn).length pc) (.int .i64 xe) (.bool ys) (.slice qo (Dg.dg 4294967296 yn).length qc) (.int .i64 ye)
  refine bodyPost_ret (v := .agg #[.bool xs, .slice po (Dg.dg 4294967296 xn).length pc, .int .i64 xe, .bool ys, .slice qo (Dg.dg 4294967296 yn).length qc, .int .i64 ye]) (by simp [results, Tryz.results54, go_sem, u0, u1, u2, u3, u4, u5]) rfl ?_
  exact ⟨_, _, rfl, r5, r6, bb⟩

theorem Own.apart6 {w : World} {base e b : Nat} {k : IntKind} {v : Value} {zs : List Nat} (h : Own w base e k v zs) (hb : b < base) (x0 x1 x2 x3 x4 x5 : Value) :
    Own ((((((w.setCell ⟨b, 0, none⟩ x0).setCell ⟨b, 1, none⟩ x1).setCell ⟨b, 2, none⟩ x2).setCell ⟨b, 3, none⟩ x3).setCell ⟨b, 4, none⟩ x4).setCell ⟨b, 5, none⟩ x5) base e k v zs :=
  (((((h.apart (grown_set w b 0 x0) hb).apart (grown_set _ b 1 x1) hb).apart (grown_set _ b 2 x2) hb).apart (grown_set _ b 3 x3) hb).apart (grown_set _ b 4 x4) hb).apart (grown_set _ b 5 x5) hb

/-- A ball of one's own and an error are handed back. -/
def BOwn (w : World) (r : Trip × Trip × Int) (e : Ending) (w' : World) : Prop :=
  ∃ p q, e = .returned (.tuple #[.agg #[.bool r.1.s, p, .int .i64 r.1.e, .bool r.2.1.s, q, .int .i64 r.2.1.e], .int .i64 r.2.2]) ∧ Own w' w.heap.size 76 .u32 p (Dg.dg 4294967296 r.1.n) ∧ Own w' w.heap.size 76 .u32 q (Dg.dg 4294967296 r.2.1.n) ∧ Below w.heap.size w w'

set_option maxRecDepth 100000 in
set_option maxHeartbeats 1600000 in
theorem spanShort_any (s : Bool) (ao : Option Addr) (ca la : Nat) (e : Int) (t : Bool) (bo : Option Addr) (cb lb : Nat) (f : Int) (r q : Trip × Int) (w : World)
    (HS : ∀ w1, Below w.heap.size w w1 → Calls Tryz.prog 45 #[.agg #[.bool s, .slice ao la ca, .int .i64 e]] w1 (DAns w1 r))
    (HT : ∀ w1, Below w.heap.size w w1 → Calls Tryz.prog 45 #[.agg #[.bool t, .slice bo lb cb, .int .i64 f]] w1 (DAns w1 q)) :
    Calls Tryz.prog 55 #[.agg #[.bool s, .slice ao la ca, .int .i64 e, .bool t, .slice bo lb cb, .int .i64 f]] w (BOwn w (ballR r q)) := by
  have H1 : Hid _ := HS
  have H2 : Hid _ := HT
  clear HS HT
  obtain ⟨⟨rs, rn, re⟩, c⟩ := r
  have l1 := (loc6_new w (.bool s) (.slice ao la ca) (.int .i64 e) (.bool t) (.slice bo lb cb) (.int .i64 f) 98).later (below_alloc _ (.cells #[.bool false, .slice none 0 0, .int .i64 0, .bool false, .slice none 0 0, .int .i64 0] 27))
  have k1 := loc6_new (w.alloc (.cells #[.bool s, .slice ao la ca, .int .i64 e, .bool t, .slice bo lb cb, .int .i64 f] 98)) (.bool false) (.slice none 0 0) (.int .i64 0) (.bool false) (.slice none 0 0) (.int .i64 0) 27
  have b1 := below_trans (below_alloc w (.cells #[.bool s, .slice ao la ca, .int .i64 e, .bool t, .slice bo lb cb, .int .i64 f] 98)) (below_alloc _ (.cells #[.bool false, .slice none 0 0, .int .i64 0, .bool false, .slice none 0 0, .int .i64 0] 27))
  simp only [World.size_alloc] at k1
  obtain ⟨-, ⟨c0, c1, c2, c3, c4, c5⟩, -⟩ := id l1
  go_enter Tryz.func55, Tryz.ntmps55
  go_wp2_with fail
  refine (H1.out _ b1).mono ?_
  rintro z w4 ⟨v4, rfl, o4, b4⟩
  have b04 := below_trans b1 b4
  have q4 := l1.later b4
  have k4 := k1.later b4
  have o4 := o4.lower (show w.heap.size + 2 ≤ _ from by have := k1.1; omega)
  clear b4 l1 k1 b1 c0 c1 c2 c3 c4 c5
  obtain ⟨ao4, cp4, h4⟩ := o4.rd.shape
  subst h4
  simp only at o4 ⊢
  have b5 := below_alloc w4 (.cells #[.bool rs, .slice ao4 (Dg.dg 4294967296 rn).length cp4, .int .i64 re] 25)
  have a5 := loc_new w4 (.bool rs) (.slice ao4 (Dg.dg 4294967296 rn).length cp4) (.int .i64 re) 25
  have b05 := below_trans b04 b5
  have q5 := q4.later b5
  have k5 := k4.later b5
  have o5 := o4.later b5
  clear b04 q4 k4 b5 o4
  obtain ⟨-, ⟨-, -, -, p3, p4, p5⟩, -⟩ := id q5
  by_cases hc : c = 0
  · subst hc
    obtain ⟨⟨qs, qn, qe⟩, d⟩ := q
    go_wp2_with fail
    refine (H2.out _ b05).mono ?_
    rintro z w7 ⟨v7, rfl, o7, b7⟩
    have b07 := below_trans b05 b7
    have a7 := a5.later b7
    have k7 := k5.later b7
    have o67 := o5.later b7
    have o7 := o7.lower (show w.heap.size + 2 ≤ _ from by have := k5.1; omega)
    clear b05 a5 k5 q5 b7 o5 p3 p4 p5
    obtain ⟨ao7, cp7, h7⟩ := o7.rd.shape
    subst h7
    simp only at o7 ⊢
    have b8 := below_alloc w7 (.cells #[.bool qs, .slice ao7 (Dg.dg 4294967296 qn).length cp7, .int .i64 qe] 25)
    have e8 := loc_new w7 (.bool qs) (.slice ao7 (Dg.dg 4294967296 qn).length cp7) (.int .i64 qe) 25
    have bX := below_trans b07 b8
    have a8 := a7.later b8
    have kX := k7.later b8
    have o68 := o67.later b8
    have o78 := o7.later b8
    clear b07 a7 k7 b8 o67 o7
    by_cases hd : d = 0
    · subst hd
      have hR : ballR (⟨rs, rn, re⟩, 0) (⟨qs, qn, qe⟩, 0) = (⟨rs, rn, re⟩, ⟨qs, qn, qe⟩, 0) := by simp [ballR]
      obtain ⟨-, ⟨i0, i1, i2⟩, -⟩ := id a8
      obtain ⟨-, ⟨j0, j1, j2⟩, -⟩ := id e8
      obtain ⟨hl, ⟨v0, v1, v2, v3, v4, v5⟩, f0, f1, f2, f3, f4, f5⟩ := id kX
      go_wp2
      obtain ⟨-, ⟨u0, u1, u2, u3, u4, u5⟩, -⟩ := loc6_set kX (.bool rs) (.slice ao4 (Dg.dg 4294967296 rn).length cp4) (.int .i64 re) (.bool qs) (.slice ao7 (Dg.dg 4294967296 qn).length cp7) (.int .i64 qe)
      have bb := below_set6 bX (show w.heap.size ≤ w.heap.size + 1 by omega) (.bool rs) (.slice ao4 (Dg.dg 4294967296 rn).length cp4) (.int .i64 re) (.bool qs) (.slice ao7 (Dg.dg 4294967296 qn).length cp7) (.int .i64 qe)
      refine bodyPost_ret (v := .tuple #[.agg #[.bool rs, .slice ao4 (Dg.dg 4294967296 rn).length cp4, .int .i64 re, .bool qs, .slice ao7 (Dg.dg 4294967296 qn).length cp7, .int .i64 qe], .int .i64 0]) (by simp [results, Tryz.results55, go_sem, u0, u1, u2, u3, u4, u5]) rfl ?_
      try rw [hR]
      exact ⟨_, _, rfl, (o68.apart6 (by omega) _ _ _ _ _ _).lower (by omega), (o78.apart6 (by omega) _ _ _ _ _ _).lower (by omega), bb⟩
    · have hR : ballR (⟨rs, rn, re⟩, 0) (⟨qs, qn, qe⟩, d) = (⟨false, 0, 0⟩, ⟨false, 0, 0⟩, d) := by simp [ballR, hd]
      obtain ⟨hl, ⟨v0, v1, v2, v3, v4, v5⟩, f0, f1, f2, f3, f4, f5⟩ := id kX
      go_wp2
      obtain ⟨-, ⟨u0, u1, u2, u3, u4, u5⟩, -⟩ := loc6_set kX (.bool false) (.slice none 0 0) (.int .i64 0) (.bool false) (.slice none 0 0) (.int .i64 0)
      have bb := below_set6 bX (show w.heap.size ≤ w.heap.size + 1 by omega) (.bool false) (.slice none 0 0) (.int .i64 0) (.bool false) (.slice none 0 0) (.int .i64 0)
      refine bodyPost_ret (v := .tuple #[.agg #[.bool false, .slice none 0 0, .int .i64 0, .bool false, .slice none 0 0, .int .i64 0], .int .i64 d]) (by simp [results, Tryz.results55, go_sem, u0, u1, u2, u3, u4, u5]) rfl ?_
      try rw [hR]
      exact ⟨_, _, rfl, own_nil _ _ _ _, own_nil _ _ _ _, bb⟩
  · have hR : ballR (⟨rs, rn, re⟩, c) q = (⟨false, 0, 0⟩, ⟨false, 0, 0⟩, c) := by simp [ballR, hc]
    have kX := k5
    have bX := b05
    obtain ⟨hl, ⟨v0, v1, v2, v3, v4, v5⟩, f0, f1, f2, f3, f4, f5⟩ := id kX
    go_wp2
    obtain ⟨-, ⟨u0, u1, u2, u3, u4, u5⟩, -⟩ := loc6_set kX (.bool false) (.slice none 0 0) (.int .i64 0) (.bool false) (.slice none 0 0) (.int .i64 0)
    have bb := below_set6 bX (show w.heap.size ≤ w.heap.size + 1 by omega) (.bool false) (.slice none 0 0) (.int .i64 0) (.bool false) (.slice none 0 0) (.int .i64 0)
    refine bodyPost_ret (v := .tuple #[.agg #[.bool false, .slice none 0 0, .int .i64 0, .bool false, .slice none 0 0, .int .i64 0], .int .i64 c]) (by simp [results, Tryz.results55, go_sem, u0, u1, u2, u3, u4, u5]) rfl ?_
    try rw [hR]
    exact ⟨_, _, rfl, own_nil _ _ _ _, own_nil _ _ _ _, bb⟩
end Go.Proofs.YtmjhlflemfkflaaGreatDoor
/-
  Balls: contract of ball.least.
-/
namespace Go.Proofs.YtmjhlflemfkflaaGreatDoor
open Go.RowKit

set_option maxRecDepth 100000 in
set_option maxHeartbeats 1600000 in
theorem bleast_any (n : Int) (b : Nat) (m : Nat) (x : Nat → Trip) (ao : Nat → Option Addr) (ca : Nat → Nat) (w : World) (hm : 2 ≤ m) (hm2 : m ≤ 4) (hb : b < w.heap.size)
    (h0 : ∀ j, j < m → w.cell? ⟨b, 3 * j, none⟩ = some (.bool (x j).s)) (h1 : ∀ j, j < m → w.cell? ⟨b, 3 * j + 1, none⟩ = some (.slice (ao j) (Dg.dg 4294967296 (x j).n).length (ca j))) (h2 : ∀ j, j < m → w.cell? ⟨b, 3 * j + 2, none⟩ = some (.int .i64 (x j).e))
    (HC : ∀ j k w1, j < m → k < m → Below w.heap.size w w1 → Calls Tryz.prog 99 #[.agg #[.bool (x j).s, .slice (ao j) (Dg.dg 4294967296 (x j).n).length (ca j), .int .i64 (x j).e], .agg #[.bool (x k).s, .slice (ao k) (Dg.dg 4294967296 (x k).n).length (ca k), .int .i64 (x k).e]] w1 fun z w' => z = .returned (.int .i64 (cmpT (x j) (x k))) ∧ Below w1.heap.size w1 w')
    (HU : ∀ j up w1, j < m → Below w.heap.size w w1 → Calls Tryz.prog 44 #[.agg #[.bool (x j).s, .slice (ao j) (Dg.dg 4294967296 (x j).n).length (ca j), .int .i64 (x j).e], .int .i64 n, .bool up] w1 (DVRes w1 (cutT (x j) n up)))
    (HS : ∀ j up v w1, j < m → Below w.heap.size w w1 → Dv w1 v (cutT (x j) n up) → Calls Tryz.prog 45 #[v] w1 (DAns w1 (shortT (cutT (x j) n up)))) :
    Calls Tryz.prog 27 #[.int .i64 n, .slice (some ⟨b, 0, none⟩) m m] w (BOwn w (ballR (shortT (cutT (loT x (m - 1)) n false)) (shortT (cutT (hiT x (m - 1)) n true)))) := by
  have hl1 := loI_le x (m - 1)
  have hl2 := hiI_le x (m - 1)
  have HA : Hid (∀ w1, Below w.heap.size w w1 → Calls Tryz.prog 53 #[.slice (some ⟨b, 0, none⟩) m m] w1 (ARes w1 x ao ca (loI x (m - 1)) (hiI x (m - 1)))) := fun w1 b1 =>
    spanAround_any b m x ao ca w1 hm hm2 (Nat.lt_of_lt_of_le hb b1.size) (fun j hj => cell_later b1 (h0 j hj)) (fun j hj => cell_later b1 (h1 j hj)) (fun j hj => cell_later b1 (h2 j hj)) (fun j k w2 hj hk b2 => HC j k w2 hj hk (below_trans b1 b2))
  have HK : Hid (∀ w1, Below w.heap.size w w1 → Calls Tryz.prog 54 #[.agg #[.bool (x (loI x (m - 1))).s, .slice (ao (loI x (m - 1))) (Dg.dg 4294967296 (x (loI x (m - 1))).n).length (ca (loI x (m - 1))), .int .i64 (x (loI x (m - 1))).e, .bool (x (hiI x (m - 1))).s, .slice (ao (hiI x (m - 1))) (Dg.dg 4294967296 (x (hiI x (m - 1))).n).length (ca (hiI x (m - 1))), .int .i64 (x (hiI x (m - 1))).e], .int .i64 n] w1 (SRes w1 (cutT (loT x (m - 1)) n false) (cutT (hiT x (m - 1)) n true))) := fun w1 b1 =>
    spanCut_any _ _ _ _ _ _ _ _ _ _ n _ _ w1 (fun w2 b2 => HU (loI x (m - 1)) false w2 (by omega) (below_trans b1 b2)) (fun w2 b2 => HU (hiI x (m - 1)) true w2 (by omega) (below_trans b1 b2))
  have HT : Hid (∀ p q w1, Below w.heap.size w w1 → Rd w1 .u32 p (Dg.dg 4294967296 (cutT (loT x (m - 1)) n false).n) → Rd w1 .u32 q (Dg.dg 4294967296 (cutT (hiT x (m - 1)) n true).n) → Calls Tryz.prog 55 #[.agg #[.bool (cutT (loT x (m - 1)) n false).s, p, .int .i64 (cutT (loT x (m - 1)) n false).e, .bool (cutT (hiT x (m - 1)) n true).s, q, .int .i64 (cutT (hiT x (m - 1)) n true).e]] w1 (BOwn w1 (ballR (shortT (cutT (loT x (m - 1)) n false)) (shortT (cutT (hiT x (m - 1)) n true))))) := fun p q w1 b1 rp rq => by
    obtain ⟨po, pc, hp⟩ := rp.shape
    obtain ⟨qo, qc, hq⟩ := rq.shape
    subst hp
    subst hq
    exact spanShort_any _ _ _ _ _ _ _ _ _ _ _ _ w1 (fun w2 b2 => HS (loI x (m - 1)) false _ w2 (by omega) (below_trans b1 b2) ⟨_, rfl, rp.later b2⟩) (fun w2 b2 => HS (hiI x (m - 1)) true _ w2 (by omega) (below_trans b1 b2) ⟨_, rfl, rq.later b2⟩)
  clear h0 h1 h2 HC HU HS hl1 hl2
  obtain ⟨R, hR⟩ : ∃ R, ballR (shortT (cutT (loT x (m - 1)) n false)) (shortT (cutT (hiT x (m - 1)) n true)) = R := ⟨_, rfl⟩
  rw [hR] at HT ⊢
  obtain ⟨⟨ls, ln, le⟩, hL⟩ : ∃ L, cutT (loT x (m - 1)) n false = L := ⟨_, rfl⟩
  obtain ⟨⟨hs, hn, he⟩, hH⟩ : ∃ L, cutT (hiT x (m - 1)) n true = L := ⟨_, rfl⟩
  rw [hL, hH] at HK HT
  obtain ⟨⟨rs, rn, re⟩, ⟨qs, qn, qe⟩, rc⟩ := R
  clear hR hL hH
  have k1 := loc6_new w (.bool false) (.slice none 0 0) (.int .i64 0) (.bool false) (.slice none 0 0) (.int .i64 0) 27
  have b1 := below_alloc w (.cells #[.bool false, .slice none 0 0, .int .i64 0, .bool false, .slice none 0 0, .int .i64 0] 27)
  go_enter Tryz.func27, Tryz.ntmps27
  go_wp2_with fail
  refine (HA.out _ b1).mono ?_
  rintro z w2 ⟨rfl, b2⟩
  have b02 := below_trans b1 b2
  go_wp2_with fail
  refine (HK.out _ b02).mono ?_
  rintro z w3 ⟨p, q, rfl, rp, rq, b3⟩
  have b03 := below_trans b02 b3
  go_wp2_with fail
  refine (HT.out p q _ b03 rp rq).mono ?_
  rintro z w5 ⟨pp, qq, rfl, op, oq, b5⟩
  have b05 := below_trans b03 b5
  have k5 := ((k1.later b2).later b3).later b5
  have hlt : w.heap.size < w3.heap.size := ((k1.later b2).later b3).1
  obtain ⟨po, pc, hp⟩ := op.rd.shape
  subst hp
  obtain ⟨qo, qc, hq⟩ := oq.rd.shape
  subst hq
  obtain ⟨hl, ⟨g0, g1, g2, g3, g4, g5⟩, f0, f1, f2, f3, f4, f5⟩ := id k5
  go_wp2
  obtain ⟨-, ⟨u0, u1, u2, u3, u4, u5⟩, -⟩ := loc6_set k5 (.bool rs) (.slice po (Dg.dg 4294967296 rn).length pc) (.int .i64 re) (.bool qs) (.slice qo (Dg.dg 4294967296 qn).length qc) (.int .i64 qe)
  have bb := below_set6 b05 (show w.heap.size ≤ w.heap.size by omega) (.bool rs) (.slice po (Dg.dg 4294967296 rn).length pc) (.int .i64 re) (.bool qs) (.slice qo (Dg.dg 4294967296 qn).length qc) (.int .i64 qe)
  refine bodyPost_ret (v := .tuple #[.agg #[.bool rs, .slice po (Dg.dg 4294967296 rn).length pc, .int .i64 re, .bool qs, .slice qo (Dg.dg 4294967296 qn).length qc, .int .i64 qe], .int .i64 rc]) (by simp [results, Tryz.results27, go_sem, u0, u1, u2, u3, u4, u5]) rfl ?_
  exact ⟨_, _, rfl, ((op.apart6 hlt _ _ _ _ _ _).lower (by omega)), ((oq.apart6 hlt _ _ _ _ _ _).lower (by omega)), bb⟩
end Go.Proofs.YtmjhlflemfkflaaGreatDoor

/-
  Grids: the walks of the reference's InGrid, and of onGrid.
-/
import Derived.Test.YtmjhlflemfkflaaDoorGm3
import Derived.Test.YtmjhlflemfkflaaDoorGr9
import Derived.Test.YtmjhlflemfkflaaDoorGr13
import Derived.Test.YtmjhlflemfkflaaDoorDe
import Derived.Test.YtmjhlflemfkflaaDoorLk2
import Derived.Deep.Cut
namespace Go.Proofs.YtmjhlflemfkflaaDoor
open Go.RowKit

set_option maxRecDepth 100000 in
set_option maxHeartbeats 6400000 in
theorem inGridW (R D L G : Int) (gr s : Bool) (ao : Option Addr) (la ca : Nat) (e wd bl a1 a2 k : Int) (res : Bool) (w : World)
    (hla : ((la : Int) == 0) = false) (_hne : (wd == 0) = false) (hne2 : ¬wd = 0)
    (U1 : IntKind.i64.wrap (wd * L) = wd * L) (U2 : IntKind.i64.wrap (G + D) = G + D) (U3 : IntKind.i64.wrap (wd * (G + D)) = wd * (G + D)) (U4 : IntKind.i64.wrap (e + bl) = e + bl) (U5 : IntKind.i64.wrap (e + bl - 1) = e + bl - 1) (U6 : IntKind.i64.wrap (e + bl - 1 + 80000) = e + bl - 1 + 80000)
    (Q1 : (e + bl - 1 + 80000).tdiv wd = a1) (Q2 : (80000 : Int).tdiv wd = a2) (U7 : IntKind.i64.wrap a1 = a1) (U8 : IntKind.i64.wrap a2 = a2) (U9 : IntKind.i64.wrap (a1 - a2) = a1 - a2) (UA : IntKind.i64.wrap (a1 - a2 - D) = a1 - a2 - D) (UB : IntKind.i64.wrap (a1 - a2 - D + 1) = k) (UC : IntKind.i64.wrap (wd * k) = wd * k)
    (R1 : e < wd * L → res = false) (R2 : ¬e < wd * L → wd * (G + D) < e + bl → res = false) (R3 : ¬e < wd * L → ¬wd * (G + D) < e + bl → k < L → gr = false → res = false) (R4 : ¬e < wd * L → ¬wd * (G + D) < e + bl → k < L → gr = true → res = true)
    (R5 : ¬e < wd * L → ¬wd * (G + D) < e + bl → ¬k < L → ¬e < wd * k → res = true) (R6 : ¬e < wd * L → ¬wd * (G + D) < e + bl → ¬k < L → e < wd * k → res = false)
    (HWI : ∀ w1, Calls Tryd.prog 20 #[.agg #[.int .i64 R, .int .i64 D, .int .i64 L, .int .i64 G, .bool gr]] w1 fun z w' => z = .returned (.int .i64 wd) ∧ Below w1.heap.size w1 w')
    (HLN : ∀ w1, Below w.heap.size w w1 → Calls Tryd.prog 62 #[.slice ao la ca] w1 fun z w' => z = .returned (.int .i64 bl) ∧ Below w1.heap.size w1 w') :
    Calls Tryd.prog 25 #[.agg #[.bool s, .slice ao la ca, .int .i64 e], .agg #[.int .i64 R, .int .i64 D, .int .i64 L, .int .i64 G, .bool gr]] w fun z w' => z = .returned (.bool res) ∧ Below w.heap.size w w' := by
  replace R1 : Hid _ := R1
  replace R2 : Hid _ := R2
  replace R3 : Hid _ := R3
  replace R4 : Hid _ := R4
  replace R5 : Hid _ := R5
  replace R6 : Hid _ := R6
  replace HWI : Hid _ := HWI
  replace HLN : Hid _ := HLN
  have b1 := below_trans (below_alloc w (.cells #[.bool s, .slice ao la ca, .int .i64 e] 46)) (below_alloc _ (.cells #[.int .i64 R, .int .i64 D, .int .i64 L, .int .i64 G, .bool gr] 39))
  have q1 := (locE_new w [.bool s, .slice ao la ca, .int .i64 e] 46).later (below_alloc _ (.cells #[.int .i64 R, .int .i64 D, .int .i64 L, .int .i64 G, .bool gr] 39))
  have g1 := locE_new (w.alloc (.cells #[.bool s, .slice ao la ca, .int .i64 e] 46)) [.int .i64 R, .int .i64 D, .int .i64 L, .int .i64 G, .bool gr] 39
  simp only [World.size_alloc] at g1
  by_cases h1 : e < wd * L
  · have hr := R1.out h1
    clear R1 R2 R3 R4 R5 R6
    subst hr
    have x0 := g1.cell 0 rfl
    have x1 := g1.cell 1 rfl
    have x2 := g1.cell 2 rfl
    have x3 := g1.cell 3 rfl
    have x4 := g1.cell 4 rfl
    have y0 := q1.cell 0 rfl
    have y1 := q1.cell 1 rfl
    have y2 := q1.cell 2 rfl
    go_enter Tryd.func25, Tryd.ntmps25
    go_wp2_with fail
    refine (HWI.out _).mono ?_
    rintro z w2 ⟨rfl, bb2⟩
    clear x0 x1 x2 x3 x4 y0 y1 y2
    have g_2 := g1.later bb2
    have q_2 := q1.later bb2
    have b0_2 := below_trans b1 bb2
    clear g1 q1 b1 bb2
    have x0 := g_2.cell 0 rfl
    have x1 := g_2.cell 1 rfl
    have x2 := g_2.cell 2 rfl
    have x3 := g_2.cell 3 rfl
    have x4 := g_2.cell 4 rfl
    have zz2 := q_2.cell 2 rfl
    have bd_3 : Below w2.heap.size w2 w2.drew := (Below.refl _ _).drew
    have g_d := g_2.later bd_3
    have q_d := q_2.later bd_3
    have b_d := below_trans b0_2 bd_3
    have y0 := q_d.cell 0 rfl
    have y1 := q_d.cell 1 rfl
    have y2 := q_d.cell 2 rfl
    go_wp2_with fail
    go_region_held3 (fun wq => wq.cell? ⟨w.heap.size, 1, none⟩ = some (.slice ao la ca) ∧ wq.cell? ⟨w.heap.size, 2, none⟩ = some (.int .i64 e)) (go_keep) (first
      | (go_at_call 62; have hgd := b_d; clear hgd; refine (HLN.out _ b_d).mono ?_; rintro z wa ⟨rfl, bb_wa⟩; have b0_wa := below_trans b_d bb_wa; have g_wa := g_d.later bb_wa; have q_wa := q_d.later bb_wa; have ya0 := q_wa.cell 0 rfl; have ya1 := q_wa.cell 1 rfl; have ya2 := q_wa.cell 2 rfl; clear b_d))
    go_goals
    clear x0 x1 x2 x3 x4 y0 y1 y2 zz2 ya0 ya1 ya2
    have y0 := q_wa.cell 0 rfl
    have y1 := q_wa.cell 1 rfl
    have y2 := q_wa.cell 2 rfl
    go_wp2
    go_ret
    exact ⟨rfl, b0_wa⟩
  · have e1 : decide (e < wd * L) = false := decide_eq_false h1
    by_cases h2 : wd * (G + D) < e + bl
    · have hr := R2.out h1 h2
      clear R1 R2 R3 R4 R5 R6
      subst hr
      have x0 := g1.cell 0 rfl
      have x1 := g1.cell 1 rfl
      have x2 := g1.cell 2 rfl
      have x3 := g1.cell 3 rfl
      have x4 := g1.cell 4 rfl
      have y0 := q1.cell 0 rfl
      have y1 := q1.cell 1 rfl
      have y2 := q1.cell 2 rfl
      go_enter Tryd.func25, Tryd.ntmps25
      go_wp2_with fail
      refine (HWI.out _).mono ?_
      rintro z w2 ⟨rfl, bb2⟩
      clear x0 x1 x2 x3 x4 y0 y1 y2
      have g_2 := g1.later bb2
      have q_2 := q1.later bb2
      have b0_2 := below_trans b1 bb2
      clear g1 q1 b1 bb2
      have x0 := g_2.cell 0 rfl
      have x1 := g_2.cell 1 rfl
      have x2 := g_2.cell 2 rfl
      have x3 := g_2.cell 3 rfl
      have x4 := g_2.cell 4 rfl
      have zz2 := q_2.cell 2 rfl
      have bd_3 : Below w2.heap.size w2 w2.drew := (Below.refl _ _).drew
      have g_d := g_2.later bd_3
      have q_d := q_2.later bd_3
      have b_d := below_trans b0_2 bd_3
      have y0 := q_d.cell 0 rfl
      have y1 := q_d.cell 1 rfl
      have y2 := q_d.cell 2 rfl
      go_wp2_with fail
      go_region_held3 (fun wq => wq.cell? ⟨w.heap.size, 1, none⟩ = some (.slice ao la ca) ∧ wq.cell? ⟨w.heap.size, 2, none⟩ = some (.int .i64 e)) (go_keep) (first
        | (go_at_call 62; have hgd := b_d; clear hgd; refine (HLN.out _ b_d).mono ?_; rintro z wa ⟨rfl, bb_wa⟩; have b0_wa := below_trans b_d bb_wa; have g_wa := g_d.later bb_wa; have q_wa := q_d.later bb_wa; have ya0 := q_wa.cell 0 rfl; have ya1 := q_wa.cell 1 rfl; have ya2 := q_wa.cell 2 rfl; clear b_d))
      go_goals
      clear x0 x1 x2 x3 x4 y0 y1 y2 zz2 ya0 ya1 ya2
      have y0 := q_wa.cell 0 rfl
      have y1 := q_wa.cell 1 rfl
      have y2 := q_wa.cell 2 rfl
      go_wp2
      go_ret
      exact ⟨rfl, b0_wa⟩
    · have e2 : decide (wd * (G + D) < e + bl) = false := decide_eq_false h2
      by_cases h3 : k < L
      · cases gr
        · have hr := R3.out h1 h2 h3 rfl
          clear R1 R2 R3 R4 R5 R6
          subst hr
          have x0 := g1.cell 0 rfl
          have x1 := g1.cell 1 rfl
          have x2 := g1.cell 2 rfl
          have x3 := g1.cell 3 rfl
          have x4 := g1.cell 4 rfl
          have y0 := q1.cell 0 rfl
          have y1 := q1.cell 1 rfl
          have y2 := q1.cell 2 rfl
          go_enter Tryd.func25, Tryd.ntmps25
          go_wp2_with fail
          refine (HWI.out _).mono ?_
          rintro z w2 ⟨rfl, bb2⟩
          clear x0 x1 x2 x3 x4 y0 y1 y2
          have g_2 := g1.later bb2
          have q_2 := q1.later bb2
          have b0_2 := below_trans b1 bb2
          clear g1 q1 b1 bb2
          have x0 := g_2.cell 0 rfl
          have x1 := g_2.cell 1 rfl
          have x2 := g_2.cell 2 rfl
          have x3 := g_2.cell 3 rfl
          have x4 := g_2.cell 4 rfl
          have zz2 := q_2.cell 2 rfl
          have bd_3 : Below w2.heap.size w2 w2.drew := (Below.refl _ _).drew
          have g_d := g_2.later bd_3
          have q_d := q_2.later bd_3
          have b_d := below_trans b0_2 bd_3
          have y0 := q_d.cell 0 rfl
          have y1 := q_d.cell 1 rfl
          have y2 := q_d.cell 2 rfl
          go_wp2_with fail
          go_region_held3 (fun wq => wq.cell? ⟨w.heap.size, 1, none⟩ = some (.slice ao la ca) ∧ wq.cell? ⟨w.heap.size, 2, none⟩ = some (.int .i64 e)) (go_keep) (first
            | (go_at_call 62; have hgd := b_d; clear hgd; refine (HLN.out _ b_d).mono ?_; rintro z wa ⟨rfl, bb_wa⟩; have b0_wa := below_trans b_d bb_wa; have g_wa := g_d.later bb_wa; have q_wa := q_d.later bb_wa; have ya0 := q_wa.cell 0 rfl; have ya1 := q_wa.cell 1 rfl; have ya2 := q_wa.cell 2 rfl; clear b_d))
          go_goals
          clear x0 x1 x2 x3 x4 y0 y1 y2 zz2 ya0 ya1 ya2
          have x0 := g_wa.cell 0 rfl
          have x1 := g_wa.cell 1 rfl
          have x2 := g_wa.cell 2 rfl
          have x3 := g_wa.cell 3 rfl
          have x4 := g_wa.cell 4 rfl
          have y0 := q_wa.cell 0 rfl
          have y1 := q_wa.cell 1 rfl
          have y2 := q_wa.cell 2 rfl
          have xd := (g_wa.later (Below.refl _ _).drew).cell 1 rfl
          go_wp2_with fail
          go_quiet (fail)
          clear xd x0 x1 x2 x3 x4 y0 y1 y2
          have g_21 := g_wa.later (below_drewN (Below.refl _ _) nq)
          have q_21 := q_wa.later (below_drewN (Below.refl _ _) nq)
          have b0_21 := below_trans b0_wa (below_drewN (Below.refl _ _) nq)
          clear g_wa q_wa b0_wa
          have x0 := g_21.cell 0 rfl
          have x1 := g_21.cell 1 rfl
          have x2 := g_21.cell 2 rfl
          have x3 := g_21.cell 3 rfl
          have x4 := g_21.cell 4 rfl
          have y0 := q_21.cell 0 rfl
          have y1 := q_21.cell 1 rfl
          have y2 := q_21.cell 2 rfl
          go_wp2
          go_ret
          exact ⟨rfl, b0_21⟩
        · have hr := R4.out h1 h2 h3 rfl
          clear R1 R2 R3 R4 R5 R6
          subst hr
          have e4 : wd * L ≤ e := by omega
          have x0 := g1.cell 0 rfl
          have x1 := g1.cell 1 rfl
          have x2 := g1.cell 2 rfl
          have x3 := g1.cell 3 rfl
          have x4 := g1.cell 4 rfl
          have y0 := q1.cell 0 rfl
          have y1 := q1.cell 1 rfl
          have y2 := q1.cell 2 rfl
          go_enter Tryd.func25, Tryd.ntmps25
          go_wp2_with fail
          refine (HWI.out _).mono ?_
          rintro z w2 ⟨rfl, bb2⟩
          clear x0 x1 x2 x3 x4 y0 y1 y2
          have g_2 := g1.later bb2
          have q_2 := q1.later bb2
          have b0_2 := below_trans b1 bb2
          clear g1 q1 b1 bb2
          have x0 := g_2.cell 0 rfl
          have x1 := g_2.cell 1 rfl
          have x2 := g_2.cell 2 rfl
          have x3 := g_2.cell 3 rfl
          have x4 := g_2.cell 4 rfl
          have zz2 := q_2.cell 2 rfl
          have bd_3 : Below w2.heap.size w2 w2.drew := (Below.refl _ _).drew
          have g_d := g_2.later bd_3
          have q_d := q_2.later bd_3
          have b_d := below_trans b0_2 bd_3
          have y0 := q_d.cell 0 rfl
          have y1 := q_d.cell 1 rfl
          have y2 := q_d.cell 2 rfl
          go_wp2_with fail
          go_region_held3 (fun wq => wq.cell? ⟨w.heap.size, 1, none⟩ = some (.slice ao la ca) ∧ wq.cell? ⟨w.heap.size, 2, none⟩ = some (.int .i64 e)) (go_keep) (first
            | (go_at_call 62; have hgd := b_d; clear hgd; refine (HLN.out _ b_d).mono ?_; rintro z wa ⟨rfl, bb_wa⟩; have b0_wa := below_trans b_d bb_wa; have g_wa := g_d.later bb_wa; have q_wa := q_d.later bb_wa; have ya0 := q_wa.cell 0 rfl; have ya1 := q_wa.cell 1 rfl; have ya2 := q_wa.cell 2 rfl; clear b_d))
          go_goals
          clear x0 x1 x2 x3 x4 y0 y1 y2 zz2 ya0 ya1 ya2
          have x0 := g_wa.cell 0 rfl
          have x1 := g_wa.cell 1 rfl
          have x2 := g_wa.cell 2 rfl
          have x3 := g_wa.cell 3 rfl
          have x4 := g_wa.cell 4 rfl
          have y0 := q_wa.cell 0 rfl
          have y1 := q_wa.cell 1 rfl
          have y2 := q_wa.cell 2 rfl
          have xd := (g_wa.later (Below.refl _ _).drew).cell 1 rfl
          go_wp2_with fail
          go_quiet (fail)
          clear xd x0 x1 x2 x3 x4 y0 y1 y2
          have g_21 := g_wa.later (below_drewN (Below.refl _ _) nq)
          have q_21 := q_wa.later (below_drewN (Below.refl _ _) nq)
          have b0_21 := below_trans b0_wa (below_drewN (Below.refl _ _) nq)
          clear g_wa q_wa b0_wa
          have x0 := g_21.cell 0 rfl
          have x1 := g_21.cell 1 rfl
          have x2 := g_21.cell 2 rfl
          have x3 := g_21.cell 3 rfl
          have x4 := g_21.cell 4 rfl
          have y0 := q_21.cell 0 rfl
          have y1 := q_21.cell 1 rfl
          have y2 := q_21.cell 2 rfl
          go_wp2
          go_ret
          exact ⟨rfl, b0_21⟩
      · have e3 : decide (k < L) = false := decide_eq_false h3
        by_cases h4 : e < wd * k
        · have hr := R6.out h1 h2 h3 h4
          clear R1 R2 R3 R4 R5 R6
          subst hr
          have e5 : decide (wd * k ≤ e) = false := decide_eq_false (by omega)
          have x0 := g1.cell 0 rfl
          have x1 := g1.cell 1 rfl
          have x2 := g1.cell 2 rfl
          have x3 := g1.cell 3 rfl
          have x4 := g1.cell 4 rfl
          have y0 := q1.cell 0 rfl
          have y1 := q1.cell 1 rfl
          have y2 := q1.cell 2 rfl
          go_enter Tryd.func25, Tryd.ntmps25
          go_wp2_with fail
          refine (HWI.out _).mono ?_
          rintro z w2 ⟨rfl, bb2⟩
          clear x0 x1 x2 x3 x4 y0 y1 y2
          have g_2 := g1.later bb2
          have q_2 := q1.later bb2
          have b0_2 := below_trans b1 bb2
          clear g1 q1 b1 bb2
          have x0 := g_2.cell 0 rfl
          have x1 := g_2.cell 1 rfl
          have x2 := g_2.cell 2 rfl
          have x3 := g_2.cell 3 rfl
          have x4 := g_2.cell 4 rfl
          have zz2 := q_2.cell 2 rfl
          have bd_3 : Below w2.heap.size w2 w2.drew := (Below.refl _ _).drew
          have g_d := g_2.later bd_3
          have q_d := q_2.later bd_3
          have b_d := below_trans b0_2 bd_3
          have y0 := q_d.cell 0 rfl
          have y1 := q_d.cell 1 rfl
          have y2 := q_d.cell 2 rfl
          go_wp2_with fail
          go_region_held3 (fun wq => wq.cell? ⟨w.heap.size, 1, none⟩ = some (.slice ao la ca) ∧ wq.cell? ⟨w.heap.size, 2, none⟩ = some (.int .i64 e)) (go_keep) (first
            | (go_at_call 62; have hgd := b_d; clear hgd; refine (HLN.out _ b_d).mono ?_; rintro z wa ⟨rfl, bb_wa⟩; have b0_wa := below_trans b_d bb_wa; have g_wa := g_d.later bb_wa; have q_wa := q_d.later bb_wa; have ya0 := q_wa.cell 0 rfl; have ya1 := q_wa.cell 1 rfl; have ya2 := q_wa.cell 2 rfl; clear b_d))
          go_goals
          clear x0 x1 x2 x3 x4 y0 y1 y2 zz2 ya0 ya1 ya2
          have x0 := g_wa.cell 0 rfl
          have x1 := g_wa.cell 1 rfl
          have x2 := g_wa.cell 2 rfl
          have x3 := g_wa.cell 3 rfl
          have x4 := g_wa.cell 4 rfl
          have y0 := q_wa.cell 0 rfl
          have y1 := q_wa.cell 1 rfl
          have y2 := q_wa.cell 2 rfl
          have xd := (g_wa.later (Below.refl _ _).drew).cell 1 rfl
          go_wp2_with fail
          go_quiet (fail)
          clear xd x0 x1 x2 x3 x4 y0 y1 y2
          have g_21 := g_wa.later (below_drewN (Below.refl _ _) nq)
          have q_21 := q_wa.later (below_drewN (Below.refl _ _) nq)
          have b0_21 := below_trans b0_wa (below_drewN (Below.refl _ _) nq)
          clear g_wa q_wa b0_wa
          have x0 := g_21.cell 0 rfl
          have x1 := g_21.cell 1 rfl
          have x2 := g_21.cell 2 rfl
          have x3 := g_21.cell 3 rfl
          have x4 := g_21.cell 4 rfl
          have y0 := q_21.cell 0 rfl
          have y1 := q_21.cell 1 rfl
          have y2 := q_21.cell 2 rfl
          go_wp2
          go_ret
          exact ⟨rfl, b0_21⟩
        · have hr := R5.out h1 h2 h3 h4
          clear R1 R2 R3 R4 R5 R6
          subst hr
          have e5 : wd * k ≤ e := by omega
          have x0 := g1.cell 0 rfl
          have x1 := g1.cell 1 rfl
          have x2 := g1.cell 2 rfl
          have x3 := g1.cell 3 rfl
          have x4 := g1.cell 4 rfl
          have y0 := q1.cell 0 rfl
          have y1 := q1.cell 1 rfl
          have y2 := q1.cell 2 rfl
          go_enter Tryd.func25, Tryd.ntmps25
          go_wp2_with fail
          refine (HWI.out _).mono ?_
          rintro z w2 ⟨rfl, bb2⟩
          clear x0 x1 x2 x3 x4 y0 y1 y2
          have g_2 := g1.later bb2
          have q_2 := q1.later bb2
          have b0_2 := below_trans b1 bb2
          clear g1 q1 b1 bb2
          have x0 := g_2.cell 0 rfl
          have x1 := g_2.cell 1 rfl
          have x2 := g_2.cell 2 rfl
          have x3 := g_2.cell 3 rfl
          have x4 := g_2.cell 4 rfl
          have zz2 := q_2.cell 2 rfl
          have bd_3 : Below w2.heap.size w2 w2.drew := (Below.refl _ _).drew
          have g_d := g_2.later bd_3
          have q_d := q_2.later bd_3
          have b_d := below_trans b0_2 bd_3
          have y0 := q_d.cell 0 rfl
          have y1 := q_d.cell 1 rfl
          have y2 := q_d.cell 2 rfl
          go_wp2_with fail
          go_region_held3 (fun wq => wq.cell? ⟨w.heap.size, 1, none⟩ = some (.slice ao la ca) ∧ wq.cell? ⟨w.heap.size, 2, none⟩ = some (.int .i64 e)) (go_keep) (first
            | (go_at_call 62; have hgd := b_d; clear hgd; refine (HLN.out _ b_d).mono ?_; rintro z wa ⟨rfl, bb_wa⟩; have b0_wa := below_trans b_d bb_wa; have g_wa := g_d.later bb_wa; have q_wa := q_d.later bb_wa; have ya0 := q_wa.cell 0 rfl; have ya1 := q_wa.cell 1 rfl; have ya2 := q_wa.cell 2 rfl; clear b_d))
          go_goals
          clear x0 x1 x2 x3 x4 y0 y1 y2 zz2 ya0 ya1 ya2
          have x0 := g_wa.cell 0 rfl
          have x1 := g_wa.cell 1 rfl
          have x2 := g_wa.cell 2 rfl
          have x3 := g_wa.cell 3 rfl
          have x4 := g_wa.cell 4 rfl
          have y0 := q_wa.cell 0 rfl
          have y1 := q_wa.cell 1 rfl
          have y2 := q_wa.cell 2 rfl
          have xd := (g_wa.later (Below.refl _ _).drew).cell 1 rfl
          go_wp2_with fail
          go_quiet (fail)
          clear xd x0 x1 x2 x3 x4 y0 y1 y2
          have g_21 := g_wa.later (below_drewN (Below.refl _ _) nq)
          have q_21 := q_wa.later (below_drewN (Below.refl _ _) nq)
          have b0_21 := below_trans b0_wa (below_drewN (Below.refl _ _) nq)
          clear g_wa q_wa b0_wa
          have x0 := g_21.cell 0 rfl
          have x1 := g_21.cell 1 rfl
          have x2 := g_21.cell 2 rfl
          have x3 := g_21.cell 3 rfl
          have x4 := g_21.cell 4 rfl
          have y0 := q_21.cell 0 rfl
          have y1 := q_21.cell 1 rfl
          have y2 := q_21.cell 2 rfl
          go_wp2
          go_ret
          exact ⟨rfl, b0_21⟩

set_option maxRecDepth 100000 in
set_option maxHeartbeats 1600000 in
theorem inGrid_zero (R D L G : Int) (gr s : Bool) (ao : Option Addr) (ca : Nat) (e : Int) (w : World) :
    Calls Tryd.prog 25 #[.agg #[.bool s, .slice ao 0 ca, .int .i64 e], .agg #[.int .i64 R, .int .i64 D, .int .i64 L, .int .i64 G, .bool gr]] w fun z w' => z = .returned (.bool true) ∧ Below w.heap.size w w' := by
  have b1 := below_trans (below_alloc w (.cells #[.bool s, .slice ao 0 ca, .int .i64 e] 46)) (below_alloc _ (.cells #[.int .i64 R, .int .i64 D, .int .i64 L, .int .i64 G, .bool gr] 39))
  go_enter Tryd.func25, Tryd.ntmps25
  go_wp2
  go_ret
  exact ⟨rfl, b1⟩

/-- What is wrong with a number, or with a grid. -/
def onC (dc gc : Int) : Int := if dc = 0 then gc else dc

set_option maxRecDepth 100000 in
set_option maxHeartbeats 1600000 in
theorem onGrid_any (R D L G : Int) (gr s : Bool) (ao : Option Addr) (ca : Nat) (xs : List Nat) (e : Int) (w : World) (hr : Rd w .u32 (.slice ao xs.length ca) xs) :
    Calls Tryd.prog 24 #[.agg #[.bool s, .slice ao xs.length ca, .int .i64 e], .agg #[.int .i64 R, .int .i64 D, .int .i64 L, .int .i64 G, .bool gr]] w fun z w' => z = .returned (.int .i64 (onC (dchk xs e) (gridC R D L G))) ∧ Below w.heap.size w w' := by
  have HD : Hid (∀ w1, Below w.heap.size w w1 → Calls Tryd.prog 61 #[.agg #[.bool s, .slice ao xs.length ca, .int .i64 e]] w1 fun z w' => z = .returned (.int .i64 (dchk xs e)) ∧ Below w1.heap.size w1 w') := fun w1 b => refcheckDy_any s ao ca xs e w1 (hr.later b)
  have HG : Hid (∀ w1, Calls Tryd.prog 17 #[.agg #[.int .i64 R, .int .i64 D, .int .i64 L, .int .i64 G, .bool gr]] w1 fun z w' => z = .returned (.int .i64 (gridC R D L G)) ∧ Below w1.heap.size w1 w') := fun w1 => refGcheck_any R D L G gr w1
  obtain ⟨la, hla⟩ : ∃ l, xs.length = l := ⟨_, rfl⟩
  rw [hla] at HD ⊢
  obtain ⟨dc, hdc⟩ : ∃ l, dchk xs e = l := ⟨_, rfl⟩
  obtain ⟨gc, hgc⟩ : ∃ l, gridC R D L G = l := ⟨_, rfl⟩
  rw [hdc] at HD ⊢
  rw [hgc] at HG ⊢
  clear hla hdc hgc hr
  have b1 := below_trans (below_alloc w (.cells #[.bool s, .slice ao la ca, .int .i64 e] 25)) (below_alloc _ (.cells #[.int .i64 R, .int .i64 D, .int .i64 L, .int .i64 G, .bool gr] 39))
  have q1 := (locE_new w [.bool s, .slice ao la ca, .int .i64 e] 25).later (below_alloc _ (.cells #[.int .i64 R, .int .i64 D, .int .i64 L, .int .i64 G, .bool gr] 39))
  have g1 := locE_new (w.alloc (.cells #[.bool s, .slice ao la ca, .int .i64 e] 25)) [.int .i64 R, .int .i64 D, .int .i64 L, .int .i64 G, .bool gr] 39
  simp only [World.size_alloc] at g1
  unfold onC
  by_cases h : dc = 0
  · rw [if_pos h]
    subst h
    have y0 := q1.cell 0 rfl
    have y1 := q1.cell 1 rfl
    have y2 := q1.cell 2 rfl
    go_enter Tryd.func24, Tryd.ntmps24
    go_wp2_with fail
    refine (HD.out _ b1).mono ?_
    rintro z w2 ⟨rfl, bb2⟩
    clear y0 y1 y2
    have g_2 := g1.later bb2
    have q_2 := q1.later bb2
    have b0_2 := below_trans b1 bb2
    clear g1 q1 b1 bb2
    have x0 := g_2.cell 0 rfl
    have x1 := g_2.cell 1 rfl
    have x2 := g_2.cell 2 rfl
    have x3 := g_2.cell 3 rfl
    have x4 := g_2.cell 4 rfl
    go_wp2_with fail
    refine (HG.out _).mono ?_
    rintro z w3 ⟨rfl, bb3⟩
    have g_3 := g_2.later bb3
    have q_3 := q_2.later bb3
    have b0_3 := below_trans b0_2 bb3
    clear g_2 q_2 b0_2 bb3
    go_wp2
    go_ret
    exact ⟨rfl, b0_3⟩
  · rw [if_neg h]
    have hf : (dc == 0) = false := by simp [h]
    have y0 := q1.cell 0 rfl
    have y1 := q1.cell 1 rfl
    have y2 := q1.cell 2 rfl
    go_enter Tryd.func24, Tryd.ntmps24
    go_wp2_with fail
    refine (HD.out _ b1).mono ?_
    rintro z w2 ⟨rfl, bb2⟩
    clear y0 y1 y2
    have g_2 := g1.later bb2
    have q_2 := q1.later bb2
    have b0_2 := below_trans b1 bb2
    clear g1 q1 b1 bb2
    go_wp2
    go_ret
    exact ⟨rfl, b0_2⟩
end Go.Proofs.YtmjhlflemfkflaaDoor

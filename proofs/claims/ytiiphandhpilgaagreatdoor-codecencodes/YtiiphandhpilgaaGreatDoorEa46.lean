/-
  Texts laid together: Gh4, Gh5, Gh6, Gh7.
-/
import Derived.Deep.Cut
import Derived.Test.YtiiphandhpilgaaGreatDoorEa13
import Derived.Test.YtiiphandhpilgaaGreatDoorEa23
import Derived.Test.YtiiphandhpilgaaGreatDoorEa40
import Derived.Test.YtiiphandhpilgaaGreatDoorEa42
import Derived.Test.YtiiphandhpilgaaGreatDoorEa45
import Derived.Test.YtiiphandhpilgaaGreatDoorEa04
namespace Go.Proofs.YtiiphandhpilgaaGreatDoor
open Go.RowKit
set_option maxRecDepth 100000 in
set_option maxHeartbeats 6400000 in
theorem inGridW (R D L G : Int) (gr s : Bool) (ao : Option Addr) (la ca : Nat) (e wd bl a1 a2 k : Int) (res : Bool) (w : World)
    (hla : ((la : Int) == 0) = false) (_hne : (wd == 0) = false) (hne2 : ¬wd = 0)
    (U1 : IntKind.i64.wrap (wd * L) = wd * L) (U2 : IntKind.i64.wrap (G + D) = G + D) (U3 : IntKind.i64.wrap (wd * (G + D)) = wd * (G + D)) (U4 : IntKind.i64.wrap (e + bl) = e + bl) (U5 : IntKind.i64.wrap (e + bl - 1) = e + bl - 1) (U6 : IntKind.i64.wrap (e + bl - 1 + 80000) = e + bl - 1 + 80000)
    (Q1 : (e + bl - 1 + 80000).tdiv wd = a1) (Q2 : (80000 : Int).tdiv wd = a2) (U7 : IntKind.i64.wrap a1 = a1) (U8 : IntKind.i64.wrap a2 = a2) (U9 : IntKind.i64.wrap (a1 - a2) = a1 - a2) (UA : IntKind.i64.wrap (a1 - a2 - D) = a1 - a2 - D) (UB : IntKind.i64.wrap (a1 - a2 - D + 1) = k) (UC : IntKind.i64.wrap (wd * k) = wd * k)
    (R1 : e < wd * L → res = false) (R2 : ¬e < wd * L → wd * (G + D) < e + bl → res = false) (R3 : ¬e < wd * L → ¬wd * (G + D) < e + bl → k < L → gr = false → res = false) (R4 : ¬e < wd * L → ¬wd * (G + D) < e + bl → k < L → gr = true → res = true)
    (R5 : ¬e < wd * L → ¬wd * (G + D) < e + bl → ¬k < L → ¬e < wd * k → res = true) (R6 : ¬e < wd * L → ¬wd * (G + D) < e + bl → ¬k < L → e < wd * k → res = false)
    (HWI : ∀ w1, Calls Tryz.prog 27 #[.agg #[.int .i64 R, .int .i64 D, .int .i64 L, .int .i64 G, .bool gr]] w1 fun z w' => z = .returned (.int .i64 wd) ∧ Below w1.heap.size w1 w')
    (HLN : ∀ w1, Below w.heap.size w w1 → Calls Tryz.prog 28 #[.slice ao la ca] w1 fun z w' => z = .returned (.int .i64 bl) ∧ Below w1.heap.size w1 w') :
    Calls Tryz.prog 14 #[.agg #[.bool s, .slice ao la ca, .int .i64 e], .agg #[.int .i64 R, .int .i64 D, .int .i64 L, .int .i64 G, .bool gr]] w fun z w' => z = .returned (.bool res) ∧ Below w.heap.size w w' := by
  replace R1 : Hid _ := R1
  replace R2 : Hid _ := R2
  replace R3 : Hid _ := R3
  replace R4 : Hid _ := R4
  replace R5 : Hid _ := R5
  replace R6 : Hid _ := R6
  replace HWI : Hid _ := HWI
  replace HLN : Hid _ := HLN
  have b1 := below_trans (below_alloc w (.cells #[.bool s, .slice ao la ca, .int .i64 e] 31)) (below_alloc _ (.cells #[.int .i64 R, .int .i64 D, .int .i64 L, .int .i64 G, .bool gr] 42))
  have q1 := (locE_new w [.bool s, .slice ao la ca, .int .i64 e] 31).later (below_alloc _ (.cells #[.int .i64 R, .int .i64 D, .int .i64 L, .int .i64 G, .bool gr] 42))
  have g1 := locE_new (w.alloc (.cells #[.bool s, .slice ao la ca, .int .i64 e] 31)) [.int .i64 R, .int .i64 D, .int .i64 L, .int .i64 G, .bool gr] 42
  simp only [World.size_alloc] at g1
  by_cases h1 : e < wd * L
  · have hr := R1.out h1
    clear R1 R2 R3 R4 R5 R6
    subst hr
    have x0 := g1.cell 0 rfl
    have x1 := g1.cell 1 rfl
    have x2 := g1.cell 2 rfl
    have x3 := g1.cell 3 rfl
    have x4 := g1.cell 4 rfl
    have y0 := q1.cell 0 rfl
    have y1 := q1.cell 1 rfl
    have y2 := q1.cell 2 rfl
    go_enter Tryz.func14, Tryz.ntmps14
    go_wp2_with fail
    refine (HWI.out _).mono ?_
    rintro z w2 ⟨rfl, bb2⟩
    clear x0 x1 x2 x3 x4 y0 y1 y2
    have g_2 := g1.later bb2
    have q_2 := q1.later bb2
    have b0_2 := below_trans b1 bb2
    clear g1 q1 b1 bb2
    have x0 := g_2.cell 0 rfl
    have x1 := g_2.cell 1 rfl
    have x2 := g_2.cell 2 rfl
    have x3 := g_2.cell 3 rfl
    have x4 := g_2.cell 4 rfl
    have zz2 := q_2.cell 2 rfl
    have bd_3 : Below w2.heap.size w2 w2.drew := (Below.refl _ _).drew
    have g_d := g_2.later bd_3
    have q_d := q_2.later bd_3
    have b_d := below_trans b0_2 bd_3
    have y0 := q_d.cell 0 rfl
    have y1 := q_d.cell 1 rfl
    have y2 := q_d.cell 2 rfl
    go_wp2_with fail
    go_region_held3 (fun wq => wq.cell? ⟨w.heap.size, 1, none⟩ = some (.slice ao la ca) ∧ wq.cell? ⟨w.heap.size, 2, none⟩ = some (.int .i64 e)) (go_keep) (first
      | (go_at_call 28; have hgd := b_d; clear hgd; refine (HLN.out _ b_d).mono ?_; rintro z wa ⟨rfl, bb_wa⟩; have b0_wa := below_trans b_d bb_wa; have g_wa := g_d.later bb_wa; have q_wa := q_d.later bb_wa; have ya0 := q_wa.cell 0 rfl; have ya1 := q_wa.cell 1 rfl; have ya2 := q_wa.cell 2 rfl; clear b_d))
    go_goals
    clear x0 x1 x2 x3 x4 y0 y1 y2 zz2 ya0 ya1 ya2
    have y0 := q_wa.cell 0 rfl
    have y1 := q_wa.cell 1 rfl
    have y2 := q_wa.cell 2 rfl
    go_wp2
    go_ret
    exact ⟨rfl, b0_wa⟩
  · have e1 : decide (e < wd * L) = false := decide_eq_false h1
    by_cases h2 : wd * (G + D) < e + bl
    · have hr := R2.out h1 h2
      clear R1 R2 R3 R4 R5 R6
      subst hr
      have x0 := g1.cell 0 rfl
      have x1 := g1.cell 1 rfl
      have x2 := g1.cell 2 rfl
      have x3 := g1.cell 3 rfl
      have x4 := g1.cell 4 rfl
      have y0 := q1.cell 0 rfl
      have y1 := q1.cell 1 rfl
      have y2 := q1.cell 2 rfl
      go_enter Tryz.func14, Tryz.ntmps14
      go_wp2_with fail
      refine (HWI.out _).mono ?_
      rintro z w2 ⟨rfl, bb2⟩
      clear x0 x1 x2 x3 x4 y0 y1 y2
      have g_2 := g1.later bb2
      have q_2 := q1.later bb2
      have b0_2 := below_trans b1 bb2
      clear g1 q1 b1 bb2
      have x0 := g_2.cell 0 rfl
      have x1 := g_2.cell 1 rfl
      have x2 := g_2.cell 2 rfl
      have x3 := g_2.cell 3 rfl
      have x4 := g_2.cell 4 rfl
      have zz2 := q_2.cell 2 rfl
      have bd_3 : Below w2.heap.size w2 w2.drew := (Below.refl _ _).drew
      have g_d := g_2.later bd_3
      have q_d := q_2.later bd_3
      have b_d := below_trans b0_2 bd_3
      have y0 := q_d.cell 0 rfl
      have y1 := q_d.cell 1 rfl
      have y2 := q_d.cell 2 rfl
      go_wp2_with fail
      go_region_held3 (fun wq => wq.cell? ⟨w.heap.size, 1, none⟩ = some (.slice ao la ca) ∧ wq.cell? ⟨w.heap.size, 2, none⟩ = some (.int .i64 e)) (go_keep) (first
        | (go_at_call 28; have hgd := b_d; clear hgd; refine (HLN.out _ b_d).mono ?_; rintro z wa ⟨rfl, bb_wa⟩; have b0_wa := below_trans b_d bb_wa; have g_wa := g_d.later bb_wa; have q_wa := q_d.later bb_wa; have ya0 := q_wa.cell 0 rfl; have ya1 := q_wa.cell 1 rfl; have ya2 := q_wa.cell 2 rfl; clear b_d))
      go_goals
      clear x0 x1 x2 x3 x4 y0 y1 y2 zz2 ya0 ya1 ya2
      have y0 := q_wa.cell 0 rfl
      have y1 := q_wa.cell 1 rfl
      have y2 := q_wa.cell 2 rfl
      go_wp2
      go_ret
      exact ⟨rfl, b0_wa⟩
    · have e2 : decide (wd * (G + D) < e + bl) = false := decide_eq_false h2
      by_cases h3 : k < L
      · cases gr
        · have hr := R3.out h1 h2 h3 rfl
          clear R1 R2 R3 R4 R5 R6
          subst hr
          have x0 := g1.cell 0 rfl
          have x1 := g1.cell 1 rfl
          have x2 := g1.cell 2 rfl
          have x3 := g1.cell 3 rfl
          have x4 := g1.cell 4 rfl
          have y0 := q1.cell 0 rfl
          have y1 := q1.cell 1 rfl
          have y2 := q1.cell 2 rfl
          go_enter Tryz.func14, Tryz.ntmps14
          go_wp2_with fail
          refine (HWI.out _).mono ?_
          rintro z w2 ⟨rfl, bb2⟩
          clear x0 x1 x2 x3 x4 y0 y1 y2
          have g_2 := g1.later bb2
          have q_2 := q1.later bb2
          have b0_2 := below_trans b1 bb2
          clear g1 q1 b1 bb2
          have x0 := g_2.cell 0 rfl
          have x1 := g_2.cell 1 rfl
          have x2 := g_2.cell 2 rfl
          have x3 := g_2.cell 3 rfl
          have x4 := g_2.cell 4 rfl
          have zz2 := q_2.cell 2 rfl
          have bd_3 : Below w2.heap.size w2 w2.drew := (Below.refl _ _).drew
          have g_d := g_2.later bd_3
          have q_d := q_2.later bd_3
          have b_d := below_trans b0_2 bd_3
          have y0 := q_d.cell 0 rfl
          have y1 := q_d.cell 1 rfl
          have y2 := q_d.cell 2 rfl
          go_wp2_with fail
          go_region_held3 (fun wq => wq.cell? ⟨w.heap.size, 1, none⟩ = some (.slice ao la ca) ∧ wq.cell? ⟨w.heap.size, 2, none⟩ = some (.int .i64 e)) (go_keep) (first
            | (go_at_call 28; have hgd := b_d; clear hgd; refine (HLN.out _ b_d).mono ?_; rintro z wa ⟨rfl, bb_wa⟩; have b0_wa := below_trans b_d bb_wa; have g_wa := g_d.later bb_wa; have q_wa := q_d.later bb_wa; have ya0 := q_wa.cell 0 rfl; have ya1 := q_wa.cell 1 rfl; have ya2 := q_wa.cell 2 rfl; clear b_d))
          go_goals
          clear x0 x1 x2 x3 x4 y0 y1 y2 zz2 ya0 ya1 ya2
          have x0 := g_wa.cell 0 rfl
          have x1 := g_wa.cell 1 rfl
          have x2 := g_wa.cell 2 rfl
          have x3 := g_wa.cell 3 rfl
          have x4 := g_wa.cell 4 rfl
          have y0 := q_wa.cell 0 rfl
          have y1 := q_wa.cell 1 rfl
          have y2 := q_wa.cell 2 rfl
          have xd := (g_wa.later (Below.refl _ _).drew).cell 1 rfl
          go_wp2_with fail
          go_quiet (fail)
          clear xd x0 x1 x2 x3 x4 y0 y1 y2
          have g_21 := g_wa.later (below_drewN (Below.refl _ _) nq)
          have q_21 := q_wa.later (below_drewN (Below.refl _ _) nq)
          have b0_21 := below_trans b0_wa (below_drewN (Below.refl _ _) nq)
          clear g_wa q_wa b0_wa
          have x0 := g_21.cell 0 rfl
          have x1 := g_21.cell 1 rfl
          have x2 := g_21.cell 2 rfl
          have x3 := g_21.cell 3 rfl
          have x4 := g_21.cell 4 rfl
          have y0 := q_21.cell 0 rfl
          have y1 := q_21.cell 1 rfl
          have y2 := q_21.cell 2 rfl
          go_wp2
          go_ret
          exact ⟨rfl, b0_21⟩
        · have hr := R4.out h1 h2 h3 rfl
          clear R1 R2 R3 R4 R5 R6
          subst hr
          have e4 : wd * L ≤ e := by omega
          have x0 := g1.cell 0 rfl
          have x1 := g1.cell 1 rfl
          have x2 := g1.cell 2 rfl
          have x3 := g1.cell 3 rfl
          have x4 := g1.cell 4 rfl
          have y0 := q1.cell 0 rfl
          have y1 := q1.cell 1 rfl
          have y2 := q1.cell 2 rfl
          go_enter Tryz.func14, Tryz.ntmps14
          go_wp2_with fail
          refine (HWI.out _).mono ?_
          rintro z w2 ⟨rfl, bb2⟩
          clear x0 x1 x2 x3 x4 y0 y1 y2
          have g_2 := g1.later bb2
          have q_2 := q1.later bb2
          have b0_2 := below_trans b1 bb2
          clear g1 q1 b1 bb2
          have x0 := g_2.cell 0 rfl
          have x1 := g_2.cell 1 rfl
          have x2 := g_2.cell 2 rfl
          have x3 := g_2.cell 3 rfl
          have x4 := g_2.cell 4 rfl
          have zz2 := q_2.cell 2 rfl
          have bd_3 : Below w2.heap.size w2 w2.drew := (Below.refl _ _).drew
          have g_d := g_2.later bd_3
          have q_d := q_2.later bd_3
          have b_d := below_trans b0_2 bd_3
          have y0 := q_d.cell 0 rfl
          have y1 := q_d.cell 1 rfl
          have y2 := q_d.cell 2 rfl
          go_wp2_with fail
          go_region_held3 (fun wq => wq.cell? ⟨w.heap.size, 1, none⟩ = some (.slice ao la ca) ∧ wq.cell? ⟨w.heap.size, 2, none⟩ = some (.int .i64 e)) (go_keep) (first
            | (go_at_call 28; have hgd := b_d; clear hgd; refine (HLN.out _ b_d).mono ?_; rintro z wa ⟨rfl, bb_wa⟩; have b0_wa := below_trans b_d bb_wa; have g_wa := g_d.later bb_wa; have q_wa := q_d.later bb_wa; have ya0 := q_wa.cell 0 rfl; have ya1 := q_wa.cell 1 rfl; have ya2 := q_wa.cell 2 rfl; clear b_d))
          go_goals
          clear x0 x1 x2 x3 x4 y0 y1 y2 zz2 ya0 ya1 ya2
          have x0 := g_wa.cell 0 rfl
          have x1 := g_wa.cell 1 rfl
          have x2 := g_wa.cell 2 rfl
          have x3 := g_wa.cell 3 rfl
          have x4 := g_wa.cell 4 rfl
          have y0 := q_wa.cell 0 rfl
          have y1 := q_wa.cell 1 rfl
          have y2 := q_wa.cell 2 rfl
          have xd := (g_wa.later (Below.refl _ _).drew).cell 1 rfl
          go_wp2_with fail
          go_quiet (fail)
          clear xd x0 x1 x2 x3 x4 y0 y1 y2
          have g_21 := g_wa.later (below_drewN (Below.refl _ _) nq)
          have q_21 := q_wa.later (below_drewN (Below.refl _ _) nq)
          have b0_21 := below_trans b0_wa (below_drewN (Below.refl _ _) nq)
          clear g_wa q_wa b0_wa
          have x0 := g_21.cell 0 rfl
          have x1 := g_21.cell 1 rfl
          have x2 := g_21.cell 2 rfl
          have x3 := g_21.cell 3 rfl
          have x4 := g_21.cell 4 rfl
          have y0 := q_21.cell 0 rfl
          have y1 := q_21.cell 1 rfl
          have y2 := q_21.cell 2 rfl
          go_wp2
          go_ret
          exact ⟨rfl, b0_21⟩
      · have e3 : decide (k < L) = false := decide_eq_false h3
        by_cases h4 : e < wd * k
        · have hr := R6.out h1 h2 h3 h4
          clear R1 R2 R3 R4 R5 R6
          subst hr
          have e5 : decide (wd * k ≤ e) = false := decide_eq_false (by omega)
          have x0 := g1.cell 0 rfl
          have x1 := g1.cell 1 rfl
          have x2 := g1.cell 2 rfl
          have x3 := g1.cell 3 rfl
          have x4 := g1.cell 4 rfl
          have y0 := q1.cell 0 rfl
          have y1 := q1.cell 1 rfl
          have y2 := q1.cell 2 rfl
          go_enter Tryz.func14, Tryz.ntmps14
          go_wp2_with fail
          refine (HWI.out _).mono ?_
          rintro z w2 ⟨rfl, bb2⟩
          clear x0 x1 x2 x3 x4 y0 y1 y2
          have g_2 := g1.later bb2
          have q_2 := q1.later bb2
          have b0_2 := below_trans b1 bb2
          clear g1 q1 b1 bb2
          have x0 := g_2.cell 0 rfl
          have x1 := g_2.cell 1 rfl
          have x2 := g_2.cell 2 rfl
          have x3 := g_2.cell 3 rfl
          have x4 := g_2.cell 4 rfl
          have zz2 := q_2.cell 2 rfl
          have bd_3 : Below w2.heap.size w2 w2.drew := (Below.refl _ _).drew
          have g_d := g_2.later bd_3
          have q_d := q_2.later bd_3
          have b_d := below_trans b0_2 bd_3
          have y0 := q_d.cell 0 rfl
          have y1 := q_d.cell 1 rfl
          have y2 := q_d.cell 2 rfl
          go_wp2_with fail
          go_region_held3 (fun wq => wq.cell? ⟨w.heap.size, 1, none⟩ = some (.slice ao la ca) ∧ wq.cell? ⟨w.heap.size, 2, none⟩ = some (.int .i64 e)) (go_keep) (first
            | (go_at_call 28; have hgd := b_d; clear hgd; refine (HLN.out _ b_d).mono ?_; rintro z wa ⟨rfl, bb_wa⟩; have b0_wa := below_trans b_d bb_wa; have g_wa := g_d.later bb_wa; have q_wa := q_d.later bb_wa; have ya0 := q_wa.cell 0 rfl; have ya1 := q_wa.cell 1 rfl; have ya2 := q_wa.cell 2 rfl; clear b_d))
          go_goals
          clear x0 x1 x2 x3 x4 y0 y1 y2 zz2 ya0 ya1 ya2
          have x0 := g_wa.cell 0 rfl
          have x1 := g_wa.cell 1 rfl
          have x2 := g_wa.cell 2 rfl
          have x3 := g_wa.cell 3 rfl
          have x4 := g_wa.cell 4 rfl
          have y0 := q_wa.cell 0 rfl
          have y1 := q_wa.cell 1 rfl
          have y2 := q_wa.cell 2 rfl
          have xd := (g_wa.later (Below.refl _ _).drew).cell 1 rfl
          go_wp2_with fail
          go_quiet (fail)
          clear xd x0 x1 x2 x3 x4 y0 y1 y2
          have g_21 := g_wa.later (below_drewN (Below.refl _ _) nq)
          have q_21 := q_wa.later (below_drewN (Below.refl _ _) nq)
          have b0_21 := below_trans b0_wa (below_drewN (Below.refl _ _) nq)
          clear g_wa q_wa b0_wa
          have x0 := g_21.cell 0 rfl
          have x1 := g_21.cell 1 rfl
          have x2 := g_21.cell 2 rfl
          have x3 := g_21.cell 3 rfl
          have x4 := g_21.cell 4 rfl
          have y0 := q_21.cell 0 rfl
          have y1 := q_21.cell 1 rfl
          have y2 := q_21.cell 2 rfl
          go_wp2
          go_ret
          exact ⟨rfl, b0_21⟩
        · have hr := R5.out h1 h2 h3 h4
          clear R1 R2 R3 R4 R5 R6
          subst hr
          have e5 : wd * k ≤ e := by omega
          have x0 := g1.cell 0 rfl
          have x1 := g1.cell 1 rfl
          have x2 := g1.cell 2 rfl
          have x3 := g1.cell 3 rfl
          have x4 := g1.cell 4 rfl
          have y0 := q1.cell 0 rfl
          have y1 := q1.cell 1 rfl
          have y2 := q1.cell 2 rfl
          go_enter Tryz.func14, Tryz.ntmps14
          go_wp2_with fail
          refine (HWI.out _).mono ?_
          rintro z w2 ⟨rfl, bb2⟩
          clear x0 x1 x2 x3 x4 y0 y1 y2
          have g_2 := g1.later bb2
          have q_2 := q1.later bb2
          have b0_2 := below_trans b1 bb2
          clear g1 q1 b1 bb2
          have x0 := g_2.cell 0 rfl
          have x1 := g_2.cell 1 rfl
          have x2 := g_2.cell 2 rfl
          have x3 := g_2.cell 3 rfl
          have x4 := g_2.cell 4 rfl
          have zz2 := q_2.cell 2 rfl
          have bd_3 : Below w2.heap.size w2 w2.drew := (Below.refl _ _).drew
          have g_d := g_2.later bd_3
          have q_d := q_2.later bd_3
          have b_d := below_trans b0_2 bd_3
          have y0 := q_d.cell 0 rfl
          have y1 := q_d.cell 1 rfl
          have y2 := q_d.cell 2 rfl
          go_wp2_with fail
          go_region_held3 (fun wq => wq.cell? ⟨w.heap.size, 1, none⟩ = some (.slice ao la ca) ∧ wq.cell? ⟨w.heap.size, 2, none⟩ = some (.int .i64 e)) (go_keep) (first
            | (go_at_call 28; have hgd := b_d; clear hgd; refine (HLN.out _ b_d).mono ?_; rintro z wa ⟨rfl, bb_wa⟩; have b0_wa := below_trans b_d bb_wa; have g_wa := g_d.later bb_wa; have q_wa := q_d.later bb_wa; have ya0 := q_wa.cell 0 rfl; have ya1 := q_wa.cell 1 rfl; have ya2 := q_wa.cell 2 rfl; clear b_d))
          go_goals
          clear x0 x1 x2 x3 x4 y0 y1 y2 zz2 ya0 ya1 ya2
          have x0 := g_wa.cell 0 rfl
          have x1 := g_wa.cell 1 rfl
          have x2 := g_wa.cell 2 rfl
          have x3 := g_wa.cell 3 rfl
          have x4 := g_wa.cell 4 rfl
          have y0 := q_wa.cell 0 rfl
          have y1 := q_wa.cell 1 rfl
          have y2 := q_wa.cell 2 rfl
          have xd := (g_wa.later (Below.refl _ _).drew).cell 1 rfl
          go_wp2_with fail
          go_quiet (fail)
          clear xd x0 x1 x2 x3 x4 y0 y1 y2
          have g_21 := g_wa.later (below_drewN (Below.refl _ _) nq)
          have q_21 := q_wa.later (below_drewN (Below.refl _ _) nq)
          have b0_21 := below_trans b0_wa (below_drewN (Below.refl _ _) nq)
          clear g_wa q_wa b0_wa
          have x0 := g_21.cell 0 rfl
          have x1 := g_21.cell 1 rfl
          have x2 := g_21.cell 2 rfl
          have x3 := g_21.cell 3 rfl
          have x4 := g_21.cell 4 rfl
          have y0 := q_21.cell 0 rfl
          have y1 := q_21.cell 1 rfl
          have y2 := q_21.cell 2 rfl
          go_wp2
          go_ret
          exact ⟨rfl, b0_21⟩

set_option maxRecDepth 100000 in
set_option maxHeartbeats 1600000 in
theorem inGrid_zero (R D L G : Int) (gr s : Bool) (ao : Option Addr) (ca : Nat) (e : Int) (w : World) :
    Calls Tryz.prog 14 #[.agg #[.bool s, .slice ao 0 ca, .int .i64 e], .agg #[.int .i64 R, .int .i64 D, .int .i64 L, .int .i64 G, .bool gr]] w fun z w' => z = .returned (.bool true) ∧ Below w.heap.size w w' := by
  have b1 := below_trans (below_alloc w (.cells #[.bool s, .slice ao 0 ca, .int .i64 e] 31)) (below_alloc _ (.cells #[.int .i64 R, .int .i64 D, .int .i64 L, .int .i64 G, .bool gr] 42))
  go_enter Tryz.func14, Tryz.ntmps14
  go_wp2
  go_ret
  exact ⟨rfl, b1⟩

/-- What is wrong with a number, or with a grid. -/
def onC (dc gc : Int) : Int := if dc = 0 then gc else dc

end Go.Proofs.YtiiphandhpilgaaGreatDoor
namespace Go.Proofs.YtiiphandhpilgaaGreatDoor
open Go.RowKit
/-- What find answers: held, digits, power. -/
def ansH (xs : List Nat) (e R D L G : Int) (gr : Bool) : Bool := if onC (dchk xs e) (gridC R D L G) = 0 then heldB R D L G gr (Dg.vl 4294967296 xs) e else false
def ansD (xs : List Nat) (e R D L G : Int) (gr : Bool) : Nat := if onC (dchk xs e) (gridC R D L G) = 0 then fD R D L G gr (Dg.vl 4294967296 xs) e else 0
def ansK (xs : List Nat) (e R D L G : Int) (gr : Bool) : Int := if onC (dchk xs e) (gridC R D L G) = 0 then fK R D L G gr (Dg.vl 4294967296 xs) e else 0

theorem gfind_any (R D L G : Int) (gr s : Bool) (ao : Option Addr) (ca : Nat) (xs : List Nat) (e : Int) (w : World) (hr : Rd w .u32 (.slice ao xs.length ca) xs) (sa : Dg.Small 4294967296 xs) (hT : Tab w) :
    Calls Tryz.prog 69 #[.agg #[.bool s, .slice ao xs.length ca, .int .i64 e], .agg #[.int .i64 R, .int .i64 D, .int .i64 L, .int .i64 G, .bool gr]] w (FindAns w (ansH xs e R D L G gr) (ansD xs e R D L G gr) (ansK xs e R D L G gr) (onC (dchk xs e) (gridC R D L G))) := by
  have herr : ¬onC (dchk xs e) (gridC R D L G) = 0 → ansH xs e R D L G gr = false ∧ ansD xs e R D L G gr = 0 ∧ ansK xs e R D L G gr = 0 := fun h => ⟨if_neg h, if_neg h, if_neg h⟩
  refine gfindW R D L G gr s ao _ ca e (dchk xs e) (gridC R D L G) _ _ _ _ w ?_ ?_ ?_ ?_ ?_ ?_ ?_
  · intro h
    have h1 : onC (dchk xs e) (gridC R D L G) = dchk xs e := if_neg h
    obtain ⟨a, b, c⟩ := herr (by rw [h1]; exact h)
    exact ⟨a, b, c, h1⟩
  · intro h h2
    have h1 : onC (dchk xs e) (gridC R D L G) = gridC R D L G := if_pos h
    obtain ⟨a, b, c⟩ := herr (by rw [h1]; exact h2)
    exact ⟨a, b, c, h1⟩
  · intro h h2
    exact (if_pos h).trans h2
  · intro w1 b
    exact dcheck_any s ao ca xs e w1 (hr.later b)
  · intro w1
    exact gcheck_any R D L G gr w1
  · intro w1
    exact of_dy s ao _ ca e w1
  · intro h h2 w1 b
    have h1 : onC (dchk xs e) (gridC R D L G) = 0 := (if_pos h).trans h2
    rw [show ansH xs e R D L G gr = _ from if_pos h1, show ansD xs e R D L G gr = _ from if_pos h1, show ansK xs e R D L G gr = _ from if_pos h1]
    obtain ⟨c1, e1, e2⟩ := dchk_zero h
    obtain ⟨n1, l1⟩ := chk_zero c1
    have ex : Dg.dg 4294967296 (Dg.vl 4294967296 xs) = xs := Dg.dg_vl _ (by omega) _ sa n1
    have := mfind_any R D L G gr s ao ca (Dg.vl 4294967296 xs) e w1 h2 (by rw [ex]; exact hr.later b) (by rw [ex]; exact l1) e1 e2 (hT.later b)
    rwa [ex] at this

theorem gbits16 {a L : Nat} (h : (Dg.dg 65536 a).length ≤ L) : bitLen a ≤ 16 * L := by
  refine bitLen_le_of a _ ?_
  rw [Nat.pow_mul]
  have h1 := Dg.vl_lt 65536 _ (Dg.small_dg 65536 a (by omega))
  rw [Dg.vl_dg _ _ (by omega)] at h1
  exact Nat.lt_of_lt_of_le h1 (Nat.pow_le_pow_right (by omega) h)

theorem inR_seek (R D e : Int) (bl : Nat) (h : -79000 ≤ e + bl) : (e + (bl : Int) - 1 + 80000).tdiv (widthN R : Int) - (80000 : Int).tdiv (widthN R : Int) - D + 1 = powerR R D (e + (bl : Int) - 1) := by
  rw [Int.tdiv_eq_ediv_of_nonneg (by omega), Int.tdiv_eq_ediv_of_nonneg (by omega)]
  unfold powerR widthN
  split <;> simp <;> omega

set_option maxHeartbeats 1600000 in
theorem inGrid_any (R D L G : Int) (gr : Bool) (v : Value) (t : Trip) (w : World) (hg : gridC R D L G = 0) (hv : Rv w v t) (hl : (Dg.dg 65536 t.n).length ≤ 20000) (e1 : -79000 ≤ t.e) (e2 : t.e ≤ 200000) :
    Calls Tryz.prog 14 #[v, .agg #[.int .i64 R, .int .i64 D, .int .i64 L, .int .i64 G, .bool gr]] w fun z w' => z = .returned (.bool (inR R D L G gr t.n t.e)) ∧ Below w.heap.size w w' := by
  obtain ⟨s, n, e⟩ := t
  simp only at hl e1 e2
  obtain ⟨s0, rfl, hr⟩ := hv
  obtain ⟨ao, ca, rfl⟩ := hr.shape
  simp only at hr ⊢
  obtain ⟨hR, d1, d2, l1, l2, g1, g2, lg, l16⟩ := gridC_zero hg
  by_cases h0 : n = 0
  · rw [show inR R D L G gr n e = true from decide_eq_true (.inl h0)]
    subst h0
    exact inGrid_zero R D L G gr s ao ca e w
  · have hbl : bitLen n ≤ 16 * 20000 := gbits16 hl
    have hwl := widthN_le R
    have hsk := inR_seek R D e (bitLen n) (by omega)
    have hpr : -600000 ≤ powerR R D (e + (bitLen n : Int) - 1) ∧ powerR R D (e + (bitLen n : Int) - 1) ≤ 600000 ∧ -2400000 ≤ (widthN R : Int) * powerR R D (e + (bitLen n : Int) - 1) ∧ (widthN R : Int) * powerR R D (e + (bitLen n : Int) - 1) ≤ 2400000 := by
      clear hsk
      unfold powerR widthN
      split <;> simp <;> omega
    have hL : -68000 ≤ (widthN R : Int) * L ∧ (widthN R : Int) * L ≤ 68000 := by
      clear hsk hpr
      unfold widthN
      split <;> simp <;> omega
    have hGD : -70000 ≤ (widthN R : Int) * (G + D) ∧ (widthN R : Int) * (G + D) ≤ 70000 := by
      clear hsk hpr hL
      unfold widthN
      split <;> simp <;> omega
    have a1 := Int.natAbs_tdiv_le_natAbs (e + (bitLen n : Int) - 1 + 80000) (widthN R : Int)
    have a2 := Int.natAbs_tdiv_le_natAbs (80000 : Int) (widthN R : Int)
    have hin : inR R D L G gr n e = true ↔ ((widthN R : Int) * L ≤ e ∧ e + (bitLen n : Int) ≤ (widthN R : Int) * (G + D) ∧ (gr = true ∨ L ≤ powerR R D (e + (bitLen n : Int) - 1)) ∧ (widthN R : Int) * max L (powerR R D (e + (bitLen n : Int) - 1)) ≤ e) := by
      unfold inR
      rw [decide_eq_true_iff]
      constructor
      · rintro (h | h)
        · exact absurd h h0
        · exact h
      · exact .inr
    have hno : ∀ {b : Bool}, ¬b = true → b = false := fun h => by simpa using h
    refine inGridW R D L G gr s ao _ ca e (widthN R) (bitLen n) _ _ (powerR R D (e + (bitLen n : Int) - 1)) (inR R D L G gr n e) w ?_ ?_ ?_ ?_ ?_ ?_ ?_ ?_ ?_ rfl rfl ?_ ?_ ?_ ?_ ?_ ?_ ?_ ?_ ?_ ?_ ?_ ?_ ?_ ?_
    · simp
      rw [Dg.dg_nil_iff _ _ (by omega)]
      exact h0
    · simp
      omega
    · omega
    · exact IntWalk.i64_in _ ⟨by omega, by omega⟩
    · exact IntWalk.i64_in _ ⟨by omega, by omega⟩
    · exact IntWalk.i64_in _ ⟨by omega, by omega⟩
    · exact IntWalk.i64_in _ ⟨by omega, by omega⟩
    · exact IntWalk.i64_in _ ⟨by omega, by omega⟩
    · exact IntWalk.i64_in _ ⟨by omega, by omega⟩
    · exact IntWalk.i64_in _ ⟨by omega, by omega⟩
    · exact IntWalk.i64_in _ ⟨by omega, by omega⟩
    · exact IntWalk.i64_in _ ⟨by omega, by omega⟩
    · exact IntWalk.i64_in _ ⟨by omega, by omega⟩
    · rw [hsk]
      exact IntWalk.i64_in _ ⟨by omega, by omega⟩
    · exact IntWalk.i64_in _ ⟨by omega, by omega⟩
    · intro h
      refine hno fun c => ?_
      have := hin.1 c
      omega
    · intro h h2
      refine hno fun c => ?_
      have := hin.1 c
      omega
    · intro h h2 h3 h4
      refine hno fun c => ?_
      rcases (hin.1 c).2.2.1 with h5 | h5
      · rw [h4] at h5
        cases h5
      · omega
    · intro h h2 h3 h4
      refine hin.2 ⟨by omega, by omega, .inl h4, ?_⟩
      rw [Int.max_eq_left (by omega)]
      omega
    · intro h h2 h3 h4
      refine hin.2 ⟨by omega, by omega, .inr (by omega), ?_⟩
      rw [Int.max_eq_right (by omega)]
      omega
    · intro h h2 h3 h4
      refine hno fun c => ?_
      have := (hin.1 c).2.2.2
      rw [Int.max_eq_right (by omega)] at this
      omega
    · intro w1
      have := refWidth_any R D L G gr w1
      rwa [widthR_nat] at this
    · intro w1 b
      have := reflen_any _ _ w1 (hr.later b) (Dg.small_dg _ _ (by omega)) (Dg.norm_dg _ _ (by omega)) (by omega)
      rw [Dg.vl_dg _ _ (by omega)] at this
      refine this.mono ?_
      rintro z w' ⟨rfl, rfl⟩
      exact ⟨rfl, Below.refl _ _⟩
end Go.Proofs.YtiiphandhpilgaaGreatDoor
namespace Go.Proofs.YtiiphandhpilgaaGreatDoor
open Go.RowKit
set_option maxRecDepth 100000 in
set_option maxHeartbeats 1600000 in
theorem gHoldsW (R D L G : Int) (gr s : Bool) (ao : Option Addr) (la ca : Nat) (e c : Int) (hd : Bool) (rd : Nat) (rk : Int) (w : World)
    (HF : ∀ w1, Below w.heap.size w w1 → Calls Tryz.prog 69 #[.agg #[.bool s, .slice ao la ca, .int .i64 e], .agg #[.int .i64 R, .int .i64 D, .int .i64 L, .int .i64 G, .bool gr]] w1 (FindAns w1 hd rd rk c)) :
    Calls Tryz.prog 55 #[.agg #[.bool s, .slice ao la ca, .int .i64 e], .agg #[.int .i64 R, .int .i64 D, .int .i64 L, .int .i64 G, .bool gr]] w fun z w' => z = .returned (.tuple #[.bool hd, .int .i64 c]) ∧ Below w.heap.size w w' := by
  replace HF : Hid _ := HF
  have b1 := below_trans (below_alloc w (.cells #[.bool s, .slice ao la ca, .int .i64 e] 87)) (below_alloc _ (.cells #[.int .i64 R, .int .i64 D, .int .i64 L, .int .i64 G, .bool gr] 42))
  have q1 := (locE_new w [.bool s, .slice ao la ca, .int .i64 e] 87).later (below_alloc _ (.cells #[.int .i64 R, .int .i64 D, .int .i64 L, .int .i64 G, .bool gr] 42))
  have g1 := locE_new (w.alloc (.cells #[.bool s, .slice ao la ca, .int .i64 e] 87)) [.int .i64 R, .int .i64 D, .int .i64 L, .int .i64 G, .bool gr] 42
  simp only [World.size_alloc] at g1
  have x0 := g1.cell 0 rfl
  have x1 := g1.cell 1 rfl
  have x2 := g1.cell 2 rfl
  have x3 := g1.cell 3 rfl
  have x4 := g1.cell 4 rfl
  have y0 := q1.cell 0 rfl
  have y1 := q1.cell 1 rfl
  have y2 := q1.cell 2 rfl
  go_enter Tryz.func55, Tryz.ntmps55
  go_wp2_with fail
  refine (HF.out _ b1).mono ?_
  rintro z w2 ⟨u, rfl, ou, bb2⟩
  obtain ⟨so, sc, hu⟩ := ou.rd.shape
  subst hu
  clear ou x0 x1 x2 x3 x4 y0 y1 y2
  have b2 := below_trans b1 bb2
  have b3 := below_trans b2 (below_alloc w2 (.cells #[.slice so (Dg.dg 4294967296 rd).length sc, .int .i64 rk] 136))
  go_wp2
  go_ret2
  exact ⟨rfl, b3⟩

end Go.Proofs.YtiiphandhpilgaaGreatDoor
namespace Go.Proofs.YtiiphandhpilgaaGreatDoor
open Go.RowKit
theorem gHolds_any (R D L G : Int) (gr s : Bool) (ao : Option Addr) (ca : Nat) (xs : List Nat) (e : Int) (w : World) (hr : Rd w .u32 (.slice ao xs.length ca) xs) (sa : Dg.Small 4294967296 xs) (hT : Tab w) :
    Calls Tryz.prog 55 #[.agg #[.bool s, .slice ao xs.length ca, .int .i64 e], .agg #[.int .i64 R, .int .i64 D, .int .i64 L, .int .i64 G, .bool gr]] w fun z w' => z = .returned (.tuple #[.bool (ansH xs e R D L G gr), .int .i64 (onC (dchk xs e) (gridC R D L G))]) ∧ Below w.heap.size w w' :=
  gHoldsW R D L G gr s ao _ ca e _ _ _ _ w (fun w1 b => gfind_any R D L G gr s ao ca xs e w1 (hr.later b) sa (hT.later b))

end Go.Proofs.YtiiphandhpilgaaGreatDoor

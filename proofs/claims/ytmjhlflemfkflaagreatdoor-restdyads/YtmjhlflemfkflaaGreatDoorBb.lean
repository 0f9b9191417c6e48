/-
  Texts laid together: Bl4, Bl3, Bl2, Bl11.
-/
import Derived.Test.YtmjhlflemfkflaaGreatDoorBa
import Derived.Deep.RegionWith
import Derived.Test.YtmjhlflemfkflaaGreatDoorBs
/-
  Balls: contract of ball.wrong, of one ball and of two.
-/
namespace Go.Proofs.YtmjhlflemfkflaaGreatDoor
open Go.RowKit

/-- What is wrong with a number of bits. -/
def bitR (n : Int) : Int := if n < 1 ∨ 4096 < n then 3 else 0

def wrong1 (n c : Int) : Int := if c = 0 then bitR n else c

def wrong2 (n c d : Int) : Int := if c = 0 then wrong1 n d else c

set_option maxRecDepth 100000 in
set_option maxHeartbeats 1600000 in
theorem bwrong1_any (n : Int) (b : Nat) (s : Bool) (ao : Option Addr) (ca la : Nat) (e : Int) (t : Bool) (bo : Option Addr) (cb lb : Nat) (f : Int) (c : Int) (w : World)
    (h0 : w.cell? ⟨b, 0, none⟩ = some (.bool s)) (h1 : w.cell? ⟨b, 1, none⟩ = some (.slice ao la ca)) (h2 : w.cell? ⟨b, 2, none⟩ = some (.int .i64 e)) (h3 : w.cell? ⟨b, 3, none⟩ = some (.bool t)) (h4 : w.cell? ⟨b, 4, none⟩ = some (.slice bo lb cb)) (h5 : w.cell? ⟨b, 5, none⟩ = some (.int .i64 f))
    (H1 : ∀ w1, Below w.heap.size w w1 → Calls Tryz.prog 52 #[.agg #[.bool s, .slice ao la ca, .int .i64 e, .bool t, .slice bo lb cb, .int .i64 f]] w1 fun z w' => z = .returned (.int .i64 c) ∧ Below w1.heap.size w1 w') :
    Calls Tryz.prog 24 #[.int .i64 n, .slice (some ⟨b, 0, none⟩) 1 1] w fun z w' => z = .returned (.int .i64 (wrong1 n c)) ∧ Below w.heap.size w w' := by
  unfold wrong1
  have bA := below_alloc w (.cells #[.bool s, .slice ao la ca, .int .i64 e, .bool t, .slice bo lb cb, .int .i64 f] 27)
  have hk := H1 _ bA
  clear H1
  by_cases h : c = 0
  · subst h
    rw [if_pos rfl]
    unfold bitR
    by_cases hl : n < 1
    · rw [if_pos (Or.inl hl)]
      go_enter Tryz.func24, Tryz.ntmps24
      go_wp2
      refine wp_loop_rounds 2 ?_
      rw [rounds_succ]
      go_wp2_with fail
      refine hk.mono ?_
      rintro z w' ⟨rfl, b1⟩
      have b01 := below_trans bA b1
      go_wp2
      rw [rounds_succ]
      go_wp2
      go_ret
      exact ⟨rfl, b01⟩
    · by_cases hg : 4096 < n
      · rw [if_pos (Or.inr hg)]
        go_enter Tryz.func24, Tryz.ntmps24
        go_wp2
        refine wp_loop_rounds 2 ?_
        rw [rounds_succ]
        go_wp2_with fail
        refine hk.mono ?_
        rintro z w' ⟨rfl, b1⟩
        have b01 := below_trans bA b1
        go_wp2
        rw [rounds_succ]
        go_wp2
        go_ret
        exact ⟨rfl, b01⟩
      · rw [if_neg (by omega)]
        go_enter Tryz.func24, Tryz.ntmps24
        go_wp2
        refine wp_loop_rounds 2 ?_
        rw [rounds_succ]
        go_wp2_with fail
        refine hk.mono ?_
        rintro z w' ⟨rfl, b1⟩
        have b01 := below_trans bA b1
        go_wp2
        rw [rounds_succ]
        go_wp2
        go_ret
        exact ⟨rfl, b01⟩
  · rw [if_neg h]
    go_enter Tryz.func24, Tryz.ntmps24
    go_wp2
    refine wp_loop_rounds 2 ?_
    rw [rounds_succ]
    go_wp2_with fail
    refine hk.mono ?_
    rintro z w' ⟨rfl, b1⟩
    have b01 := below_trans bA b1
    go_wp2
    go_ret
    exact ⟨rfl, b01⟩
set_option maxRecDepth 100000 in
set_option maxHeartbeats 1600000 in
theorem bwrong2_any (n : Int) (b : Nat) (s : Bool) (ao : Option Addr) (ca la : Nat) (e : Int) (t : Bool) (bo : Option Addr) (cb lb : Nat) (f : Int) (c : Int) (r : Bool) (co : Option Addr) (cc lc : Nat) (g : Int) (u : Bool) (d' : Option Addr) (cd ld : Nat) (k : Int) (d : Int) (w : World)
    (h0 : w.cell? ⟨b, 0, none⟩ = some (.bool s)) (h1 : w.cell? ⟨b, 1, none⟩ = some (.slice ao la ca)) (h2 : w.cell? ⟨b, 2, none⟩ = some (.int .i64 e)) (h3 : w.cell? ⟨b, 3, none⟩ = some (.bool t)) (h4 : w.cell? ⟨b, 4, none⟩ = some (.slice bo lb cb)) (h5 : w.cell? ⟨b, 5, none⟩ = some (.int .i64 f))
    (j0 : w.cell? ⟨b, 6, none⟩ = some (.bool r)) (j1 : w.cell? ⟨b, 7, none⟩ = some (.slice co lc cc)) (j2 : w.cell? ⟨b, 8, none⟩ = some (.int .i64 g)) (j3 : w.cell? ⟨b, 9, none⟩ = some (.bool u)) (j4 : w.cell? ⟨b, 10, none⟩ = some (.slice d' ld cd)) (j5 : w.cell? ⟨b, 11, none⟩ = some (.int .i64 k))
    (H1 : ∀ w1, Below w.heap.size w w1 → Calls Tryz.prog 52 #[.agg #[.bool s, .slice ao la ca, .int .i64 e, .bool t, .slice bo lb cb, .int .i64 f]] w1 fun z w' => z = .returned (.int .i64 c) ∧ Below w1.heap.size w1 w')
    (H2 : ∀ w1, Below w.heap.size w w1 → Calls Tryz.prog 52 #[.agg #[.bool r, .slice co lc cc, .int .i64 g, .bool u, .slice d' ld cd, .int .i64 k]] w1 fun z w' => z = .returned (.int .i64 d) ∧ Below w1.heap.size w1 w') :
    Calls Tryz.prog 24 #[.int .i64 n, .slice (some ⟨b, 0, none⟩) 2 2] w fun z w' => z = .returned (.int .i64 (wrong2 n c d)) ∧ Below w.heap.size w w' := by
  unfold wrong2 wrong1
  have bA := below_alloc w (.cells #[.bool s, .slice ao la ca, .int .i64 e, .bool t, .slice bo lb cb, .int .i64 f] 27)
  have hk := H1 _ bA
  have HQ : Hid _ := H2
  clear H1 H2
  by_cases h : c = 0
  · subst h
    rw [if_pos rfl]
    by_cases h' : d = 0
    · subst h'
      rw [if_pos rfl]
      unfold bitR
      by_cases hl : n < 1
      · rw [if_pos (Or.inl hl)]
        go_enter Tryz.func24, Tryz.ntmps24
        go_wp2
        refine wp_loop_rounds 3 ?_
        rw [rounds_succ]
        go_wp2_with fail
        refine hk.mono ?_
        rintro z w1 ⟨rfl, b1⟩
        have b01 := below_trans bA b1
        have k0 := cell_later b01 j0
        have k1 := cell_later b01 j1
        have k2 := cell_later b01 j2
        have k3 := cell_later b01 j3
        have k4 := cell_later b01 j4
        have k5 := cell_later b01 j5
        have b2 := below_trans b01 (below_alloc w1 (.cells #[.bool r, .slice co lc cc, .int .i64 g, .bool u, .slice d' ld cd, .int .i64 k] 27))
        clear hk bA b1
        go_wp2
        rw [rounds_succ]
        go_wp2_with fail
        refine (HQ.out _ b2).mono ?_
        rintro z w2 ⟨rfl, b3⟩
        have b03 := below_trans b2 b3
        go_wp2
        rw [rounds_succ]
        go_wp2
        go_ret
        exact ⟨rfl, b03⟩
      · by_cases hg : 4096 < n
        · rw [if_pos (Or.inr hg)]
          go_enter Tryz.func24, Tryz.ntmps24
          go_wp2
          refine wp_loop_rounds 3 ?_
          rw [rounds_succ]
          go_wp2_with fail
          refine hk.mono ?_
          rintro z w1 ⟨rfl, b1⟩
          have b01 := below_trans bA b1
          have k0 := cell_later b01 j0
          have k1 := cell_later b01 j1
          have k2 := cell_later b01 j2
          have k3 := cell_later b01 j3
          have k4 := cell_later b01 j4
          have k5 := cell_later b01 j5
          have b2 := below_trans b01 (below_alloc w1 (.cells #[.bool r, .slice co lc cc, .int .i64 g, .bool u, .slice d' ld cd, .int .i64 k] 27))
          clear hk bA b1
          go_wp2
          rw [rounds_succ]
          go_wp2_with fail
          refine (HQ.out _ b2).mono ?_
          rintro z w2 ⟨rfl, b3⟩
          have b03 := below_trans b2 b3
          go_wp2
          rw [rounds_succ]
          go_wp2
          go_ret
          exact ⟨rfl, b03⟩
        · rw [if_neg (by omega)]
          go_enter Tryz.func24, Tryz.ntmps24
          go_wp2
          refine wp_loop_rounds 3 ?_
          rw [rounds_succ]
          go_wp2_with fail
          refine hk.mono ?_
          rintro z w1 ⟨rfl, b1⟩
          have b01 := below_trans bA b1
          have k0 := cell_later b01 j0
          have k1 := cell_later b01 j1
          have k2 := cell_later b01 j2
          have k3 := cell_later b01 j3
          have k4 := cell_later b01 j4
          have k5 := cell_later b01 j5
          have b2 := below_trans b01 (below_alloc w1 (.cells #[.bool r, .slice co lc cc, .int .i64 g, .bool u, .slice d' ld cd, .int .i64 k] 27))
          clear hk bA b1
          go_wp2
          rw [rounds_succ]
          go_wp2_with fail
          refine (HQ.out _ b2).mono ?_
          rintro z w2 ⟨rfl, b3⟩
          have b03 := below_trans b2 b3
          go_wp2
          rw [rounds_succ]
          go_wp2
          go_ret
          exact ⟨rfl, b03⟩
    · rw [if_neg h']
      go_enter Tryz.func24, Tryz.ntmps24
      go_wp2
      refine wp_loop_rounds 3 ?_
      rw [rounds_succ]
      go_wp2_with fail
      refine hk.mono ?_
      rintro z w1 ⟨rfl, b1⟩
      have b01 := below_trans bA b1
      have k0 := cell_later b01 j0
      have k1 := cell_later b01 j1
      have k2 := cell_later b01 j2
      have k3 := cell_later b01 j3
      have k4 := cell_later b01 j4
      have k5 := cell_later b01 j5
      have b2 := below_trans b01 (below_alloc w1 (.cells #[.bool r, .slice co lc cc, .int .i64 g, .bool u, .slice d' ld cd, .int .i64 k] 27))
      clear hk bA b1
      go_wp2
      rw [rounds_succ]
      go_wp2_with fail
      refine (HQ.out _ b2).mono ?_
      rintro z w2 ⟨rfl, b3⟩
      have b03 := below_trans b2 b3
      go_wp2
      go_ret
      exact ⟨rfl, b03⟩
  · rw [if_neg h]
    go_enter Tryz.func24, Tryz.ntmps24
    go_wp2
    refine wp_loop_rounds 3 ?_
    rw [rounds_succ]
    go_wp2_with fail
    refine hk.mono ?_
    rintro z w1 ⟨rfl, b1⟩
    have b01 := below_trans bA b1
    go_wp2
    go_ret
    exact ⟨rfl, b01⟩
end Go.Proofs.YtmjhlflemfkflaaGreatDoor
/-
  Balls: contract of ball.has.
-/
namespace Go.Proofs.YtmjhlflemfkflaaGreatDoor
open Go.RowKit

/-- Is a number in a ball? -/
def hasB (g1 g2 : Int) : Bool := decide (g1 ≤ 0) && decide (0 ≤ g2)

set_option maxRecDepth 100000 in
set_option maxHeartbeats 1600000 in
theorem bhas_any (s : Bool) (ao : Option Addr) (ca la : Nat) (e : Int) (t : Bool) (bo : Option Addr) (cb lb : Nat) (f : Int) (r : Bool) (co : Option Addr) (cc lc : Nat) (k : Int) (g1 g2 : Int) (w : World) (hg : g1 ≤ 0 ∨ g1 = 1)
    (H1 : ∀ w1, Below w.heap.size w w1 → Calls Tryz.prog 99 #[.agg #[.bool s, .slice ao la ca, .int .i64 e], .agg #[.bool r, .slice co lc cc, .int .i64 k]] w1 fun z w' => z = .returned (.int .i64 g1) ∧ Below w1.heap.size w1 w')
    (H2 : ∀ w1, Below w.heap.size w w1 → Calls Tryz.prog 99 #[.agg #[.bool t, .slice bo lb cb, .int .i64 f], .agg #[.bool r, .slice co lc cc, .int .i64 k]] w1 fun z w' => z = .returned (.int .i64 g2) ∧ Below w1.heap.size w1 w') :
    Calls Tryz.prog 70 #[.agg #[.bool s, .slice ao la ca, .int .i64 e, .bool t, .slice bo lb cb, .int .i64 f], .agg #[.bool r, .slice co lc cc, .int .i64 k]] w fun z w' => z = .returned (.bool (hasB g1 g2)) ∧ Below w.heap.size w w' := by
  have HC1 : Hid _ := H1
  have HC2 : Hid _ := H2
  clear H1 H2
  have bA := below_trans (below_alloc w (.cells #[.bool s, .slice ao la ca, .int .i64 e, .bool t, .slice bo lb cb, .int .i64 f] 27)) (below_alloc _ (.cells #[.bool r, .slice co lc cc, .int .i64 k] 66))
  have l1 := (loc6_new w (.bool s) (.slice ao la ca) (.int .i64 e) (.bool t) (.slice bo lb cb) (.int .i64 f) 27).later (below_alloc _ (.cells #[.bool r, .slice co lc cc, .int .i64 k] 66))
  have l2 := loc_new (w.alloc (.cells #[.bool s, .slice ao la ca, .int .i64 e, .bool t, .slice bo lb cb, .int .i64 f] 27)) (.bool r) (.slice co lc cc) (.int .i64 k) 66
  rw [World.size_alloc] at l2
  obtain ⟨W, hW⟩ : ∃ W, ((w.alloc (.cells #[.bool s, .slice ao la ca, .int .i64 e, .bool t, .slice bo lb cb, .int .i64 f] 27)).alloc (.cells #[.bool r, .slice co lc cc, .int .i64 k] 66)) = W := ⟨_, rfl⟩
  rw [hW] at bA l1 l2
  have bd : Below W.heap.size W W.drew := (Below.refl _ _).drew
  have l3 := l1.later bd
  have m3 := l2.later bd
  have b03 := below_trans bA bd
  rw [← hW] at l3 m3 b03
  obtain ⟨-, ⟨c0, c1, c2, c3, c4, c5⟩, -⟩ := id l3
  obtain ⟨-, ⟨x0, x1, x2⟩, -⟩ := id m3
  clear bA l1 l2 bd hW
  unfold hasB
  by_cases h1 : g1 ≤ 0
  · rw [decide_eq_true h1, Bool.true_and]
    clear hg
    go_enter Tryz.func70, Tryz.ntmps70
    go_wp2_with fail
    go_region_held3 (fun wq => (wq.cell? ⟨w.heap.size, 0, none⟩ = some (.bool s) ∧ wq.cell? ⟨w.heap.size, 1, none⟩ = some (.slice ao la ca) ∧ wq.cell? ⟨w.heap.size, 2, none⟩ = some (.int .i64 e)) ∧ (wq.cell? ⟨w.heap.size, 3, none⟩ = some (.bool t) ∧ wq.cell? ⟨w.heap.size, 4, none⟩ = some (.slice bo lb cb) ∧ wq.cell? ⟨w.heap.size, 5, none⟩ = some (.int .i64 f)) ∧ wq.cell? ⟨w.heap.size + 1, 0, none⟩ = some (.bool r) ∧ wq.cell? ⟨w.heap.size + 1, 1, none⟩ = some (.slice co lc cc) ∧ wq.cell? ⟨w.heap.size + 1, 2, none⟩ = some (.int .i64 k)) (go_keep) (first
      | (go_at_call 25; refine (of_dy s ao la ca e _).mono ?_; rintro z w4 ⟨rfl, b4⟩; have l4 := l3.later b4; have m4 := m3.later b4; have b04 := below_trans b03 b4; obtain ⟨-, ⟨p0, p1, p2, p3, p4, p5⟩, -⟩ := id l4; obtain ⟨-, ⟨y0, y1, y2⟩, -⟩ := id m4; clear b03)
      | (go_at_call 99; refine (HC1.out w4 b04).mono ?_; rintro z w5 ⟨rfl, b5⟩; have l5 := l4.later b5; have m5 := m4.later b5; have b05 := below_trans b04 b5; obtain ⟨-, ⟨q0, q1, q2, q3, q4, q5⟩, -⟩ := id l5; obtain ⟨-, ⟨n0, n1, n2⟩, -⟩ := id m5; clear b04)
      | (go_at_call 25; refine (of_dy t bo lb cb f _).mono ?_; rintro z w6 ⟨rfl, b6⟩; have l6 := l5.later b6; have m6 := m5.later b6; have b06 := below_trans b05 b6; obtain ⟨-, ⟨t0, t1, t2, t3, t4, t5⟩, -⟩ := id l6; obtain ⟨-, ⟨o0, o1, o2⟩, -⟩ := id m6)
      | (go_at_call 99; refine (HC2.out w6 b06).mono ?_; rintro z w7 ⟨rfl, b7⟩; have l7 := l6.later b7; have m7 := m6.later b7; have b07 := below_trans b06 b7; obtain ⟨-, ⟨u0, u1, u2, u3, u4, u5⟩, -⟩ := id l7; obtain ⟨-, ⟨i0, i1, i2⟩, -⟩ := id m7))
    all_goals go_wp2
    go_ret
    exact ⟨rfl, b07⟩
  · have hg1 : g1 = 1 := by omega
    subst hg1
    rw [decide_eq_false h1, Bool.false_and]
    clear h1 hg
    go_enter Tryz.func70, Tryz.ntmps70
    go_wp2_with fail
    first
    | (go_region_with (first
      | (go_at_call 25; refine (of_dy s ao la ca e _).mono ?_; rintro z w4 ⟨rfl, b4⟩; have l4 := l3.later b4; have m4 := m3.later b4; have b04 := below_trans b03 b4; obtain ⟨-, ⟨p0, p1, p2, p3, p4, p5⟩, -⟩ := id l4; obtain ⟨-, ⟨y0, y1, y2⟩, -⟩ := id m4)
      | (go_at_call 99; refine (HC1.out w4 b04).mono ?_; rintro z w5 ⟨rfl, b5⟩; have l5 := l4.later b5; have m5 := m4.later b5; have b05 := below_trans b04 b5; obtain ⟨-, ⟨q0, q1, q2, q3, q4, q5⟩, -⟩ := id l5; obtain ⟨-, ⟨n0, n1, n2⟩, -⟩ := id m5)))
    | fail
    all_goals go_wp2
    all_goals go_ret
    all_goals exact ⟨rfl, b05⟩

theorem signT_le (t : Trip) : signT t ≤ 0 ∨ signT t = 1 := by
  unfold signT
  split
  · left; omega
  · split
    · left; omega
    · right; rfl
end Go.Proofs.YtmjhlflemfkflaaGreatDoor
/-
  Balls: the reference's CheckBall.
-/
namespace Go.Proofs.YtmjhlflemfkflaaGreatDoor
open Go.RowKit

set_option maxRecDepth 100000 in
set_option maxHeartbeats 1600000 in
theorem refcheckBall_any (s : Bool) (ao : Option Addr) (ca : Nat) (xs : List Nat) (e : Int) (t : Bool) (bo : Option Addr) (cb : Nat) (ys : List Nat) (f : Int) (w : World)
    (hr : Rd w .u32 (.slice ao xs.length ca) xs) (hq : Rd w .u32 (.slice bo ys.length cb) ys) (sa : Dg.Small 4294967296 xs) (sb : Dg.Small 4294967296 ys) :
    Calls Tryz.prog 29 #[.agg #[.bool s, .slice ao xs.length ca, .int .i64 e, .bool t, .slice bo ys.length cb, .int .i64 f]] w fun z w' => z = .returned (.int .i64 (bchk s xs e t ys f)) ∧ Below w.heap.size w w' := by
  have bA := below_alloc w (.cells #[.bool s, .slice ao xs.length ca, .int .i64 e, .bool t, .slice bo ys.length cb, .int .i64 f] 27)
  have l0 := loc6_new w (.bool s) (.slice ao xs.length ca) (.int .i64 e) (.bool t) (.slice bo ys.length cb) (.int .i64 f) 27
  have hc := twoDy_any s ao ca xs e t bo cb ys f _ (hr.later bA) (hq.later bA)
  obtain ⟨A, hA⟩ : ∃ A : Trip, (⟨s, Dg.vl 4294967296 xs, e⟩ : Trip) = A := ⟨_, rfl⟩
  obtain ⟨B, hB⟩ : ∃ B : Trip, (⟨t, Dg.vl 4294967296 ys, f⟩ : Trip) = B := ⟨_, rfl⟩
  have HO : Hid (dchk2 xs e ys f = 0 → (∀ w1, Below w.heap.size w w1 → Calls Tryz.prog 18 #[.agg #[.bool s, .slice ao xs.length ca, .int .i64 e]] w1 (RDRes w1 (bare A))) ∧ (∀ w1, Below w.heap.size w w1 → Calls Tryz.prog 18 #[.agg #[.bool t, .slice bo ys.length cb, .int .i64 f]] w1 (RDRes w1 (bare B))) ∧
      (∀ v u w1, Rv w1 v (bare A) → Rv w1 u (bare B) → Calls Tryz.prog 19 #[v, u] w1 fun z w' => z = .returned (.int .i64 (signT (plusT A (negT B)))) ∧ Below w1.heap.size w1 w')) := fun h => by
    obtain ⟨h1, h2⟩ := dchk2_zero h
    obtain ⟨c1, e1, e2⟩ := dchk_zero h1
    obtain ⟨c2, f1, f2⟩ := dchk_zero h2
    have z1 := chk_zero c1
    have z2 := chk_zero c2
    have x1 : (Dg.dg 4294967296 (Dg.vl 4294967296 xs)).length ≤ 1200 := by rw [← Dg.eq_dg 4294967296 (by omega) xs _ sa z1.1 rfl]; exact z1.2
    have x2 : (Dg.dg 4294967296 (Dg.vl 4294967296 ys)).length ≤ 1200 := by rw [← Dg.eq_dg 4294967296 (by omega) ys _ sb z2.1 rfl]; exact z2.2
    obtain ⟨p1, p2, p3⟩ := bare_fits (t := A) (by rw [← hA]; exact x1) (by rw [← hA]; exact e1) (by rw [← hA]; exact e2)
    obtain ⟨q1, q2, q3⟩ := bare_fits (t := B) (by rw [← hB]; exact x2) (by rw [← hB]; exact f1) (by rw [← hB]; exact f2)
    refine ⟨fun w1 b1 => ?_, fun w1 b1 => ?_, fun v u w1 hv hu => ?_⟩
    · rw [← hA]; exact ofDyad_any s ao ca xs e w1 (hr.later b1) sa (by omega) (by omega) (by omega)
    · rw [← hB]; exact ofDyad_any t bo cb ys f w1 (hq.later b1) sb (by omega) (by omega) (by omega)
    · have := refdcmp_any v u (bare A) (bare B) w1 hv hu (by omega) (by omega) (by omega) (by omega) (by omega) (by omega)
      rwa [sign_ref] at this
  unfold bchk
  rw [hA, hB]
  obtain ⟨c, hcc⟩ : ∃ c, dchk2 xs e ys f = c := ⟨_, rfl⟩
  obtain ⟨g, hg⟩ : ∃ g, signT (plusT A (negT B)) = g := ⟨_, rfl⟩
  rw [hcc] at hc HO ⊢
  rw [hg] at HO ⊢
  clear hcc hg hr hq sa sb hA hB
  by_cases h : c = 0
  · subst h
    simp only [if_true]
    obtain ⟨hoa, hob, hrf⟩ := HO.out rfl
    obtain ⟨⟨as', an', ae'⟩, hat⟩ : ∃ bt, bare A = bt := ⟨_, rfl⟩
    obtain ⟨⟨ds', dn', de'⟩, hdt⟩ : ∃ bt, bare B = bt := ⟨_, rfl⟩
    rw [hat] at hoa hrf
    rw [hdt] at hob hrf
    have HOA : Hid _ := hoa
    have HOB : Hid _ := hob
    have HRF : Hid _ := hrf
    clear HO hoa hob hrf hat hdt
    go_enter Tryz.func29, Tryz.ntmps29
    go_wp2_with fail
    refine hc.mono ?_
    rintro z w2 ⟨rfl, b2⟩
    have bd : Below w2.heap.size w2 w2.drew := (Below.refl _ _).drew
    have l3 := (l0.later b2).later bd
    have b03 := below_trans (below_trans bA b2) bd
    obtain ⟨-, ⟨c0, c1, c2, c3, c4, c5⟩, -⟩ := id l3
    clear hc l0 bA b2 bd
    go_wp2_with fail
    go_region_held3 (fun wq => (wq.cell? ⟨w.heap.size, 0, none⟩ = some (.bool s) ∧ wq.cell? ⟨w.heap.size, 1, none⟩ = some (.slice ao xs.length ca) ∧ wq.cell? ⟨w.heap.size, 2, none⟩ = some (.int .i64 e)) ∧ wq.cell? ⟨w.heap.size, 3, none⟩ = some (.bool t) ∧ wq.cell? ⟨w.heap.size, 4, none⟩ = some (.slice bo ys.length cb) ∧ wq.cell? ⟨w.heap.size, 5, none⟩ = some (.int .i64 f)) (go_keep) (first
      | (go_at_call 18; refine (HOA.out _ b03).mono ?_; rintro z w4 ⟨v1, rfl, q1, b4⟩; have l4 := l3.later b4; have b04 := below_trans b03 b4; obtain ⟨-, ⟨p0, p1, p2, p3, p4, p5⟩, -⟩ := id l4; clear b03)
      | (go_at_call 18; refine (HOB.out _ b04).mono ?_; rintro z w5 ⟨v2, rfl, q2, b5⟩; have l5 := l4.later b5; have b05 := below_trans b04 b5; have q15 := q1.later b5; obtain ⟨-, ⟨t0, t1, t2, t3, t4, t5⟩, -⟩ := id l5)
      | (go_at_call 19; refine (HRF.out _ _ w5 ⟨_, rfl, q15⟩ ⟨_, rfl, q2⟩).mono ?_; rintro z w6 ⟨rfl, b6⟩; have l6 := l5.later b6; have b06 := below_trans b05 b6; obtain ⟨-, ⟨u0, u1, u2, u3, u4, u5⟩, -⟩ := id l6))
    clear HOA HOB HRF c0 c1 c2 c3 c4 c5 p0 p1 p2 p3 p4 p5 t0 t1 t2 t3 t4 t5 u0 u1 u2 u3 u4 u5
    by_cases h2 : 0 < g
    · have H2 : Hid (0 < g) := h2
      go_wp2
      go_ret
      exact ⟨by first | rfl | rw [if_pos H2.out], b06⟩
    · have H2 : Hid (¬0 < g) := h2
      go_wp2
      go_ret
      exact ⟨by first | rfl | rw [if_neg H2.out], b06⟩
  · rw [if_neg h]
    have h3 : (c == 0) = false := by simp [h]
    clear HO
    go_enter Tryz.func29, Tryz.ntmps29
    go_wp2_with fail
    refine hc.mono ?_
    rintro z w2 ⟨rfl, b2⟩
    have b02 := below_trans bA b2
    clear hc
    go_wp2
    go_quiet (fail)
    go_wp2
    go_ret
    exact ⟨rfl, below_drewN b02 _⟩
end Go.Proofs.YtmjhlflemfkflaaGreatDoor
/-
  Balls: ball.least and ball.wrong of what has been looked at.
-/
namespace Go.Proofs.YtmjhlflemfkflaaGreatDoor
open Go.RowKit

/-- The least ball with some numbers in it. -/
def leastR (x : Nat → Trip) (m : Nat) (n : Int) : Trip × Trip × Int := ballR (shortT (cutT (loT x (m - 1)) n false)) (shortT (cutT (hiT x (m - 1)) n true))

theorem bleast_ok (n : Int) (b : Nat) (m : Nat) (x : Nat → Trip) (ao : Nat → Option Addr) (ca : Nat → Nat) (w : World) (hm : 2 ≤ m) (hm2 : m ≤ 4) (hb : b < w.heap.size)
    (hc : ∀ j, j < m → w.cell? ⟨b, 3 * j, none⟩ = some (.bool (x j).s) ∧ w.cell? ⟨b, 3 * j + 1, none⟩ = some (.slice (ao j) (Dg.dg 4294967296 (x j).n).length (ca j)) ∧ w.cell? ⟨b, 3 * j + 2, none⟩ = some (.int .i64 (x j).e) ∧ Rd w .u32 (.slice (ao j) (Dg.dg 4294967296 (x j).n).length (ca j)) (Dg.dg 4294967296 (x j).n))
    (hn1 : 1 ≤ n) (hn2 : n ≤ 4096) (hL : ∀ j, j < m → (Dg.dg 4294967296 (x j).n).length ≤ 9000) (he1 : ∀ j, j < m → -100000 ≤ (x j).e) (he2 : ∀ j, j < m → (x j).e ≤ 100000) (hT : Tab w) :
    Calls Tryz.prog 27 #[.int .i64 n, .slice (some ⟨b, 0, none⟩) m m] w (BOwn w (leastR x m n)) := by
  refine bleast_any n b m x ao ca w hm hm2 hb (fun j hj => (hc j hj).1) (fun j hj => (hc j hj).2.1) (fun j hj => (hc j hj).2.2.1) (fun j k w1 hj hk b1 => ?_) (fun j up w1 hj b1 => ?_) (fun j up v w1 hj b1 hv => ?_)
  · exact dcompareL_any _ _ (x j) (x k) w1 ⟨_, rfl, (hc j hj).2.2.2.later b1⟩ ⟨_, rfl, (hc k hk).2.2.2.later b1⟩ (by have := hL j hj; omega) (by have := hL k hk; omega) (he1 j hj) (he2 j hj) (he1 k hk) (he2 k hk)
  · exact dcutL_any _ (x j) n up w1 ⟨_, rfl, (hc j hj).2.2.2.later b1⟩ (hL j hj) (by have := he1 j hj; omega) (by have := he2 j hj; omega) hn1 hn2 (hT.later b1)
  · have h1 := cutT_len (b := n) (up := up) (hL j hj) (by omega)
    have h2 := cutT_e (b := n) (up := up) (hL j hj) hn1
    have h3 := he1 j hj
    have h4 := he2 j hj
    exact dshort_any v _ w1 hv (by omega) ⟨by omega, by omega⟩ (hT.later b1) (by have := tz_fits _ 9001 h1; omega)

/-- A number that has been looked at. -/
theorem num_ok {xs : List Nat} {e : Int} (h : dchk xs e = 0) (sa : Dg.Small 4294967296 xs) : Dg.Norm xs ∧ Dg.dg 4294967296 (Dg.vl 4294967296 xs) = xs ∧ xs.length ≤ 1200 ∧ -20000 ≤ e ∧ e ≤ 20000 := by
  obtain ⟨c1, e1, e2⟩ := dchk_zero h
  obtain ⟨z1, z2⟩ := chk_zero c1
  exact ⟨z1, (Dg.eq_dg 4294967296 (by omega) xs _ sa z1 rfl).symm, z2, e1, e2⟩

theorem bchk_zero {s t : Bool} {xs ys : List Nat} {e f : Int} (h : bchk s xs e t ys f = 0) : dchk xs e = 0 ∧ dchk ys f = 0 ∧ cmpT ⟨s, Dg.vl 4294967296 xs, e⟩ ⟨t, Dg.vl 4294967296 ys, f⟩ ≤ 0 := by
  unfold bchk at h
  by_cases h1 : dchk2 xs e ys f = 0
  · rw [if_pos h1] at h
    obtain ⟨a, b⟩ := dchk2_zero h1
    refine ⟨a, b, ?_⟩
    by_cases h2 : 0 < signT (plusT ⟨s, Dg.vl 4294967296 xs, e⟩ (negT ⟨t, Dg.vl 4294967296 ys, f⟩))
    · rw [if_pos h2] at h; omega
    · unfold cmpT; omega
  · rw [if_neg h1] at h; exact absurd h h1

theorem wrong2_zero {n c d : Int} (h : wrong2 n c d = 0) : c = 0 ∧ d = 0 ∧ 1 ≤ n ∧ n ≤ 4096 := by
  unfold wrong2 at h
  by_cases h1 : c = 0
  · rw [if_pos h1] at h
    unfold wrong1 at h
    by_cases h2 : d = 0
    · rw [if_pos h2] at h
      unfold bitR at h
      by_cases h3 : n < 1 ∨ 4096 < n
      · rw [if_pos h3] at h; omega
      · exact ⟨h1, h2, by omega, by omega⟩
    · rw [if_neg h2] at h; exact absurd h h2
  · rw [if_neg h1] at h; exact absurd h h1

theorem wrong1_zero {n d : Int} (h : wrong1 n d = 0) : d = 0 ∧ 1 ≤ n ∧ n ≤ 4096 := by
  unfold wrong1 at h
  by_cases h2 : d = 0
  · rw [if_pos h2] at h
    unfold bitR at h
    by_cases h3 : n < 1 ∨ 4096 < n
    · rw [if_pos h3] at h; omega
    · exact ⟨h2, by omega, by omega⟩
  · rw [if_neg h2] at h; exact absurd h h2

theorem bwrong2_ok (n : Int) (b : Nat) (s : Bool) (ao : Option Addr) (ca : Nat) (xs : List Nat) (e : Int) (t : Bool) (bo : Option Addr) (cb : Nat) (ys : List Nat) (f : Int) (r : Bool) (co : Option Addr) (cc : Nat) (zs : List Nat) (g : Int) (u : Bool) (d' : Option Addr) (cd : Nat) (us : List Nat) (k : Int) (w0 : World)
    (ha : Rd w0 .u32 (.slice ao xs.length ca) xs) (hb : Rd w0 .u32 (.slice bo ys.length cb) ys) (hc : Rd w0 .u32 (.slice co zs.length cc) zs) (hd : Rd w0 .u32 (.slice d' us.length cd) us) (sa : Dg.Small 4294967296 xs) (sb : Dg.Small 4294967296 ys) (sc : Dg.Small 4294967296 zs) (sd : Dg.Small 4294967296 us)
    (w : World) (bw : Below w0.heap.size w0 w)
    (h : w.cell? ⟨b, 0, none⟩ = some (.bool s) ∧ w.cell? ⟨b, 1, none⟩ = some (.slice ao xs.length ca) ∧ w.cell? ⟨b, 2, none⟩ = some (.int .i64 e) ∧ w.cell? ⟨b, 3, none⟩ = some (.bool t) ∧ w.cell? ⟨b, 4, none⟩ = some (.slice bo ys.length cb) ∧ w.cell? ⟨b, 5, none⟩ = some (.int .i64 f) ∧ w.cell? ⟨b, 6, none⟩ = some (.bool r) ∧ w.cell? ⟨b, 7, none⟩ = some (.slice co zs.length cc) ∧ w.cell? ⟨b, 8, none⟩ = some (.int .i64 g) ∧ w.cell? ⟨b, 9, none⟩ = some (.bool u) ∧ w.cell? ⟨b, 10, none⟩ = some (.slice d' us.length cd) ∧ w.cell? ⟨b, 11, none⟩ = some (.int .i64 k)) :
    Calls Tryz.prog 24 #[.int .i64 n, .slice (some ⟨b, 0, none⟩) 2 2] w fun z w' => z = .returned (.int .i64 (wrong2 n (bchk s xs e t ys f) (bchk r zs g u us k))) ∧ Below w.heap.size w w' := by
  obtain ⟨h0, h1, h2, h3, h4, h5, j0, j1, j2, j3, j4, j5⟩ := h
  exact bwrong2_any n b s ao ca xs.length e t bo cb ys.length f _ r co cc zs.length g u d' cd us.length k _ w h0 h1 h2 h3 h4 h5 j0 j1 j2 j3 j4 j5
    (fun w1 b1 => bcheck_any s ao ca xs e t bo cb ys f w1 (ha.later (below_trans bw b1)) (hb.later (below_trans bw b1)) sa sb)
    (fun w1 b1 => bcheck_any r co cc zs g u d' cd us k w1 (hc.later (below_trans bw b1)) (hd.later (below_trans bw b1)) sc sd)
end Go.Proofs.YtmjhlflemfkflaaGreatDoor

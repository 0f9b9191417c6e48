/-
  Balls: the law BallHolds.
-/
import Derived.Test.YtfajoaopfedokaaDoorBl25
import Derived.Test.YtfajoaopfedokaaDoorBm5
import Derived.Deep.Cut
namespace Go.Proofs.YtfajoaopfedokaaDoor
open Go.RowKit

set_option maxRecDepth 100000 in
set_option maxHeartbeats 60000000 in
theorem bHoldsW_any (s : Bool) (ao : Option Addr) (ca la : Nat) (e : Int) (t : Bool) (bo : Option Addr) (cb lb : Nat) (f : Int) (r : Bool) (co : Option Addr) (cc lc : Nat) (g : Int) (u : Bool) (d' : Option Addr) (cd ld : Nat) (k : Int) (xs : Bool) (xo : Option Addr) (xc xl : Nat) (xe : Int) (ys : Bool) (yo : Option Addr) (yc yl : Nat) (ye : Int) (n : Int) (pv qv : Bool) (pe qe : Int) (s1s : Bool) (s1n : Nat) (s1e c1 : Int) (p1s : Bool) (p1n : Nat) (p1e : Int) (q1s : Bool) (q1n : Nat) (q1e d1 : Int) (s2s : Bool) (s2n : Nat) (s2e c2 : Int) (p2s : Bool) (p2n : Nat) (p2e : Int) (q2s : Bool) (q2n : Nat) (q2e d2 : Int) (s3s : Bool) (s3n : Nat) (s3e c3 : Int) (p3s : Bool) (p3n : Nat) (p3e : Int) (q3s : Bool) (q3n : Nat) (q3e d3 : Int) (w : World)
    (HB : ∀ w1, Below w.heap.size w w1 → Calls Tryd.prog 29 #[] w1 fun z w' => z = .returned (.bool true) ∧ Below w1.heap.size w1 w')
    (HP : ∀ w1, Below w.heap.size w w1 → Calls Tryd.prog 32 #[.agg #[.bool s, .slice ao la ca, .int .i64 e, .bool t, .slice bo lb cb, .int .i64 f], .agg #[.bool xs, .slice xo xl xc, .int .i64 xe]] w1 fun z w' => z = .returned (.tuple #[.bool pv, .int .i64 pe]) ∧ Below w1.heap.size w1 w')
    (HQ : ∀ w1, Below w.heap.size w w1 → Calls Tryd.prog 32 #[.agg #[.bool r, .slice co lc cc, .int .i64 g, .bool u, .slice d' ld cd, .int .i64 k], .agg #[.bool ys, .slice yo yl yc, .int .i64 ye]] w1 fun z w' => z = .returned (.tuple #[.bool qv, .int .i64 qe]) ∧ Below w1.heap.size w1 w')
    (HS1 : ∀ w1, Below w.heap.size w w1 → Calls Tryd.prog 48 #[.agg #[.bool xs, .slice xo xl xc, .int .i64 xe], .agg #[.bool ys, .slice yo yl yc, .int .i64 ye]] w1 (DAns w1 (⟨s1s, s1n, s1e⟩, c1)))
    (HC1 : ∀ w1, Below w.heap.size w w1 → Calls Tryd.prog 35 #[.agg #[.bool s, .slice ao la ca, .int .i64 e, .bool t, .slice bo lb cb, .int .i64 f], .agg #[.bool r, .slice co lc cc, .int .i64 g, .bool u, .slice d' ld cd, .int .i64 k], .int .i64 n] w1 (BOwn w1 (⟨p1s, p1n, p1e⟩, ⟨q1s, q1n, q1e⟩, d1)))
    (HH1 : pv = true → qv = true → c1 = 0 → d1 = 0 → ∀ po pc qo qc so sc w1, Rd w1 .u32 (.slice po (Dg.dg 4294967296 p1n).length pc) (Dg.dg 4294967296 p1n) → Rd w1 .u32 (.slice qo (Dg.dg 4294967296 q1n).length qc) (Dg.dg 4294967296 q1n) → Rd w1 .u32 (.slice so (Dg.dg 4294967296 s1n).length sc) (Dg.dg 4294967296 s1n) → Calls Tryd.prog 32 #[.agg #[.bool p1s, .slice po (Dg.dg 4294967296 p1n).length pc, .int .i64 p1e, .bool q1s, .slice qo (Dg.dg 4294967296 q1n).length qc, .int .i64 q1e], .agg #[.bool s1s, .slice so (Dg.dg 4294967296 s1n).length sc, .int .i64 s1e]] w1 fun z w' => z = .returned (.tuple #[.bool true, .int .i64 0]) ∧ Below w1.heap.size w1 w')
    (HS2 : ∀ w1, Below w.heap.size w w1 → Calls Tryd.prog 48 #[.agg #[.bool xs, .slice xo xl xc, .int .i64 xe], .agg #[.bool (!ys), .slice yo yl yc, .int .i64 ye]] w1 (DAns w1 (⟨s2s, s2n, s2e⟩, c2)))
    (HC2 : ∀ w1, Below w.heap.size w w1 → Calls Tryd.prog 39 #[.agg #[.bool s, .slice ao la ca, .int .i64 e, .bool t, .slice bo lb cb, .int .i64 f], .agg #[.bool r, .slice co lc cc, .int .i64 g, .bool u, .slice d' ld cd, .int .i64 k], .int .i64 n] w1 (BOwn w1 (⟨p2s, p2n, p2e⟩, ⟨q2s, q2n, q2e⟩, d2)))
    (HH2 : pv = true → qv = true → c2 = 0 → d2 = 0 → ∀ po pc qo qc so sc w1, Rd w1 .u32 (.slice po (Dg.dg 4294967296 p2n).length pc) (Dg.dg 4294967296 p2n) → Rd w1 .u32 (.slice qo (Dg.dg 4294967296 q2n).length qc) (Dg.dg 4294967296 q2n) → Rd w1 .u32 (.slice so (Dg.dg 4294967296 s2n).length sc) (Dg.dg 4294967296 s2n) → Calls Tryd.prog 32 #[.agg #[.bool p2s, .slice po (Dg.dg 4294967296 p2n).length pc, .int .i64 p2e, .bool q2s, .slice qo (Dg.dg 4294967296 q2n).length qc, .int .i64 q2e], .agg #[.bool s2s, .slice so (Dg.dg 4294967296 s2n).length sc, .int .i64 s2e]] w1 fun z w' => z = .returned (.tuple #[.bool true, .int .i64 0]) ∧ Below w1.heap.size w1 w')
    (HS3 : ∀ w1, Below w.heap.size w w1 → Calls Tryd.prog 49 #[.agg #[.bool xs, .slice xo xl xc, .int .i64 xe], .agg #[.bool ys, .slice yo yl yc, .int .i64 ye]] w1 (DAns w1 (⟨s3s, s3n, s3e⟩, c3)))
    (HC3 : ∀ w1, Below w.heap.size w w1 → Calls Tryd.prog 41 #[.agg #[.bool s, .slice ao la ca, .int .i64 e, .bool t, .slice bo lb cb, .int .i64 f], .agg #[.bool r, .slice co lc cc, .int .i64 g, .bool u, .slice d' ld cd, .int .i64 k], .int .i64 n] w1 (BOwn w1 (⟨p3s, p3n, p3e⟩, ⟨q3s, q3n, q3e⟩, d3)))
    (HH3 : pv = true → qv = true → c3 = 0 → d3 = 0 → ∀ po pc qo qc so sc w1, Rd w1 .u32 (.slice po (Dg.dg 4294967296 p3n).length pc) (Dg.dg 4294967296 p3n) → Rd w1 .u32 (.slice qo (Dg.dg 4294967296 q3n).length qc) (Dg.dg 4294967296 q3n) → Rd w1 .u32 (.slice so (Dg.dg 4294967296 s3n).length sc) (Dg.dg 4294967296 s3n) → Calls Tryd.prog 32 #[.agg #[.bool p3s, .slice po (Dg.dg 4294967296 p3n).length pc, .int .i64 p3e, .bool q3s, .slice qo (Dg.dg 4294967296 q3n).length qc, .int .i64 q3e], .agg #[.bool s3s, .slice so (Dg.dg 4294967296 s3n).length sc, .int .i64 s3e]] w1 fun z w' => z = .returned (.tuple #[.bool true, .int .i64 0]) ∧ Below w1.heap.size w1 w') :
    Calls Tryd.prog 12 #[.agg #[.bool s, .slice ao la ca, .int .i64 e, .bool t, .slice bo lb cb, .int .i64 f], .agg #[.bool r, .slice co lc cc, .int .i64 g, .bool u, .slice d' ld cd, .int .i64 k], .agg #[.bool xs, .slice xo xl xc, .int .i64 xe], .agg #[.bool ys, .slice yo yl yc, .int .i64 ye], .int .i64 n] w fun z w' => z = .returned (.bool true) ∧ Below w.heap.size w w' := by
  replace HB : Hid _ := HB
  replace HP : Hid _ := HP
  replace HQ : Hid _ := HQ
  replace HS1 : Hid _ := HS1
  replace HC1 : Hid _ := HC1
  replace HH1 : Hid _ := HH1
  replace HS2 : Hid _ := HS2
  replace HC2 : Hid _ := HC2
  replace HH2 : Hid _ := HH2
  replace HS3 : Hid _ := HS3
  replace HC3 : Hid _ := HC3
  replace HH3 : Hid _ := HH3
  have b1 := below_trans (below_trans (below_trans (below_alloc w (.cells #[.bool s, .slice ao la ca, .int .i64 e, .bool t, .slice bo lb cb, .int .i64 f] 43)) (below_alloc _ (.cells #[.bool r, .slice co lc cc, .int .i64 g, .bool u, .slice d' ld cd, .int .i64 k] 43))) (below_alloc _ (.cells #[.bool xs, .slice xo xl xc, .int .i64 xe] 25))) (below_alloc _ (.cells #[.bool ys, .slice yo yl yc, .int .i64 ye] 25))
  have l1 := (((loc6_new w (.bool s) (.slice ao la ca) (.int .i64 e) (.bool t) (.slice bo lb cb) (.int .i64 f) 43).later (below_alloc _ (.cells #[.bool r, .slice co lc cc, .int .i64 g, .bool u, .slice d' ld cd, .int .i64 k] 43))).later (below_alloc _ (.cells #[.bool xs, .slice xo xl xc, .int .i64 xe] 25))).later (below_alloc _ (.cells #[.bool ys, .slice yo yl yc, .int .i64 ye] 25))
  have m1 := ((loc6_new (w.alloc (.cells #[.bool s, .slice ao la ca, .int .i64 e, .bool t, .slice bo lb cb, .int .i64 f] 43)) (.bool r) (.slice co lc cc) (.int .i64 g) (.bool u) (.slice d' ld cd) (.int .i64 k) 43).later (below_alloc _ (.cells #[.bool xs, .slice xo xl xc, .int .i64 xe] 25))).later (below_alloc _ (.cells #[.bool ys, .slice yo yl yc, .int .i64 ye] 25))
  have x1 := (loc_new ((w.alloc (.cells #[.bool s, .slice ao la ca, .int .i64 e, .bool t, .slice bo lb cb, .int .i64 f] 43)).alloc (.cells #[.bool r, .slice co lc cc, .int .i64 g, .bool u, .slice d' ld cd, .int .i64 k] 43)) (.bool xs) (.slice xo xl xc) (.int .i64 xe) 25).later (below_alloc _ (.cells #[.bool ys, .slice yo yl yc, .int .i64 ye] 25))
  have y1 := loc_new (((w.alloc (.cells #[.bool s, .slice ao la ca, .int .i64 e, .bool t, .slice bo lb cb, .int .i64 f] 43)).alloc (.cells #[.bool r, .slice co lc cc, .int .i64 g, .bool u, .slice d' ld cd, .int .i64 k] 43)).alloc (.cells #[.bool xs, .slice xo xl xc, .int .i64 xe] 25)) (.bool ys) (.slice yo yl yc) (.int .i64 ye) 25
  simp only [World.size_alloc] at m1 x1 y1
  go_enter Tryd.func12, Tryd.ntmps12
  go_wp2_with fail
  refine (HB.out _ b1).mono ?_
  rintro z w2 ⟨rfl, b2⟩
  have l2 := l1.later b2
  have m2 := m1.later b2
  have x2 := x1.later b2
  have y2 := y1.later b2
  have b02 := below_trans b1 b2
  clear l1 m1 x1 y1 b1 b2
  obtain ⟨-, ⟨ca0, ca1, ca2, ca3, ca4, ca5⟩, -⟩ := id l2
  obtain ⟨-, ⟨cb0, cb1, cb2, cb3, cb4, cb5⟩, -⟩ := id m2
  obtain ⟨-, ⟨cx0, cx1, cx2⟩, -⟩ := id x2
  obtain ⟨-, ⟨cy0, cy1, cy2⟩, -⟩ := id y2
  go_wp2_with fail
  refine (HP.out _ b02).mono ?_
  rintro z w3 ⟨rfl, b3⟩
  have l3 := l2.later b3
  have m3 := m2.later b3
  have x3 := x2.later b3
  have y3 := y2.later b3
  have b03 := below_trans b02 b3
  clear ca0 ca1 ca2 ca3 ca4 ca5 cb0 cb1 cb2 cb3 cb4 cb5 cx0 cx1 cx2 cy0 cy1 cy2
  clear l2 m2 x2 y2 b02
  clear b3
  obtain ⟨-, ⟨ca0, ca1, ca2, ca3, ca4, ca5⟩, -⟩ := id l3
  obtain ⟨-, ⟨cb0, cb1, cb2, cb3, cb4, cb5⟩, -⟩ := id m3
  obtain ⟨-, ⟨cx0, cx1, cx2⟩, -⟩ := id x3
  obtain ⟨-, ⟨cy0, cy1, cy2⟩, -⟩ := id y3
  go_wp2_with fail
  refine (HQ.out _ b03).mono ?_
  rintro z w4 ⟨rfl, b4⟩
  have l4 := l3.later b4
  have m4 := m3.later b4
  have x4 := x3.later b4
  have y4 := y3.later b4
  have b04 := below_trans b03 b4
  clear ca0 ca1 ca2 ca3 ca4 ca5 cb0 cb1 cb2 cb3 cb4 cb5 cx0 cx1 cx2 cy0 cy1 cy2
  clear l3 m3 x3 y3 b03
  clear b4
  obtain ⟨-, ⟨ca0, ca1, ca2, ca3, ca4, ca5⟩, -⟩ := id l4
  obtain ⟨-, ⟨cb0, cb1, cb2, cb3, cb4, cb5⟩, -⟩ := id m4
  obtain ⟨-, ⟨cx0, cx1, cx2⟩, -⟩ := id x4
  obtain ⟨-, ⟨cy0, cy1, cy2⟩, -⟩ := id y4
  by_cases hpe : pe = 0
  · subst hpe
    by_cases hqe : qe = 0
    · subst hqe
      cases pv
      · go_wp2
        go_ret
        exact ⟨rfl, b04⟩
      · cases qv
        · go_wp2
          go_ret
          exact ⟨rfl, b04⟩
        · go_wp2_with fail
          refine (HS1.out _ b04).mono ?_
          rintro z w5 ⟨v1, rfl, os1, b5⟩
          obtain ⟨o1, k1, hv⟩ := os1.rd.shape
          subst hv
          simp only at os1 ⊢
          have a5 := below_alloc w5 (.cells #[.bool s1s, .slice o1 (Dg.dg 4294967296 s1n).length k1, .int .i64 s1e] 25)
          have sS5 := loc_new w5 (.bool s1s) (.slice o1 (Dg.dg 4294967296 s1n).length k1) (.int .i64 s1e) 25
          have l5 := (l4.later b5).later a5
          have m5 := (m4.later b5).later a5
          have x5 := (x4.later b5).later a5
          have y5 := (y4.later b5).later a5
          have rs5 := os1.rd.later a5
          have b05 := below_trans (below_trans b04 b5) a5
          have hS4 : w.heap.size + 1 + 1 + 1 < w5.heap.size := (y4.later b5).1
          clear ca0 ca1 ca2 ca3 ca4 ca5 cb0 cb1 cb2 cb3 cb4 cb5 cx0 cx1 cx2 cy0 cy1 cy2
          clear l4 m4 x4 y4 b04 b5 a5 os1 HS1
          obtain ⟨-, ⟨ca0, ca1, ca2, ca3, ca4, ca5⟩, -⟩ := id l5
          obtain ⟨-, ⟨cb0, cb1, cb2, cb3, cb4, cb5⟩, -⟩ := id m5
          obtain ⟨-, ⟨cx0, cx1, cx2⟩, -⟩ := id x5
          obtain ⟨-, ⟨cy0, cy1, cy2⟩, -⟩ := id y5
          go_wp2_with fail
          refine (HC1.out _ b05).mono ?_
          rintro z w6 ⟨pp, qq, rfl, op1, oq1, b6⟩
          obtain ⟨po1, pc1, hv⟩ := op1.rd.shape
          subst hv
          obtain ⟨qo1, qc1, hv⟩ := oq1.rd.shape
          subst hv
          simp only at op1 oq1 ⊢
          have a6 := below_alloc w6 (.cells #[.bool p1s, .slice po1 (Dg.dg 4294967296 p1n).length pc1, .int .i64 p1e, .bool q1s, .slice qo1 (Dg.dg 4294967296 q1n).length qc1, .int .i64 q1e] 43)
          have cC6 := loc6_new w6 (.bool p1s) (.slice po1 (Dg.dg 4294967296 p1n).length pc1) (.int .i64 p1e) (.bool q1s) (.slice qo1 (Dg.dg 4294967296 q1n).length qc1) (.int .i64 q1e) 43
          have l6 := (l5.later b6).later a6
          have m6 := (m5.later b6).later a6
          have x6 := (x5.later b6).later a6
          have y6 := (y5.later b6).later a6
          have sS6 := (sS5.later b6).later a6
          have rs6 := (rs5.later b6).later a6
          have rp6 := op1.rd.later a6
          have rq6 := oq1.rd.later a6
          have b06 := below_trans (below_trans b05 b6) a6
          have hSC : w5.heap.size < w6.heap.size := (sS5.later b6).1
          clear ca0 ca1 ca2 ca3 ca4 ca5 cb0 cb1 cb2 cb3 cb4 cb5 cx0 cx1 cx2 cy0 cy1 cy2
          clear l5 m5 x5 y5 sS5 rs5 b05 b6 a6 op1 oq1 HC1
          by_cases h1a : c1 = 0
          · subst h1a
            by_cases h1b : d1 = 0
            · subst h1b
              obtain ⟨-, ⟨e0, e1, e2, e3, e4, e5⟩, -⟩ := id cC6
              obtain ⟨-, ⟨f0, f1, f2⟩, -⟩ := id sS6
              go_wp2_with fail
              generalize (w6.alloc (.cells #[.bool p1s, .slice po1 (Dg.dg 4294967296 p1n).length pc1, .int .i64 p1e, .bool q1s, .slice qo1 (Dg.dg 4294967296 q1n).length qc1, .int .i64 q1e] 43)) = V6 at cC6 l6 m6 x6 y6 sS6 b06 rs6 rp6 rq6 e0 e1 e2 e3 e4 e5 f0 f1 f2 ⊢
              generalize w6.heap.size = C at cC6 hSC e0 e1 e2 e3 e4 e5 ⊢
              generalize w5.heap.size = S at sS6 hSC hS4 f0 f1 f2 ⊢
              refine (HH1.out (by simp) (by simp) (by simp) (by simp) _ _ _ _ _ _ _ rp6 rq6 rs6).mono ?_
              rintro z w21 ⟨rfl, bb⟩
              have l21 := l6.later bb
              have m21 := m6.later bb
              have x21 := x6.later bb
              have y21 := y6.later bb
              have cC21 := cC6.later bb
              have sS21 := sS6.later bb
              have b021 := below_trans b06 bb
              clear bb e0 e1 e2 e3 e4 e5 f0 f1 f2 rs6 rp6 rq6 HH1
              clear l6 m6 x6 y6 cC6 sS6 b06
              have az := below_alloc w21 (.cells #[.bool (!ys), .slice yo yl yc, .int .i64 ye] 25)
              have zz := loc_new w21 (.bool (!ys)) (.slice yo yl yc) (.int .i64 ye) 25
              have l22 := l21.later az
              have m22 := m21.later az
              have x22 := x21.later az
              have y22 := y21.later az
              have cC22 := cC21.later az
              have sS22 := sS21.later az
              have b022 := below_trans b021 az
              obtain ⟨-, ⟨ca0, ca1, ca2, ca3, ca4, ca5⟩, -⟩ := id l22
              obtain ⟨-, ⟨cb0, cb1, cb2, cb3, cb4, cb5⟩, -⟩ := id m22
              obtain ⟨-, ⟨cx0, cx1, cx2⟩, -⟩ := id x22
              obtain ⟨-, ⟨cy0, cy1, cy2⟩, -⟩ := id y22
              obtain ⟨-, ⟨g0, g1, g2⟩, -⟩ := id zz
              obtain ⟨-, ⟨y0', y1', y2'⟩, -⟩ := id y21
              go_wp2_with fail
              clear l21 m21 x21 y21 cC21 sS21 b021
              refine (HS2.out _ b022).mono ?_
              rintro z v23 ⟨vv, rfl, os, bb⟩
              obtain ⟨o2, k2, hv⟩ := os.rd.shape
              subst hv
              simp only at os ⊢
              have hSb := sS22.1
              have hCb := cC22.1
              have l23 := l22.later bb
              have m23 := m22.later bb
              have x23 := x22.later bb
              have y23 := y22.later bb
              have cC23 := cC22.later bb
              have sS23 := sS22.later bb
              have b023 := below_trans b022 bb
              clear ca0 ca1 ca2 ca3 ca4 ca5 cb0 cb1 cb2 cb3 cb4 cb5 cx0 cx1 cx2 cy0 cy1 cy2
              clear bb HS2
              clear l22 m22 x22 y22 cC22 sS22 b022
              clear az zz g0 g1 g2 y0' y1' y2'
              have hSw : w.heap.size ≤ S := by omega
              have hCw : w.heap.size ≤ C := by omega
              have nSl : S ≠ w.heap.size := by omega
              have nSm : S ≠ w.heap.size + 1 := by omega
              have nSx : S ≠ w.heap.size + 1 + 1 := by omega
              have nSy : S ≠ w.heap.size + 1 + 1 + 1 := by omega
              have nSc : S ≠ C := by omega
              have nCl : C ≠ w.heap.size := by omega
              have nCm : C ≠ w.heap.size + 1 := by omega
              have nCx : C ≠ w.heap.size + 1 + 1 := by omega
              have nCy : C ≠ w.heap.size + 1 + 1 + 1 := by omega
              have nCs : C ≠ S := by omega
              obtain ⟨-, ⟨i0, i1, i2⟩, j0, j1, j2⟩ := id sS23
              have sS24 := loc_set sS23 (.bool s2s) (.slice o2 (Dg.dg 4294967296 s2n).length k2) (.int .i64 s2e)
              have l24 := l23.apart3 (c := S) (by omega) (.bool s2s) (.slice o2 (Dg.dg 4294967296 s2n).length k2) (.int .i64 s2e)
              have m24 := m23.apart3 (c := S) (by omega) (.bool s2s) (.slice o2 (Dg.dg 4294967296 s2n).length k2) (.int .i64 s2e)
              have x24 := x23.apart (c := S) (by omega) (.bool s2s) (.slice o2 (Dg.dg 4294967296 s2n).length k2) (.int .i64 s2e)
              have y24 := y23.apart (c := S) (by omega) (.bool s2s) (.slice o2 (Dg.dg 4294967296 s2n).length k2) (.int .i64 s2e)
              have cC24 := cC23.apart3 (c := S) (by omega) (.bool s2s) (.slice o2 (Dg.dg 4294967296 s2n).length k2) (.int .i64 s2e)
              replace os := os.apart3 (b := S) hSb (.bool s2s) (.slice o2 (Dg.dg 4294967296 s2n).length k2) (.int .i64 s2e)
              have b024 := below_set3 b023 hSw (.bool s2s) (.slice o2 (Dg.dg 4294967296 s2n).length k2) (.int .i64 s2e)
              clear l23 m23 x23 y23 cC23 sS23 b023 hSb
              obtain ⟨-, ⟨ca0, ca1, ca2, ca3, ca4, ca5⟩, -⟩ := id l24
              obtain ⟨-, ⟨cb0, cb1, cb2, cb3, cb4, cb5⟩, -⟩ := id m24
              obtain ⟨-, ⟨cx0, cx1, cx2⟩, -⟩ := id x24
              obtain ⟨-, ⟨cy0, cy1, cy2⟩, -⟩ := id y24
              go_wp2_with fail
              generalize (((v23.setCell ⟨S, 0, none⟩ (.bool s2s)).setCell ⟨S, 1, none⟩ (.slice o2 (Dg.dg 4294967296 s2n).length k2)).setCell ⟨S, 2, none⟩ (.int .i64 s2e)) = V24 at l24 m24 x24 y24 cC24 sS24 os b024 ca0 ca1 ca2 ca3 ca4 ca5 cb0 cb1 cb2 cb3 cb4 cb5 cx0 cx1 cx2 cy0 cy1 cy2 ⊢
              clear i0 i1 i2 j0 j1 j2
              refine (HC2.out _ b024).mono ?_
              rintro z v25 ⟨pp, qq, rfl, op, oq, bb⟩
              obtain ⟨po2, pc2, hv⟩ := op.rd.shape
              subst hv
              obtain ⟨qo2, qc2, hv⟩ := oq.rd.shape
              subst hv
              simp only at op oq ⊢
              have hCd := cC24.1
              replace os := os.later bb
              have l25 := l24.later bb
              have m25 := m24.later bb
              have x25 := x24.later bb
              have y25 := y24.later bb
              have cC25 := cC24.later bb
              have sS25 := sS24.later bb
              have b025 := below_trans b024 bb
              clear ca0 ca1 ca2 ca3 ca4 ca5 cb0 cb1 cb2 cb3 cb4 cb5 cx0 cx1 cx2 cy0 cy1 cy2
              clear bb HC2
              clear l24 m24 x24 y24 cC24 sS24 b024
              obtain ⟨-, ⟨i0, i1, i2, i3, i4, i5⟩, j0, j1, j2, j3, j4, j5⟩ := id cC25
              have cC26 := loc6_set cC25 (.bool p2s) (.slice po2 (Dg.dg 4294967296 p2n).length pc2) (.int .i64 p2e) (.bool q2s) (.slice qo2 (Dg.dg 4294967296 q2n).length qc2) (.int .i64 q2e)
              have l26 := l25.off6 (c := C) (by omega) (.bool p2s) (.slice po2 (Dg.dg 4294967296 p2n).length pc2) (.int .i64 p2e) (.bool q2s) (.slice qo2 (Dg.dg 4294967296 q2n).length qc2) (.int .i64 q2e)
              have m26 := m25.off6 (c := C) (by omega) (.bool p2s) (.slice po2 (Dg.dg 4294967296 p2n).length pc2) (.int .i64 p2e) (.bool q2s) (.slice qo2 (Dg.dg 4294967296 q2n).length qc2) (.int .i64 q2e)
              have x26 := (x25.apart (c := C) (by omega) (.bool p2s) (.slice po2 (Dg.dg 4294967296 p2n).length pc2) (.int .i64 p2e)).apart3h (c := C) (by omega) (.bool q2s) (.slice qo2 (Dg.dg 4294967296 q2n).length qc2) (.int .i64 q2e)
              have y26 := (y25.apart (c := C) (by omega) (.bool p2s) (.slice po2 (Dg.dg 4294967296 p2n).length pc2) (.int .i64 p2e)).apart3h (c := C) (by omega) (.bool q2s) (.slice qo2 (Dg.dg 4294967296 q2n).length qc2) (.int .i64 q2e)
              have sS26 := (sS25.apart (c := C) (by omega) (.bool p2s) (.slice po2 (Dg.dg 4294967296 p2n).length pc2) (.int .i64 p2e)).apart3h (c := C) (by omega) (.bool q2s) (.slice qo2 (Dg.dg 4294967296 q2n).length qc2) (.int .i64 q2e)
              have rs26 := (os.apart6 (b := C) hCb (.bool p2s) (.slice po2 (Dg.dg 4294967296 p2n).length pc2) (.int .i64 p2e) (.bool q2s) (.slice qo2 (Dg.dg 4294967296 q2n).length qc2) (.int .i64 q2e)).rd
              have rp26 := (op.apart6 (b := C) hCd (.bool p2s) (.slice po2 (Dg.dg 4294967296 p2n).length pc2) (.int .i64 p2e) (.bool q2s) (.slice qo2 (Dg.dg 4294967296 q2n).length qc2) (.int .i64 q2e)).rd
              have rq26 := (oq.apart6 (b := C) hCd (.bool p2s) (.slice po2 (Dg.dg 4294967296 p2n).length pc2) (.int .i64 p2e) (.bool q2s) (.slice qo2 (Dg.dg 4294967296 q2n).length qc2) (.int .i64 q2e)).rd
              have b026 := below_set6 b025 hCw (.bool p2s) (.slice po2 (Dg.dg 4294967296 p2n).length pc2) (.int .i64 p2e) (.bool q2s) (.slice qo2 (Dg.dg 4294967296 q2n).length qc2) (.int .i64 q2e)
              clear l25 m25 x25 y25 cC25 sS25 b025 os op oq hCb hCd
              go_upto_region 17 with fail
              generalize ((((((v25.setCell ⟨C, 0, none⟩ (.bool p2s)).setCell ⟨C, 1, none⟩ (.slice po2 (Dg.dg 4294967296 p2n).length pc2)).setCell ⟨C, 2, none⟩ (.int .i64 p2e)).setCell ⟨C, 3, none⟩ (.bool q2s)).setCell ⟨C, 4, none⟩ (.slice qo2 (Dg.dg 4294967296 q2n).length qc2)).setCell ⟨C, 5, none⟩ (.int .i64 q2e)) = V26 at l26 m26 x26 y26 cC26 sS26 b026 rs26 rp26 rq26 ⊢
              clear i0 i1 i2 i3 i4 i5 j0 j1 j2 j3 j4 j5
              by_cases h2a : c2 = 0
              · subst h2a
                by_cases h2b : d2 = 0
                · subst h2b
                  obtain ⟨-, ⟨e0, e1, e2, e3, e4, e5⟩, -⟩ := id cC26
                  obtain ⟨-, ⟨f0, f1, f2⟩, -⟩ := id sS26
                  go_wp2_with fail
                  refine (HH2.out (by simp) (by simp) (by simp) (by simp) _ _ _ _ _ _ _ rp26 rq26 rs26).mono ?_
                  rintro z w27 ⟨rfl, bb⟩
                  have l27 := l26.later bb
                  have m27 := m26.later bb
                  have x27 := x26.later bb
                  have y27 := y26.later bb
                  have cC27 := cC26.later bb
                  have sS27 := sS26.later bb
                  have b027 := below_trans b026 bb
                  clear bb e0 e1 e2 e3 e4 e5 f0 f1 f2 rs26 rp26 rq26 HH2
                  clear l26 m26 x26 y26 cC26 sS26 b026
                  obtain ⟨-, ⟨ca0, ca1, ca2, ca3, ca4, ca5⟩, -⟩ := id l27
                  obtain ⟨-, ⟨cb0, cb1, cb2, cb3, cb4, cb5⟩, -⟩ := id m27
                  obtain ⟨-, ⟨cx0, cx1, cx2⟩, -⟩ := id x27
                  obtain ⟨-, ⟨cy0, cy1, cy2⟩, -⟩ := id y27
                  go_wp2_with fail
                  refine (HS3.out _ b027).mono ?_
                  rintro z v28 ⟨vv, rfl, os, bb⟩
                  obtain ⟨o3, k3, hv⟩ := os.rd.shape
                  subst hv
                  simp only at os ⊢
                  have hSb := sS27.1
                  have hCb := cC27.1
                  have l28 := l27.later bb
                  have m28 := m27.later bb
                  have x28 := x27.later bb
                  have y28 := y27.later bb
                  have cC28 := cC27.later bb
                  have sS28 := sS27.later bb
                  have b028 := below_trans b027 bb
                  clear ca0 ca1 ca2 ca3 ca4 ca5 cb0 cb1 cb2 cb3 cb4 cb5 cx0 cx1 cx2 cy0 cy1 cy2
                  clear bb HS3
                  clear l27 m27 x27 y27 cC27 sS27 b027
                  obtain ⟨-, ⟨i0, i1, i2⟩, j0, j1, j2⟩ := id sS28
                  have sS29 := loc_set sS28 (.bool s3s) (.slice o3 (Dg.dg 4294967296 s3n).length k3) (.int .i64 s3e)
                  have l29 := l28.apart3 (c := S) (by omega) (.bool s3s) (.slice o3 (Dg.dg 4294967296 s3n).length k3) (.int .i64 s3e)
                  have m29 := m28.apart3 (c := S) (by omega) (.bool s3s) (.slice o3 (Dg.dg 4294967296 s3n).length k3) (.int .i64 s3e)
                  have x29 := x28.apart (c := S) (by omega) (.bool s3s) (.slice o3 (Dg.dg 4294967296 s3n).length k3) (.int .i64 s3e)
                  have y29 := y28.apart (c := S) (by omega) (.bool s3s) (.slice o3 (Dg.dg 4294967296 s3n).length k3) (.int .i64 s3e)
                  have cC29 := cC28.apart3 (c := S) (by omega) (.bool s3s) (.slice o3 (Dg.dg 4294967296 s3n).length k3) (.int .i64 s3e)
                  replace os := os.apart3 (b := S) hSb (.bool s3s) (.slice o3 (Dg.dg 4294967296 s3n).length k3) (.int .i64 s3e)
                  have b029 := below_set3 b028 hSw (.bool s3s) (.slice o3 (Dg.dg 4294967296 s3n).length k3) (.int .i64 s3e)
                  clear l28 m28 x28 y28 cC28 sS28 b028 hSb
                  obtain ⟨-, ⟨ca0, ca1, ca2, ca3, ca4, ca5⟩, -⟩ := id l29
                  obtain ⟨-, ⟨cb0, cb1, cb2, cb3, cb4, cb5⟩, -⟩ := id m29
                  obtain ⟨-, ⟨cx0, cx1, cx2⟩, -⟩ := id x29
                  obtain ⟨-, ⟨cy0, cy1, cy2⟩, -⟩ := id y29
                  go_wp2_with fail
                  generalize (((v28.setCell ⟨S, 0, none⟩ (.bool s3s)).setCell ⟨S, 1, none⟩ (.slice o3 (Dg.dg 4294967296 s3n).length k3)).setCell ⟨S, 2, none⟩ (.int .i64 s3e)) = V29 at l29 m29 x29 y29 cC29 sS29 os b029 ca0 ca1 ca2 ca3 ca4 ca5 cb0 cb1 cb2 cb3 cb4 cb5 cx0 cx1 cx2 cy0 cy1 cy2 ⊢
                  clear i0 i1 i2 j0 j1 j2
                  refine (HC3.out _ b029).mono ?_
                  rintro z v30 ⟨pp, qq, rfl, op, oq, bb⟩
                  obtain ⟨po3, pc3, hv⟩ := op.rd.shape
                  subst hv
                  obtain ⟨qo3, qc3, hv⟩ := oq.rd.shape
                  subst hv
                  simp only at op oq ⊢
                  have hCd := cC29.1
                  replace os := os.later bb
                  have l30 := l29.later bb
                  have m30 := m29.later bb
                  have x30 := x29.later bb
                  have y30 := y29.later bb
                  have cC30 := cC29.later bb
                  have sS30 := sS29.later bb
                  have b030 := below_trans b029 bb
                  clear ca0 ca1 ca2 ca3 ca4 ca5 cb0 cb1 cb2 cb3 cb4 cb5 cx0 cx1 cx2 cy0 cy1 cy2
                  clear bb HC3
                  clear l29 m29 x29 y29 cC29 sS29 b029
                  obtain ⟨-, ⟨i0, i1, i2, i3, i4, i5⟩, j0, j1, j2, j3, j4, j5⟩ := id cC30
                  have cC31 := loc6_set cC30 (.bool p3s) (.slice po3 (Dg.dg 4294967296 p3n).length pc3) (.int .i64 p3e) (.bool q3s) (.slice qo3 (Dg.dg 4294967296 q3n).length qc3) (.int .i64 q3e)
                  have l31 := l30.off6 (c := C) (by omega) (.bool p3s) (.slice po3 (Dg.dg 4294967296 p3n).length pc3) (.int .i64 p3e) (.bool q3s) (.slice qo3 (Dg.dg 4294967296 q3n).length qc3) (.int .i64 q3e)
                  have m31 := m30.off6 (c := C) (by omega) (.bool p3s) (.slice po3 (Dg.dg 4294967296 p3n).length pc3) (.int .i64 p3e) (.bool q3s) (.slice qo3 (Dg.dg 4294967296 q3n).length qc3) (.int .i64 q3e)
                  have x31 := (x30.apart (c := C) (by omega) (.bool p3s) (.slice po3 (Dg.dg 4294967296 p3n).length pc3) (.int .i64 p3e)).apart3h (c := C) (by omega) (.bool q3s) (.slice qo3 (Dg.dg 4294967296 q3n).length qc3) (.int .i64 q3e)
                  have y31 := (y30.apart (c := C) (by omega) (.bool p3s) (.slice po3 (Dg.dg 4294967296 p3n).length pc3) (.int .i64 p3e)).apart3h (c := C) (by omega) (.bool q3s) (.slice qo3 (Dg.dg 4294967296 q3n).length qc3) (.int .i64 q3e)
                  have sS31 := (sS30.apart (c := C) (by omega) (.bool p3s) (.slice po3 (Dg.dg 4294967296 p3n).length pc3) (.int .i64 p3e)).apart3h (c := C) (by omega) (.bool q3s) (.slice qo3 (Dg.dg 4294967296 q3n).length qc3) (.int .i64 q3e)
                  have rs31 := (os.apart6 (b := C) hCb (.bool p3s) (.slice po3 (Dg.dg 4294967296 p3n).length pc3) (.int .i64 p3e) (.bool q3s) (.slice qo3 (Dg.dg 4294967296 q3n).length qc3) (.int .i64 q3e)).rd
                  have rp31 := (op.apart6 (b := C) hCd (.bool p3s) (.slice po3 (Dg.dg 4294967296 p3n).length pc3) (.int .i64 p3e) (.bool q3s) (.slice qo3 (Dg.dg 4294967296 q3n).length qc3) (.int .i64 q3e)).rd
                  have rq31 := (oq.apart6 (b := C) hCd (.bool p3s) (.slice po3 (Dg.dg 4294967296 p3n).length pc3) (.int .i64 p3e) (.bool q3s) (.slice qo3 (Dg.dg 4294967296 q3n).length qc3) (.int .i64 q3e)).rd
                  have b031 := below_set6 b030 hCw (.bool p3s) (.slice po3 (Dg.dg 4294967296 p3n).length pc3) (.int .i64 p3e) (.bool q3s) (.slice qo3 (Dg.dg 4294967296 q3n).length qc3) (.int .i64 q3e)
                  clear l30 m30 x30 y30 cC30 sS30 b030 os op oq hCb hCd
                  go_upto_region 23 with fail
                  generalize ((((((v30.setCell ⟨C, 0, none⟩ (.bool p3s)).setCell ⟨C, 1, none⟩ (.slice po3 (Dg.dg 4294967296 p3n).length pc3)).setCell ⟨C, 2, none⟩ (.int .i64 p3e)).setCell ⟨C, 3, none⟩ (.bool q3s)).setCell ⟨C, 4, none⟩ (.slice qo3 (Dg.dg 4294967296 q3n).length qc3)).setCell ⟨C, 5, none⟩ (.int .i64 q3e)) = V31 at l31 m31 x31 y31 cC31 sS31 b031 rs31 rp31 rq31 ⊢
                  clear i0 i1 i2 i3 i4 i5 j0 j1 j2 j3 j4 j5
                  by_cases h3a : c3 = 0
                  · subst h3a
                    by_cases h3b : d3 = 0
                    · subst h3b
                      obtain ⟨-, ⟨e0, e1, e2, e3, e4, e5⟩, -⟩ := id cC31
                      obtain ⟨-, ⟨f0, f1, f2⟩, -⟩ := id sS31
                      go_wp2_with fail
                      refine (HH3.out (by simp) (by simp) (by simp) (by simp) _ _ _ _ _ _ _ rp31 rq31 rs31).mono ?_
                      rintro z w32 ⟨rfl, bb⟩
                      have l32 := l31.later bb
                      have m32 := m31.later bb
                      have x32 := x31.later bb
                      have y32 := y31.later bb
                      have cC32 := cC31.later bb
                      have sS32 := sS31.later bb
                      have b032 := below_trans b031 bb
                      clear bb e0 e1 e2 e3 e4 e5 f0 f1 f2 rs31 rp31 rq31 HH3
                      clear l31 m31 x31 y31 cC31 sS31 b031
                      go_wp2
                      go_ret
                      exact ⟨rfl, b032⟩
                    · go_wp2
                      go_ret
                      exact ⟨rfl, b031⟩
                  · go_wp2
                    go_ret
                    exact ⟨rfl, b031⟩
                · clear rs26 rp26 rq26 HH2
                  obtain ⟨-, ⟨ca0, ca1, ca2, ca3, ca4, ca5⟩, -⟩ := id l26
                  obtain ⟨-, ⟨cb0, cb1, cb2, cb3, cb4, cb5⟩, -⟩ := id m26
                  obtain ⟨-, ⟨cx0, cx1, cx2⟩, -⟩ := id x26
                  obtain ⟨-, ⟨cy0, cy1, cy2⟩, -⟩ := id y26
                  go_wp2_with fail
                  refine (HS3.out _ b026).mono ?_
                  rintro z v33 ⟨vv, rfl, os, bb⟩
                  obtain ⟨o3, k3, hv⟩ := os.rd.shape
                  subst hv
                  simp only at os ⊢
                  have hSb := sS26.1
                  have hCb := cC26.1
                  have l33 := l26.later bb
                  have m33 := m26.later bb
                  have x33 := x26.later bb
                  have y33 := y26.later bb
                  have cC33 := cC26.later bb
                  have sS33 := sS26.later bb
                  have b033 := below_trans b026 bb
                  clear ca0 ca1 ca2 ca3 ca4 ca5 cb0 cb1 cb2 cb3 cb4 cb5 cx0 cx1 cx2 cy0 cy1 cy2
                  clear bb HS3
                  clear l26 m26 x26 y26 cC26 sS26 b026
                  obtain ⟨-, ⟨i0, i1, i2⟩, j0, j1, j2⟩ := id sS33
                  have sS34 := loc_set sS33 (.bool s3s) (.slice o3 (Dg.dg 4294967296 s3n).length k3) (.int .i64 s3e)
                  have l34 := l33.apart3 (c := S) (by omega) (.bool s3s) (.slice o3 (Dg.dg 4294967296 s3n).length k3) (.int .i64 s3e)
                  have m34 := m33.apart3 (c := S) (by omega) (.bool s3s) (.slice o3 (Dg.dg 4294967296 s3n).length k3) (.int .i64 s3e)
                  have x34 := x33.apart (c := S) (by omega) (.bool s3s) (.slice o3 (Dg.dg 4294967296 s3n).length k3) (.int .i64 s3e)
                  have y34 := y33.apart (c := S) (by omega) (.bool s3s) (.slice o3 (Dg.dg 4294967296 s3n).length k3) (.int .i64 s3e)
                  have cC34 := cC33.apart3 (c := S) (by omega) (.bool s3s) (.slice o3 (Dg.dg 4294967296 s3n).length k3) (.int .i64 s3e)
                  replace os := os.apart3 (b := S) hSb (.bool s3s) (.slice o3 (Dg.dg 4294967296 s3n).length k3) (.int .i64 s3e)
                  have b034 := below_set3 b033 hSw (.bool s3s) (.slice o3 (Dg.dg 4294967296 s3n).length k3) (.int .i64 s3e)
                  clear l33 m33 x33 y33 cC33 sS33 b033 hSb
                  obtain ⟨-, ⟨ca0, ca1, ca2, ca3, ca4, ca5⟩, -⟩ := id l34
                  obtain ⟨-, ⟨cb0, cb1, cb2, cb3, cb4, cb5⟩, -⟩ := id m34
                  obtain ⟨-, ⟨cx0, cx1, cx2⟩, -⟩ := id x34
                  obtain ⟨-, ⟨cy0, cy1, cy2⟩, -⟩ := id y34
                  go_wp2_with fail
                  generalize (((v33.setCell ⟨S, 0, none⟩ (.bool s3s)).setCell ⟨S, 1, none⟩ (.slice o3 (Dg.dg 4294967296 s3n).length k3)).setCell ⟨S, 2, none⟩ (.int .i64 s3e)) = V34 at l34 m34 x34 y34 cC34 sS34 os b034 ca0 ca1 ca2 ca3 ca4 ca5 cb0 cb1 cb2 cb3 cb4 cb5 cx0 cx1 cx2 cy0 cy1 cy2 ⊢
                  clear i0 i1 i2 j0 j1 j2
                  refine (HC3.out _ b034).mono ?_
                  rintro z v35 ⟨pp, qq, rfl, op, oq, bb⟩
                  obtain ⟨po3, pc3, hv⟩ := op.rd.shape
                  subst hv
                  obtain ⟨qo3, qc3, hv⟩ := oq.rd.shape
                  subst hv
                  simp only at op oq ⊢
                  have hCd := cC34.1
                  replace os := os.later bb
                  have l35 := l34.later bb
                  have m35 := m34.later bb
                  have x35 := x34.later bb
                  have y35 := y34.later bb
                  have cC35 := cC34.later bb
                  have sS35 := sS34.later bb
                  have b035 := below_trans b034 bb
                  clear ca0 ca1 ca2 ca3 ca4 ca5 cb0 cb1 cb2 cb3 cb4 cb5 cx0 cx1 cx2 cy0 cy1 cy2
                  clear bb HC3
                  clear l34 m34 x34 y34 cC34 sS34 b034
                  obtain ⟨-, ⟨i0, i1, i2, i3, i4, i5⟩, j0, j1, j2, j3, j4, j5⟩ := id cC35
                  have cC36 := loc6_set cC35 (.bool p3s) (.slice po3 (Dg.dg 4294967296 p3n).length pc3) (.int .i64 p3e) (.bool q3s) (.slice qo3 (Dg.dg 4294967296 q3n).length qc3) (.int .i64 q3e)
                  have l36 := l35.off6 (c := C) (by omega) (.bool p3s) (.slice po3 (Dg.dg 4294967296 p3n).length pc3) (.int .i64 p3e) (.bool q3s) (.slice qo3 (Dg.dg 4294967296 q3n).length qc3) (.int .i64 q3e)
                  have m36 := m35.off6 (c := C) (by omega) (.bool p3s) (.slice po3 (Dg.dg 4294967296 p3n).length pc3) (.int .i64 p3e) (.bool q3s) (.slice qo3 (Dg.dg 4294967296 q3n).length qc3) (.int .i64 q3e)
                  have x36 := (x35.apart (c := C) (by omega) (.bool p3s) (.slice po3 (Dg.dg 4294967296 p3n).length pc3) (.int .i64 p3e)).apart3h (c := C) (by omega) (.bool q3s) (.slice qo3 (Dg.dg 4294967296 q3n).length qc3) (.int .i64 q3e)
                  have y36 := (y35.apart (c := C) (by omega) (.bool p3s) (.slice po3 (Dg.dg 4294967296 p3n).length pc3) (.int .i64 p3e)).apart3h (c := C) (by omega) (.bool q3s) (.slice qo3 (Dg.dg 4294967296 q3n).length qc3) (.int .i64 q3e)
                  have sS36 := (sS35.apart (c := C) (by omega) (.bool p3s) (.slice po3 (Dg.dg 4294967296 p3n).length pc3) (.int .i64 p3e)).apart3h (c := C) (by omega) (.bool q3s) (.slice qo3 (Dg.dg 4294967296 q3n).length qc3) (.int .i64 q3e)
                  have rs36 := (os.apart6 (b := C) hCb (.bool p3s) (.slice po3 (Dg.dg 4294967296 p3n).length pc3) (.int .i64 p3e) (.bool q3s) (.slice qo3 (Dg.dg 4294967296 q3n).length qc3) (.int .i64 q3e)).rd
                  have rp36 := (op.apart6 (b := C) hCd (.bool p3s) (.slice po3 (Dg.dg 4294967296 p3n).length pc3) (.int .i64 p3e) (.bool q3s) (.slice qo3 (Dg.dg 4294967296 q3n).length qc3) (.int .i64 q3e)).rd
                  have rq36 := (oq.apart6 (b := C) hCd (.bool p3s) (.slice po3 (Dg.dg 4294967296 p3n).length pc3) (.int .i64 p3e) (.bool q3s) (.slice qo3 (Dg.dg 4294967296 q3n).length qc3) (.int .i64 q3e)).rd
                  have b036 := below_set6 b035 hCw (.bool p3s) (.slice po3 (Dg.dg 4294967296 p3n).length pc3) (.int .i64 p3e) (.bool q3s) (.slice qo3 (Dg.dg 4294967296 q3n).length qc3) (.int .i64 q3e)
                  clear l35 m35 x35 y35 cC35 sS35 b035 os op oq hCb hCd
                  go_upto_region 23 with fail
                  generalize ((((((v35.setCell ⟨C, 0, none⟩ (.bool p3s)).setCell ⟨C, 1, none⟩ (.slice po3 (Dg.dg 4294967296 p3n).length pc3)).setCell ⟨C, 2, none⟩ (.int .i64 p3e)).setCell ⟨C, 3, none⟩ (.bool q3s)).setCell ⟨C, 4, none⟩ (.slice qo3 (Dg.dg 4294967296 q3n).length qc3)).setCell ⟨C, 5, none⟩ (.int .i64 q3e)) = V36 at l36 m36 x36 y36 cC36 sS36 b036 rs36 rp36 rq36 ⊢
                  clear i0 i1 i2 i3 i4 i5 j0 j1 j2 j3 j4 j5
                  by_cases h3a : c3 = 0
                  · subst h3a
                    by_cases h3b : d3 = 0
                    · subst h3b
                      obtain ⟨-, ⟨e0, e1, e2, e3, e4, e5⟩, -⟩ := id cC36
                      obtain ⟨-, ⟨f0, f1, f2⟩, -⟩ := id sS36
                      go_wp2_with fail
                      refine (HH3.out (by simp) (by simp) (by simp) (by simp) _ _ _ _ _ _ _ rp36 rq36 rs36).mono ?_
                      rintro z w37 ⟨rfl, bb⟩
                      have l37 := l36.later bb
                      have m37 := m36.later bb
                      have x37 := x36.later bb
                      have y37 := y36.later bb
                      have cC37 := cC36.later bb
                      have sS37 := sS36.later bb
                      have b037 := below_trans b036 bb
                      clear bb e0 e1 e2 e3 e4 e5 f0 f1 f2 rs36 rp36 rq36 HH3
                      clear l36 m36 x36 y36 cC36 sS36 b036
                      go_wp2
                      go_ret
                      exact ⟨rfl, b037⟩
                    · go_wp2
                      go_ret
                      exact ⟨rfl, b036⟩
                  · go_wp2
                    go_ret
                    exact ⟨rfl, b036⟩
              · clear rs26 rp26 rq26 HH2
                obtain ⟨-, ⟨ca0, ca1, ca2, ca3, ca4, ca5⟩, -⟩ := id l26
                obtain ⟨-, ⟨cb0, cb1, cb2, cb3, cb4, cb5⟩, -⟩ := id m26
                obtain ⟨-, ⟨cx0, cx1, cx2⟩, -⟩ := id x26
                obtain ⟨-, ⟨cy0, cy1, cy2⟩, -⟩ := id y26
                go_wp2_with fail
                refine (HS3.out _ b026).mono ?_
                rintro z v33 ⟨vv, rfl, os, bb⟩
                obtain ⟨o3, k3, hv⟩ := os.rd.shape
                subst hv
                simp only at os ⊢
                have hSb := sS26.1
                have hCb := cC26.1
                have l33 := l26.later bb
                have m33 := m26.later bb
                have x33 := x26.later bb
                have y33 := y26.later bb
                have cC33 := cC26.later bb
                have sS33 := sS26.later bb
                have b033 := below_trans b026 bb
                clear ca0 ca1 ca2 ca3 ca4 ca5 cb0 cb1 cb2 cb3 cb4 cb5 cx0 cx1 cx2 cy0 cy1 cy2
                clear bb HS3
                clear l26 m26 x26 y26 cC26 sS26 b026
                obtain ⟨-, ⟨i0, i1, i2⟩, j0, j1, j2⟩ := id sS33
                have sS34 := loc_set sS33 (.bool s3s) (.slice o3 (Dg.dg 4294967296 s3n).length k3) (.int .i64 s3e)
                have l34 := l33.apart3 (c := S) (by omega) (.bool s3s) (.slice o3 (Dg.dg 4294967296 s3n).length k3) (.int .i64 s3e)
                have m34 := m33.apart3 (c := S) (by omega) (.bool s3s) (.slice o3 (Dg.dg 4294967296 s3n).length k3) (.int .i64 s3e)
                have x34 := x33.apart (c := S) (by omega) (.bool s3s) (.slice o3 (Dg.dg 4294967296 s3n).length k3) (.int .i64 s3e)
                have y34 := y33.apart (c := S) (by omega) (.bool s3s) (.slice o3 (Dg.dg 4294967296 s3n).length k3) (.int .i64 s3e)
                have cC34 := cC33.apart3 (c := S) (by omega) (.bool s3s) (.slice o3 (Dg.dg 4294967296 s3n).length k3) (.int .i64 s3e)
                replace os := os.apart3 (b := S) hSb (.bool s3s) (.slice o3 (Dg.dg 4294967296 s3n).length k3) (.int .i64 s3e)
                have b034 := below_set3 b033 hSw (.bool s3s) (.slice o3 (Dg.dg 4294967296 s3n).length k3) (.int .i64 s3e)
                clear l33 m33 x33 y33 cC33 sS33 b033 hSb
                obtain ⟨-, ⟨ca0, ca1, ca2, ca3, ca4, ca5⟩, -⟩ := id l34
                obtain ⟨-, ⟨cb0, cb1, cb2, cb3, cb4, cb5⟩, -⟩ := id m34
                obtain ⟨-, ⟨cx0, cx1, cx2⟩, -⟩ := id x34
                obtain ⟨-, ⟨cy0, cy1, cy2⟩, -⟩ := id y34
                go_wp2_with fail
                generalize (((v33.setCell ⟨S, 0, none⟩ (.bool s3s)).setCell ⟨S, 1, none⟩ (.slice o3 (Dg.dg 4294967296 s3n).length k3)).setCell ⟨S, 2, none⟩ (.int .i64 s3e)) = V34 at l34 m34 x34 y34 cC34 sS34 os b034 ca0 ca1 ca2 ca3 ca4 ca5 cb0 cb1 cb2 cb3 cb4 cb5 cx0 cx1 cx2 cy0 cy1 cy2 ⊢
                clear i0 i1 i2 j0 j1 j2
                refine (HC3.out _ b034).mono ?_
                rintro z v35 ⟨pp, qq, rfl, op, oq, bb⟩
                obtain ⟨po3, pc3, hv⟩ := op.rd.shape
                subst hv
                obtain ⟨qo3, qc3, hv⟩ := oq.rd.shape
                subst hv
                simp only at op oq ⊢
                have hCd := cC34.1
                replace os := os.later bb
                have l35 := l34.later bb
                have m35 := m34.later bb
                have x35 := x34.later bb
                have y35 := y34.later bb
                have cC35 := cC34.later bb
                have sS35 := sS34.later bb
                have b035 := below_trans b034 bb
                clear ca0 ca1 ca2 ca3 ca4 ca5 cb0 cb1 cb2 cb3 cb4 cb5 cx0 cx1 cx2 cy0 cy1 cy2
                clear bb HC3
                clear l34 m34 x34 y34 cC34 sS34 b034
                obtain ⟨-, ⟨i0, i1, i2, i3, i4, i5⟩, j0, j1, j2, j3, j4, j5⟩ := id cC35
                have cC36 := loc6_set cC35 (.bool p3s) (.slice po3 (Dg.dg 4294967296 p3n).length pc3) (.int .i64 p3e) (.bool q3s) (.slice qo3 (Dg.dg 4294967296 q3n).length qc3) (.int .i64 q3e)
                have l36 := l35.off6 (c := C) (by omega) (.bool p3s) (.slice po3 (Dg.dg 4294967296 p3n).length pc3) (.int .i64 p3e) (.bool q3s) (.slice qo3 (Dg.dg 4294967296 q3n).length qc3) (.int .i64 q3e)
                have m36 := m35.off6 (c := C) (by omega) (.bool p3s) (.slice po3 (Dg.dg 4294967296 p3n).length pc3) (.int .i64 p3e) (.bool q3s) (.slice qo3 (Dg.dg 4294967296 q3n).length qc3) (.int .i64 q3e)
                have x36 := (x35.apart (c := C) (by omega) (.bool p3s) (.slice po3 (Dg.dg 4294967296 p3n).length pc3) (.int .i64 p3e)).apart3h (c := C) (by omega) (.bool q3s) (.slice qo3 (Dg.dg 4294967296 q3n).length qc3) (.int .i64 q3e)
                have y36 := (y35.apart (c := C) (by omega) (.bool p3s) (.slice po3 (Dg.dg 4294967296 p3n).length pc3) (.int .i64 p3e)).apart3h (c := C) (by omega) (.bool q3s) (.slice qo3 (Dg.dg 4294967296 q3n).length qc3) (.int .i64 q3e)
                have sS36 := (sS35.apart (c := C) (by omega) (.bool p3s) (.slice po3 (Dg.dg 4294967296 p3n).length pc3) (.int .i64 p3e)).apart3h (c := C) (by omega) (.bool q3s) (.slice qo3 (Dg.dg 4294967296 q3n).length qc3) (.int .i64 q3e)
                have rs36 := (os.apart6 (b := C) hCb (.bool p3s) (.slice po3 (Dg.dg 4294967296 p3n).length pc3) (.int .i64 p3e) (.bool q3s) (.slice qo3 (Dg.dg 4294967296 q3n).length qc3) (.int .i64 q3e)).rd
                have rp36 := (op.apart6 (b := C) hCd (.bool p3s) (.slice po3 (Dg.dg 4294967296 p3n).length pc3) (.int .i64 p3e) (.bool q3s) (.slice qo3 (Dg.dg 4294967296 q3n).length qc3) (.int .i64 q3e)).rd
                have rq36 := (oq.apart6 (b := C) hCd (.bool p3s) (.slice po3 (Dg.dg 4294967296 p3n).length pc3) (.int .i64 p3e) (.bool q3s) (.slice qo3 (Dg.dg 4294967296 q3n).length qc3) (.int .i64 q3e)).rd
                have b036 := below_set6 b035 hCw (.bool p3s) (.slice po3 (Dg.dg 4294967296 p3n).length pc3) (.int .i64 p3e) (.bool q3s) (.slice qo3 (Dg.dg 4294967296 q3n).length qc3) (.int .i64 q3e)
                clear l35 m35 x35 y35 cC35 sS35 b035 os op oq hCb hCd
                go_upto_region 23 with fail
                generalize ((((((v35.setCell ⟨C, 0, none⟩ (.bool p3s)).setCell ⟨C, 1, none⟩ (.slice po3 (Dg.dg 4294967296 p3n).length pc3)).setCell ⟨C, 2, none⟩ (.int .i64 p3e)).setCell ⟨C, 3, none⟩ (.bool q3s)).setCell ⟨C, 4, none⟩ (.slice qo3 (Dg.dg 4294967296 q3n).length qc3)).setCell ⟨C, 5, none⟩ (.int .i64 q3e)) = V36 at l36 m36 x36 y36 cC36 sS36 b036 rs36 rp36 rq36 ⊢
                clear i0 i1 i2 i3 i4 i5 j0 j1 j2 j3 j4 j5
                by_cases h3a : c3 = 0
                · subst h3a
                  by_cases h3b : d3 = 0
                  · subst h3b
                    obtain ⟨-, ⟨e0, e1, e2, e3, e4, e5⟩, -⟩ := id cC36
                    obtain ⟨-, ⟨f0, f1, f2⟩, -⟩ := id sS36
                    go_wp2_with fail
                    refine (HH3.out (by simp) (by simp) (by simp) (by simp) _ _ _ _ _ _ _ rp36 rq36 rs36).mono ?_
                    rintro z w37 ⟨rfl, bb⟩
                    have l37 := l36.later bb
                    have m37 := m36.later bb
                    have x37 := x36.later bb
                    have y37 := y36.later bb
                    have cC37 := cC36.later bb
                    have sS37 := sS36.later bb
                    have b037 := below_trans b036 bb
                    clear bb e0 e1 e2 e3 e4 e5 f0 f1 f2 rs36 rp36 rq36 HH3
                    clear l36 m36 x36 y36 cC36 sS36 b036
                    go_wp2
                    go_ret
                    exact ⟨rfl, b037⟩
                  · go_wp2
                    go_ret
                    exact ⟨rfl, b036⟩
                · go_wp2
                  go_ret
                  exact ⟨rfl, b036⟩
            · clear rs6 rp6 rq6 HH1
              have az := below_alloc (w6.alloc (.cells #[.bool p1s, .slice po1 (Dg.dg 4294967296 p1n).length pc1, .int .i64 p1e, .bool q1s, .slice qo1 (Dg.dg 4294967296 q1n).length qc1, .int .i64 q1e] 43)) (.cells #[.bool (!ys), .slice yo yl yc, .int .i64 ye] 25)
              have zz := loc_new (w6.alloc (.cells #[.bool p1s, .slice po1 (Dg.dg 4294967296 p1n).length pc1, .int .i64 p1e, .bool q1s, .slice qo1 (Dg.dg 4294967296 q1n).length qc1, .int .i64 q1e] 43)) (.bool (!ys)) (.slice yo yl yc) (.int .i64 ye) 25
              have l38 := l6.later az
              have m38 := m6.later az
              have x38 := x6.later az
              have y38 := y6.later az
              have cC38 := cC6.later az
              have sS38 := sS6.later az
              have b038 := below_trans b06 az
              obtain ⟨-, ⟨ca0, ca1, ca2, ca3, ca4, ca5⟩, -⟩ := id l38
              obtain ⟨-, ⟨cb0, cb1, cb2, cb3, cb4, cb5⟩, -⟩ := id m38
              obtain ⟨-, ⟨cx0, cx1, cx2⟩, -⟩ := id x38
              obtain ⟨-, ⟨cy0, cy1, cy2⟩, -⟩ := id y38
              obtain ⟨-, ⟨g0, g1, g2⟩, -⟩ := id zz
              obtain ⟨-, ⟨y0', y1', y2'⟩, -⟩ := id y6
              go_wp2_with fail
              generalize (w6.alloc (.cells #[.bool p1s, .slice po1 (Dg.dg 4294967296 p1n).length pc1, .int .i64 p1e, .bool q1s, .slice qo1 (Dg.dg 4294967296 q1n).length qc1, .int .i64 q1e] 43)) = V6 at cC6 l6 m6 x6 y6 sS6 b06 az zz l38 m38 x38 y38 cC38 sS38 b038 ca0 ca1 ca2 ca3 ca4 ca5 cb0 cb1 cb2 cb3 cb4 cb5 cx0 cx1 cx2 cy0 cy1 cy2 g0 g1 g2 y0' y1' y2' ⊢
              generalize w6.heap.size = C at cC6 hSC cC38 ⊢
              generalize w5.heap.size = S at sS6 hSC hS4 sS38 ⊢
              clear l6 m6 x6 y6 cC6 sS6 b06
              refine (HS2.out _ b038).mono ?_
              rintro z v39 ⟨vv, rfl, os, bb⟩
              obtain ⟨o2, k2, hv⟩ := os.rd.shape
              subst hv
              simp only at os ⊢
              have hSb := sS38.1
              have hCb := cC38.1
              have l39 := l38.later bb
              have m39 := m38.later bb
              have x39 := x38.later bb
              have y39 := y38.later bb
              have cC39 := cC38.later bb
              have sS39 := sS38.later bb
              have b039 := below_trans b038 bb
              clear ca0 ca1 ca2 ca3 ca4 ca5 cb0 cb1 cb2 cb3 cb4 cb5 cx0 cx1 cx2 cy0 cy1 cy2
              clear bb HS2
              clear l38 m38 x38 y38 cC38 sS38 b038
              clear az zz g0 g1 g2 y0' y1' y2'
              have hSw : w.heap.size ≤ S := by omega
              have hCw : w.heap.size ≤ C := by omega
              have nSl : S ≠ w.heap.size := by omega
              have nSm : S ≠ w.heap.size + 1 := by omega
              have nSx : S ≠ w.heap.size + 1 + 1 := by omega
              have nSy : S ≠ w.heap.size + 1 + 1 + 1 := by omega
              have nSc : S ≠ C := by omega
              have nCl : C ≠ w.heap.size := by omega
              have nCm : C ≠ w.heap.size + 1 := by omega
              have nCx : C ≠ w.heap.size + 1 + 1 := by omega
              have nCy : C ≠ w.heap.size + 1 + 1 + 1 := by omega
              have nCs : C ≠ S := by omega
              obtain ⟨-, ⟨i0, i1, i2⟩, j0, j1, j2⟩ := id sS39
              have sS40 := loc_set sS39 (.bool s2s) (.slice o2 (Dg.dg 4294967296 s2n).length k2) (.int .i64 s2e)
              have l40 := l39.apart3 (c := S) (by omega) (.bool s2s) (.slice o2 (Dg.dg 4294967296 s2n).length k2) (.int .i64 s2e)
              have m40 := m39.apart3 (c := S) (by omega) (.bool s2s) (.slice o2 (Dg.dg 4294967296 s2n).length k2) (.int .i64 s2e)
              have x40 := x39.apart (c := S) (by omega) (.bool s2s) (.slice o2 (Dg.dg 4294967296 s2n).length k2) (.int .i64 s2e)
              have y40 := y39.apart (c := S) (by omega) (.bool s2s) (.slice o2 (Dg.dg 4294967296 s2n).length k2) (.int .i64 s2e)
              have cC40 := cC39.apart3 (c := S) (by omega) (.bool s2s) (.slice o2 (Dg.dg 4294967296 s2n).length k2) (.int .i64 s2e)
              replace os := os.apart3 (b := S) hSb (.bool s2s) (.slice o2 (Dg.dg 4294967296 s2n).length k2) (.int .i64 s2e)
              have b040 := below_set3 b039 hSw (.bool s2s) (.slice o2 (Dg.dg 4294967296 s2n).length k2) (.int .i64 s2e)
              clear l39 m39 x39 y39 cC39 sS39 b039 hSb
              obtain ⟨-, ⟨ca0, ca1, ca2, ca3, ca4, ca5⟩, -⟩ := id l40
              obtain ⟨-, ⟨cb0, cb1, cb2, cb3, cb4, cb5⟩, -⟩ := id m40
              obtain ⟨-, ⟨cx0, cx1, cx2⟩, -⟩ := id x40
              obtain ⟨-, ⟨cy0, cy1, cy2⟩, -⟩ := id y40
              go_wp2_with fail
              generalize (((v39.setCell ⟨S, 0, none⟩ (.bool s2s)).setCell ⟨S, 1, none⟩ (.slice o2 (Dg.dg 4294967296 s2n).length k2)).setCell ⟨S, 2, none⟩ (.int .i64 s2e)) = V40 at l40 m40 x40 y40 cC40 sS40 os b040 ca0 ca1 ca2 ca3 ca4 ca5 cb0 cb1 cb2 cb3 cb4 cb5 cx0 cx1 cx2 cy0 cy1 cy2 ⊢
              clear i0 i1 i2 j0 j1 j2
              refine (HC2.out _ b040).mono ?_
              rintro z v41 ⟨pp, qq, rfl, op, oq, bb⟩
              obtain ⟨po2, pc2, hv⟩ := op.rd.shape
              subst hv
              obtain ⟨qo2, qc2, hv⟩ := oq.rd.shape
              subst hv
              simp only at op oq ⊢
              have hCd := cC40.1
              replace os := os.later bb
              have l41 := l40.later bb
              have m41 := m40.later bb
              have x41 := x40.later bb
              have y41 := y40.later bb
              have cC41 := cC40.later bb
              have sS41 := sS40.later bb
              have b041 := below_trans b040 bb
              clear ca0 ca1 ca2 ca3 ca4 ca5 cb0 cb1 cb2 cb3 cb4 cb5 cx0 cx1 cx2 cy0 cy1 cy2
              clear bb HC2
              clear l40 m40 x40 y40 cC40 sS40 b040
              obtain ⟨-, ⟨i0, i1, i2, i3, i4, i5⟩, j0, j1, j2, j3, j4, j5⟩ := id cC41
              have cC42 := loc6_set cC41 (.bool p2s) (.slice po2 (Dg.dg 4294967296 p2n).length pc2) (.int .i64 p2e) (.bool q2s) (.slice qo2 (Dg.dg 4294967296 q2n).length qc2) (.int .i64 q2e)
              have l42 := l41.off6 (c := C) (by omega) (.bool p2s) (.slice po2 (Dg.dg 4294967296 p2n).length pc2) (.int .i64 p2e) (.bool q2s) (.slice qo2 (Dg.dg 4294967296 q2n).length qc2) (.int .i64 q2e)
              have m42 := m41.off6 (c := C) (by omega) (.bool p2s) (.slice po2 (Dg.dg 4294967296 p2n).length pc2) (.int .i64 p2e) (.bool q2s) (.slice qo2 (Dg.dg 4294967296 q2n).length qc2) (.int .i64 q2e)
              have x42 := (x41.apart (c := C) (by omega) (.bool p2s) (.slice po2 (Dg.dg 4294967296 p2n).length pc2) (.int .i64 p2e)).apart3h (c := C) (by omega) (.bool q2s) (.slice qo2 (Dg.dg 4294967296 q2n).length qc2) (.int .i64 q2e)
              have y42 := (y41.apart (c := C) (by omega) (.bool p2s) (.slice po2 (Dg.dg 4294967296 p2n).length pc2) (.int .i64 p2e)).apart3h (c := C) (by omega) (.bool q2s) (.slice qo2 (Dg.dg 4294967296 q2n).length qc2) (.int .i64 q2e)
              have sS42 := (sS41.apart (c := C) (by omega) (.bool p2s) (.slice po2 (Dg.dg 4294967296 p2n).length pc2) (.int .i64 p2e)).apart3h (c := C) (by omega) (.bool q2s) (.slice qo2 (Dg.dg 4294967296 q2n).length qc2) (.int .i64 q2e)
              have rs42 := (os.apart6 (b := C) hCb (.bool p2s) (.slice po2 (Dg.dg 4294967296 p2n).length pc2) (.int .i64 p2e) (.bool q2s) (.slice qo2 (Dg.dg 4294967296 q2n).length qc2) (.int .i64 q2e)).rd
              have rp42 := (op.apart6 (b := C) hCd (.bool p2s) (.slice po2 (Dg.dg 4294967296 p2n).length pc2) (.int .i64 p2e) (.bool q2s) (.slice qo2 (Dg.dg 4294967296 q2n).length qc2) (.int .i64 q2e)).rd
              have rq42 := (oq.apart6 (b := C) hCd (.bool p2s) (.slice po2 (Dg.dg 4294967296 p2n).length pc2) (.int .i64 p2e) (.bool q2s) (.slice qo2 (Dg.dg 4294967296 q2n).length qc2) (.int .i64 q2e)).rd
              have b042 := below_set6 b041 hCw (.bool p2s) (.slice po2 (Dg.dg 4294967296 p2n).length pc2) (.int .i64 p2e) (.bool q2s) (.slice qo2 (Dg.dg 4294967296 q2n).length qc2) (.int .i64 q2e)
              clear l41 m41 x41 y41 cC41 sS41 b041 os op oq hCb hCd
              go_upto_region 17 with fail
              generalize ((((((v41.setCell ⟨C, 0, none⟩ (.bool p2s)).setCell ⟨C, 1, none⟩ (.slice po2 (Dg.dg 4294967296 p2n).length pc2)).setCell ⟨C, 2, none⟩ (.int .i64 p2e)).setCell ⟨C, 3, none⟩ (.bool q2s)).setCell ⟨C, 4, none⟩ (.slice qo2 (Dg.dg 4294967296 q2n).length qc2)).setCell ⟨C, 5, none⟩ (.int .i64 q2e)) = V42 at l42 m42 x42 y42 cC42 sS42 b042 rs42 rp42 rq42 ⊢
              clear i0 i1 i2 i3 i4 i5 j0 j1 j2 j3 j4 j5
              by_cases h2a : c2 = 0
              · subst h2a
                by_cases h2b : d2 = 0
                · subst h2b
                  obtain ⟨-, ⟨e0, e1, e2, e3, e4, e5⟩, -⟩ := id cC42
                  obtain ⟨-, ⟨f0, f1, f2⟩, -⟩ := id sS42
                  go_wp2_with fail
                  refine (HH2.out (by simp) (by simp) (by simp) (by simp) _ _ _ _ _ _ _ rp42 rq42 rs42).mono ?_
                  rintro z w43 ⟨rfl, bb⟩
                  have l43 := l42.later bb
                  have m43 := m42.later bb
                  have x43 := x42.later bb
                  have y43 := y42.later bb
                  have cC43 := cC42.later bb
                  have sS43 := sS42.later bb
                  have b043 := below_trans b042 bb
                  clear bb e0 e1 e2 e3 e4 e5 f0 f1 f2 rs42 rp42 rq42 HH2
                  clear l42 m42 x42 y42 cC42 sS42 b042
                  obtain ⟨-, ⟨ca0, ca1, ca2, ca3, ca4, ca5⟩, -⟩ := id l43
                  obtain ⟨-, ⟨cb0, cb1, cb2, cb3, cb4, cb5⟩, -⟩ := id m43
                  obtain ⟨-, ⟨cx0, cx1, cx2⟩, -⟩ := id x43
                  obtain ⟨-, ⟨cy0, cy1, cy2⟩, -⟩ := id y43
                  go_wp2_with fail
                  refine (HS3.out _ b043).mono ?_
                  rintro z v44 ⟨vv, rfl, os, bb⟩
                  obtain ⟨o3, k3, hv⟩ := os.rd.shape
                  subst hv
                  simp only at os ⊢
                  have hSb := sS43.1
                  have hCb := cC43.1
                  have l44 := l43.later bb
                  have m44 := m43.later bb
                  have x44 := x43.later bb
                  have y44 := y43.later bb
                  have cC44 := cC43.later bb
                  have sS44 := sS43.later bb
                  have b044 := below_trans b043 bb
                  clear ca0 ca1 ca2 ca3 ca4 ca5 cb0 cb1 cb2 cb3 cb4 cb5 cx0 cx1 cx2 cy0 cy1 cy2
                  clear bb HS3
                  clear l43 m43 x43 y43 cC43 sS43 b043
                  obtain ⟨-, ⟨i0, i1, i2⟩, j0, j1, j2⟩ := id sS44
                  have sS45 := loc_set sS44 (.bool s3s) (.slice o3 (Dg.dg 4294967296 s3n).length k3) (.int .i64 s3e)
                  have l45 := l44.apart3 (c := S) (by omega) (.bool s3s) (.slice o3 (Dg.dg 4294967296 s3n).length k3) (.int .i64 s3e)
                  have m45 := m44.apart3 (c := S) (by omega) (.bool s3s) (.slice o3 (Dg.dg 4294967296 s3n).length k3) (.int .i64 s3e)
                  have x45 := x44.apart (c := S) (by omega) (.bool s3s) (.slice o3 (Dg.dg 4294967296 s3n).length k3) (.int .i64 s3e)
                  have y45 := y44.apart (c := S) (by omega) (.bool s3s) (.slice o3 (Dg.dg 4294967296 s3n).length k3) (.int .i64 s3e)
                  have cC45 := cC44.apart3 (c := S) (by omega) (.bool s3s) (.slice o3 (Dg.dg 4294967296 s3n).length k3) (.int .i64 s3e)
                  replace os := os.apart3 (b := S) hSb (.bool s3s) (.slice o3 (Dg.dg 4294967296 s3n).length k3) (.int .i64 s3e)
                  have b045 := below_set3 b044 hSw (.bool s3s) (.slice o3 (Dg.dg 4294967296 s3n).length k3) (.int .i64 s3e)
                  clear l44 m44 x44 y44 cC44 sS44 b044 hSb
                  obtain ⟨-, ⟨ca0, ca1, ca2, ca3, ca4, ca5⟩, -⟩ := id l45
                  obtain ⟨-, ⟨cb0, cb1, cb2, cb3, cb4, cb5⟩, -⟩ := id m45
                  obtain ⟨-, ⟨cx0, cx1, cx2⟩, -⟩ := id x45
                  obtain ⟨-, ⟨cy0, cy1, cy2⟩, -⟩ := id y45
                  go_wp2_with fail
                  generalize (((v44.setCell ⟨S, 0, none⟩ (.bool s3s)).setCell ⟨S, 1, none⟩ (.slice o3 (Dg.dg 4294967296 s3n).length k3)).setCell ⟨S, 2, none⟩ (.int .i64 s3e)) = V45 at l45 m45 x45 y45 cC45 sS45 os b045 ca0 ca1 ca2 ca3 ca4 ca5 cb0 cb1 cb2 cb3 cb4 cb5 cx0 cx1 cx2 cy0 cy1 cy2 ⊢
                  clear i0 i1 i2 j0 j1 j2
                  refine (HC3.out _ b045).mono ?_
                  rintro z v46 ⟨pp, qq, rfl, op, oq, bb⟩
                  obtain ⟨po3, pc3, hv⟩ := op.rd.shape
                  subst hv
                  obtain ⟨qo3, qc3, hv⟩ := oq.rd.shape
                  subst hv
                  simp only at op oq ⊢
                  have hCd := cC45.1
                  replace os := os.later bb
                  have l46 := l45.later bb
                  have m46 := m45.later bb
                  have x46 := x45.later bb
                  have y46 := y45.later bb
                  have cC46 := cC45.later bb
                  have sS46 := sS45.later bb
                  have b046 := below_trans b045 bb
                  clear ca0 ca1 ca2 ca3 ca4 ca5 cb0 cb1 cb2 cb3 cb4 cb5 cx0 cx1 cx2 cy0 cy1 cy2
                  clear bb HC3
                  clear l45 m45 x45 y45 cC45 sS45 b045
                  obtain ⟨-, ⟨i0, i1, i2, i3, i4, i5⟩, j0, j1, j2, j3, j4, j5⟩ := id cC46
                  have cC47 := loc6_set cC46 (.bool p3s) (.slice po3 (Dg.dg 4294967296 p3n).length pc3) (.int .i64 p3e) (.bool q3s) (.slice qo3 (Dg.dg 4294967296 q3n).length qc3) (.int .i64 q3e)
                  have l47 := l46.off6 (c := C) (by omega) (.bool p3s) (.slice po3 (Dg.dg 4294967296 p3n).length pc3) (.int .i64 p3e) (.bool q3s) (.slice qo3 (Dg.dg 4294967296 q3n).length qc3) (.int .i64 q3e)
                  have m47 := m46.off6 (c := C) (by omega) (.bool p3s) (.slice po3 (Dg.dg 4294967296 p3n).length pc3) (.int .i64 p3e) (.bool q3s) (.slice qo3 (Dg.dg 4294967296 q3n).length qc3) (.int .i64 q3e)
                  have x47 := (x46.apart (c := C) (by omega) (.bool p3s) (.slice po3 (Dg.dg 4294967296 p3n).length pc3) (.int .i64 p3e)).apart3h (c := C) (by omega) (.bool q3s) (.slice qo3 (Dg.dg 4294967296 q3n).length qc3) (.int .i64 q3e)
                  have y47 := (y46.apart (c := C) (by omega) (.bool p3s) (.slice po3 (Dg.dg 4294967296 p3n).length pc3) (.int .i64 p3e)).apart3h (c := C) (by omega) (.bool q3s) (.slice qo3 (Dg.dg 4294967296 q3n).length qc3) (.int .i64 q3e)
                  have sS47 := (sS46.apart (c := C) (by omega) (.bool p3s) (.slice po3 (Dg.dg 4294967296 p3n).length pc3) (.int .i64 p3e)).apart3h (c := C) (by omega) (.bool q3s) (.slice qo3 (Dg.dg 4294967296 q3n).length qc3) (.int .i64 q3e)
                  have rs47 := (os.apart6 (b := C) hCb (.bool p3s) (.slice po3 (Dg.dg 4294967296 p3n).length pc3) (.int .i64 p3e) (.bool q3s) (.slice qo3 (Dg.dg 4294967296 q3n).length qc3) (.int .i64 q3e)).rd
                  have rp47 := (op.apart6 (b := C) hCd (.bool p3s) (.slice po3 (Dg.dg 4294967296 p3n).length pc3) (.int .i64 p3e) (.bool q3s) (.slice qo3 (Dg.dg 4294967296 q3n).length qc3) (.int .i64 q3e)).rd
                  have rq47 := (oq.apart6 (b := C) hCd (.bool p3s) (.slice po3 (Dg.dg 4294967296 p3n).length pc3) (.int .i64 p3e) (.bool q3s) (.slice qo3 (Dg.dg 4294967296 q3n).length qc3) (.int .i64 q3e)).rd
                  have b047 := below_set6 b046 hCw (.bool p3s) (.slice po3 (Dg.dg 4294967296 p3n).length pc3) (.int .i64 p3e) (.bool q3s) (.slice qo3 (Dg.dg 4294967296 q3n).length qc3) (.int .i64 q3e)
                  clear l46 m46 x46 y46 cC46 sS46 b046 os op oq hCb hCd
                  go_upto_region 23 with fail
                  generalize ((((((v46.setCell ⟨C, 0, none⟩ (.bool p3s)).setCell ⟨C, 1, none⟩ (.slice po3 (Dg.dg 4294967296 p3n).length pc3)).setCell ⟨C, 2, none⟩ (.int .i64 p3e)).setCell ⟨C, 3, none⟩ (.bool q3s)).setCell ⟨C, 4, none⟩ (.slice qo3 (Dg.dg 4294967296 q3n).length qc3)).setCell ⟨C, 5, none⟩ (.int .i64 q3e)) = V47 at l47 m47 x47 y47 cC47 sS47 b047 rs47 rp47 rq47 ⊢
                  clear i0 i1 i2 i3 i4 i5 j0 j1 j2 j3 j4 j5
                  by_cases h3a : c3 = 0
                  · subst h3a
                    by_cases h3b : d3 = 0
                    · subst h3b
                      obtain ⟨-, ⟨e0, e1, e2, e3, e4, e5⟩, -⟩ := id cC47
                      obtain ⟨-, ⟨f0, f1, f2⟩, -⟩ := id sS47
                      go_wp2_with fail
                      refine (HH3.out (by simp) (by simp) (by simp) (by simp) _ _ _ _ _ _ _ rp47 rq47 rs47).mono ?_
                      rintro z w48 ⟨rfl, bb⟩
                      have l48 := l47.later bb
                      have m48 := m47.later bb
                      have x48 := x47.later bb
                      have y48 := y47.later bb
                      have cC48 := cC47.later bb
                      have sS48 := sS47.later bb
                      have b048 := below_trans b047 bb
                      clear bb e0 e1 e2 e3 e4 e5 f0 f1 f2 rs47 rp47 rq47 HH3
                      clear l47 m47 x47 y47 cC47 sS47 b047
                      go_wp2
                      go_ret
                      exact ⟨rfl, b048⟩
                    · go_wp2
                      go_ret
                      exact ⟨rfl, b047⟩
                  · go_wp2
                    go_ret
                    exact ⟨rfl, b047⟩
                · clear rs42 rp42 rq42 HH2
                  obtain ⟨-, ⟨ca0, ca1, ca2, ca3, ca4, ca5⟩, -⟩ := id l42
                  obtain ⟨-, ⟨cb0, cb1, cb2, cb3, cb4, cb5⟩, -⟩ := id m42
                  obtain ⟨-, ⟨cx0, cx1, cx2⟩, -⟩ := id x42
                  obtain ⟨-, ⟨cy0, cy1, cy2⟩, -⟩ := id y42
                  go_wp2_with fail
                  refine (HS3.out _ b042).mono ?_
                  rintro z v49 ⟨vv, rfl, os, bb⟩
                  obtain ⟨o3, k3, hv⟩ := os.rd.shape
                  subst hv
                  simp only at os ⊢
                  have hSb := sS42.1
                  have hCb := cC42.1
                  have l49 := l42.later bb
                  have m49 := m42.later bb
                  have x49 := x42.later bb
                  have y49 := y42.later bb
                  have cC49 := cC42.later bb
                  have sS49 := sS42.later bb
                  have b049 := below_trans b042 bb
                  clear ca0 ca1 ca2 ca3 ca4 ca5 cb0 cb1 cb2 cb3 cb4 cb5 cx0 cx1 cx2 cy0 cy1 cy2
                  clear bb HS3
                  clear l42 m42 x42 y42 cC42 sS42 b042
                  obtain ⟨-, ⟨i0, i1, i2⟩, j0, j1, j2⟩ := id sS49
                  have sS50 := loc_set sS49 (.bool s3s) (.slice o3 (Dg.dg 4294967296 s3n).length k3) (.int .i64 s3e)
                  have l50 := l49.apart3 (c := S) (by omega) (.bool s3s) (.slice o3 (Dg.dg 4294967296 s3n).length k3) (.int .i64 s3e)
                  have m50 := m49.apart3 (c := S) (by omega) (.bool s3s) (.slice o3 (Dg.dg 4294967296 s3n).length k3) (.int .i64 s3e)
                  have x50 := x49.apart (c := S) (by omega) (.bool s3s) (.slice o3 (Dg.dg 4294967296 s3n).length k3) (.int .i64 s3e)
                  have y50 := y49.apart (c := S) (by omega) (.bool s3s) (.slice o3 (Dg.dg 4294967296 s3n).length k3) (.int .i64 s3e)
                  have cC50 := cC49.apart3 (c := S) (by omega) (.bool s3s) (.slice o3 (Dg.dg 4294967296 s3n).length k3) (.int .i64 s3e)
                  replace os := os.apart3 (b := S) hSb (.bool s3s) (.slice o3 (Dg.dg 4294967296 s3n).length k3) (.int .i64 s3e)
                  have b050 := below_set3 b049 hSw (.bool s3s) (.slice o3 (Dg.dg 4294967296 s3n).length k3) (.int .i64 s3e)
                  clear l49 m49 x49 y49 cC49 sS49 b049 hSb
                  obtain ⟨-, ⟨ca0, ca1, ca2, ca3, ca4, ca5⟩, -⟩ := id l50
                  obtain ⟨-, ⟨cb0, cb1, cb2, cb3, cb4, cb5⟩, -⟩ := id m50
                  obtain ⟨-, ⟨cx0, cx1, cx2⟩, -⟩ := id x50
                  obtain ⟨-, ⟨cy0, cy1, cy2⟩, -⟩ := id y50
                  go_wp2_with fail
                  generalize (((v49.setCell ⟨S, 0, none⟩ (.bool s3s)).setCell ⟨S, 1, none⟩ (.slice o3 (Dg.dg 4294967296 s3n).length k3)).setCell ⟨S, 2, none⟩ (.int .i64 s3e)) = V50 at l50 m50 x50 y50 cC50 sS50 os b050 ca0 ca1 ca2 ca3 ca4 ca5 cb0 cb1 cb2 cb3 cb4 cb5 cx0 cx1 cx2 cy0 cy1 cy2 ⊢
                  clear i0 i1 i2 j0 j1 j2
                  refine (HC3.out _ b050).mono ?_
                  rintro z v51 ⟨pp, qq, rfl, op, oq, bb⟩
                  obtain ⟨po3, pc3, hv⟩ := op.rd.shape
                  subst hv
                  obtain ⟨qo3, qc3, hv⟩ := oq.rd.shape
                  subst hv
                  simp only at op oq ⊢
                  have hCd := cC50.1
                  replace os := os.later bb
                  have l51 := l50.later bb
                  have m51 := m50.later bb
                  have x51 := x50.later bb
                  have y51 := y50.later bb
                  have cC51 := cC50.later bb
                  have sS51 := sS50.later bb
                  have b051 := below_trans b050 bb
                  clear ca0 ca1 ca2 ca3 ca4 ca5 cb0 cb1 cb2 cb3 cb4 cb5 cx0 cx1 cx2 cy0 cy1 cy2
                  clear bb HC3
                  clear l50 m50 x50 y50 cC50 sS50 b050
                  obtain ⟨-, ⟨i0, i1, i2, i3, i4, i5⟩, j0, j1, j2, j3, j4, j5⟩ := id cC51
                  have cC52 := loc6_set cC51 (.bool p3s) (.slice po3 (Dg.dg 4294967296 p3n).length pc3) (.int .i64 p3e) (.bool q3s) (.slice qo3 (Dg.dg 4294967296 q3n).length qc3) (.int .i64 q3e)
                  have l52 := l51.off6 (c := C) (by omega) (.bool p3s) (.slice po3 (Dg.dg 4294967296 p3n).length pc3) (.int .i64 p3e) (.bool q3s) (.slice qo3 (Dg.dg 4294967296 q3n).length qc3) (.int .i64 q3e)
                  have m52 := m51.off6 (c := C) (by omega) (.bool p3s) (.slice po3 (Dg.dg 4294967296 p3n).length pc3) (.int .i64 p3e) (.bool q3s) (.slice qo3 (Dg.dg 4294967296 q3n).length qc3) (.int .i64 q3e)
                  have x52 := (x51.apart (c := C) (by omega) (.bool p3s) (.slice po3 (Dg.dg 4294967296 p3n).length pc3) (.int .i64 p3e)).apart3h (c := C) (by omega) (.bool q3s) (.slice qo3 (Dg.dg 4294967296 q3n).length qc3) (.int .i64 q3e)
                  have y52 := (y51.apart (c := C) (by omega) (.bool p3s) (.slice po3 (Dg.dg 4294967296 p3n).length pc3) (.int .i64 p3e)).apart3h (c := C) (by omega) (.bool q3s) (.slice qo3 (Dg.dg 4294967296 q3n).length qc3) (.int .i64 q3e)
                  have sS52 := (sS51.apart (c := C) (by omega) (.bool p3s) (.slice po3 (Dg.dg 4294967296 p3n).length pc3) (.int .i64 p3e)).apart3h (c := C) (by omega) (.bool q3s) (.slice qo3 (Dg.dg 4294967296 q3n).length qc3) (.int .i64 q3e)
                  have rs52 := (os.apart6 (b := C) hCb (.bool p3s) (.slice po3 (Dg.dg 4294967296 p3n).length pc3) (.int .i64 p3e) (.bool q3s) (.slice qo3 (Dg.dg 4294967296 q3n).length qc3) (.int .i64 q3e)).rd
                  have rp52 := (op.apart6 (b := C) hCd (.bool p3s) (.slice po3 (Dg.dg 4294967296 p3n).length pc3) (.int .i64 p3e) (.bool q3s) (.slice qo3 (Dg.dg 4294967296 q3n).length qc3) (.int .i64 q3e)).rd
                  have rq52 := (oq.apart6 (b := C) hCd (.bool p3s) (.slice po3 (Dg.dg 4294967296 p3n).length pc3) (.int .i64 p3e) (.bool q3s) (.slice qo3 (Dg.dg 4294967296 q3n).length qc3) (.int .i64 q3e)).rd
                  have b052 := below_set6 b051 hCw (.bool p3s) (.slice po3 (Dg.dg 4294967296 p3n).length pc3) (.int .i64 p3e) (.bool q3s) (.slice qo3 (Dg.dg 4294967296 q3n).length qc3) (.int .i64 q3e)
                  clear l51 m51 x51 y51 cC51 sS51 b051 os op oq hCb hCd
                  go_upto_region 23 with fail
                  generalize ((((((v51.setCell ⟨C, 0, none⟩ (.bool p3s)).setCell ⟨C, 1, none⟩ (.slice po3 (Dg.dg 4294967296 p3n).length pc3)).setCell ⟨C, 2, none⟩ (.int .i64 p3e)).setCell ⟨C, 3, none⟩ (.bool q3s)).setCell ⟨C, 4, none⟩ (.slice qo3 (Dg.dg 4294967296 q3n).length qc3)).setCell ⟨C, 5, none⟩ (.int .i64 q3e)) = V52 at l52 m52 x52 y52 cC52 sS52 b052 rs52 rp52 rq52 ⊢
                  clear i0 i1 i2 i3 i4 i5 j0 j1 j2 j3 j4 j5
                  by_cases h3a : c3 = 0
                  · subst h3a
                    by_cases h3b : d3 = 0
                    · subst h3b
                      obtain ⟨-, ⟨e0, e1, e2, e3, e4, e5⟩, -⟩ := id cC52
                      obtain ⟨-, ⟨f0, f1, f2⟩, -⟩ := id sS52
                      go_wp2_with fail
                      refine (HH3.out (by simp) (by simp) (by simp) (by simp) _ _ _ _ _ _ _ rp52 rq52 rs52).mono ?_
                      rintro z w53 ⟨rfl, bb⟩
                      have l53 := l52.later bb
                      have m53 := m52.later bb
                      have x53 := x52.later bb
                      have y53 := y52.later bb
                      have cC53 := cC52.later bb
                      have sS53 := sS52.later bb
                      have b053 := below_trans b052 bb
                      clear bb e0 e1 e2 e3 e4 e5 f0 f1 f2 rs52 rp52 rq52 HH3
                      clear l52 m52 x52 y52 cC52 sS52 b052
                      go_wp2
                      go_ret
                      exact ⟨rfl, b053⟩
                    · go_wp2
                      go_ret
                      exact ⟨rfl, b052⟩
                  · go_wp2
                    go_ret
                    exact ⟨rfl, b052⟩
              · clear rs42 rp42 rq42 HH2
                obtain ⟨-, ⟨ca0, ca1, ca2, ca3, ca4, ca5⟩, -⟩ := id l42
                obtain ⟨-, ⟨cb0, cb1, cb2, cb3, cb4, cb5⟩, -⟩ := id m42
                obtain ⟨-, ⟨cx0, cx1, cx2⟩, -⟩ := id x42
                obtain ⟨-, ⟨cy0, cy1, cy2⟩, -⟩ := id y42
                go_wp2_with fail
                refine (HS3.out _ b042).mono ?_
                rintro z v49 ⟨vv, rfl, os, bb⟩
                obtain ⟨o3, k3, hv⟩ := os.rd.shape
                subst hv
                simp only at os ⊢
                have hSb := sS42.1
                have hCb := cC42.1
                have l49 := l42.later bb
                have m49 := m42.later bb
                have x49 := x42.later bb
                have y49 := y42.later bb
                have cC49 := cC42.later bb
                have sS49 := sS42.later bb
                have b049 := below_trans b042 bb
                clear ca0 ca1 ca2 ca3 ca4 ca5 cb0 cb1 cb2 cb3 cb4 cb5 cx0 cx1 cx2 cy0 cy1 cy2
                clear bb HS3
                clear l42 m42 x42 y42 cC42 sS42 b042
                obtain ⟨-, ⟨i0, i1, i2⟩, j0, j1, j2⟩ := id sS49
                have sS50 := loc_set sS49 (.bool s3s) (.slice o3 (Dg.dg 4294967296 s3n).length k3) (.int .i64 s3e)
                have l50 := l49.apart3 (c := S) (by omega) (.bool s3s) (.slice o3 (Dg.dg 4294967296 s3n).length k3) (.int .i64 s3e)
                have m50 := m49.apart3 (c := S) (by omega) (.bool s3s) (.slice o3 (Dg.dg 4294967296 s3n).length k3) (.int .i64 s3e)
                have x50 := x49.apart (c := S) (by omega) (.bool s3s) (.slice o3 (Dg.dg 4294967296 s3n).length k3) (.int .i64 s3e)
                have y50 := y49.apart (c := S) (by omega) (.bool s3s) (.slice o3 (Dg.dg 4294967296 s3n).length k3) (.int .i64 s3e)
                have cC50 := cC49.apart3 (c := S) (by omega) (.bool s3s) (.slice o3 (Dg.dg 4294967296 s3n).length k3) (.int .i64 s3e)
                replace os := os.apart3 (b := S) hSb (.bool s3s) (.slice o3 (Dg.dg 4294967296 s3n).length k3) (.int .i64 s3e)
                have b050 := below_set3 b049 hSw (.bool s3s) (.slice o3 (Dg.dg 4294967296 s3n).length k3) (.int .i64 s3e)
                clear l49 m49 x49 y49 cC49 sS49 b049 hSb
                obtain ⟨-, ⟨ca0, ca1, ca2, ca3, ca4, ca5⟩, -⟩ := id l50
                obtain ⟨-, ⟨cb0, cb1, cb2, cb3, cb4, cb5⟩, -⟩ := id m50
                obtain ⟨-, ⟨cx0, cx1, cx2⟩, -⟩ := id x50
                obtain ⟨-, ⟨cy0, cy1, cy2⟩, -⟩ := id y50
                go_wp2_with fail
                generalize (((v49.setCell ⟨S, 0, none⟩ (.bool s3s)).setCell ⟨S, 1, none⟩ (.slice o3 (Dg.dg 4294967296 s3n).length k3)).setCell ⟨S, 2, none⟩ (.int .i64 s3e)) = V50 at l50 m50 x50 y50 cC50 sS50 os b050 ca0 ca1 ca2 ca3 ca4 ca5 cb0 cb1 cb2 cb3 cb4 cb5 cx0 cx1 cx2 cy0 cy1 cy2 ⊢
                clear i0 i1 i2 j0 j1 j2
                refine (HC3.out _ b050).mono ?_
                rintro z v51 ⟨pp, qq, rfl, op, oq, bb⟩
                obtain ⟨po3, pc3, hv⟩ := op.rd.shape
                subst hv
                obtain ⟨qo3, qc3, hv⟩ := oq.rd.shape
                subst hv
                simp only at op oq ⊢
                have hCd := cC50.1
                replace os := os.later bb
                have l51 := l50.later bb
                have m51 := m50.later bb
                have x51 := x50.later bb
                have y51 := y50.later bb
                have cC51 := cC50.later bb
                have sS51 := sS50.later bb
                have b051 := below_trans b050 bb
                clear ca0 ca1 ca2 ca3 ca4 ca5 cb0 cb1 cb2 cb3 cb4 cb5 cx0 cx1 cx2 cy0 cy1 cy2
                clear bb HC3
                clear l50 m50 x50 y50 cC50 sS50 b050
                obtain ⟨-, ⟨i0, i1, i2, i3, i4, i5⟩, j0, j1, j2, j3, j4, j5⟩ := id cC51
                have cC52 := loc6_set cC51 (.bool p3s) (.slice po3 (Dg.dg 4294967296 p3n).length pc3) (.int .i64 p3e) (.bool q3s) (.slice qo3 (Dg.dg 4294967296 q3n).length qc3) (.int .i64 q3e)
                have l52 := l51.off6 (c := C) (by omega) (.bool p3s) (.slice po3 (Dg.dg 4294967296 p3n).length pc3) (.int .i64 p3e) (.bool q3s) (.slice qo3 (Dg.dg 4294967296 q3n).length qc3) (.int .i64 q3e)
                have m52 := m51.off6 (c := C) (by omega) (.bool p3s) (.slice po3 (Dg.dg 4294967296 p3n).length pc3) (.int .i64 p3e) (.bool q3s) (.slice qo3 (Dg.dg 4294967296 q3n).length qc3) (.int .i64 q3e)
                have x52 := (x51.apart (c := C) (by omega) (.bool p3s) (.slice po3 (Dg.dg 4294967296 p3n).length pc3) (.int .i64 p3e)).apart3h (c := C) (by omega) (.bool q3s) (.slice qo3 (Dg.dg 4294967296 q3n).length qc3) (.int .i64 q3e)
                have y52 := (y51.apart (c := C) (by omega) (.bool p3s) (.slice po3 (Dg.dg 4294967296 p3n).length pc3) (.int .i64 p3e)).apart3h (c := C) (by omega) (.bool q3s) (.slice qo3 (Dg.dg 4294967296 q3n).length qc3) (.int .i64 q3e)
                have sS52 := (sS51.apart (c := C) (by omega) (.bool p3s) (.slice po3 (Dg.dg 4294967296 p3n).length pc3) (.int .i64 p3e)).apart3h (c := C) (by omega) (.bool q3s) (.slice qo3 (Dg.dg 4294967296 q3n).length qc3) (.int .i64 q3e)
                have rs52 := (os.apart6 (b := C) hCb (.bool p3s) (.slice po3 (Dg.dg 4294967296 p3n).length pc3) (.int .i64 p3e) (.bool q3s) (.slice qo3 (Dg.dg 4294967296 q3n).length qc3) (.int .i64 q3e)).rd
                have rp52 := (op.apart6 (b := C) hCd (.bool p3s) (.slice po3 (Dg.dg 4294967296 p3n).length pc3) (.int .i64 p3e) (.bool q3s) (.slice qo3 (Dg.dg 4294967296 q3n).length qc3) (.int .i64 q3e)).rd
                have rq52 := (oq.apart6 (b := C) hCd (.bool p3s) (.slice po3 (Dg.dg 4294967296 p3n).length pc3) (.int .i64 p3e) (.bool q3s) (.slice qo3 (Dg.dg 4294967296 q3n).length qc3) (.int .i64 q3e)).rd
                have b052 := below_set6 b051 hCw (.bool p3s) (.slice po3 (Dg.dg 4294967296 p3n).length pc3) (.int .i64 p3e) (.bool q3s) (.slice qo3 (Dg.dg 4294967296 q3n).length qc3) (.int .i64 q3e)
                clear l51 m51 x51 y51 cC51 sS51 b051 os op oq hCb hCd
                go_upto_region 23 with fail
                generalize ((((((v51.setCell ⟨C, 0, none⟩ (.bool p3s)).setCell ⟨C, 1, none⟩ (.slice po3 (Dg.dg 4294967296 p3n).length pc3)).setCell ⟨C, 2, none⟩ (.int .i64 p3e)).setCell ⟨C, 3, none⟩ (.bool q3s)).setCell ⟨C, 4, none⟩ (.slice qo3 (Dg.dg 4294967296 q3n).length qc3)).setCell ⟨C, 5, none⟩ (.int .i64 q3e)) = V52 at l52 m52 x52 y52 cC52 sS52 b052 rs52 rp52 rq52 ⊢
                clear i0 i1 i2 i3 i4 i5 j0 j1 j2 j3 j4 j5
                by_cases h3a : c3 = 0
                · subst h3a
                  by_cases h3b : d3 = 0
                  · subst h3b
                    obtain ⟨-, ⟨e0, e1, e2, e3, e4, e5⟩, -⟩ := id cC52
                    obtain ⟨-, ⟨f0, f1, f2⟩, -⟩ := id sS52
                    go_wp2_with fail
                    refine (HH3.out (by simp) (by simp) (by simp) (by simp) _ _ _ _ _ _ _ rp52 rq52 rs52).mono ?_
                    rintro z w53 ⟨rfl, bb⟩
                    have l53 := l52.later bb
                    have m53 := m52.later bb
                    have x53 := x52.later bb
                    have y53 := y52.later bb
                    have cC53 := cC52.later bb
                    have sS53 := sS52.later bb
                    have b053 := below_trans b052 bb
                    clear bb e0 e1 e2 e3 e4 e5 f0 f1 f2 rs52 rp52 rq52 HH3
                    clear l52 m52 x52 y52 cC52 sS52 b052
                    go_wp2
                    go_ret
                    exact ⟨rfl, b053⟩
                  · go_wp2
                    go_ret
                    exact ⟨rfl, b052⟩
                · go_wp2
                  go_ret
                  exact ⟨rfl, b052⟩
          · clear rs6 rp6 rq6 HH1
            have az := below_alloc (w6.alloc (.cells #[.bool p1s, .slice po1 (Dg.dg 4294967296 p1n).length pc1, .int .i64 p1e, .bool q1s, .slice qo1 (Dg.dg 4294967296 q1n).length qc1, .int .i64 q1e] 43)) (.cells #[.bool (!ys), .slice yo yl yc, .int .i64 ye] 25)
            have zz := loc_new (w6.alloc (.cells #[.bool p1s, .slice po1 (Dg.dg 4294967296 p1n).length pc1, .int .i64 p1e, .bool q1s, .slice qo1 (Dg.dg 4294967296 q1n).length qc1, .int .i64 q1e] 43)) (.bool (!ys)) (.slice yo yl yc) (.int .i64 ye) 25
            have l38 := l6.later az
            have m38 := m6.later az
            have x38 := x6.later az
            have y38 := y6.later az
            have cC38 := cC6.later az
            have sS38 := sS6.later az
            have b038 := below_trans b06 az
            obtain ⟨-, ⟨ca0, ca1, ca2, ca3, ca4, ca5⟩, -⟩ := id l38
            obtain ⟨-, ⟨cb0, cb1, cb2, cb3, cb4, cb5⟩, -⟩ := id m38
            obtain ⟨-, ⟨cx0, cx1, cx2⟩, -⟩ := id x38
            obtain ⟨-, ⟨cy0, cy1, cy2⟩, -⟩ := id y38
            obtain ⟨-, ⟨g0, g1, g2⟩, -⟩ := id zz
            obtain ⟨-, ⟨y0', y1', y2'⟩, -⟩ := id y6
            go_wp2_with fail
            generalize (w6.alloc (.cells #[.bool p1s, .slice po1 (Dg.dg 4294967296 p1n).length pc1, .int .i64 p1e, .bool q1s, .slice qo1 (Dg.dg 4294967296 q1n).length qc1, .int .i64 q1e] 43)) = V6 at cC6 l6 m6 x6 y6 sS6 b06 az zz l38 m38 x38 y38 cC38 sS38 b038 ca0 ca1 ca2 ca3 ca4 ca5 cb0 cb1 cb2 cb3 cb4 cb5 cx0 cx1 cx2 cy0 cy1 cy2 g0 g1 g2 y0' y1' y2' ⊢
            generalize w6.heap.size = C at cC6 hSC cC38 ⊢
            generalize w5.heap.size = S at sS6 hSC hS4 sS38 ⊢
            clear l6 m6 x6 y6 cC6 sS6 b06
            refine (HS2.out _ b038).mono ?_
            rintro z v39 ⟨vv, rfl, os, bb⟩
            obtain ⟨o2, k2, hv⟩ := os.rd.shape
            subst hv
            simp only at os ⊢
            have hSb := sS38.1
            have hCb := cC38.1
            have l39 := l38.later bb
            have m39 := m38.later bb
            have x39 := x38.later bb
            have y39 := y38.later bb
            have cC39 := cC38.later bb
            have sS39 := sS38.later bb
            have b039 := below_trans b038 bb
            clear ca0 ca1 ca2 ca3 ca4 ca5 cb0 cb1 cb2 cb3 cb4 cb5 cx0 cx1 cx2 cy0 cy1 cy2
            clear bb HS2
            clear l38 m38 x38 y38 cC38 sS38 b038
            clear az zz g0 g1 g2 y0' y1' y2'
            have hSw : w.heap.size ≤ S := by omega
            have hCw : w.heap.size ≤ C := by omega
            have nSl : S ≠ w.heap.size := by omega
            have nSm : S ≠ w.heap.size + 1 := by omega
            have nSx : S ≠ w.heap.size + 1 + 1 := by omega
            have nSy : S ≠ w.heap.size + 1 + 1 + 1 := by omega
            have nSc : S ≠ C := by omega
            have nCl : C ≠ w.heap.size := by omega
            have nCm : C ≠ w.heap.size + 1 := by omega
            have nCx : C ≠ w.heap.size + 1 + 1 := by omega
            have nCy : C ≠ w.heap.size + 1 + 1 + 1 := by omega
            have nCs : C ≠ S := by omega
            obtain ⟨-, ⟨i0, i1, i2⟩, j0, j1, j2⟩ := id sS39
            have sS40 := loc_set sS39 (.bool s2s) (.slice o2 (Dg.dg 4294967296 s2n).length k2) (.int .i64 s2e)
            have l40 := l39.apart3 (c := S) (by omega) (.bool s2s) (.slice o2 (Dg.dg 4294967296 s2n).length k2) (.int .i64 s2e)
            have m40 := m39.apart3 (c := S) (by omega) (.bool s2s) (.slice o2 (Dg.dg 4294967296 s2n).length k2) (.int .i64 s2e)
            have x40 := x39.apart (c := S) (by omega) (.bool s2s) (.slice o2 (Dg.dg 4294967296 s2n).length k2) (.int .i64 s2e)
            have y40 := y39.apart (c := S) (by omega) (.bool s2s) (.slice o2 (Dg.dg 4294967296 s2n).length k2) (.int .i64 s2e)
            have cC40 := cC39.apart3 (c := S) (by omega) (.bool s2s) (.slice o2 (Dg.dg 4294967296 s2n).length k2) (.int .i64 s2e)
            replace os := os.apart3 (b := S) hSb (.bool s2s) (.slice o2 (Dg.dg 4294967296 s2n).length k2) (.int .i64 s2e)
            have b040 := below_set3 b039 hSw (.bool s2s) (.slice o2 (Dg.dg 4294967296 s2n).length k2) (.int .i64 s2e)
            clear l39 m39 x39 y39 cC39 sS39 b039 hSb
            obtain ⟨-, ⟨ca0, ca1, ca2, ca3, ca4, ca5⟩, -⟩ := id l40
            obtain ⟨-, ⟨cb0, cb1, cb2, cb3, cb4, cb5⟩, -⟩ := id m40
            obtain ⟨-, ⟨cx0, cx1, cx2⟩, -⟩ := id x40
            obtain ⟨-, ⟨cy0, cy1, cy2⟩, -⟩ := id y40
            go_wp2_with fail
            generalize (((v39.setCell ⟨S, 0, none⟩ (.bool s2s)).setCell ⟨S, 1, none⟩ (.slice o2 (Dg.dg 4294967296 s2n).length k2)).setCell ⟨S, 2, none⟩ (.int .i64 s2e)) = V40 at l40 m40 x40 y40 cC40 sS40 os b040 ca0 ca1 ca2 ca3 ca4 ca5 cb0 cb1 cb2 cb3 cb4 cb5 cx0 cx1 cx2 cy0 cy1 cy2 ⊢
            clear i0 i1 i2 j0 j1 j2
            refine (HC2.out _ b040).mono ?_
            rintro z v41 ⟨pp, qq, rfl, op, oq, bb⟩
            obtain ⟨po2, pc2, hv⟩ := op.rd.shape
            subst hv
            obtain ⟨qo2, qc2, hv⟩ := oq.rd.shape
            subst hv
            simp only at op oq ⊢
            have hCd := cC40.1
            replace os := os.later bb
            have l41 := l40.later bb
            have m41 := m40.later bb
            have x41 := x40.later bb
            have y41 := y40.later bb
            have cC41 := cC40.later bb
            have sS41 := sS40.later bb
            have b041 := below_trans b040 bb
            clear ca0 ca1 ca2 ca3 ca4 ca5 cb0 cb1 cb2 cb3 cb4 cb5 cx0 cx1 cx2 cy0 cy1 cy2
            clear bb HC2
            clear l40 m40 x40 y40 cC40 sS40 b040
            obtain ⟨-, ⟨i0, i1, i2, i3, i4, i5⟩, j0, j1, j2, j3, j4, j5⟩ := id cC41
            have cC42 := loc6_set cC41 (.bool p2s) (.slice po2 (Dg.dg 4294967296 p2n).length pc2) (.int .i64 p2e) (.bool q2s) (.slice qo2 (Dg.dg 4294967296 q2n).length qc2) (.int .i64 q2e)
            have l42 := l41.off6 (c := C) (by omega) (.bool p2s) (.slice po2 (Dg.dg 4294967296 p2n).length pc2) (.int .i64 p2e) (.bool q2s) (.slice qo2 (Dg.dg 4294967296 q2n).length qc2) (.int .i64 q2e)
            have m42 := m41.off6 (c := C) (by omega) (.bool p2s) (.slice po2 (Dg.dg 4294967296 p2n).length pc2) (.int .i64 p2e) (.bool q2s) (.slice qo2 (Dg.dg 4294967296 q2n).length qc2) (.int .i64 q2e)
            have x42 := (x41.apart (c := C) (by omega) (.bool p2s) (.slice po2 (Dg.dg 4294967296 p2n).length pc2) (.int .i64 p2e)).apart3h (c := C) (by omega) (.bool q2s) (.slice qo2 (Dg.dg 4294967296 q2n).length qc2) (.int .i64 q2e)
            have y42 := (y41.apart (c := C) (by omega) (.bool p2s) (.slice po2 (Dg.dg 4294967296 p2n).length pc2) (.int .i64 p2e)).apart3h (c := C) (by omega) (.bool q2s) (.slice qo2 (Dg.dg 4294967296 q2n).length qc2) (.int .i64 q2e)
            have sS42 := (sS41.apart (c := C) (by omega) (.bool p2s) (.slice po2 (Dg.dg 4294967296 p2n).length pc2) (.int .i64 p2e)).apart3h (c := C) (by omega) (.bool q2s) (.slice qo2 (Dg.dg 4294967296 q2n).length qc2) (.int .i64 q2e)
            have rs42 := (os.apart6 (b := C) hCb (.bool p2s) (.slice po2 (Dg.dg 4294967296 p2n).length pc2) (.int .i64 p2e) (.bool q2s) (.slice qo2 (Dg.dg 4294967296 q2n).length qc2) (.int .i64 q2e)).rd
            have rp42 := (op.apart6 (b := C) hCd (.bool p2s) (.slice po2 (Dg.dg 4294967296 p2n).length pc2) (.int .i64 p2e) (.bool q2s) (.slice qo2 (Dg.dg 4294967296 q2n).length qc2) (.int .i64 q2e)).rd
            have rq42 := (oq.apart6 (b := C) hCd (.bool p2s) (.slice po2 (Dg.dg 4294967296 p2n).length pc2) (.int .i64 p2e) (.bool q2s) (.slice qo2 (Dg.dg 4294967296 q2n).length qc2) (.int .i64 q2e)).rd
            have b042 := below_set6 b041 hCw (.bool p2s) (.slice po2 (Dg.dg 4294967296 p2n).length pc2) (.int .i64 p2e) (.bool q2s) (.slice qo2 (Dg.dg 4294967296 q2n).length qc2) (.int .i64 q2e)
            clear l41 m41 x41 y41 cC41 sS41 b041 os op oq hCb hCd
            go_upto_region 17 with fail
            generalize ((((((v41.setCell ⟨C, 0, none⟩ (.bool p2s)).setCell ⟨C, 1, none⟩ (.slice po2 (Dg.dg 4294967296 p2n).length pc2)).setCell ⟨C, 2, none⟩ (.int .i64 p2e)).setCell ⟨C, 3, none⟩ (.bool q2s)).setCell ⟨C, 4, none⟩ (.slice qo2 (Dg.dg 4294967296 q2n).length qc2)).setCell ⟨C, 5, none⟩ (.int .i64 q2e)) = V42 at l42 m42 x42 y42 cC42 sS42 b042 rs42 rp42 rq42 ⊢
            clear i0 i1 i2 i3 i4 i5 j0 j1 j2 j3 j4 j5
            by_cases h2a : c2 = 0
            · subst h2a
              by_cases h2b : d2 = 0
              · subst h2b
                obtain ⟨-, ⟨e0, e1, e2, e3, e4, e5⟩, -⟩ := id cC42
                obtain ⟨-, ⟨f0, f1, f2⟩, -⟩ := id sS42
                go_wp2_with fail
                refine (HH2.out (by simp) (by simp) (by simp) (by simp) _ _ _ _ _ _ _ rp42 rq42 rs42).mono ?_
                rintro z w43 ⟨rfl, bb⟩
                have l43 := l42.later bb
                have m43 := m42.later bb
                have x43 := x42.later bb
                have y43 := y42.later bb
                have cC43 := cC42.later bb
                have sS43 := sS42.later bb
                have b043 := below_trans b042 bb
                clear bb e0 e1 e2 e3 e4 e5 f0 f1 f2 rs42 rp42 rq42 HH2
                clear l42 m42 x42 y42 cC42 sS42 b042
                obtain ⟨-, ⟨ca0, ca1, ca2, ca3, ca4, ca5⟩, -⟩ := id l43
                obtain ⟨-, ⟨cb0, cb1, cb2, cb3, cb4, cb5⟩, -⟩ := id m43
                obtain ⟨-, ⟨cx0, cx1, cx2⟩, -⟩ := id x43
                obtain ⟨-, ⟨cy0, cy1, cy2⟩, -⟩ := id y43
                go_wp2_with fail
                refine (HS3.out _ b043).mono ?_
                rintro z v44 ⟨vv, rfl, os, bb⟩
                obtain ⟨o3, k3, hv⟩ := os.rd.shape
                subst hv
                simp only at os ⊢
                have hSb := sS43.1
                have hCb := cC43.1
                have l44 := l43.later bb
                have m44 := m43.later bb
                have x44 := x43.later bb
                have y44 := y43.later bb
                have cC44 := cC43.later bb
                have sS44 := sS43.later bb
                have b044 := below_trans b043 bb
                clear ca0 ca1 ca2 ca3 ca4 ca5 cb0 cb1 cb2 cb3 cb4 cb5 cx0 cx1 cx2 cy0 cy1 cy2
                clear bb HS3
                clear l43 m43 x43 y43 cC43 sS43 b043
                obtain ⟨-, ⟨i0, i1, i2⟩, j0, j1, j2⟩ := id sS44
                have sS45 := loc_set sS44 (.bool s3s) (.slice o3 (Dg.dg 4294967296 s3n).length k3) (.int .i64 s3e)
                have l45 := l44.apart3 (c := S) (by omega) (.bool s3s) (.slice o3 (Dg.dg 4294967296 s3n).length k3) (.int .i64 s3e)
                have m45 := m44.apart3 (c := S) (by omega) (.bool s3s) (.slice o3 (Dg.dg 4294967296 s3n).length k3) (.int .i64 s3e)
                have x45 := x44.apart (c := S) (by omega) (.bool s3s) (.slice o3 (Dg.dg 4294967296 s3n).length k3) (.int .i64 s3e)
                have y45 := y44.apart (c := S) (by omega) (.bool s3s) (.slice o3 (Dg.dg 4294967296 s3n).length k3) (.int .i64 s3e)
                have cC45 := cC44.apart3 (c := S) (by omega) (.bool s3s) (.slice o3 (Dg.dg 4294967296 s3n).length k3) (.int .i64 s3e)
                replace os := os.apart3 (b := S) hSb (.bool s3s) (.slice o3 (Dg.dg 4294967296 s3n).length k3) (.int .i64 s3e)
                have b045 := below_set3 b044 hSw (.bool s3s) (.slice o3 (Dg.dg 4294967296 s3n).length k3) (.int .i64 s3e)
                clear l44 m44 x44 y44 cC44 sS44 b044 hSb
                obtain ⟨-, ⟨ca0, ca1, ca2, ca3, ca4, ca5⟩, -⟩ := id l45
                obtain ⟨-, ⟨cb0, cb1, cb2, cb3, cb4, cb5⟩, -⟩ := id m45
                obtain ⟨-, ⟨cx0, cx1, cx2⟩, -⟩ := id x45
                obtain ⟨-, ⟨cy0, cy1, cy2⟩, -⟩ := id y45
                go_wp2_with fail
                generalize (((v44.setCell ⟨S, 0, none⟩ (.bool s3s)).setCell ⟨S, 1, none⟩ (.slice o3 (Dg.dg 4294967296 s3n).length k3)).setCell ⟨S, 2, none⟩ (.int .i64 s3e)) = V45 at l45 m45 x45 y45 cC45 sS45 os b045 ca0 ca1 ca2 ca3 ca4 ca5 cb0 cb1 cb2 cb3 cb4 cb5 cx0 cx1 cx2 cy0 cy1 cy2 ⊢
                clear i0 i1 i2 j0 j1 j2
                refine (HC3.out _ b045).mono ?_
                rintro z v46 ⟨pp, qq, rfl, op, oq, bb⟩
                obtain ⟨po3, pc3, hv⟩ := op.rd.shape
                subst hv
                obtain ⟨qo3, qc3, hv⟩ := oq.rd.shape
                subst hv
                simp only at op oq ⊢
                have hCd := cC45.1
                replace os := os.later bb
                have l46 := l45.later bb
                have m46 := m45.later bb
                have x46 := x45.later bb
                have y46 := y45.later bb
                have cC46 := cC45.later bb
                have sS46 := sS45.later bb
                have b046 := below_trans b045 bb
                clear ca0 ca1 ca2 ca3 ca4 ca5 cb0 cb1 cb2 cb3 cb4 cb5 cx0 cx1 cx2 cy0 cy1 cy2
                clear bb HC3
                clear l45 m45 x45 y45 cC45 sS45 b045
                obtain ⟨-, ⟨i0, i1, i2, i3, i4, i5⟩, j0, j1, j2, j3, j4, j5⟩ := id cC46
                have cC47 := loc6_set cC46 (.bool p3s) (.slice po3 (Dg.dg 4294967296 p3n).length pc3) (.int .i64 p3e) (.bool q3s) (.slice qo3 (Dg.dg 4294967296 q3n).length qc3) (.int .i64 q3e)
                have l47 := l46.off6 (c := C) (by omega) (.bool p3s) (.slice po3 (Dg.dg 4294967296 p3n).length pc3) (.int .i64 p3e) (.bool q3s) (.slice qo3 (Dg.dg 4294967296 q3n).length qc3) (.int .i64 q3e)
                have m47 := m46.off6 (c := C) (by omega) (.bool p3s) (.slice po3 (Dg.dg 4294967296 p3n).length pc3) (.int .i64 p3e) (.bool q3s) (.slice qo3 (Dg.dg 4294967296 q3n).length qc3) (.int .i64 q3e)
                have x47 := (x46.apart (c := C) (by omega) (.bool p3s) (.slice po3 (Dg.dg 4294967296 p3n).length pc3) (.int .i64 p3e)).apart3h (c := C) (by omega) (.bool q3s) (.slice qo3 (Dg.dg 4294967296 q3n).length qc3) (.int .i64 q3e)
                have y47 := (y46.apart (c := C) (by omega) (.bool p3s) (.slice po3 (Dg.dg 4294967296 p3n).length pc3) (.int .i64 p3e)).apart3h (c := C) (by omega) (.bool q3s) (.slice qo3 (Dg.dg 4294967296 q3n).length qc3) (.int .i64 q3e)
                have sS47 := (sS46.apart (c := C) (by omega) (.bool p3s) (.slice po3 (Dg.dg 4294967296 p3n).length pc3) (.int .i64 p3e)).apart3h (c := C) (by omega) (.bool q3s) (.slice qo3 (Dg.dg 4294967296 q3n).length qc3) (.int .i64 q3e)
                have rs47 := (os.apart6 (b := C) hCb (.bool p3s) (.slice po3 (Dg.dg 4294967296 p3n).length pc3) (.int .i64 p3e) (.bool q3s) (.slice qo3 (Dg.dg 4294967296 q3n).length qc3) (.int .i64 q3e)).rd
                have rp47 := (op.apart6 (b := C) hCd (.bool p3s) (.slice po3 (Dg.dg 4294967296 p3n).length pc3) (.int .i64 p3e) (.bool q3s) (.slice qo3 (Dg.dg 4294967296 q3n).length qc3) (.int .i64 q3e)).rd
                have rq47 := (oq.apart6 (b := C) hCd (.bool p3s) (.slice po3 (Dg.dg 4294967296 p3n).length pc3) (.int .i64 p3e) (.bool q3s) (.slice qo3 (Dg.dg 4294967296 q3n).length qc3) (.int .i64 q3e)).rd
                have b047 := below_set6 b046 hCw (.bool p3s) (.slice po3 (Dg.dg 4294967296 p3n).length pc3) (.int .i64 p3e) (.bool q3s) (.slice qo3 (Dg.dg 4294967296 q3n).length qc3) (.int .i64 q3e)
                clear l46 m46 x46 y46 cC46 sS46 b046 os op oq hCb hCd
                go_upto_region 23 with fail
                generalize ((((((v46.setCell ⟨C, 0, none⟩ (.bool p3s)).setCell ⟨C, 1, none⟩ (.slice po3 (Dg.dg 4294967296 p3n).length pc3)).setCell ⟨C, 2, none⟩ (.int .i64 p3e)).setCell ⟨C, 3, none⟩ (.bool q3s)).setCell ⟨C, 4, none⟩ (.slice qo3 (Dg.dg 4294967296 q3n).length qc3)).setCell ⟨C, 5, none⟩ (.int .i64 q3e)) = V47 at l47 m47 x47 y47 cC47 sS47 b047 rs47 rp47 rq47 ⊢
                clear i0 i1 i2 i3 i4 i5 j0 j1 j2 j3 j4 j5
                by_cases h3a : c3 = 0
                · subst h3a
                  by_cases h3b : d3 = 0
                  · subst h3b
                    obtain ⟨-, ⟨e0, e1, e2, e3, e4, e5⟩, -⟩ := id cC47
                    obtain ⟨-, ⟨f0, f1, f2⟩, -⟩ := id sS47
                    go_wp2_with fail
                    refine (HH3.out (by simp) (by simp) (by simp) (by simp) _ _ _ _ _ _ _ rp47 rq47 rs47).mono ?_
                    rintro z w48 ⟨rfl, bb⟩
                    have l48 := l47.later bb
                    have m48 := m47.later bb
                    have x48 := x47.later bb
                    have y48 := y47.later bb
                    have cC48 := cC47.later bb
                    have sS48 := sS47.later bb
                    have b048 := below_trans b047 bb
                    clear bb e0 e1 e2 e3 e4 e5 f0 f1 f2 rs47 rp47 rq47 HH3
                    clear l47 m47 x47 y47 cC47 sS47 b047
                    go_wp2
                    go_ret
                    exact ⟨rfl, b048⟩
                  · go_wp2
                    go_ret
                    exact ⟨rfl, b047⟩
                · go_wp2
                  go_ret
                  exact ⟨rfl, b047⟩
              · clear rs42 rp42 rq42 HH2
                obtain ⟨-, ⟨ca0, ca1, ca2, ca3, ca4, ca5⟩, -⟩ := id l42
                obtain ⟨-, ⟨cb0, cb1, cb2, cb3, cb4, cb5⟩, -⟩ := id m42
                obtain ⟨-, ⟨cx0, cx1, cx2⟩, -⟩ := id x42
                obtain ⟨-, ⟨cy0, cy1, cy2⟩, -⟩ := id y42
                go_wp2_with fail
                refine (HS3.out _ b042).mono ?_
                rintro z v49 ⟨vv, rfl, os, bb⟩
                obtain ⟨o3, k3, hv⟩ := os.rd.shape
                subst hv
                simp only at os ⊢
                have hSb := sS42.1
                have hCb := cC42.1
                have l49 := l42.later bb
                have m49 := m42.later bb
                have x49 := x42.later bb
                have y49 := y42.later bb
                have cC49 := cC42.later bb
                have sS49 := sS42.later bb
                have b049 := below_trans b042 bb
                clear ca0 ca1 ca2 ca3 ca4 ca5 cb0 cb1 cb2 cb3 cb4 cb5 cx0 cx1 cx2 cy0 cy1 cy2
                clear bb HS3
                clear l42 m42 x42 y42 cC42 sS42 b042
                obtain ⟨-, ⟨i0, i1, i2⟩, j0, j1, j2⟩ := id sS49
                have sS50 := loc_set sS49 (.bool s3s) (.slice o3 (Dg.dg 4294967296 s3n).length k3) (.int .i64 s3e)
                have l50 := l49.apart3 (c := S) (by omega) (.bool s3s) (.slice o3 (Dg.dg 4294967296 s3n).length k3) (.int .i64 s3e)
                have m50 := m49.apart3 (c := S) (by omega) (.bool s3s) (.slice o3 (Dg.dg 4294967296 s3n).length k3) (.int .i64 s3e)
                have x50 := x49.apart (c := S) (by omega) (.bool s3s) (.slice o3 (Dg.dg 4294967296 s3n).length k3) (.int .i64 s3e)
                have y50 := y49.apart (c := S) (by omega) (.bool s3s) (.slice o3 (Dg.dg 4294967296 s3n).length k3) (.int .i64 s3e)
                have cC50 := cC49.apart3 (c := S) (by omega) (.bool s3s) (.slice o3 (Dg.dg 4294967296 s3n).length k3) (.int .i64 s3e)
                replace os := os.apart3 (b := S) hSb (.bool s3s) (.slice o3 (Dg.dg 4294967296 s3n).length k3) (.int .i64 s3e)
                have b050 := below_set3 b049 hSw (.bool s3s) (.slice o3 (Dg.dg 4294967296 s3n).length k3) (.int .i64 s3e)
                clear l49 m49 x49 y49 cC49 sS49 b049 hSb
                obtain ⟨-, ⟨ca0, ca1, ca2, ca3, ca4, ca5⟩, -⟩ := id l50
                obtain ⟨-, ⟨cb0, cb1, cb2, cb3, cb4, cb5⟩, -⟩ := id m50
                obtain ⟨-, ⟨cx0, cx1, cx2⟩, -⟩ := id x50
                obtain ⟨-, ⟨cy0, cy1, cy2⟩, -⟩ := id y50
                go_wp2_with fail
                generalize (((v49.setCell ⟨S, 0, none⟩ (.bool s3s)).setCell ⟨S, 1, none⟩ (.slice o3 (Dg.dg 4294967296 s3n).length k3)).setCell ⟨S, 2, none⟩ (.int .i64 s3e)) = V50 at l50 m50 x50 y50 cC50 sS50 os b050 ca0 ca1 ca2 ca3 ca4 ca5 cb0 cb1 cb2 cb3 cb4 cb5 cx0 cx1 cx2 cy0 cy1 cy2 ⊢
                clear i0 i1 i2 j0 j1 j2
                refine (HC3.out _ b050).mono ?_
                rintro z v51 ⟨pp, qq, rfl, op, oq, bb⟩
                obtain ⟨po3, pc3, hv⟩ := op.rd.shape
                subst hv
                obtain ⟨qo3, qc3, hv⟩ := oq.rd.shape
                subst hv
                simp only at op oq ⊢
                have hCd := cC50.1
                replace os := os.later bb
                have l51 := l50.later bb
                have m51 := m50.later bb
                have x51 := x50.later bb
                have y51 := y50.later bb
                have cC51 := cC50.later bb
                have sS51 := sS50.later bb
                have b051 := below_trans b050 bb
                clear ca0 ca1 ca2 ca3 ca4 ca5 cb0 cb1 cb2 cb3 cb4 cb5 cx0 cx1 cx2 cy0 cy1 cy2
                clear bb HC3
                clear l50 m50 x50 y50 cC50 sS50 b050
                obtain ⟨-, ⟨i0, i1, i2, i3, i4, i5⟩, j0, j1, j2, j3, j4, j5⟩ := id cC51
                have cC52 := loc6_set cC51 (.bool p3s) (.slice po3 (Dg.dg 4294967296 p3n).length pc3) (.int .i64 p3e) (.bool q3s) (.slice qo3 (Dg.dg 4294967296 q3n).length qc3) (.int .i64 q3e)
                have l52 := l51.off6 (c := C) (by omega) (.bool p3s) (.slice po3 (Dg.dg 4294967296 p3n).length pc3) (.int .i64 p3e) (.bool q3s) (.slice qo3 (Dg.dg 4294967296 q3n).length qc3) (.int .i64 q3e)
                have m52 := m51.off6 (c := C) (by omega) (.bool p3s) (.slice po3 (Dg.dg 4294967296 p3n).length pc3) (.int .i64 p3e) (.bool q3s) (.slice qo3 (Dg.dg 4294967296 q3n).length qc3) (.int .i64 q3e)
                have x52 := (x51.apart (c := C) (by omega) (.bool p3s) (.slice po3 (Dg.dg 4294967296 p3n).length pc3) (.int .i64 p3e)).apart3h (c := C) (by omega) (.bool q3s) (.slice qo3 (Dg.dg 4294967296 q3n).length qc3) (.int .i64 q3e)
                have y52 := (y51.apart (c := C) (by omega) (.bool p3s) (.slice po3 (Dg.dg 4294967296 p3n).length pc3) (.int .i64 p3e)).apart3h (c := C) (by omega) (.bool q3s) (.slice qo3 (Dg.dg 4294967296 q3n).length qc3) (.int .i64 q3e)
                have sS52 := (sS51.apart (c := C) (by omega) (.bool p3s) (.slice po3 (Dg.dg 4294967296 p3n).length pc3) (.int .i64 p3e)).apart3h (c := C) (by omega) (.bool q3s) (.slice qo3 (Dg.dg 4294967296 q3n).length qc3) (.int .i64 q3e)
                have rs52 := (os.apart6 (b := C) hCb (.bool p3s) (.slice po3 (Dg.dg 4294967296 p3n).length pc3) (.int .i64 p3e) (.bool q3s) (.slice qo3 (Dg.dg 4294967296 q3n).length qc3) (.int .i64 q3e)).rd
                have rp52 := (op.apart6 (b := C) hCd (.bool p3s) (.slice po3 (Dg.dg 4294967296 p3n).length pc3) (.int .i64 p3e) (.bool q3s) (.slice qo3 (Dg.dg 4294967296 q3n).length qc3) (.int .i64 q3e)).rd
                have rq52 := (oq.apart6 (b := C) hCd (.bool p3s) (.slice po3 (Dg.dg 4294967296 p3n).length pc3) (.int .i64 p3e) (.bool q3s) (.slice qo3 (Dg.dg 4294967296 q3n).length qc3) (.int .i64 q3e)).rd
                have b052 := below_set6 b051 hCw (.bool p3s) (.slice po3 (Dg.dg 4294967296 p3n).length pc3) (.int .i64 p3e) (.bool q3s) (.slice qo3 (Dg.dg 4294967296 q3n).length qc3) (.int .i64 q3e)
                clear l51 m51 x51 y51 cC51 sS51 b051 os op oq hCb hCd
                go_upto_region 23 with fail
                generalize ((((((v51.setCell ⟨C, 0, none⟩ (.bool p3s)).setCell ⟨C, 1, none⟩ (.slice po3 (Dg.dg 4294967296 p3n).length pc3)).setCell ⟨C, 2, none⟩ (.int .i64 p3e)).setCell ⟨C, 3, none⟩ (.bool q3s)).setCell ⟨C, 4, none⟩ (.slice qo3 (Dg.dg 4294967296 q3n).length qc3)).setCell ⟨C, 5, none⟩ (.int .i64 q3e)) = V52 at l52 m52 x52 y52 cC52 sS52 b052 rs52 rp52 rq52 ⊢
                clear i0 i1 i2 i3 i4 i5 j0 j1 j2 j3 j4 j5
                by_cases h3a : c3 = 0
                · subst h3a
                  by_cases h3b : d3 = 0
                  · subst h3b
                    obtain ⟨-, ⟨e0, e1, e2, e3, e4, e5⟩, -⟩ := id cC52
                    obtain ⟨-, ⟨f0, f1, f2⟩, -⟩ := id sS52
                    go_wp2_with fail
                    refine (HH3.out (by simp) (by simp) (by simp) (by simp) _ _ _ _ _ _ _ rp52 rq52 rs52).mono ?_
                    rintro z w53 ⟨rfl, bb⟩
                    have l53 := l52.later bb
                    have m53 := m52.later bb
                    have x53 := x52.later bb
                    have y53 := y52.later bb
                    have cC53 := cC52.later bb
                    have sS53 := sS52.later bb
                    have b053 := below_trans b052 bb
                    clear bb e0 e1 e2 e3 e4 e5 f0 f1 f2 rs52 rp52 rq52 HH3
                    clear l52 m52 x52 y52 cC52 sS52 b052
                    go_wp2
                    go_ret
                    exact ⟨rfl, b053⟩
                  · go_wp2
                    go_ret
                    exact ⟨rfl, b052⟩
                · go_wp2
                  go_ret
                  exact ⟨rfl, b052⟩
            · clear rs42 rp42 rq42 HH2
              obtain ⟨-, ⟨ca0, ca1, ca2, ca3, ca4, ca5⟩, -⟩ := id l42
              obtain ⟨-, ⟨cb0, cb1, cb2, cb3, cb4, cb5⟩, -⟩ := id m42
              obtain ⟨-, ⟨cx0, cx1, cx2⟩, -⟩ := id x42
              obtain ⟨-, ⟨cy0, cy1, cy2⟩, -⟩ := id y42
              go_wp2_with fail
              refine (HS3.out _ b042).mono ?_
              rintro z v49 ⟨vv, rfl, os, bb⟩
              obtain ⟨o3, k3, hv⟩ := os.rd.shape
              subst hv
              simp only at os ⊢
              have hSb := sS42.1
              have hCb := cC42.1
              have l49 := l42.later bb
              have m49 := m42.later bb
              have x49 := x42.later bb
              have y49 := y42.later bb
              have cC49 := cC42.later bb
              have sS49 := sS42.later bb
              have b049 := below_trans b042 bb
              clear ca0 ca1 ca2 ca3 ca4 ca5 cb0 cb1 cb2 cb3 cb4 cb5 cx0 cx1 cx2 cy0 cy1 cy2
              clear bb HS3
              clear l42 m42 x42 y42 cC42 sS42 b042
              obtain ⟨-, ⟨i0, i1, i2⟩, j0, j1, j2⟩ := id sS49
              have sS50 := loc_set sS49 (.bool s3s) (.slice o3 (Dg.dg 4294967296 s3n).length k3) (.int .i64 s3e)
              have l50 := l49.apart3 (c := S) (by omega) (.bool s3s) (.slice o3 (Dg.dg 4294967296 s3n).length k3) (.int .i64 s3e)
              have m50 := m49.apart3 (c := S) (by omega) (.bool s3s) (.slice o3 (Dg.dg 4294967296 s3n).length k3) (.int .i64 s3e)
              have x50 := x49.apart (c := S) (by omega) (.bool s3s) (.slice o3 (Dg.dg 4294967296 s3n).length k3) (.int .i64 s3e)
              have y50 := y49.apart (c := S) (by omega) (.bool s3s) (.slice o3 (Dg.dg 4294967296 s3n).length k3) (.int .i64 s3e)
              have cC50 := cC49.apart3 (c := S) (by omega) (.bool s3s) (.slice o3 (Dg.dg 4294967296 s3n).length k3) (.int .i64 s3e)
              replace os := os.apart3 (b := S) hSb (.bool s3s) (.slice o3 (Dg.dg 4294967296 s3n).length k3) (.int .i64 s3e)
              have b050 := below_set3 b049 hSw (.bool s3s) (.slice o3 (Dg.dg 4294967296 s3n).length k3) (.int .i64 s3e)
              clear l49 m49 x49 y49 cC49 sS49 b049 hSb
              obtain ⟨-, ⟨ca0, ca1, ca2, ca3, ca4, ca5⟩, -⟩ := id l50
              obtain ⟨-, ⟨cb0, cb1, cb2, cb3, cb4, cb5⟩, -⟩ := id m50
              obtain ⟨-, ⟨cx0, cx1, cx2⟩, -⟩ := id x50
              obtain ⟨-, ⟨cy0, cy1, cy2⟩, -⟩ := id y50
              go_wp2_with fail
              generalize (((v49.setCell ⟨S, 0, none⟩ (.bool s3s)).setCell ⟨S, 1, none⟩ (.slice o3 (Dg.dg 4294967296 s3n).length k3)).setCell ⟨S, 2, none⟩ (.int .i64 s3e)) = V50 at l50 m50 x50 y50 cC50 sS50 os b050 ca0 ca1 ca2 ca3 ca4 ca5 cb0 cb1 cb2 cb3 cb4 cb5 cx0 cx1 cx2 cy0 cy1 cy2 ⊢
              clear i0 i1 i2 j0 j1 j2
              refine (HC3.out _ b050).mono ?_
              rintro z v51 ⟨pp, qq, rfl, op, oq, bb⟩
              obtain ⟨po3, pc3, hv⟩ := op.rd.shape
              subst hv
              obtain ⟨qo3, qc3, hv⟩ := oq.rd.shape
              subst hv
              simp only at op oq ⊢
              have hCd := cC50.1
              replace os := os.later bb
              have l51 := l50.later bb
              have m51 := m50.later bb
              have x51 := x50.later bb
              have y51 := y50.later bb
              have cC51 := cC50.later bb
              have sS51 := sS50.later bb
              have b051 := below_trans b050 bb
              clear ca0 ca1 ca2 ca3 ca4 ca5 cb0 cb1 cb2 cb3 cb4 cb5 cx0 cx1 cx2 cy0 cy1 cy2
              clear bb HC3
              clear l50 m50 x50 y50 cC50 sS50 b050
              obtain ⟨-, ⟨i0, i1, i2, i3, i4, i5⟩, j0, j1, j2, j3, j4, j5⟩ := id cC51
              have cC52 := loc6_set cC51 (.bool p3s) (.slice po3 (Dg.dg 4294967296 p3n).length pc3) (.int .i64 p3e) (.bool q3s) (.slice qo3 (Dg.dg 4294967296 q3n).length qc3) (.int .i64 q3e)
              have l52 := l51.off6 (c := C) (by omega) (.bool p3s) (.slice po3 (Dg.dg 4294967296 p3n).length pc3) (.int .i64 p3e) (.bool q3s) (.slice qo3 (Dg.dg 4294967296 q3n).length qc3) (.int .i64 q3e)
              have m52 := m51.off6 (c := C) (by omega) (.bool p3s) (.slice po3 (Dg.dg 4294967296 p3n).length pc3) (.int .i64 p3e) (.bool q3s) (.slice qo3 (Dg.dg 4294967296 q3n).length qc3) (.int .i64 q3e)
              have x52 := (x51.apart (c := C) (by omega) (.bool p3s) (.slice po3 (Dg.dg 4294967296 p3n).length pc3) (.int .i64 p3e)).apart3h (c := C) (by omega) (.bool q3s) (.slice qo3 (Dg.dg 4294967296 q3n).length qc3) (.int .i64 q3e)
              have y52 := (y51.apart (c := C) (by omega) (.bool p3s) (.slice po3 (Dg.dg 4294967296 p3n).length pc3) (.int .i64 p3e)).apart3h (c := C) (by omega) (.bool q3s) (.slice qo3 (Dg.dg 4294967296 q3n).length qc3) (.int .i64 q3e)
              have sS52 := (sS51.apart (c := C) (by omega) (.bool p3s) (.slice po3 (Dg.dg 4294967296 p3n).length pc3) (.int .i64 p3e)).apart3h (c := C) (by omega) (.bool q3s) (.slice qo3 (Dg.dg 4294967296 q3n).length qc3) (.int .i64 q3e)
              have rs52 := (os.apart6 (b := C) hCb (.bool p3s) (.slice po3 (Dg.dg 4294967296 p3n).length pc3) (.int .i64 p3e) (.bool q3s) (.slice qo3 (Dg.dg 4294967296 q3n).length qc3) (.int .i64 q3e)).rd
              have rp52 := (op.apart6 (b := C) hCd (.bool p3s) (.slice po3 (Dg.dg 4294967296 p3n).length pc3) (.int .i64 p3e) (.bool q3s) (.slice qo3 (Dg.dg 4294967296 q3n).length qc3) (.int .i64 q3e)).rd
              have rq52 := (oq.apart6 (b := C) hCd (.bool p3s) (.slice po3 (Dg.dg 4294967296 p3n).length pc3) (.int .i64 p3e) (.bool q3s) (.slice qo3 (Dg.dg 4294967296 q3n).length qc3) (.int .i64 q3e)).rd
              have b052 := below_set6 b051 hCw (.bool p3s) (.slice po3 (Dg.dg 4294967296 p3n).length pc3) (.int .i64 p3e) (.bool q3s) (.slice qo3 (Dg.dg 4294967296 q3n).length qc3) (.int .i64 q3e)
              clear l51 m51 x51 y51 cC51 sS51 b051 os op oq hCb hCd
              go_upto_region 23 with fail
              generalize ((((((v51.setCell ⟨C, 0, none⟩ (.bool p3s)).setCell ⟨C, 1, none⟩ (.slice po3 (Dg.dg 4294967296 p3n).length pc3)).setCell ⟨C, 2, none⟩ (.int .i64 p3e)).setCell ⟨C, 3, none⟩ (.bool q3s)).setCell ⟨C, 4, none⟩ (.slice qo3 (Dg.dg 4294967296 q3n).length qc3)).setCell ⟨C, 5, none⟩ (.int .i64 q3e)) = V52 at l52 m52 x52 y52 cC52 sS52 b052 rs52 rp52 rq52 ⊢
              clear i0 i1 i2 i3 i4 i5 j0 j1 j2 j3 j4 j5
              by_cases h3a : c3 = 0
              · subst h3a
                by_cases h3b : d3 = 0
                · subst h3b
                  obtain ⟨-, ⟨e0, e1, e2, e3, e4, e5⟩, -⟩ := id cC52
                  obtain ⟨-, ⟨f0, f1, f2⟩, -⟩ := id sS52
                  go_wp2_with fail
                  refine (HH3.out (by simp) (by simp) (by simp) (by simp) _ _ _ _ _ _ _ rp52 rq52 rs52).mono ?_
                  rintro z w53 ⟨rfl, bb⟩
                  have l53 := l52.later bb
                  have m53 := m52.later bb
                  have x53 := x52.later bb
                  have y53 := y52.later bb
                  have cC53 := cC52.later bb
                  have sS53 := sS52.later bb
                  have b053 := below_trans b052 bb
                  clear bb e0 e1 e2 e3 e4 e5 f0 f1 f2 rs52 rp52 rq52 HH3
                  clear l52 m52 x52 y52 cC52 sS52 b052
                  go_wp2
                  go_ret
                  exact ⟨rfl, b053⟩
                · go_wp2
                  go_ret
                  exact ⟨rfl, b052⟩
              · go_wp2
                go_ret
                exact ⟨rfl, b052⟩
    · cases pv <;> cases qv <;> (go_wp2; go_ret; exact ⟨rfl, b04⟩)
  · cases pv <;> cases qv <;> (go_wp2; go_ret; exact ⟨rfl, b04⟩)
end Go.Proofs.YtfajoaopfedokaaDoor

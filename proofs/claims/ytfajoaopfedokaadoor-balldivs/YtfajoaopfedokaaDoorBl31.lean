/-
  Balls: the law BallDivs.
-/
import Derived.Test.YtfajoaopfedokaaDoorBl25
namespace Go.Proofs.YtfajoaopfedokaaDoor
open Go.RowKit

/-- What is wrong, if nothing was so far. -/
def noneR (c g1 g2 : Int) : Int := if c = 0 then (if g1 ≤ 0 ∧ 0 ≤ g2 then 5 else 0) else c

set_option maxRecDepth 100000 in
set_option maxHeartbeats 1600000 in
theorem bDivsW_any (s : Bool) (ao : Option Addr) (ca la : Nat) (e : Int) (t : Bool) (bo : Option Addr) (cb lb : Nat) (f : Int) (r : Bool) (co : Option Addr) (cc lc : Nat) (g : Int) (u : Bool) (d' : Option Addr) (cd ld : Nat) (k : Int) (n c g1 g2 d : Int) (rs : Bool) (rn : Nat) (re : Int) (qs : Bool) (qn : Nat) (qe rc : Int) (X0 X1 Y0 Y1 TA TB TC TD EA EB EC ED L M N H : Trip) (w : World) (hd : noneR c g1 g2 = d)
    (HA : ∀ w1, Below w.heap.size w w1 → Calls Tryd.prog 44 #[.agg #[.bool s, .slice ao la ca, .int .i64 e, .bool t, .slice bo lb cb, .int .i64 f], .agg #[.bool r, .slice co lc cc, .int .i64 g, .bool u, .slice d' ld cd, .int .i64 k], .int .i64 n] w1 (BOwn w1 (⟨rs, rn, re⟩, ⟨qs, qn, qe⟩, rc)))
    (HW : ∀ w1, Below w.heap.size w w1 → Calls Tryd.prog 36 #[.agg #[.bool s, .slice ao la ca, .int .i64 e, .bool t, .slice bo lb cb, .int .i64 f], .agg #[.bool r, .slice co lc cc, .int .i64 g, .bool u, .slice d' ld cd, .int .i64 k], .int .i64 n] w1 fun z w' => z = .returned (.int .i64 c) ∧ Below w1.heap.size w1 w')
    (HX : c = 0 → ∀ w1, Below w.heap.size w w1 → Calls Tryd.prog 34 #[.agg #[.bool s, .slice ao la ca, .int .i64 e, .bool t, .slice bo lb cb, .int .i64 f]] w1 (RBRes w1 X0 X1))
    (HY : c = 0 → ∀ w1, Below w.heap.size w w1 → Calls Tryd.prog 34 #[.agg #[.bool r, .slice co lc cc, .int .i64 g, .bool u, .slice d' ld cd, .int .i64 k]] w1 (RBRes w1 Y0 Y1))
    (HS : c = 0 → ∀ v w1, Rv w1 v Y0 → Calls Tryd.prog 45 #[v] w1 fun z w' => z = .returned (.int .i64 g1) ∧ Below w1.heap.size w1 w')
    (HT : c = 0 → ∀ v w1, Rv w1 v Y1 → Calls Tryd.prog 45 #[v] w1 fun z w' => z = .returned (.int .i64 g2) ∧ Below w1.heap.size w1 w')
    (Q00 : d = 0 → ∀ v u w1, Rv w1 v X0 → Rv w1 u Y0 → Calls Tryd.prog 46 #[v, u, .int .i64 n, .bool false] w1 (RDRes w1 TA))
    (Q01 : d = 0 → ∀ v u w1, Rv w1 v X0 → Rv w1 u Y1 → Calls Tryd.prog 46 #[v, u, .int .i64 n, .bool false] w1 (RDRes w1 TB))
    (Q10 : d = 0 → ∀ v u w1, Rv w1 v X1 → Rv w1 u Y0 → Calls Tryd.prog 46 #[v, u, .int .i64 n, .bool false] w1 (RDRes w1 TC))
    (Q11 : d = 0 → ∀ v u w1, Rv w1 v X1 → Rv w1 u Y1 → Calls Tryd.prog 46 #[v, u, .int .i64 n, .bool false] w1 (RDRes w1 TD))
    (U00 : d = 0 → ∀ v u w1, Rv w1 v X0 → Rv w1 u Y0 → Calls Tryd.prog 46 #[v, u, .int .i64 n, .bool true] w1 (RDRes w1 EA))
    (U01 : d = 0 → ∀ v u w1, Rv w1 v X0 → Rv w1 u Y1 → Calls Tryd.prog 46 #[v, u, .int .i64 n, .bool true] w1 (RDRes w1 EB))
    (U10 : d = 0 → ∀ v u w1, Rv w1 v X1 → Rv w1 u Y0 → Calls Tryd.prog 46 #[v, u, .int .i64 n, .bool true] w1 (RDRes w1 EC))
    (U11 : d = 0 → ∀ v u w1, Rv w1 v X1 → Rv w1 u Y1 → Calls Tryd.prog 46 #[v, u, .int .i64 n, .bool true] w1 (RDRes w1 ED))
    (E1 : d = 0 → ∀ o0 c0 o1 c1 o2 c2 o3 c3 w1, Rd w1 .i64 (.slice o0 (Dg.dg 65536 TA.n).length c0) (Dg.dg 65536 TA.n) → Rd w1 .i64 (.slice o1 (Dg.dg 65536 TB.n).length c1) (Dg.dg 65536 TB.n) → Rd w1 .i64 (.slice o2 (Dg.dg 65536 TC.n).length c2) (Dg.dg 65536 TC.n) → Rd w1 .i64 (.slice o3 (Dg.dg 65536 TD.n).length c3) (Dg.dg 65536 TD.n) →
      Calls Tryd.prog 42 #[.slice (some ⟨w1.heap.size, 0, none⟩) 4 4] (w1.alloc (.cells #[.bool TA.s, .slice o0 (Dg.dg 65536 TA.n).length c0, .int .i64 TA.e, .bool TB.s, .slice o1 (Dg.dg 65536 TB.n).length c1, .int .i64 TB.e, .bool TC.s, .slice o2 (Dg.dg 65536 TC.n).length c2, .int .i64 TC.e, .bool TD.s, .slice o3 (Dg.dg 65536 TD.n).length c3, .int .i64 TD.e] 33)) (E2Res (w1.alloc (.cells #[.bool TA.s, .slice o0 (Dg.dg 65536 TA.n).length c0, .int .i64 TA.e, .bool TB.s, .slice o1 (Dg.dg 65536 TB.n).length c1, .int .i64 TB.e, .bool TC.s, .slice o2 (Dg.dg 65536 TC.n).length c2, .int .i64 TC.e, .bool TD.s, .slice o3 (Dg.dg 65536 TD.n).length c3, .int .i64 TD.e] 33)) L M))
    (E2 : d = 0 → ∀ o0 c0 o1 c1 o2 c2 o3 c3 w1, Rd w1 .i64 (.slice o0 (Dg.dg 65536 EA.n).length c0) (Dg.dg 65536 EA.n) → Rd w1 .i64 (.slice o1 (Dg.dg 65536 EB.n).length c1) (Dg.dg 65536 EB.n) → Rd w1 .i64 (.slice o2 (Dg.dg 65536 EC.n).length c2) (Dg.dg 65536 EC.n) → Rd w1 .i64 (.slice o3 (Dg.dg 65536 ED.n).length c3) (Dg.dg 65536 ED.n) →
      Calls Tryd.prog 42 #[.slice (some ⟨w1.heap.size, 0, none⟩) 4 4] (w1.alloc (.cells #[.bool EA.s, .slice o0 (Dg.dg 65536 EA.n).length c0, .int .i64 EA.e, .bool EB.s, .slice o1 (Dg.dg 65536 EB.n).length c1, .int .i64 EB.e, .bool EC.s, .slice o2 (Dg.dg 65536 EC.n).length c2, .int .i64 EC.e, .bool ED.s, .slice o3 (Dg.dg 65536 ED.n).length c3, .int .i64 ED.e] 33)) (E2Res (w1.alloc (.cells #[.bool EA.s, .slice o0 (Dg.dg 65536 EA.n).length c0, .int .i64 EA.e, .bool EB.s, .slice o1 (Dg.dg 65536 EB.n).length c1, .int .i64 EB.e, .bool EC.s, .slice o2 (Dg.dg 65536 EC.n).length c2, .int .i64 EC.e, .bool ED.s, .slice o3 (Dg.dg 65536 ED.n).length c3, .int .i64 ED.e] 33)) N H))
    (HI : ∀ p q lo hi w1, Below w.heap.size w w1 → Rd w1 .u32 p (Dg.dg 4294967296 rn) → Rd w1 .u32 q (Dg.dg 4294967296 qn) → (d = 0 → Rv w1 lo L ∧ Rv w1 hi H) → (d ≠ 0 → lo = .agg #[.bool false, .slice none 0 0, .int .i64 0] ∧ hi = .agg #[.bool false, .slice none 0 0, .int .i64 0]) → Calls Tryd.prog 38 #[.agg #[.bool rs, p, .int .i64 re, .bool qs, q, .int .i64 qe], .int .i64 rc, .int .i64 d, lo, hi, .int .i64 n] w1 fun z w' => z = .returned (.bool true) ∧ Below w1.heap.size w1 w')
    (HB : ∀ w1, Below w.heap.size w w1 → Calls Tryd.prog 29 #[] w1 fun z w' => z = .returned (.bool true) ∧ Below w1.heap.size w1 w') :
    Calls Tryd.prog 10 #[.agg #[.bool s, .slice ao la ca, .int .i64 e, .bool t, .slice bo lb cb, .int .i64 f], .agg #[.bool r, .slice co lc cc, .int .i64 g, .bool u, .slice d' ld cd, .int .i64 k], .int .i64 n] w fun z w' => z = .returned (.bool true) ∧ Below w.heap.size w w' := by
  replace HA : Hid _ := HA
  replace HW : Hid _ := HW
  replace HX : Hid _ := HX
  replace HY : Hid _ := HY
  replace HS : Hid _ := HS
  replace HT : Hid _ := HT
  replace Q00 : Hid _ := Q00
  replace Q01 : Hid _ := Q01
  replace Q10 : Hid _ := Q10
  replace Q11 : Hid _ := Q11
  replace U00 : Hid _ := U00
  replace U01 : Hid _ := U01
  replace U10 : Hid _ := U10
  replace U11 : Hid _ := U11
  replace E1 : Hid _ := E1
  replace E2 : Hid _ := E2
  replace HI : Hid _ := HI
  replace HB : Hid _ := HB
  have b1 := below_trans (below_alloc w (.cells #[.bool s, .slice ao la ca, .int .i64 e, .bool t, .slice bo lb cb, .int .i64 f] 43)) (below_alloc _ (.cells #[.bool r, .slice co lc cc, .int .i64 g, .bool u, .slice d' ld cd, .int .i64 k] 43))
  have l1 := (loc6_new w (.bool s) (.slice ao la ca) (.int .i64 e) (.bool t) (.slice bo lb cb) (.int .i64 f) 43).later (below_alloc _ (.cells #[.bool r, .slice co lc cc, .int .i64 g, .bool u, .slice d' ld cd, .int .i64 k] 43))
  have m1 := loc6_new (w.alloc (.cells #[.bool s, .slice ao la ca, .int .i64 e, .bool t, .slice bo lb cb, .int .i64 f] 43)) (.bool r) (.slice co lc cc) (.int .i64 g) (.bool u) (.slice d' ld cd) (.int .i64 k) 43
  rw [World.size_alloc] at m1
  go_enter Tryd.func10, Tryd.ntmps10
  go_wp2_with fail
  refine (HA.out _ b1).mono ?_
  rintro z w2 ⟨p, q, rfl, op, oq, b2⟩
  obtain ⟨po, pc, hp⟩ := op.rd.shape
  subst hp
  obtain ⟨qo, qc, hq⟩ := oq.rd.shape
  subst hq
  have rp := op.rd
  have rq := oq.rd
  simp only at rp rq ⊢
  have ba := below_alloc w2 (.cells #[.bool rs, .slice po (Dg.dg 4294967296 rn).length pc, .int .i64 re, .bool qs, .slice qo (Dg.dg 4294967296 qn).length qc, .int .i64 qe] 43)
  have n2 := loc6_new w2 (.bool rs) (.slice po (Dg.dg 4294967296 rn).length pc) (.int .i64 re) (.bool qs) (.slice qo (Dg.dg 4294967296 qn).length qc) (.int .i64 qe) 43
  have b02 := below_trans (below_trans b1 b2) ba
  have l2 := (l1.later b2).later ba
  have m2 := (m1.later b2).later ba
  have rp2 := rp.later ba
  have rq2 := rq.later ba
  clear op oq rp rq b1 b2 ba l1 m1 HA
  obtain ⟨-, ⟨c0, c1, c2, c3, c4, c5⟩, -⟩ := id l2
  obtain ⟨-, ⟨x0, x1, x2, x3, x4, x5⟩, -⟩ := id m2
  go_wp2_with fail
  refine (HW.out _ b02).mono ?_
  rintro z w3 ⟨rfl, b3⟩
  have l3 := l2.later b3
  have m3 := m2.later b3
  have n3 := n2.later b3
  have rp3 := rp2.later b3
  have rq3 := rq2.later b3
  have b03 := below_trans b02 b3
  have hAB : w2.heap.size < w3.heap.size := n3.1
  have hW3 : w.heap.size + 1 < w3.heap.size := m3.1
  clear l2 m2 n2 rp2 rq2 b02 b3 HW c0 c1 c2 c3 c4 c5 x0 x1 x2 x3 x4 x5
  by_cases hc : c = 0
  · subst hc
    replace HX : Hid _ := HX.out rfl
    replace HY : Hid _ := HY.out rfl
    replace HS : Hid _ := HS.out rfl
    replace HT : Hid _ := HT.out rfl
    obtain ⟨xs, xn, xe⟩ := X0
    obtain ⟨zs, zn, ze⟩ := X1
    obtain ⟨ys, yn, ye⟩ := Y0
    obtain ⟨vs, vn, ve⟩ := Y1
    have a4 := below_trans (below_alloc w3 (.cells #[.bool false, .slice none 0 0, .int .i64 0, .bool false, .slice none 0 0, .int .i64 0] 50)) (below_alloc _ (.cells #[.bool false, .slice none 0 0, .int .i64 0, .bool false, .slice none 0 0, .int .i64 0] 50))
    have zx4 := (loc6_new w3 (.bool false) (.slice none 0 0) (.int .i64 0) (.bool false) (.slice none 0 0) (.int .i64 0) 50).later (below_alloc _ (.cells #[.bool false, .slice none 0 0, .int .i64 0, .bool false, .slice none 0 0, .int .i64 0] 50))
    have yx4 := (zb6_new w3 50).later (below_alloc _ (.cells #[.bool false, .slice none 0 0, .int .i64 0, .bool false, .slice none 0 0, .int .i64 0] 50))
    have zy4 := loc6_new (w3.alloc (.cells #[.bool false, .slice none 0 0, .int .i64 0, .bool false, .slice none 0 0, .int .i64 0] 50)) (.bool false) (.slice none 0 0) (.int .i64 0) (.bool false) (.slice none 0 0) (.int .i64 0) 50
    have yy4 := zb6_new (w3.alloc (.cells #[.bool false, .slice none 0 0, .int .i64 0, .bool false, .slice none 0 0, .int .i64 0] 50)) 50
    simp only [World.size_alloc] at zy4 yy4
    have l4 := l3.later a4
    have m4 := m3.later a4
    have n4 := n3.later a4
    have rp4 := rp3.later a4
    have rq4 := rq3.later a4
    have b04 := below_trans b03 a4
    clear l3 m3 n3 rp3 rq3 b03 a4
    obtain ⟨W4, hW4⟩ : ∃ W, (w3.alloc (.cells #[.bool false, .slice none 0 0, .int .i64 0, .bool false, .slice none 0 0, .int .i64 0] 50)).alloc (.cells #[.bool false, .slice none 0 0, .int .i64 0, .bool false, .slice none 0 0, .int .i64 0] 50) = W := ⟨_, rfl⟩
    rw [hW4] at zx4 yx4 zy4 yy4 l4 m4 n4 rp4 rq4 b04
    have bd : Below W4.heap.size W4 W4.drew := (Below.refl _ _).drew
    replace zx4 := zx4.later bd
    replace yx4 := yx4.later bd
    replace zy4 := zy4.later bd
    replace yy4 := yy4.later bd
    replace l4 := l4.later bd
    replace m4 := m4.later bd
    replace n4 := n4.later bd
    replace rp4 := rp4.later bd
    replace rq4 := rq4.later bd
    replace b04 := below_trans b04 bd
    rw [← hW4] at zx4 yx4 zy4 yy4 l4 m4 n4 rp4 rq4 b04
    clear bd hW4
    obtain ⟨-, ⟨c0, c1, c2, c3, c4, c5⟩, -⟩ := id l4
    obtain ⟨-, ⟨x0, x1, x2, x3, x4, x5⟩, -⟩ := id m4
    have e45 : w3.heap.size ≠ w3.heap.size + 1 := by omega
    have e54 : w3.heap.size + 1 ≠ w3.heap.size := by omega
    have eA4 : w3.heap.size ≠ w.heap.size := by omega
    have eB4 : w3.heap.size ≠ w.heap.size + 1 := by omega
    have eA5 : w3.heap.size + 1 ≠ w.heap.size := by omega
    have eB5 : w3.heap.size + 1 ≠ w.heap.size + 1 := by omega
    have eN4 : w3.heap.size ≠ w2.heap.size := by omega
    have eN5 : w3.heap.size + 1 ≠ w2.heap.size := by omega
    have hq4 : w.heap.size ≤ w3.heap.size := by omega
    have hq5 : w.heap.size ≤ w3.heap.size + 1 := by omega
    go_wp2_with fail
    go_region_held3 (fun wq => (wq.cell? ⟨w.heap.size, 0, none⟩ = some (.bool s) ∧ wq.cell? ⟨w.heap.size, 1, none⟩ = some (.slice ao la ca) ∧ wq.cell? ⟨w.heap.size, 2, none⟩ = some (.int .i64 e) ∧ wq.cell? ⟨w.heap.size, 3, none⟩ = some (.bool t) ∧ wq.cell? ⟨w.heap.size, 4, none⟩ = some (.slice bo lb cb) ∧ wq.cell? ⟨w.heap.size, 5, none⟩ = some (.int .i64 f)) ∧ wq.cell? ⟨w.heap.size + 1, 0, none⟩ = some (.bool r) ∧ wq.cell? ⟨w.heap.size + 1, 1, none⟩ = some (.slice co lc cc) ∧ wq.cell? ⟨w.heap.size + 1, 2, none⟩ = some (.int .i64 g) ∧ wq.cell? ⟨w.heap.size + 1, 3, none⟩ = some (.bool u) ∧ wq.cell? ⟨w.heap.size + 1, 4, none⟩ = some (.slice d' ld cd) ∧ wq.cell? ⟨w.heap.size + 1, 5, none⟩ = some (.int .i64 k)) (go_keep) (first
      | (go_at_call 34; have hgd := b04; clear hgd; refine (HX.out _ b04).mono ?_; rintro z w5 ⟨px, qx, rfl, rx, rz, b5⟩; have zx5 := zx4.later b5; have yx5 := yx4.later b5; have zy5 := zy4.later b5; have yy5 := yy4.later b5; have l5 := l4.later b5; have m5 := m4.later b5; have n5 := n4.later b5; have rp5 := rp4.later b5; have rq5 := rq4.later b5; have b05 := below_trans b04 b5; obtain ⟨xo, xc, h1⟩ := rx.shape; subst h1; obtain ⟨zo, zc, h1⟩ := rz.shape; subst h1; simp only at rx rz; obtain ⟨-, ⟨d0, d1, d2, d3, d4, d5⟩, -⟩ := id l5; obtain ⟨-, ⟨y0, y1, y2, y3, y4, y5⟩, -⟩ := id m5; clear b04)
      | (go_at_call 34; have hgd := b05; clear hgd; refine (HY.out _ b05).mono ?_; rintro z w6 ⟨py, qy, rfl, ry, rv, b6⟩; have zx6 := zx5.later b6; have yx6 := yx5.later b6; have zy6 := zy5.later b6; have yy6 := yy5.later b6; have l6 := l5.later b6; have m6 := m5.later b6; have n6 := n5.later b6; have rp6 := rp5.later b6; have rq6 := rq5.later b6; have rx6 := rx.later b6; have rz6 := rz.later b6; have b06 := below_trans b05 b6; obtain ⟨yo, yc, h1⟩ := ry.shape; subst h1; obtain ⟨vo, vc, h1⟩ := rv.shape; subst h1; simp only at ry rv; obtain ⟨-, ⟨i0, i1, i2, i3, i4, i5⟩, -⟩ := id l6; obtain ⟨-, ⟨j0, j1, j2, j3, j4, j5⟩, -⟩ := id m6; obtain ⟨-, ⟨p0, p1, p2, p3, p4, p5⟩, f0, f1, f2, f3, f4, f5⟩ := id zx6; have k5 := zy6.off6 (c := w3.heap.size) e45 (.bool xs) (.slice xo (Dg.dg 65536 xn).length xc) (.int .i64 xe) (.bool zs) (.slice zo (Dg.dg 65536 zn).length zc) (.int .i64 ze); obtain ⟨-, ⟨q0, q1, q2, q3, q4, q5⟩, h0', h1', h2', h3', h4', h5'⟩ := id k5; clear b05))
    have j4s := (loc6_set zx6 (.bool xs) (.slice xo (Dg.dg 65536 xn).length xc) (.int .i64 xe) (.bool zs) (.slice zo (Dg.dg 65536 zn).length zc) (.int .i64 ze)).off6 (c := w3.heap.size + 1) e54 (.bool ys) (.slice yo (Dg.dg 65536 yn).length yc) (.int .i64 ye) (.bool vs) (.slice vo (Dg.dg 65536 vn).length vc) (.int .i64 ve)
    have j5s := loc6_set k5 (.bool ys) (.slice yo (Dg.dg 65536 yn).length yc) (.int .i64 ye) (.bool vs) (.slice vo (Dg.dg 65536 vn).length vc) (.int .i64 ve)
    have y5s := yy6.off6 e54 (.bool xs) (.slice xo (Dg.dg 65536 xn).length xc) (.int .i64 xe) (.bool zs) (.slice zo (Dg.dg 65536 zn).length zc) (.int .i64 ze)
    have rx7 := y5s.rd (yx6.rd rx6 (Dg.norm_dg _ _ (by omega)) (.bool xs) (.slice xo (Dg.dg 65536 xn).length xc) (.int .i64 xe) (.bool zs) (.slice zo (Dg.dg 65536 zn).length zc) (.int .i64 ze)) (Dg.norm_dg _ _ (by omega)) (.bool ys) (.slice yo (Dg.dg 65536 yn).length yc) (.int .i64 ye) (.bool vs) (.slice vo (Dg.dg 65536 vn).length vc) (.int .i64 ve)
    have rz7 := y5s.rd (yx6.rd rz6 (Dg.norm_dg _ _ (by omega)) (.bool xs) (.slice xo (Dg.dg 65536 xn).length xc) (.int .i64 xe) (.bool zs) (.slice zo (Dg.dg 65536 zn).length zc) (.int .i64 ze)) (Dg.norm_dg _ _ (by omega)) (.bool ys) (.slice yo (Dg.dg 65536 yn).length yc) (.int .i64 ye) (.bool vs) (.slice vo (Dg.dg 65536 vn).length vc) (.int .i64 ve)
    have ry7 := y5s.rd (yx6.rd ry (Dg.norm_dg _ _ (by omega)) (.bool xs) (.slice xo (Dg.dg 65536 xn).length xc) (.int .i64 xe) (.bool zs) (.slice zo (Dg.dg 65536 zn).length zc) (.int .i64 ze)) (Dg.norm_dg _ _ (by omega)) (.bool ys) (.slice yo (Dg.dg 65536 yn).length yc) (.int .i64 ye) (.bool vs) (.slice vo (Dg.dg 65536 vn).length vc) (.int .i64 ve)
    have rv7 := y5s.rd (yx6.rd rv (Dg.norm_dg _ _ (by omega)) (.bool xs) (.slice xo (Dg.dg 65536 xn).length xc) (.int .i64 xe) (.bool zs) (.slice zo (Dg.dg 65536 zn).length zc) (.int .i64 ze)) (Dg.norm_dg _ _ (by omega)) (.bool ys) (.slice yo (Dg.dg 65536 yn).length yc) (.int .i64 ye) (.bool vs) (.slice vo (Dg.dg 65536 vn).length vc) (.int .i64 ve)
    have rp7 := y5s.rd32 (yx6.rd32 rp6 (.bool xs) (.slice xo (Dg.dg 65536 xn).length xc) (.int .i64 xe) (.bool zs) (.slice zo (Dg.dg 65536 zn).length zc) (.int .i64 ze)) (.bool ys) (.slice yo (Dg.dg 65536 yn).length yc) (.int .i64 ye) (.bool vs) (.slice vo (Dg.dg 65536 vn).length vc) (.int .i64 ve)
    have rq7 := y5s.rd32 (yx6.rd32 rq6 (.bool xs) (.slice xo (Dg.dg 65536 xn).length xc) (.int .i64 xe) (.bool zs) (.slice zo (Dg.dg 65536 zn).length zc) (.int .i64 ze)) (.bool ys) (.slice yo (Dg.dg 65536 yn).length yc) (.int .i64 ye) (.bool vs) (.slice vo (Dg.dg 65536 vn).length vc) (.int .i64 ve)
    have n7 := (n6.off6 (c := w3.heap.size) eN4 (.bool xs) (.slice xo (Dg.dg 65536 xn).length xc) (.int .i64 xe) (.bool zs) (.slice zo (Dg.dg 65536 zn).length zc) (.int .i64 ze)).off6 (c := w3.heap.size + 1) eN5 (.bool ys) (.slice yo (Dg.dg 65536 yn).length yc) (.int .i64 ye) (.bool vs) (.slice vo (Dg.dg 65536 vn).length vc) (.int .i64 ve)
    have b07 := below_set6 (below_set6 b06 hq4 (.bool xs) (.slice xo (Dg.dg 65536 xn).length xc) (.int .i64 xe) (.bool zs) (.slice zo (Dg.dg 65536 zn).length zc) (.int .i64 ze)) hq5 (.bool ys) (.slice yo (Dg.dg 65536 yn).length yc) (.int .i64 ye) (.bool vs) (.slice vo (Dg.dg 65536 vn).length vc) (.int .i64 ve)
    clear zx4 yx4 zy4 yy4 l4 m4 n4 rp4 rq4 zx5 yx5 zy5 yy5 l5 m5 n5 rp5 rq5 rx rz zx6 yx6 zy6 yy6 l6 m6 n6 rp6 rq6 rx6 rz6 ry rv b06 b5 b6 c0 c1 c2 c3 c4 c5 x0 x1 x2 x3 x4 x5 d0 d1 d2 d3 d4 d5 y0 y1 y2 y3 y4 y5 i0 i1 i2 i3 i4 i5 j0 j1 j2 j3 j4 j5 p0 p1 p2 p3 p4 p5 f0 f1 f2 f3 f4 f5 k5 q0 q1 q2 q3 q4 q5 h0' h1' h2' h3' h4' h5' y5s HX HY eA4 eB4 eA5 eB5
    generalize ((((((((((((w6.setCell ⟨w3.heap.size, 0, none⟩ (.bool xs)).setCell ⟨w3.heap.size, 1, none⟩ (.slice xo (Dg.dg 65536 xn).length xc)).setCell ⟨w3.heap.size, 2, none⟩ (.int .i64 xe)).setCell ⟨w3.heap.size, 3, none⟩ (.bool zs)).setCell ⟨w3.heap.size, 4, none⟩ (.slice zo (Dg.dg 65536 zn).length zc)).setCell ⟨w3.heap.size, 5, none⟩ (.int .i64 ze)).setCell ⟨w3.heap.size + 1, 0, none⟩ (.bool ys)).setCell ⟨w3.heap.size + 1, 1, none⟩ (.slice yo (Dg.dg 65536 yn).length yc)).setCell ⟨w3.heap.size + 1, 2, none⟩ (.int .i64 ye)).setCell ⟨w3.heap.size + 1, 3, none⟩ (.bool vs)).setCell ⟨w3.heap.size + 1, 4, none⟩ (.slice vo (Dg.dg 65536 vn).length vc)).setCell ⟨w3.heap.size + 1, 5, none⟩ (.int .i64 ve)) = W7 at j4s j5s rx7 rz7 ry7 rv7 rp7 rq7 n7 b07 ⊢
    obtain ⟨-, ⟨c0, c1, c2, c3, c4, c5⟩, -⟩ := id j5s
    go_goals
    go_wp2_with fail
    refine (HS.out _ W7 ⟨_, rfl, ry7⟩).mono ?_
    rintro z w8 ⟨rfl, b8⟩
    have j4s8 := j4s.later b8
    have j5s8 := j5s.later b8
    have rx8 := rx7.later b8
    have rz8 := rz7.later b8
    have ry8 := ry7.later b8
    have rv8 := rv7.later b8
    have rp8 := rp7.later b8
    have rq8 := rq7.later b8
    have n8 := n7.later b8
    have b08 := below_trans b07 b8
    clear j4s j5s rx7 rz7 ry7 rv7 rp7 rq7 n7 b07 b8 c0 c1 c2 c3 c4 c5
    obtain ⟨-, ⟨c0, c1, c2, c3, c4, c5⟩, -⟩ := id j5s8
    by_cases hg1 : g1 ≤ 0
    · go_wp2_with fail
      refine (HT.out _ w8 ⟨_, rfl, rv8⟩).mono ?_
      rintro z w9 ⟨rfl, b9⟩
      have j4s9 := j4s8.later b9
      have j5s9 := j5s8.later b9
      have rx9 := rx8.later b9
      have rz9 := rz8.later b9
      have ry9 := ry8.later b9
      have rv9 := rv8.later b9
      have rp9 := rp8.later b9
      have rq9 := rq8.later b9
      have n9 := n8.later b9
      have b09 := below_trans b08 b9
      clear j4s8 j5s8 rx8 rz8 ry8 rv8 rp8 rq8 n8 b08 b9 c0 c1 c2 c3 c4 c5
      by_cases hg2 : 0 ≤ g2
      · have HD5 : 5 = d := by rw [← hd]; unfold noneR; rw [if_pos rfl, if_pos ⟨hg1, hg2⟩]
        obtain rfl := HD5
        have a0 := below_trans (below_alloc w9 (.cells #[.bool false, .slice none 0 0, .int .i64 0] 33)) (below_alloc _ (.cells #[.bool false, .slice none 0 0, .int .i64 0] 33))
        have lo0 := (loc_new w9 (.bool false) (.slice none 0 0) (.int .i64 0) 33).later (below_alloc _ (.cells #[.bool false, .slice none 0 0, .int .i64 0] 33))
        have hi0 := loc_new (w9.alloc (.cells #[.bool false, .slice none 0 0, .int .i64 0] 33)) (.bool false) (.slice none 0 0) (.int .i64 0) 33
        simp only [World.size_alloc] at hi0
        have n0 := n9.later a0
        have rp0 := rp9.later a0
        have rq0 := rq9.later a0
        have b00 := below_trans b09 a0
        go_wp2_with fail
        refine (HB.out _ b00).mono ?_
        rintro z wy ⟨rfl, by8⟩
        have b0y := below_trans b00 by8
        obtain ⟨-, ⟨p0, p1, p2⟩, -⟩ := lo0.later by8
        obtain ⟨-, ⟨p3, p4, p5⟩, -⟩ := hi0.later by8
        obtain ⟨-, ⟨i0, i1, i2, i3, i4, i5⟩, -⟩ := n0.later by8
        go_wp2_with fail
        refine (HI.out _ _ _ _ wy b0y (rp0.later by8) (rq0.later by8) (fun h => absurd h (by decide)) (fun _ => ⟨rfl, rfl⟩)).mono ?_
        rintro z wz ⟨rfl, bz9⟩
        have b0z := below_trans b0y bz9
        go_wp2
        go_ret
        exact ⟨rfl, b0z⟩
      · have HD0 : 0 = d := by rw [← hd]; unfold noneR; rw [if_pos rfl, if_neg (fun h => hg2 h.2)]
        obtain rfl := HD0
        have hcN : ∀ {P : Prop}, Hid ((0 : Int) = 0 → P) → Hid P := fun h => h.out rfl
        replace Q00 : Hid _ := Q00.out rfl
        replace Q01 : Hid _ := Q01.out rfl
        replace Q10 : Hid _ := Q10.out rfl
        replace Q11 : Hid _ := Q11.out rfl
        replace U00 : Hid _ := U00.out rfl
        replace U01 : Hid _ := U01.out rfl
        replace U10 : Hid _ := U10.out rfl
        replace U11 : Hid _ := U11.out rfl
        replace E1 : Hid _ := E1.out rfl
        replace E2 : Hid _ := E2.out rfl
        clear hcN
        obtain ⟨As, An, Ae⟩ := TA
        obtain ⟨Bs, Bn, Be⟩ := TB
        obtain ⟨Cs, Cn, Ce⟩ := TC
        obtain ⟨Ds, Dn, De⟩ := TD
        obtain ⟨Es, En, Ee⟩ := EA
        obtain ⟨Fs, Fn, Fe⟩ := EB
        obtain ⟨Gs, Gn, Ge⟩ := EC
        obtain ⟨Ks, Kn, Ke⟩ := ED
        obtain ⟨Ls, Ln, Le⟩ := L
        obtain ⟨Ms, Mn, Me⟩ := M
        obtain ⟨Ns, Nn, Ne⟩ := N
        obtain ⟨Hs, Hn, He⟩ := H
        have a0 := below_trans (below_alloc w9 (.cells #[.bool false, .slice none 0 0, .int .i64 0] 33)) (below_alloc _ (.cells #[.bool false, .slice none 0 0, .int .i64 0] 33))
        have lo0 := (loc_new w9 (.bool false) (.slice none 0 0) (.int .i64 0) 33).later (below_alloc _ (.cells #[.bool false, .slice none 0 0, .int .i64 0] 33))
        have zl0 := (zb_new w9 33).later (below_alloc _ (.cells #[.bool false, .slice none 0 0, .int .i64 0] 33))
        have hi0 := loc_new (w9.alloc (.cells #[.bool false, .slice none 0 0, .int .i64 0] 33)) (.bool false) (.slice none 0 0) (.int .i64 0) 33
        have zh0 := zb_new (w9.alloc (.cells #[.bool false, .slice none 0 0, .int .i64 0] 33)) 33
        simp only [World.size_alloc] at hi0 zh0
        have n0 := n9.later a0
        have rp0 := rp9.later a0
        have rq0 := rq9.later a0
        have rx0 := rx9.later a0
        have rz0 := rz9.later a0
        have ry0 := ry9.later a0
        have rv0 := rv9.later a0
        have j40 := j4s9.later a0
        have j50 := j5s9.later a0
        have b00 := below_trans b09 a0
        have h95 : w3.heap.size + 1 < w9.heap.size := j5s9.1
        have hA9 : w2.heap.size < w9.heap.size := n9.1
        have nLH : w9.heap.size ≠ w9.heap.size + 1 := by omega
        have nLA : w9.heap.size ≠ w2.heap.size := by omega
        have nHA : w9.heap.size + 1 ≠ w2.heap.size := by omega
        have nL4 : w9.heap.size ≠ w3.heap.size := by omega
        have nL5 : w9.heap.size ≠ w3.heap.size + 1 := by omega
        have nH4 : w9.heap.size + 1 ≠ w3.heap.size := by omega
        have nH5 : w9.heap.size + 1 ≠ w3.heap.size + 1 := by omega
        have hLB : w.heap.size ≤ w9.heap.size := by omega
        have hHK : w.heap.size ≤ w9.heap.size + 1 := by omega
        clear n9 rp9 rq9 rx9 rz9 ry9 rv9 j4s9 j5s9 b09 a0 h95 hA9 hd hW3 hAB e45 e54 eN4 eN5 hq4 hq5
        go_wp2_with fail
        generalize (w9.alloc (.cells #[.bool false, .slice none 0 0, .int .i64 0] 33)).alloc (.cells #[.bool false, .slice none 0 0, .int .i64 0] 33) = W0 at lo0 zl0 hi0 zh0 n0 rp0 rq0 rx0 rz0 ry0 rv0 j40 j50 b00 ⊢
        generalize w9.heap.size + 1 = HK at hi0 zh0 nLH nHA nH4 nH5 hHK ⊢
        generalize w9.heap.size = LB at lo0 zl0 nLH nLA nL4 nL5 hLB ⊢
        generalize w3.heap.size + 1 = q5 at j50 nL5 nH5 ⊢
        generalize w3.heap.size = q4 at j40 nL4 nH4 ⊢
        generalize w2.heap.size = AB at n0 nLA nHA ⊢
        have bd : Below W0.heap.size W0 W0.drew := (Below.refl _ _).drew
        have b01 := below_trans b00 bd
        have lo1 := lo0.later bd
        have zl1 := zl0.later bd
        have hi1 := hi0.later bd
        have zh1 := zh0.later bd
        have n1 := n0.later bd
        have rp1 := rp0.later bd
        have rq1 := rq0.later bd
        have rx1 := rx0.later bd
        have rz1 := rz0.later bd
        have ry1 := ry0.later bd
        have rv1 := rv0.later bd
        have j41 := j40.later bd
        have j51 := j50.later bd
        clear lo0 zl0 hi0 zh0 n0 rp0 rq0 rx0 rz0 ry0 rv0 j40 j50 b00 bd
        obtain ⟨-, ⟨c0, c1, c2, c3, c4, c5⟩, -⟩ := id j41
        obtain ⟨-, ⟨x0, x1, x2, x3, x4, x5⟩, -⟩ := id j51
        go_region_held3 (fun wq => (wq.cell? ⟨q4, 0, none⟩ = some (.bool xs) ∧ wq.cell? ⟨q4, 1, none⟩ = some (.slice xo (Dg.dg 65536 xn).length xc) ∧ wq.cell? ⟨q4, 2, none⟩ = some (.int .i64 xe)) ∧ (wq.cell? ⟨q4, 3, none⟩ = some (.bool zs) ∧ wq.cell? ⟨q4, 4, none⟩ = some (.slice zo (Dg.dg 65536 zn).length zc) ∧ wq.cell? ⟨q4, 5, none⟩ = some (.int .i64 ze)) ∧ (wq.cell? ⟨q5, 0, none⟩ = some (.bool ys) ∧ wq.cell? ⟨q5, 1, none⟩ = some (.slice yo (Dg.dg 65536 yn).length yc) ∧ wq.cell? ⟨q5, 2, none⟩ = some (.int .i64 ye)) ∧ (wq.cell? ⟨q5, 3, none⟩ = some (.bool vs) ∧ wq.cell? ⟨q5, 4, none⟩ = some (.slice vo (Dg.dg 65536 vn).length vc) ∧ wq.cell? ⟨q5, 5, none⟩ = some (.int .i64 ve))) (go_keep) (first
          | (go_at_call 46; have hgd := b01; clear hgd; refine (Q00.out _ _ _ ⟨_, rfl, rx1⟩ ⟨_, rfl, ry1⟩).mono ?_; rintro z wa1 ⟨rA, rfl, rdA, ba11⟩; have b0a1 := below_trans b01 ba11; have loa1 := lo1.later ba11; have hia1 := hi1.later ba11; have zla1 := zl1.later ba11; have zha1 := zh1.later ba11; have na1 := n1.later ba11; have rpa1 := rp1.later ba11; have rqa1 := rq1.later ba11; have j4a1 := j41.later ba11; have j5a1 := j51.later ba11; have rxa1 := rx1.later ba11; have rza1 := rz1.later ba11; have rya1 := ry1.later ba11; have rva1 := rv1.later ba11; obtain ⟨-, ⟨ca10, ca11, ca12, ca13, ca14, ca15⟩, -⟩ := id j4a1; obtain ⟨-, ⟨xa10, xa11, xa12, xa13, xa14, xa15⟩, -⟩ := id j5a1; obtain ⟨oA, cpA, hsA⟩ := rdA.shape; subst hsA; simp only at rdA; clear b01)
          | (go_at_call 46; have hgd := b0a1; clear hgd; refine (Q01.out _ _ _ ⟨_, rfl, rxa1⟩ ⟨_, rfl, rva1⟩).mono ?_; rintro z wb1 ⟨rB, rfl, rdB, bb11⟩; have b0b1 := below_trans b0a1 bb11; have lob1 := loa1.later bb11; have hib1 := hia1.later bb11; have zlb1 := zla1.later bb11; have zhb1 := zha1.later bb11; have nb1 := na1.later bb11; have rpb1 := rpa1.later bb11; have rqb1 := rqa1.later bb11; have j4b1 := j4a1.later bb11; have j5b1 := j5a1.later bb11; have rxb1 := rxa1.later bb11; have rzb1 := rza1.later bb11; have ryb1 := rya1.later bb11; have rvb1 := rva1.later bb11; have rdAb1 := rdA.later bb11; obtain ⟨-, ⟨cb10, cb11, cb12, cb13, cb14, cb15⟩, -⟩ := id j4b1; obtain ⟨-, ⟨xb10, xb11, xb12, xb13, xb14, xb15⟩, -⟩ := id j5b1; obtain ⟨oB, cpB, hsB⟩ := rdB.shape; subst hsB; simp only at rdB; clear b0a1)
          | (go_at_call 46; have hgd := b0b1; clear hgd; refine (Q10.out _ _ _ ⟨_, rfl, rzb1⟩ ⟨_, rfl, ryb1⟩).mono ?_; rintro z wc1 ⟨rC, rfl, rdC, bc11⟩; have b0c1 := below_trans b0b1 bc11; have loc1 := lob1.later bc11; have hic1 := hib1.later bc11; have zlc1 := zlb1.later bc11; have zhc1 := zhb1.later bc11; have nc1 := nb1.later bc11; have rpc1 := rpb1.later bc11; have rqc1 := rqb1.later bc11; have j4c1 := j4b1.later bc11; have j5c1 := j5b1.later bc11; have rxc1 := rxb1.later bc11; have rzc1 := rzb1.later bc11; have ryc1 := ryb1.later bc11; have rvc1 := rvb1.later bc11; have rdAc1 := rdAb1.later bc11; have rdBc1 := rdB.later bc11; obtain ⟨-, ⟨cc10, cc11, cc12, cc13, cc14, cc15⟩, -⟩ := id j4c1; obtain ⟨-, ⟨xc10, xc11, xc12, xc13, xc14, xc15⟩, -⟩ := id j5c1; obtain ⟨oC, cpC, hsC⟩ := rdC.shape; subst hsC; simp only at rdC; clear b0b1)
          | (go_at_call 46; have hgd := b0c1; clear hgd; refine (Q11.out _ _ _ ⟨_, rfl, rzc1⟩ ⟨_, rfl, rvc1⟩).mono ?_; rintro z wd1 ⟨rD, rfl, rdD, bd11⟩; have b0d1 := below_trans b0c1 bd11; have lod1 := loc1.later bd11; have hid1 := hic1.later bd11; have zld1 := zlc1.later bd11; have zhd1 := zhc1.later bd11; have nd1 := nc1.later bd11; have rpd1 := rpc1.later bd11; have rqd1 := rqc1.later bd11; have j4d1 := j4c1.later bd11; have j5d1 := j5c1.later bd11; have rxd1 := rxc1.later bd11; have rzd1 := rzc1.later bd11; have ryd1 := ryc1.later bd11; have rvd1 := rvc1.later bd11; have rdAd1 := rdAc1.later bd11; have rdBd1 := rdBc1.later bd11; have rdCd1 := rdC.later bd11; obtain ⟨-, ⟨cd10, cd11, cd12, cd13, cd14, cd15⟩, -⟩ := id j4d1; obtain ⟨-, ⟨xd10, xd11, xd12, xd13, xd14, xd15⟩, -⟩ := id j5d1; obtain ⟨oD, cpD, hsD⟩ := rdD.shape; subst hsD; simp only at rdD; clear b0c1; have bz := below_alloc wd1 (.cells #[.bool As, .slice oA (Dg.dg 65536 An).length cpA, .int .i64 Ae, .bool Bs, .slice oB (Dg.dg 65536 Bn).length cpB, .int .i64 Be, .bool Cs, .slice oC (Dg.dg 65536 Cn).length cpC, .int .i64 Ce, .bool Ds, .slice oD (Dg.dg 65536 Dn).length cpD, .int .i64 De] 33); have b0e1 := below_trans b0d1 bz; have loe1 := lod1.later bz; have hie1 := hid1.later bz; have zle1 := zld1.later bz; have zhe1 := zhd1.later bz; have ne1 := nd1.later bz; have rpe1 := rpd1.later bz; have rqe1 := rqd1.later bz; have j4e1 := j4d1.later bz; have j5e1 := j5d1.later bz; have rxe1 := rxd1.later bz; have rze1 := rzd1.later bz; have rye1 := ryd1.later bz; have rve1 := rvd1.later bz; obtain ⟨-, ⟨ce10, ce11, ce12, ce13, ce14, ce15⟩, -⟩ := id j4e1; obtain ⟨-, ⟨xe10, xe11, xe12, xe13, xe14, xe15⟩, -⟩ := id j5e1)
          | (go_at_call 42; have hgd := b0e1; clear hgd; refine (E1.out _ _ _ _ _ _ _ _ _ rdAd1 rdBd1 rdCd1 rdD).mono ?_; rintro z wf1 ⟨pL1, pH1, rfl, rdL, rdM, bf11⟩; have b0f1 := below_trans b0e1 bf11; have lof1 := loe1.later bf11; have hif1 := hie1.later bf11; have zlf1 := zle1.later bf11; have zhf1 := zhe1.later bf11; have nf1 := ne1.later bf11; have rpf1 := rpe1.later bf11; have rqf1 := rqe1.later bf11; have j4f1 := j4e1.later bf11; have j5f1 := j5e1.later bf11; have rxf1 := rxe1.later bf11; have rzf1 := rze1.later bf11; have ryf1 := rye1.later bf11; have rvf1 := rve1.later bf11; obtain ⟨-, ⟨cf10, cf11, cf12, cf13, cf14, cf15⟩, -⟩ := id j4f1; obtain ⟨-, ⟨xf10, xf11, xf12, xf13, xf14, xf15⟩, -⟩ := id j5f1; obtain ⟨oL, cpL, hsL⟩ := rdL.shape; subst hsL; obtain ⟨oM, cpM, hsM⟩ := rdM.shape; subst hsM; simp only at rdL rdM; obtain ⟨hl0, ⟨u0, u1, u2⟩, v0, v1, v2⟩ := id lof1; clear b0e1))
        have lo2 := loc_set lof1 (.bool Ls) (.slice oL (Dg.dg 65536 Ln).length cpL) (.int .i64 Le)
        have hi2 := hif1.apart (c := LB) nLH (.bool Ls) (.slice oL (Dg.dg 65536 Ln).length cpL) (.int .i64 Le)
        have zh2 := zhf1.off3 nLH.symm (.bool Ls) (.slice oL (Dg.dg 65536 Ln).length cpL) (.int .i64 Le)
        have n2 := nf1.apart3 (c := LB) nLA (.bool Ls) (.slice oL (Dg.dg 65536 Ln).length cpL) (.int .i64 Le)
        have j42 := j4f1.apart3 (c := LB) nL4 (.bool Ls) (.slice oL (Dg.dg 65536 Ln).length cpL) (.int .i64 Le)
        have j52 := j5f1.apart3 (c := LB) nL5 (.bool Ls) (.slice oL (Dg.dg 65536 Ln).length cpL) (.int .i64 Le)
        have rdL2 := zlf1.rd rdL (Dg.norm_dg _ _ (by omega)) (.bool Ls) (.slice oL (Dg.dg 65536 Ln).length cpL) (.int .i64 Le)
        have rx2 := zlf1.rd rxf1 (Dg.norm_dg _ _ (by omega)) (.bool Ls) (.slice oL (Dg.dg 65536 Ln).length cpL) (.int .i64 Le)
        have rz2 := zlf1.rd rzf1 (Dg.norm_dg _ _ (by omega)) (.bool Ls) (.slice oL (Dg.dg 65536 Ln).length cpL) (.int .i64 Le)
        have ry2 := zlf1.rd ryf1 (Dg.norm_dg _ _ (by omega)) (.bool Ls) (.slice oL (Dg.dg 65536 Ln).length cpL) (.int .i64 Le)
        have rv2 := zlf1.rd rvf1 (Dg.norm_dg _ _ (by omega)) (.bool Ls) (.slice oL (Dg.dg 65536 Ln).length cpL) (.int .i64 Le)
        have rp2 := rpf1.fix3 zlf1 (.bool Ls) (.slice oL (Dg.dg 65536 Ln).length cpL) (.int .i64 Le)
        have rq2 := rqf1.fix3 zlf1 (.bool Ls) (.slice oL (Dg.dg 65536 Ln).length cpL) (.int .i64 Le)
        have b02 := below_set3 b0f1 hLB (.bool Ls) (.slice oL (Dg.dg 65536 Ln).length cpL) (.int .i64 Le)
        clear loa1 hia1 zla1 zha1 na1 rpa1 rqa1 j4a1 j5a1 rxa1 rza1 rya1 rva1 ca10 ca11 ca12 ca13 ca14 ca15 xa10 xa11 xa12 xa13 xa14 xa15 ba11 lob1 hib1 zlb1 zhb1 nb1 rpb1 rqb1 j4b1 j5b1 rxb1 rzb1 ryb1 rvb1 cb10 cb11 cb12 cb13 cb14 cb15 xb10 xb11 xb12 xb13 xb14 xb15 bb11 loc1 hic1 zlc1 zhc1 nc1 rpc1 rqc1 j4c1 j5c1 rxc1 rzc1 ryc1 rvc1 cc10 cc11 cc12 cc13 cc14 cc15 xc10 xc11 xc12 xc13 xc14 xc15 bc11 lod1 hid1 zld1 zhd1 nd1 rpd1 rqd1 j4d1 j5d1 rxd1 rzd1 ryd1 rvd1 cd10 cd11 cd12 cd13 cd14 cd15 xd10 xd11 xd12 xd13 xd14 xd15 bd11 loe1 hie1 zle1 zhe1 ne1 rpe1 rqe1 j4e1 j5e1 rxe1 rze1 rye1 rve1 ce10 ce11 ce12 ce13 ce14 ce15 xe10 xe11 xe12 xe13 xe14 xe15 lof1 hif1 zlf1 zhf1 nf1 rpf1 rqf1 j4f1 j5f1 rxf1 rzf1 ryf1 rvf1 cf10 cf11 cf12 cf13 cf14 cf15 xf10 xf11 xf12 xf13 xf14 xf15 bf11 rdA rdAb1 rdAc1 rdAd1 rdB rdBc1 rdBd1 rdC rdCd1 rdD bz b0f1 lo1 zl1 hi1 zh1 n1 rp1 rq1 rx1 rz1 ry1 rv1 j41 j51 c0 c1 c2 c3 c4 c5 x0 x1 x2 x3 x4 x5 rdL rdM hl0 u0 u1 u2 v0 v1 v2 Q00 Q01 Q10 Q11 E1
        generalize (((wf1.setCell ⟨LB, 0, none⟩ (.bool Ls)).setCell ⟨LB, 1, none⟩ (.slice oL (Dg.dg 65536 Ln).length cpL)).setCell ⟨LB, 2, none⟩ (.int .i64 Le)) = W2 at lo2 hi2 zh2 n2 j42 j52 rdL2 rx2 rz2 ry2 rv2 rp2 rq2 b02 ⊢
        have bd2 : Below W2.heap.size W2 W2.drew := (Below.refl _ _).drew
        have b03 := below_trans b02 bd2
        have lo3 := lo2.later bd2
        have hi3 := hi2.later bd2
        have zh3 := zh2.later bd2
        have n3 := n2.later bd2
        have rp3 := rp2.later bd2
        have rq3 := rq2.later bd2
        have rx3 := rx2.later bd2
        have rz3 := rz2.later bd2
        have ry3 := ry2.later bd2
        have rv3 := rv2.later bd2
        have j43 := j42.later bd2
        have j53 := j52.later bd2
        have rdL3 := rdL2.later bd2
        clear lo2 hi2 zh2 n2 rp2 rq2 rx2 rz2 ry2 rv2 j42 j52 rdL2 b02 bd2
        obtain ⟨-, ⟨c0, c1, c2, c3, c4, c5⟩, -⟩ := id j43
        obtain ⟨-, ⟨x0, x1, x2, x3, x4, x5⟩, -⟩ := id j53
        go_goals
        go_wp2_with fail
        go_region_held3 (fun wq => (wq.cell? ⟨q4, 0, none⟩ = some (.bool xs) ∧ wq.cell? ⟨q4, 1, none⟩ = some (.slice xo (Dg.dg 65536 xn).length xc) ∧ wq.cell? ⟨q4, 2, none⟩ = some (.int .i64 xe)) ∧ (wq.cell? ⟨q4, 3, none⟩ = some (.bool zs) ∧ wq.cell? ⟨q4, 4, none⟩ = some (.slice zo (Dg.dg 65536 zn).length zc) ∧ wq.cell? ⟨q4, 5, none⟩ = some (.int .i64 ze)) ∧ (wq.cell? ⟨q5, 0, none⟩ = some (.bool ys) ∧ wq.cell? ⟨q5, 1, none⟩ = some (.slice yo (Dg.dg 65536 yn).length yc) ∧ wq.cell? ⟨q5, 2, none⟩ = some (.int .i64 ye)) ∧ (wq.cell? ⟨q5, 3, none⟩ = some (.bool vs) ∧ wq.cell? ⟨q5, 4, none⟩ = some (.slice vo (Dg.dg 65536 vn).length vc) ∧ wq.cell? ⟨q5, 5, none⟩ = some (.int .i64 ve))) (go_keep) (first
          | (go_at_call 46; have hgd := b03; clear hgd; refine (U00.out _ _ _ ⟨_, rfl, rx3⟩ ⟨_, rfl, ry3⟩).mono ?_; rintro z wa2 ⟨rE, rfl, rdE, ba21⟩; have b0a2 := below_trans b03 ba21; have loa2 := lo3.later ba21; have hia2 := hi3.later ba21; have zha2 := zh3.later ba21; have na2 := n3.later ba21; have rpa2 := rp3.later ba21; have rqa2 := rq3.later ba21; have j4a2 := j43.later ba21; have j5a2 := j53.later ba21; have rxa2 := rx3.later ba21; have rza2 := rz3.later ba21; have rya2 := ry3.later ba21; have rva2 := rv3.later ba21; have rdLa2 := rdL3.later ba21; obtain ⟨-, ⟨ca20, ca21, ca22, ca23, ca24, ca25⟩, -⟩ := id j4a2; obtain ⟨-, ⟨xa20, xa21, xa22, xa23, xa24, xa25⟩, -⟩ := id j5a2; obtain ⟨oE, cpE, hsE⟩ := rdE.shape; subst hsE; simp only at rdE; clear b03)
          | (go_at_call 46; have hgd := b0a2; clear hgd; refine (U01.out _ _ _ ⟨_, rfl, rxa2⟩ ⟨_, rfl, rva2⟩).mono ?_; rintro z wb2 ⟨rF, rfl, rdF, bb21⟩; have b0b2 := below_trans b0a2 bb21; have lob2 := loa2.later bb21; have hib2 := hia2.later bb21; have zhb2 := zha2.later bb21; have nb2 := na2.later bb21; have rpb2 := rpa2.later bb21; have rqb2 := rqa2.later bb21; have j4b2 := j4a2.later bb21; have j5b2 := j5a2.later bb21; have rxb2 := rxa2.later bb21; have rzb2 := rza2.later bb21; have ryb2 := rya2.later bb21; have rvb2 := rva2.later bb21; have rdLb2 := rdLa2.later bb21; have rdEb2 := rdE.later bb21; obtain ⟨-, ⟨cb20, cb21, cb22, cb23, cb24, cb25⟩, -⟩ := id j4b2; obtain ⟨-, ⟨xb20, xb21, xb22, xb23, xb24, xb25⟩, -⟩ := id j5b2; obtain ⟨oF, cpF, hsF⟩ := rdF.shape; subst hsF; simp only at rdF; clear b0a2)
          | (go_at_call 46; have hgd := b0b2; clear hgd; refine (U10.out _ _ _ ⟨_, rfl, rzb2⟩ ⟨_, rfl, ryb2⟩).mono ?_; rintro z wc2 ⟨rG, rfl, rdG, bc21⟩; have b0c2 := below_trans b0b2 bc21; have loc2 := lob2.later bc21; have hic2 := hib2.later bc21; have zhc2 := zhb2.later bc21; have nc2 := nb2.later bc21; have rpc2 := rpb2.later bc21; have rqc2 := rqb2.later bc21; have j4c2 := j4b2.later bc21; have j5c2 := j5b2.later bc21; have rxc2 := rxb2.later bc21; have rzc2 := rzb2.later bc21; have ryc2 := ryb2.later bc21; have rvc2 := rvb2.later bc21; have rdLc2 := rdLb2.later bc21; have rdEc2 := rdEb2.later bc21; have rdFc2 := rdF.later bc21; obtain ⟨-, ⟨cc20, cc21, cc22, cc23, cc24, cc25⟩, -⟩ := id j4c2; obtain ⟨-, ⟨xc20, xc21, xc22, xc23, xc24, xc25⟩, -⟩ := id j5c2; obtain ⟨oG, cpG, hsG⟩ := rdG.shape; subst hsG; simp only at rdG; clear b0b2)
          | (go_at_call 46; have hgd := b0c2; clear hgd; refine (U11.out _ _ _ ⟨_, rfl, rzc2⟩ ⟨_, rfl, rvc2⟩).mono ?_; rintro z wd2 ⟨rK, rfl, rdK, bd21⟩; have b0d2 := below_trans b0c2 bd21; have lod2 := loc2.later bd21; have hid2 := hic2.later bd21; have zhd2 := zhc2.later bd21; have nd2 := nc2.later bd21; have rpd2 := rpc2.later bd21; have rqd2 := rqc2.later bd21; have j4d2 := j4c2.later bd21; have j5d2 := j5c2.later bd21; have rxd2 := rxc2.later bd21; have rzd2 := rzc2.later bd21; have ryd2 := ryc2.later bd21; have rvd2 := rvc2.later bd21; have rdLd2 := rdLc2.later bd21; have rdEd2 := rdEc2.later bd21; have rdFd2 := rdFc2.later bd21; have rdGd2 := rdG.later bd21; obtain ⟨-, ⟨cd20, cd21, cd22, cd23, cd24, cd25⟩, -⟩ := id j4d2; obtain ⟨-, ⟨xd20, xd21, xd22, xd23, xd24, xd25⟩, -⟩ := id j5d2; obtain ⟨oK, cpK, hsK⟩ := rdK.shape; subst hsK; simp only at rdK; clear b0c2; have bz := below_alloc wd2 (.cells #[.bool Es, .slice oE (Dg.dg 65536 En).length cpE, .int .i64 Ee, .bool Fs, .slice oF (Dg.dg 65536 Fn).length cpF, .int .i64 Fe, .bool Gs, .slice oG (Dg.dg 65536 Gn).length cpG, .int .i64 Ge, .bool Ks, .slice oK (Dg.dg 65536 Kn).length cpK, .int .i64 Ke] 33); have b0e2 := below_trans b0d2 bz; have loe2 := lod2.later bz; have hie2 := hid2.later bz; have zhe2 := zhd2.later bz; have ne2 := nd2.later bz; have rpe2 := rpd2.later bz; have rqe2 := rqd2.later bz; have j4e2 := j4d2.later bz; have j5e2 := j5d2.later bz; have rxe2 := rxd2.later bz; have rze2 := rzd2.later bz; have rye2 := ryd2.later bz; have rve2 := rvd2.later bz; have rdLe2 := rdLd2.later bz; obtain ⟨-, ⟨ce20, ce21, ce22, ce23, ce24, ce25⟩, -⟩ := id j4e2; obtain ⟨-, ⟨xe20, xe21, xe22, xe23, xe24, xe25⟩, -⟩ := id j5e2)
          | (go_at_call 42; have hgd := b0e2; clear hgd; refine (E2.out _ _ _ _ _ _ _ _ _ rdEd2 rdFd2 rdGd2 rdK).mono ?_; rintro z wf2 ⟨pL2, pH2, rfl, rdN, rdH, bf21⟩; have b0f2 := below_trans b0e2 bf21; have lof2 := loe2.later bf21; have hif2 := hie2.later bf21; have zhf2 := zhe2.later bf21; have nf2 := ne2.later bf21; have rpf2 := rpe2.later bf21; have rqf2 := rqe2.later bf21; have j4f2 := j4e2.later bf21; have j5f2 := j5e2.later bf21; have rxf2 := rxe2.later bf21; have rzf2 := rze2.later bf21; have ryf2 := rye2.later bf21; have rvf2 := rve2.later bf21; have rdLf2 := rdLe2.later bf21; obtain ⟨-, ⟨cf20, cf21, cf22, cf23, cf24, cf25⟩, -⟩ := id j4f2; obtain ⟨-, ⟨xf20, xf21, xf22, xf23, xf24, xf25⟩, -⟩ := id j5f2; obtain ⟨oN, cpN, hsN⟩ := rdN.shape; subst hsN; obtain ⟨oH, cpH, hsH⟩ := rdH.shape; subst hsH; simp only at rdN rdH; obtain ⟨hl0, ⟨u0, u1, u2⟩, v0, v1, v2⟩ := id hif2; clear b0e2))
        have s1 := lof2.apart (c := HK) nLH.symm (.bool Hs) (.slice oH (Dg.dg 65536 Hn).length cpH) (.int .i64 He)
        have s2 := loc_set hif2 (.bool Hs) (.slice oH (Dg.dg 65536 Hn).length cpH) (.int .i64 He)
        have s4 := nf2.apart3 (c := HK) nHA (.bool Hs) (.slice oH (Dg.dg 65536 Hn).length cpH) (.int .i64 He)
        have s5 := zhf2.rd rdLf2 (Dg.norm_dg _ _ (by omega)) (.bool Hs) (.slice oH (Dg.dg 65536 Hn).length cpH) (.int .i64 He)
        have s6 := zhf2.rd rdH (Dg.norm_dg _ _ (by omega)) (.bool Hs) (.slice oH (Dg.dg 65536 Hn).length cpH) (.int .i64 He)
        have s7 := below_set3 b0f2 hHK (.bool Hs) (.slice oH (Dg.dg 65536 Hn).length cpH) (.int .i64 He)
        have u3 := rpf2.fix3 zhf2 (.bool Hs) (.slice oH (Dg.dg 65536 Hn).length cpH) (.int .i64 He)
        have u4 := rqf2.fix3 zhf2 (.bool Hs) (.slice oH (Dg.dg 65536 Hn).length cpH) (.int .i64 He)
        clear loa2 hia2 zha2 na2 rpa2 rqa2 j4a2 j5a2 rxa2 rza2 rya2 rva2 rdLa2 ca20 ca21 ca22 ca23 ca24 ca25 xa20 xa21 xa22 xa23 xa24 xa25 ba21 lob2 hib2 zhb2 nb2 rpb2 rqb2 j4b2 j5b2 rxb2 rzb2 ryb2 rvb2 rdLb2 cb20 cb21 cb22 cb23 cb24 cb25 xb20 xb21 xb22 xb23 xb24 xb25 bb21 loc2 hic2 zhc2 nc2 rpc2 rqc2 j4c2 j5c2 rxc2 rzc2 ryc2 rvc2 rdLc2 cc20 cc21 cc22 cc23 cc24 cc25 xc20 xc21 xc22 xc23 xc24 xc25 bc21 lod2 hid2 zhd2 nd2 rpd2 rqd2 j4d2 j5d2 rxd2 rzd2 ryd2 rvd2 rdLd2 cd20 cd21 cd22 cd23 cd24 cd25 xd20 xd21 xd22 xd23 xd24 xd25 bd21 loe2 hie2 zhe2 ne2 rpe2 rqe2 j4e2 j5e2 rxe2 rze2 rye2 rve2 rdLe2 ce20 ce21 ce22 ce23 ce24 ce25 xe20 xe21 xe22 xe23 xe24 xe25 lof2 hif2 zhf2 nf2 rpf2 rqf2 j4f2 j5f2 rxf2 rzf2 ryf2 rvf2 rdLf2 cf20 cf21 cf22 cf23 cf24 cf25 xf20 xf21 xf22 xf23 xf24 xf25 bf21 rdE rdEb2 rdEc2 rdEd2 rdF rdFc2 rdFd2 rdG rdGd2 rdK bz b0f2 lo3 hi3 zh3 n3 rp3 rq3 rx3 rz3 ry3 rv3 j43 j53 rdL3 c0 c1 c2 c3 c4 c5 x0 x1 x2 x3 x4 x5 rdH rdN hl0 u0 u1 u2 v0 v1 v2 U00 U01 U10 U11 E2
        generalize (((wf2.setCell ⟨HK, 0, none⟩ (.bool Hs)).setCell ⟨HK, 1, none⟩ (.slice oH (Dg.dg 65536 Hn).length cpH)).setCell ⟨HK, 2, none⟩ (.int .i64 He)) = W5 at s1 s2 s4 s5 s6 s7 u3 u4 ⊢
        obtain ⟨-, ⟨p0, p1, p2⟩, -⟩ := id s1
        go_goals
        go_wp2_with fail
        refine (HB.out _ s7).mono ?_
        rintro z wy ⟨rfl, by8⟩
        have b08 := below_trans s7 by8
        obtain ⟨-, ⟨p0, p1, p2⟩, -⟩ := s1.later by8
        obtain ⟨-, ⟨p3, p4, p5⟩, -⟩ := s2.later by8
        obtain ⟨-, ⟨i0, i1, i2, i3, i4, i5⟩, -⟩ := s4.later by8
        go_wp2_with fail
        refine (HI.out _ _ _ _ wy b08 (u3.later by8) (u4.later by8) (fun _ => ⟨⟨_, rfl, s5.later by8⟩, ⟨_, rfl, s6.later by8⟩⟩) (fun h => absurd rfl h)).mono ?_
        rintro z wz ⟨rfl, bz9⟩
        have b0z := below_trans b08 bz9
        go_wp2
        go_ret
        exact ⟨rfl, b0z⟩
    · have HD0 : 0 = d := by rw [← hd]; unfold noneR; rw [if_pos rfl, if_neg (fun h => hg1 h.1)]
      obtain rfl := HD0
      have hcN : ∀ {P : Prop}, Hid ((0 : Int) = 0 → P) → Hid P := fun h => h.out rfl
      replace Q00 : Hid _ := Q00.out rfl
      replace Q01 : Hid _ := Q01.out rfl
      replace Q10 : Hid _ := Q10.out rfl
      replace Q11 : Hid _ := Q11.out rfl
      replace U00 : Hid _ := U00.out rfl
      replace U01 : Hid _ := U01.out rfl
      replace U10 : Hid _ := U10.out rfl
      replace U11 : Hid _ := U11.out rfl
      replace E1 : Hid _ := E1.out rfl
      replace E2 : Hid _ := E2.out rfl
      clear hcN
      obtain ⟨As, An, Ae⟩ := TA
      obtain ⟨Bs, Bn, Be⟩ := TB
      obtain ⟨Cs, Cn, Ce⟩ := TC
      obtain ⟨Ds, Dn, De⟩ := TD
      obtain ⟨Es, En, Ee⟩ := EA
      obtain ⟨Fs, Fn, Fe⟩ := EB
      obtain ⟨Gs, Gn, Ge⟩ := EC
      obtain ⟨Ks, Kn, Ke⟩ := ED
      obtain ⟨Ls, Ln, Le⟩ := L
      obtain ⟨Ms, Mn, Me⟩ := M
      obtain ⟨Ns, Nn, Ne⟩ := N
      obtain ⟨Hs, Hn, He⟩ := H
      have a0 := below_trans (below_alloc w8 (.cells #[.bool false, .slice none 0 0, .int .i64 0] 33)) (below_alloc _ (.cells #[.bool false, .slice none 0 0, .int .i64 0] 33))
      have lo0 := (loc_new w8 (.bool false) (.slice none 0 0) (.int .i64 0) 33).later (below_alloc _ (.cells #[.bool false, .slice none 0 0, .int .i64 0] 33))
      have zl0 := (zb_new w8 33).later (below_alloc _ (.cells #[.bool false, .slice none 0 0, .int .i64 0] 33))
      have hi0 := loc_new (w8.alloc (.cells #[.bool false, .slice none 0 0, .int .i64 0] 33)) (.bool false) (.slice none 0 0) (.int .i64 0) 33
      have zh0 := zb_new (w8.alloc (.cells #[.bool false, .slice none 0 0, .int .i64 0] 33)) 33
      simp only [World.size_alloc] at hi0 zh0
      have n0 := n8.later a0
      have rp0 := rp8.later a0
      have rq0 := rq8.later a0
      have rx0 := rx8.later a0
      have rz0 := rz8.later a0
      have ry0 := ry8.later a0
      have rv0 := rv8.later a0
      have j40 := j4s8.later a0
      have j50 := j5s8.later a0
      have b00 := below_trans b08 a0
      have h95 : w3.heap.size + 1 < w8.heap.size := j5s8.1
      have hA9 : w2.heap.size < w8.heap.size := n8.1
      have nLH : w8.heap.size ≠ w8.heap.size + 1 := by omega
      have nLA : w8.heap.size ≠ w2.heap.size := by omega
      have nHA : w8.heap.size + 1 ≠ w2.heap.size := by omega
      have nL4 : w8.heap.size ≠ w3.heap.size := by omega
      have nL5 : w8.heap.size ≠ w3.heap.size + 1 := by omega
      have nH4 : w8.heap.size + 1 ≠ w3.heap.size := by omega
      have nH5 : w8.heap.size + 1 ≠ w3.heap.size + 1 := by omega
      have hLB : w.heap.size ≤ w8.heap.size := by omega
      have hHK : w.heap.size ≤ w8.heap.size + 1 := by omega
      clear n8 rp8 rq8 rx8 rz8 ry8 rv8 j4s8 j5s8 b08 a0 h95 hA9 hd hW3 hAB e45 e54 eN4 eN5 hq4 hq5
      go_wp2_with fail
      generalize (w8.alloc (.cells #[.bool false, .slice none 0 0, .int .i64 0] 33)).alloc (.cells #[.bool false, .slice none 0 0, .int .i64 0] 33) = W0 at lo0 zl0 hi0 zh0 n0 rp0 rq0 rx0 rz0 ry0 rv0 j40 j50 b00 ⊢
      generalize w8.heap.size + 1 = HK at hi0 zh0 nLH nHA nH4 nH5 hHK ⊢
      generalize w8.heap.size = LB at lo0 zl0 nLH nLA nL4 nL5 hLB ⊢
      generalize w3.heap.size + 1 = q5 at j50 nL5 nH5 ⊢
      generalize w3.heap.size = q4 at j40 nL4 nH4 ⊢
      generalize w2.heap.size = AB at n0 nLA nHA ⊢
      have bd : Below W0.heap.size W0 W0.drew := (Below.refl _ _).drew
      have b01 := below_trans b00 bd
      have lo1 := lo0.later bd
      have zl1 := zl0.later bd
      have hi1 := hi0.later bd
      have zh1 := zh0.later bd
      have n1 := n0.later bd
      have rp1 := rp0.later bd
      have rq1 := rq0.later bd
      have rx1 := rx0.later bd
      have rz1 := rz0.later bd
      have ry1 := ry0.later bd
      have rv1 := rv0.later bd
      have j41 := j40.later bd
      have j51 := j50.later bd
      clear lo0 zl0 hi0 zh0 n0 rp0 rq0 rx0 rz0 ry0 rv0 j40 j50 b00 bd
      obtain ⟨-, ⟨c0, c1, c2, c3, c4, c5⟩, -⟩ := id j41
      obtain ⟨-, ⟨x0, x1, x2, x3, x4, x5⟩, -⟩ := id j51
      go_region_held3 (fun wq => (wq.cell? ⟨q4, 0, none⟩ = some (.bool xs) ∧ wq.cell? ⟨q4, 1, none⟩ = some (.slice xo (Dg.dg 65536 xn).length xc) ∧ wq.cell? ⟨q4, 2, none⟩ = some (.int .i64 xe)) ∧ (wq.cell? ⟨q4, 3, none⟩ = some (.bool zs) ∧ wq.cell? ⟨q4, 4, none⟩ = some (.slice zo (Dg.dg 65536 zn).length zc) ∧ wq.cell? ⟨q4, 5, none⟩ = some (.int .i64 ze)) ∧ (wq.cell? ⟨q5, 0, none⟩ = some (.bool ys) ∧ wq.cell? ⟨q5, 1, none⟩ = some (.slice yo (Dg.dg 65536 yn).length yc) ∧ wq.cell? ⟨q5, 2, none⟩ = some (.int .i64 ye)) ∧ (wq.cell? ⟨q5, 3, none⟩ = some (.bool vs) ∧ wq.cell? ⟨q5, 4, none⟩ = some (.slice vo (Dg.dg 65536 vn).length vc) ∧ wq.cell? ⟨q5, 5, none⟩ = some (.int .i64 ve))) (go_keep) (first
        | (go_at_call 46; have hgd := b01; clear hgd; refine (Q00.out _ _ _ ⟨_, rfl, rx1⟩ ⟨_, rfl, ry1⟩).mono ?_; rintro z wa1 ⟨rA, rfl, rdA, ba11⟩; have b0a1 := below_trans b01 ba11; have loa1 := lo1.later ba11; have hia1 := hi1.later ba11; have zla1 := zl1.later ba11; have zha1 := zh1.later ba11; have na1 := n1.later ba11; have rpa1 := rp1.later ba11; have rqa1 := rq1.later ba11; have j4a1 := j41.later ba11; have j5a1 := j51.later ba11; have rxa1 := rx1.later ba11; have rza1 := rz1.later ba11; have rya1 := ry1.later ba11; have rva1 := rv1.later ba11; obtain ⟨-, ⟨ca10, ca11, ca12, ca13, ca14, ca15⟩, -⟩ := id j4a1; obtain ⟨-, ⟨xa10, xa11, xa12, xa13, xa14, xa15⟩, -⟩ := id j5a1; obtain ⟨oA, cpA, hsA⟩ := rdA.shape; subst hsA; simp only at rdA; clear b01)
        | (go_at_call 46; have hgd := b0a1; clear hgd; refine (Q01.out _ _ _ ⟨_, rfl, rxa1⟩ ⟨_, rfl, rva1⟩).mono ?_; rintro z wb1 ⟨rB, rfl, rdB, bb11⟩; have b0b1 := below_trans b0a1 bb11; have lob1 := loa1.later bb11; have hib1 := hia1.later bb11; have zlb1 := zla1.later bb11; have zhb1 := zha1.later bb11; have nb1 := na1.later bb11; have rpb1 := rpa1.later bb11; have rqb1 := rqa1.later bb11; have j4b1 := j4a1.later bb11; have j5b1 := j5a1.later bb11; have rxb1 := rxa1.later bb11; have rzb1 := rza1.later bb11; have ryb1 := rya1.later bb11; have rvb1 := rva1.later bb11; have rdAb1 := rdA.later bb11; obtain ⟨-, ⟨cb10, cb11, cb12, cb13, cb14, cb15⟩, -⟩ := id j4b1; obtain ⟨-, ⟨xb10, xb11, xb12, xb13, xb14, xb15⟩, -⟩ := id j5b1; obtain ⟨oB, cpB, hsB⟩ := rdB.shape; subst hsB; simp only at rdB; clear b0a1)
        | (go_at_call 46; have hgd := b0b1; clear hgd; refine (Q10.out _ _ _ ⟨_, rfl, rzb1⟩ ⟨_, rfl, ryb1⟩).mono ?_; rintro z wc1 ⟨rC, rfl, rdC, bc11⟩; have b0c1 := below_trans b0b1 bc11; have loc1 := lob1.later bc11; have hic1 := hib1.later bc11; have zlc1 := zlb1.later bc11; have zhc1 := zhb1.later bc11; have nc1 := nb1.later bc11; have rpc1 := rpb1.later bc11; have rqc1 := rqb1.later bc11; have j4c1 := j4b1.later bc11; have j5c1 := j5b1.later bc11; have rxc1 := rxb1.later bc11; have rzc1 := rzb1.later bc11; have ryc1 := ryb1.later bc11; have rvc1 := rvb1.later bc11; have rdAc1 := rdAb1.later bc11; have rdBc1 := rdB.later bc11; obtain ⟨-, ⟨cc10, cc11, cc12, cc13, cc14, cc15⟩, -⟩ := id j4c1; obtain ⟨-, ⟨xc10, xc11, xc12, xc13, xc14, xc15⟩, -⟩ := id j5c1; obtain ⟨oC, cpC, hsC⟩ := rdC.shape; subst hsC; simp only at rdC; clear b0b1)
        | (go_at_call 46; have hgd := b0c1; clear hgd; refine (Q11.out _ _ _ ⟨_, rfl, rzc1⟩ ⟨_, rfl, rvc1⟩).mono ?_; rintro z wd1 ⟨rD, rfl, rdD, bd11⟩; have b0d1 := below_trans b0c1 bd11; have lod1 := loc1.later bd11; have hid1 := hic1.later bd11; have zld1 := zlc1.later bd11; have zhd1 := zhc1.later bd11; have nd1 := nc1.later bd11; have rpd1 := rpc1.later bd11; have rqd1 := rqc1.later bd11; have j4d1 := j4c1.later bd11; have j5d1 := j5c1.later bd11; have rxd1 := rxc1.later bd11; have rzd1 := rzc1.later bd11; have ryd1 := ryc1.later bd11; have rvd1 := rvc1.later bd11; have rdAd1 := rdAc1.later bd11; have rdBd1 := rdBc1.later bd11; have rdCd1 := rdC.later bd11; obtain ⟨-, ⟨cd10, cd11, cd12, cd13, cd14, cd15⟩, -⟩ := id j4d1; obtain ⟨-, ⟨xd10, xd11, xd12, xd13, xd14, xd15⟩, -⟩ := id j5d1; obtain ⟨oD, cpD, hsD⟩ := rdD.shape; subst hsD; simp only at rdD; clear b0c1; have bz := below_alloc wd1 (.cells #[.bool As, .slice oA (Dg.dg 65536 An).length cpA, .int .i64 Ae, .bool Bs, .slice oB (Dg.dg 65536 Bn).length cpB, .int .i64 Be, .bool Cs, .slice oC (Dg.dg 65536 Cn).length cpC, .int .i64 Ce, .bool Ds, .slice oD (Dg.dg 65536 Dn).length cpD, .int .i64 De] 33); have b0e1 := below_trans b0d1 bz; have loe1 := lod1.later bz; have hie1 := hid1.later bz; have zle1 := zld1.later bz; have zhe1 := zhd1.later bz; have ne1 := nd1.later bz; have rpe1 := rpd1.later bz; have rqe1 := rqd1.later bz; have j4e1 := j4d1.later bz; have j5e1 := j5d1.later bz; have rxe1 := rxd1.later bz; have rze1 := rzd1.later bz; have rye1 := ryd1.later bz; have rve1 := rvd1.later bz; obtain ⟨-, ⟨ce10, ce11, ce12, ce13, ce14, ce15⟩, -⟩ := id j4e1; obtain ⟨-, ⟨xe10, xe11, xe12, xe13, xe14, xe15⟩, -⟩ := id j5e1)
        | (go_at_call 42; have hgd := b0e1; clear hgd; refine (E1.out _ _ _ _ _ _ _ _ _ rdAd1 rdBd1 rdCd1 rdD).mono ?_; rintro z wf1 ⟨pL1, pH1, rfl, rdL, rdM, bf11⟩; have b0f1 := below_trans b0e1 bf11; have lof1 := loe1.later bf11; have hif1 := hie1.later bf11; have zlf1 := zle1.later bf11; have zhf1 := zhe1.later bf11; have nf1 := ne1.later bf11; have rpf1 := rpe1.later bf11; have rqf1 := rqe1.later bf11; have j4f1 := j4e1.later bf11; have j5f1 := j5e1.later bf11; have rxf1 := rxe1.later bf11; have rzf1 := rze1.later bf11; have ryf1 := rye1.later bf11; have rvf1 := rve1.later bf11; obtain ⟨-, ⟨cf10, cf11, cf12, cf13, cf14, cf15⟩, -⟩ := id j4f1; obtain ⟨-, ⟨xf10, xf11, xf12, xf13, xf14, xf15⟩, -⟩ := id j5f1; obtain ⟨oL, cpL, hsL⟩ := rdL.shape; subst hsL; obtain ⟨oM, cpM, hsM⟩ := rdM.shape; subst hsM; simp only at rdL rdM; obtain ⟨hl0, ⟨u0, u1, u2⟩, v0, v1, v2⟩ := id lof1; clear b0e1))
      have lo2 := loc_set lof1 (.bool Ls) (.slice oL (Dg.dg 65536 Ln).length cpL) (.int .i64 Le)
      have hi2 := hif1.apart (c := LB) nLH (.bool Ls) (.slice oL (Dg.dg 65536 Ln).length cpL) (.int .i64 Le)
      have zh2 := zhf1.off3 nLH.symm (.bool Ls) (.slice oL (Dg.dg 65536 Ln).length cpL) (.int .i64 Le)
      have n2 := nf1.apart3 (c := LB) nLA (.bool Ls) (.slice oL (Dg.dg 65536 Ln).length cpL) (.int .i64 Le)
      have j42 := j4f1.apart3 (c := LB) nL4 (.bool Ls) (.slice oL (Dg.dg 65536 Ln).length cpL) (.int .i64 Le)
      have j52 := j5f1.apart3 (c := LB) nL5 (.bool Ls) (.slice oL (Dg.dg 65536 Ln).length cpL) (.int .i64 Le)
      have rdL2 := zlf1.rd rdL (Dg.norm_dg _ _ (by omega)) (.bool Ls) (.slice oL (Dg.dg 65536 Ln).length cpL) (.int .i64 Le)
      have rx2 := zlf1.rd rxf1 (Dg.norm_dg _ _ (by omega)) (.bool Ls) (.slice oL (Dg.dg 65536 Ln).length cpL) (.int .i64 Le)
      have rz2 := zlf1.rd rzf1 (Dg.norm_dg _ _ (by omega)) (.bool Ls) (.slice oL (Dg.dg 65536 Ln).length cpL) (.int .i64 Le)
      have ry2 := zlf1.rd ryf1 (Dg.norm_dg _ _ (by omega)) (.bool Ls) (.slice oL (Dg.dg 65536 Ln).length cpL) (.int .i64 Le)
      have rv2 := zlf1.rd rvf1 (Dg.norm_dg _ _ (by omega)) (.bool Ls) (.slice oL (Dg.dg 65536 Ln).length cpL) (.int .i64 Le)
      have rp2 := rpf1.fix3 zlf1 (.bool Ls) (.slice oL (Dg.dg 65536 Ln).length cpL) (.int .i64 Le)
      have rq2 := rqf1.fix3 zlf1 (.bool Ls) (.slice oL (Dg.dg 65536 Ln).length cpL) (.int .i64 Le)
      have b02 := below_set3 b0f1 hLB (.bool Ls) (.slice oL (Dg.dg 65536 Ln).length cpL) (.int .i64 Le)
      clear loa1 hia1 zla1 zha1 na1 rpa1 rqa1 j4a1 j5a1 rxa1 rza1 rya1 rva1 ca10 ca11 ca12 ca13 ca14 ca15 xa10 xa11 xa12 xa13 xa14 xa15 ba11 lob1 hib1 zlb1 zhb1 nb1 rpb1 rqb1 j4b1 j5b1 rxb1 rzb1 ryb1 rvb1 cb10 cb11 cb12 cb13 cb14 cb15 xb10 xb11 xb12 xb13 xb14 xb15 bb11 loc1 hic1 zlc1 zhc1 nc1 rpc1 rqc1 j4c1 j5c1 rxc1 rzc1 ryc1 rvc1 cc10 cc11 cc12 cc13 cc14 cc15 xc10 xc11 xc12 xc13 xc14 xc15 bc11 lod1 hid1 zld1 zhd1 nd1 rpd1 rqd1 j4d1 j5d1 rxd1 rzd1 ryd1 rvd1 cd10 cd11 cd12 cd13 cd14 cd15 xd10 xd11 xd12 xd13 xd14 xd15 bd11 loe1 hie1 zle1 zhe1 ne1 rpe1 rqe1 j4e1 j5e1 rxe1 rze1 rye1 rve1 ce10 ce11 ce12 ce13 ce14 ce15 xe10 xe11 xe12 xe13 xe14 xe15 lof1 hif1 zlf1 zhf1 nf1 rpf1 rqf1 j4f1 j5f1 rxf1 rzf1 ryf1 rvf1 cf10 cf11 cf12 cf13 cf14 cf15 xf10 xf11 xf12 xf13 xf14 xf15 bf11 rdA rdAb1 rdAc1 rdAd1 rdB rdBc1 rdBd1 rdC rdCd1 rdD bz b0f1 lo1 zl1 hi1 zh1 n1 rp1 rq1 rx1 rz1 ry1 rv1 j41 j51 c0 c1 c2 c3 c4 c5 x0 x1 x2 x3 x4 x5 rdL rdM hl0 u0 u1 u2 v0 v1 v2 Q00 Q01 Q10 Q11 E1
      generalize (((wf1.setCell ⟨LB, 0, none⟩ (.bool Ls)).setCell ⟨LB, 1, none⟩ (.slice oL (Dg.dg 65536 Ln).length cpL)).setCell ⟨LB, 2, none⟩ (.int .i64 Le)) = W2 at lo2 hi2 zh2 n2 j42 j52 rdL2 rx2 rz2 ry2 rv2 rp2 rq2 b02 ⊢
      have bd2 : Below W2.heap.size W2 W2.drew := (Below.refl _ _).drew
      have b03 := below_trans b02 bd2
      have lo3 := lo2.later bd2
      have hi3 := hi2.later bd2
      have zh3 := zh2.later bd2
      have n3 := n2.later bd2
      have rp3 := rp2.later bd2
      have rq3 := rq2.later bd2
      have rx3 := rx2.later bd2
      have rz3 := rz2.later bd2
      have ry3 := ry2.later bd2
      have rv3 := rv2.later bd2
      have j43 := j42.later bd2
      have j53 := j52.later bd2
      have rdL3 := rdL2.later bd2
      clear lo2 hi2 zh2 n2 rp2 rq2 rx2 rz2 ry2 rv2 j42 j52 rdL2 b02 bd2
      obtain ⟨-, ⟨c0, c1, c2, c3, c4, c5⟩, -⟩ := id j43
      obtain ⟨-, ⟨x0, x1, x2, x3, x4, x5⟩, -⟩ := id j53
      go_goals
      go_wp2_with fail
      go_region_held3 (fun wq => (wq.cell? ⟨q4, 0, none⟩ = some (.bool xs) ∧ wq.cell? ⟨q4, 1, none⟩ = some (.slice xo (Dg.dg 65536 xn).length xc) ∧ wq.cell? ⟨q4, 2, none⟩ = some (.int .i64 xe)) ∧ (wq.cell? ⟨q4, 3, none⟩ = some (.bool zs) ∧ wq.cell? ⟨q4, 4, none⟩ = some (.slice zo (Dg.dg 65536 zn).length zc) ∧ wq.cell? ⟨q4, 5, none⟩ = some (.int .i64 ze)) ∧ (wq.cell? ⟨q5, 0, none⟩ = some (.bool ys) ∧ wq.cell? ⟨q5, 1, none⟩ = some (.slice yo (Dg.dg 65536 yn).length yc) ∧ wq.cell? ⟨q5, 2, none⟩ = some (.int .i64 ye)) ∧ (wq.cell? ⟨q5, 3, none⟩ = some (.bool vs) ∧ wq.cell? ⟨q5, 4, none⟩ = some (.slice vo (Dg.dg 65536 vn).length vc) ∧ wq.cell? ⟨q5, 5, none⟩ = some (.int .i64 ve))) (go_keep) (first
        | (go_at_call 46; have hgd := b03; clear hgd; refine (U00.out _ _ _ ⟨_, rfl, rx3⟩ ⟨_, rfl, ry3⟩).mono ?_; rintro z wa2 ⟨rE, rfl, rdE, ba21⟩; have b0a2 := below_trans b03 ba21; have loa2 := lo3.later ba21; have hia2 := hi3.later ba21; have zha2 := zh3.later ba21; have na2 := n3.later ba21; have rpa2 := rp3.later ba21; have rqa2 := rq3.later ba21; have j4a2 := j43.later ba21; have j5a2 := j53.later ba21; have rxa2 := rx3.later ba21; have rza2 := rz3.later ba21; have rya2 := ry3.later ba21; have rva2 := rv3.later ba21; have rdLa2 := rdL3.later ba21; obtain ⟨-, ⟨ca20, ca21, ca22, ca23, ca24, ca25⟩, -⟩ := id j4a2; obtain ⟨-, ⟨xa20, xa21, xa22, xa23, xa24, xa25⟩, -⟩ := id j5a2; obtain ⟨oE, cpE, hsE⟩ := rdE.shape; subst hsE; simp only at rdE; clear b03)
        | (go_at_call 46; have hgd := b0a2; clear hgd; refine (U01.out _ _ _ ⟨_, rfl, rxa2⟩ ⟨_, rfl, rva2⟩).mono ?_; rintro z wb2 ⟨rF, rfl, rdF, bb21⟩; have b0b2 := below_trans b0a2 bb21; have lob2 := loa2.later bb21; have hib2 := hia2.later bb21; have zhb2 := zha2.later bb21; have nb2 := na2.later bb21; have rpb2 := rpa2.later bb21; have rqb2 := rqa2.later bb21; have j4b2 := j4a2.later bb21; have j5b2 := j5a2.later bb21; have rxb2 := rxa2.later bb21; have rzb2 := rza2.later bb21; have ryb2 := rya2.later bb21; have rvb2 := rva2.later bb21; have rdLb2 := rdLa2.later bb21; have rdEb2 := rdE.later bb21; obtain ⟨-, ⟨cb20, cb21, cb22, cb23, cb24, cb25⟩, -⟩ := id j4b2; obtain ⟨-, ⟨xb20, xb21, xb22, xb23, xb24, xb25⟩, -⟩ := id j5b2; obtain ⟨oF, cpF, hsF⟩ := rdF.shape; subst hsF; simp only at rdF; clear b0a2)
        | (go_at_call 46; have hgd := b0b2; clear hgd; refine (U10.out _ _ _ ⟨_, rfl, rzb2⟩ ⟨_, rfl, ryb2⟩).mono ?_; rintro z wc2 ⟨rG, rfl, rdG, bc21⟩; have b0c2 := below_trans b0b2 bc21; have loc2 := lob2.later bc21; have hic2 := hib2.later bc21; have zhc2 := zhb2.later bc21; have nc2 := nb2.later bc21; have rpc2 := rpb2.later bc21; have rqc2 := rqb2.later bc21; have j4c2 := j4b2.later bc21; have j5c2 := j5b2.later bc21; have rxc2 := rxb2.later bc21; have rzc2 := rzb2.later bc21; have ryc2 := ryb2.later bc21; have rvc2 := rvb2.later bc21; have rdLc2 := rdLb2.later bc21; have rdEc2 := rdEb2.later bc21; have rdFc2 := rdF.later bc21; obtain ⟨-, ⟨cc20, cc21, cc22, cc23, cc24, cc25⟩, -⟩ := id j4c2; obtain ⟨-, ⟨xc20, xc21, xc22, xc23, xc24, xc25⟩, -⟩ := id j5c2; obtain ⟨oG, cpG, hsG⟩ := rdG.shape; subst hsG; simp only at rdG; clear b0b2)
        | (go_at_call 46; have hgd := b0c2; clear hgd; refine (U11.out _ _ _ ⟨_, rfl, rzc2⟩ ⟨_, rfl, rvc2⟩).mono ?_; rintro z wd2 ⟨rK, rfl, rdK, bd21⟩; have b0d2 := below_trans b0c2 bd21; have lod2 := loc2.later bd21; have hid2 := hic2.later bd21; have zhd2 := zhc2.later bd21; have nd2 := nc2.later bd21; have rpd2 := rpc2.later bd21; have rqd2 := rqc2.later bd21; have j4d2 := j4c2.later bd21; have j5d2 := j5c2.later bd21; have rxd2 := rxc2.later bd21; have rzd2 := rzc2.later bd21; have ryd2 := ryc2.later bd21; have rvd2 := rvc2.later bd21; have rdLd2 := rdLc2.later bd21; have rdEd2 := rdEc2.later bd21; have rdFd2 := rdFc2.later bd21; have rdGd2 := rdG.later bd21; obtain ⟨-, ⟨cd20, cd21, cd22, cd23, cd24, cd25⟩, -⟩ := id j4d2; obtain ⟨-, ⟨xd20, xd21, xd22, xd23, xd24, xd25⟩, -⟩ := id j5d2; obtain ⟨oK, cpK, hsK⟩ := rdK.shape; subst hsK; simp only at rdK; clear b0c2; have bz := below_alloc wd2 (.cells #[.bool Es, .slice oE (Dg.dg 65536 En).length cpE, .int .i64 Ee, .bool Fs, .slice oF (Dg.dg 65536 Fn).length cpF, .int .i64 Fe, .bool Gs, .slice oG (Dg.dg 65536 Gn).length cpG, .int .i64 Ge, .bool Ks, .slice oK (Dg.dg 65536 Kn).length cpK, .int .i64 Ke] 33); have b0e2 := below_trans b0d2 bz; have loe2 := lod2.later bz; have hie2 := hid2.later bz; have zhe2 := zhd2.later bz; have ne2 := nd2.later bz; have rpe2 := rpd2.later bz; have rqe2 := rqd2.later bz; have j4e2 := j4d2.later bz; have j5e2 := j5d2.later bz; have rxe2 := rxd2.later bz; have rze2 := rzd2.later bz; have rye2 := ryd2.later bz; have rve2 := rvd2.later bz; have rdLe2 := rdLd2.later bz; obtain ⟨-, ⟨ce20, ce21, ce22, ce23, ce24, ce25⟩, -⟩ := id j4e2; obtain ⟨-, ⟨xe20, xe21, xe22, xe23, xe24, xe25⟩, -⟩ := id j5e2)
        | (go_at_call 42; have hgd := b0e2; clear hgd; refine (E2.out _ _ _ _ _ _ _ _ _ rdEd2 rdFd2 rdGd2 rdK).mono ?_; rintro z wf2 ⟨pL2, pH2, rfl, rdN, rdH, bf21⟩; have b0f2 := below_trans b0e2 bf21; have lof2 := loe2.later bf21; have hif2 := hie2.later bf21; have zhf2 := zhe2.later bf21; have nf2 := ne2.later bf21; have rpf2 := rpe2.later bf21; have rqf2 := rqe2.later bf21; have j4f2 := j4e2.later bf21; have j5f2 := j5e2.later bf21; have rxf2 := rxe2.later bf21; have rzf2 := rze2.later bf21; have ryf2 := rye2.later bf21; have rvf2 := rve2.later bf21; have rdLf2 := rdLe2.later bf21; obtain ⟨-, ⟨cf20, cf21, cf22, cf23, cf24, cf25⟩, -⟩ := id j4f2; obtain ⟨-, ⟨xf20, xf21, xf22, xf23, xf24, xf25⟩, -⟩ := id j5f2; obtain ⟨oN, cpN, hsN⟩ := rdN.shape; subst hsN; obtain ⟨oH, cpH, hsH⟩ := rdH.shape; subst hsH; simp only at rdN rdH; obtain ⟨hl0, ⟨u0, u1, u2⟩, v0, v1, v2⟩ := id hif2; clear b0e2))
      have s1 := lof2.apart (c := HK) nLH.symm (.bool Hs) (.slice oH (Dg.dg 65536 Hn).length cpH) (.int .i64 He)
      have s2 := loc_set hif2 (.bool Hs) (.slice oH (Dg.dg 65536 Hn).length cpH) (.int .i64 He)
      have s4 := nf2.apart3 (c := HK) nHA (.bool Hs) (.slice oH (Dg.dg 65536 Hn).length cpH) (.int .i64 He)
      have s5 := zhf2.rd rdLf2 (Dg.norm_dg _ _ (by omega)) (.bool Hs) (.slice oH (Dg.dg 65536 Hn).length cpH) (.int .i64 He)
      have s6 := zhf2.rd rdH (Dg.norm_dg _ _ (by omega)) (.bool Hs) (.slice oH (Dg.dg 65536 Hn).length cpH) (.int .i64 He)
      have s7 := below_set3 b0f2 hHK (.bool Hs) (.slice oH (Dg.dg 65536 Hn).length cpH) (.int .i64 He)
      have u3 := rpf2.fix3 zhf2 (.bool Hs) (.slice oH (Dg.dg 65536 Hn).length cpH) (.int .i64 He)
      have u4 := rqf2.fix3 zhf2 (.bool Hs) (.slice oH (Dg.dg 65536 Hn).length cpH) (.int .i64 He)
      clear loa2 hia2 zha2 na2 rpa2 rqa2 j4a2 j5a2 rxa2 rza2 rya2 rva2 rdLa2 ca20 ca21 ca22 ca23 ca24 ca25 xa20 xa21 xa22 xa23 xa24 xa25 ba21 lob2 hib2 zhb2 nb2 rpb2 rqb2 j4b2 j5b2 rxb2 rzb2 ryb2 rvb2 rdLb2 cb20 cb21 cb22 cb23 cb24 cb25 xb20 xb21 xb22 xb23 xb24 xb25 bb21 loc2 hic2 zhc2 nc2 rpc2 rqc2 j4c2 j5c2 rxc2 rzc2 ryc2 rvc2 rdLc2 cc20 cc21 cc22 cc23 cc24 cc25 xc20 xc21 xc22 xc23 xc24 xc25 bc21 lod2 hid2 zhd2 nd2 rpd2 rqd2 j4d2 j5d2 rxd2 rzd2 ryd2 rvd2 rdLd2 cd20 cd21 cd22 cd23 cd24 cd25 xd20 xd21 xd22 xd23 xd24 xd25 bd21 loe2 hie2 zhe2 ne2 rpe2 rqe2 j4e2 j5e2 rxe2 rze2 rye2 rve2 rdLe2 ce20 ce21 ce22 ce23 ce24 ce25 xe20 xe21 xe22 xe23 xe24 xe25 lof2 hif2 zhf2 nf2 rpf2 rqf2 j4f2 j5f2 rxf2 rzf2 ryf2 rvf2 rdLf2 cf20 cf21 cf22 cf23 cf24 cf25 xf20 xf21 xf22 xf23 xf24 xf25 bf21 rdE rdEb2 rdEc2 rdEd2 rdF rdFc2 rdFd2 rdG rdGd2 rdK bz b0f2 lo3 hi3 zh3 n3 rp3 rq3 rx3 rz3 ry3 rv3 j43 j53 rdL3 c0 c1 c2 c3 c4 c5 x0 x1 x2 x3 x4 x5 rdH rdN hl0 u0 u1 u2 v0 v1 v2 U00 U01 U10 U11 E2
      generalize (((wf2.setCell ⟨HK, 0, none⟩ (.bool Hs)).setCell ⟨HK, 1, none⟩ (.slice oH (Dg.dg 65536 Hn).length cpH)).setCell ⟨HK, 2, none⟩ (.int .i64 He)) = W5 at s1 s2 s4 s5 s6 s7 u3 u4 ⊢
      obtain ⟨-, ⟨p0, p1, p2⟩, -⟩ := id s1
      go_goals
      go_wp2_with fail
      refine (HB.out _ s7).mono ?_
      rintro z wy ⟨rfl, by8⟩
      have b08 := below_trans s7 by8
      obtain ⟨-, ⟨p0, p1, p2⟩, -⟩ := s1.later by8
      obtain ⟨-, ⟨p3, p4, p5⟩, -⟩ := s2.later by8
      obtain ⟨-, ⟨i0, i1, i2, i3, i4, i5⟩, -⟩ := s4.later by8
      go_wp2_with fail
      refine (HI.out _ _ _ _ wy b08 (u3.later by8) (u4.later by8) (fun _ => ⟨⟨_, rfl, s5.later by8⟩, ⟨_, rfl, s6.later by8⟩⟩) (fun h => absurd rfl h)).mono ?_
      rintro z wz ⟨rfl, bz9⟩
      have b0z := below_trans b08 bz9
      go_wp2
      go_ret
      exact ⟨rfl, b0z⟩
  · have HDc : c = d := by rw [← hd]; unfold noneR; rw [if_neg hc]
    obtain rfl := HDc
    have a0 := below_trans (below_trans (below_alloc w3 (.cells #[.bool false, .slice none 0 0, .int .i64 0, .bool false, .slice none 0 0, .int .i64 0] 50)) (below_alloc _ (.cells #[.bool false, .slice none 0 0, .int .i64 0, .bool false, .slice none 0 0, .int .i64 0] 50))) (below_trans (below_alloc ((w3.alloc (.cells #[.bool false, .slice none 0 0, .int .i64 0, .bool false, .slice none 0 0, .int .i64 0] 50)).alloc (.cells #[.bool false, .slice none 0 0, .int .i64 0, .bool false, .slice none 0 0, .int .i64 0] 50)) (.cells #[.bool false, .slice none 0 0, .int .i64 0] 33)) (below_alloc _ (.cells #[.bool false, .slice none 0 0, .int .i64 0] 33)))
    have lo0 := (loc_new ((w3.alloc (.cells #[.bool false, .slice none 0 0, .int .i64 0, .bool false, .slice none 0 0, .int .i64 0] 50)).alloc (.cells #[.bool false, .slice none 0 0, .int .i64 0, .bool false, .slice none 0 0, .int .i64 0] 50)) (.bool false) (.slice none 0 0) (.int .i64 0) 33).later (below_alloc _ (.cells #[.bool false, .slice none 0 0, .int .i64 0] 33))
    have hi0 := loc_new (((w3.alloc (.cells #[.bool false, .slice none 0 0, .int .i64 0, .bool false, .slice none 0 0, .int .i64 0] 50)).alloc (.cells #[.bool false, .slice none 0 0, .int .i64 0, .bool false, .slice none 0 0, .int .i64 0] 50)).alloc (.cells #[.bool false, .slice none 0 0, .int .i64 0] 33)) (.bool false) (.slice none 0 0) (.int .i64 0) 33
    simp only [World.size_alloc] at lo0 hi0
    have n0 := n3.later a0
    have rp0 := rp3.later a0
    have rq0 := rq3.later a0
    have b00 := below_trans b03 a0
    go_wp2_with fail
    refine (HB.out _ b00).mono ?_
    rintro z wy ⟨rfl, by8⟩
    have b0y := below_trans b00 by8
    obtain ⟨-, ⟨p0, p1, p2⟩, -⟩ := lo0.later by8
    obtain ⟨-, ⟨p3, p4, p5⟩, -⟩ := hi0.later by8
    obtain ⟨-, ⟨i0, i1, i2, i3, i4, i5⟩, -⟩ := n0.later by8
    go_wp2_with fail
    refine (HI.out _ _ _ _ wy b0y (rp0.later by8) (rq0.later by8) (fun h => absurd h hc) (fun _ => ⟨rfl, rfl⟩)).mono ?_
    rintro z wz ⟨rfl, bz9⟩
    have b0z := below_trans b0y bz9
    go_wp2
    go_ret
    exact ⟨rfl, b0z⟩
end Go.Proofs.YtfajoaopfedokaaDoor

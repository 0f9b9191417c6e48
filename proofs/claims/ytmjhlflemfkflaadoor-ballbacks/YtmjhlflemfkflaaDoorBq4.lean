/-
  Balls: the law BallBacks.
-/
import Derived.Test.YtmjhlflemfkflaaDoorBh
import Derived.Test.YtmjhlflemfkflaaDoorBm8
namespace Go.Proofs.YtmjhlflemfkflaaDoor
open Go.RowKit

set_option maxRecDepth 100000 in
set_option maxHeartbeats 6400000 in
theorem bBacksW_any (s : Bool) (ao : Option Addr) (ca la : Nat) (e : Int) (t : Bool) (bo : Option Addr) (cb lb : Nat) (f : Int) (r : Bool) (co : Option Addr) (cc lc : Nat) (g : Int) (u : Bool) (d' : Option Addr) (cd ld : Nat) (k : Int) (n : Int) (q0s : Bool) (q0n : Nat) (q0e : Int) (q1s : Bool) (q1n : Nat) (q1e qc : Int) (p0s : Bool) (p0n : Nat) (p0e : Int) (p1s : Bool) (p1n : Nat) (p1e pc : Int) (x0s : Bool) (x0n : Nat) (x0e : Int) (x1s : Bool) (x1n : Nat) (x1e xc : Int) (y0s : Bool) (y0n : Nat) (y0e : Int) (y1s : Bool) (y1n : Nat) (y1e yc : Int) (v1 v2 v3 v4 : Bool) (e1 e2 e3 e4 : Int) (w : World)
    (HB : ∀ w1, Below w.heap.size w w1 → Calls Tryd.prog 10 #[] w1 fun z w' => z = .returned (.bool true) ∧ Below w1.heap.size w1 w')
    (HD : ∀ w1, Below w.heap.size w w1 → Calls Tryd.prog 11 #[.agg #[.bool s, .slice ao la ca, .int .i64 e, .bool t, .slice bo lb cb, .int .i64 f], .agg #[.bool r, .slice co lc cc, .int .i64 g, .bool u, .slice d' ld cd, .int .i64 k], .int .i64 n] w1 (BOwn w1 (⟨q0s, q0n, q0e⟩, ⟨q1s, q1n, q1e⟩, qc)))
    (HM : qc = 0 → ∀ p q w1, Below w.heap.size w w1 → Rd w1 .u32 p (Dg.dg 4294967296 q0n) → Rd w1 .u32 q (Dg.dg 4294967296 q1n) → Calls Tryd.prog 12 #[.agg #[.bool q0s, p, .int .i64 q0e, .bool q1s, q, .int .i64 q1e], .agg #[.bool r, .slice co lc cc, .int .i64 g, .bool u, .slice d' ld cd, .int .i64 k], .int .i64 n] w1 (BOwn w1 (⟨p0s, p0n, p0e⟩, ⟨p1s, p1n, p1e⟩, pc)))
    (H1 : qc = 0 → ∀ p q w1, Below w.heap.size w w1 → Rd w1 .u32 p (Dg.dg 4294967296 p0n) → Rd w1 .u32 q (Dg.dg 4294967296 p1n) → Calls Tryd.prog 13 #[.agg #[.bool p0s, p, .int .i64 p0e, .bool p1s, q, .int .i64 p1e], .agg #[.bool s, .slice ao la ca, .int .i64 e]] w1 fun z w' => z = .returned (.tuple #[.bool v1, .int .i64 e1]) ∧ Below w1.heap.size w1 w')
    (J1 : qc = 0 → pc = 0 → v1 = true ∧ e1 = 0)
    (H2 : qc = 0 → ∀ p q w1, Below w.heap.size w w1 → Rd w1 .u32 p (Dg.dg 4294967296 p0n) → Rd w1 .u32 q (Dg.dg 4294967296 p1n) → Calls Tryd.prog 13 #[.agg #[.bool p0s, p, .int .i64 p0e, .bool p1s, q, .int .i64 p1e], .agg #[.bool t, .slice bo lb cb, .int .i64 f]] w1 fun z w' => z = .returned (.tuple #[.bool v2, .int .i64 e2]) ∧ Below w1.heap.size w1 w')
    (J2 : qc = 0 → pc = 0 → v2 = true ∧ e2 = 0)
    (HR : ∀ w1, Below w.heap.size w w1 → Calls Tryd.prog 14 #[.agg #[.bool s, .slice ao la ca, .int .i64 e, .bool t, .slice bo lb cb, .int .i64 f], .int .i64 n] w1 (BOwn w1 (⟨x0s, x0n, x0e⟩, ⟨x1s, x1n, x1e⟩, xc)))
    (HN : xc = 0 → ∀ p q w1, Below w.heap.size w w1 → Rd w1 .u32 p (Dg.dg 4294967296 x0n) → Rd w1 .u32 q (Dg.dg 4294967296 x1n) → Calls Tryd.prog 12 #[.agg #[.bool x0s, p, .int .i64 x0e, .bool x1s, q, .int .i64 x1e], .agg #[.bool x0s, p, .int .i64 x0e, .bool x1s, q, .int .i64 x1e], .int .i64 n] w1 (BOwn w1 (⟨y0s, y0n, y0e⟩, ⟨y1s, y1n, y1e⟩, yc)))
    (H3 : xc = 0 → ∀ p q w1, Below w.heap.size w w1 → Rd w1 .u32 p (Dg.dg 4294967296 y0n) → Rd w1 .u32 q (Dg.dg 4294967296 y1n) → Calls Tryd.prog 13 #[.agg #[.bool y0s, p, .int .i64 y0e, .bool y1s, q, .int .i64 y1e], .agg #[.bool s, .slice ao la ca, .int .i64 e]] w1 fun z w' => z = .returned (.tuple #[.bool v3, .int .i64 e3]) ∧ Below w1.heap.size w1 w')
    (J3 : xc = 0 → yc = 0 → v3 = true ∧ e3 = 0)
    (H4 : xc = 0 → ∀ p q w1, Below w.heap.size w w1 → Rd w1 .u32 p (Dg.dg 4294967296 y0n) → Rd w1 .u32 q (Dg.dg 4294967296 y1n) → Calls Tryd.prog 13 #[.agg #[.bool y0s, p, .int .i64 y0e, .bool y1s, q, .int .i64 y1e], .agg #[.bool t, .slice bo lb cb, .int .i64 f]] w1 fun z w' => z = .returned (.tuple #[.bool v4, .int .i64 e4]) ∧ Below w1.heap.size w1 w')
    (J4 : xc = 0 → yc = 0 → v4 = true ∧ e4 = 0) :
    Calls Tryd.prog 3 #[.agg #[.bool s, .slice ao la ca, .int .i64 e, .bool t, .slice bo lb cb, .int .i64 f], .agg #[.bool r, .slice co lc cc, .int .i64 g, .bool u, .slice d' ld cd, .int .i64 k], .int .i64 n] w fun z w' => z = .returned (.bool true) ∧ Below w.heap.size w w' := by
  replace HB : Hid _ := HB
  replace HD : Hid _ := HD
  replace HM : Hid _ := HM
  replace H1 : Hid _ := H1
  replace J1 : Hid _ := J1
  replace H2 : Hid _ := H2
  replace J2 : Hid _ := J2
  replace HR : Hid _ := HR
  replace HN : Hid _ := HN
  replace H3 : Hid _ := H3
  replace J3 : Hid _ := J3
  replace H4 : Hid _ := H4
  replace J4 : Hid _ := J4
  have b1 := below_trans (below_alloc w (.cells #[.bool s, .slice ao la ca, .int .i64 e, .bool t, .slice bo lb cb, .int .i64 f] 27)) (below_alloc _ (.cells #[.bool r, .slice co lc cc, .int .i64 g, .bool u, .slice d' ld cd, .int .i64 k] 27))
  have l1 := (loc6_new w (.bool s) (.slice ao la ca) (.int .i64 e) (.bool t) (.slice bo lb cb) (.int .i64 f) 27).later (below_alloc _ (.cells #[.bool r, .slice co lc cc, .int .i64 g, .bool u, .slice d' ld cd, .int .i64 k] 27))
  have m1 := loc6_new (w.alloc (.cells #[.bool s, .slice ao la ca, .int .i64 e, .bool t, .slice bo lb cb, .int .i64 f] 27)) (.bool r) (.slice co lc cc) (.int .i64 g) (.bool u) (.slice d' ld cd) (.int .i64 k) 27
  rw [World.size_alloc] at m1
  go_enter Tryd.func3, Tryd.ntmps3
  go_wp2_with fail
  refine (HB.out _ b1).mono ?_
  rintro z w2 ⟨rfl, bb2⟩
  have l_2 := l1.later bb2
  have m_2 := m1.later bb2
  have b0_2 := below_trans b1 bb2
  clear l1 m1 b1 bb2
  clear HB
  obtain ⟨-, ⟨cl0, cl1, cl2, cl3, cl4, cl5⟩, -⟩ := id l_2
  obtain ⟨-, ⟨cm0, cm1, cm2, cm3, cm4, cm5⟩, -⟩ := id m_2
  go_wp2_with fail
  refine (HD.out _ b0_2).mono ?_
  rintro z w3 ⟨pq, qq, rfl, oq, uq, bb3⟩
  have l_3 := l_2.later bb3
  have m_3 := m_2.later bb3
  have b0_3 := below_trans b0_2 bb3
  clear l_2 m_2 b0_2 bb3
  clear cl0 cl1 cl2 cl3 cl4 cl5 cm0 cm1 cm2 cm3 cm4 cm5
  obtain ⟨qo, qk, h1⟩ := oq.rd.shape
  subst h1
  obtain ⟨qp, qq, h1⟩ := uq.rd.shape
  subst h1
  have rq := oq.rd
  have tq := uq.rd
  simp only at rq tq ⊢
  clear oq uq
  have aq := below_alloc w3 (.cells #[.bool q0s, .slice qo (Dg.dg 4294967296 q0n).length qk, .int .i64 q0e, .bool q1s, .slice qp (Dg.dg 4294967296 q1n).length qq, .int .i64 q1e] 27)
  have nq := loc6_new w3 (.bool q0s) (.slice qo (Dg.dg 4294967296 q0n).length qk) (.int .i64 q0e) (.bool q1s) (.slice qp (Dg.dg 4294967296 q1n).length qq) (.int .i64 q1e) 27
  have l_4 := l_3.later aq
  have m_4 := m_3.later aq
  have rq_4 := rq.later aq
  have tq_4 := tq.later aq
  have b0_4 := below_trans b0_3 aq
  clear l_3 m_3 rq tq b0_3 aq
  by_cases hq : qc = 0
  · subst hq
    replace HM : Hid _ := HM.out rfl
    replace H1 : Hid _ := H1.out rfl
    replace H2 : Hid _ := H2.out rfl
    replace J1 : Hid _ := J1.out rfl
    replace J2 : Hid _ := J2.out rfl
    obtain ⟨-, ⟨cnq0, cnq1, cnq2, cnq3, cnq4, cnq5⟩, -⟩ := id nq
    obtain ⟨-, ⟨cm0, cm1, cm2, cm3, cm4, cm5⟩, -⟩ := id m_4
    go_wp2_with fail
    refine (HM.out _ _ _ b0_4 rq_4 tq_4).mono ?_
    rintro z w5 ⟨pp, qp, rfl, op, up, bb5⟩
    have l_5 := l_4.later bb5
    have m_5 := m_4.later bb5
    have rq_5 := rq_4.later bb5
    have tq_5 := tq_4.later bb5
    have nq_5 := nq.later bb5
    have b0_5 := below_trans b0_4 bb5
    clear l_4 m_4 rq_4 tq_4 nq b0_4 bb5
    clear cnq0 cnq1 cnq2 cnq3 cnq4 cnq5 cm0 cm1 cm2 cm3 cm4 cm5
    obtain ⟨po, pk, h1⟩ := op.rd.shape
    subst h1
    obtain ⟨pp, pq, h1⟩ := up.rd.shape
    subst h1
    have rp := op.rd
    have tp := up.rd
    simp only at rp tp ⊢
    clear op up
    have ap := below_alloc w5 (.cells #[.bool p0s, .slice po (Dg.dg 4294967296 p0n).length pk, .int .i64 p0e, .bool p1s, .slice pp (Dg.dg 4294967296 p1n).length pq, .int .i64 p1e] 27)
    have np := loc6_new w5 (.bool p0s) (.slice po (Dg.dg 4294967296 p0n).length pk) (.int .i64 p0e) (.bool p1s) (.slice pp (Dg.dg 4294967296 p1n).length pq) (.int .i64 p1e) 27
    have l_6 := l_5.later ap
    have m_6 := m_5.later ap
    have rq_6 := rq_5.later ap
    have tq_6 := tq_5.later ap
    have nq_6 := nq_5.later ap
    have rp_6 := rp.later ap
    have tp_6 := tp.later ap
    have b0_6 := below_trans b0_5 ap
    clear l_5 m_5 rq_5 tq_5 nq_5 rp tp b0_5 ap
    obtain ⟨-, ⟨cnp0, cnp1, cnp2, cnp3, cnp4, cnp5⟩, -⟩ := id np
    obtain ⟨-, ⟨cl0, cl1, cl2, cl3, cl4, cl5⟩, -⟩ := id l_6
    go_wp2_with fail
    refine (H1.out _ _ _ b0_6 rp_6 tp_6).mono ?_
    rintro z w7 ⟨rfl, bb7⟩
    have l_7 := l_6.later bb7
    have m_7 := m_6.later bb7
    have rq_7 := rq_6.later bb7
    have tq_7 := tq_6.later bb7
    have nq_7 := nq_6.later bb7
    have rp_7 := rp_6.later bb7
    have tp_7 := tp_6.later bb7
    have np_7 := np.later bb7
    have b0_7 := below_trans b0_6 bb7
    clear l_6 m_6 rq_6 tq_6 nq_6 rp_6 tp_6 np b0_6 bb7
    clear cnp0 cnp1 cnp2 cnp3 cnp4 cnp5 cl0 cl1 cl2 cl3 cl4 cl5
    obtain ⟨-, ⟨cnp0, cnp1, cnp2, cnp3, cnp4, cnp5⟩, -⟩ := id np_7
    obtain ⟨-, ⟨cl0, cl1, cl2, cl3, cl4, cl5⟩, -⟩ := id l_7
    go_wp2_with fail
    refine (H2.out _ _ _ b0_7 rp_7 tp_7).mono ?_
    rintro z w8 ⟨rfl, bb8⟩
    have l_8 := l_7.later bb8
    have m_8 := m_7.later bb8
    have rq_8 := rq_7.later bb8
    have tq_8 := tq_7.later bb8
    have nq_8 := nq_7.later bb8
    have rp_8 := rp_7.later bb8
    have tp_8 := tp_7.later bb8
    have np_8 := np_7.later bb8
    have b0_8 := below_trans b0_7 bb8
    clear l_7 m_7 rq_7 tq_7 nq_7 rp_7 tp_7 np_7 b0_7 bb8
    clear cnp0 cnp1 cnp2 cnp3 cnp4 cnp5 cl0 cl1 cl2 cl3 cl4 cl5
    by_cases hp : pc = 0
    · subst hp
      obtain ⟨rfl, rfl⟩ := J1.out rfl
      obtain ⟨rfl, rfl⟩ := J2.out rfl
      obtain ⟨-, ⟨cl0, cl1, cl2, cl3, cl4, cl5⟩, -⟩ := id l_8
      go_wp2_with fail
      refine (HR.out _ b0_8).mono ?_
      rintro z w9 ⟨px, qx, rfl, ox, ux, bb9⟩
      have l_9 := l_8.later bb9
      have m_9 := m_8.later bb9
      have rq_9 := rq_8.later bb9
      have tq_9 := tq_8.later bb9
      have nq_9 := nq_8.later bb9
      have rp_9 := rp_8.later bb9
      have tp_9 := tp_8.later bb9
      have np_9 := np_8.later bb9
      have b0_9 := below_trans b0_8 bb9
      clear l_8 m_8 rq_8 tq_8 nq_8 rp_8 tp_8 np_8 b0_8 bb9
      clear cl0 cl1 cl2 cl3 cl4 cl5
      obtain ⟨xo, xk, h1⟩ := ox.rd.shape
      subst h1
      obtain ⟨xp, xq, h1⟩ := ux.rd.shape
      subst h1
      have rx := ox.rd
      have tx := ux.rd
      simp only at rx tx ⊢
      clear ox ux
      have ax := below_alloc w9 (.cells #[.bool x0s, .slice xo (Dg.dg 4294967296 x0n).length xk, .int .i64 x0e, .bool x1s, .slice xp (Dg.dg 4294967296 x1n).length xq, .int .i64 x1e] 27)
      have nx := loc6_new w9 (.bool x0s) (.slice xo (Dg.dg 4294967296 x0n).length xk) (.int .i64 x0e) (.bool x1s) (.slice xp (Dg.dg 4294967296 x1n).length xq) (.int .i64 x1e) 27
      have l_10 := l_9.later ax
      have m_10 := m_9.later ax
      have rq_10 := rq_9.later ax
      have tq_10 := tq_9.later ax
      have nq_10 := nq_9.later ax
      have rp_10 := rp_9.later ax
      have tp_10 := tp_9.later ax
      have np_10 := np_9.later ax
      have rx_10 := rx.later ax
      have tx_10 := tx.later ax
      have b0_10 := below_trans b0_9 ax
      clear l_9 m_9 rq_9 tq_9 nq_9 rp_9 tp_9 np_9 rx tx b0_9 ax
      by_cases hx : xc = 0
      · subst hx
        replace HN : Hid _ := HN.out rfl
        replace H3 : Hid _ := H3.out rfl
        replace H4 : Hid _ := H4.out rfl
        replace J3 : Hid _ := J3.out rfl
        replace J4 : Hid _ := J4.out rfl
        obtain ⟨-, ⟨cnx0, cnx1, cnx2, cnx3, cnx4, cnx5⟩, -⟩ := id nx
        go_wp2_with fail
        refine (HN.out _ _ _ b0_10 rx_10 tx_10).mono ?_
        rintro z w11 ⟨py, qy, rfl, oy, uy, bb11⟩
        have l_11 := l_10.later bb11
        have m_11 := m_10.later bb11
        have rq_11 := rq_10.later bb11
        have tq_11 := tq_10.later bb11
        have nq_11 := nq_10.later bb11
        have rp_11 := rp_10.later bb11
        have tp_11 := tp_10.later bb11
        have np_11 := np_10.later bb11
        have rx_11 := rx_10.later bb11
        have tx_11 := tx_10.later bb11
        have nx_11 := nx.later bb11
        have b0_11 := below_trans b0_10 bb11
        clear l_10 m_10 rq_10 tq_10 nq_10 rp_10 tp_10 np_10 rx_10 tx_10 nx b0_10 bb11
        clear cnx0 cnx1 cnx2 cnx3 cnx4 cnx5
        obtain ⟨yo, yk, h1⟩ := oy.rd.shape
        subst h1
        obtain ⟨yp, yq, h1⟩ := uy.rd.shape
        subst h1
        have ry := oy.rd
        have ty := uy.rd
        simp only at ry ty ⊢
        clear oy uy
        have ay := below_alloc w11 (.cells #[.bool y0s, .slice yo (Dg.dg 4294967296 y0n).length yk, .int .i64 y0e, .bool y1s, .slice yp (Dg.dg 4294967296 y1n).length yq, .int .i64 y1e] 27)
        have ny := loc6_new w11 (.bool y0s) (.slice yo (Dg.dg 4294967296 y0n).length yk) (.int .i64 y0e) (.bool y1s) (.slice yp (Dg.dg 4294967296 y1n).length yq) (.int .i64 y1e) 27
        have l_12 := l_11.later ay
        have m_12 := m_11.later ay
        have rq_12 := rq_11.later ay
        have tq_12 := tq_11.later ay
        have nq_12 := nq_11.later ay
        have rp_12 := rp_11.later ay
        have tp_12 := tp_11.later ay
        have np_12 := np_11.later ay
        have rx_12 := rx_11.later ay
        have tx_12 := tx_11.later ay
        have nx_12 := nx_11.later ay
        have ry_12 := ry.later ay
        have ty_12 := ty.later ay
        have b0_12 := below_trans b0_11 ay
        clear l_11 m_11 rq_11 tq_11 nq_11 rp_11 tp_11 np_11 rx_11 tx_11 nx_11 ry ty b0_11 ay
        obtain ⟨-, ⟨cny0, cny1, cny2, cny3, cny4, cny5⟩, -⟩ := id ny
        obtain ⟨-, ⟨cl0, cl1, cl2, cl3, cl4, cl5⟩, -⟩ := id l_12
        go_wp2_with fail
        refine (H3.out _ _ _ b0_12 ry_12 ty_12).mono ?_
        rintro z w13 ⟨rfl, bb13⟩
        have l_13 := l_12.later bb13
        have m_13 := m_12.later bb13
        have rq_13 := rq_12.later bb13
        have tq_13 := tq_12.later bb13
        have nq_13 := nq_12.later bb13
        have rp_13 := rp_12.later bb13
        have tp_13 := tp_12.later bb13
        have np_13 := np_12.later bb13
        have rx_13 := rx_12.later bb13
        have tx_13 := tx_12.later bb13
        have nx_13 := nx_12.later bb13
        have ry_13 := ry_12.later bb13
        have ty_13 := ty_12.later bb13
        have ny_13 := ny.later bb13
        have b0_13 := below_trans b0_12 bb13
        clear l_12 m_12 rq_12 tq_12 nq_12 rp_12 tp_12 np_12 rx_12 tx_12 nx_12 ry_12 ty_12 ny b0_12 bb13
        clear cny0 cny1 cny2 cny3 cny4 cny5 cl0 cl1 cl2 cl3 cl4 cl5
        obtain ⟨-, ⟨cny0, cny1, cny2, cny3, cny4, cny5⟩, -⟩ := id ny_13
        obtain ⟨-, ⟨cl0, cl1, cl2, cl3, cl4, cl5⟩, -⟩ := id l_13
        go_wp2_with fail
        refine (H4.out _ _ _ b0_13 ry_13 ty_13).mono ?_
        rintro z w14 ⟨rfl, bb14⟩
        have l_14 := l_13.later bb14
        have m_14 := m_13.later bb14
        have rq_14 := rq_13.later bb14
        have tq_14 := tq_13.later bb14
        have nq_14 := nq_13.later bb14
        have rp_14 := rp_13.later bb14
        have tp_14 := tp_13.later bb14
        have np_14 := np_13.later bb14
        have rx_14 := rx_13.later bb14
        have tx_14 := tx_13.later bb14
        have nx_14 := nx_13.later bb14
        have ry_14 := ry_13.later bb14
        have ty_14 := ty_13.later bb14
        have ny_14 := ny_13.later bb14
        have b0_14 := below_trans b0_13 bb14
        clear l_13 m_13 rq_13 tq_13 nq_13 rp_13 tp_13 np_13 rx_13 tx_13 nx_13 ry_13 ty_13 ny_13 b0_13 bb14
        clear cny0 cny1 cny2 cny3 cny4 cny5 cl0 cl1 cl2 cl3 cl4 cl5
        by_cases hy : yc = 0
        · subst hy
          obtain ⟨rfl, rfl⟩ := J3.out rfl
          obtain ⟨rfl, rfl⟩ := J4.out rfl
          go_wp2
          go_ret
          exact ⟨rfl, b0_14⟩
        · have hyf : (yc == 0) = false := by simp; exact hy
          go_wp2
          go_ret
          exact ⟨rfl, b0_14⟩
      · have hxf : (xc == 0) = false := by simp; exact hx
        go_wp2
        go_ret
        exact ⟨rfl, b0_10⟩
    · have hpf : (pc == 0) = false := by simp; exact hp
      obtain ⟨-, ⟨cl0, cl1, cl2, cl3, cl4, cl5⟩, -⟩ := id l_8
      go_wp2_with fail
      refine (HR.out _ b0_8).mono ?_
      rintro z w9 ⟨px, qx, rfl, ox, ux, bb9⟩
      have l_9 := l_8.later bb9
      have m_9 := m_8.later bb9
      have rq_9 := rq_8.later bb9
      have tq_9 := tq_8.later bb9
      have nq_9 := nq_8.later bb9
      have rp_9 := rp_8.later bb9
      have tp_9 := tp_8.later bb9
      have np_9 := np_8.later bb9
      have b0_9 := below_trans b0_8 bb9
      clear l_8 m_8 rq_8 tq_8 nq_8 rp_8 tp_8 np_8 b0_8 bb9
      clear cl0 cl1 cl2 cl3 cl4 cl5
      obtain ⟨xo, xk, h1⟩ := ox.rd.shape
      subst h1
      obtain ⟨xp, xq, h1⟩ := ux.rd.shape
      subst h1
      have rx := ox.rd
      have tx := ux.rd
      simp only at rx tx ⊢
      clear ox ux
      have ax := below_alloc w9 (.cells #[.bool x0s, .slice xo (Dg.dg 4294967296 x0n).length xk, .int .i64 x0e, .bool x1s, .slice xp (Dg.dg 4294967296 x1n).length xq, .int .i64 x1e] 27)
      have nx := loc6_new w9 (.bool x0s) (.slice xo (Dg.dg 4294967296 x0n).length xk) (.int .i64 x0e) (.bool x1s) (.slice xp (Dg.dg 4294967296 x1n).length xq) (.int .i64 x1e) 27
      have l_10 := l_9.later ax
      have m_10 := m_9.later ax
      have rq_10 := rq_9.later ax
      have tq_10 := tq_9.later ax
      have nq_10 := nq_9.later ax
      have rp_10 := rp_9.later ax
      have tp_10 := tp_9.later ax
      have np_10 := np_9.later ax
      have rx_10 := rx.later ax
      have tx_10 := tx.later ax
      have b0_10 := below_trans b0_9 ax
      clear l_9 m_9 rq_9 tq_9 nq_9 rp_9 tp_9 np_9 rx tx b0_9 ax
      by_cases hx : xc = 0
      · subst hx
        replace HN : Hid _ := HN.out rfl
        replace H3 : Hid _ := H3.out rfl
        replace H4 : Hid _ := H4.out rfl
        replace J3 : Hid _ := J3.out rfl
        replace J4 : Hid _ := J4.out rfl
        obtain ⟨-, ⟨cnx0, cnx1, cnx2, cnx3, cnx4, cnx5⟩, -⟩ := id nx
        go_wp2_with fail
        refine (HN.out _ _ _ b0_10 rx_10 tx_10).mono ?_
        rintro z w11 ⟨py, qy, rfl, oy, uy, bb11⟩
        have l_11 := l_10.later bb11
        have m_11 := m_10.later bb11
        have rq_11 := rq_10.later bb11
        have tq_11 := tq_10.later bb11
        have nq_11 := nq_10.later bb11
        have rp_11 := rp_10.later bb11
        have tp_11 := tp_10.later bb11
        have np_11 := np_10.later bb11
        have rx_11 := rx_10.later bb11
        have tx_11 := tx_10.later bb11
        have nx_11 := nx.later bb11
        have b0_11 := below_trans b0_10 bb11
        clear l_10 m_10 rq_10 tq_10 nq_10 rp_10 tp_10 np_10 rx_10 tx_10 nx b0_10 bb11
        clear cnx0 cnx1 cnx2 cnx3 cnx4 cnx5
        obtain ⟨yo, yk, h1⟩ := oy.rd.shape
        subst h1
        obtain ⟨yp, yq, h1⟩ := uy.rd.shape
        subst h1
        have ry := oy.rd
        have ty := uy.rd
        simp only at ry ty ⊢
        clear oy uy
        have ay := below_alloc w11 (.cells #[.bool y0s, .slice yo (Dg.dg 4294967296 y0n).length yk, .int .i64 y0e, .bool y1s, .slice yp (Dg.dg 4294967296 y1n).length yq, .int .i64 y1e] 27)
        have ny := loc6_new w11 (.bool y0s) (.slice yo (Dg.dg 4294967296 y0n).length yk) (.int .i64 y0e) (.bool y1s) (.slice yp (Dg.dg 4294967296 y1n).length yq) (.int .i64 y1e) 27
        have l_12 := l_11.later ay
        have m_12 := m_11.later ay
        have rq_12 := rq_11.later ay
        have tq_12 := tq_11.later ay
        have nq_12 := nq_11.later ay
        have rp_12 := rp_11.later ay
        have tp_12 := tp_11.later ay
        have np_12 := np_11.later ay
        have rx_12 := rx_11.later ay
        have tx_12 := tx_11.later ay
        have nx_12 := nx_11.later ay
        have ry_12 := ry.later ay
        have ty_12 := ty.later ay
        have b0_12 := below_trans b0_11 ay
        clear l_11 m_11 rq_11 tq_11 nq_11 rp_11 tp_11 np_11 rx_11 tx_11 nx_11 ry ty b0_11 ay
        obtain ⟨-, ⟨cny0, cny1, cny2, cny3, cny4, cny5⟩, -⟩ := id ny
        obtain ⟨-, ⟨cl0, cl1, cl2, cl3, cl4, cl5⟩, -⟩ := id l_12
        go_wp2_with fail
        refine (H3.out _ _ _ b0_12 ry_12 ty_12).mono ?_
        rintro z w13 ⟨rfl, bb13⟩
        have l_13 := l_12.later bb13
        have m_13 := m_12.later bb13
        have rq_13 := rq_12.later bb13
        have tq_13 := tq_12.later bb13
        have nq_13 := nq_12.later bb13
        have rp_13 := rp_12.later bb13
        have tp_13 := tp_12.later bb13
        have np_13 := np_12.later bb13
        have rx_13 := rx_12.later bb13
        have tx_13 := tx_12.later bb13
        have nx_13 := nx_12.later bb13
        have ry_13 := ry_12.later bb13
        have ty_13 := ty_12.later bb13
        have ny_13 := ny.later bb13
        have b0_13 := below_trans b0_12 bb13
        clear l_12 m_12 rq_12 tq_12 nq_12 rp_12 tp_12 np_12 rx_12 tx_12 nx_12 ry_12 ty_12 ny b0_12 bb13
        clear cny0 cny1 cny2 cny3 cny4 cny5 cl0 cl1 cl2 cl3 cl4 cl5
        obtain ⟨-, ⟨cny0, cny1, cny2, cny3, cny4, cny5⟩, -⟩ := id ny_13
        obtain ⟨-, ⟨cl0, cl1, cl2, cl3, cl4, cl5⟩, -⟩ := id l_13
        go_wp2_with fail
        refine (H4.out _ _ _ b0_13 ry_13 ty_13).mono ?_
        rintro z w14 ⟨rfl, bb14⟩
        have l_14 := l_13.later bb14
        have m_14 := m_13.later bb14
        have rq_14 := rq_13.later bb14
        have tq_14 := tq_13.later bb14
        have nq_14 := nq_13.later bb14
        have rp_14 := rp_13.later bb14
        have tp_14 := tp_13.later bb14
        have np_14 := np_13.later bb14
        have rx_14 := rx_13.later bb14
        have tx_14 := tx_13.later bb14
        have nx_14 := nx_13.later bb14
        have ry_14 := ry_13.later bb14
        have ty_14 := ty_13.later bb14
        have ny_14 := ny_13.later bb14
        have b0_14 := below_trans b0_13 bb14
        clear l_13 m_13 rq_13 tq_13 nq_13 rp_13 tp_13 np_13 rx_13 tx_13 nx_13 ry_13 ty_13 ny_13 b0_13 bb14
        clear cny0 cny1 cny2 cny3 cny4 cny5 cl0 cl1 cl2 cl3 cl4 cl5
        by_cases hy : yc = 0
        · subst hy
          obtain ⟨rfl, rfl⟩ := J3.out rfl
          obtain ⟨rfl, rfl⟩ := J4.out rfl
          go_wp2
          go_ret
          exact ⟨rfl, b0_14⟩
        · have hyf : (yc == 0) = false := by simp; exact hy
          go_wp2
          go_ret
          exact ⟨rfl, b0_14⟩
      · have hxf : (xc == 0) = false := by simp; exact hx
        go_wp2
        go_ret
        exact ⟨rfl, b0_10⟩
  · have hqf : (qc == 0) = false := by simp; exact hq
    obtain ⟨-, ⟨cl0, cl1, cl2, cl3, cl4, cl5⟩, -⟩ := id l_4
    go_wp2_with fail
    refine (HR.out _ b0_4).mono ?_
    rintro z w5 ⟨px, qx, rfl, ox, ux, bb5⟩
    have l_5 := l_4.later bb5
    have m_5 := m_4.later bb5
    have rq_5 := rq_4.later bb5
    have tq_5 := tq_4.later bb5
    have nq_5 := nq.later bb5
    have b0_5 := below_trans b0_4 bb5
    clear l_4 m_4 rq_4 tq_4 nq b0_4 bb5
    clear cl0 cl1 cl2 cl3 cl4 cl5
    obtain ⟨xo, xk, h1⟩ := ox.rd.shape
    subst h1
    obtain ⟨xp, xq, h1⟩ := ux.rd.shape
    subst h1
    have rx := ox.rd
    have tx := ux.rd
    simp only at rx tx ⊢
    clear ox ux
    have ax := below_alloc w5 (.cells #[.bool x0s, .slice xo (Dg.dg 4294967296 x0n).length xk, .int .i64 x0e, .bool x1s, .slice xp (Dg.dg 4294967296 x1n).length xq, .int .i64 x1e] 27)
    have nx := loc6_new w5 (.bool x0s) (.slice xo (Dg.dg 4294967296 x0n).length xk) (.int .i64 x0e) (.bool x1s) (.slice xp (Dg.dg 4294967296 x1n).length xq) (.int .i64 x1e) 27
    have l_6 := l_5.later ax
    have m_6 := m_5.later ax
    have rq_6 := rq_5.later ax
    have tq_6 := tq_5.later ax
    have nq_6 := nq_5.later ax
    have rx_6 := rx.later ax
    have tx_6 := tx.later ax
    have b0_6 := below_trans b0_5 ax
    clear l_5 m_5 rq_5 tq_5 nq_5 rx tx b0_5 ax
    by_cases hx : xc = 0
    · subst hx
      replace HN : Hid _ := HN.out rfl
      replace H3 : Hid _ := H3.out rfl
      replace H4 : Hid _ := H4.out rfl
      replace J3 : Hid _ := J3.out rfl
      replace J4 : Hid _ := J4.out rfl
      obtain ⟨-, ⟨cnx0, cnx1, cnx2, cnx3, cnx4, cnx5⟩, -⟩ := id nx
      go_wp2_with fail
      refine (HN.out _ _ _ b0_6 rx_6 tx_6).mono ?_
      rintro z w7 ⟨py, qy, rfl, oy, uy, bb7⟩
      have l_7 := l_6.later bb7
      have m_7 := m_6.later bb7
      have rq_7 := rq_6.later bb7
      have tq_7 := tq_6.later bb7
      have nq_7 := nq_6.later bb7
      have rx_7 := rx_6.later bb7
      have tx_7 := tx_6.later bb7
      have nx_7 := nx.later bb7
      have b0_7 := below_trans b0_6 bb7
      clear l_6 m_6 rq_6 tq_6 nq_6 rx_6 tx_6 nx b0_6 bb7
      clear cnx0 cnx1 cnx2 cnx3 cnx4 cnx5
      obtain ⟨yo, yk, h1⟩ := oy.rd.shape
      subst h1
      obtain ⟨yp, yq, h1⟩ := uy.rd.shape
      subst h1
      have ry := oy.rd
      have ty := uy.rd
      simp only at ry ty ⊢
      clear oy uy
      have ay := below_alloc w7 (.cells #[.bool y0s, .slice yo (Dg.dg 4294967296 y0n).length yk, .int .i64 y0e, .bool y1s, .slice yp (Dg.dg 4294967296 y1n).length yq, .int .i64 y1e] 27)
      have ny := loc6_new w7 (.bool y0s) (.slice yo (Dg.dg 4294967296 y0n).length yk) (.int .i64 y0e) (.bool y1s) (.slice yp (Dg.dg 4294967296 y1n).length yq) (.int .i64 y1e) 27
      have l_8 := l_7.later ay
      have m_8 := m_7.later ay
      have rq_8 := rq_7.later ay
      have tq_8 := tq_7.later ay
      have nq_8 := nq_7.later ay
      have rx_8 := rx_7.later ay
      have tx_8 := tx_7.later ay
      have nx_8 := nx_7.later ay
      have ry_8 := ry.later ay
      have ty_8 := ty.later ay
      have b0_8 := below_trans b0_7 ay
      clear l_7 m_7 rq_7 tq_7 nq_7 rx_7 tx_7 nx_7 ry ty b0_7 ay
      obtain ⟨-, ⟨cny0, cny1, cny2, cny3, cny4, cny5⟩, -⟩ := id ny
      obtain ⟨-, ⟨cl0, cl1, cl2, cl3, cl4, cl5⟩, -⟩ := id l_8
      go_wp2_with fail
      refine (H3.out _ _ _ b0_8 ry_8 ty_8).mono ?_
      rintro z w9 ⟨rfl, bb9⟩
      have l_9 := l_8.later bb9
      have m_9 := m_8.later bb9
      have rq_9 := rq_8.later bb9
      have tq_9 := tq_8.later bb9
      have nq_9 := nq_8.later bb9
      have rx_9 := rx_8.later bb9
      have tx_9 := tx_8.later bb9
      have nx_9 := nx_8.later bb9
      have ry_9 := ry_8.later bb9
      have ty_9 := ty_8.later bb9
      have ny_9 := ny.later bb9
      have b0_9 := below_trans b0_8 bb9
      clear l_8 m_8 rq_8 tq_8 nq_8 rx_8 tx_8 nx_8 ry_8 ty_8 ny b0_8 bb9
      clear cny0 cny1 cny2 cny3 cny4 cny5 cl0 cl1 cl2 cl3 cl4 cl5
      obtain ⟨-, ⟨cny0, cny1, cny2, cny3, cny4, cny5⟩, -⟩ := id ny_9
      obtain ⟨-, ⟨cl0, cl1, cl2, cl3, cl4, cl5⟩, -⟩ := id l_9
      go_wp2_with fail
      refine (H4.out _ _ _ b0_9 ry_9 ty_9).mono ?_
      rintro z w10 ⟨rfl, bb10⟩
      have l_10 := l_9.later bb10
      have m_10 := m_9.later bb10
      have rq_10 := rq_9.later bb10
      have tq_10 := tq_9.later bb10
      have nq_10 := nq_9.later bb10
      have rx_10 := rx_9.later bb10
      have tx_10 := tx_9.later bb10
      have nx_10 := nx_9.later bb10
      have ry_10 := ry_9.later bb10
      have ty_10 := ty_9.later bb10
      have ny_10 := ny_9.later bb10
      have b0_10 := below_trans b0_9 bb10
      clear l_9 m_9 rq_9 tq_9 nq_9 rx_9 tx_9 nx_9 ry_9 ty_9 ny_9 b0_9 bb10
      clear cny0 cny1 cny2 cny3 cny4 cny5 cl0 cl1 cl2 cl3 cl4 cl5
      by_cases hy : yc = 0
      · subst hy
        obtain ⟨rfl, rfl⟩ := J3.out rfl
        obtain ⟨rfl, rfl⟩ := J4.out rfl
        go_wp2
        go_ret
        exact ⟨rfl, b0_10⟩
      · have hyf : (yc == 0) = false := by simp; exact hy
        go_wp2
        go_ret
        exact ⟨rfl, b0_10⟩
    · have hxf : (xc == 0) = false := by simp; exact hx
      go_wp2
      go_ret
      exact ⟨rfl, b0_6⟩
end Go.Proofs.YtmjhlflemfkflaaDoor

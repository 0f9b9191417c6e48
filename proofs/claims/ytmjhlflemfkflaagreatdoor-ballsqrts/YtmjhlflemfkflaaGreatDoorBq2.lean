/-
  Balls: the law BallSqrts.
-/
import Derived.Test.YtmjhlflemfkflaaGreatDoorBh
import Derived.Test.YtmjhlflemfkflaaGreatDoorRr1
namespace Go.Proofs.YtmjhlflemfkflaaGreatDoor
open Go.RowKit

/-- What is wrong, if nothing was so far. -/
def belowR (c g : Int) : Int := if c = 0 then (if g < 0 then 5 else 0) else c

set_option maxRecDepth 100000 in
set_option maxHeartbeats 1600000 in
theorem bSqrtsW_any (s : Bool) (ao : Option Addr) (ca la : Nat) (e : Int) (t : Bool) (bo : Option Addr) (cb lb : Nat) (f : Int) (n c g d : Int) (rs : Bool) (rn : Nat) (re : Int) (qs : Bool) (qn : Nat) (qe rc : Int) (X0 X1 L H : Trip) (w : World) (hd : belowR c g = d)
    (HA : ∀ w1, Below w.heap.size w w1 → Calls Tryz.prog 5 #[.agg #[.bool s, .slice ao la ca, .int .i64 e, .bool t, .slice bo lb cb, .int .i64 f], .int .i64 n] w1 (BOwn w1 (⟨rs, rn, re⟩, ⟨qs, qn, qe⟩, rc)))
    (HW : ∀ w1, Below w.heap.size w w1 → Calls Tryz.prog 6 #[.agg #[.bool s, .slice ao la ca, .int .i64 e, .bool t, .slice bo lb cb, .int .i64 f], .agg #[.bool s, .slice ao la ca, .int .i64 e, .bool t, .slice bo lb cb, .int .i64 f], .int .i64 n] w1 fun z w' => z = .returned (.int .i64 c) ∧ Below w1.heap.size w1 w')
    (HX : c = 0 → ∀ w1, Below w.heap.size w w1 → Calls Tryz.prog 7 #[.agg #[.bool s, .slice ao la ca, .int .i64 e, .bool t, .slice bo lb cb, .int .i64 f]] w1 (RBRes w1 X0 X1))
    (HS : c = 0 → ∀ v w1, Rv w1 v X0 → Calls Tryz.prog 8 #[v] w1 fun z w' => z = .returned (.int .i64 g) ∧ Below w1.heap.size w1 w')
    (Q0 : d = 0 → ∀ v w1, Rv w1 v X0 → Calls Tryz.prog 9 #[v, .int .i64 n, .bool false] w1 (RDRes w1 L))
    (Q1 : d = 0 → ∀ v w1, Rv w1 v X1 → Calls Tryz.prog 9 #[v, .int .i64 n, .bool true] w1 (RDRes w1 H))
    (HI : ∀ p q lo hi w1, Below w.heap.size w w1 → Rd w1 .u32 p (Dg.dg 4294967296 rn) → Rd w1 .u32 q (Dg.dg 4294967296 qn) → (d = 0 → Rv w1 lo L ∧ Rv w1 hi H) → (d ≠ 0 → lo = .agg #[.bool false, .slice none 0 0, .int .i64 0] ∧ hi = .agg #[.bool false, .slice none 0 0, .int .i64 0]) → Calls Tryz.prog 11 #[.agg #[.bool rs, p, .int .i64 re, .bool qs, q, .int .i64 qe], .int .i64 rc, .int .i64 d, lo, hi, .int .i64 n] w1 fun z w' => z = .returned (.bool true) ∧ Below w1.heap.size w1 w')
    (HB : ∀ w1, Below w.heap.size w w1 → Calls Tryz.prog 10 #[] w1 fun z w' => z = .returned (.bool true) ∧ Below w1.heap.size w1 w') :
    Calls Tryz.prog 3 #[.agg #[.bool s, .slice ao la ca, .int .i64 e, .bool t, .slice bo lb cb, .int .i64 f], .int .i64 n] w fun z w' => z = .returned (.bool true) ∧ Below w.heap.size w w' := by
  replace HA : Hid _ := HA
  replace HW : Hid _ := HW
  replace HX : Hid _ := HX
  replace HS : Hid _ := HS
  replace Q0 : Hid _ := Q0
  replace Q1 : Hid _ := Q1
  replace HI : Hid _ := HI
  replace HB : Hid _ := HB
  have b1 := below_alloc w (.cells #[.bool s, .slice ao la ca, .int .i64 e, .bool t, .slice bo lb cb, .int .i64 f] 27)
  have l1 := loc6_new w (.bool s) (.slice ao la ca) (.int .i64 e) (.bool t) (.slice bo lb cb) (.int .i64 f) 27
  go_enter Tryz.func3, Tryz.ntmps3
  go_wp2_with fail
  refine (HA.out _ b1).mono ?_
  rintro z w2 ⟨p, q, rfl, op, oq, bb2⟩
  have l_2 := l1.later bb2
  have b0_2 := below_trans b1 bb2
  clear l1 b1 bb2
  clear HA
  obtain ⟨po, pc, hp⟩ := op.rd.shape
  subst hp
  obtain ⟨qo, qc, hq⟩ := oq.rd.shape
  subst hq
  have rp := op.rd
  have rq := oq.rd
  simp only at rp rq ⊢
  clear op oq
  have ba := below_alloc w2 (.cells #[.bool rs, .slice po (Dg.dg 4294967296 rn).length pc, .int .i64 re, .bool qs, .slice qo (Dg.dg 4294967296 qn).length qc, .int .i64 qe] 27)
  have n2 := loc6_new w2 (.bool rs) (.slice po (Dg.dg 4294967296 rn).length pc) (.int .i64 re) (.bool qs) (.slice qo (Dg.dg 4294967296 qn).length qc) (.int .i64 qe) 27
  have l_3 := l_2.later ba
  have rp_3 := rp.later ba
  have rq_3 := rq.later ba
  have b0_3 := below_trans b0_2 ba
  clear l_2 rp rq b0_2 ba
  obtain ⟨-, ⟨c0, c1, c2, c3, c4, c5⟩, -⟩ := id l_3
  go_wp2_with fail
  refine (HW.out _ b0_3).mono ?_
  rintro z w3 ⟨rfl, bb4⟩
  have l_4 := l_3.later bb4
  have rp_4 := rp_3.later bb4
  have rq_4 := rq_3.later bb4
  have n_4 := n2.later bb4
  have b0_4 := below_trans b0_3 bb4
  clear l_3 rp_3 rq_3 n2 b0_3 bb4
  clear HW c0 c1 c2 c3 c4 c5
  have a4 := below_trans (below_alloc w3 (.cells #[.bool false, .slice none 0 0, .int .i64 0] 34)) (below_alloc _ (.cells #[.bool false, .slice none 0 0, .int .i64 0] 34))
  have lo4 := (loc_new w3 (.bool false) (.slice none 0 0) (.int .i64 0) 34).later (below_alloc _ (.cells #[.bool false, .slice none 0 0, .int .i64 0] 34))
  have zl4 := (zb_new w3 34).later (below_alloc _ (.cells #[.bool false, .slice none 0 0, .int .i64 0] 34))
  have hi4 := loc_new (w3.alloc (.cells #[.bool false, .slice none 0 0, .int .i64 0] 34)) (.bool false) (.slice none 0 0) (.int .i64 0) 34
  have zh4 := zb_new (w3.alloc (.cells #[.bool false, .slice none 0 0, .int .i64 0] 34)) 34
  simp only [World.size_alloc] at hi4 zh4
  have hAB : w2.heap.size < w3.heap.size := n_4.1
  have hA0 : w.heap.size < w3.heap.size := l_4.1
  have l_5 := l_4.later a4
  have rp_5 := rp_4.later a4
  have rq_5 := rq_4.later a4
  have n_5 := n_4.later a4
  have b0_5 := below_trans b0_4 a4
  clear l_4 rp_4 rq_4 n_4 b0_4 a4
  have nLH : w3.heap.size ≠ w3.heap.size + 1 := by omega
  have nLA : w3.heap.size ≠ w2.heap.size := by omega
  have nHA : w3.heap.size + 1 ≠ w2.heap.size := by omega
  have hLB : w.heap.size ≤ w3.heap.size := by omega
  have hHK : w.heap.size ≤ w3.heap.size + 1 := by omega
  by_cases hc : c = 0
  · subst hc
    replace HX : Hid _ := HX.out rfl
    replace HS : Hid _ := HS.out rfl
    obtain ⟨xs, xn, xe⟩ := X0
    obtain ⟨zs, zn, ze⟩ := X1
    obtain ⟨-, ⟨c0, c1, c2, c3, c4, c5⟩, -⟩ := id l_5
    go_wp2_with fail
    refine (HX.out _ b0_5).mono ?_
    rintro z w5 ⟨px, qx, rfl, rx, rz, bb6⟩
    have l_6 := l_5.later bb6
    have rp_6 := rp_5.later bb6
    have rq_6 := rq_5.later bb6
    have n_6 := n_5.later bb6
    have lo_6 := lo4.later bb6
    have zl_6 := zl4.later bb6
    have hi_6 := hi4.later bb6
    have zh_6 := zh4.later bb6
    have b0_6 := below_trans b0_5 bb6
    clear l_5 rp_5 rq_5 n_5 lo4 zl4 hi4 zh4 b0_5 bb6
    clear HX c0 c1 c2 c3 c4 c5
    obtain ⟨xo, xc, h1⟩ := rx.shape
    subst h1
    obtain ⟨zo, zc, h1⟩ := rz.shape
    subst h1
    simp only at rx rz ⊢
    have ax := below_alloc w5 (.cells #[.bool xs, .slice xo (Dg.dg 65536 xn).length xc, .int .i64 xe, .bool zs, .slice zo (Dg.dg 65536 zn).length zc, .int .i64 ze] 36)
    have j6 := loc6_new w5 (.bool xs) (.slice xo (Dg.dg 65536 xn).length xc) (.int .i64 xe) (.bool zs) (.slice zo (Dg.dg 65536 zn).length zc) (.int .i64 ze) 36
    have hX5 : w3.heap.size + 1 < w5.heap.size := hi_6.1
    have l_7 := l_6.later ax
    have rp_7 := rp_6.later ax
    have rq_7 := rq_6.later ax
    have n_7 := n_6.later ax
    have lo_7 := lo_6.later ax
    have zl_7 := zl_6.later ax
    have hi_7 := hi_6.later ax
    have zh_7 := zh_6.later ax
    have rx_7 := rx.later ax
    have rz_7 := rz.later ax
    have b0_7 := below_trans b0_6 ax
    clear l_6 rp_6 rq_6 n_6 lo_6 zl_6 hi_6 zh_6 rx rz b0_6 ax
    obtain ⟨-, ⟨c0, c1, c2, c3, c4, c5⟩, -⟩ := id j6
    go_wp2_with fail
    refine (HS.out _ _ ⟨_, rfl, rx_7⟩).mono ?_
    rintro z w7 ⟨rfl, bb8⟩
    have l_8 := l_7.later bb8
    have rp_8 := rp_7.later bb8
    have rq_8 := rq_7.later bb8
    have n_8 := n_7.later bb8
    have lo_8 := lo_7.later bb8
    have zl_8 := zl_7.later bb8
    have hi_8 := hi_7.later bb8
    have zh_8 := zh_7.later bb8
    have rx_8 := rx_7.later bb8
    have rz_8 := rz_7.later bb8
    have j_8 := j6.later bb8
    have b0_8 := below_trans b0_7 bb8
    clear l_7 rp_7 rq_7 n_7 lo_7 zl_7 hi_7 zh_7 rx_7 rz_7 j6 b0_7 bb8
    clear HS c0 c1 c2 c3 c4 c5
    have nLX : w3.heap.size ≠ w5.heap.size := by omega
    have nHX : w3.heap.size + 1 ≠ w5.heap.size := by omega
    by_cases hg : g < 0
    · have HD5 : 5 = d := by rw [← hd]; unfold belowR; rw [if_pos rfl, if_pos hg]
      obtain rfl := HD5
      have HD0 : ¬(5 : Int) = 0 := by decide
      go_wp2_with fail
      refine (HB.out _ b0_8).mono ?_
      rintro z w9 ⟨rfl, bb9⟩
      have l_9 := l_8.later bb9
      have rp_9 := rp_8.later bb9
      have rq_9 := rq_8.later bb9
      have n_9 := n_8.later bb9
      have lo_9 := lo_8.later bb9
      have zl_9 := zl_8.later bb9
      have hi_9 := hi_8.later bb9
      have zh_9 := zh_8.later bb9
      have rx_9 := rx_8.later bb9
      have rz_9 := rz_8.later bb9
      have j_9 := j_8.later bb9
      have b0_9 := below_trans b0_8 bb9
      clear l_8 rp_8 rq_8 n_8 lo_8 zl_8 hi_8 zh_8 rx_8 rz_8 j_8 b0_8 bb9
      obtain ⟨-, ⟨p0, p1, p2⟩, -⟩ := id lo_9
      obtain ⟨-, ⟨p3, p4, p5⟩, -⟩ := id hi_9
      obtain ⟨-, ⟨i0, i1, i2, i3, i4, i5⟩, -⟩ := id n_9
      go_wp2_with fail
      refine (HI.out _ _ _ _ _ b0_9 rp_9 rq_9 (fun h => absurd h HD0) (fun _ => ⟨rfl, rfl⟩)).mono ?_
      rintro z w10 ⟨rfl, bb10⟩
      have l_10 := l_9.later bb10
      have rp_10 := rp_9.later bb10
      have rq_10 := rq_9.later bb10
      have n_10 := n_9.later bb10
      have lo_10 := lo_9.later bb10
      have zl_10 := zl_9.later bb10
      have hi_10 := hi_9.later bb10
      have zh_10 := zh_9.later bb10
      have rx_10 := rx_9.later bb10
      have rz_10 := rz_9.later bb10
      have j_10 := j_9.later bb10
      have b0_10 := below_trans b0_9 bb10
      clear l_9 rp_9 rq_9 n_9 lo_9 zl_9 hi_9 zh_9 rx_9 rz_9 j_9 b0_9 bb10
      go_wp2
      go_ret
      exact ⟨rfl, b0_10⟩
    · have HDZ : 0 = d := by rw [← hd]; unfold belowR; rw [if_pos rfl, if_neg hg]
      obtain rfl := HDZ
      have hgf : decide (g < 0) = false := by simp; omega
      replace Q0 : Hid _ := Q0.out rfl
      replace Q1 : Hid _ := Q1.out rfl
      obtain ⟨Ls, Ln, Le⟩ := L
      obtain ⟨Hs, Hn, He⟩ := H
      clear hd hg hA0 hX5
      go_wp2_with fail
      generalize w3.heap.size + 1 = HK at hi_8 zh_8 nLH nHA nHX hHK ⊢
      generalize w3.heap.size = LB at lo_8 zl_8 nLH nLA nLX hLB hAB ⊢
      generalize w5.heap.size = XB at j_8 nLX nHX ⊢
      generalize w2.heap.size = AB at n_8 nLA nHA hAB ⊢
      have bd_8 : Below w7.heap.size w7 w7.drew := (Below.refl _ _).drew
      have l_9 := l_8.later bd_8
      have rp_9 := rp_8.later bd_8
      have rq_9 := rq_8.later bd_8
      have n_9 := n_8.later bd_8
      have lo_9 := lo_8.later bd_8
      have zl_9 := zl_8.later bd_8
      have hi_9 := hi_8.later bd_8
      have zh_9 := zh_8.later bd_8
      have rx_9 := rx_8.later bd_8
      have rz_9 := rz_8.later bd_8
      have j_9 := j_8.later bd_8
      have b0_9 := below_trans b0_8 bd_8
      clear l_8 rp_8 rq_8 n_8 lo_8 zl_8 hi_8 zh_8 rx_8 rz_8 j_8 b0_8 bd_8
      obtain ⟨-, ⟨c0, c1, c2, c3, c4, c5⟩, -⟩ := id j_9
      go_region_held3 (fun wq => (wq.cell? ⟨XB, 0, none⟩ = some (.bool xs) ∧ wq.cell? ⟨XB, 1, none⟩ = some (.slice xo (Dg.dg 65536 xn).length xc) ∧ wq.cell? ⟨XB, 2, none⟩ = some (.int .i64 xe)) ∧ wq.cell? ⟨XB, 3, none⟩ = some (.bool zs) ∧ wq.cell? ⟨XB, 4, none⟩ = some (.slice zo (Dg.dg 65536 zn).length zc) ∧ wq.cell? ⟨XB, 5, none⟩ = some (.int .i64 ze)) (go_keep) (first
        | (go_at_call 9; have hgd := b0_9; clear hgd; refine (Q0.out _ _ ⟨_, rfl, rx_9⟩).mono ?_; rintro z wa ⟨va, rfl, rdL, bb_wa⟩; have b0_wa := below_trans b0_9 bb_wa; have l_wa := l_9.later bb_wa; have rp_wa := rp_9.later bb_wa; have rq_wa := rq_9.later bb_wa; have n_wa := n_9.later bb_wa; have lo_wa := lo_9.later bb_wa; have zl_wa := zl_9.later bb_wa; have hi_wa := hi_9.later bb_wa; have zh_wa := zh_9.later bb_wa; have rx_wa := rx_9.later bb_wa; have rz_wa := rz_9.later bb_wa; have j_wa := j_9.later bb_wa; obtain ⟨oL, cpL, h1'⟩ := rdL.shape; subst h1'; simp only at rdL; obtain ⟨-, ⟨ca0, ca1, ca2, ca3, ca4, ca5⟩, -⟩ := id j_wa; clear b0_9)
        | (go_at_call 9; have hgd := b0_wa; clear hgd; refine (Q1.out _ _ ⟨_, rfl, rz_wa⟩).mono ?_; rintro z wb ⟨vb, rfl, rdH, bb_wb⟩; have b0_wb := below_trans b0_wa bb_wb; have l_wb := l_wa.later bb_wb; have rp_wb := rp_wa.later bb_wb; have rq_wb := rq_wa.later bb_wb; have n_wb := n_wa.later bb_wb; have lo_wb := lo_wa.later bb_wb; have zl_wb := zl_wa.later bb_wb; have hi_wb := hi_wa.later bb_wb; have zh_wb := zh_wa.later bb_wb; have rx_wb := rx_wa.later bb_wb; have rz_wb := rz_wa.later bb_wb; have j_wb := j_wa.later bb_wb; have rL_wb := rdL.later bb_wb; obtain ⟨oH, cpH, h2'⟩ := rdH.shape; subst h2'; simp only at rdH; obtain ⟨-, ⟨cb0, cb1, cb2, cb3, cb4, cb5⟩, -⟩ := id j_wb; obtain ⟨hl0, ⟨g0, g1, g2⟩, f0, f1, f2⟩ := id lo_wb; obtain ⟨hk0, ⟨i0, i1, i2⟩, y0, y1, y2⟩ := id hi_wb; clear b0_wa))
      have t1 := loc_set lo_wb (.bool Ls) (.slice oL (Dg.dg 65536 Ln).length cpL) (.int .i64 Le)
      have t2 := hi_wb.apart (c := LB) nLH (.bool Ls) (.slice oL (Dg.dg 65536 Ln).length cpL) (.int .i64 Le)
      have t3 := zh_wb.off3 nLH.symm (.bool Ls) (.slice oL (Dg.dg 65536 Ln).length cpL) (.int .i64 Le)
      have t4 := n_wb.apart3 (c := LB) nLA (.bool Ls) (.slice oL (Dg.dg 65536 Ln).length cpL) (.int .i64 Le)
      have t5 := zl_wb.rd rL_wb (Dg.norm_dg _ _ (by omega)) (.bool Ls) (.slice oL (Dg.dg 65536 Ln).length cpL) (.int .i64 Le)
      have t6 := zl_wb.rd rdH (Dg.norm_dg _ _ (by omega)) (.bool Ls) (.slice oL (Dg.dg 65536 Ln).length cpL) (.int .i64 Le)
      have t7 := below_set3 b0_wb hLB (.bool Ls) (.slice oL (Dg.dg 65536 Ln).length cpL) (.int .i64 Le)
      have s1 := t1.apart (c := HK) nLH.symm (.bool Hs) (.slice oH (Dg.dg 65536 Hn).length cpH) (.int .i64 He)
      have s2 := loc_set t2 (.bool Hs) (.slice oH (Dg.dg 65536 Hn).length cpH) (.int .i64 He)
      have s4 := t4.apart3 (c := HK) nHA (.bool Hs) (.slice oH (Dg.dg 65536 Hn).length cpH) (.int .i64 He)
      have s5 := t3.rd t5 (Dg.norm_dg _ _ (by omega)) (.bool Hs) (.slice oH (Dg.dg 65536 Hn).length cpH) (.int .i64 He)
      have s6 := t3.rd t6 (Dg.norm_dg _ _ (by omega)) (.bool Hs) (.slice oH (Dg.dg 65536 Hn).length cpH) (.int .i64 He)
      have s7 := below_set3 t7 hHK (.bool Hs) (.slice oH (Dg.dg 65536 Hn).length cpH) (.int .i64 He)
      have u1 := rp_wb.fix3 zl_wb (.bool Ls) (.slice oL (Dg.dg 65536 Ln).length cpL) (.int .i64 Le)
      have u2 := rq_wb.fix3 zl_wb (.bool Ls) (.slice oL (Dg.dg 65536 Ln).length cpL) (.int .i64 Le)
      have u3 := u1.fix3 t3 (.bool Hs) (.slice oH (Dg.dg 65536 Hn).length cpH) (.int .i64 He)
      have u4 := u2.fix3 t3 (.bool Hs) (.slice oH (Dg.dg 65536 Hn).length cpH) (.int .i64 He)
      clear t1 t2 t3 t4 t5 t6 t7 u1 u2
      generalize ((((((wb.setCell ⟨LB, 0, none⟩ (.bool Ls)).setCell ⟨LB, 1, none⟩ (.slice oL (Dg.dg 65536 Ln).length cpL)).setCell ⟨LB, 2, none⟩ (.int .i64 Le)).setCell ⟨HK, 0, none⟩ (.bool Hs)).setCell ⟨HK, 1, none⟩ (.slice oH (Dg.dg 65536 Hn).length cpH)).setCell ⟨HK, 2, none⟩ (.int .i64 He)) = W5 at s1 s2 s4 s5 s6 s7 u3 u4 ⊢
      obtain ⟨-, ⟨p0, p1, p2⟩, -⟩ := id s1
      go_wp2_with fail
      refine (HB.out _ s7).mono ?_
      rintro z w21 ⟨rfl, bb21⟩
      have lo_21 := s1.later bb21
      have hi_21 := s2.later bb21
      have n_21 := s4.later bb21
      have rL_21 := s5.later bb21
      have rH_21 := s6.later bb21
      have rp_21 := u3.later bb21
      have rq_21 := u4.later bb21
      have b0_21 := below_trans s7 bb21
      clear s1 s2 s4 s5 s6 u3 u4 s7 bb21
      obtain ⟨-, ⟨p0, p1, p2⟩, -⟩ := id lo_21
      obtain ⟨-, ⟨p3, p4, p5⟩, -⟩ := id hi_21
      obtain ⟨-, ⟨i0, i1, i2, i3, i4, i5⟩, -⟩ := id n_21
      go_wp2_with fail
      refine (HI.out _ _ _ _ _ b0_21 rp_21 rq_21 (fun _ => ⟨⟨_, rfl, rL_21⟩, ⟨_, rfl, rH_21⟩⟩) (fun h => absurd rfl h)).mono ?_
      rintro z w22 ⟨rfl, bb22⟩
      have lo_22 := lo_21.later bb22
      have hi_22 := hi_21.later bb22
      have n_22 := n_21.later bb22
      have rL_22 := rL_21.later bb22
      have rH_22 := rH_21.later bb22
      have rp_22 := rp_21.later bb22
      have rq_22 := rq_21.later bb22
      have b0_22 := below_trans b0_21 bb22
      clear lo_21 hi_21 n_21 rL_21 rH_21 rp_21 rq_21 b0_21 bb22
      go_wp2
      go_ret
      exact ⟨rfl, b0_22⟩
  · have HDC : c = d := by rw [← hd]; unfold belowR; rw [if_neg hc]
    obtain rfl := HDC
    have HD0 : ¬c = 0 := hc
    go_wp2_with fail
    refine (HB.out _ b0_5).mono ?_
    rintro z w6 ⟨rfl, bb6⟩
    have l_6 := l_5.later bb6
    have rp_6 := rp_5.later bb6
    have rq_6 := rq_5.later bb6
    have n_6 := n_5.later bb6
    have lo_6 := lo4.later bb6
    have zl_6 := zl4.later bb6
    have hi_6 := hi4.later bb6
    have zh_6 := zh4.later bb6
    have b0_6 := below_trans b0_5 bb6
    clear l_5 rp_5 rq_5 n_5 lo4 zl4 hi4 zh4 b0_5 bb6
    obtain ⟨-, ⟨p0, p1, p2⟩, -⟩ := id lo_6
    obtain ⟨-, ⟨p3, p4, p5⟩, -⟩ := id hi_6
    obtain ⟨-, ⟨i0, i1, i2, i3, i4, i5⟩, -⟩ := id n_6
    go_wp2_with fail
    refine (HI.out _ _ _ _ _ b0_6 rp_6 rq_6 (fun h => absurd h HD0) (fun _ => ⟨rfl, rfl⟩)).mono ?_
    rintro z w7 ⟨rfl, bb7⟩
    have l_7 := l_6.later bb7
    have rp_7 := rp_6.later bb7
    have rq_7 := rq_6.later bb7
    have n_7 := n_6.later bb7
    have lo_7 := lo_6.later bb7
    have zl_7 := zl_6.later bb7
    have hi_7 := hi_6.later bb7
    have zh_7 := zh_6.later bb7
    have b0_7 := below_trans b0_6 bb7
    clear l_6 rp_6 rq_6 n_6 lo_6 zl_6 hi_6 zh_6 b0_6 bb7
    go_wp2
    go_ret
    exact ⟨rfl, b0_7⟩
end Go.Proofs.YtmjhlflemfkflaaGreatDoor

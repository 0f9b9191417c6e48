/-
  Texts laid together: Bl18, Bl19, Bl20.
-/
import Derived.Test.YtmjhlflemfkflaaDoorBd
import Derived.Test.YtmjhlflemfkflaaDoorBl9
import Derived.Test.YtmjhlflemfkflaaDoorBb
import Derived.Test.YtmjhlflemfkflaaDoorBa
import Derived.Test.YtmjhlflemfkflaaDoorDb
import Derived.Deep.Cut
/-
  Balls: contracts of ball.Add, ball.Sub, ball.Mul.
-/
namespace Go.Proofs.YtmjhlflemfkflaaDoor
open Go.RowKit

set_option maxRecDepth 100000 in
set_option maxHeartbeats 800000 in
theorem bMulW_any (s : Bool) (ao : Option Addr) (ca la : Nat) (e : Int) (t : Bool) (bo : Option Addr) (cb lb : Nat) (f : Int) (r : Bool) (co : Option Addr) (cc lc : Nat) (g : Int) (u : Bool) (d' : Option Addr) (cd ld : Nat) (k : Int) (n : Int) (R : Trip × Trip × Int) (w : World)
    (HR : ∀ w1, Below w.heap.size w w1 → Calls Tryd.prog 40 #[.agg #[.bool s, .slice ao la ca, .int .i64 e, .bool t, .slice bo lb cb, .int .i64 f], .agg #[.bool r, .slice co lc cc, .int .i64 g, .bool u, .slice d' ld cd, .int .i64 k], .int .i64 n, .func (.func 43) #[] #[]] w1 (BOwn w1 R)) :
    Calls Tryd.prog 12 #[.agg #[.bool s, .slice ao la ca, .int .i64 e, .bool t, .slice bo lb cb, .int .i64 f], .agg #[.bool r, .slice co lc cc, .int .i64 g, .bool u, .slice d' ld cd, .int .i64 k], .int .i64 n] w (BOwn w R) := by
  replace HR : Hid _ := HR
  obtain ⟨⟨rs, rn, re⟩, ⟨qs, qn, qe⟩, rc⟩ := R
  have k1 := loc6_new ((w.alloc (.cells #[.bool s, .slice ao la ca, .int .i64 e, .bool t, .slice bo lb cb, .int .i64 f] 27)).alloc (.cells #[.bool r, .slice co lc cc, .int .i64 g, .bool u, .slice d' ld cd, .int .i64 k] 27)) (.bool false) (.slice none 0 0) (.int .i64 0) (.bool false) (.slice none 0 0) (.int .i64 0) 27
  have b1 := below_trans (below_trans (below_alloc w (.cells #[.bool s, .slice ao la ca, .int .i64 e, .bool t, .slice bo lb cb, .int .i64 f] 27)) (below_alloc _ (.cells #[.bool r, .slice co lc cc, .int .i64 g, .bool u, .slice d' ld cd, .int .i64 k] 27))) (below_alloc _ (.cells #[.bool false, .slice none 0 0, .int .i64 0, .bool false, .slice none 0 0, .int .i64 0] 27))
  have l1 := ((loc6_new w (.bool s) (.slice ao la ca) (.int .i64 e) (.bool t) (.slice bo lb cb) (.int .i64 f) 27).later (below_alloc _ (.cells #[.bool r, .slice co lc cc, .int .i64 g, .bool u, .slice d' ld cd, .int .i64 k] 27))).later (below_alloc _ (.cells #[.bool false, .slice none 0 0, .int .i64 0, .bool false, .slice none 0 0, .int .i64 0] 27))
  have m1 := (loc6_new (w.alloc (.cells #[.bool s, .slice ao la ca, .int .i64 e, .bool t, .slice bo lb cb, .int .i64 f] 27)) (.bool r) (.slice co lc cc) (.int .i64 g) (.bool u) (.slice d' ld cd) (.int .i64 k) 27).later (below_alloc _ (.cells #[.bool false, .slice none 0 0, .int .i64 0, .bool false, .slice none 0 0, .int .i64 0] 27))
  simp only [World.size_alloc] at k1 m1
  obtain ⟨-, ⟨c0, c1, c2, c3, c4, c5⟩, -⟩ := id l1
  obtain ⟨-, ⟨x0, x1, x2, x3, x4, x5⟩, -⟩ := id m1
  go_enter Tryd.func12, Tryd.ntmps12
  go_wp2_with fail
  refine (HR.out _ b1).mono ?_
  rintro z w5 ⟨pp, qq, rfl, op, oq, b5⟩
  have b05 := below_trans b1 b5
  have k5 := k1.later b5
  have hlt := k1.1
  obtain ⟨po, pc, hp⟩ := op.rd.shape
  subst hp
  obtain ⟨qo, qc, hq⟩ := oq.rd.shape
  subst hq
  obtain ⟨hl, ⟨g0, g1, g2, g3, g4, g5⟩, f0, f1, f2, f3, f4, f5⟩ := id k5
  clear c0 c1 c2 c3 c4 c5 x0 x1 x2 x3 x4 x5 l1 m1 k1
  go_wp2
  obtain ⟨-, ⟨u0, u1, u2, u3, u4, u5⟩, -⟩ := loc6_set k5 (.bool rs) (.slice po (Dg.dg 4294967296 rn).length pc) (.int .i64 re) (.bool qs) (.slice qo (Dg.dg 4294967296 qn).length qc) (.int .i64 qe)
  have bb := below_set6 b05 (show w.heap.size ≤ w.heap.size + 1 + 1 by omega) (.bool rs) (.slice po (Dg.dg 4294967296 rn).length pc) (.int .i64 re) (.bool qs) (.slice qo (Dg.dg 4294967296 qn).length qc) (.int .i64 qe)
  refine bodyPost_ret (v := .tuple #[.agg #[.bool rs, .slice po (Dg.dg 4294967296 rn).length pc, .int .i64 re, .bool qs, .slice qo (Dg.dg 4294967296 qn).length qc, .int .i64 qe], .int .i64 rc]) (by simp [results, Tryd.results12, go_sem, u0, u1, u2, u3, u4, u5]) rfl ?_
  exact ⟨_, _, rfl, ((op.apart6 hlt _ _ _ _ _ _).lower b1.size), ((oq.apart6 hlt _ _ _ _ _ _).lower b1.size), bb⟩

theorem bits_of {s : Bool} {xs : List Nat} {e : Int} (hd : Dg.dg 4294967296 (Dg.vl 4294967296 xs) = xs) (hl : xs.length ≤ 1200) : bitLen (⟨s, Dg.vl 4294967296 xs, e⟩ : Trip).n ≤ 38400 := by
  have := bitLen_of_len2 (a := Dg.vl 4294967296 xs) (L := 1200) (by rw [hd]; exact hl)
  show bitLen (Dg.vl 4294967296 xs) ≤ 38400
  omega

theorem sum_bits {x y p q i j m : Nat} (hx : x < 2 ^ p) (hy : y < 2 ^ q) (h1 : p + i ≤ m) (h2 : q + j ≤ m) : x * 2 ^ i + y * 2 ^ j < 2 ^ (m + 1) := by
  have a1 : x * 2 ^ i < 2 ^ p * 2 ^ i := Nat.mul_lt_mul_of_pos_right hx (Nat.pow_pos (by omega))
  have a2 : y * 2 ^ j < 2 ^ q * 2 ^ j := Nat.mul_lt_mul_of_pos_right hy (Nat.pow_pos (by omega))
  rw [← Nat.pow_add] at a1 a2
  have b1 : 2 ^ (p + i) ≤ 2 ^ m := Nat.pow_le_pow_right (by omega) h1
  have b2 : 2 ^ (q + j) ≤ 2 ^ m := Nat.pow_le_pow_right (by omega) h2
  rw [Nat.pow_succ]
  omega

theorem plus_fits {a b : Trip} (ha : bitLen a.n ≤ 38400) (hb : bitLen b.n ≤ 38400) (a1 : -20000 ≤ a.e) (a2 : a.e ≤ 20000) (b1 : -20000 ≤ b.e) (b2 : b.e ≤ 20000) :
    (Dg.dg 4294967296 (plusT a b).n).length ≤ 9000 ∧ -100000 ≤ (plusT a b).e ∧ (plusT a b).e ≤ 100000 := by
  have hm : (a.e - min a.e b.e).toNat ≤ 40000 ∧ (b.e - min a.e b.e).toNat ≤ 40000 := ⟨by omega, by omega⟩
  obtain ⟨h1, h2⟩ := hm
  obtain ⟨M, hM⟩ : ∃ M, M = 78400 := ⟨_, rfl⟩
  have hs : a.n * 2 ^ (a.e - min a.e b.e).toNat + b.n * 2 ^ (b.e - min a.e b.e).toNat < 2 ^ (M + 1) := sum_bits (bitLen_spec a.n).1 (bitLen_spec b.n).1 (by omega) (by omega)
  have he : (plusT a b).e = min a.e b.e := by unfold plusT; simp only; split; · rfl
                                              · split <;> rfl
  have hn : (plusT a b).n ≤ a.n * 2 ^ (a.e - min a.e b.e).toNat + b.n * 2 ^ (b.e - min a.e b.e).toNat := by
    unfold plusT
    simp only
    split
    · exact Nat.le_refl _
    · split
      · exact Nat.le_trans (Nat.sub_le _ _) (Nat.le_add_left _ _)
      · exact Nat.le_trans (Nat.sub_le _ _) (Nat.le_add_right _ _)
  refine ⟨pow_len32 (Nat.lt_of_le_of_lt hn hs) (by omega), by rw [he]; omega, by rw [he]; omega⟩

theorem times_fits {a b : Trip} (ha : bitLen a.n ≤ 38400) (hb : bitLen b.n ≤ 38400) (a1 : -20000 ≤ a.e) (a2 : a.e ≤ 20000) (b1 : -20000 ≤ b.e) (b2 : b.e ≤ 20000) :
    (Dg.dg 4294967296 (timesT a b).n).length ≤ 9000 ∧ -100000 ≤ (timesT a b).e ∧ (timesT a b).e ≤ 100000 := by
  have h1 : a.n * b.n < 2 ^ bitLen a.n * 2 ^ bitLen b.n := Nat.mul_lt_mul'' (bitLen_spec a.n).1 (bitLen_spec b.n).1
  rw [← Nat.pow_add] at h1
  exact ⟨pow_len32 h1 (by omega), by show -100000 ≤ a.e + b.e; omega, by show a.e + b.e ≤ 100000; omega⟩

set_option maxHeartbeats 800000 in
theorem bMul_ok (s : Bool) (ao : Option Addr) (ca : Nat) (xs : List Nat) (e : Int) (t : Bool) (bo : Option Addr) (cb : Nat) (ys : List Nat) (f : Int) (r : Bool) (co : Option Addr) (cc : Nat) (zs : List Nat) (g : Int) (u : Bool) (d' : Option Addr) (cd : Nat) (us : List Nat) (k : Int) (n : Int) (w : World)
    (ha : Rd w .u32 (.slice ao xs.length ca) xs) (hb : Rd w .u32 (.slice bo ys.length cb) ys) (hc : Rd w .u32 (.slice co zs.length cc) zs) (hd : Rd w .u32 (.slice d' us.length cd) us) (sa : Dg.Small 4294967296 xs) (sb : Dg.Small 4294967296 ys) (sc : Dg.Small 4294967296 zs) (sd : Dg.Small 4294967296 us) (hT : Tab w) :
    Calls Tryd.prog 12 #[.agg #[.bool s, .slice ao xs.length ca, .int .i64 e, .bool t, .slice bo ys.length cb, .int .i64 f], .agg #[.bool r, .slice co zs.length cc, .int .i64 g, .bool u, .slice d' us.length cd, .int .i64 k], .int .i64 n] w
      (BOwn w (if wrong2 n (bchk s xs e t ys f) (bchk r zs g u us k) = 0 then leastR (four timesT ⟨s, Dg.vl 4294967296 xs, e⟩ ⟨t, Dg.vl 4294967296 ys, f⟩ ⟨r, Dg.vl 4294967296 zs, g⟩ ⟨u, Dg.vl 4294967296 us, k⟩) 4 n else (⟨false, 0, 0⟩, ⟨false, 0, 0⟩, wrong2 n (bchk s xs e t ys f) (bchk r zs g u us k)))) := by
  refine bMulW_any s ao ca xs.length e t bo cb ys.length f r co cc zs.length g u d' cd us.length k n _ w (fun w1 b1 => ?_)
  have D : ∀ {S1 : Bool} {O1 : Option Addr} {C1 : Nat} {L1 : List Nat} {E1 : Int} {S2 : Bool} {O2 : Option Addr} {C2 : Nat} {L2 : List Nat} {E2 : Int}, Rd w .u32 (.slice O1 L1.length C1) L1 → Dg.Small 4294967296 L1 → dchk L1 E1 = 0 → Rd w .u32 (.slice O2 L2.length C2) L2 → Dg.Small 4294967296 L2 → dchk L2 E2 = 0 → ∀ w2, Below w1.heap.size w1 w2 →
      Calls Tryd.prog 43 #[.agg #[.bool S1, .slice O1 L1.length C1, .int .i64 E1], .agg #[.bool S2, .slice O2 L2.length C2, .int .i64 E2]] w2 (DRes w2 (timesT ⟨S1, Dg.vl 4294967296 L1, E1⟩ ⟨S2, Dg.vl 4294967296 L2, E2⟩)) := fun {S1 O1 C1 L1 E1 S2 O2 C2 L2 E2} r1 s1 c1 r2 s2 c2 w2 b2 => by
    obtain ⟨m1, m2, m3, m4, m5⟩ := num_ok c1 s1
    obtain ⟨o1, o2, o3, o4, o5⟩ := num_ok c2 s2
    exact dtimes_any _ _ ⟨S1, Dg.vl 4294967296 L1, E1⟩ ⟨S2, Dg.vl 4294967296 L2, E2⟩ w2 (dv_of (r1.later (below_trans b1 b2)) s1 m1) (dv_of (r2.later (below_trans b1 b2)) s2 o1) (by rw [m2]; omega) (by rw [o2]; omega) (by show -100000 ≤ E1; omega) (by show E1 ≤ 100000; omega) (by show -100000 ≤ E2; omega) (by show E2 ≤ 100000; omega)
  have P : wrong2 n (bchk s xs e t ys f) (bchk r zs g u us k) = 0 → (dchk xs e = 0 ∧ dchk ys f = 0) ∧ (dchk zs g = 0 ∧ dchk us k = 0) ∧ 1 ≤ n ∧ n ≤ 4096 ∧ ∀ j, (Dg.dg 4294967296 (four timesT ⟨s, Dg.vl 4294967296 xs, e⟩ ⟨t, Dg.vl 4294967296 ys, f⟩ ⟨r, Dg.vl 4294967296 zs, g⟩ ⟨u, Dg.vl 4294967296 us, k⟩ j).n).length ≤ 9000 ∧ -100000 ≤ (four timesT ⟨s, Dg.vl 4294967296 xs, e⟩ ⟨t, Dg.vl 4294967296 ys, f⟩ ⟨r, Dg.vl 4294967296 zs, g⟩ ⟨u, Dg.vl 4294967296 us, k⟩ j).e ∧ (four timesT ⟨s, Dg.vl 4294967296 xs, e⟩ ⟨t, Dg.vl 4294967296 ys, f⟩ ⟨r, Dg.vl 4294967296 zs, g⟩ ⟨u, Dg.vl 4294967296 us, k⟩ j).e ≤ 100000 := fun h0 => by
    obtain ⟨q1, q2, n1, n2⟩ := wrong2_zero h0
    obtain ⟨i1, i2, _⟩ := bchk_zero q1
    obtain ⟨d1, d2, _⟩ := bchk_zero q2
    obtain ⟨v1, v2, v3, v4, v5⟩ := num_ok i1 sa
    obtain ⟨u1, u2, u3, u4, u5⟩ := num_ok i2 sb
    obtain ⟨z1, z2, z3, z4, z5⟩ := num_ok d1 sc
    obtain ⟨y1, y2, y3, y4, y5⟩ := num_ok d2 sd
    refine ⟨⟨i1, i2⟩, ⟨d1, d2⟩, n1, n2, four_all timesT ⟨s, Dg.vl 4294967296 xs, e⟩ ⟨t, Dg.vl 4294967296 ys, f⟩ ⟨r, Dg.vl 4294967296 zs, g⟩ ⟨u, Dg.vl 4294967296 us, k⟩ (fun T => (Dg.dg 4294967296 T.n).length ≤ 9000 ∧ -100000 ≤ T.e ∧ T.e ≤ 100000) ?_ ?_ ?_ ?_⟩
    · exact times_fits (a := ⟨s, Dg.vl 4294967296 xs, e⟩) (b := ⟨r, Dg.vl 4294967296 zs, g⟩) (bits_of v2 v3) (bits_of z2 z3) v4 v5 z4 z5
    · exact times_fits (a := ⟨s, Dg.vl 4294967296 xs, e⟩) (b := ⟨u, Dg.vl 4294967296 us, k⟩) (bits_of v2 v3) (bits_of y2 y3) v4 v5 y4 y5
    · exact times_fits (a := ⟨t, Dg.vl 4294967296 ys, f⟩) (b := ⟨r, Dg.vl 4294967296 zs, g⟩) (bits_of u2 u3) (bits_of z2 z3) u4 u5 z4 z5
    · exact times_fits (a := ⟨t, Dg.vl 4294967296 ys, f⟩) (b := ⟨u, Dg.vl 4294967296 us, k⟩) (bits_of u2 u3) (bits_of y2 y3) u4 u5 y4 y5
  exact bboth0_any s ao ca xs.length e t bo cb ys.length f r co cc zs.length g u d' cd us.length k n 43 (wrong2 n (bchk s xs e t ys f) (bchk r zs g u us k)) (four timesT ⟨s, Dg.vl 4294967296 xs, e⟩ ⟨t, Dg.vl 4294967296 ys, f⟩ ⟨r, Dg.vl 4294967296 zs, g⟩ ⟨u, Dg.vl 4294967296 us, k⟩) (leastR (four timesT ⟨s, Dg.vl 4294967296 xs, e⟩ ⟨t, Dg.vl 4294967296 ys, f⟩ ⟨r, Dg.vl 4294967296 zs, g⟩ ⟨u, Dg.vl 4294967296 us, k⟩) 4 n) w1
    (fun args W => run_enter Tryd.func43 (by kernel_rfl) (c := _) rfl args W)
    (fun b w2 b2 h => bwrong2_ok n b s ao ca xs e t bo cb ys f r co cc zs g u d' cd us k w ha hb hc hd sa sb sc sd w2 (below_trans b1 b2) h)
    (fun h w2 b2 => D ha sa (P h).1.1 hc sc (P h).2.1.1 w2 b2) (fun h w2 b2 => D ha sa (P h).1.1 hd sd (P h).2.1.2 w2 b2) (fun h w2 b2 => D hb sb (P h).1.2 hc sc (P h).2.1.1 w2 b2) (fun h w2 b2 => D hb sb (P h).1.2 hd sd (P h).2.1.2 w2 b2)
    (fun h b aos cas w2 b2 hlt hcell => bleast_ok n b 4 _ aos cas w2 (by omega) (by omega) hlt hcell (P h).2.2.1 (P h).2.2.2.1 (fun j _ => ((P h).2.2.2.2 j).1) (fun j _ => ((P h).2.2.2.2 j).2.1) (fun j _ => ((P h).2.2.2.2 j).2.2) (hT.later (below_trans b1 b2)))
end Go.Proofs.YtmjhlflemfkflaaDoor
/-
  Balls: twoBalls.
-/
namespace Go.Proofs.YtmjhlflemfkflaaDoor
open Go.RowKit

end Go.Proofs.YtmjhlflemfkflaaDoor
/-
  Balls: the reference's SameBall; ballIs.
-/
namespace Go.Proofs.YtmjhlflemfkflaaDoor
open Go.RowKit

theorem Loc6.off6' {w : World} {b c : Nat} {v0 v1 v2 v3 v4 v5 : Value} (h : Loc6 w b v0 v1 v2 v3 v4 v5) (hne : c ≠ b) (x0 x1 x2 x3 x4 x5 : Value) :
    Loc6 ((((((w.setCell ⟨c, 0, none⟩ x0).setCell ⟨c, 1, none⟩ x1).setCell ⟨c, 2, none⟩ x2).setCell ⟨c, 3, none⟩ x3).setCell ⟨c, 4, none⟩ x4).setCell ⟨c, 5, none⟩ x5) b v0 v1 v2 v3 v4 v5 := by
  obtain ⟨hl, ⟨c0, c1, c2, c3, c4, c5⟩, f0, f1, f2, f3, f4, f5⟩ := h
  refine ⟨by simpa using hl, ⟨?_, ?_, ?_, ?_, ?_, ?_⟩, by simpa using f0, by simpa using f1, by simpa using f2, by simpa using f3, by simpa using f4, by simpa using f5⟩
  all_goals (rw [World.cell?_setCell_other (h := by simp), World.cell?_setCell_other (h := by simp), World.cell?_setCell_other (h := by simp), World.cell?_setCell_other (h := by simp), World.cell?_setCell_other (h := by simp), World.cell?_setCell_other (h := by simp)]; assumption)

end Go.Proofs.YtmjhlflemfkflaaDoor

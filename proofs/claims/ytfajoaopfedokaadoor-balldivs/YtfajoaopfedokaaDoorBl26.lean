/-
  Balls: the law BallMuls, of whatever it is handed.
-/
import Derived.Test.YtfajoaopfedokaaDoorBl25
import Derived.Test.YtfajoaopfedokaaDoorBi
namespace Go.Proofs.YtfajoaopfedokaaDoor
open Go.RowKit

/-- One of four. -/
def sel4 {α : Type} (a b c d : α) : Nat → α
  | 0 => a
  | 1 => b
  | 2 => c
  | _ => d

theorem dcmp_cmp {a b : Trip} (ha : ∃ y, a = bare y) (hb : ∃ y, b = bare y) : signT (bare (dplusT a (minusT b))) = cmpT a b := by
  obtain ⟨y, rfl⟩ := ha
  obtain ⟨z, rfl⟩ := hb
  rw [cmp_bare]
  exact sign_ref y z

theorem refEnds4_ok (x : Nat → Trip) (hx : ∀ j, ∃ y, x j = bare y) (hl : ∀ j, (Dg.dg 65536 (x j).n).length ≤ 30000) (h1 : ∀ j, -200000 ≤ (x j).e) (h2 : ∀ j, (x j).e ≤ 200000) (oA : Option Addr) (cpA : Nat) (oB : Option Addr) (cpB : Nat) (oC : Option Addr) (cpC : Nat) (oD : Option Addr) (cpD : Nat) (w : World)
    (rA : Rd w .i64 (.slice oA (Dg.dg 65536 (x 0).n).length cpA) (Dg.dg 65536 (x 0).n)) (rB : Rd w .i64 (.slice oB (Dg.dg 65536 (x 1).n).length cpB) (Dg.dg 65536 (x 1).n)) (rC : Rd w .i64 (.slice oC (Dg.dg 65536 (x 2).n).length cpC) (Dg.dg 65536 (x 2).n)) (rD : Rd w .i64 (.slice oD (Dg.dg 65536 (x 3).n).length cpD) (Dg.dg 65536 (x 3).n)) :
    Calls Tryd.prog 42 #[.slice (some ⟨w.heap.size, 0, none⟩) 4 4] (w.alloc (.cells #[.bool (x 0).s, .slice oA (Dg.dg 65536 (x 0).n).length cpA, .int .i64 (x 0).e, .bool (x 1).s, .slice oB (Dg.dg 65536 (x 1).n).length cpB, .int .i64 (x 1).e, .bool (x 2).s, .slice oC (Dg.dg 65536 (x 2).n).length cpC, .int .i64 (x 2).e, .bool (x 3).s, .slice oD (Dg.dg 65536 (x 3).n).length cpD, .int .i64 (x 3).e] 33)) (E2Res (w.alloc (.cells #[.bool (x 0).s, .slice oA (Dg.dg 65536 (x 0).n).length cpA, .int .i64 (x 0).e, .bool (x 1).s, .slice oB (Dg.dg 65536 (x 1).n).length cpB, .int .i64 (x 1).e, .bool (x 2).s, .slice oC (Dg.dg 65536 (x 2).n).length cpC, .int .i64 (x 2).e, .bool (x 3).s, .slice oD (Dg.dg 65536 (x 3).n).length cpD, .int .i64 (x 3).e] 33)) (loT x 3) (hiT x 3)) := by
  have ba := below_alloc w (.cells #[.bool (x 0).s, .slice oA (Dg.dg 65536 (x 0).n).length cpA, .int .i64 (x 0).e, .bool (x 1).s, .slice oB (Dg.dg 65536 (x 1).n).length cpB, .int .i64 (x 1).e, .bool (x 2).s, .slice oC (Dg.dg 65536 (x 2).n).length cpC, .int .i64 (x 2).e, .bool (x 3).s, .slice oD (Dg.dg 65536 (x 3).n).length cpD, .int .i64 (x 3).e] 33)
  have R : ∀ j, j < 4 → Rd w .i64 (.slice (sel4 oA oB oC oD j) (Dg.dg 65536 (x j).n).length (sel4 cpA cpB cpC cpD j)) (Dg.dg 65536 (x j).n) := fun j hj => match j, hj with
    | 0, _ => rA
    | 1, _ => rB
    | 2, _ => rC
    | 3, _ => rD
  have hlo := loI_le x 3
  have hhi := hiI_le x 3
  have key := refEnds_any w.heap.size 4 x (sel4 oA oB oC oD) (sel4 cpA cpB cpC cpD) (w.alloc (.cells #[.bool (x 0).s, .slice oA (Dg.dg 65536 (x 0).n).length cpA, .int .i64 (x 0).e, .bool (x 1).s, .slice oB (Dg.dg 65536 (x 1).n).length cpB, .int .i64 (x 1).e, .bool (x 2).s, .slice oC (Dg.dg 65536 (x 2).n).length cpC, .int .i64 (x 2).e, .bool (x 3).s, .slice oD (Dg.dg 65536 (x 3).n).length cpD, .int .i64 (x 3).e] 33)) (by omega) (by omega) (by simp [World.size_alloc])
    (fun j hj => match j, hj with
      | 0, _ => by rw [World.cell?_alloc_at _ _ _ _ rfl]; rfl
      | 1, _ => by rw [World.cell?_alloc_at _ _ _ _ rfl]; rfl
      | 2, _ => by rw [World.cell?_alloc_at _ _ _ _ rfl]; rfl
      | 3, _ => by rw [World.cell?_alloc_at _ _ _ _ rfl]; rfl)
    (fun j hj => match j, hj with
      | 0, _ => by rw [World.cell?_alloc_at _ _ _ _ rfl]; rfl
      | 1, _ => by rw [World.cell?_alloc_at _ _ _ _ rfl]; rfl
      | 2, _ => by rw [World.cell?_alloc_at _ _ _ _ rfl]; rfl
      | 3, _ => by rw [World.cell?_alloc_at _ _ _ _ rfl]; rfl)
    (fun j hj => match j, hj with
      | 0, _ => by rw [World.cell?_alloc_at _ _ _ _ rfl]; rfl
      | 1, _ => by rw [World.cell?_alloc_at _ _ _ _ rfl]; rfl
      | 2, _ => by rw [World.cell?_alloc_at _ _ _ _ rfl]; rfl
      | 3, _ => by rw [World.cell?_alloc_at _ _ _ _ rfl]; rfl)
    (fun j k w1 hj hk b1 => by
      have h3 := refdcmp_any _ _ (x j) (x k) w1 ⟨_, rfl, (R j hj).later (below_trans ba b1)⟩ ⟨_, rfl, (R k hk).later (below_trans ba b1)⟩ (hl j) (hl k) (h1 j) (h2 j) (h1 k) (h2 k)
      rw [dcmp_cmp (hx j) (hx k)] at h3
      exact h3)
  refine key.mono ?_
  rintro z w' ⟨rfl, b'⟩
  exact ⟨_, _, rfl, (R (loI x 3) (by omega)).later (below_trans ba b'), (R (hiI x 3) (by omega)).later (below_trans ba b'), b'⟩

/-- What a product's bare form needs. -/
theorem prod_fits {a b : Trip} (ha : bitLen a.n ≤ 38400) (hb : bitLen b.n ≤ 38400) (a1 : -20000 ≤ a.e) (a2 : a.e ≤ 20000) (b1 : -20000 ≤ b.e) (b2 : b.e ≤ 20000) :
    (Dg.dg 65536 (bare (timesT a b)).n).length ≤ 30000 ∧ -200000 ≤ (bare (timesT a b)).e ∧ (bare (timesT a b)).e ≤ 200000 ∧ ∀ n up, 1 ≤ n → (Dg.dg 65536 (dcutT (bare (timesT a b)) n up).n).length ≤ 100000 := by
  have h1 : a.n * b.n < 2 ^ bitLen a.n * 2 ^ bitLen b.n := Nat.mul_lt_mul'' (bitLen_spec a.n).1 (bitLen_spec b.n).1
  rw [← Nat.pow_add] at h1
  have f4 : (Dg.dg 4294967296 (timesT a b).n).length ≤ 2400 := pow_len32 h1 (by omega)
  have g1 := len16_of f4
  have ht := tz_fits _ 2400 f4
  have he : (timesT a b).e = a.e + b.e := rfl
  refine ⟨Nat.le_trans (dg_len_mono 65536 _ _ (by omega) (bare_n_le3 _)) (by omega), ?_, ?_, fun n up hn => ?_⟩
  · unfold bare
    split
    · show -200000 ≤ (0 : Int); omega
    · show -200000 ≤ (timesT a b).e + (tz (timesT a b).n : Int); omega
  · unfold bare
    split
    · show (0 : Int) ≤ 200000; omega
    · show (timesT a b).e + (tz (timesT a b).n : Int) ≤ 200000; omega
  · rw [← cut_bare _ _ _ hn]
    have h1 := cutT_len (b := n) (up := up) f4 (by omega)
    have h2 := len16_of h1
    exact Nat.le_trans (dg_len_mono 65536 _ _ (by omega) (bare_n_le3 _)) (by omega)

theorem prods_fit (A0 A1 B0 B1 : Trip) (ha : bitLen A0.n ≤ 38400) (hb : bitLen A1.n ≤ 38400) (hc : bitLen B0.n ≤ 38400) (hd : bitLen B1.n ≤ 38400) (a1 : -20000 ≤ A0.e) (a2 : A0.e ≤ 20000) (b1 : -20000 ≤ A1.e) (b2 : A1.e ≤ 20000) (c1 : -20000 ≤ B0.e) (c2 : B0.e ≤ 20000) (d1 : -20000 ≤ B1.e) (d2 : B1.e ≤ 20000) (j : Nat) :
    (Dg.dg 65536 (four (fun a b => bare (timesT a b)) (bare A0) (bare A1) (bare B0) (bare B1) j).n).length ≤ 30000 ∧ -200000 ≤ (four (fun a b => bare (timesT a b)) (bare A0) (bare A1) (bare B0) (bare B1) j).e ∧ (four (fun a b => bare (timesT a b)) (bare A0) (bare A1) (bare B0) (bare B1) j).e ≤ 200000 ∧ ∀ n up, 1 ≤ n → (Dg.dg 65536 (dcutT (four (fun a b => bare (timesT a b)) (bare A0) (bare A1) (bare B0) (bare B1) j) n up).n).length ≤ 100000 := by
  rw [← four_times]
  exact four_all timesT A0 A1 B0 B1 (fun T => (Dg.dg 65536 (bare T).n).length ≤ 30000 ∧ -200000 ≤ (bare T).e ∧ (bare T).e ≤ 200000 ∧ ∀ n up, 1 ≤ n → (Dg.dg 65536 (dcutT (bare T) n up).n).length ≤ 100000) (prod_fits ha hc a1 a2 c1 c2) (prod_fits ha hd a1 a2 d1 d2) (prod_fits hb hc b1 b2 c1 c2) (prod_fits hb hd b1 b2 d1 d2) j

set_option maxHeartbeats 800000 in
theorem bMuls_walk (s : Bool) (ao : Option Addr) (ca : Nat) (xs : List Nat) (e : Int) (t : Bool) (bo : Option Addr) (cb : Nat) (ys : List Nat) (f : Int) (r : Bool) (co : Option Addr) (cc : Nat) (zs : List Nat) (g : Int) (u : Bool) (d' : Option Addr) (cd : Nat) (us : List Nat) (k : Int) (n : Int) (w : World)
    (ha : Rd w .u32 (.slice ao xs.length ca) xs) (hb : Rd w .u32 (.slice bo ys.length cb) ys) (hc : Rd w .u32 (.slice co zs.length cc) zs) (hd : Rd w .u32 (.slice d' us.length cd) us) (sa : Dg.Small 4294967296 xs) (sb : Dg.Small 4294967296 ys) (sc : Dg.Small 4294967296 zs) (sd : Dg.Small 4294967296 us) (hT : Tab w) :
    Calls Tryd.prog 9 #[.agg #[.bool s, .slice ao xs.length ca, .int .i64 e, .bool t, .slice bo ys.length cb, .int .i64 f], .agg #[.bool r, .slice co zs.length cc, .int .i64 g, .bool u, .slice d' us.length cd, .int .i64 k], .int .i64 n] w fun z w' => z = .returned (.bool true) ∧ Below w.heap.size w w' := by
  have HA0 := fun w1 (b1 : Below w.heap.size w w1) => bMul_ok s ao ca xs e t bo cb ys f r co cc zs g u d' cd us k n w1 (ha.later b1) (hb.later b1) (hc.later b1) (hd.later b1) sa sb sc sd (hT.later b1)
  have OK : wrong2 n (bchk s xs e t ys f) (bchk r zs g u us k) = 0 → ((dchk xs e = 0 ∧ dchk ys f = 0) ∧ (dchk zs g = 0 ∧ dchk us k = 0)) ∧ 1 ≤ n ∧ n ≤ 4096 ∧ leastR (four timesT ⟨s, Dg.vl 4294967296 xs, e⟩ ⟨t, Dg.vl 4294967296 ys, f⟩ ⟨r, Dg.vl 4294967296 zs, g⟩ ⟨u, Dg.vl 4294967296 us, k⟩) 4 n = ballR (toT (dcutT (loT (four (fun a b => bare (timesT a b)) (bare ⟨s, Dg.vl 4294967296 xs, e⟩) (bare ⟨t, Dg.vl 4294967296 ys, f⟩) (bare ⟨r, Dg.vl 4294967296 zs, g⟩) (bare ⟨u, Dg.vl 4294967296 us, k⟩)) 3) n false)) (toT (dcutT (hiT (four (fun a b => bare (timesT a b)) (bare ⟨s, Dg.vl 4294967296 xs, e⟩) (bare ⟨t, Dg.vl 4294967296 ys, f⟩) (bare ⟨r, Dg.vl 4294967296 zs, g⟩) (bare ⟨u, Dg.vl 4294967296 us, k⟩)) 3) n true)) := fun h0 => by
    obtain ⟨q1, q2, n1, n2⟩ := wrong2_zero h0
    obtain ⟨i1, i2, _⟩ := bchk_zero q1
    obtain ⟨d1, d2, _⟩ := bchk_zero q2
    obtain ⟨e1, e2⟩ := muls_ends ⟨s, Dg.vl 4294967296 xs, e⟩ ⟨t, Dg.vl 4294967296 ys, f⟩ ⟨r, Dg.vl 4294967296 zs, g⟩ ⟨u, Dg.vl 4294967296 us, k⟩
    exact ⟨⟨⟨i1, i2⟩, ⟨d1, d2⟩⟩, n1, n2, least_toT e1 e2 n1⟩
  obtain ⟨c, hcE⟩ : ∃ c, wrong2 n (bchk s xs e t ys f) (bchk r zs g u us k) = c := ⟨_, rfl⟩
  have HW0 := fun w1 (b1 : Below w.heap.size w w1) => twoBalls_ok n s ao ca xs e t bo cb ys f r co cc zs g u d' cd us k w1 (ha.later b1) (hb.later b1) (hc.later b1) (hd.later b1) sa sb sc sd
  rw [hcE] at OK
  simp only [hcE] at HA0 HW0
  obtain ⟨⟨⟨rs, rn, re⟩, ⟨qs, qn, qe⟩, rc⟩, hR⟩ : ∃ R, (if c = 0 then leastR (four timesT ⟨s, Dg.vl 4294967296 xs, e⟩ ⟨t, Dg.vl 4294967296 ys, f⟩ ⟨r, Dg.vl 4294967296 zs, g⟩ ⟨u, Dg.vl 4294967296 us, k⟩) 4 n else (⟨false, 0, 0⟩, ⟨false, 0, 0⟩, c)) = R := ⟨_, rfl⟩
  simp only [hR] at HA0
  have hzero : rc ≠ 0 → rs = false ∧ rn = 0 ∧ re = 0 ∧ qs = false ∧ qn = 0 ∧ qe = 0 := fun hrc => by
    by_cases h : c = 0
    · rw [if_pos h] at hR
      obtain ⟨h1, h2⟩ := ballR_err hR hrc
      injection h1 with x1 x2 x3
      injection h2 with y1 y2 y3
      exact ⟨x1, x2, x3, y1, y2, y3⟩
    · rw [if_neg h] at hR
      simp only [Prod.mk.injEq, Trip.mk.injEq] at hR
      obtain ⟨⟨x1, x2, x3⟩, ⟨y1, y2, y3⟩, _⟩ := hR
      exact ⟨x1.symm, x2.symm, x3.symm, y1.symm, y2.symm, y3.symm⟩
  have hcc : c ≠ 0 → rc = c := fun h => by
    rw [if_neg h] at hR
    simp only [Prod.mk.injEq] at hR
    exact hR.2.2.symm
  have FI : c = 0 → ((Dg.dg 65536 (loT (four (fun a b => bare (timesT a b)) (bare ⟨s, Dg.vl 4294967296 xs, e⟩) (bare ⟨t, Dg.vl 4294967296 ys, f⟩) (bare ⟨r, Dg.vl 4294967296 zs, g⟩) (bare ⟨u, Dg.vl 4294967296 us, k⟩)) 3).n).length ≤ 30000 ∧ -200000 ≤ (loT (four (fun a b => bare (timesT a b)) (bare ⟨s, Dg.vl 4294967296 xs, e⟩) (bare ⟨t, Dg.vl 4294967296 ys, f⟩) (bare ⟨r, Dg.vl 4294967296 zs, g⟩) (bare ⟨u, Dg.vl 4294967296 us, k⟩)) 3).e ∧ (loT (four (fun a b => bare (timesT a b)) (bare ⟨s, Dg.vl 4294967296 xs, e⟩) (bare ⟨t, Dg.vl 4294967296 ys, f⟩) (bare ⟨r, Dg.vl 4294967296 zs, g⟩) (bare ⟨u, Dg.vl 4294967296 us, k⟩)) 3).e ≤ 200000 ∧ ∀ n up, 1 ≤ n → (Dg.dg 65536 (dcutT (loT (four (fun a b => bare (timesT a b)) (bare ⟨s, Dg.vl 4294967296 xs, e⟩) (bare ⟨t, Dg.vl 4294967296 ys, f⟩) (bare ⟨r, Dg.vl 4294967296 zs, g⟩) (bare ⟨u, Dg.vl 4294967296 us, k⟩)) 3) n up).n).length ≤ 100000) ∧ ((Dg.dg 65536 (hiT (four (fun a b => bare (timesT a b)) (bare ⟨s, Dg.vl 4294967296 xs, e⟩) (bare ⟨t, Dg.vl 4294967296 ys, f⟩) (bare ⟨r, Dg.vl 4294967296 zs, g⟩) (bare ⟨u, Dg.vl 4294967296 us, k⟩)) 3).n).length ≤ 30000 ∧ -200000 ≤ (hiT (four (fun a b => bare (timesT a b)) (bare ⟨s, Dg.vl 4294967296 xs, e⟩) (bare ⟨t, Dg.vl 4294967296 ys, f⟩) (bare ⟨r, Dg.vl 4294967296 zs, g⟩) (bare ⟨u, Dg.vl 4294967296 us, k⟩)) 3).e ∧ (hiT (four (fun a b => bare (timesT a b)) (bare ⟨s, Dg.vl 4294967296 xs, e⟩) (bare ⟨t, Dg.vl 4294967296 ys, f⟩) (bare ⟨r, Dg.vl 4294967296 zs, g⟩) (bare ⟨u, Dg.vl 4294967296 us, k⟩)) 3).e ≤ 200000 ∧ ∀ n up, 1 ≤ n → (Dg.dg 65536 (dcutT (hiT (four (fun a b => bare (timesT a b)) (bare ⟨s, Dg.vl 4294967296 xs, e⟩) (bare ⟨t, Dg.vl 4294967296 ys, f⟩) (bare ⟨r, Dg.vl 4294967296 zs, g⟩) (bare ⟨u, Dg.vl 4294967296 us, k⟩)) 3) n up).n).length ≤ 100000) := fun h0 => by
    obtain ⟨⟨⟨i1, i2⟩, ⟨d1, d2⟩⟩, n1, n2, _⟩ := OK h0
    obtain ⟨v1, v2, v3, v4, v5⟩ := num_ok i1 sa
    obtain ⟨u1, u2, u3, u4, u5⟩ := num_ok i2 sb
    obtain ⟨z1, z2, z3, z4, z5⟩ := num_ok d1 sc
    obtain ⟨y1, y2, y3, y4, y5⟩ := num_ok d2 sd
    have FA := prods_fit ⟨s, Dg.vl 4294967296 xs, e⟩ ⟨t, Dg.vl 4294967296 ys, f⟩ ⟨r, Dg.vl 4294967296 zs, g⟩ ⟨u, Dg.vl 4294967296 us, k⟩ (bits_of v2 v3) (bits_of u2 u3) (bits_of z2 z3) (bits_of y2 y3) v4 v5 u4 u5 z4 z5 y4 y5
    exact ⟨loT_all _ 3 (fun T => (Dg.dg 65536 T.n).length ≤ 30000 ∧ -200000 ≤ T.e ∧ T.e ≤ 200000 ∧ ∀ n up, 1 ≤ n → (Dg.dg 65536 (dcutT T n up).n).length ≤ 100000) (fun j _ => FA j), hiT_all _ 3 (fun T => (Dg.dg 65536 T.n).length ≤ 30000 ∧ -200000 ≤ T.e ∧ T.e ≤ 200000 ∧ ∀ n up, 1 ≤ n → (Dg.dg 65536 (dcutT T n up).n).length ≤ 100000) (fun j _ => FA j)⟩
  refine bMulsW_any s ao ca xs.length e t bo cb ys.length f r co cc zs.length g u d' cd us.length k n c rs rn re qs qn qe rc (bare ⟨s, Dg.vl 4294967296 xs, e⟩) (bare ⟨t, Dg.vl 4294967296 ys, f⟩) (bare ⟨r, Dg.vl 4294967296 zs, g⟩) (bare ⟨u, Dg.vl 4294967296 us, k⟩) (bare (timesT (bare ⟨s, Dg.vl 4294967296 xs, e⟩) (bare ⟨r, Dg.vl 4294967296 zs, g⟩))) (bare (timesT (bare ⟨s, Dg.vl 4294967296 xs, e⟩) (bare ⟨u, Dg.vl 4294967296 us, k⟩))) (bare (timesT (bare ⟨t, Dg.vl 4294967296 ys, f⟩) (bare ⟨r, Dg.vl 4294967296 zs, g⟩))) (bare (timesT (bare ⟨t, Dg.vl 4294967296 ys, f⟩) (bare ⟨u, Dg.vl 4294967296 us, k⟩))) (loT (four (fun a b => bare (timesT a b)) (bare ⟨s, Dg.vl 4294967296 xs, e⟩) (bare ⟨t, Dg.vl 4294967296 ys, f⟩) (bare ⟨r, Dg.vl 4294967296 zs, g⟩) (bare ⟨u, Dg.vl 4294967296 us, k⟩)) 3) (hiT (four (fun a b => bare (timesT a b)) (bare ⟨s, Dg.vl 4294967296 xs, e⟩) (bare ⟨t, Dg.vl 4294967296 ys, f⟩) (bare ⟨r, Dg.vl 4294967296 zs, g⟩) (bare ⟨u, Dg.vl 4294967296 us, k⟩)) 3) w HA0 HW0 (fun h0 w1 b1 => ?_) (fun h0 w1 b1 => ?_) (fun h0 v x w1 hv hx => ?_) (fun h0 v x w1 hv hx => ?_) (fun h0 v x w1 hv hx => ?_) (fun h0 v x w1 hv hx => ?_) (fun h0 oA cpA oB cpB oC cpC oD cpD w1 r0 r1 r2 r3 => ?_) (fun p q lo hi w1 b1 rp rq h1 h2 => ?_) (fun w1 b1 => bbegun_any w1 (hT.later b1))
  · obtain ⟨⟨⟨i1, i2⟩, _⟩, _⟩ := OK h0
    obtain ⟨v1, v2, v3, v4, v5⟩ := num_ok i1 sa
    obtain ⟨u1, u2, u3, u4, u5⟩ := num_ok i2 sb
    exact ofBall_any s ao ca xs.length e t bo cb ys.length f _ _ w1 (fun w2 b2 => ofDyad_any s ao ca xs e w2 (ha.later (below_trans b1 b2)) sa (by omega) (by omega) (by omega)) (fun w2 b2 => ofDyad_any t bo cb ys f w2 (hb.later (below_trans b1 b2)) sb (by omega) (by omega) (by omega))
  · obtain ⟨⟨_, ⟨d1, d2⟩⟩, _⟩ := OK h0
    obtain ⟨z1, z2, z3, z4, z5⟩ := num_ok d1 sc
    obtain ⟨y1, y2, y3, y4, y5⟩ := num_ok d2 sd
    exact ofBall_any r co cc zs.length g u d' cd us.length k _ _ w1 (fun w2 b2 => ofDyad_any r co cc zs g w2 (hc.later (below_trans b1 b2)) sc (by omega) (by omega) (by omega)) (fun w2 b2 => ofDyad_any u d' cd us k w2 (hd.later (below_trans b1 b2)) sd (by omega) (by omega) (by omega))
  · obtain ⟨⟨⟨i1, i2⟩, ⟨d1, d2⟩⟩, _⟩ := OK h0
    obtain ⟨v1, v2, v3, v4, v5⟩ := num_ok i1 sa
    obtain ⟨z1, z2, z3, z4, z5⟩ := num_ok d1 sc
    have e1 := bare_e_in (s := s) v2 v3 v4 v5
    have e2 := bare_e_in (s := r) z2 z3 z4 z5
    exact refdtimes_any v x _ _ w1 hv hx (len16_bare sa v3) (len16_bare sc z3) e1.1 e1.2 e2.1 e2.2
  · obtain ⟨⟨⟨i1, i2⟩, ⟨d1, d2⟩⟩, _⟩ := OK h0
    obtain ⟨v1, v2, v3, v4, v5⟩ := num_ok i1 sa
    obtain ⟨z1, z2, z3, z4, z5⟩ := num_ok d2 sd
    have e1 := bare_e_in (s := s) v2 v3 v4 v5
    have e2 := bare_e_in (s := u) z2 z3 z4 z5
    exact refdtimes_any v x _ _ w1 hv hx (len16_bare sa v3) (len16_bare sd z3) e1.1 e1.2 e2.1 e2.2
  · obtain ⟨⟨⟨i1, i2⟩, ⟨d1, d2⟩⟩, _⟩ := OK h0
    obtain ⟨v1, v2, v3, v4, v5⟩ := num_ok i2 sb
    obtain ⟨z1, z2, z3, z4, z5⟩ := num_ok d1 sc
    have e1 := bare_e_in (s := t) v2 v3 v4 v5
    have e2 := bare_e_in (s := r) z2 z3 z4 z5
    exact refdtimes_any v x _ _ w1 hv hx (len16_bare sb v3) (len16_bare sc z3) e1.1 e1.2 e2.1 e2.2
  · obtain ⟨⟨⟨i1, i2⟩, ⟨d1, d2⟩⟩, _⟩ := OK h0
    obtain ⟨v1, v2, v3, v4, v5⟩ := num_ok i2 sb
    obtain ⟨z1, z2, z3, z4, z5⟩ := num_ok d2 sd
    have e1 := bare_e_in (s := t) v2 v3 v4 v5
    have e2 := bare_e_in (s := u) z2 z3 z4 z5
    exact refdtimes_any v x _ _ w1 hv hx (len16_bare sb v3) (len16_bare sd z3) e1.1 e1.2 e2.1 e2.2
  · obtain ⟨⟨⟨i1, i2⟩, ⟨d1, d2⟩⟩, _⟩ := OK h0
    obtain ⟨v1, v2, v3, v4, v5⟩ := num_ok i1 sa
    obtain ⟨u1, u2, u3, u4, u5⟩ := num_ok i2 sb
    obtain ⟨z1, z2, z3, z4, z5⟩ := num_ok d1 sc
    obtain ⟨y1, y2, y3, y4, y5⟩ := num_ok d2 sd
    have FA := prods_fit ⟨s, Dg.vl 4294967296 xs, e⟩ ⟨t, Dg.vl 4294967296 ys, f⟩ ⟨r, Dg.vl 4294967296 zs, g⟩ ⟨u, Dg.vl 4294967296 us, k⟩ (bits_of v2 v3) (bits_of u2 u3) (bits_of z2 z3) (bits_of y2 y3) v4 v5 u4 u5 z4 z5 y4 y5
    exact refEnds4_ok (four (fun a b => bare (timesT a b)) (bare ⟨s, Dg.vl 4294967296 xs, e⟩) (bare ⟨t, Dg.vl 4294967296 ys, f⟩) (bare ⟨r, Dg.vl 4294967296 zs, g⟩) (bare ⟨u, Dg.vl 4294967296 us, k⟩)) (four_all _ _ _ _ _ (fun T => ∃ y, T = bare y) ⟨_, rfl⟩ ⟨_, rfl⟩ ⟨_, rfl⟩ ⟨_, rfl⟩) (fun j => (FA j).1) (fun j => (FA j).2.1) (fun j => (FA j).2.2.1) oA cpA oB cpB oC cpC oD cpD w1 r0 r1 r2 r3
  · obtain ⟨po, pc, hp⟩ := rp.shape
    subst hp
    obtain ⟨qo, qc, hq⟩ := rq.shape
    subst hq
    by_cases h0 : c = 0
    · obtain ⟨_, n1, n2, hE⟩ := OK h0
      obtain ⟨⟨F1, F2, F3, F4⟩, ⟨G1, G2, G3, G4⟩⟩ := FI h0
      rw [if_pos h0, hE] at hR
      obtain ⟨rlo, rhi⟩ := h1 h0
      obtain ⟨L, hL⟩ : ∃ L, (loT (four (fun a b => bare (timesT a b)) (bare ⟨s, Dg.vl 4294967296 xs, e⟩) (bare ⟨t, Dg.vl 4294967296 ys, f⟩) (bare ⟨r, Dg.vl 4294967296 zs, g⟩) (bare ⟨u, Dg.vl 4294967296 us, k⟩)) 3) = L := ⟨_, rfl⟩
      obtain ⟨H, hH⟩ : ∃ H, (hiT (four (fun a b => bare (timesT a b)) (bare ⟨s, Dg.vl 4294967296 xs, e⟩) (bare ⟨t, Dg.vl 4294967296 ys, f⟩) (bare ⟨r, Dg.vl 4294967296 zs, g⟩) (bare ⟨u, Dg.vl 4294967296 us, k⟩)) 3) = H := ⟨_, rfl⟩
      rw [hL] at rlo F1 F2 F3 F4 hR
      rw [hH] at rhi G1 G2 G3 G4 hR
      obtain ⟨sl, rfl, rl⟩ := rlo
      obtain ⟨lo, lp, hl⟩ := rl.shape
      subst hl
      obtain ⟨sh, rfl, rh⟩ := rhi
      obtain ⟨ho, hp, hh⟩ := rh.shape
      subst hh
      refine ballIsW_any rs rn re qs qn qe rc po pc qo qc c n L.s lo _ lp L.e H.s ho _ hp H.e w1 rp rq (fun _ w2 b2 => ?_) hzero hcc
      rw [← hR]
      exact toBall_any L.s lo lp _ L.e H.s ho hp _ H.e n (dcutT L n false) (dcutT H n true) _ _ w2 (fun w3 b3 => refdcut_any _ L n false w3 ⟨_, rfl, rl.later (below_trans b2 b3)⟩ F1 F2 F3 n1 n2) (fun w3 b3 => refdcut_any _ H n true w3 ⟨_, rfl, rh.later (below_trans b2 b3)⟩ G1 G2 G3 n1 n2) (fun v w3 hv => toDyad_any v _ w3 hv (F4 n false n1)) (fun v w3 hv => toDyad_any v _ w3 hv (G4 n true n1))
    · obtain ⟨rfl, rfl⟩ := h2 h0
      exact ballIsW_any rs rn re qs qn qe rc po pc qo qc c n false none 0 0 0 false none 0 0 0 w1 rp rq (fun h => absurd h h0) hzero hcc
end Go.Proofs.YtfajoaopfedokaaDoor

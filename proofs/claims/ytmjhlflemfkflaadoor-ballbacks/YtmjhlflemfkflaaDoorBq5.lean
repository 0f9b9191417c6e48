/-
  Balls: the law BallBacks, of whatever it is handed.
-/
import Derived.Test.YtmjhlflemfkflaaDoorBq4
import Derived.Test.YtmjhlflemfkflaaDoorBq6
import Derived.Test.YtmjhlflemfkflaaDoorBg
namespace Go.Proofs.YtmjhlflemfkflaaDoor
open Go.RowKit

theorem hasV_of {c d g1 g2 : Int} (h1 : c = 0) (h2 : d = 0) (h3 : hasB g1 g2 = true) : hasV c d g1 g2 = true ∧ hasC c d = 0 := by
  subst h1
  subst h2
  unfold hasV hasC
  rw [if_pos rfl, if_pos rfl, if_pos rfl]
  exact ⟨h3, rfl⟩

set_option maxHeartbeats 1600000 in
theorem bBacks_walk (s : Bool) (ao : Option Addr) (ca : Nat) (xs : List Nat) (e : Int) (t : Bool) (bo : Option Addr) (cb : Nat) (ys : List Nat) (f : Int) (r : Bool) (co : Option Addr) (cc : Nat) (zs : List Nat) (g : Int) (u : Bool) (d' : Option Addr) (cd : Nat) (us : List Nat) (k : Int) (n : Int) (w : World)
    (ha : Rd w .u32 (.slice ao xs.length ca) xs) (hb : Rd w .u32 (.slice bo ys.length cb) ys) (hc : Rd w .u32 (.slice co zs.length cc) zs) (hd : Rd w .u32 (.slice d' us.length cd) us) (sa : Dg.Small 4294967296 xs) (sb : Dg.Small 4294967296 ys) (sc : Dg.Small 4294967296 zs) (sd : Dg.Small 4294967296 us) (hT : Tab w) :
    Calls Tryd.prog 3 #[.agg #[.bool s, .slice ao xs.length ca, .int .i64 e, .bool t, .slice bo ys.length cb, .int .i64 f], .agg #[.bool r, .slice co zs.length cc, .int .i64 g, .bool u, .slice d' us.length cd, .int .i64 k], .int .i64 n] w fun z w' => z = .returned (.bool true) ∧ Below w.heap.size w w' := by
  have HD0 := fun w1 (b1 : Below w.heap.size w w1) => bdiv_ok s ao ca xs e t bo cb ys f r co cc zs g u d' cd us k n w1 (ha.later b1) (hb.later b1) (hc.later b1) (hd.later b1) sa sb sc sd (hT.later b1)
  have HR0 := fun w1 (b1 : Below w.heap.size w w1) => bSqrt_ok s ao ca xs e t bo cb ys f n w1 (ha.later b1) (hb.later b1) sa sb (hT.later b1)
  obtain ⟨A0, hA0⟩ : ∃ A, (⟨s, Dg.vl 4294967296 xs, e⟩ : Trip) = A := ⟨_, rfl⟩
  obtain ⟨A1, hA1⟩ : ∃ A, (⟨t, Dg.vl 4294967296 ys, f⟩ : Trip) = A := ⟨_, rfl⟩
  obtain ⟨B0, hB0⟩ : ∃ A, (⟨r, Dg.vl 4294967296 zs, g⟩ : Trip) = A := ⟨_, rfl⟩
  obtain ⟨B1, hB1⟩ : ∃ A, (⟨u, Dg.vl 4294967296 us, k⟩ : Trip) = A := ⟨_, rfl⟩
  have OKA : bchk s xs e t ys f = 0 → dchk xs e = 0 ∧ dchk ys f = 0 ∧ cmpT A0 A1 ≤ 0 := fun h => by
    rw [← hA0, ← hA1]
    exact bchk_zero h
  have OKB : bchk r zs g u us k = 0 → cmpT B0 B1 ≤ 0 := fun h => by
    rw [← hB0, ← hB1]
    exact (bchk_zero h).2.2
  simp only [hA0, hA1, hB0, hB1] at HD0 HR0
  obtain ⟨⟨⟨q0s, q0n, q0e⟩, ⟨q1s, q1n, q1e⟩, qc⟩, hQ⟩ : ∃ R, (if wrong2 n (bchk s xs e t ys f) (bchk r zs g u us k) = 0 then (if hasB (cmpT B0 zeroT) (cmpT B1 zeroT) = true then ((⟨false, 0, 0⟩, ⟨false, 0, 0⟩, 5) : Trip × Trip × Int) else leastR (four (fun a b => overT a b n.toNat) A0 A1 B0 B1) 4 n) else (⟨false, 0, 0⟩, ⟨false, 0, 0⟩, wrong2 n (bchk s xs e t ys f) (bchk r zs g u us k))) = R := ⟨_, rfl⟩
  simp only [hQ] at HD0
  have QOK : qc = 0 → (bchk s xs e t ys f = 0 ∧ 1 ≤ n ∧ ((n.toNat : Nat) : Int) = n ∧ 0 < B0.n) ∧ leastR (four (fun a b => overT a b n.toNat) A0 A1 B0 B1) 4 n = (⟨q0s, q0n, q0e⟩, ⟨q1s, q1n, q1e⟩, 0) := fun h => by
    subst h
    by_cases h1 : wrong2 n (bchk s xs e t ys f) (bchk r zs g u us k) = 0
    · rw [if_pos h1] at hQ
      obtain ⟨x1, x2, x3, x4⟩ := wrong2_zero h1
      cases h2 : hasB (cmpT B0 zeroT) (cmpT B1 zeroT)
      · rw [h2] at hQ
        simp only [Bool.false_eq_true, if_false] at hQ
        exact ⟨⟨x1, x3, by omega, (has_false h2 (OKB x2)).1⟩, hQ⟩
      · rw [h2, if_pos rfl] at hQ
        simp at hQ
    · rw [if_neg h1] at hQ
      simp only [Prod.mk.injEq] at hQ
      exact absurd hQ.2.2 h1
  obtain ⟨⟨⟨p0s, p0n, p0e⟩, ⟨p1s, p1n, p1e⟩, pc⟩, hP⟩ : ∃ R, (if wrong2 n (bchk q0s (Dg.dg 4294967296 q0n) q0e q1s (Dg.dg 4294967296 q1n) q1e) (bchk r zs g u us k) = 0 then leastR (four timesT ⟨q0s, q0n, q0e⟩ ⟨q1s, q1n, q1e⟩ B0 B1) 4 n else ((⟨false, 0, 0⟩, ⟨false, 0, 0⟩, wrong2 n (bchk q0s (Dg.dg 4294967296 q0n) q0e q1s (Dg.dg 4294967296 q1n) q1e) (bchk r zs g u us k)) : Trip × Trip × Int)) = R := ⟨_, rfl⟩
  have POK : pc = 0 → leastR (four timesT ⟨q0s, q0n, q0e⟩ ⟨q1s, q1n, q1e⟩ B0 B1) 4 n = (⟨p0s, p0n, p0e⟩, ⟨p1s, p1n, p1e⟩, 0) := fun h => by
    subst h
    split at hP
    · exact hP
    · rename_i h1
      simp only [Prod.mk.injEq] at hP
      exact absurd hP.2.2 h1
  obtain ⟨⟨⟨x0s, x0n, x0e⟩, ⟨x1s, x1n, x1e⟩, xc⟩, hX⟩ : ∃ R, sqrtR (wrong1 n (bchk s xs e t ys f)) (cmpT A0 zeroT) (leastR (twoT (rootT A0 n.toNat) (rootT A1 n.toNat)) 2 n) = R := ⟨_, rfl⟩
  simp only [hX] at HR0
  have XOK : xc = 0 → (bchk s xs e t ys f = 0 ∧ 1 ≤ n ∧ ((n.toNat : Nat) : Int) = n ∧ 0 ≤ cmpT A0 zeroT) ∧ leastR (twoT (rootT A0 n.toNat) (rootT A1 n.toNat)) 2 n = (⟨x0s, x0n, x0e⟩, ⟨x1s, x1n, x1e⟩, 0) := fun h => by
    subst h
    unfold sqrtR at hX
    by_cases h1 : wrong1 n (bchk s xs e t ys f) = 0
    · rw [if_pos h1] at hX
      obtain ⟨x1, x3, x4⟩ := wrong1_zero h1
      by_cases h2 : cmpT A0 zeroT < 0
      · rw [if_pos h2] at hX
        simp at hX
      · rw [if_neg h2] at hX
        exact ⟨⟨x1, x3, by omega, by omega⟩, hX⟩
    · rw [if_neg h1] at hX
      simp only [Prod.mk.injEq] at hX
      exact absurd hX.2.2 h1
  obtain ⟨⟨⟨y0s, y0n, y0e⟩, ⟨y1s, y1n, y1e⟩, yc⟩, hY⟩ : ∃ R, (if wrong2 n (bchk x0s (Dg.dg 4294967296 x0n) x0e x1s (Dg.dg 4294967296 x1n) x1e) (bchk x0s (Dg.dg 4294967296 x0n) x0e x1s (Dg.dg 4294967296 x1n) x1e) = 0 then leastR (four timesT ⟨x0s, x0n, x0e⟩ ⟨x1s, x1n, x1e⟩ ⟨x0s, x0n, x0e⟩ ⟨x1s, x1n, x1e⟩) 4 n else ((⟨false, 0, 0⟩, ⟨false, 0, 0⟩, wrong2 n (bchk x0s (Dg.dg 4294967296 x0n) x0e x1s (Dg.dg 4294967296 x1n) x1e) (bchk x0s (Dg.dg 4294967296 x0n) x0e x1s (Dg.dg 4294967296 x1n) x1e)) : Trip × Trip × Int)) = R := ⟨_, rfl⟩
  have YOK : yc = 0 → leastR (four timesT ⟨x0s, x0n, x0e⟩ ⟨x1s, x1n, x1e⟩ ⟨x0s, x0n, x0e⟩ ⟨x1s, x1n, x1e⟩) 4 n = (⟨y0s, y0n, y0e⟩, ⟨y1s, y1n, y1e⟩, 0) := fun h => by
    subst h
    split at hY
    · exact hY
    · rename_i h1
      simp only [Prod.mk.injEq] at hY
      exact absurd hY.2.2 h1
  have HAS : ∀ {a0s : Bool} {a0n : Nat} {a0e : Int} {a1s : Bool} {a1n : Nat} {a1e : Int} {S1 : Bool} {O1 : Option Addr} {C1 : Nat} {L1 : List Nat} {E1 : Int}, Rd w .u32 (.slice O1 L1.length C1) L1 → Dg.Small 4294967296 L1 → ∀ p q w1, Below w.heap.size w w1 → Rd w1 .u32 p (Dg.dg 4294967296 a0n) → Rd w1 .u32 q (Dg.dg 4294967296 a1n) →
      Calls Tryd.prog 13 #[.agg #[.bool a0s, p, .int .i64 a0e, .bool a1s, q, .int .i64 a1e], .agg #[.bool S1, .slice O1 L1.length C1, .int .i64 E1]] w1 fun z w' => z = .returned (.tuple #[.bool (hasV (bchk a0s (Dg.dg 4294967296 a0n) a0e a1s (Dg.dg 4294967296 a1n) a1e) (dchk L1 E1) (cmpT ⟨a0s, a0n, a0e⟩ ⟨S1, Dg.vl 4294967296 L1, E1⟩) (cmpT ⟨a1s, a1n, a1e⟩ ⟨S1, Dg.vl 4294967296 L1, E1⟩)), .int .i64 (hasC (bchk a0s (Dg.dg 4294967296 a0n) a0e a1s (Dg.dg 4294967296 a1n) a1e) (dchk L1 E1))]) ∧ Below w1.heap.size w1 w' := fun {a0s a0n a0e a1s a1n a1e S1 O1 C1 L1 E1} h1 s1 p q w1 b1 rp rq => by
    obtain ⟨po, pk, rfl⟩ := rp.shape
    obtain ⟨qo, qk, rfl⟩ := rq.shape
    have h := bHas_any a0s po pk _ a0e a1s qo qk _ a1e S1 O1 C1 L1 E1 w1 rp rq (h1.later b1) (Dg.small_dg _ _ (by omega)) (Dg.small_dg _ _ (by omega)) s1
    rwa [Dg.vl_dg _ _ (by omega), Dg.vl_dg _ _ (by omega)] at h
  have HAL := fun (a0s : Bool) (a0n : Nat) (a0e : Int) (a1s : Bool) (a1n : Nat) (a1e : Int) => @HAS a0s a0n a0e a1s a1n a1e s ao ca xs e ha sa
  have HAH := fun (a0s : Bool) (a0n : Nat) (a0e : Int) (a1s : Bool) (a1n : Nat) (a1e : Int) => @HAS a0s a0n a0e a1s a1n a1e t bo cb ys f hb sb
  rw [hA0] at HAL
  rw [hA1] at HAH
  clear HAS
  refine bBacksW_any s ao ca xs.length e t bo cb ys.length f r co cc zs.length g u d' cd us.length k n q0s q0n q0e q1s q1n q1e qc p0s p0n p0e p1s p1n p1e pc x0s x0n x0e x1s x1n x1e xc y0s y0n y0e y1s y1n y1e yc _ _ _ _ _ _ _ _ w (fun w1 b1 => bbegun_any w1 (hT.later b1)) HD0 (fun _ p q w1 b1 rp rq => ?_) (fun _ => HAL p0s p0n p0e p1s p1n p1e) (fun h1 h2 => ?_) (fun _ => HAH p0s p0n p0e p1s p1n p1e) (fun h1 h2 => ?_) HR0 (fun _ p q w1 b1 rp rq => ?_) (fun _ => HAL y0s y0n y0e y1s y1n y1e) (fun h1 h2 => ?_) (fun _ => HAH y0s y0n y0e y1s y1n y1e) (fun h1 h2 => ?_)
  · obtain ⟨po, pk, rfl⟩ := rp.shape
    obtain ⟨qo, qk, rfl⟩ := rq.shape
    have h := bMul_ok q0s po pk _ q0e q1s qo qk _ q1e r co cc zs g u d' cd us k n w1 rp rq (hc.later b1) (hd.later b1) (Dg.small_dg _ _ (by omega)) (Dg.small_dg _ _ (by omega)) sc sd (hT.later b1)
    rw [Dg.vl_dg _ _ (by omega), Dg.vl_dg _ _ (by omega), hB0, hB1, hP] at h
    exact h
  · obtain ⟨⟨i1, n1, hn, hp⟩, hl⟩ := QOK h1
    have hm := POK h2
    rw [← hn] at hl hm
    rw [Int.toNat_natCast] at hl
    obtain ⟨j1, j2⟩ := divs_back (B := n.toNat) (by omega) hp hl hm (.inl rfl)
    exact hasV_of j1 (OKA i1).1 j2
  · obtain ⟨⟨i1, n1, hn, hp⟩, hl⟩ := QOK h1
    have hm := POK h2
    rw [← hn] at hl hm
    rw [Int.toNat_natCast] at hl
    obtain ⟨j1, j2⟩ := divs_back (B := n.toNat) (by omega) hp hl hm (.inr rfl)
    exact hasV_of j1 (OKA i1).2.1 j2
  · obtain ⟨po, pk, rfl⟩ := rp.shape
    obtain ⟨qo, qk, rfl⟩ := rq.shape
    have h := bMul_ok x0s po pk _ x0e x1s qo qk _ x1e x0s po pk _ x0e x1s qo qk _ x1e n w1 rp rq rp rq (Dg.small_dg _ _ (by omega)) (Dg.small_dg _ _ (by omega)) (Dg.small_dg _ _ (by omega)) (Dg.small_dg _ _ (by omega)) (hT.later b1)
    rw [Dg.vl_dg _ _ (by omega), Dg.vl_dg _ _ (by omega), hY] at h
    exact h
  · obtain ⟨⟨i1, n1, hn, hs⟩, hl⟩ := XOK h1
    have hm := YOK h2
    rw [← hn] at hl hm
    rw [Int.toNat_natCast] at hl
    obtain ⟨j1, j2⟩ := roots_back (B := n.toNat) (by omega) hs (OKA i1).2.2 hl hm (.inl rfl)
    exact hasV_of j1 (OKA i1).1 j2
  · obtain ⟨⟨i1, n1, hn, hs⟩, hl⟩ := XOK h1
    have hm := YOK h2
    rw [← hn] at hl hm
    rw [Int.toNat_natCast] at hl
    obtain ⟨j1, j2⟩ := roots_back (B := n.toNat) (by omega) hs (OKA i1).2.2 hl hm (.inr rfl)
    exact hasV_of j1 (OKA i1).2.1 j2
end Go.Proofs.YtmjhlflemfkflaaDoor

/-
  Balls: the law BallSqrts, of whatever it is handed.
-/
import Derived.Test.YtmjhlflemfkflaaGreatDoorBq6
import Derived.Test.YtmjhlflemfkflaaGreatDoorBq2
import Derived.Test.YtmjhlflemfkflaaGreatDoorBh
import Derived.Test.YtmjhlflemfkflaaGreatDoorBb
import Derived.Test.YtmjhlflemfkflaaGreatDoorBo
namespace Go.Proofs.YtmjhlflemfkflaaGreatDoor
open Go.RowKit

theorem dRoot_fits (t : Trip) (B : Nat) (up : Bool) (h : bitLen t.n ≤ 38400) (hB1 : 1 ≤ B) (hB : B ≤ 4096) (h1 : -20000 ≤ t.e) (h2 : t.e ≤ 20000) :
    (Dg.dg 65536 (dRootT (bare t) B up).n).length ≤ 30000 ∧ -200000 ≤ (dRootT (bare t) B up).e ∧ (dRootT (bare t) B up).e ≤ 200000 := by
  rw [droot_cut t B up hB1]
  obtain ⟨_, a2, _, a4, a5⟩ := root_fits h hB h1 h2
  have h4 := cut_lt (rootT t B) B up (by omega)
  have h5 := cut_bare_e (A := rootT t B) (b := B) (up := up) (lo := -200000) (hi := 200000) (by omega) (by omega) (by omega) (by omega) (by omega)
  exact ⟨Nat.le_trans (pow_len16 h4 (L := 256) (by omega)) (by omega), h5.1, h5.2⟩

theorem wrong_same (n c : Int) : wrong2 n c c = wrong1 n c := by
  unfold wrong2 wrong1
  split <;> simp_all

set_option maxHeartbeats 800000 in
theorem bSqrts_walk (s : Bool) (ao : Option Addr) (ca : Nat) (xs : List Nat) (e : Int) (t : Bool) (bo : Option Addr) (cb : Nat) (ys : List Nat) (f : Int) (n : Int) (w : World)
    (ha : Rd w .u32 (.slice ao xs.length ca) xs) (hb : Rd w .u32 (.slice bo ys.length cb) ys) (sa : Dg.Small 4294967296 xs) (sb : Dg.Small 4294967296 ys) (hT : Tab w) :
    Calls Tryz.prog 3 #[.agg #[.bool s, .slice ao xs.length ca, .int .i64 e, .bool t, .slice bo ys.length cb, .int .i64 f], .int .i64 n] w fun z w' => z = .returned (.bool true) ∧ Below w.heap.size w w' := by
  have HA0 := fun w1 (b1 : Below w.heap.size w w1) => bSqrt_ok s ao ca xs e t bo cb ys f n w1 (ha.later b1) (hb.later b1) sa sb (hT.later b1)
  have HW0 := fun w1 (b1 : Below w.heap.size w w1) => twoBalls_ok n s ao ca xs e t bo cb ys f s ao ca xs e t bo cb ys f w1 (ha.later b1) (hb.later b1) (ha.later b1) (hb.later b1) sa sb sa sb
  simp only [wrong_same] at HW0
  have OK : wrong1 n (bchk s xs e t ys f) = 0 → dchk xs e = 0 ∧ dchk ys f = 0 ∧ 1 ≤ n ∧ n ≤ 4096 ∧ ((n.toNat : Nat) : Int) = n ∧ cmpT ⟨s, Dg.vl 4294967296 xs, e⟩ ⟨t, Dg.vl 4294967296 ys, f⟩ ≤ 0 := fun h0 => by
    obtain ⟨q1, n1, n2⟩ := wrong1_zero h0
    obtain ⟨i1, i2, i3⟩ := bchk_zero q1
    exact ⟨i1, i2, n1, n2, by omega, i3⟩
  obtain ⟨c, hcE⟩ : ∃ c, wrong1 n (bchk s xs e t ys f) = c := ⟨_, rfl⟩
  rw [hcE] at OK
  simp only [hcE] at HA0 HW0
  obtain ⟨g, hg⟩ : ∃ v, cmpT ⟨s, Dg.vl 4294967296 xs, e⟩ zeroT = v := ⟨_, rfl⟩
  simp only [hg] at HA0
  obtain ⟨d, hdE⟩ : ∃ d, belowR c g = d := ⟨_, rfl⟩
  have D0 : d = 0 → c = 0 ∧ 0 ≤ g := fun h => by
    rw [← hdE] at h
    unfold belowR at h
    by_cases h1 : c = 0
    · rw [if_pos h1] at h
      refine ⟨h1, ?_⟩
      by_cases h2 : g < 0
      · rw [if_pos h2] at h
        omega
      · omega
    · rw [if_neg h1] at h
      exact absurd h h1
  obtain ⟨A0, hA0⟩ : ∃ A, (⟨s, Dg.vl 4294967296 xs, e⟩ : Trip) = A := ⟨_, rfl⟩
  obtain ⟨A1, hA1⟩ : ∃ A, (⟨t, Dg.vl 4294967296 ys, f⟩ : Trip) = A := ⟨_, rfl⟩
  simp only [hA0, hA1] at HA0 OK hg
  obtain ⟨⟨⟨rs, rn, re⟩, ⟨qs, qn, qe⟩, rc⟩, hR⟩ : ∃ R, (if d = 0 then leastR (twoT (rootT A0 n.toNat) (rootT A1 n.toNat)) 2 n else (⟨false, 0, 0⟩, ⟨false, 0, 0⟩, d)) = R := ⟨_, rfl⟩
  have hR2 : sqrtR c g (leastR (twoT (rootT A0 n.toNat) (rootT A1 n.toNat)) 2 n) = ((⟨rs, rn, re⟩, ⟨qs, qn, qe⟩, rc) : Trip × Trip × Int) := by
    rw [← hR, ← hdE]
    unfold belowR sqrtR
    by_cases h1 : c = 0
    · rw [if_pos h1, if_pos h1]
      by_cases h2 : g < 0
      · rw [if_pos h2, if_pos h2, if_neg (by omega)]
      · rw [if_neg h2, if_neg h2, if_pos rfl]
    · rw [if_neg h1, if_neg h1, if_neg h1]
  simp only [hR2] at HA0
  have hzero : rc ≠ 0 → rs = false ∧ rn = 0 ∧ re = 0 ∧ qs = false ∧ qn = 0 ∧ qe = 0 := fun hrc => by
    by_cases h : d = 0
    · rw [if_pos h] at hR
      obtain ⟨h1, h2⟩ := ballR_err hR hrc
      injection h1 with x1 x2 x3
      injection h2 with y1 y2 y3
      exact ⟨x1, x2, x3, y1, y2, y3⟩
    · rw [if_neg h] at hR
      simp only [Prod.mk.injEq, Trip.mk.injEq] at hR
      obtain ⟨⟨x1, x2, x3⟩, ⟨y1, y2, y3⟩, _⟩ := hR
      exact ⟨x1.symm, x2.symm, x3.symm, y1.symm, y2.symm, y3.symm⟩
  have hcc : d ≠ 0 → rc = d := fun h => by
    rw [if_neg h] at hR
    simp only [Prod.mk.injEq] at hR
    exact hR.2.2.symm
  have FIT : c = 0 → (bitLen A0.n ≤ 38400 ∧ -20000 ≤ A0.e ∧ A0.e ≤ 20000) ∧ bitLen A1.n ≤ 38400 ∧ -20000 ≤ A1.e ∧ A1.e ≤ 20000 := fun h0 => by
    obtain ⟨i1, i2, _⟩ := OK h0
    obtain ⟨v1, v2, v3, v4, v5⟩ := num_ok i1 sa
    obtain ⟨u1, u2, u3, u4, u5⟩ := num_ok i2 sb
    rw [← hA0, ← hA1]
    exact ⟨⟨bits_of v2 v3, v4, v5⟩, bits_of u2 u3, u4, u5⟩
  have ENDS : d = 0 → dRootT (bare A0) n.toNat false = bare (cutT (loT (twoT (rootT A0 n.toNat) (rootT A1 n.toNat)) 1) n false) ∧ dRootT (bare A1) n.toNat true = bare (cutT (hiT (twoT (rootT A0 n.toNat) (rootT A1 n.toNat)) 1) n true) := fun h0 => by
    obtain ⟨h1, h2⟩ := D0 h0
    obtain ⟨_, _, n1, n2, hn, hle⟩ := OK h1
    have h := root_ends A0 A1 n.toNat (by omega) (by rw [hg]; exact h2) hle
    rw [hn] at h
    exact h
  have BF : c = 0 → ∀ {S1 : Bool} {L1 : List Nat} {G1 : Int}, Dg.Small 4294967296 L1 → dchk L1 G1 = 0 → (Dg.dg 65536 (bare ⟨S1, Dg.vl 4294967296 L1, G1⟩).n).length ≤ 2400 ∧ -20000 ≤ (bare ⟨S1, Dg.vl 4294967296 L1, G1⟩).e ∧ (bare ⟨S1, Dg.vl 4294967296 L1, G1⟩).e ≤ 58400 := fun _ {S1 L1 G1} s1 e1 => by
    obtain ⟨v1, v2, v3, v4, v5⟩ := num_ok e1 s1
    exact bare_fits (t := ⟨S1, Dg.vl 4294967296 L1, G1⟩) (by show (Dg.dg 4294967296 (Dg.vl 4294967296 L1)).length ≤ 1200; rw [v2]; exact v3) v4 v5
  refine bSqrtsW_any s ao ca xs.length e t bo cb ys.length f n c g d rs rn re qs qn qe rc (bare A0) (bare A1) (dRootT (bare A0) n.toNat false) (dRootT (bare A1) n.toNat true) w hdE HA0 HW0 (fun h0 w1 b1 => ?_) (fun h0 v w1 hv => ?_) (fun h0 v w1 hv => ?_) (fun h0 v w1 hv => ?_) (fun p q lo hi w1 b1 rp rq h1 h2 => ?_) (fun w1 b1 => bbegun_any w1 (hT.later b1))
  · obtain ⟨i1, i2, _⟩ := OK h0
    rw [← hA0, ← hA1]
    obtain ⟨v1, v2, v3, v4, v5⟩ := num_ok i1 sa
    obtain ⟨u1, u2, u3, u4, u5⟩ := num_ok i2 sb
    exact ofBall_any s ao ca xs.length e t bo cb ys.length f _ _ w1 (fun w2 b2 => ofDyad_any s ao ca xs e w2 (ha.later (below_trans b1 b2)) sa (by omega) (by omega) (by omega)) (fun w2 b2 => ofDyad_any t bo cb ys f w2 (hb.later (below_trans b1 b2)) sb (by omega) (by omega) (by omega))
  · obtain ⟨i1, _⟩ := OK h0
    obtain ⟨v1, v2, v3, v4, v5⟩ := num_ok i1 sa
    rw [← hA0] at hv hg
    have x := bare_e_in (s := s) v2 v3 v4 v5
    rw [← hg]
    exact refdsign_any v _ w1 hv (len16_bare sa v3) x.1 x.2
  · obtain ⟨hc0, _⟩ := D0 h0
    obtain ⟨i1, _, n1, n2, hn, _⟩ := OK hc0
    rw [← hA0] at hv ⊢
    obtain ⟨p1, p2, p3⟩ := BF hc0 (S1 := s) sa i1
    have h := refdroot_any v _ n.toNat false w1 hv p1 p2 p3 (by omega) (by omega)
    rw [hn] at h
    exact h
  · obtain ⟨hc0, _⟩ := D0 h0
    obtain ⟨_, i2, n1, n2, hn, _⟩ := OK hc0
    rw [← hA1] at hv ⊢
    obtain ⟨p1, p2, p3⟩ := BF hc0 (S1 := t) sb i2
    have h := refdroot_any v _ n.toNat true w1 hv p1 p2 p3 (by omega) (by omega)
    rw [hn] at h
    exact h
  · obtain ⟨po, pc, hp⟩ := rp.shape
    subst hp
    obtain ⟨qo, qc, hq⟩ := rq.shape
    subst hq
    by_cases h0 : d = 0
    · obtain ⟨hc0, _⟩ := D0 h0
      obtain ⟨_, _, n1, n2, hn, _⟩ := OK hc0
      obtain ⟨⟨x1, x2, x3⟩, y1, y2, y3⟩ := FIT hc0
      obtain ⟨EL, EH⟩ := ENDS h0
      have F := dRoot_fits A0 n.toNat false x1 (by omega) (by omega) x2 x3
      have G := dRoot_fits A1 n.toNat true y1 (by omega) (by omega) y2 y3
      rw [if_pos h0, least_toT2 (m := 2) (L := dRootT (bare A0) n.toNat false) (H := dRootT (bare A1) n.toNat true) EL EH n1] at hR
      obtain ⟨rlo, rhi⟩ := h1 h0
      have DL : dcutT (dRootT (bare A0) n.toNat false) n false = dRootT (bare A0) n.toNat false := by rw [EL]; exact dcut_again _ _ _ _ n1
      have DH : dcutT (dRootT (bare A1) n.toNat true) n true = dRootT (bare A1) n.toNat true := by rw [EH]; exact dcut_again _ _ _ _ n1
      obtain ⟨L, hL⟩ : ∃ L, dRootT (bare A0) n.toNat false = L := ⟨_, rfl⟩
      obtain ⟨H, hH⟩ : ∃ H, dRootT (bare A1) n.toNat true = H := ⟨_, rfl⟩
      rw [hL] at rlo F hR DL
      rw [hH] at rhi G hR DH
      obtain ⟨F1, F2, F3⟩ := F
      obtain ⟨G1, G2, G3⟩ := G
      obtain ⟨sl, rfl, rl⟩ := rlo
      obtain ⟨lo, lp, hl⟩ := rl.shape
      subst hl
      obtain ⟨sh, rfl, rh⟩ := rhi
      obtain ⟨ho, hp, hh⟩ := rh.shape
      subst hh
      refine ballIsW_any rs rn re qs qn qe rc po pc qo qc d n L.s lo _ lp L.e H.s ho _ hp H.e w1 rp rq (fun _ w2 b2 => ?_) hzero hcc
      rw [← hR]
      exact toBall_any L.s lo lp _ L.e H.s ho hp _ H.e n (dcutT L n false) (dcutT H n true) _ _ w2 (fun w3 b3 => refdcut_any _ L n false w3 ⟨_, rfl, rl.later (below_trans b2 b3)⟩ F1 F2 F3 n1 n2) (fun w3 b3 => refdcut_any _ H n true w3 ⟨_, rfl, rh.later (below_trans b2 b3)⟩ G1 G2 G3 n1 n2) (fun v w3 hv => toDyad_any v _ w3 hv (by rw [DL]; omega)) (fun v w3 hv => toDyad_any v _ w3 hv (by rw [DH]; omega))
    · obtain ⟨rfl, rfl⟩ := h2 h0
      exact ballIsW_any rs rn re qs qn qe rc po pc qo qc d n false none 0 0 0 false none 0 0 0 w1 rp rq (fun h => absurd h h0) hzero hcc
end Go.Proofs.YtmjhlflemfkflaaGreatDoor

/-
  Texts laid together: Gs2, Gs3, Gs4, Gb1, Gb2, Gb3.
-/
import Derived.Test.YtiiphandhpilgaaGreatDoorNb41
import Derived.Test.YtiiphandhpilgaaGreatDoorNb40
set_option maxRecDepth 100000
namespace Go.Proofs.YtiiphandhpilgaaGreatDoor
open Go.RowKit
def farD (R D : Int) (gr : Bool) (d : Nat) : Nat := if d = 0 ∧ gr = false then 2 ^ (widthN R * (D - 1).toNat) else carD R D (d + 1)
def farK (R D L : Int) (gr : Bool) (d : Nat) (p : Int) : Int := if d = 0 ∧ gr = false then L else carP R D (d + 1) p
def nearD (R D L : Int) (gr : Bool) (d : Nat) (p : Int) : Nat := if d = 2 ^ (widthN R * (D - 1).toNat) then (if L < p then 2 ^ (widthN R * D.toNat) - 1 else if gr = true then d - 1 else 0) else d - 1
def nearK (R D L : Int) (d : Nat) (p : Int) : Int := if d = 2 ^ (widthN R * (D - 1).toNat) then (if L < p then p - 1 else L) else p
theorem cmp_zero (a b : Nat) : cmpI (a : Int) (b : Int) = 0 ↔ a = b := by
 unfold cmpI
 split
 ·omega
 ·split <;> omega
theorem farther_any (R D L G : Int) (gr : Bool) (ao : Option Addr) (ca d : Nat) (p : Int) (w : World) (h1 : 1 ≤ D) (h2 : D ≤ 120) (hr : Rd w .u32 (.slice ao (Dg.dg 4294967296 d).length ca) (Dg.dg 4294967296 d)) (hl : (Dg.dg 4294967296 d).length ≤ 1000) (p1 : -1000000 ≤ p) (p2 : p ≤ 1000000) :
  Calls Tryz.prog 71 #[.agg #[.int .i64 R, .int .i64 D, .int .i64 L, .int .i64 G, .bool gr], .agg #[.slice ao (Dg.dg 4294967296 d).length ca, .int .i64 p]] w (SpotRes w (farD R D gr d) (farK R D L gr d p)) := by
 have hz := len_is_zero d
 refine fartherW R D L G gr ao _ ca p d (2 ^ (widthN R * (D - 1).toNat)) (carD R D (d + 1)) (carP R D (d + 1) p) (decide (d = 0 ∧ gr = false)) (farD R D gr d) (farK R D L gr d p) w ?_ ?_ ?_ ?_ ?_ ?_ ?_ ?_
 ·intro h
  have := of_decide_eq_true h
  exact ⟨by rw [hz]; exact decide_eq_true this.1, this.2⟩
 ·intro h
  have := of_decide_eq_false h
  by_cases h0 : d = 0
  ·refine .inr ⟨by rw [hz]; exact decide_eq_true h0, ?_⟩
   cases gr
   ·exact absurd ⟨h0, rfl⟩ this
   ·rfl
  ·exact .inl (by rw [hz]; exact decide_eq_false h0)
 ·intro h
  have := of_decide_eq_true h
  exact ⟨(if_pos this).symm, (if_pos this).symm⟩
 ·intro h
  have := of_decide_eq_false h
  exact ⟨if_neg this, if_neg this⟩
 ·intro w1 b
  exact hr.later b
 ·intro w1
  exact gfirst_any R D L G gr w1 h1 h2
 ·intro v u w1 r1 r2
  have := plus_any v u _ _ w1 r1 r2 (Dg.small_dg _ _ (by omega)) (Dg.small_cons.2 ⟨by omega, Dg.small_nil _ (by omega)⟩) (by omega) (by simp)
  rwa [Dg.vl_dg _ _ (by omega), show Dg.vl 4294967296 [1] = 1 from rfl] at this
 ·intro v base w1 ho hb
  exact gcarried_any R D L G gr v _ _ base w1 ho hb h1 h2 p1 p2
theorem minus_one {v u : Value} {n : Nat} {w : World} (h0 : n ≠ 0) (hl : (Dg.dg 4294967296 n).length ≤ 1000) (r1 : Rd w .u32 v (Dg.dg 4294967296 n)) (r2 : Rd w .u32 u [1]) : Calls Tryz.prog 103 #[v, u] w (Num w (n - 1)) := by
 have hne : 1 ≤ (Dg.dg 4294967296 n).length := by
  rcases Nat.eq_zero_or_pos (Dg.dg 4294967296 n).length with h | h
  ·exact absurd ((Dg.dg_nil_iff 4294967296 n (by omega)).1 (List.length_eq_zero_iff.1 h)) h0
  ·exact h
 have := minus_any v u _ _ w r1 r2 (Dg.small_dg _ _ (by omega)) (Dg.small_cons.2 ⟨by omega, Dg.small_nil _ (by omega)⟩) (by omega) (by simpa using hne) (by rw [Dg.vl_dg _ _ (by omega), show Dg.vl 4294967296 [1] = 1 from rfl]; omega)
 rwa [Dg.vl_dg _ _ (by omega), show Dg.vl 4294967296 [1] = 1 from rfl] at this
theorem pow_len32 {k L : Nat} (h : k < 32 * L) : (Dg.dg 4294967296 (2 ^ k)).length ≤ L := by
 refine Dg.dg_len_le 4294967296 _ _ (by omega) ?_
 rw [show (4294967296 : Nat) = 2 ^ 32 from by decide, ← Nat.pow_mul]
 exact Nat.pow_lt_pow_right (by omega) h
theorem nearer_any (R D L G : Int) (gr : Bool) (ao : Option Addr) (ca d : Nat) (p : Int) (w : World) (h1 : 1 ≤ D) (h2 : D ≤ 120) (hr : Rd w .u32 (.slice ao (Dg.dg 4294967296 d).length ca) (Dg.dg 4294967296 d)) (hl : (Dg.dg 4294967296 d).length ≤ 1000) (h0 : d ≠ 0) (p1 : -1000000 ≤ p) (p2 : p ≤ 1000000) :
  Calls Tryz.prog 70 #[.agg #[.int .i64 R, .int .i64 D, .int .i64 L, .int .i64 G, .bool gr], .agg #[.slice ao (Dg.dg 4294967296 d).length ca, .int .i64 p]] w (SpotRes w (nearD R D L gr d p) (nearK R D L d p)) := by
 have hw := Nat.mul_le_mul (widthN_le R).2 (show D.toNat ≤ 120 by omega)
 have hel : (Dg.dg 4294967296 (2 ^ (widthN R * D.toNat))).length ≤ 1000 := pow_len32 (by omega)
 refine nearerW R D L G gr ao _ ca p (cmpI (d : Int) ((2 ^ (widthN R * (D - 1).toNat) : Nat) : Int)) d (2 ^ (widthN R * (D - 1).toNat)) (2 ^ (widthN R * D.toNat)) (nearD R D L gr d p) (nearK R D L d p) w ?_ ?_ ?_ ?_ ?_ ?_ ?_ ?_ ?_ ?_ ?_
 ·intro h
  exact IntWalk.i64_in _ ⟨by omega, by omega⟩
 ·intro h
  have : ¬d = 2 ^ (widthN R * (D - 1).toNat) := fun c => h ((cmp_zero _ _).2 c)
  exact ⟨(if_neg this).symm, (if_neg this).symm⟩
 ·intro h h3
  have := (cmp_zero _ _).1 h
  exact ⟨((if_pos this).trans (if_pos h3)).symm, ((if_pos this).trans (if_pos h3)).symm⟩
 ·intro h h3 h4
  have := (cmp_zero _ _).1 h
  exact ⟨((if_pos this).trans ((if_neg h3).trans (if_pos h4))).symm, ((if_pos this).trans (if_neg h3)).symm⟩
 ·intro h h3 h4
  have := (cmp_zero _ _).1 h
  exact ⟨((if_pos this).trans ((if_neg h3).trans (if_neg (by rw [h4]; decide)))).symm, ((if_pos this).trans (if_neg h3)).symm⟩
 ·intro w1 b
  exact hr.later b
 ·intro w1
  exact gfirst_any R D L G gr w1 h1 h2
 ·intro w1
  exact gend_any R D L G gr w1 h1 h2
 ·intro v u w1 r1 r2
  have := compare_any v u _ _ w1 r1 r2 (Dg.small_dg _ _ (by omega)) (Dg.small_dg _ _ (by omega)) (Dg.norm_dg _ _ (by omega)) (Dg.norm_dg _ _ (by omega))
  rwa [Dg.vl_dg _ _ (by omega), Dg.vl_dg _ _ (by omega)] at this
 ·intro v u w1 r1 r2
  exact minus_one h0 hl r1 r2
 ·intro v u w1 r1 r2
  exact minus_one (Nat.ne_of_gt (two_pos _)) hel r1 r2
end Go.Proofs.YtiiphandhpilgaaGreatDoor
namespace Go.Proofs.YtiiphandhpilgaaGreatDoor
open Go.RowKit
def SpotS (w : World) (sb d : Nat) (k : Int) (wx : World) : Prop :=
 ∃ so sc, LocE wx sb 136 [.slice so (Dg.dg 4294967296 d).length sc, .int .i64 k] ∧ Own wx w.heap.size 79 .u32 (.slice so (Dg.dg 4294967296 d).length sc) (Dg.dg 4294967296 d)
set_option maxHeartbeats 6400000 in
theorem stepW (R D L G : Int) (gr s up : Bool) (ao : Option Addr) (la ca : Nat) (e c wd : Int) (hd ng : Bool) (fd : Nat) (fk : Int) (d2 : Nat) (k2 : Int) (rs : Bool) (rn : Nat) (re rc : Int) (w : World)
  (HA : ¬c = 0 → rs = false ∧ rn = 0 ∧ re = 0 ∧ rc = c) (HB : c = 0 → hd = false → rs = false ∧ rn = 0 ∧ re = 0 ∧ rc = 4) (HC : c = 0 → hd = true → G < k2 → rs = false ∧ rn = 0 ∧ re = 0 ∧ rc = 5)
  (HG1 : ((la : Int) == 0) = true → ng = !up) (HG2 : ((la : Int) == 0) = false → ng = s)
  (HFI : ∀ w1, Below w.heap.size w w1 → Calls Tryz.prog 69 #[.agg #[.bool s, .slice ao la ca, .int .i64 e], .agg #[.int .i64 R, .int .i64 D, .int .i64 L, .int .i64 G, .bool gr]] w1 (FindAns w1 hd fd fk c))
  (HNE : c = 0 → hd = true → ng = up → ∀ v u w1, Rd w1 .u32 (.slice v (Dg.dg 4294967296 fd).length u) (Dg.dg 4294967296 fd) → Calls Tryz.prog 70 #[.agg #[.int .i64 R, .int .i64 D, .int .i64 L, .int .i64 G, .bool gr], .agg #[.slice v (Dg.dg 4294967296 fd).length u, .int .i64 fk]] w1 (SpotRes w1 d2 k2))
  (HFA : c = 0 → hd = true → ¬ng = up → ∀ v u w1, Rd w1 .u32 (.slice v (Dg.dg 4294967296 fd).length u) (Dg.dg 4294967296 fd) → Calls Tryz.prog 71 #[.agg #[.int .i64 R, .int .i64 D, .int .i64 L, .int .i64 G, .bool gr], .agg #[.slice v (Dg.dg 4294967296 fd).length u, .int .i64 fk]] w1 (SpotRes w1 d2 k2))
  (HNU : c = 0 → hd = true → ¬G < k2 → ∀ v u w1, Calls Tryz.prog 72 #[.agg #[.int .i64 R, .int .i64 D, .int .i64 L, .int .i64 G, .bool gr], .bool ng, .agg #[.slice v (Dg.dg 4294967296 d2).length u, .int .i64 k2]] w1 fun z w' => z = .returned (.agg #[.bool ng, .slice v (Dg.dg 4294967296 d2).length u, .int .i64 (wd * k2)]) ∧ Below w1.heap.size w1 w')
  (HSH : c = 0 → hd = true → ¬G < k2 → ∀ v u w1, Below w.heap.size w w1 → Rd w1 .u32 (.slice v (Dg.dg 4294967296 d2).length u) (Dg.dg 4294967296 d2) → Calls Tryz.prog 73 #[.agg #[.bool ng, .slice v (Dg.dg 4294967296 d2).length u, .int .i64 (wd * k2)]] w1 (DAns w1 (⟨rs, rn, re⟩, rc))) :
  Calls Tryz.prog 40 #[.agg #[.bool s, .slice ao la ca, .int .i64 e], .agg #[.int .i64 R, .int .i64 D, .int .i64 L, .int .i64 G, .bool gr], .bool up] w (DAns w (⟨rs, rn, re⟩, rc)) := by
 replace HA : Hid _ := HA
 replace HB : Hid _ := HB
 replace HC : Hid _ := HC
 replace HG1 : Hid _ := HG1
 replace HG2 : Hid _ := HG2
 replace HFI : Hid _ := HFI
 replace HNE : Hid _ := HNE
 replace HFA : Hid _ := HFA
 replace HNU : Hid _ := HNU
 replace HSH : Hid _ := HSH
 have b1 := below_trans (below_trans (below_alloc w (.cells #[.bool s, .slice ao la ca, .int .i64 e] 87)) (below_alloc _ (.cells #[.int .i64 R, .int .i64 D, .int .i64 L, .int .i64 G, .bool gr] 42))) (below_alloc _ (.cells #[.bool false, .slice none 0 0, .int .i64 0] 87))
 have q1 := ((locE_new w [.bool s, .slice ao la ca, .int .i64 e] 87).later (below_alloc _ (.cells #[.int .i64 R, .int .i64 D, .int .i64 L, .int .i64 G, .bool gr] 42))).later (below_alloc _ (.cells #[.bool false, .slice none 0 0, .int .i64 0] 87))
 have g1 := (locE_new (w.alloc (.cells #[.bool s, .slice ao la ca, .int .i64 e] 87)) [.int .i64 R, .int .i64 D, .int .i64 L, .int .i64 G, .bool gr] 42).later (below_alloc _ (.cells #[.bool false, .slice none 0 0, .int .i64 0] 87))
 have c1 := locE_new ((w.alloc (.cells #[.bool s, .slice ao la ca, .int .i64 e] 87)).alloc (.cells #[.int .i64 R, .int .i64 D, .int .i64 L, .int .i64 G, .bool gr] 42)) [.bool false, .slice none 0 0, .int .i64 0] 87
 simp only [World.size_alloc] at g1 c1
 by_cases hc : c = 0
 ·have HB1 : Hid _ := HB.out hc
  have HC1 : Hid _ := HC.out hc
  have HN1 : Hid _ := HNE.out hc
  have HF1 : Hid _ := HFA.out hc
  have HU1 : Hid _ := HNU.out hc
  have HS1 : Hid _ := HSH.out hc
  clear HA HB HC HNE HFA HNU HSH
  subst hc
  cases hd
  ·obtain ⟨h1, h2, h3, h4⟩ := HB1.out rfl
   clear HB1 HC1 HN1 HF1 HU1 HS1
   subst h1 h2 h3 h4
   obtain ⟨x0, x1, x2⟩ := q1.cs3
   obtain ⟨y0, y1, y2, y3, y4⟩ := g1.cs5
   go_enter Tryz.func40, Tryz.ntmps40
   go_wp2_with fail
   refine (HFI.out _ b1).mono ?_
   rintro z w2 ⟨v2, rfl, o2, bb2⟩
   obtain ⟨so, sc, hx2⟩ := o2.rd.shape
   subst hx2
   have r2 := o2.rd
   clear o2 x0 x1 x2 y0 y1 y2 y3 y4
   have q_2 := q1.later bb2
   have g_2 := g1.later bb2
   have c_2 := c1.later bb2
   have b0_2 := below_trans b1 bb2
   clear q1 g1 c1 b1 bb2
   have ap := below_alloc w2 (.cells #[.slice so (Dg.dg 4294967296 fd).length sc, .int .i64 fk] 136)
   have p2 := locE_new w2 [.slice so (Dg.dg 4294967296 fd).length sc, .int .i64 fk] 136
   have hSb : w.heap.size + 1 + 1 < w2.heap.size := c_2.lt
   have q_3 := q_2.later ap
   have g_3 := g_2.later ap
   have c_3 := c_2.later ap
   have r_3 := r2.later ap
   have b0_3 := below_trans b0_2 ap
   clear q_2 g_2 c_2 r2 b0_2 ap
   go_upto_region 2 with fail
   generalize w2.alloc (.cells #[.slice so (Dg.dg 4294967296 fd).length sc, .int .i64 fk] 136) = W2 at q_3 g_3 c_3 r_3 p2 b0_3 ⊢
   generalize w2.heap.size = SB at p2 hSb ⊢
   have d0 := c_3.cell 0 rfl
   have f0 := c_3.free 0
   have d1 := c_3.cell 1 rfl
   have f1 := c_3.free 1
   have d2 := c_3.cell 2 rfl
   have f2 := c_3.free 2
   go_wp2
   have bu : But (w.heap.size + 1 + 1) W2 (((W2.setCell ⟨w.heap.size + 1 + 1, 0, none⟩ (.bool false)).setCell ⟨w.heap.size + 1 + 1, 1, none⟩ (.slice none 0 0)).setCell ⟨w.heap.size + 1 + 1, 2, none⟩ (.int .i64 0)) := ((but_set W2 (w.heap.size + 1 + 1) 0 (.bool false)).trans (but_set _ (w.heap.size + 1 + 1) 1 (.slice none 0 0))).trans (but_set _ (w.heap.size + 1 + 1) 2 (.int .i64 0))
   have cX : LocE (((W2.setCell ⟨w.heap.size + 1 + 1, 0, none⟩ (.bool false)).setCell ⟨w.heap.size + 1 + 1, 1, none⟩ (.slice none 0 0)).setCell ⟨w.heap.size + 1 + 1, 2, none⟩ (.int .i64 0)) (w.heap.size + 1 + 1) 87 [.bool false, .slice none 0 0, .int .i64 0] := ((c_3.set 0 (.bool false)).set 1 (.slice none 0 0)).set 2 (.int .i64 0)
   have bX := bu.below b0_3 (show w.heap.size ≤ w.heap.size + 1 + 1 by omega)
   obtain ⟨s0, s1, s2⟩ := cX.cs3
   refine bodyPost_ret (v := .tuple #[.agg #[.bool false, .slice none 0 0, .int .i64 0], .int .i64 4]) (by simp [results, Tryz.results40, go_sem, s0, s1, s2]) rfl ?_
   exact ⟨_, rfl, own_nil _ _ _ _, bX⟩
  ·have HC2 : Hid _ := HC1.out rfl
   have HN2 : Hid _ := HN1.out rfl
   have HF2 : Hid _ := HF1.out rfl
   have HU2 : Hid _ := HU1.out rfl
   have HS2 : Hid _ := HS1.out rfl
   clear HB1 HC1 HN1 HF1 HU1 HS1
   obtain ⟨x0, x1, x2⟩ := q1.cs3
   obtain ⟨y0, y1, y2, y3, y4⟩ := g1.cs5
   go_enter Tryz.func40, Tryz.ntmps40
   go_wp2_with fail
   refine (HFI.out _ b1).mono ?_
   rintro z w2 ⟨v2, rfl, o2, bb2⟩
   obtain ⟨so, sc, hx2⟩ := o2.rd.shape
   subst hx2
   have r2 := o2.rd
   clear o2 x0 x1 x2 y0 y1 y2 y3 y4
   have q_2 := q1.later bb2
   have g_2 := g1.later bb2
   have c_2 := c1.later bb2
   have b0_2 := below_trans b1 bb2
   clear q1 g1 c1 b1 bb2
   have ap := below_alloc w2 (.cells #[.slice so (Dg.dg 4294967296 fd).length sc, .int .i64 fk] 136)
   have p2 := locE_new w2 [.slice so (Dg.dg 4294967296 fd).length sc, .int .i64 fk] 136
   have hSb : w.heap.size + 1 + 1 < w2.heap.size := c_2.lt
   have q_3 := q_2.later ap
   have g_3 := g_2.later ap
   have c_3 := c_2.later ap
   have r_3 := r2.later ap
   have b0_3 := below_trans b0_2 ap
   clear q_2 g_2 c_2 r2 b0_2 ap
   go_upto_region 2 with fail
   generalize w2.alloc (.cells #[.slice so (Dg.dg 4294967296 fd).length sc, .int .i64 fk] 136) = W2 at q_3 g_3 c_3 r_3 p2 b0_3 ⊢
   generalize w2.heap.size = SB at p2 hSb ⊢
   obtain ⟨x0, x1⟩ := q_3.cs2
   go_upto_if 31 with fail
   go_cut [11] (fun s11 wx => s11 = .bool ng ∧ wx = W2)
   case first =>
    by_cases hl : ((la : Int) == 0) = true
    ·have hg := HG1.out hl
     cases up
     ·go_wp2_with fail
      go_meet
      exact ⟨by rw [hg]; rfl, rfl⟩
     ·go_wp2_with fail
      go_meet
      exact ⟨by rw [hg]; rfl, rfl⟩
    ·have hl2 : ((la : Int) == 0) = false := by simpa using hl
     have hg := HG2.out hl2
     clear hl
     go_wp2_with fail
     go_meet
     exact ⟨by rw [hg], rfl⟩
   case rest =>
    obtain ⟨rfl, hw11⟩ := hcut
    subst hw11
    clear x0 x1 HG1 HG2
    have nS1 : w.heap.size + 1 ≠ SB := by omega
    have nS2 : w.heap.size + 1 + 1 ≠ SB := by omega
    have nSl : w.heap.size ≤ SB := by omega
    go_upto_if 36 with fail
    go_cut [11] (fun s11 wx => s11 = .bool ng ∧ SpotS w SB d2 k2 wx ∧ LocE wx (w.heap.size + 1) 42 [.int .i64 R, .int .i64 D, .int .i64 L, .int .i64 G, .bool gr] ∧ LocE wx (w.heap.size + 1 + 1) 87 [.bool false, .slice none 0 0, .int .i64 0] ∧ Below w.heap.size w wx)
    case first =>
     by_cases hnu : ng = up
     ·have HX : Hid _ := HN2.out hnu
      clear HN2 HF2
      subst hnu
      cases ng
      ·skip
       obtain ⟨y0, y1, y2, y3, y4⟩ := g_3.cs5
       obtain ⟨x0, x1⟩ := p2.cs2
       go_wp2_with fail
       refine (HX.out _ _ _ r_3).mono ?_
       rintro z w5 ⟨v5, rfl, o5, bb5⟩
       have oL := o5.lower b0_3.size
       obtain ⟨to1, tc1, hv5⟩ := oL.rd.shape
       subst hv5
       clear o5 y0 y1 y2 y3 y4 x0 x1
       have q_4 := q_3.later bb5
       have g_4 := g_3.later bb5
       have c_4 := c_3.later bb5
       have p_4 := p2.later bb5
       have b0_4 := below_trans b0_3 bb5
       clear q_3 g_3 c_3 p2 b0_3 bb5
       have z0 := p_4.cell 0 rfl
       have f0 := p_4.free 0
       have z1 := p_4.cell 1 rfl
       have f1 := p_4.free 1
       go_wp2_with fail
       go_meet
       have bu := (but_set w5 SB 0 (.slice to1 (Dg.dg 4294967296 d2).length tc1)).trans (but_set _ SB 1 (.int .i64 k2))
       exact ⟨rfl, ⟨to1, tc1, (p_4.set 0 _).set 1 _, bu.own oL p_4 (by decide)⟩, bu.loc g_4 nS1, bu.loc c_4 nS2, bu.below b0_4 nSl⟩
      ·skip
       obtain ⟨y0, y1, y2, y3, y4⟩ := g_3.cs5
       obtain ⟨x0, x1⟩ := p2.cs2
       go_wp2_with fail
       refine (HX.out _ _ _ r_3).mono ?_
       rintro z w5 ⟨v5, rfl, o5, bb5⟩
       have oL := o5.lower b0_3.size
       obtain ⟨to1, tc1, hv5⟩ := oL.rd.shape
       subst hv5
       clear o5 y0 y1 y2 y3 y4 x0 x1
       have q_4 := q_3.later bb5
       have g_4 := g_3.later bb5
       have c_4 := c_3.later bb5
       have p_4 := p2.later bb5
       have b0_4 := below_trans b0_3 bb5
       clear q_3 g_3 c_3 p2 b0_3 bb5
       have z0 := p_4.cell 0 rfl
       have f0 := p_4.free 0
       have z1 := p_4.cell 1 rfl
       have f1 := p_4.free 1
       go_wp2_with fail
       go_meet
       have bu := (but_set w5 SB 0 (.slice to1 (Dg.dg 4294967296 d2).length tc1)).trans (but_set _ SB 1 (.int .i64 k2))
       exact ⟨rfl, ⟨to1, tc1, (p_4.set 0 _).set 1 _, bu.own oL p_4 (by decide)⟩, bu.loc g_4 nS1, bu.loc c_4 nS2, bu.below b0_4 nSl⟩
     ·have HX : Hid _ := HF2.out hnu
      clear HN2 HF2
      cases ng
      ·cases up
       ·exact absurd rfl hnu
       ·clear hnu
        obtain ⟨y0, y1, y2, y3, y4⟩ := g_3.cs5
        obtain ⟨x0, x1⟩ := p2.cs2
        go_wp2_with fail
        refine (HX.out _ _ _ r_3).mono ?_
        rintro z w5 ⟨v5, rfl, o5, bb5⟩
        have oL := o5.lower b0_3.size
        obtain ⟨to1, tc1, hv5⟩ := oL.rd.shape
        subst hv5
        clear o5 y0 y1 y2 y3 y4 x0 x1
        have q_4 := q_3.later bb5
        have g_4 := g_3.later bb5
        have c_4 := c_3.later bb5
        have p_4 := p2.later bb5
        have b0_4 := below_trans b0_3 bb5
        clear q_3 g_3 c_3 p2 b0_3 bb5
        have z0 := p_4.cell 0 rfl
        have f0 := p_4.free 0
        have z1 := p_4.cell 1 rfl
        have f1 := p_4.free 1
        go_wp2_with fail
        go_meet
        have bu := (but_set w5 SB 0 (.slice to1 (Dg.dg 4294967296 d2).length tc1)).trans (but_set _ SB 1 (.int .i64 k2))
        exact ⟨rfl, ⟨to1, tc1, (p_4.set 0 _).set 1 _, bu.own oL p_4 (by decide)⟩, bu.loc g_4 nS1, bu.loc c_4 nS2, bu.below b0_4 nSl⟩
      ·cases up
       ·clear hnu
        obtain ⟨y0, y1, y2, y3, y4⟩ := g_3.cs5
        obtain ⟨x0, x1⟩ := p2.cs2
        go_wp2_with fail
        refine (HX.out _ _ _ r_3).mono ?_
        rintro z w5 ⟨v5, rfl, o5, bb5⟩
        have oL := o5.lower b0_3.size
        obtain ⟨to1, tc1, hv5⟩ := oL.rd.shape
        subst hv5
        clear o5 y0 y1 y2 y3 y4 x0 x1
        have q_4 := q_3.later bb5
        have g_4 := g_3.later bb5
        have c_4 := c_3.later bb5
        have p_4 := p2.later bb5
        have b0_4 := below_trans b0_3 bb5
        clear q_3 g_3 c_3 p2 b0_3 bb5
        have z0 := p_4.cell 0 rfl
        have f0 := p_4.free 0
        have z1 := p_4.cell 1 rfl
        have f1 := p_4.free 1
        go_wp2_with fail
        go_meet
        have bu := (but_set w5 SB 0 (.slice to1 (Dg.dg 4294967296 d2).length tc1)).trans (but_set _ SB 1 (.int .i64 k2))
        exact ⟨rfl, ⟨to1, tc1, (p_4.set 0 _).set 1 _, bu.own oL p_4 (by decide)⟩, bu.loc g_4 nS1, bu.loc c_4 nS2, bu.below b0_4 nSl⟩
       ·exact absurd rfl hnu
    case rest =>
     obtain ⟨rfl, ⟨to1, tc1, p9, o9⟩, g9, c9, b9⟩ := hcut
     clear q_3 g_3 c_3 r_3 p2 b0_3
     by_cases hk : G < k2
     ·obtain ⟨h1, h2, h3, h4⟩ := HC2.out hk
      clear HC2 HU2 HS2
      subst h1 h2 h3 h4
      have y3 := g9.cell 3 rfl
      have x1 := p9.cell 1 rfl
      have d0 := c9.cell 0 rfl
      have f0 := c9.free 0
      have d1 := c9.cell 1 rfl
      have f1 := c9.free 1
      have d2 := c9.cell 2 rfl
      have f2 := c9.free 2
      go_wp2
      have bu : But (w.heap.size + 1 + 1) wc (((wc.setCell ⟨w.heap.size + 1 + 1, 0, none⟩ (.bool false)).setCell ⟨w.heap.size + 1 + 1, 1, none⟩ (.slice none 0 0)).setCell ⟨w.heap.size + 1 + 1, 2, none⟩ (.int .i64 0)) := ((but_set wc (w.heap.size + 1 + 1) 0 (.bool false)).trans (but_set _ (w.heap.size + 1 + 1) 1 (.slice none 0 0))).trans (but_set _ (w.heap.size + 1 + 1) 2 (.int .i64 0))
      have cX : LocE (((wc.setCell ⟨w.heap.size + 1 + 1, 0, none⟩ (.bool false)).setCell ⟨w.heap.size + 1 + 1, 1, none⟩ (.slice none 0 0)).setCell ⟨w.heap.size + 1 + 1, 2, none⟩ (.int .i64 0)) (w.heap.size + 1 + 1) 87 [.bool false, .slice none 0 0, .int .i64 0] := ((c9.set 0 (.bool false)).set 1 (.slice none 0 0)).set 2 (.int .i64 0)
      have bX := bu.below b9 (show w.heap.size ≤ w.heap.size + 1 + 1 by omega)
      obtain ⟨s0, s1, s2⟩ := cX.cs3
      refine bodyPost_ret (v := .tuple #[.agg #[.bool false, .slice none 0 0, .int .i64 0], .int .i64 5]) (by simp [results, Tryz.results40, go_sem, s0, s1, s2]) rfl ?_
      exact ⟨_, rfl, own_nil _ _ _ _, bX⟩
     ·have HU3 : Hid _ := HU2.out (by omega)
      have HS3 : Hid _ := HS2.out (by omega)
      have hkf : decide (G < k2) = false := decide_eq_false hk
      clear HC2 HU2 HS2
      obtain ⟨y0, y1, y2, y3, y4⟩ := g9.cs5
      obtain ⟨x0, x1⟩ := p9.cs2
      go_wp2_with fail
      refine (HU3.out _ _ _).mono ?_
      rintro z w7 ⟨rfl, bb7⟩
      have hlow := Nat.le_trans b9.size bb7.size
      clear y0 y1 y2 y3 y4 x0 x1
      have p_61 := p9.later bb7
      have o_61 := o9.later bb7
      have g_61 := g9.later bb7
      have c_61 := c9.later bb7
      have b0_61 := below_trans b9 bb7
      clear p9 o9 g9 c9 b9 bb7
      go_wp2_with fail
      refine (HS3.out _ _ _ b0_61 o_61.rd).mono ?_
      rintro z w8 ⟨v8, rfl, o8, bb62⟩
      have p_62 := p_61.later bb62
      have o_62 := o_61.later bb62
      have g_62 := g_61.later bb62
      have c_62 := c_61.later bb62
      have b0_62 := below_trans b0_61 bb62
      clear p_61 o_61 g_61 c_61 b0_61 bb62
      skip
      obtain ⟨uo, uc, hv8⟩ := o8.rd.shape
      subst hv8
      have d0 := c_62.cell 0 rfl
      have f0 := c_62.free 0
      have d1 := c_62.cell 1 rfl
      have f1 := c_62.free 1
      have d2 := c_62.cell 2 rfl
      have f2 := c_62.free 2
      go_wp2
      have bu : But (w.heap.size + 1 + 1) w8 (((w8.setCell ⟨w.heap.size + 1 + 1, 0, none⟩ (.bool rs)).setCell ⟨w.heap.size + 1 + 1, 1, none⟩ (.slice uo (Dg.dg 4294967296 rn).length uc)).setCell ⟨w.heap.size + 1 + 1, 2, none⟩ (.int .i64 re)) := ((but_set w8 (w.heap.size + 1 + 1) 0 (.bool rs)).trans (but_set _ (w.heap.size + 1 + 1) 1 (.slice uo (Dg.dg 4294967296 rn).length uc))).trans (but_set _ (w.heap.size + 1 + 1) 2 (.int .i64 re))
      have cX : LocE (((w8.setCell ⟨w.heap.size + 1 + 1, 0, none⟩ (.bool rs)).setCell ⟨w.heap.size + 1 + 1, 1, none⟩ (.slice uo (Dg.dg 4294967296 rn).length uc)).setCell ⟨w.heap.size + 1 + 1, 2, none⟩ (.int .i64 re)) (w.heap.size + 1 + 1) 87 [.bool rs, .slice uo (Dg.dg 4294967296 rn).length uc, .int .i64 re] := ((c_62.set 0 (.bool rs)).set 1 (.slice uo (Dg.dg 4294967296 rn).length uc)).set 2 (.int .i64 re)
      have bX := bu.below b0_62 (show w.heap.size ≤ w.heap.size + 1 + 1 by omega)
      have oX := bu.own o8 c_62 (by decide)
      obtain ⟨s0, s1, s2⟩ := cX.cs3
      refine bodyPost_ret (v := .tuple #[.agg #[.bool rs, .slice uo (Dg.dg 4294967296 rn).length uc, .int .i64 re], .int .i64 rc]) (by simp [results, Tryz.results40, go_sem, s0, s1, s2]) rfl ?_
      exact ⟨_, rfl, oX.lower hlow, bX⟩
 ·obtain ⟨h1, h2, h3, h4⟩ := HA.out hc
  clear HA HB HC HNE HFA HNU HSH
  have hcf : (c == 0) = false := by simp [hc]
  subst h1 h2 h3 h4
  obtain ⟨x0, x1, x2⟩ := q1.cs3
  obtain ⟨y0, y1, y2, y3, y4⟩ := g1.cs5
  go_enter Tryz.func40, Tryz.ntmps40
  go_wp2_with fail
  refine (HFI.out _ b1).mono ?_
  rintro z w2 ⟨v2, rfl, o2, bb2⟩
  obtain ⟨so, sc, hx2⟩ := o2.rd.shape
  subst hx2
  have r2 := o2.rd
  clear o2 x0 x1 x2 y0 y1 y2 y3 y4
  have q_2 := q1.later bb2
  have g_2 := g1.later bb2
  have c_2 := c1.later bb2
  have b0_2 := below_trans b1 bb2
  clear q1 g1 c1 b1 bb2
  have ap := below_alloc w2 (.cells #[.slice so (Dg.dg 4294967296 fd).length sc, .int .i64 fk] 136)
  have p2 := locE_new w2 [.slice so (Dg.dg 4294967296 fd).length sc, .int .i64 fk] 136
  have hSb : w.heap.size + 1 + 1 < w2.heap.size := c_2.lt
  have q_3 := q_2.later ap
  have g_3 := g_2.later ap
  have c_3 := c_2.later ap
  have r_3 := r2.later ap
  have b0_3 := below_trans b0_2 ap
  clear q_2 g_2 c_2 r2 b0_2 ap
  go_upto_region 2 with fail
  generalize w2.alloc (.cells #[.slice so (Dg.dg 4294967296 fd).length sc, .int .i64 fk] 136) = W2 at q_3 g_3 c_3 r_3 p2 b0_3 ⊢
  generalize w2.heap.size = SB at p2 hSb ⊢
  have d0 := c_3.cell 0 rfl
  have f0 := c_3.free 0
  have d1 := c_3.cell 1 rfl
  have f1 := c_3.free 1
  have d2 := c_3.cell 2 rfl
  have f2 := c_3.free 2
  go_wp2
  have bu : But (w.heap.size + 1 + 1) W2 (((W2.setCell ⟨w.heap.size + 1 + 1, 0, none⟩ (.bool false)).setCell ⟨w.heap.size + 1 + 1, 1, none⟩ (.slice none 0 0)).setCell ⟨w.heap.size + 1 + 1, 2, none⟩ (.int .i64 0)) := ((but_set W2 (w.heap.size + 1 + 1) 0 (.bool false)).trans (but_set _ (w.heap.size + 1 + 1) 1 (.slice none 0 0))).trans (but_set _ (w.heap.size + 1 + 1) 2 (.int .i64 0))
  have cX : LocE (((W2.setCell ⟨w.heap.size + 1 + 1, 0, none⟩ (.bool false)).setCell ⟨w.heap.size + 1 + 1, 1, none⟩ (.slice none 0 0)).setCell ⟨w.heap.size + 1 + 1, 2, none⟩ (.int .i64 0)) (w.heap.size + 1 + 1) 87 [.bool false, .slice none 0 0, .int .i64 0] := ((c_3.set 0 (.bool false)).set 1 (.slice none 0 0)).set 2 (.int .i64 0)
  have bX := bu.below b0_3 (show w.heap.size ≤ w.heap.size + 1 + 1 by omega)
  obtain ⟨s0, s1, s2⟩ := cX.cs3
  refine bodyPost_ret (v := .tuple #[.agg #[.bool false, .slice none 0 0, .int .i64 0], .int .i64 rc]) (by simp [results, Tryz.results40, go_sem, s0, s1, s2]) rfl ?_
  exact ⟨_, rfl, own_nil _ _ _ _, bX⟩
end Go.Proofs.YtiiphandhpilgaaGreatDoor
namespace Go.Proofs.YtiiphandhpilgaaGreatDoor
open Go.RowKit
def stepN (s up : Bool) (l : Nat) : Bool := if l = 0 then !up else s
def stepD (R D L G : Int) (gr s up : Bool) (l n : Nat) (e : Int) : Nat := if stepN s up l = up then nearD R D L gr (fD R D L G gr n e) (fK R D L G gr n e) else farD R D gr (fD R D L G gr n e)
def stepK (R D L G : Int) (gr s up : Bool) (l n : Nat) (e : Int) : Int := if stepN s up l = up then nearK R D L (fD R D L G gr n e) (fK R D L G gr n e) else farK R D L gr (fD R D L G gr n e) (fK R D L G gr n e)
def stepR (R D L G : Int) (gr s up : Bool) (xs : List Nat) (e : Int) : Trip × Int :=
 if onC (dchk xs e) (gridC R D L G) = 0 then
  (if heldB R D L G gr (Dg.vl 4294967296 xs) e = true then
   (if G < stepK R D L G gr s up xs.length (Dg.vl 4294967296 xs) e then (⟨false, 0, 0⟩, 5) else shortT ⟨stepN s up xs.length, stepD R D L G gr s up xs.length (Dg.vl 4294967296 xs) e, (widthN R : Int) * stepK R D L G gr s up xs.length (Dg.vl 4294967296 xs) e⟩)
   else (⟨false, 0, 0⟩, 4))
 else (⟨false, 0, 0⟩, onC (dchk xs e) (gridC R D L G))
theorem found_spot {R D L G : Int} {gr : Bool} {n : Nat} {e : Int} (h1 : 1 ≤ D) (h0 : n ≠ 0) (hh : heldB R D L G gr n e = true) :
  fD R D L G gr n e = findD R D L gr n e ∧ fK R D L G gr n e = spotK R D L gr n e ∧ findD R D L gr n e ≠ 0 ∧ findD R D L gr n e < 2 ^ (widthN R * D.toNat) ∧ L ≤ spotK R D L gr n e ∧ spotK R D L gr n e ≤ G ∧ findD R D L gr n e = numP n (e - (widthN R : Int) * spotK R D L gr n e) / denP 1 (e - (widthN R : Int) * spotK R D L gr n e) := by
 have hs := (held_iff h0).1 hh
 have hc : cutP R D L gr n 1 e = spotK R D L gr n e := by
  unfold cutP spotK
  rw [topQ_one h0]
 have hw : wholeP R D L gr n 1 e = numP n (e - (widthN R : Int) * spotK R D L gr n e) / denP 1 (e - (widthN R : Int) * spotK R D L gr n e) := by
  unfold wholeP shP
  rw [hc]
 have hf : findD R D L gr n e = numP n (e - (widthN R : Int) * spotK R D L gr n e) / denP 1 (e - (widthN R : Int) * spotK R D L gr n e) := by
  unfold findD shN numP denP
  split
  ·rw [Nat.one_mul]
  ·rw [Nat.div_one]
 have hlt := whole_lt R D L gr n 1 e h1 h0 (by omega)
 rw [hw, ← hf] at hlt
 obtain ⟨p1, p2⟩ := one_parts false n e ((widthN R : Int) * spotK R D L gr n e) hs.2.2
 have hne : findD R D L gr n e ≠ 0 := fun c => by
  rw [hf] at c
  rw [c] at p2
  have hb := (bare_top (t := ⟨false, n, e⟩) h0).1
  rw [← p2] at hb
  exact hb (by simp [bare])
 exact ⟨(if_neg h0).trans (if_pos hh), (if_neg h0).trans (if_pos hh), hne, hlt, hs.1, hs.2.1, hf⟩
theorem carD_le {R D : Int} {d : Nat} (h : d ≤ 2 ^ (widthN R * D.toNat)) : carD R D d ≤ 2 ^ (widthN R * D.toNat) := by
 have hp : 2 ^ (widthN R * (D - 1).toNat) ≤ 2 ^ (widthN R * D.toNat) := Nat.pow_le_pow_right (by omega) (Nat.mul_le_mul_left _ (by omega))
 unfold carD
 split <;> omega
theorem step_fits {R D L G : Int} {gr s up : Bool} {l n : Nat} {e : Int} (hg : gridC R D L G = 0) (hh : heldB R D L G gr n e = true) :
  fD R D L G gr n e < 2 ^ (widthN R * D.toNat) ∧ -17000 ≤ fK R D L G gr n e ∧ fK R D L G gr n e ≤ 17000 ∧ stepD R D L G gr s up l n e ≤ 2 ^ (widthN R * D.toNat) ∧ -17001 ≤ stepK R D L G gr s up l n e ∧ stepK R D L G gr s up l n e ≤ 17001 := by
 obtain ⟨hR, d1, d2, l1, l2, g1, g2, lg, l16⟩ := gridC_zero hg
 have hp : 2 ^ (widthN R * (D - 1).toNat) ≤ 2 ^ (widthN R * D.toNat) := Nat.pow_le_pow_right (by omega) (Nat.mul_le_mul_left _ (by omega))
 have hf : fD R D L G gr n e < 2 ^ (widthN R * D.toNat) ∧ -17000 ≤ fK R D L G gr n e ∧ fK R D L G gr n e ≤ 17000 := by
  by_cases h0 : n = 0
  ·rw [show fD R D L G gr n e = 0 from if_pos h0, show fK R D L G gr n e = L from if_pos h0]
   exact ⟨two_pos _, by omega, by omega⟩
  ·obtain ⟨a1, a2, a3, a4, a5, a6, -⟩ := found_spot d1 h0 hh
   rw [a1, a2]
   exact ⟨a4, by omega, by omega⟩
 obtain ⟨f1, f2, f3⟩ := hf
 refine ⟨f1, f2, f3, ?_, ?_, ?_⟩
 ·unfold stepD nearD farD
  split
  ·split
   ·split
    ·omega
    ·split <;> omega
   ·omega
  ·split
   ·exact hp
   ·exact carD_le (by omega)
 ·unfold stepK nearK farK carP
  split
  ·split
   ·split <;> omega
   ·omega
  ·split
   ·omega
   ·split <;> omega
 ·unfold stepK nearK farK carP
  split
  ·split
   ·split <;> omega
   ·omega
  ·split
   ·omega
   ·split <;> omega
theorem gStep_any (R D L G : Int) (gr s up : Bool) (ao : Option Addr) (ca : Nat) (xs : List Nat) (e : Int) (w : World) (hr : Rd w .u32 (.slice ao xs.length ca) xs) (sa : Dg.Small 4294967296 xs) (hT : Tab w) :
  Calls Tryz.prog 40 #[.agg #[.bool s, .slice ao xs.length ca, .int .i64 e], .agg #[.int .i64 R, .int .i64 D, .int .i64 L, .int .i64 G, .bool gr], .bool up] w (DAns w (stepR R D L G gr s up xs e)) := by
 obtain ⟨⟨⟨rs, rn, re⟩, rc⟩, hrr⟩ : ∃ r, stepR R D L G gr s up xs e = r := ⟨_, rfl⟩
 rw [hrr]
 have hzero : ∀ k, stepR R D L G gr s up xs e = (⟨false, 0, 0⟩, k) → rs = false ∧ rn = 0 ∧ re = 0 ∧ rc = k := fun k h => by
  rw [hrr] at h
  simp only [Prod.mk.injEq, Trip.mk.injEq] at h
  exact ⟨h.1.1, h.1.2.1, h.1.2.2, h.2⟩
 have hH : onC (dchk xs e) (gridC R D L G) = 0 → ansH xs e R D L G gr = heldB R D L G gr (Dg.vl 4294967296 xs) e ∧ ansD xs e R D L G gr = fD R D L G gr (Dg.vl 4294967296 xs) e ∧ ansK xs e R D L G gr = fK R D L G gr (Dg.vl 4294967296 xs) e := fun h => ⟨if_pos h, if_pos h, if_pos h⟩
 have hfit : onC (dchk xs e) (gridC R D L G) = 0 → ansH xs e R D L G gr = true → gridC R D L G = 0 ∧ heldB R D L G gr (Dg.vl 4294967296 xs) e = true := fun h1 h2 => ⟨(onC_zero h1).2, by rw [← (hH h1).1]; exact h2⟩
 have hpl : gridC R D L G = 0 → ∀ d, d ≤ 2 ^ (widthN R * D.toNat) → (Dg.dg 4294967296 d).length ≤ 16 := fun h d hd => by
  obtain ⟨-, d1, d2, -⟩ := gridC_zero h
  have hw := Nat.mul_le_mul (widthN_le R).2 (show D.toNat ≤ 120 by omega)
  exact Nat.le_trans (dg_len_mono 4294967296 d _ (by omega) hd) (pow_len32 (by omega))
 refine stepW R D L G gr s up ao _ ca e (onC (dchk xs e) (gridC R D L G)) (widthN R) (ansH xs e R D L G gr) (stepN s up xs.length) (ansD xs e R D L G gr) (ansK xs e R D L G gr) (stepD R D L G gr s up xs.length (Dg.vl 4294967296 xs) e) (stepK R D L G gr s up xs.length (Dg.vl 4294967296 xs) e) rs rn re rc w ?_ ?_ ?_ ?_ ?_ ?_ ?_ ?_ ?_ ?_
 ·intro h
  exact hzero _ (if_neg h)
 ·intro h h2
  refine hzero 4 ((if_pos h).trans (if_neg ?_))
  rw [← (hH h).1, h2]
  decide
 ·intro h h2 h3
  exact hzero 5 ((if_pos h).trans ((if_pos (hfit h h2).2).trans (if_pos h3)))
 ·intro h
  exact if_pos (by simpa using h)
 ·intro h
  exact if_neg (by simpa using h)
 ·intro w1 b
  exact gfind_any R D L G gr s ao ca xs e w1 (hr.later b) sa (hT.later b)
 ·intro h h2 h3 v u w1 r
  obtain ⟨g0, hh⟩ := hfit h h2
  obtain ⟨-, d1, d2, -⟩ := gridC_zero g0
  obtain ⟨f1, f2, f3, -⟩ := step_fits (s := s) (up := up) (l := xs.length) g0 hh
  have hl0 : ¬xs.length = 0 := fun c => by
   have : stepN s up xs.length = !up := if_pos c
   rw [this] at h3
   cases up <;> cases h3
  have hn0 : Dg.vl 4294967296 xs ≠ 0 := gvl_ne sa (dchk_zero (onC_zero h).1).1 hl0
  obtain ⟨a1, -, a3, -⟩ := found_spot d1 hn0 hh
  rw [show stepD R D L G gr s up xs.length (Dg.vl 4294967296 xs) e = _ from if_pos h3, show stepK R D L G gr s up xs.length (Dg.vl 4294967296 xs) e = _ from if_pos h3]
  rw [(hH h).2.1] at r ⊢
  rw [(hH h).2.2]
  exact nearer_any R D L G gr v u _ _ w1 d1 d2 r (Nat.le_trans (hpl g0 _ (by omega)) (by omega)) (by rw [a1]; exact a3) (by omega) (by omega)
 ·intro h h2 h3 v u w1 r
  obtain ⟨g0, hh⟩ := hfit h h2
  obtain ⟨-, d1, d2, -⟩ := gridC_zero g0
  obtain ⟨f1, f2, f3, -⟩ := step_fits (s := s) (up := up) (l := xs.length) g0 hh
  rw [show stepD R D L G gr s up xs.length (Dg.vl 4294967296 xs) e = _ from if_neg h3, show stepK R D L G gr s up xs.length (Dg.vl 4294967296 xs) e = _ from if_neg h3]
  rw [(hH h).2.1] at r ⊢
  rw [(hH h).2.2]
  exact farther_any R D L G gr v u _ _ w1 d1 d2 r (Nat.le_trans (hpl g0 _ (by omega)) (by omega)) (by omega) (by omega)
 ·intro h h2 h3 v u w1
  obtain ⟨g0, hh⟩ := hfit h h2
  obtain ⟨-, -, -, -, k1, k2⟩ := step_fits (s := s) (up := up) (l := xs.length) g0 hh
  refine gnumber_any R D L G gr _ v _ u _ w1 ?_
  unfold widthN
  split <;> simp <;> omega
 ·intro h h2 h3 v u w1 b r
  obtain ⟨g0, hh⟩ := hfit h h2
  obtain ⟨-, -, -, q1, k1, k2⟩ := step_fits (s := s) (up := up) (l := xs.length) g0 hh
  have hlen := hpl g0 _ q1
  have htz := tz_fits _ 16 hlen
  have hk : -68004 ≤ (widthN R : Int) * stepK R D L G gr s up xs.length (Dg.vl 4294967296 xs) e ∧ (widthN R : Int) * stepK R D L G gr s up xs.length (Dg.vl 4294967296 xs) e ≤ 68004 := by
   unfold widthN
   split <;> simp <;> omega
  have hS : shortT ⟨stepN s up xs.length, stepD R D L G gr s up xs.length (Dg.vl 4294967296 xs) e, (widthN R : Int) * stepK R D L G gr s up xs.length (Dg.vl 4294967296 xs) e⟩ = (⟨rs, rn, re⟩, rc) := by
   rw [← hrr]
   exact ((if_pos h).trans ((if_pos hh).trans (if_neg h3))).symm
  rw [← hS]
  exact dshort_any _ _ w1 ⟨_, rfl, r⟩ (by simp only; omega) ⟨by simp only; omega, by simp only; omega⟩ (hT.later b) (by simp only; omega)
end Go.Proofs.YtiiphandhpilgaaGreatDoor
namespace Go.Proofs.YtiiphandhpilgaaGreatDoor
open Go.RowKit
theorem far_next {R D L : Int} {gr : Bool} {d : Nat} {p : Int} (h : d ≠ 0 ∨ gr = true) : farD R D gr d = carD R D (d + 1) ∧ farK R D L gr d p = carP R D (d + 1) p := by
 have hn : ¬(d = 0 ∧ gr = false) := fun c => by
  rcases h with h | h
  ·exact h c.1
  ·rw [c.2] at h
   cases h
 exact ⟨if_neg hn, if_neg hn⟩
end Go.Proofs.YtiiphandhpilgaaGreatDoor
namespace Go.Proofs.YtiiphandhpilgaaGreatDoor
open Go.RowKit
theorem car_bare (R D : Int) (s : Bool) (d : Nat) (p : Int) (h1 : 1 ≤ D) : bare ⟨s, carD R D d, (widthN R : Int) * carP R D d p⟩ = bare ⟨s, d, (widthN R : Int) * p⟩ := by
 unfold carD carP
 by_cases h : d = 2 ^ (widthN R * D.toNat)
 ·rw [if_pos h, if_pos h]
  have hc := Int.natCast_mul (widthN R) D.toNat
  have hc1 := Int.natCast_mul (widthN R) (D - 1).toNat
  rw [Int.toNat_of_nonneg (by omega)] at hc hc1
  have e1 : (widthN R : Int) * (p + 1) + ((widthN R * (D - 1).toNat : Nat) : Int) = (widthN R : Int) * p + ((widthN R * D.toNat : Nat) : Int) := by
   rw [hc, hc1, Int.mul_add, Int.mul_sub]
   omega
  refine bare_of_V (K := (max (-((widthN R : Int) * p)) (max (-((widthN R : Int) * (p + 1))) 0)).toNat) (by simp only; omega) (by simp only; omega) ?_
  rw [V_nat, V_nat]
  simp only
  rw [h, ← Nat.pow_add, ← Nat.pow_add]
  congr 2
  omega
 ·rw [if_neg h, if_neg h]
theorem bare_nil (s : Bool) (e f : Int) : bare ⟨s, 0, e⟩ = bare ⟨s, 0, f⟩ := by simp [bare]
end Go.Proofs.YtiiphandhpilgaaGreatDoor
namespace Go.Proofs.YtiiphandhpilgaaGreatDoor
open Go.RowKit
theorem spot_shortT {R D L G : Int} {gr : Bool} (s : Bool) {d : Nat} {p : Int} (hg : gridC R D L G = 0) (h : InSpot R D L G gr d p) : shortT ⟨s, d, (widthN R : Int) * p⟩ = (bare ⟨s, d, (widthN R : Int) * p⟩, 0) := by
 have := spot_short (s := s) hg h
 unfold dbothR at this
 by_cases hp : placeC (Dg.dg 4294967296 d) p R D L G = 0
 ·rw [if_pos hp, Dg.vl_dg _ _ (by omega)] at this
  exact this
 ·rw [if_neg hp] at this
  simp only [Prod.mk.injEq] at this
  exact absurd this.2 hp
theorem dg_len_zero {n : Nat} : (Dg.dg 4294967296 n).length = 0 ↔ n = 0 := by
 rw [List.length_eq_zero_iff, Dg.dg_nil_iff _ _ (by omega)]
theorem next_spot {R D L G : Int} {gr : Bool} {d : Nat} {k : Int} (h1 : 1 ≤ D) (hk : L ≤ k) (hc : carP R D (d + 1) k ≤ G) (hd : d < 2 ^ (widthN R * D.toNat)) (hf : 2 ^ (widthN R * (D - 1).toNat) ≤ d ∨ (gr = true ∧ k = L)) :
  carD R D (d + 1) ≠ 0 ∧ L ≤ carP R D (d + 1) k ∧ carP R D (d + 1) k ≤ G ∧ carD R D (d + 1) < 2 ^ (widthN R * D.toNat) ∧ (2 ^ (widthN R * (D - 1).toNat) ≤ carD R D (d + 1) ∨ (gr = true ∧ carP R D (d + 1) k = L)) := by
 have hpw : 2 ^ (widthN R * (D - 1).toNat) < 2 ^ (widthN R * D.toNat) := by
  refine Nat.pow_lt_pow_right (by omega) ?_
  exact Nat.mul_lt_mul_of_pos_left (by omega) (by have := widthN_le R; omega)
 have hp0 := two_pos (widthN R * (D - 1).toNat)
 unfold carD carP at *
 by_cases hq : d + 1 = 2 ^ (widthN R * D.toNat)
 ·rw [if_pos hq] at hc ⊢
  rw [if_pos hq]
  exact ⟨by omega, by omega, hc, hpw, .inl (Nat.le_refl _)⟩
 ·rw [if_neg hq] at hc ⊢
  rw [if_neg hq]
  refine ⟨by omega, hk, hc, by omega, ?_⟩
  rcases hf with hf | hf
  ·exact .inl (by omega)
  ·exact .inr hf
end Go.Proofs.YtiiphandhpilgaaGreatDoor

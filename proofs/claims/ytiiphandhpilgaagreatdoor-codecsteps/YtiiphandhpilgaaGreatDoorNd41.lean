/-
  Texts laid together: Gs2, Gs3.
-/
import Derived.Test.YtiiphandhpilgaaGreatDoorNd40
import Derived.Test.YtiiphandhpilgaaGreatDoorNd34
set_option maxRecDepth 100000
namespace Go.Proofs.YtiiphandhpilgaaGreatDoor
open Go.RowKit
def farD (R D : Int) (gr : Bool) (d : Nat) : Nat := if d = 0 ∧ gr = false then 2 ^ (widthN R * (D - 1).toNat) else carD R D (d + 1)
def farK (R D L : Int) (gr : Bool) (d : Nat) (p : Int) : Int := if d = 0 ∧ gr = false then L else carP R D (d + 1) p
def nearD (R D L : Int) (gr : Bool) (d : Nat) (p : Int) : Nat := if d = 2 ^ (widthN R * (D - 1).toNat) then (if L < p then 2 ^ (widthN R * D.toNat) - 1 else if gr = true then d - 1 else 0) else d - 1
def nearK (R D L : Int) (d : Nat) (p : Int) : Int := if d = 2 ^ (widthN R * (D - 1).toNat) then (if L < p then p - 1 else L) else p
theorem cmp_zero (a b : Nat) : cmpI (a : Int) (b : Int) = 0 ↔ a = b := by
 unfold cmpI
 split
 ·omega
 ·split <;> omega
theorem farther_any (R D L G : Int) (gr : Bool) (ao : Option Addr) (ca d : Nat) (p : Int) (w : World) (h1 : 1 ≤ D) (h2 : D ≤ 120) (hr : Rd w .u32 (.slice ao (Dg.dg 4294967296 d).length ca) (Dg.dg 4294967296 d)) (hl : (Dg.dg 4294967296 d).length ≤ 1000) (p1 : -1000000 ≤ p) (p2 : p ≤ 1000000) :
  Calls Tryz.prog 71 #[.agg #[.int .i64 R, .int .i64 D, .int .i64 L, .int .i64 G, .bool gr], .agg #[.slice ao (Dg.dg 4294967296 d).length ca, .int .i64 p]] w (SpotRes w (farD R D gr d) (farK R D L gr d p)) := by
 have hz := len_is_zero d
 refine fartherW R D L G gr ao _ ca p d (2 ^ (widthN R * (D - 1).toNat)) (carD R D (d + 1)) (carP R D (d + 1) p) (decide (d = 0 ∧ gr = false)) (farD R D gr d) (farK R D L gr d p) w ?_ ?_ ?_ ?_ ?_ ?_ ?_ ?_
 ·intro h
  have := of_decide_eq_true h
  exact ⟨by rw [hz]; exact decide_eq_true this.1, this.2⟩
 ·intro h
  have := of_decide_eq_false h
  by_cases h0 : d = 0
  ·refine .inr ⟨by rw [hz]; exact decide_eq_true h0, ?_⟩
   cases gr
   ·exact absurd ⟨h0, rfl⟩ this
   ·rfl
  ·exact .inl (by rw [hz]; exact decide_eq_false h0)
 ·intro h
  have := of_decide_eq_true h
  exact ⟨(if_pos this).symm, (if_pos this).symm⟩
 ·intro h
  have := of_decide_eq_false h
  exact ⟨if_neg this, if_neg this⟩
 ·intro w1 b
  exact hr.later b
 ·intro w1
  exact gfirst_any R D L G gr w1 h1 h2
 ·intro v u w1 r1 r2
  have := plus_any v u _ _ w1 r1 r2 (Dg.small_dg _ _ (by omega)) (Dg.small_cons.2 ⟨by omega, Dg.small_nil _ (by omega)⟩) (by omega) (by simp)
  rwa [Dg.vl_dg _ _ (by omega), show Dg.vl 4294967296 [1] = 1 from rfl] at this
 ·intro v base w1 ho hb
  exact gcarried_any R D L G gr v _ _ base w1 ho hb h1 h2 p1 p2
theorem minus_one {v u : Value} {n : Nat} {w : World} (h0 : n ≠ 0) (hl : (Dg.dg 4294967296 n).length ≤ 1000) (r1 : Rd w .u32 v (Dg.dg 4294967296 n)) (r2 : Rd w .u32 u [1]) : Calls Tryz.prog 103 #[v, u] w (Num w (n - 1)) := by
 have hne : 1 ≤ (Dg.dg 4294967296 n).length := by
  rcases Nat.eq_zero_or_pos (Dg.dg 4294967296 n).length with h | h
  ·exact absurd ((Dg.dg_nil_iff 4294967296 n (by omega)).1 (List.length_eq_zero_iff.1 h)) h0
  ·exact h
 have := minus_any v u _ _ w r1 r2 (Dg.small_dg _ _ (by omega)) (Dg.small_cons.2 ⟨by omega, Dg.small_nil _ (by omega)⟩) (by omega) (by simpa using hne) (by rw [Dg.vl_dg _ _ (by omega), show Dg.vl 4294967296 [1] = 1 from rfl]; omega)
 rwa [Dg.vl_dg _ _ (by omega), show Dg.vl 4294967296 [1] = 1 from rfl] at this
theorem pow_len32 {k L : Nat} (h : k < 32 * L) : (Dg.dg 4294967296 (2 ^ k)).length ≤ L := by
 refine Dg.dg_len_le 4294967296 _ _ (by omega) ?_
 rw [show (4294967296 : Nat) = 2 ^ 32 from by decide, ← Nat.pow_mul]
 exact Nat.pow_lt_pow_right (by omega) h
theorem nearer_any (R D L G : Int) (gr : Bool) (ao : Option Addr) (ca d : Nat) (p : Int) (w : World) (h1 : 1 ≤ D) (h2 : D ≤ 120) (hr : Rd w .u32 (.slice ao (Dg.dg 4294967296 d).length ca) (Dg.dg 4294967296 d)) (hl : (Dg.dg 4294967296 d).length ≤ 1000) (h0 : d ≠ 0) (p1 : -1000000 ≤ p) (p2 : p ≤ 1000000) :
  Calls Tryz.prog 70 #[.agg #[.int .i64 R, .int .i64 D, .int .i64 L, .int .i64 G, .bool gr], .agg #[.slice ao (Dg.dg 4294967296 d).length ca, .int .i64 p]] w (SpotRes w (nearD R D L gr d p) (nearK R D L d p)) := by
 have hw := Nat.mul_le_mul (widthN_le R).2 (show D.toNat ≤ 120 by omega)
 have hel : (Dg.dg 4294967296 (2 ^ (widthN R * D.toNat))).length ≤ 1000 := pow_len32 (by omega)
 refine nearerW R D L G gr ao _ ca p (cmpI (d : Int) ((2 ^ (widthN R * (D - 1).toNat) : Nat) : Int)) d (2 ^ (widthN R * (D - 1).toNat)) (2 ^ (widthN R * D.toNat)) (nearD R D L gr d p) (nearK R D L d p) w ?_ ?_ ?_ ?_ ?_ ?_ ?_ ?_ ?_ ?_ ?_
 ·intro h
  exact IntWalk.i64_in _ ⟨by omega, by omega⟩
 ·intro h
  have : ¬d = 2 ^ (widthN R * (D - 1).toNat) := fun c => h ((cmp_zero _ _).2 c)
  exact ⟨(if_neg this).symm, (if_neg this).symm⟩
 ·intro h h3
  have := (cmp_zero _ _).1 h
  exact ⟨((if_pos this).trans (if_pos h3)).symm, ((if_pos this).trans (if_pos h3)).symm⟩
 ·intro h h3 h4
  have := (cmp_zero _ _).1 h
  exact ⟨((if_pos this).trans ((if_neg h3).trans (if_pos h4))).symm, ((if_pos this).trans (if_neg h3)).symm⟩
 ·intro h h3 h4
  have := (cmp_zero _ _).1 h
  exact ⟨((if_pos this).trans ((if_neg h3).trans (if_neg (by rw [h4]; decide)))).symm, ((if_pos this).trans (if_neg h3)).symm⟩
 ·intro w1 b
  exact hr.later b
 ·intro w1
  exact gfirst_any R D L G gr w1 h1 h2
 ·intro w1
  exact gend_any R D L G gr w1 h1 h2
 ·intro v u w1 r1 r2
  have := compare_any v u _ _ w1 r1 r2 (Dg.small_dg _ _ (by omega)) (Dg.small_dg _ _ (by omega)) (Dg.norm_dg _ _ (by omega)) (Dg.norm_dg _ _ (by omega))
  rwa [Dg.vl_dg _ _ (by omega), Dg.vl_dg _ _ (by omega)] at this
 ·intro v u w1 r1 r2
  exact minus_one h0 hl r1 r2
 ·intro v u w1 r1 r2
  exact minus_one (Nat.ne_of_gt (two_pos _)) hel r1 r2
end Go.Proofs.YtiiphandhpilgaaGreatDoor
namespace Go.Proofs.YtiiphandhpilgaaGreatDoor
open Go.RowKit
def SpotS (w : World) (sb d : Nat) (k : Int) (wx : World) : Prop :=
 ∃ so sc, LocE wx sb 136 [.slice so (Dg.dg 4294967296 d).length sc, .int .i64 k] ∧ Own wx w.heap.size 79 .u32 (.slice so (Dg.dg 4294967296 d).length sc) (Dg.dg 4294967296 d)
set_option maxHeartbeats 6400000 in
theorem stepW (R D L G : Int) (gr s up : Bool) (ao : Option Addr) (la ca : Nat) (e c wd : Int) (hd ng : Bool) (fd : Nat) (fk : Int) (d2 : Nat) (k2 : Int) (rs : Bool) (rn : Nat) (re rc : Int) (w : World)
  (HA : ¬c = 0 → rs = false ∧ rn = 0 ∧ re = 0 ∧ rc = c) (HB : c = 0 → hd = false → rs = false ∧ rn = 0 ∧ re = 0 ∧ rc = 4) (HC : c = 0 → hd = true → G < k2 → rs = false ∧ rn = 0 ∧ re = 0 ∧ rc = 5)
  (HG1 : ((la : Int) == 0) = true → ng = !up) (HG2 : ((la : Int) == 0) = false → ng = s)
  (HFI : ∀ w1, Below w.heap.size w w1 → Calls Tryz.prog 69 #[.agg #[.bool s, .slice ao la ca, .int .i64 e], .agg #[.int .i64 R, .int .i64 D, .int .i64 L, .int .i64 G, .bool gr]] w1 (FindAns w1 hd fd fk c))
  (HNE : c = 0 → hd = true → ng = up → ∀ v u w1, Rd w1 .u32 (.slice v (Dg.dg 4294967296 fd).length u) (Dg.dg 4294967296 fd) → Calls Tryz.prog 70 #[.agg #[.int .i64 R, .int .i64 D, .int .i64 L, .int .i64 G, .bool gr], .agg #[.slice v (Dg.dg 4294967296 fd).length u, .int .i64 fk]] w1 (SpotRes w1 d2 k2))
  (HFA : c = 0 → hd = true → ¬ng = up → ∀ v u w1, Rd w1 .u32 (.slice v (Dg.dg 4294967296 fd).length u) (Dg.dg 4294967296 fd) → Calls Tryz.prog 71 #[.agg #[.int .i64 R, .int .i64 D, .int .i64 L, .int .i64 G, .bool gr], .agg #[.slice v (Dg.dg 4294967296 fd).length u, .int .i64 fk]] w1 (SpotRes w1 d2 k2))
  (HNU : c = 0 → hd = true → ¬G < k2 → ∀ v u w1, Calls Tryz.prog 72 #[.agg #[.int .i64 R, .int .i64 D, .int .i64 L, .int .i64 G, .bool gr], .bool ng, .agg #[.slice v (Dg.dg 4294967296 d2).length u, .int .i64 k2]] w1 fun z w' => z = .returned (.agg #[.bool ng, .slice v (Dg.dg 4294967296 d2).length u, .int .i64 (wd * k2)]) ∧ Below w1.heap.size w1 w')
  (HSH : c = 0 → hd = true → ¬G < k2 → ∀ v u w1, Below w.heap.size w w1 → Rd w1 .u32 (.slice v (Dg.dg 4294967296 d2).length u) (Dg.dg 4294967296 d2) → Calls Tryz.prog 73 #[.agg #[.bool ng, .slice v (Dg.dg 4294967296 d2).length u, .int .i64 (wd * k2)]] w1 (DAns w1 (⟨rs, rn, re⟩, rc))) :
  Calls Tryz.prog 40 #[.agg #[.bool s, .slice ao la ca, .int .i64 e], .agg #[.int .i64 R, .int .i64 D, .int .i64 L, .int .i64 G, .bool gr], .bool up] w (DAns w (⟨rs, rn, re⟩, rc)) := by
 replace HA : Hid _ := HA
 replace HB : Hid _ := HB
 replace HC : Hid _ := HC
 replace HG1 : Hid _ := HG1
 replace HG2 : Hid _ := HG2
 replace HFI : Hid _ := HFI
 replace HNE : Hid _ := HNE
 replace HFA : Hid _ := HFA
 replace HNU : Hid _ := HNU
 replace HSH : Hid _ := HSH
 have b1 := below_trans (below_trans (below_alloc w (.cells #[.bool s, .slice ao la ca, .int .i64 e] 87)) (below_alloc _ (.cells #[.int .i64 R, .int .i64 D, .int .i64 L, .int .i64 G, .bool gr] 42))) (below_alloc _ (.cells #[.bool false, .slice none 0 0, .int .i64 0] 87))
 have q1 := ((locE_new w [.bool s, .slice ao la ca, .int .i64 e] 87).later (below_alloc _ (.cells #[.int .i64 R, .int .i64 D, .int .i64 L, .int .i64 G, .bool gr] 42))).later (below_alloc _ (.cells #[.bool false, .slice none 0 0, .int .i64 0] 87))
 have g1 := (locE_new (w.alloc (.cells #[.bool s, .slice ao la ca, .int .i64 e] 87)) [.int .i64 R, .int .i64 D, .int .i64 L, .int .i64 G, .bool gr] 42).later (below_alloc _ (.cells #[.bool false, .slice none 0 0, .int .i64 0] 87))
 have c1 := locE_new ((w.alloc (.cells #[.bool s, .slice ao la ca, .int .i64 e] 87)).alloc (.cells #[.int .i64 R, .int .i64 D, .int .i64 L, .int .i64 G, .bool gr] 42)) [.bool false, .slice none 0 0, .int .i64 0] 87
 simp only [World.size_alloc] at g1 c1
 by_cases hc : c = 0
 ·have HB1 : Hid _ := HB.out hc
  have HC1 : Hid _ := HC.out hc
  have HN1 : Hid _ := HNE.out hc
  have HF1 : Hid _ := HFA.out hc
  have HU1 : Hid _ := HNU.out hc
  have HS1 : Hid _ := HSH.out hc
  clear HA HB HC HNE HFA HNU HSH
  subst hc
  cases hd
  ·obtain ⟨h1, h2, h3, h4⟩ := HB1.out rfl
   clear HB1 HC1 HN1 HF1 HU1 HS1
   subst h1 h2 h3 h4
   obtain ⟨x0, x1, x2⟩ := q1.cs3
   obtain ⟨y0, y1, y2, y3, y4⟩ := g1.cs5
   go_enter Tryz.func40, Tryz.ntmps40
   go_wp2_with fail
   refine (HFI.out _ b1).mono ?_
   rintro z w2 ⟨v2, rfl, o2, bb2⟩
   obtain ⟨so, sc, hx2⟩ := o2.rd.shape
   subst hx2
   have r2 := o2.rd
   clear o2 x0 x1 x2 y0 y1 y2 y3 y4
   have q_2 := q1.later bb2
   have g_2 := g1.later bb2
   have c_2 := c1.later bb2
   have b0_2 := below_trans b1 bb2
   clear q1 g1 c1 b1 bb2
   have ap := below_alloc w2 (.cells #[.slice so (Dg.dg 4294967296 fd).length sc, .int .i64 fk] 136)
   have p2 := locE_new w2 [.slice so (Dg.dg 4294967296 fd).length sc, .int .i64 fk] 136
   have hSb : w.heap.size + 1 + 1 < w2.heap.size := c_2.lt
   have q_3 := q_2.later ap
   have g_3 := g_2.later ap
   have c_3 := c_2.later ap
   have r_3 := r2.later ap
   have b0_3 := below_trans b0_2 ap
   clear q_2 g_2 c_2 r2 b0_2 ap
   go_upto_region 2 with fail
   generalize w2.alloc (.cells #[.slice so (Dg.dg 4294967296 fd).length sc, .int .i64 fk] 136) = W2 at q_3 g_3 c_3 r_3 p2 b0_3 ⊢
   generalize w2.heap.size = SB at p2 hSb ⊢
   have d0 := c_3.cell 0 rfl
   have f0 := c_3.free 0
   have d1 := c_3.cell 1 rfl
   have f1 := c_3.free 1
   have d2 := c_3.cell 2 rfl
   have f2 := c_3.free 2
   go_wp2
   have bu : But (w.heap.size + 1 + 1) W2 (((W2.setCell ⟨w.heap.size + 1 + 1, 0, none⟩ (.bool false)).setCell ⟨w.heap.size + 1 + 1, 1, none⟩ (.slice none 0 0)).setCell ⟨w.heap.size + 1 + 1, 2, none⟩ (.int .i64 0)) := ((but_set W2 (w.heap.size + 1 + 1) 0 (.bool false)).trans (but_set _ (w.heap.size + 1 + 1) 1 (.slice none 0 0))).trans (but_set _ (w.heap.size + 1 + 1) 2 (.int .i64 0))
   have cX : LocE (((W2.setCell ⟨w.heap.size + 1 + 1, 0, none⟩ (.bool false)).setCell ⟨w.heap.size + 1 + 1, 1, none⟩ (.slice none 0 0)).setCell ⟨w.heap.size + 1 + 1, 2, none⟩ (.int .i64 0)) (w.heap.size + 1 + 1) 87 [.bool false, .slice none 0 0, .int .i64 0] := ((c_3.set 0 (.bool false)).set 1 (.slice none 0 0)).set 2 (.int .i64 0)
   have bX := bu.below b0_3 (show w.heap.size ≤ w.heap.size + 1 + 1 by omega)
   obtain ⟨s0, s1, s2⟩ := cX.cs3
   refine bodyPost_ret (v := .tuple #[.agg #[.bool false, .slice none 0 0, .int .i64 0], .int .i64 4]) (by simp [results, Tryz.results40, go_sem, s0, s1, s2]) rfl ?_
   exact ⟨_, rfl, own_nil _ _ _ _, bX⟩
  ·have HC2 : Hid _ := HC1.out rfl
   have HN2 : Hid _ := HN1.out rfl
   have HF2 : Hid _ := HF1.out rfl
   have HU2 : Hid _ := HU1.out rfl
   have HS2 : Hid _ := HS1.out rfl
   clear HB1 HC1 HN1 HF1 HU1 HS1
   obtain ⟨x0, x1, x2⟩ := q1.cs3
   obtain ⟨y0, y1, y2, y3, y4⟩ := g1.cs5
   go_enter Tryz.func40, Tryz.ntmps40
   go_wp2_with fail
   refine (HFI.out _ b1).mono ?_
   rintro z w2 ⟨v2, rfl, o2, bb2⟩
   obtain ⟨so, sc, hx2⟩ := o2.rd.shape
   subst hx2
   have r2 := o2.rd
   clear o2 x0 x1 x2 y0 y1 y2 y3 y4
   have q_2 := q1.later bb2
   have g_2 := g1.later bb2
   have c_2 := c1.later bb2
   have b0_2 := below_trans b1 bb2
   clear q1 g1 c1 b1 bb2
   have ap := below_alloc w2 (.cells #[.slice so (Dg.dg 4294967296 fd).length sc, .int .i64 fk] 136)
   have p2 := locE_new w2 [.slice so (Dg.dg 4294967296 fd).length sc, .int .i64 fk] 136
   have hSb : w.heap.size + 1 + 1 < w2.heap.size := c_2.lt
   have q_3 := q_2.later ap
   have g_3 := g_2.later ap
   have c_3 := c_2.later ap
   have r_3 := r2.later ap
   have b0_3 := below_trans b0_2 ap
   clear q_2 g_2 c_2 r2 b0_2 ap
   go_upto_region 2 with fail
   generalize w2.alloc (.cells #[.slice so (Dg.dg 4294967296 fd).length sc, .int .i64 fk] 136) = W2 at q_3 g_3 c_3 r_3 p2 b0_3 ⊢
   generalize w2.heap.size = SB at p2 hSb ⊢
   obtain ⟨x0, x1⟩ := q_3.cs2
   go_upto_if 31 with fail
   go_cut [11] (fun s11 wx => s11 = .bool ng ∧ wx = W2)
   case first =>
    by_cases hl : ((la : Int) == 0) = true
    ·have hg := HG1.out hl
     cases up
     ·go_wp2_with fail
      go_meet
      exact ⟨by rw [hg]; rfl, rfl⟩
     ·go_wp2_with fail
      go_meet
      exact ⟨by rw [hg]; rfl, rfl⟩
    ·have hl2 : ((la : Int) == 0) = false := by simpa using hl
     have hg := HG2.out hl2
     clear hl
     go_wp2_with fail
     go_meet
     exact ⟨by rw [hg], rfl⟩
   case rest =>
    obtain ⟨rfl, hw11⟩ := hcut
    subst hw11
    clear x0 x1 HG1 HG2
    have nS1 : w.heap.size + 1 ≠ SB := by omega
    have nS2 : w.heap.size + 1 + 1 ≠ SB := by omega
    have nSl : w.heap.size ≤ SB := by omega
    go_upto_if 36 with fail
    go_cut [11] (fun s11 wx => s11 = .bool ng ∧ SpotS w SB d2 k2 wx ∧ LocE wx (w.heap.size + 1) 42 [.int .i64 R, .int .i64 D, .int .i64 L, .int .i64 G, .bool gr] ∧ LocE wx (w.heap.size + 1 + 1) 87 [.bool false, .slice none 0 0, .int .i64 0] ∧ Below w.heap.size w wx)
    case first =>
     by_cases hnu : ng = up
     ·have HX : Hid _ := HN2.out hnu
      clear HN2 HF2
      subst hnu
      cases ng
      ·skip
       obtain ⟨y0, y1, y2, y3, y4⟩ := g_3.cs5
       obtain ⟨x0, x1⟩ := p2.cs2
       go_wp2_with fail
       refine (HX.out _ _ _ r_3).mono ?_
       rintro z w5 ⟨v5, rfl, o5, bb5⟩
       have oL := o5.lower b0_3.size
       obtain ⟨to1, tc1, hv5⟩ := oL.rd.shape
       subst hv5
       clear o5 y0 y1 y2 y3 y4 x0 x1
       have q_4 := q_3.later bb5
       have g_4 := g_3.later bb5
       have c_4 := c_3.later bb5
       have p_4 := p2.later bb5
       have b0_4 := below_trans b0_3 bb5
       clear q_3 g_3 c_3 p2 b0_3 bb5
       have z0 := p_4.cell 0 rfl
       have f0 := p_4.free 0
       have z1 := p_4.cell 1 rfl
       have f1 := p_4.free 1
       go_wp2_with fail
       go_meet
       have bu := (but_set w5 SB 0 (.slice to1 (Dg.dg 4294967296 d2).length tc1)).trans (but_set _ SB 1 (.int .i64 k2))
       exact ⟨rfl, ⟨to1, tc1, (p_4.set 0 _).set 1 _, bu.own oL p_4 (by decide)⟩, bu.loc g_4 nS1, bu.loc c_4 nS2, bu.below b0_4 nSl⟩
      ·skip
       obtain ⟨y0, y1, y2, y3, y4⟩ := g_3.cs5
       obtain ⟨x0, x1⟩ := p2.cs2
       go_wp2_with fail
       refine (HX.out _ _ _ r_3).mono ?_
       rintro z w5 ⟨v5, rfl, o5, bb5⟩
       have oL := o5.lower b0_3.size
       obtain ⟨to1, tc1, hv5⟩ := oL.rd.shape
       subst hv5
       clear o5 y0 y1 y2 y3 y4 x0 x1
       have q_4 := q_3.later bb5
       have g_4 := g_3.later bb5
       have c_4 := c_3.later bb5
       have p_4 := p2.later bb5
       have b0_4 := below_trans b0_3 bb5
       clear q_3 g_3 c_3 p2 b0_3 bb5
       have z0 := p_4.cell 0 rfl
       have f0 := p_4.free 0
       have z1 := p_4.cell 1 rfl
       have f1 := p_4.free 1
       go_wp2_with fail
       go_meet
       have bu := (but_set w5 SB 0 (.slice to1 (Dg.dg 4294967296 d2).length tc1)).trans (but_set _ SB 1 (.int .i64 k2))
       exact ⟨rfl, ⟨to1, tc1, (p_4.set 0 _).set 1 _, bu.own oL p_4 (by decide)⟩, bu.loc g_4 nS1, bu.loc c_4 nS2, bu.below b0_4 nSl⟩
     ·have HX : Hid _ := HF2.out hnu
      clear HN2 HF2
      cases ng
      ·cases up
       ·exact absurd rfl hnu
       ·clear hnu
        obtain ⟨y0, y1, y2, y3, y4⟩ := g_3.cs5
        obtain ⟨x0, x1⟩ := p2.cs2
        go_wp2_with fail
        refine (HX.out _ _ _ r_3).mono ?_
        rintro z w5 ⟨v5, rfl, o5, bb5⟩
        have oL := o5.lower b0_3.size
        obtain ⟨to1, tc1, hv5⟩ := oL.rd.shape
        subst hv5
        clear o5 y0 y1 y2 y3 y4 x0 x1
        have q_4 := q_3.later bb5
        have g_4 := g_3.later bb5
        have c_4 := c_3.later bb5
        have p_4 := p2.later bb5
        have b0_4 := below_trans b0_3 bb5
        clear q_3 g_3 c_3 p2 b0_3 bb5
        have z0 := p_4.cell 0 rfl
        have f0 := p_4.free 0
        have z1 := p_4.cell 1 rfl
        have f1 := p_4.free 1
        go_wp2_with fail
        go_meet
        have bu := (but_set w5 SB 0 (.slice to1 (Dg.dg 4294967296 d2).length tc1)).trans (but_set _ SB 1 (.int .i64 k2))
        exact ⟨rfl, ⟨to1, tc1, (p_4.set 0 _).set 1 _, bu.own oL p_4 (by decide)⟩, bu.loc g_4 nS1, bu.loc c_4 nS2, bu.below b0_4 nSl⟩
      ·cases up
       ·clear hnu
        obtain ⟨y0, y1, y2, y3, y4⟩ := g_3.cs5
        obtain ⟨x0, x1⟩ := p2.cs2
        go_wp2_with fail
        refine (HX.out _ _ _ r_3).mono ?_
        rintro z w5 ⟨v5, rfl, o5, bb5⟩
        have oL := o5.lower b0_3.size
        obtain ⟨to1, tc1, hv5⟩ := oL.rd.shape
        subst hv5
        clear o5 y0 y1 y2 y3 y4 x0 x1
        have q_4 := q_3.later bb5
        have g_4 := g_3.later bb5
        have c_4 := c_3.later bb5
        have p_4 := p2.later bb5
        have b0_4 := below_trans b0_3 bb5
        clear q_3 g_3 c_3 p2 b0_3 bb5
        have z0 := p_4.cell 0 rfl
        have f0 := p_4.free 0
        have z1 := p_4.cell 1 rfl
        have f1 := p_4.free 1
        go_wp2_with fail
        go_meet
        have bu := (but_set w5 SB 0 (.slice to1 (Dg.dg 4294967296 d2).length tc1)).trans (but_set _ SB 1 (.int .i64 k2))
        exact ⟨rfl, ⟨to1, tc1, (p_4.set 0 _).set 1 _, bu.own oL p_4 (by decide)⟩, bu.loc g_4 nS1, bu.loc c_4 nS2, bu.below b0_4 nSl⟩
       ·exact absurd rfl hnu
    case rest =>
     obtain ⟨rfl, ⟨to1, tc1, p9, o9⟩, g9, c9, b9⟩ := hcut
     clear q_3 g_3 c_3 r_3 p2 b0_3
     by_cases hk : G < k2
     ·obtain ⟨h1, h2, h3, h4⟩ := HC2.out hk
      clear HC2 HU2 HS2
      subst h1 h2 h3 h4
      have y3 := g9.cell 3 rfl
      have x1 := p9.cell 1 rfl
      have d0 := c9.cell 0 rfl
      have f0 := c9.free 0
      have d1 := c9.cell 1 rfl
      have f1 := c9.free 1
      have d2 := c9.cell 2 rfl
      have f2 := c9.free 2
      go_wp2
      have bu : But (w.heap.size + 1 + 1) wc (((wc.setCell ⟨w.heap.size + 1 + 1, 0, none⟩ (.bool false)).setCell ⟨w.heap.size + 1 + 1, 1, none⟩ (.slice none 0 0)).setCell ⟨w.heap.size + 1 + 1, 2, none⟩ (.int .i64 0)) := ((but_set wc (w.heap.size + 1 + 1) 0 (.bool false)).trans (but_set _ (w.heap.size + 1 + 1) 1 (.slice none 0 0))).trans (but_set _ (w.heap.size + 1 + 1) 2 (.int .i64 0))
      have cX : LocE (((wc.setCell ⟨w.heap.size + 1 + 1, 0, none⟩ (.bool false)).setCell ⟨w.heap.size + 1 + 1, 1, none⟩ (.slice none 0 0)).setCell ⟨w.heap.size + 1 + 1, 2, none⟩ (.int .i64 0)) (w.heap.size + 1 + 1) 87 [.bool false, .slice none 0 0, .int .i64 0] := ((c9.set 0 (.bool false)).set 1 (.slice none 0 0)).set 2 (.int .i64 0)
      have bX := bu.below b9 (show w.heap.size ≤ w.heap.size + 1 + 1 by omega)
      obtain ⟨s0, s1, s2⟩ := cX.cs3
      refine bodyPost_ret (v := .tuple #[.agg #[.bool false, .slice none 0 0, .int .i64 0], .int .i64 5]) (by simp [results, Tryz.results40, go_sem, s0, s1, s2]) rfl ?_
      exact ⟨_, rfl, own_nil _ _ _ _, bX⟩
     ·have HU3 : Hid _ := HU2.out (by omega)
      have HS3 : Hid _ := HS2.out (by omega)
      have hkf : decide (G < k2) = false := decide_eq_false hk
      clear HC2 HU2 HS2
      obtain ⟨y0, y1, y2, y3, y4⟩ := g9.cs5
      obtain ⟨x0, x1⟩ := p9.cs2
      go_wp2_with fail
      refine (HU3.out _ _ _).mono ?_
      rintro z w7 ⟨rfl, bb7⟩
      have hlow := Nat.le_trans b9.size bb7.size
      clear y0 y1 y2 y3 y4 x0 x1
      have p_61 := p9.later bb7
      have o_61 := o9.later bb7
      have g_61 := g9.later bb7
      have c_61 := c9.later bb7
      have b0_61 := below_trans b9 bb7
      clear p9 o9 g9 c9 b9 bb7
      go_wp2_with fail
      refine (HS3.out _ _ _ b0_61 o_61.rd).mono ?_
      rintro z w8 ⟨v8, rfl, o8, bb62⟩
      have p_62 := p_61.later bb62
      have o_62 := o_61.later bb62
      have g_62 := g_61.later bb62
      have c_62 := c_61.later bb62
      have b0_62 := below_trans b0_61 bb62
      clear p_61 o_61 g_61 c_61 b0_61 bb62
      skip
      obtain ⟨uo, uc, hv8⟩ := o8.rd.shape
      subst hv8
      have d0 := c_62.cell 0 rfl
      have f0 := c_62.free 0
      have d1 := c_62.cell 1 rfl
      have f1 := c_62.free 1
      have d2 := c_62.cell 2 rfl
      have f2 := c_62.free 2
      go_wp2
      have bu : But (w.heap.size + 1 + 1) w8 (((w8.setCell ⟨w.heap.size + 1 + 1, 0, none⟩ (.bool rs)).setCell ⟨w.heap.size + 1 + 1, 1, none⟩ (.slice uo (Dg.dg 4294967296 rn).length uc)).setCell ⟨w.heap.size + 1 + 1, 2, none⟩ (.int .i64 re)) := ((but_set w8 (w.heap.size + 1 + 1) 0 (.bool rs)).trans (but_set _ (w.heap.size + 1 + 1) 1 (.slice uo (Dg.dg 4294967296 rn).length uc))).trans (but_set _ (w.heap.size + 1 + 1) 2 (.int .i64 re))
      have cX : LocE (((w8.setCell ⟨w.heap.size + 1 + 1, 0, none⟩ (.bool rs)).setCell ⟨w.heap.size + 1 + 1, 1, none⟩ (.slice uo (Dg.dg 4294967296 rn).length uc)).setCell ⟨w.heap.size + 1 + 1, 2, none⟩ (.int .i64 re)) (w.heap.size + 1 + 1) 87 [.bool rs, .slice uo (Dg.dg 4294967296 rn).length uc, .int .i64 re] := ((c_62.set 0 (.bool rs)).set 1 (.slice uo (Dg.dg 4294967296 rn).length uc)).set 2 (.int .i64 re)
      have bX := bu.below b0_62 (show w.heap.size ≤ w.heap.size + 1 + 1 by omega)
      have oX := bu.own o8 c_62 (by decide)
      obtain ⟨s0, s1, s2⟩ := cX.cs3
      refine bodyPost_ret (v := .tuple #[.agg #[.bool rs, .slice uo (Dg.dg 4294967296 rn).length uc, .int .i64 re], .int .i64 rc]) (by simp [results, Tryz.results40, go_sem, s0, s1, s2]) rfl ?_
      exact ⟨_, rfl, oX.lower hlow, bX⟩
 ·obtain ⟨h1, h2, h3, h4⟩ := HA.out hc
  clear HA HB HC HNE HFA HNU HSH
  have hcf : (c == 0) = false := by simp [hc]
  subst h1 h2 h3 h4
  obtain ⟨x0, x1, x2⟩ := q1.cs3
  obtain ⟨y0, y1, y2, y3, y4⟩ := g1.cs5
  go_enter Tryz.func40, Tryz.ntmps40
  go_wp2_with fail
  refine (HFI.out _ b1).mono ?_
  rintro z w2 ⟨v2, rfl, o2, bb2⟩
  obtain ⟨so, sc, hx2⟩ := o2.rd.shape
  subst hx2
  have r2 := o2.rd
  clear o2 x0 x1 x2 y0 y1 y2 y3 y4
  have q_2 := q1.later bb2
  have g_2 := g1.later bb2
  have c_2 := c1.later bb2
  have b0_2 := below_trans b1 bb2
  clear q1 g1 c1 b1 bb2
  have ap := below_alloc w2 (.cells #[.slice so (Dg.dg 4294967296 fd).length sc, .int .i64 fk] 136)
  have p2 := locE_new w2 [.slice so (Dg.dg 4294967296 fd).length sc, .int .i64 fk] 136
  have hSb : w.heap.size + 1 + 1 < w2.heap.size := c_2.lt
  have q_3 := q_2.later ap
  have g_3 := g_2.later ap
  have c_3 := c_2.later ap
  have r_3 := r2.later ap
  have b0_3 := below_trans b0_2 ap
  clear q_2 g_2 c_2 r2 b0_2 ap
  go_upto_region 2 with fail
  generalize w2.alloc (.cells #[.slice so (Dg.dg 4294967296 fd).length sc, .int .i64 fk] 136) = W2 at q_3 g_3 c_3 r_3 p2 b0_3 ⊢
  generalize w2.heap.size = SB at p2 hSb ⊢
  have d0 := c_3.cell 0 rfl
  have f0 := c_3.free 0
  have d1 := c_3.cell 1 rfl
  have f1 := c_3.free 1
  have d2 := c_3.cell 2 rfl
  have f2 := c_3.free 2
  go_wp2
  have bu : But (w.heap.size + 1 + 1) W2 (((W2.setCell ⟨w.heap.size + 1 + 1, 0, none⟩ (.bool false)).setCell ⟨w.heap.size + 1 + 1, 1, none⟩ (.slice none 0 0)).setCell ⟨w.heap.size + 1 + 1, 2, none⟩ (.int .i64 0)) := ((but_set W2 (w.heap.size + 1 + 1) 0 (.bool false)).trans (but_set _ (w.heap.size + 1 + 1) 1 (.slice none 0 0))).trans (but_set _ (w.heap.size + 1 + 1) 2 (.int .i64 0))
  have cX : LocE (((W2.setCell ⟨w.heap.size + 1 + 1, 0, none⟩ (.bool false)).setCell ⟨w.heap.size + 1 + 1, 1, none⟩ (.slice none 0 0)).setCell ⟨w.heap.size + 1 + 1, 2, none⟩ (.int .i64 0)) (w.heap.size + 1 + 1) 87 [.bool false, .slice none 0 0, .int .i64 0] := ((c_3.set 0 (.bool false)).set 1 (.slice none 0 0)).set 2 (.int .i64 0)
  have bX := bu.below b0_3 (show w.heap.size ≤ w.heap.size + 1 + 1 by omega)
  obtain ⟨s0, s1, s2⟩ := cX.cs3
  refine bodyPost_ret (v := .tuple #[.agg #[.bool false, .slice none 0 0, .int .i64 0], .int .i64 rc]) (by simp [results, Tryz.results40, go_sem, s0, s1, s2]) rfl ?_
  exact ⟨_, rfl, own_nil _ _ _ _, bX⟩
end Go.Proofs.YtiiphandhpilgaaGreatDoor

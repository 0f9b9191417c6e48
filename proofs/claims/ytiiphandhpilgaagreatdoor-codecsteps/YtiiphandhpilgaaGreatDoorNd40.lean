/-
  Texts laid together: Gs1.
-/
import Derived.Laws.ResultCell
import Derived.ChangeMaps4
import Derived.Deep.Cut
import Derived.Deep.DeepCutAuto
import Derived.Test.YtiiphandhpilgaaGreatDoorNd06
set_option maxRecDepth 100000
namespace Go.Proofs.YtiiphandhpilgaaGreatDoor
open Go.RowKit
def SpotRes (w : World) (d : Nat) (k : Int) (e : Ending) (w' : World) : Prop :=
 ∃ u, e = .returned (.agg #[u, .int .i64 k]) ∧ Own w' w.heap.size 79 .u32 u (Dg.dg 4294967296 d) ∧ Below w.heap.size w w'
set_option maxHeartbeats 3200000 in
theorem fartherW (R D L G : Int) (gr : Bool) (ao : Option Addr) (la ca : Nat) (p : Int) (d f : Nat) (cd : Nat) (ck : Int) (bb : Bool) (rd : Nat) (rk : Int) (w : World)
  (HB1 : bb = true → ((la : Int) == 0) = true ∧ gr = false) (HB2 : bb = false → ((la : Int) == 0) = false ∨ (((la : Int) == 0) = true ∧ gr = true)) (HR1 : bb = true → f = rd ∧ L = rk) (HR2 : bb = false → rd = cd ∧ rk = ck)
  (HRD : ∀ w1, Below w.heap.size w w1 → Rd w1 .u32 (.slice ao la ca) (Dg.dg 4294967296 d))
  (HF : ∀ w1, Calls Tryz.prog 102 #[.agg #[.int .i64 R, .int .i64 D, .int .i64 L, .int .i64 G, .bool gr]] w1 (Num w1 f))
  (HP : ∀ v u w1, Rd w1 .u32 v (Dg.dg 4294967296 d) → Rd w1 .u32 u [1] → Calls Tryz.prog 106 #[v, u] w1 (Num w1 (d + 1)))
  (HC : ∀ v base w1, Own w1 base 79 .u32 v (Dg.dg 4294967296 (d + 1)) → base ≤ w1.heap.size → Calls Tryz.prog 105 #[.agg #[.int .i64 R, .int .i64 D, .int .i64 L, .int .i64 G, .bool gr], .agg #[v, .int .i64 p]] w1 fun z w' => ∃ u, z = .returned (.agg #[u, .int .i64 ck]) ∧ Own w' base 79 .u32 u (Dg.dg 4294967296 cd) ∧ Below w1.heap.size w1 w') :
  Calls Tryz.prog 71 #[.agg #[.int .i64 R, .int .i64 D, .int .i64 L, .int .i64 G, .bool gr], .agg #[.slice ao la ca, .int .i64 p]] w (SpotRes w rd rk) := by
 replace HB1 : Hid _ := HB1
 replace HB2 : Hid _ := HB2
 replace HR1 : Hid _ := HR1
 replace HR2 : Hid _ := HR2
 replace HRD : Hid _ := HRD
 replace HF : Hid _ := HF
 replace HP : Hid _ := HP
 replace HC : Hid _ := HC
 have b1 := below_trans (below_trans (below_alloc w (.cells #[.int .i64 R, .int .i64 D, .int .i64 L, .int .i64 G, .bool gr] 140)) (below_alloc _ (.cells #[.slice ao la ca, .int .i64 p] 136))) (below_alloc _ (.cells #[.slice none 0 0, .int .i64 0] 136))
 have g1 := ((locE_new w [.int .i64 R, .int .i64 D, .int .i64 L, .int .i64 G, .bool gr] 140).later (below_alloc _ (.cells #[.slice ao la ca, .int .i64 p] 136))).later (below_alloc _ (.cells #[.slice none 0 0, .int .i64 0] 136))
 have s1 := (locE_new (w.alloc (.cells #[.int .i64 R, .int .i64 D, .int .i64 L, .int .i64 G, .bool gr] 140)) [.slice ao la ca, .int .i64 p] 136).later (below_alloc _ (.cells #[.slice none 0 0, .int .i64 0] 136))
 have c1 := locE_new ((w.alloc (.cells #[.int .i64 R, .int .i64 D, .int .i64 L, .int .i64 G, .bool gr] 140)).alloc (.cells #[.slice ao la ca, .int .i64 p] 136)) [.slice none 0 0, .int .i64 0] 136
 simp only [World.size_alloc] at s1 c1
 have nA : w.heap.size + 1 + 1 ≠ w.heap.size := by omega
 have nB : w.heap.size + 1 + 1 ≠ w.heap.size + 1 := by omega
 cases bb
 ·have hx := HB2.out rfl
  obtain ⟨h1, h2⟩ := HR2.out rfl
  clear HB1 HB2 HR1 HR2
  subst h1 h2
  rcases hx with hx | ⟨hx, hg⟩
  ·skip
   have y0 := s1.cell 0 rfl
   go_enter Tryz.func71, Tryz.ntmps71
   go_upto_region 1 with fail
   clear y0
   generalize ((w.alloc (.cells #[.int .i64 R, .int .i64 D, .int .i64 L, .int .i64 G, .bool gr] 140)).alloc (.cells #[.slice ao la ca, .int .i64 p] 136)).alloc (.cells #[.slice none 0 0, .int .i64 0] 136) = W0 at g1 s1 c1 b1 ⊢
   have aB := below_alloc W0 (.cells #[.int .u32 1] 79)
   have one := (rd_new (w := W0) (k := .u32) (e := 79) [1] #[.int .u32 1] rfl (by unfold maxLen; simp)).later ((Below.refl _ _).drew)
   have q0 := s1.cell 0 rfl
   have x4z := g1.cell 4 rfl
   have g_D := g1.drew
   have s_D := s1.drew
   obtain ⟨v0, v1, v2, v3, v4⟩ := g_D.cs5
   obtain ⟨u0, u1⟩ := s_D.cs2
   have g_2 := g1.later aB
   have s_2 := s1.later aB
   have c_2 := c1.later aB
   have b0_2 := below_trans b1 aB
   clear g1 s1 c1 b1 aB
   have g_3 := g_2.later ((Below.refl _ _).drew)
   have s_3 := s_2.later ((Below.refl _ _).drew)
   have c_3 := c_2.later ((Below.refl _ _).drew)
   have b0_3 := below_trans b0_2 ((Below.refl _ _).drew)
   clear g_2 s_2 c_2 b0_2
   have rdA := HRD.out _ b0_3
   obtain ⟨x0, x1, x2, x3, x4⟩ := g_3.cs5
   obtain ⟨y0, y1⟩ := s_3.cs2
   go_wp2_with fail
   go_region_held3 (fun wq => (wq.cell? ⟨w.heap.size, 0, none⟩ = some (.int .i64 R) ∧ wq.cell? ⟨w.heap.size, 1, none⟩ = some (.int .i64 D) ∧ wq.cell? ⟨w.heap.size, 2, none⟩ = some (.int .i64 L) ∧ wq.cell? ⟨w.heap.size, 3, none⟩ = some (.int .i64 G) ∧ wq.cell? ⟨w.heap.size, 4, none⟩ = some (.bool gr)) ∧ wq.cell? ⟨w.heap.size + 1, 0, none⟩ = some (.slice ao la ca) ∧ wq.cell? ⟨w.heap.size + 1, 1, none⟩ = some (.int .i64 p)) (go_keep) (first
    | (go_at_call 106; have hgd := b0_3; clear hgd; refine (HP.out _ _ _ rdA one).mono ?_; rintro z wa ⟨v1, rfl, o1, bb_wa⟩; have b0_wa := below_trans b0_3 bb_wa; have g_wa := g_3.later bb_wa; have s_wa := s_3.later bb_wa; have c_wa := c_3.later bb_wa; obtain ⟨xwa0, xwa1, xwa2, xwa3, xwa4⟩ := g_wa.cs5; obtain ⟨ywa0, ywa1⟩ := s_wa.cs2; obtain ⟨to1, tc1, hv1⟩ := o1.rd.shape; subst hv1; have oA := o1.lower b0_3.size; have hsz := b0_wa.size; clear b0_3)
    | (go_at_call 105; have hgd := b0_wa; clear hgd; refine (HC.out _ _ _ oA hsz).mono ?_; rintro z wb ⟨v2, rfl, o2, bb_wb⟩; have b0_wb := below_trans b0_wa bb_wb; have g_wb := g_wa.later bb_wb; have s_wb := s_wa.later bb_wb; have c_wb := c_wa.later bb_wb; obtain ⟨xwb0, xwb1, xwb2, xwb3, xwb4⟩ := g_wb.cs5; obtain ⟨ywb0, ywb1⟩ := s_wb.cs2; obtain ⟨so, sc, hv9⟩ := o2.rd.shape; subst hv9; obtain ⟨d0, d1⟩ := c_wb.cs2; have f0 := c_wb.free 0; have f1 := c_wb.free 1; clear b0_wa))
   all_goals go_wp2
   have bu : But (w.heap.size + 1 + 1) wb ((wb.setCell ⟨w.heap.size + 1 + 1, 0, none⟩ (.slice so (Dg.dg 4294967296 rd).length sc)).setCell ⟨w.heap.size + 1 + 1, 1, none⟩ (.int .i64 rk)) := (but_set wb (w.heap.size + 1 + 1) 0 (.slice so (Dg.dg 4294967296 rd).length sc)).trans (but_set _ (w.heap.size + 1 + 1) 1 (.int .i64 rk))
   have cX : LocE ((wb.setCell ⟨w.heap.size + 1 + 1, 0, none⟩ (.slice so (Dg.dg 4294967296 rd).length sc)).setCell ⟨w.heap.size + 1 + 1, 1, none⟩ (.int .i64 rk)) (w.heap.size + 1 + 1) 136 [.slice so (Dg.dg 4294967296 rd).length sc, .int .i64 rk] := (c_wb.set 0 (.slice so (Dg.dg 4294967296 rd).length sc)).set 1 (.int .i64 rk)
   have bX := bu.below b0_wb (show w.heap.size ≤ w.heap.size + 1 + 1 by omega)
   have oX := bu.own o2 c_wb (by decide)
   obtain ⟨s0, s1⟩ := cX.cs2
   refine bodyPost_ret (v := .agg #[.slice so (Dg.dg 4294967296 rd).length sc, .int .i64 rk]) (by simp [results, Tryz.results71, go_sem, s0, s1]) rfl ?_
   exact ⟨_, rfl, oX, bX⟩
  ·subst hg
   have y0 := s1.cell 0 rfl
   go_enter Tryz.func71, Tryz.ntmps71
   go_upto_region 1 with fail
   clear y0
   generalize ((w.alloc (.cells #[.int .i64 R, .int .i64 D, .int .i64 L, .int .i64 G, .bool true] 140)).alloc (.cells #[.slice ao la ca, .int .i64 p] 136)).alloc (.cells #[.slice none 0 0, .int .i64 0] 136) = W0 at g1 s1 c1 b1 ⊢
   have aB := below_alloc W0 (.cells #[.int .u32 1] 79)
   have one := (rd_new (w := W0) (k := .u32) (e := 79) [1] #[.int .u32 1] rfl (by unfold maxLen; simp)).later ((Below.refl _ _).drew)
   have q0 := s1.cell 0 rfl
   have x4z := g1.cell 4 rfl
   have g_D := g1.drew
   have s_D := s1.drew
   obtain ⟨v0, v1, v2, v3, v4⟩ := g_D.cs5
   obtain ⟨u0, u1⟩ := s_D.cs2
   have g_2 := g1.later aB
   have s_2 := s1.later aB
   have c_2 := c1.later aB
   have b0_2 := below_trans b1 aB
   clear g1 s1 c1 b1 aB
   have g_3 := g_2.later ((Below.refl _ _).drew)
   have s_3 := s_2.later ((Below.refl _ _).drew)
   have c_3 := c_2.later ((Below.refl _ _).drew)
   have b0_3 := below_trans b0_2 ((Below.refl _ _).drew)
   clear g_2 s_2 c_2 b0_2
   have rdA := HRD.out _ b0_3
   obtain ⟨x0, x1, x2, x3, x4⟩ := g_3.cs5
   obtain ⟨y0, y1⟩ := s_3.cs2
   go_wp2_with fail
   go_region_held3 (fun wq => (wq.cell? ⟨w.heap.size, 0, none⟩ = some (.int .i64 R) ∧ wq.cell? ⟨w.heap.size, 1, none⟩ = some (.int .i64 D) ∧ wq.cell? ⟨w.heap.size, 2, none⟩ = some (.int .i64 L) ∧ wq.cell? ⟨w.heap.size, 3, none⟩ = some (.int .i64 G) ∧ wq.cell? ⟨w.heap.size, 4, none⟩ = some (.bool true)) ∧ wq.cell? ⟨w.heap.size + 1, 0, none⟩ = some (.slice ao la ca) ∧ wq.cell? ⟨w.heap.size + 1, 1, none⟩ = some (.int .i64 p)) (go_keep) (first
    | (go_at_call 106; have hgd := b0_3; clear hgd; refine (HP.out _ _ _ rdA one).mono ?_; rintro z wa ⟨v1, rfl, o1, bb_wa⟩; have b0_wa := below_trans b0_3 bb_wa; have g_wa := g_3.later bb_wa; have s_wa := s_3.later bb_wa; have c_wa := c_3.later bb_wa; obtain ⟨xwa0, xwa1, xwa2, xwa3, xwa4⟩ := g_wa.cs5; obtain ⟨ywa0, ywa1⟩ := s_wa.cs2; obtain ⟨to1, tc1, hv1⟩ := o1.rd.shape; subst hv1; have oA := o1.lower b0_3.size; have hsz := b0_wa.size; clear b0_3)
    | (go_at_call 105; have hgd := b0_wa; clear hgd; refine (HC.out _ _ _ oA hsz).mono ?_; rintro z wb ⟨v2, rfl, o2, bb_wb⟩; have b0_wb := below_trans b0_wa bb_wb; have g_wb := g_wa.later bb_wb; have s_wb := s_wa.later bb_wb; have c_wb := c_wa.later bb_wb; obtain ⟨xwb0, xwb1, xwb2, xwb3, xwb4⟩ := g_wb.cs5; obtain ⟨ywb0, ywb1⟩ := s_wb.cs2; obtain ⟨so, sc, hv9⟩ := o2.rd.shape; subst hv9; obtain ⟨d0, d1⟩ := c_wb.cs2; have f0 := c_wb.free 0; have f1 := c_wb.free 1; clear b0_wa))
   all_goals go_wp2
   have bu : But (w.heap.size + 1 + 1) wb ((wb.setCell ⟨w.heap.size + 1 + 1, 0, none⟩ (.slice so (Dg.dg 4294967296 rd).length sc)).setCell ⟨w.heap.size + 1 + 1, 1, none⟩ (.int .i64 rk)) := (but_set wb (w.heap.size + 1 + 1) 0 (.slice so (Dg.dg 4294967296 rd).length sc)).trans (but_set _ (w.heap.size + 1 + 1) 1 (.int .i64 rk))
   have cX : LocE ((wb.setCell ⟨w.heap.size + 1 + 1, 0, none⟩ (.slice so (Dg.dg 4294967296 rd).length sc)).setCell ⟨w.heap.size + 1 + 1, 1, none⟩ (.int .i64 rk)) (w.heap.size + 1 + 1) 136 [.slice so (Dg.dg 4294967296 rd).length sc, .int .i64 rk] := (c_wb.set 0 (.slice so (Dg.dg 4294967296 rd).length sc)).set 1 (.int .i64 rk)
   have bX := bu.below b0_wb (show w.heap.size ≤ w.heap.size + 1 + 1 by omega)
   have oX := bu.own o2 c_wb (by decide)
   obtain ⟨s0, s1⟩ := cX.cs2
   refine bodyPost_ret (v := .agg #[.slice so (Dg.dg 4294967296 rd).length sc, .int .i64 rk]) (by simp [results, Tryz.results71, go_sem, s0, s1]) rfl ?_
   exact ⟨_, rfl, oX, bX⟩
 ·obtain ⟨hx, hg⟩ := HB1.out rfl
  obtain ⟨h1, h2⟩ := HR1.out rfl
  clear HB1 HB2 HR1 HR2
  subst h1 h2 hg
  have q0' := s1.cell 0 rfl
  have x4' := g1.cell 4 rfl
  have g_2 := g1.later ((Below.refl _ _).drew)
  have s_2 := s1.later ((Below.refl _ _).drew)
  have c_2 := c1.later ((Below.refl _ _).drew)
  have b0_2 := below_trans b1 ((Below.refl _ _).drew)
  clear g1 s1 c1 b1
  obtain ⟨x0, x1, x2, x3, x4⟩ := g_2.cs5
  obtain ⟨y0, y1⟩ := s_2.cs2
  go_enter Tryz.func71, Tryz.ntmps71
  go_wp2_with fail
  go_region_held3 (fun wq => wq.cell? ⟨w.heap.size, 0, none⟩ = some (.int .i64 R) ∧ wq.cell? ⟨w.heap.size, 1, none⟩ = some (.int .i64 D) ∧ wq.cell? ⟨w.heap.size, 2, none⟩ = some (.int .i64 L) ∧ wq.cell? ⟨w.heap.size, 3, none⟩ = some (.int .i64 G) ∧ wq.cell? ⟨w.heap.size, 4, none⟩ = some (.bool false)) (go_keep) (first
   | (go_at_call 102; have hgd := b0_2; clear hgd; refine (HF.out _).mono ?_; rintro z wa ⟨v2, rfl, o2, bb_wa⟩; have b0_wa := below_trans b0_2 bb_wa; have g_wa := g_2.later bb_wa; have s_wa := s_2.later bb_wa; have c_wa := c_2.later bb_wa; obtain ⟨xwa0, xwa1, xwa2, xwa3, xwa4⟩ := g_wa.cs5; obtain ⟨ywa0, ywa1⟩ := s_wa.cs2; have o3 := o2.lower b0_2.size; obtain ⟨so, sc, hv9⟩ := o3.rd.shape; subst hv9; obtain ⟨d0, d1⟩ := c_wa.cs2; have f0 := c_wa.free 0; have f1 := c_wa.free 1; clear b0_2))
  all_goals go_wp2
  have bu : But (w.heap.size + 1 + 1) wa ((wa.setCell ⟨w.heap.size + 1 + 1, 0, none⟩ (.slice so (Dg.dg 4294967296 f).length sc)).setCell ⟨w.heap.size + 1 + 1, 1, none⟩ (.int .i64 L)) := (but_set wa (w.heap.size + 1 + 1) 0 (.slice so (Dg.dg 4294967296 f).length sc)).trans (but_set _ (w.heap.size + 1 + 1) 1 (.int .i64 L))
  have cX : LocE ((wa.setCell ⟨w.heap.size + 1 + 1, 0, none⟩ (.slice so (Dg.dg 4294967296 f).length sc)).setCell ⟨w.heap.size + 1 + 1, 1, none⟩ (.int .i64 L)) (w.heap.size + 1 + 1) 136 [.slice so (Dg.dg 4294967296 f).length sc, .int .i64 L] := (c_wa.set 0 (.slice so (Dg.dg 4294967296 f).length sc)).set 1 (.int .i64 L)
  have bX := bu.below b0_wa (show w.heap.size ≤ w.heap.size + 1 + 1 by omega)
  have oX := bu.own o3 c_wa (by decide)
  obtain ⟨s0, s1⟩ := cX.cs2
  refine bodyPost_ret (v := .agg #[.slice so (Dg.dg 4294967296 f).length sc, .int .i64 L]) (by simp [results, Tryz.results71, go_sem, s0, s1]) rfl ?_
  exact ⟨_, rfl, oX, bX⟩
set_option maxHeartbeats 3200000 in
theorem nearerW (R D L G : Int) (gr : Bool) (ao : Option Addr) (la ca : Nat) (p cv : Int) (d f n : Nat) (rd : Nat) (rk : Int) (w : World)
  (WP : L < p → IntKind.i64.wrap (p - 1) = p - 1)
  (H1 : ¬cv = 0 → d - 1 = rd ∧ p = rk) (H2 : cv = 0 → L < p → n - 1 = rd ∧ p - 1 = rk) (H3 : cv = 0 → ¬L < p → gr = true → d - 1 = rd ∧ L = rk) (H4 : cv = 0 → ¬L < p → gr = false → 0 = rd ∧ L = rk)
  (HRD : ∀ w1, Below w.heap.size w w1 → Rd w1 .u32 (.slice ao la ca) (Dg.dg 4294967296 d))
  (HF : ∀ w1, Calls Tryz.prog 102 #[.agg #[.int .i64 R, .int .i64 D, .int .i64 L, .int .i64 G, .bool gr]] w1 (Num w1 f))
  (HE : ∀ w1, Calls Tryz.prog 104 #[.agg #[.int .i64 R, .int .i64 D, .int .i64 L, .int .i64 G, .bool gr]] w1 (Num w1 n))
  (HC : ∀ v u w1, Rd w1 .u32 v (Dg.dg 4294967296 d) → Rd w1 .u32 u (Dg.dg 4294967296 f) → Calls Tryz.prog 101 #[v, u] w1 fun z w' => z = .returned (.int .i64 cv) ∧ Below w1.heap.size w1 w')
  (HM : ∀ v u w1, Rd w1 .u32 v (Dg.dg 4294967296 d) → Rd w1 .u32 u [1] → Calls Tryz.prog 103 #[v, u] w1 (Num w1 (d - 1)))
  (HN : ∀ v u w1, Rd w1 .u32 v (Dg.dg 4294967296 n) → Rd w1 .u32 u [1] → Calls Tryz.prog 103 #[v, u] w1 (Num w1 (n - 1))) :
  Calls Tryz.prog 70 #[.agg #[.int .i64 R, .int .i64 D, .int .i64 L, .int .i64 G, .bool gr], .agg #[.slice ao la ca, .int .i64 p]] w (SpotRes w rd rk) := by
 replace WP : Hid _ := WP
 replace H1 : Hid _ := H1
 replace H2 : Hid _ := H2
 replace H3 : Hid _ := H3
 replace H4 : Hid _ := H4
 replace HRD : Hid _ := HRD
 replace HF : Hid _ := HF
 replace HE : Hid _ := HE
 replace HC : Hid _ := HC
 replace HM : Hid _ := HM
 replace HN : Hid _ := HN
 have b1 := below_trans (below_trans (below_alloc w (.cells #[.int .i64 R, .int .i64 D, .int .i64 L, .int .i64 G, .bool gr] 140)) (below_alloc _ (.cells #[.slice ao la ca, .int .i64 p] 136))) (below_alloc _ (.cells #[.slice none 0 0, .int .i64 0] 136))
 have g1 := ((locE_new w [.int .i64 R, .int .i64 D, .int .i64 L, .int .i64 G, .bool gr] 140).later (below_alloc _ (.cells #[.slice ao la ca, .int .i64 p] 136))).later (below_alloc _ (.cells #[.slice none 0 0, .int .i64 0] 136))
 have s1 := (locE_new (w.alloc (.cells #[.int .i64 R, .int .i64 D, .int .i64 L, .int .i64 G, .bool gr] 140)) [.slice ao la ca, .int .i64 p] 136).later (below_alloc _ (.cells #[.slice none 0 0, .int .i64 0] 136))
 have c1 := locE_new ((w.alloc (.cells #[.int .i64 R, .int .i64 D, .int .i64 L, .int .i64 G, .bool gr] 140)).alloc (.cells #[.slice ao la ca, .int .i64 p] 136)) [.slice none 0 0, .int .i64 0] 136
 simp only [World.size_alloc] at s1 c1
 have nA : w.heap.size + 1 + 1 ≠ w.heap.size := by omega
 have nB : w.heap.size + 1 + 1 ≠ w.heap.size + 1 := by omega
 by_cases hcv : cv = 0
 ·have HA : Hid _ := H2.out hcv
  have HB : Hid _ := H3.out hcv
  have HD : Hid _ := H4.out hcv
  clear H1 H2 H3 H4
  subst hcv
  by_cases hp : L < p
  ·obtain ⟨h1, h2⟩ := HA.out hp
   have wp := WP.out hp
   clear HA HB HD WP
   subst h1 h2
   go_enter Tryz.func70, Tryz.ntmps70
   go_upto_region 1 with fail
   generalize ((w.alloc (.cells #[.int .i64 R, .int .i64 D, .int .i64 L, .int .i64 G, .bool gr] 140)).alloc (.cells #[.slice ao la ca, .int .i64 p] 136)).alloc (.cells #[.slice none 0 0, .int .i64 0] 136) = W0 at g1 s1 c1 b1 ⊢
   have aB := below_alloc W0 (.cells #[.int .u32 1] 79)
   have one := rd_new (w := W0) (k := .u32) (e := 79) [1] #[.int .u32 1] rfl (by unfold maxLen; simp)
   have g_2 := g1.later aB
   have s_2 := s1.later aB
   have c_2 := c1.later aB
   have b0_2 := below_trans b1 aB
   clear g1 s1 c1 b1 aB
   go_upto_region 2 with fail
   generalize W0.alloc (.cells #[.int .u32 1] 79) = W1 at g_2 s_2 c_2 one b0_2 ⊢
   have bd_2 : Below W1.heap.size W1 W1.drew := (Below.refl _ _).drew
   have g_3 := g_2.later bd_2
   have s_3 := s_2.later bd_2
   have c_3 := c_2.later bd_2
   have o_3 := one.later bd_2
   have b0_3 := below_trans b0_2 bd_2
   clear g_2 s_2 c_2 one b0_2 bd_2
   have rdA := HRD.out _ b0_3
   obtain ⟨x0, x1, x2, x3, x4⟩ := g_3.cs5
   obtain ⟨y0, y1⟩ := s_3.cs2
   go_wp2_with fail
   go_region_held3 (fun wq => (wq.cell? ⟨w.heap.size, 0, none⟩ = some (.int .i64 R) ∧ wq.cell? ⟨w.heap.size, 1, none⟩ = some (.int .i64 D) ∧ wq.cell? ⟨w.heap.size, 2, none⟩ = some (.int .i64 L) ∧ wq.cell? ⟨w.heap.size, 3, none⟩ = some (.int .i64 G) ∧ wq.cell? ⟨w.heap.size, 4, none⟩ = some (.bool gr)) ∧ wq.cell? ⟨w.heap.size + 1, 0, none⟩ = some (.slice ao la ca) ∧ wq.cell? ⟨w.heap.size + 1, 1, none⟩ = some (.int .i64 p)) (go_keep) (first
    | (go_at_call 102; have hgd := b0_3; clear hgd; refine (HF.out _).mono ?_; rintro z wa ⟨v1, rfl, o1, bb_wa⟩; have b0_wa := below_trans b0_3 bb_wa; have g_wa := g_3.later bb_wa; have s_wa := s_3.later bb_wa; have c_wa := c_3.later bb_wa; have o_wa := o_3.later bb_wa; have r_wa := rdA.later bb_wa; obtain ⟨xwa0, xwa1, xwa2, xwa3, xwa4⟩ := g_wa.cs5; obtain ⟨ywa0, ywa1⟩ := s_wa.cs2; clear b0_3)
    | (go_at_call 101; have hgd := b0_wa; clear hgd; refine (HC.out _ _ _ r_wa o1.rd).mono ?_; rintro z wb ⟨rfl, bb_wb⟩; have b0_wb := below_trans b0_wa bb_wb; have g_wb := g_wa.later bb_wb; have s_wb := s_wa.later bb_wb; have c_wb := c_wa.later bb_wb; have o_wb := o_wa.later bb_wb; have r_wb := r_wa.later bb_wb; obtain ⟨xwb0, xwb1, xwb2, xwb3, xwb4⟩ := g_wb.cs5; obtain ⟨ywb0, ywb1⟩ := s_wb.cs2; clear b0_wa))
   go_goals
   clear x0 x1 x2 x3 x4 y0 y1 xwa0 xwa1 xwa2 xwa3 xwa4 xwb0 xwb1 xwb2 xwb3 xwb4 ywa0 ywa1 ywb0 ywb1
   have y1 := s_wb.cell 1 rfl
   have x2 := g_wb.cell 2 rfl
   go_upto_region 5 with fail
   clear y1 x2
   have bd_20 : Below wb.heap.size wb wb.drew := (Below.refl _ _).drew
   have g_21 := g_wb.later bd_20
   have s_21 := s_wb.later bd_20
   have c_21 := c_wb.later bd_20
   have o_21 := o_wb.later bd_20
   have r_21 := r_wb.later bd_20
   have b0_21 := below_trans b0_wb bd_20
   clear g_wb s_wb c_wb o_wb r_wb b0_wb bd_20
   obtain ⟨x0, x1, x2, x3, x4⟩ := g_21.cs5
   obtain ⟨y0, y1⟩ := s_21.cs2
   go_region_held3 (fun wq => (wq.cell? ⟨w.heap.size, 0, none⟩ = some (.int .i64 R) ∧ wq.cell? ⟨w.heap.size, 1, none⟩ = some (.int .i64 D) ∧ wq.cell? ⟨w.heap.size, 2, none⟩ = some (.int .i64 L) ∧ wq.cell? ⟨w.heap.size, 3, none⟩ = some (.int .i64 G) ∧ wq.cell? ⟨w.heap.size, 4, none⟩ = some (.bool gr)) ∧ wq.cell? ⟨w.heap.size + 1, 0, none⟩ = some (.slice ao la ca) ∧ wq.cell? ⟨w.heap.size + 1, 1, none⟩ = some (.int .i64 p)) (go_keep) (first
    | (go_at_call 104; have hgd := b0_21; clear hgd; refine (HE.out _).mono ?_; rintro z wc ⟨v1, rfl, o1, bb_wc⟩; have b0_wc := below_trans b0_21 bb_wc; have g_wc := g_21.later bb_wc; have s_wc := s_21.later bb_wc; have c_wc := c_21.later bb_wc; have o_wc := o_21.later bb_wc; have r_wc := r_21.later bb_wc; obtain ⟨xwc0, xwc1, xwc2, xwc3, xwc4⟩ := g_wc.cs5; obtain ⟨ywc0, ywc1⟩ := s_wc.cs2; clear b0_21)
    | (go_at_call 103; have hgd := b0_wc; clear hgd; refine (HN.out _ _ _ o1.rd o_wc).mono ?_; rintro z wd ⟨v2, rfl, o2, bb_wd⟩; have b0_wd := below_trans b0_wc bb_wd; have g_wd := g_wc.later bb_wd; have s_wd := s_wc.later bb_wd; have c_wd := c_wc.later bb_wd; have o_wd := o_wc.later bb_wd; have r_wd := r_wc.later bb_wd; obtain ⟨xwd0, xwd1, xwd2, xwd3, xwd4⟩ := g_wd.cs5; obtain ⟨ywd0, ywd1⟩ := s_wd.cs2; have o3 := o2.lower b0_wc.size; obtain ⟨so, sc, hv9⟩ := o3.rd.shape; subst hv9; obtain ⟨d0, d1⟩ := c_wd.cs2; have f0 := c_wd.free 0; have f1 := c_wd.free 1; clear b0_wc))
   all_goals go_wp2
   have bu : But (w.heap.size + 1 + 1) wd ((wd.setCell ⟨w.heap.size + 1 + 1, 0, none⟩ (.slice so (Dg.dg 4294967296 (n - 1)).length sc)).setCell ⟨w.heap.size + 1 + 1, 1, none⟩ (.int .i64 (p - 1))) := (but_set wd (w.heap.size + 1 + 1) 0 (.slice so (Dg.dg 4294967296 (n - 1)).length sc)).trans (but_set _ (w.heap.size + 1 + 1) 1 (.int .i64 (p - 1)))
   have cX : LocE ((wd.setCell ⟨w.heap.size + 1 + 1, 0, none⟩ (.slice so (Dg.dg 4294967296 (n - 1)).length sc)).setCell ⟨w.heap.size + 1 + 1, 1, none⟩ (.int .i64 (p - 1))) (w.heap.size + 1 + 1) 136 [.slice so (Dg.dg 4294967296 (n - 1)).length sc, .int .i64 (p - 1)] := (c_wd.set 0 (.slice so (Dg.dg 4294967296 (n - 1)).length sc)).set 1 (.int .i64 (p - 1))
   have bX := bu.below b0_wd (show w.heap.size ≤ w.heap.size + 1 + 1 by omega)
   have oX := bu.own o3 c_wd (by decide)
   obtain ⟨s0, s1⟩ := cX.cs2
   refine bodyPost_ret (v := .agg #[.slice so (Dg.dg 4294967296 (n - 1)).length sc, .int .i64 (p - 1)]) (by simp [results, Tryz.results70, go_sem, s0, s1]) rfl ?_
   exact ⟨_, rfl, oX, bX⟩
  ·have hpf : decide (L < p) = false := decide_eq_false hp
   cases gr
   ·obtain ⟨h1, h2⟩ := HD.out hp rfl
    clear HA HB HD WP
    subst h1 h2
    go_enter Tryz.func70, Tryz.ntmps70
    go_upto_region 1 with fail
    generalize ((w.alloc (.cells #[.int .i64 R, .int .i64 D, .int .i64 L, .int .i64 G, .bool false] 140)).alloc (.cells #[.slice ao la ca, .int .i64 p] 136)).alloc (.cells #[.slice none 0 0, .int .i64 0] 136) = W0 at g1 s1 c1 b1 ⊢
    have aB := below_alloc W0 (.cells #[.int .u32 1] 79)
    have one := rd_new (w := W0) (k := .u32) (e := 79) [1] #[.int .u32 1] rfl (by unfold maxLen; simp)
    have g_2 := g1.later aB
    have s_2 := s1.later aB
    have c_2 := c1.later aB
    have b0_2 := below_trans b1 aB
    clear g1 s1 c1 b1 aB
    go_upto_region 2 with fail
    generalize W0.alloc (.cells #[.int .u32 1] 79) = W1 at g_2 s_2 c_2 one b0_2 ⊢
    have bd_2 : Below W1.heap.size W1 W1.drew := (Below.refl _ _).drew
    have g_3 := g_2.later bd_2
    have s_3 := s_2.later bd_2
    have c_3 := c_2.later bd_2
    have o_3 := one.later bd_2
    have b0_3 := below_trans b0_2 bd_2
    clear g_2 s_2 c_2 one b0_2 bd_2
    have rdA := HRD.out _ b0_3
    obtain ⟨x0, x1, x2, x3, x4⟩ := g_3.cs5
    obtain ⟨y0, y1⟩ := s_3.cs2
    go_wp2_with fail
    go_region_held3 (fun wq => (wq.cell? ⟨w.heap.size, 0, none⟩ = some (.int .i64 R) ∧ wq.cell? ⟨w.heap.size, 1, none⟩ = some (.int .i64 D) ∧ wq.cell? ⟨w.heap.size, 2, none⟩ = some (.int .i64 L) ∧ wq.cell? ⟨w.heap.size, 3, none⟩ = some (.int .i64 G) ∧ wq.cell? ⟨w.heap.size, 4, none⟩ = some (.bool false)) ∧ wq.cell? ⟨w.heap.size + 1, 0, none⟩ = some (.slice ao la ca) ∧ wq.cell? ⟨w.heap.size + 1, 1, none⟩ = some (.int .i64 p)) (go_keep) (first
     | (go_at_call 102; have hgd := b0_3; clear hgd; refine (HF.out _).mono ?_; rintro z wa ⟨v1, rfl, o1, bb_wa⟩; have b0_wa := below_trans b0_3 bb_wa; have g_wa := g_3.later bb_wa; have s_wa := s_3.later bb_wa; have c_wa := c_3.later bb_wa; have o_wa := o_3.later bb_wa; have r_wa := rdA.later bb_wa; obtain ⟨xwa0, xwa1, xwa2, xwa3, xwa4⟩ := g_wa.cs5; obtain ⟨ywa0, ywa1⟩ := s_wa.cs2; clear b0_3)
     | (go_at_call 101; have hgd := b0_wa; clear hgd; refine (HC.out _ _ _ r_wa o1.rd).mono ?_; rintro z wb ⟨rfl, bb_wb⟩; have b0_wb := below_trans b0_wa bb_wb; have g_wb := g_wa.later bb_wb; have s_wb := s_wa.later bb_wb; have c_wb := c_wa.later bb_wb; have o_wb := o_wa.later bb_wb; have r_wb := r_wa.later bb_wb; obtain ⟨xwb0, xwb1, xwb2, xwb3, xwb4⟩ := g_wb.cs5; obtain ⟨ywb0, ywb1⟩ := s_wb.cs2; clear b0_wa))
    go_goals
    clear x0 x1 x2 x3 x4 y0 y1 xwa0 xwa1 xwa2 xwa3 xwa4 xwb0 xwb1 xwb2 xwb3 xwb4 ywa0 ywa1 ywb0 ywb1
    have y1 := s_wb.cell 1 rfl
    have x2 := g_wb.cell 2 rfl
    have x4 := g_wb.cell 4 rfl
    have d0 := c_wb.cell 0 rfl
    have f0 := c_wb.free 0
    have d1 := c_wb.cell 1 rfl
    have f1 := c_wb.free 1
    all_goals go_wp2
    have bu : But (w.heap.size + 1 + 1) wb ((wb.setCell ⟨w.heap.size + 1 + 1, 0, none⟩ (.slice none 0 0)).setCell ⟨w.heap.size + 1 + 1, 1, none⟩ (.int .i64 L)) := (but_set wb (w.heap.size + 1 + 1) 0 (.slice none 0 0)).trans (but_set _ (w.heap.size + 1 + 1) 1 (.int .i64 L))
    have cX : LocE ((wb.setCell ⟨w.heap.size + 1 + 1, 0, none⟩ (.slice none 0 0)).setCell ⟨w.heap.size + 1 + 1, 1, none⟩ (.int .i64 L)) (w.heap.size + 1 + 1) 136 [.slice none 0 0, .int .i64 L] := (c_wb.set 0 (.slice none 0 0)).set 1 (.int .i64 L)
    have bX := bu.below b0_wb (show w.heap.size ≤ w.heap.size + 1 + 1 by omega)
    obtain ⟨s0, s1⟩ := cX.cs2
    refine bodyPost_ret (v := .agg #[.slice none 0 0, .int .i64 L]) (by simp [results, Tryz.results70, go_sem, s0, s1]) rfl ?_
    exact ⟨_, rfl, own_nil _ _ _ _, bX⟩
   ·obtain ⟨h1, h2⟩ := HB.out hp rfl
    clear HA HB HD WP
    subst h1 h2
    go_enter Tryz.func70, Tryz.ntmps70
    go_upto_region 1 with fail
    generalize ((w.alloc (.cells #[.int .i64 R, .int .i64 D, .int .i64 L, .int .i64 G, .bool true] 140)).alloc (.cells #[.slice ao la ca, .int .i64 p] 136)).alloc (.cells #[.slice none 0 0, .int .i64 0] 136) = W0 at g1 s1 c1 b1 ⊢
    have aB := below_alloc W0 (.cells #[.int .u32 1] 79)
    have one := rd_new (w := W0) (k := .u32) (e := 79) [1] #[.int .u32 1] rfl (by unfold maxLen; simp)
    have g_2 := g1.later aB
    have s_2 := s1.later aB
    have c_2 := c1.later aB
    have b0_2 := below_trans b1 aB
    clear g1 s1 c1 b1 aB
    go_upto_region 2 with fail
    generalize W0.alloc (.cells #[.int .u32 1] 79) = W1 at g_2 s_2 c_2 one b0_2 ⊢
    have bd_2 : Below W1.heap.size W1 W1.drew := (Below.refl _ _).drew
    have g_3 := g_2.later bd_2
    have s_3 := s_2.later bd_2
    have c_3 := c_2.later bd_2
    have o_3 := one.later bd_2
    have b0_3 := below_trans b0_2 bd_2
    clear g_2 s_2 c_2 one b0_2 bd_2
    have rdA := HRD.out _ b0_3
    obtain ⟨x0, x1, x2, x3, x4⟩ := g_3.cs5
    obtain ⟨y0, y1⟩ := s_3.cs2
    go_wp2_with fail
    go_region_held3 (fun wq => (wq.cell? ⟨w.heap.size, 0, none⟩ = some (.int .i64 R) ∧ wq.cell? ⟨w.heap.size, 1, none⟩ = some (.int .i64 D) ∧ wq.cell? ⟨w.heap.size, 2, none⟩ = some (.int .i64 L) ∧ wq.cell? ⟨w.heap.size, 3, none⟩ = some (.int .i64 G) ∧ wq.cell? ⟨w.heap.size, 4, none⟩ = some (.bool true)) ∧ wq.cell? ⟨w.heap.size + 1, 0, none⟩ = some (.slice ao la ca) ∧ wq.cell? ⟨w.heap.size + 1, 1, none⟩ = some (.int .i64 p)) (go_keep) (first
     | (go_at_call 102; have hgd := b0_3; clear hgd; refine (HF.out _).mono ?_; rintro z wa ⟨v1, rfl, o1, bb_wa⟩; have b0_wa := below_trans b0_3 bb_wa; have g_wa := g_3.later bb_wa; have s_wa := s_3.later bb_wa; have c_wa := c_3.later bb_wa; have o_wa := o_3.later bb_wa; have r_wa := rdA.later bb_wa; obtain ⟨xwa0, xwa1, xwa2, xwa3, xwa4⟩ := g_wa.cs5; obtain ⟨ywa0, ywa1⟩ := s_wa.cs2; clear b0_3)
     | (go_at_call 101; have hgd := b0_wa; clear hgd; refine (HC.out _ _ _ r_wa o1.rd).mono ?_; rintro z wb ⟨rfl, bb_wb⟩; have b0_wb := below_trans b0_wa bb_wb; have g_wb := g_wa.later bb_wb; have s_wb := s_wa.later bb_wb; have c_wb := c_wa.later bb_wb; have o_wb := o_wa.later bb_wb; have r_wb := r_wa.later bb_wb; obtain ⟨xwb0, xwb1, xwb2, xwb3, xwb4⟩ := g_wb.cs5; obtain ⟨ywb0, ywb1⟩ := s_wb.cs2; clear b0_wa))
    go_goals
    clear x0 x1 x2 x3 x4 y0 y1 xwa0 xwa1 xwa2 xwa3 xwa4 xwb0 xwb1 xwb2 xwb3 xwb4 ywa0 ywa1 ywb0 ywb1
    have y1 := s_wb.cell 1 rfl
    have x2 := g_wb.cell 2 rfl
    have x4 := g_wb.cell 4 rfl
    go_upto_region 7 with fail
    clear y1 x2 x4
    have bd_20 : Below wb.heap.size wb wb.drew := (Below.refl _ _).drew
    have g_21 := g_wb.later bd_20
    have s_21 := s_wb.later bd_20
    have c_21 := c_wb.later bd_20
    have o_21 := o_wb.later bd_20
    have r_21 := r_wb.later bd_20
    have b0_21 := below_trans b0_wb bd_20
    clear g_wb s_wb c_wb o_wb r_wb b0_wb bd_20
    obtain ⟨x0, x1, x2, x3, x4⟩ := g_21.cs5
    obtain ⟨y0, y1⟩ := s_21.cs2
    go_wp2_with fail
    go_region_held3 (fun wq => (wq.cell? ⟨w.heap.size, 0, none⟩ = some (.int .i64 R) ∧ wq.cell? ⟨w.heap.size, 1, none⟩ = some (.int .i64 D) ∧ wq.cell? ⟨w.heap.size, 2, none⟩ = some (.int .i64 L) ∧ wq.cell? ⟨w.heap.size, 3, none⟩ = some (.int .i64 G) ∧ wq.cell? ⟨w.heap.size, 4, none⟩ = some (.bool true)) ∧ wq.cell? ⟨w.heap.size + 1, 0, none⟩ = some (.slice ao la ca) ∧ wq.cell? ⟨w.heap.size + 1, 1, none⟩ = some (.int .i64 p)) (go_keep) (first
     | (go_at_call 103; have hgd := b0_21; clear hgd; refine (HM.out _ _ _ r_21 o_21).mono ?_; rintro z wc ⟨v2, rfl, o2, bb_wc⟩; have b0_wc := below_trans b0_21 bb_wc; have g_wc := g_21.later bb_wc; have s_wc := s_21.later bb_wc; have c_wc := c_21.later bb_wc; have o_wc := o_21.later bb_wc; have r_wc := r_21.later bb_wc; obtain ⟨xwc0, xwc1, xwc2, xwc3, xwc4⟩ := g_wc.cs5; obtain ⟨ywc0, ywc1⟩ := s_wc.cs2; have o3 := o2.lower b0_21.size; obtain ⟨so, sc, hv9⟩ := o3.rd.shape; subst hv9; obtain ⟨d0, d1⟩ := c_wc.cs2; have f0 := c_wc.free 0; have f1 := c_wc.free 1; clear b0_21))
    all_goals go_wp2
    have bu : But (w.heap.size + 1 + 1) wc ((wc.setCell ⟨w.heap.size + 1 + 1, 0, none⟩ (.slice so (Dg.dg 4294967296 (d - 1)).length sc)).setCell ⟨w.heap.size + 1 + 1, 1, none⟩ (.int .i64 L)) := (but_set wc (w.heap.size + 1 + 1) 0 (.slice so (Dg.dg 4294967296 (d - 1)).length sc)).trans (but_set _ (w.heap.size + 1 + 1) 1 (.int .i64 L))
    have cX : LocE ((wc.setCell ⟨w.heap.size + 1 + 1, 0, none⟩ (.slice so (Dg.dg 4294967296 (d - 1)).length sc)).setCell ⟨w.heap.size + 1 + 1, 1, none⟩ (.int .i64 L)) (w.heap.size + 1 + 1) 136 [.slice so (Dg.dg 4294967296 (d - 1)).length sc, .int .i64 L] := (c_wc.set 0 (.slice so (Dg.dg 4294967296 (d - 1)).length sc)).set 1 (.int .i64 L)
    have bX := bu.below b0_wc (show w.heap.size ≤ w.heap.size + 1 + 1 by omega)
    have oX := bu.own o3 c_wc (by decide)
    obtain ⟨s0, s1⟩ := cX.cs2
    refine bodyPost_ret (v := .agg #[.slice so (Dg.dg 4294967296 (d - 1)).length sc, .int .i64 L]) (by simp [results, Tryz.results70, go_sem, s0, s1]) rfl ?_
    exact ⟨_, rfl, oX, bX⟩
 ·obtain ⟨h1, h2⟩ := H1.out hcv
  clear H1 H2 H3 H4 WP
  have hcf : (cv == 0) = false := by simp [hcv]
  subst h1 h2
  go_enter Tryz.func70, Tryz.ntmps70
  go_upto_region 1 with fail
  generalize ((w.alloc (.cells #[.int .i64 R, .int .i64 D, .int .i64 L, .int .i64 G, .bool gr] 140)).alloc (.cells #[.slice ao la ca, .int .i64 p] 136)).alloc (.cells #[.slice none 0 0, .int .i64 0] 136) = W0 at g1 s1 c1 b1 ⊢
  have aB := below_alloc W0 (.cells #[.int .u32 1] 79)
  have one := rd_new (w := W0) (k := .u32) (e := 79) [1] #[.int .u32 1] rfl (by unfold maxLen; simp)
  have g_2 := g1.later aB
  have s_2 := s1.later aB
  have c_2 := c1.later aB
  have b0_2 := below_trans b1 aB
  clear g1 s1 c1 b1 aB
  go_upto_region 2 with fail
  generalize W0.alloc (.cells #[.int .u32 1] 79) = W1 at g_2 s_2 c_2 one b0_2 ⊢
  have bd_2 : Below W1.heap.size W1 W1.drew := (Below.refl _ _).drew
  have g_3 := g_2.later bd_2
  have s_3 := s_2.later bd_2
  have c_3 := c_2.later bd_2
  have o_3 := one.later bd_2
  have b0_3 := below_trans b0_2 bd_2
  clear g_2 s_2 c_2 one b0_2 bd_2
  have rdA := HRD.out _ b0_3
  obtain ⟨x0, x1, x2, x3, x4⟩ := g_3.cs5
  obtain ⟨y0, y1⟩ := s_3.cs2
  go_wp2_with fail
  go_region_held3 (fun wq => (wq.cell? ⟨w.heap.size, 0, none⟩ = some (.int .i64 R) ∧ wq.cell? ⟨w.heap.size, 1, none⟩ = some (.int .i64 D) ∧ wq.cell? ⟨w.heap.size, 2, none⟩ = some (.int .i64 L) ∧ wq.cell? ⟨w.heap.size, 3, none⟩ = some (.int .i64 G) ∧ wq.cell? ⟨w.heap.size, 4, none⟩ = some (.bool gr)) ∧ wq.cell? ⟨w.heap.size + 1, 0, none⟩ = some (.slice ao la ca) ∧ wq.cell? ⟨w.heap.size + 1, 1, none⟩ = some (.int .i64 p)) (go_keep) (first
   | (go_at_call 102; have hgd := b0_3; clear hgd; refine (HF.out _).mono ?_; rintro z wa ⟨v1, rfl, o1, bb_wa⟩; have b0_wa := below_trans b0_3 bb_wa; have g_wa := g_3.later bb_wa; have s_wa := s_3.later bb_wa; have c_wa := c_3.later bb_wa; have o_wa := o_3.later bb_wa; have r_wa := rdA.later bb_wa; obtain ⟨xwa0, xwa1, xwa2, xwa3, xwa4⟩ := g_wa.cs5; obtain ⟨ywa0, ywa1⟩ := s_wa.cs2; clear b0_3)
   | (go_at_call 101; have hgd := b0_wa; clear hgd; refine (HC.out _ _ _ r_wa o1.rd).mono ?_; rintro z wb ⟨rfl, bb_wb⟩; have b0_wb := below_trans b0_wa bb_wb; have g_wb := g_wa.later bb_wb; have s_wb := s_wa.later bb_wb; have c_wb := c_wa.later bb_wb; have o_wb := o_wa.later bb_wb; have r_wb := r_wa.later bb_wb; obtain ⟨xwb0, xwb1, xwb2, xwb3, xwb4⟩ := g_wb.cs5; obtain ⟨ywb0, ywb1⟩ := s_wb.cs2; clear b0_wa))
  go_goals
  clear x0 x1 x2 x3 x4 y0 y1 xwa0 xwa1 xwa2 xwa3 xwa4 xwb0 xwb1 xwb2 xwb3 xwb4 ywa0 ywa1 ywb0 ywb1
  have bd_20 : Below wb.heap.size wb wb.drew := (Below.refl _ _).drew
  have g_21 := g_wb.later bd_20
  have s_21 := s_wb.later bd_20
  have c_21 := c_wb.later bd_20
  have o_21 := o_wb.later bd_20
  have r_21 := r_wb.later bd_20
  have b0_21 := below_trans b0_wb bd_20
  clear g_wb s_wb c_wb o_wb r_wb b0_wb bd_20
  obtain ⟨x0, x1, x2, x3, x4⟩ := g_21.cs5
  obtain ⟨y0, y1⟩ := s_21.cs2
  go_wp2_with fail
  go_region_held3 (fun wq => (wq.cell? ⟨w.heap.size, 0, none⟩ = some (.int .i64 R) ∧ wq.cell? ⟨w.heap.size, 1, none⟩ = some (.int .i64 D) ∧ wq.cell? ⟨w.heap.size, 2, none⟩ = some (.int .i64 L) ∧ wq.cell? ⟨w.heap.size, 3, none⟩ = some (.int .i64 G) ∧ wq.cell? ⟨w.heap.size, 4, none⟩ = some (.bool gr)) ∧ wq.cell? ⟨w.heap.size + 1, 0, none⟩ = some (.slice ao la ca) ∧ wq.cell? ⟨w.heap.size + 1, 1, none⟩ = some (.int .i64 p)) (go_keep) (first
   | (go_at_call 103; have hgd := b0_21; clear hgd; refine (HM.out _ _ _ r_21 o_21).mono ?_; rintro z wc ⟨v2, rfl, o2, bb_wc⟩; have b0_wc := below_trans b0_21 bb_wc; have g_wc := g_21.later bb_wc; have s_wc := s_21.later bb_wc; have c_wc := c_21.later bb_wc; have o_wc := o_21.later bb_wc; have r_wc := r_21.later bb_wc; obtain ⟨xwc0, xwc1, xwc2, xwc3, xwc4⟩ := g_wc.cs5; obtain ⟨ywc0, ywc1⟩ := s_wc.cs2; have o3 := o2.lower b0_21.size; obtain ⟨so, sc, hv9⟩ := o3.rd.shape; subst hv9; obtain ⟨d0, d1⟩ := c_wc.cs2; have f0 := c_wc.free 0; have f1 := c_wc.free 1; clear b0_21))
  all_goals go_wp2
  have bu : But (w.heap.size + 1 + 1) wc ((wc.setCell ⟨w.heap.size + 1 + 1, 0, none⟩ (.slice so (Dg.dg 4294967296 (d - 1)).length sc)).setCell ⟨w.heap.size + 1 + 1, 1, none⟩ (.int .i64 p)) := (but_set wc (w.heap.size + 1 + 1) 0 (.slice so (Dg.dg 4294967296 (d - 1)).length sc)).trans (but_set _ (w.heap.size + 1 + 1) 1 (.int .i64 p))
  have cX : LocE ((wc.setCell ⟨w.heap.size + 1 + 1, 0, none⟩ (.slice so (Dg.dg 4294967296 (d - 1)).length sc)).setCell ⟨w.heap.size + 1 + 1, 1, none⟩ (.int .i64 p)) (w.heap.size + 1 + 1) 136 [.slice so (Dg.dg 4294967296 (d - 1)).length sc, .int .i64 p] := (c_wc.set 0 (.slice so (Dg.dg 4294967296 (d - 1)).length sc)).set 1 (.int .i64 p)
  have bX := bu.below b0_wc (show w.heap.size ≤ w.heap.size + 1 + 1 by omega)
  have oX := bu.own o3 c_wc (by decide)
  obtain ⟨s0, s1⟩ := cX.cs2
  refine bodyPost_ret (v := .agg #[.slice so (Dg.dg 4294967296 (d - 1)).length sc, .int .i64 p]) (by simp [results, Tryz.results70, go_sem, s0, s1]) rfl ?_
  exact ⟨_, rfl, oX, bX⟩
end Go.Proofs.YtiiphandhpilgaaGreatDoor

/-
  Texts laid together: As3, Du1, As5, As6.
-/
import Derived.Deep.CutBlock
import Derived.Test.YtnhackdjplppjaaGreatDoorAt24
set_option maxRecDepth 100000
namespace Go.Proofs.YtnhackdjplppjaaGreatDoor
open Go.RowKit
set_option maxHeartbeats 6400000 in
theorem greatest_W (n wy fam R D L G : Int) (gr ng : Bool) (r pw : Nat) (w : World) (hR : IntKind.u32.wrap R = (r : Int))
  (HP : ∀ q w1, Below w.heap.size w w1 → w1.cell? ⟨q, 0, none⟩ = some (.int .u32 (r : Int)) → Calls Tryz.prog 215 #[.slice (some ⟨q, 0, none⟩) 1 1, .int .i64 D] w1 (Num w1 pw))
  (HM : ∀ vo vc q w1, Rd w1 .u32 (.slice vo (Dg.dg 4294967296 pw).length vc) (Dg.dg 4294967296 pw) → w1.cell? ⟨q, 0, none⟩ = some (.int .u32 1) → Calls Tryz.prog 170 #[.slice vo (Dg.dg 4294967296 pw).length vc, .slice (some ⟨q, 0, none⟩) 1 1] w1 (Num w1 (pw - 1))) :
  Calls Tryz.prog 175 #[.agg #[.int .i64 n, .int .i64 wy, .int .i64 fam, .int .i64 R, .int .i64 D, .int .i64 L, .int .i64 G, .bool gr], .bool ng] w (ValRes w 2 ng (pw - 1) G) := by
 replace HP : Hid _ := HP
 replace HM : Hid _ := HM
 have ad := below_alloc w (.cells #[.int .i64 n, .int .i64 wy, .int .i64 fam, .int .i64 R, .int .i64 D, .int .i64 L, .int .i64 G, .bool gr] 93)
 have av := below_alloc (w.alloc (.cells #[.int .i64 n, .int .i64 wy, .int .i64 fam, .int .i64 R, .int .i64 D, .int .i64 L, .int .i64 G, .bool gr] 93)) (.cells #[.int .i64 0, .bool false, .slice none 0 0, .int .i64 0] 73)
 have d0 := (locE_new w [.int .i64 n, .int .i64 wy, .int .i64 fam, .int .i64 R, .int .i64 D, .int .i64 L, .int .i64 G, .bool gr] 93).later av
 have v0 := locE_new (w.alloc (.cells #[.int .i64 n, .int .i64 wy, .int .i64 fam, .int .i64 R, .int .i64 D, .int .i64 L, .int .i64 G, .bool gr] 93)) [.int .i64 0, .bool false, .slice none 0 0, .int .i64 0] 73
 rw [World.size_alloc] at v0
 have b0 := below_trans ad av
 clear ad av
 go_enter Tryz.func175, Tryz.ntmps175
 go_upto_region 1 with fail
 generalize (w.alloc (.cells #[.int .i64 n, .int .i64 wy, .int .i64 fam, .int .i64 R, .int .i64 D, .int .i64 L, .int .i64 G, .bool gr] 93)).alloc (.cells #[.int .i64 0, .bool false, .slice none 0 0, .int .i64 0] 73) = W0 at d0 v0 b0 ⊢
 have y3 := d0.cell 3 rfl
 have y4 := d0.cell 4 rfl
 have al := below_alloc W0 (.cells #[.int .u32 (r : Int)] 141)
 have hc := (locE_new W0 [.int .u32 (r : Int)] 141).cell 0 rfl
 have d1 := d0.later al
 have v1 := v0.later al
 have b01 := below_trans b0 al
 have z3 := d1.cell 3 rfl
 have z4 := d1.cell 4 rfl
 clear al
 go_wp2_with fail
 refine (HP.out _ _ b01 hc).mono ?_
 rintro z w2 ⟨u, rfl, o2, b2⟩
 obtain ⟨vo, vc, hu⟩ := o2.rd.shape
 subst hu
 have r2 := o2.rd
 have d2 := d1.later b2
 have v2 := v1.later b2
 have b02 := below_trans b01 b2
 clear y3 y4 z3 z4 hc d0 v0 b0 d1 v1 b01 b2 o2 HP hR
 go_upto_region 2 with fail
 have bW : Below w2.heap.size w2 w2.drew := (Below.refl _ _).drew
 have d3 := d2.later bW
 have v3 := v2.later bW
 have r3 := r2.later bW
 have b03 := below_trans b02 bW
 clear bW d2 v2 r2 b02
 refine wp_region_held_drew (S := fun wq => wq.cell? ⟨w.heap.size, 6, none⟩ = some (.int .i64 G)) (by kernel_rfl) (d3.cell 6 rfl) (fun hS0 => ?_)
 refine wpAnyH_take (i := 0) (v := .bool ng) rfl (by kernel_rfl) (by kernel_rfl) (by kernel_rfl) (fun _ _ _ h => h) (Or.inl ⟨by kernel_rfl, fun w0 _ => by kernel_rfl⟩) hS0 ?_
 refine wpAnyH_take (i := 1) (v := .slice vo (Dg.dg 4294967296 pw).length vc) rfl (by kernel_rfl) (by kernel_rfl) (by kernel_rfl) (fun _ _ _ h => h) (Or.inl ⟨by kernel_rfl, fun w0 _ => by kernel_rfl⟩) hS0 ?_
 refine wpAnyH_take (i := 4) (v := .pointer (some ⟨w.heap.size, 3, none⟩)) rfl (by kernel_rfl) (by kernel_rfl) (by kernel_rfl) (fun _ _ _ h => h) (Or.inl ⟨by kernel_rfl, fun w0 _ => by kernel_rfl⟩) hS0 ?_
 refine wpAnyH_take (i := 5) (v := .pointer (some ⟨w.heap.size, 6, none⟩)) rfl (by kernel_rfl) (by kernel_rfl) (by kernel_rfl) (fun _ _ _ h => h) (Or.inl ⟨by kernel_rfl, fun w0 _ => by kernel_rfl⟩) hS0 ?_
 refine wpAnyH_take (i := 6) (v := .int .i64 G) rfl (by kernel_rfl) (by kernel_rfl) (by kernel_rfl) (fun _ _ _ h => h) (Or.inl ⟨by kernel_rfl, fun w0 hw0 => xload 3 (.tmp 20) rfl w.heap.size 6 (by kernel_rfl) _ _ Tryz.underlying3 rfl hw0⟩) hS0 ?_
 refine wpAnyH_ready (rs := [2]) (by kernel_rfl) (by simp) ?_
 refine AllReadyH.cons rfl (fun K hK => ?_) AllReadyH.nil
 go_simp
 have al := below_alloc w2.drew (.cells #[.int .u32 1] 141)
 have hc := (locE_new w2.drew [.int .u32 1] 141).cell 0 rfl
 have d4 := d3.later al
 have v4 := v3.later al
 have r4 := r3.later al
 have b04 := below_trans b03 al
 refine hK.out _ _ (d4.cell 6 rfl) (fun hS2 => ?_)
 clear hK K al d3 v3 r3 b03
 refine wpAnyH_ready (rs := [3]) (by kernel_rfl) (by simp) ?_
 refine AllReadyH.cons rfl (fun K hK => ?_) AllReadyH.nil
 go_simp
 refine (HM.out _ _ _ _ r4 hc).mono ?_
 rintro z w5 ⟨u, rfl, o5, b5⟩
 obtain ⟨mo, mc, hu⟩ := o5.rd.shape
 subst hu
 have r5 := o5.rd
 have d5 := d4.later b5
 have v5 := v4.later b5
 have b05 := below_trans b04 b5
 refine hK.out _ _ (d5.cell 6 rfl) (fun hS3 => ?_)
 clear hK K d4 v4 r4 b04 b5 o5 hc
 have bu := (((but_set w5 (w.heap.size + 1) 0 (.int .i64 2)).trans (but_set _ (w.heap.size + 1) 1 (.bool ng))).trans (but_set _ (w.heap.size + 1) 2 (.slice mo (Dg.dg 4294967296 (pw - 1)).length mc))).trans (but_set _ (w.heap.size + 1) 3 (.int .i64 G))
 have bR : Below w.heap.size w (w5.setCells (w.heap.size + 1) 0 [.int .i64 2, .bool ng, .slice mo (Dg.dg 4294967296 (pw - 1)).length mc, .int .i64 G]) := bu.below b05 (by omega)
 have rR : Rd (w5.setCells (w.heap.size + 1) 0 [.int .i64 2, .bool ng, .slice mo (Dg.dg 4294967296 (pw - 1)).length mc, .int .i64 G]) .u32 (.slice mo (Dg.dg 4294967296 (pw - 1)).length mc) (Dg.dg 4294967296 (pw - 1)) := bu.rd r5 (rd_offU r5 v5 (by simp))
 have hth : w5.there (w.heap.size + 1) 0 4 := there_of v5
 have hl := run_loadVar_mid (P := Tryz.prog) _ (w.heap.size + 1) 0 73 [.int .i64 2, .bool ng, .slice mo (Dg.dg 4294967296 (pw - 1)).length mc, .int .i64 G] _ (World.rangeAt_setCells_same w5 (w.heap.size + 1) 0 [.int .i64 2, .bool ng, .slice mo (Dg.dg 4294967296 (pw - 1)).length mc, .int .i64 G] hth) Tryz.underlying73 rfl (by kernel_rfl)
 have HH : Hid (_ ∧ _ ∧ _) := ⟨hl, rR, bR⟩
 clear hl rR bR bu
 refine wpAnyH_take (i := 7) (v := .agg #[.int .i64 2, .bool ng, .slice mo (Dg.dg 4294967296 (pw - 1)).length mc, .int .i64 G]) rfl (by kernel_rfl) (by kernel_rfl) (by kernel_rfl) (fun _ _ _ h => h) (Or.inl ⟨by kernel_rfl, fun w0 _ => by kernel_rfl⟩) hS3 ?_
 refine wpAnyH_ready (rs := [8]) (by kernel_rfl) (by simp) ?_
 refine AllReadyH.cons rfl (fun K hK => ?_) AllReadyH.nil
 rw [if_pos (by kernel_rfl)]
 refine wp_store_mid 73 (.tmp 4) (.tmp 22) rfl (w.heap.size + 1) 0 #[.int .i64 2, .bool ng, .slice mo (Dg.dg 4294967296 (pw - 1)).length mc, .int .i64 G] (by kernel_rfl) (by kernel_rfl) hth (by kernel_rfl) (by simp [Value.oneCell']) ?_
 refine hK.out _ _ ?_ (fun hS8 => ?_)
 ·have hbu : But (w.heap.size + 1) w5 (w5.setCells (w.heap.size + 1) 0 [.int .i64 2, .bool ng, .slice mo (Dg.dg 4294967296 (pw - 1)).length mc, .int .i64 G]) := but_sets _ _ _ _
  exact (hbu.loc d5 (by omega)).cell 6 rfl
 clear hK K
 refine wpAnyH_done (by kernel_rfl) ?_ _
 obtain ⟨hl, rR, bR⟩ := HH.out
 clear HH hS0 hS2 hS3 hS8 d5 v5 r5 b05 hth HM
 change Exit.then _ _ _ _ (World.setCells w5 (w.heap.size + 1) 0 [.int .i64 2, .bool ng, .slice mo (Dg.dg 4294967296 (pw - 1)).length mc, .int .i64 G])
 generalize World.setCells w5 (w.heap.size + 1) 0 [.int .i64 2, .bool ng, .slice mo (Dg.dg 4294967296 (pw - 1)).length mc, .int .i64 G] = WE at hl rR bR ⊢
 go_wp2
 exact bodyPost_ret (results_one Tryz.results175 rfl hl) rfl ⟨_, rfl, rR, bR⟩
set_option maxHeartbeats 3200000 in
theorem over_C (n wy R D L G : Int) (gr ng : Bool) (w : World)
  (HN : ∀ w1, Calls Tryz.prog 165 #[.int .i64 3] w1 fun z w' => z = .returned (.int .i64 5) ∧ Below w1.heap.size w1 w') :
  Calls Tryz.prog 145 #[.agg #[.int .i64 n, .int .i64 wy, .int .i64 3, .int .i64 R, .int .i64 D, .int .i64 L, .int .i64 G, .bool gr], .bool ng] w (ValRes w 5 false 0 0) := by
 replace HN : Hid _ := HN
 have ad := below_alloc w (.cells #[.int .i64 n, .int .i64 wy, .int .i64 3, .int .i64 R, .int .i64 D, .int .i64 L, .int .i64 G, .bool gr] 93)
 have av := below_alloc (w.alloc (.cells #[.int .i64 n, .int .i64 wy, .int .i64 3, .int .i64 R, .int .i64 D, .int .i64 L, .int .i64 G, .bool gr] 93)) (.cells #[.int .i64 0, .bool false, .slice none 0 0, .int .i64 0] 73)
 have d0 := (locE_new w [.int .i64 n, .int .i64 wy, .int .i64 3, .int .i64 R, .int .i64 D, .int .i64 L, .int .i64 G, .bool gr] 93).later av
 have v0 := locE_new (w.alloc (.cells #[.int .i64 n, .int .i64 wy, .int .i64 3, .int .i64 R, .int .i64 D, .int .i64 L, .int .i64 G, .bool gr] 93)) [.int .i64 0, .bool false, .slice none 0 0, .int .i64 0] 73
 rw [World.size_alloc] at v0
 have b0 := below_trans ad av
 clear ad av
 go_enter Tryz.func145, Tryz.ntmps145
 go_upto_block 0 with fail
 generalize (w.alloc (.cells #[.int .i64 n, .int .i64 wy, .int .i64 3, .int .i64 R, .int .i64 D, .int .i64 L, .int .i64 G, .bool gr] 93)).alloc (.cells #[.int .i64 0, .bool false, .slice none 0 0, .int .i64 0] 73) = W0 at d0 v0 b0 ⊢
 obtain ⟨y0, y1, y2, y3, y4, y5, y6, y7⟩ := d0.cs8
 go_wp2_with fail
 refine (HN.out _).mono ?_
 rintro z w1 ⟨rfl, b1⟩
 have v1 := v0.later b1
 have b01 := below_trans b0 b1
 clear y0 y1 y2 y3 y4 y5 y6 y7 d0 v0 b0 b1
 have cR : LocE ((((w1.setCell ⟨w.heap.size + 1, 0, none⟩ (.int .i64 5)).setCell ⟨w.heap.size + 1, 1, none⟩ (.bool false)).setCell ⟨w.heap.size + 1, 2, none⟩ (.slice none 0 0)).setCell ⟨w.heap.size + 1, 3, none⟩ (.int .i64 0)) (w.heap.size + 1) 73 [.int .i64 5, .bool false, .slice none 0 0, .int .i64 0] := ((((v1.set 0 (.int .i64 5)).set 1 (.bool false)).set 2 (.slice none 0 0)).set 3 (.int .i64 0))
 have bu := (((but_set w1 (w.heap.size + 1) 0 (.int .i64 5)).trans (but_set _ (w.heap.size + 1) 1 (.bool false))).trans (but_set _ (w.heap.size + 1) 2 (.slice none 0 0))).trans (but_set _ (w.heap.size + 1) 3 (.int .i64 0))
 have bR := bu.below b01 (by omega)
 have hl := run_loadVar_mid (P := Tryz.prog) _ (w.heap.size + 1) 0 73 [.int .i64 5, .bool false, .slice none 0 0, .int .i64 0] _ cR.range Tryz.underlying73 rfl (by kernel_rfl)
 have HH : Hid (_ ∧ _) := ⟨hl, bR⟩
 obtain ⟨z0, z1, z2, z3⟩ := v1.cs4
 have fz0 := v1.free 0
 have fz1 := v1.free 1
 have fz2 := v1.free 2
 have fz3 := v1.free 3
 clear hl bR bu cR
 clear v1 b01
 go_wp2
 obtain ⟨hl, bR⟩ := HH.out
 exact bodyPost_ret (results_one Tryz.results145 rfl hl) rfl ⟨_, rfl, rd_nil _ _, bR⟩
set_option maxHeartbeats 3200000 in
theorem over_A1 (n wy R D L G : Int) (gr ng : Bool) (w : World)
  (HO : ∀ w1, Calls Tryz.prog 193 #[.agg #[.int .i64 n, .int .i64 wy, .int .i64 1, .int .i64 R, .int .i64 D, .int .i64 L, .int .i64 G, .bool gr], .bool ng] w1 fun z w' => z = .returned (.bool true) ∧ Below w1.heap.size w1 w') :
  Calls Tryz.prog 145 #[.agg #[.int .i64 n, .int .i64 wy, .int .i64 1, .int .i64 R, .int .i64 D, .int .i64 L, .int .i64 G, .bool gr], .bool ng] w (ValRes w 3 ng 0 0) := by
 replace HO : Hid _ := HO
 have ad := below_alloc w (.cells #[.int .i64 n, .int .i64 wy, .int .i64 1, .int .i64 R, .int .i64 D, .int .i64 L, .int .i64 G, .bool gr] 93)
 have av := below_alloc (w.alloc (.cells #[.int .i64 n, .int .i64 wy, .int .i64 1, .int .i64 R, .int .i64 D, .int .i64 L, .int .i64 G, .bool gr] 93)) (.cells #[.int .i64 0, .bool false, .slice none 0 0, .int .i64 0] 73)
 have d0 := (locE_new w [.int .i64 n, .int .i64 wy, .int .i64 1, .int .i64 R, .int .i64 D, .int .i64 L, .int .i64 G, .bool gr] 93).later av
 have v0 := locE_new (w.alloc (.cells #[.int .i64 n, .int .i64 wy, .int .i64 1, .int .i64 R, .int .i64 D, .int .i64 L, .int .i64 G, .bool gr] 93)) [.int .i64 0, .bool false, .slice none 0 0, .int .i64 0] 73
 rw [World.size_alloc] at v0
 have b0 := below_trans ad av
 clear ad av
 go_enter Tryz.func145, Tryz.ntmps145
 go_upto_block 0 with fail
 generalize (w.alloc (.cells #[.int .i64 n, .int .i64 wy, .int .i64 1, .int .i64 R, .int .i64 D, .int .i64 L, .int .i64 G, .bool gr] 93)).alloc (.cells #[.int .i64 0, .bool false, .slice none 0 0, .int .i64 0] 73) = W0 at d0 v0 b0 ⊢
 obtain ⟨y0, y1, y2, y3, y4, y5, y6, y7⟩ := d0.cs8
 go_wp2_with fail
 refine (HO.out _).mono ?_
 rintro z w1 ⟨rfl, b1⟩
 have v1 := v0.later b1
 have b01 := below_trans b0 b1
 clear y0 y1 y2 y3 y4 y5 y6 y7 d0 v0 b0 b1
 have cR : LocE ((((w1.setCell ⟨w.heap.size + 1, 0, none⟩ (.int .i64 3)).setCell ⟨w.heap.size + 1, 1, none⟩ (.bool ng)).setCell ⟨w.heap.size + 1, 2, none⟩ (.slice none 0 0)).setCell ⟨w.heap.size + 1, 3, none⟩ (.int .i64 0)) (w.heap.size + 1) 73 [.int .i64 3, .bool ng, .slice none 0 0, .int .i64 0] := ((((v1.set 0 (.int .i64 3)).set 1 (.bool ng)).set 2 (.slice none 0 0)).set 3 (.int .i64 0))
 have bu := (((but_set w1 (w.heap.size + 1) 0 (.int .i64 3)).trans (but_set _ (w.heap.size + 1) 1 (.bool ng))).trans (but_set _ (w.heap.size + 1) 2 (.slice none 0 0))).trans (but_set _ (w.heap.size + 1) 3 (.int .i64 0))
 have bR := bu.below b01 (by omega)
 have hl := run_loadVar_mid (P := Tryz.prog) _ (w.heap.size + 1) 0 73 [.int .i64 3, .bool ng, .slice none 0 0, .int .i64 0] _ cR.range Tryz.underlying73 rfl (by kernel_rfl)
 have HH : Hid (_ ∧ _) := ⟨hl, bR⟩
 obtain ⟨z0, z1, z2, z3⟩ := v1.cs4
 have fz0 := v1.free 0
 have fz1 := v1.free 1
 have fz2 := v1.free 2
 have fz3 := v1.free 3
 clear hl bR bu cR
 clear v1 b01
 go_wp2
 obtain ⟨hl, bR⟩ := HH.out
 exact bodyPost_ret (results_one Tryz.results145 rfl hl) rfl ⟨_, rfl, rd_nil _ _, bR⟩
set_option maxHeartbeats 3200000 in
theorem over_A0 (n wy R D L G : Int) (gr ng : Bool) (m : Nat) (w : World)
  (HO : ∀ w1, Calls Tryz.prog 193 #[.agg #[.int .i64 n, .int .i64 wy, .int .i64 1, .int .i64 R, .int .i64 D, .int .i64 L, .int .i64 G, .bool gr], .bool ng] w1 fun z w' => z = .returned (.bool false) ∧ Below w1.heap.size w1 w')
  (HGr : ∀ w1, Below w.heap.size w w1 → Calls Tryz.prog 175 #[.agg #[.int .i64 n, .int .i64 wy, .int .i64 1, .int .i64 R, .int .i64 D, .int .i64 L, .int .i64 G, .bool gr], .bool ng] w1 (ValRes w1 2 ng m G)) :
  Calls Tryz.prog 145 #[.agg #[.int .i64 n, .int .i64 wy, .int .i64 1, .int .i64 R, .int .i64 D, .int .i64 L, .int .i64 G, .bool gr], .bool ng] w (ValRes w 2 ng m G) := by
 replace HO : Hid _ := HO
 replace HGr : Hid _ := HGr
 have ad := below_alloc w (.cells #[.int .i64 n, .int .i64 wy, .int .i64 1, .int .i64 R, .int .i64 D, .int .i64 L, .int .i64 G, .bool gr] 93)
 have av := below_alloc (w.alloc (.cells #[.int .i64 n, .int .i64 wy, .int .i64 1, .int .i64 R, .int .i64 D, .int .i64 L, .int .i64 G, .bool gr] 93)) (.cells #[.int .i64 0, .bool false, .slice none 0 0, .int .i64 0] 73)
 have d0 := (locE_new w [.int .i64 n, .int .i64 wy, .int .i64 1, .int .i64 R, .int .i64 D, .int .i64 L, .int .i64 G, .bool gr] 93).later av
 have v0 := locE_new (w.alloc (.cells #[.int .i64 n, .int .i64 wy, .int .i64 1, .int .i64 R, .int .i64 D, .int .i64 L, .int .i64 G, .bool gr] 93)) [.int .i64 0, .bool false, .slice none 0 0, .int .i64 0] 73
 rw [World.size_alloc] at v0
 have b0 := below_trans ad av
 clear ad av
 go_enter Tryz.func145, Tryz.ntmps145
 go_upto_block 0 with fail
 generalize (w.alloc (.cells #[.int .i64 n, .int .i64 wy, .int .i64 1, .int .i64 R, .int .i64 D, .int .i64 L, .int .i64 G, .bool gr] 93)).alloc (.cells #[.int .i64 0, .bool false, .slice none 0 0, .int .i64 0] 73) = W0 at d0 v0 b0 ⊢
 obtain ⟨y0, y1, y2, y3, y4, y5, y6, y7⟩ := d0.cs8
 go_wp2_with fail
 refine (HO.out _).mono ?_
 rintro z w1 ⟨rfl, b1⟩
 have d1 := d0.later b1
 have v1 := v0.later b1
 have b01 := below_trans b0 b1
 clear y0 y1 y2 y3 y4 y5 y6 y7 d0 v0 b0 b1
 obtain ⟨y0, y1, y2, y3, y4, y5, y6, y7⟩ := d1.cs8
 go_wp2_with fail
 refine (HGr.out _ b01).mono ?_
 rintro z w2 ⟨u, rfl, r2, b2⟩
 obtain ⟨mo, mc, hu⟩ := r2.shape
 subst hu
 have v2 := v1.later b2
 have b02 := below_trans b01 b2
 clear y0 y1 y2 y3 y4 y5 y6 y7 d1 v1 b01 b2
 have cR : LocE ((((w2.setCell ⟨w.heap.size + 1, 0, none⟩ (.int .i64 2)).setCell ⟨w.heap.size + 1, 1, none⟩ (.bool ng)).setCell ⟨w.heap.size + 1, 2, none⟩ (.slice mo (Dg.dg 4294967296 m).length mc)).setCell ⟨w.heap.size + 1, 3, none⟩ (.int .i64 G)) (w.heap.size + 1) 73 [.int .i64 2, .bool ng, .slice mo (Dg.dg 4294967296 m).length mc, .int .i64 G] := ((((v2.set 0 (.int .i64 2)).set 1 (.bool ng)).set 2 (.slice mo (Dg.dg 4294967296 m).length mc)).set 3 (.int .i64 G))
 have bu := (((but_set w2 (w.heap.size + 1) 0 (.int .i64 2)).trans (but_set _ (w.heap.size + 1) 1 (.bool ng))).trans (but_set _ (w.heap.size + 1) 2 (.slice mo (Dg.dg 4294967296 m).length mc))).trans (but_set _ (w.heap.size + 1) 3 (.int .i64 G))
 have bR := bu.below b02 (by omega)
 have rR := bu.rd r2 (rd_offU r2 v2 (by simp))
 have hl := run_loadVar_mid (P := Tryz.prog) _ (w.heap.size + 1) 0 73 [.int .i64 2, .bool ng, .slice mo (Dg.dg 4294967296 m).length mc, .int .i64 G] _ cR.range Tryz.underlying73 rfl (by kernel_rfl)
 have HH : Hid (_ ∧ _ ∧ _) := ⟨hl, rR, bR⟩
 obtain ⟨z0, z1, z2, z3⟩ := v2.cs4
 have fz0 := v2.free 0
 have fz1 := v2.free 1
 have fz2 := v2.free 2
 have fz3 := v2.free 3
 clear hl bR bu cR rR
 clear v2 b02 r2
 go_wp2
 obtain ⟨hl, rR, bR⟩ := HH.out
 exact bodyPost_ret (results_one Tryz.results145 rfl hl) rfl ⟨_, rfl, rR, bR⟩
set_option maxHeartbeats 3200000 in
theorem over_B (n wy R D L G : Int) (gr ng : Bool) (m : Nat) (w : World)
  (HGr : ∀ w1, Below w.heap.size w w1 → Calls Tryz.prog 175 #[.agg #[.int .i64 n, .int .i64 wy, .int .i64 2, .int .i64 R, .int .i64 D, .int .i64 L, .int .i64 G, .bool gr], .bool ng] w1 (ValRes w1 2 ng m G)) :
  Calls Tryz.prog 145 #[.agg #[.int .i64 n, .int .i64 wy, .int .i64 2, .int .i64 R, .int .i64 D, .int .i64 L, .int .i64 G, .bool gr], .bool ng] w (ValRes w 2 ng m G) := by
 replace HGr : Hid _ := HGr
 have ad := below_alloc w (.cells #[.int .i64 n, .int .i64 wy, .int .i64 2, .int .i64 R, .int .i64 D, .int .i64 L, .int .i64 G, .bool gr] 93)
 have av := below_alloc (w.alloc (.cells #[.int .i64 n, .int .i64 wy, .int .i64 2, .int .i64 R, .int .i64 D, .int .i64 L, .int .i64 G, .bool gr] 93)) (.cells #[.int .i64 0, .bool false, .slice none 0 0, .int .i64 0] 73)
 have d0 := (locE_new w [.int .i64 n, .int .i64 wy, .int .i64 2, .int .i64 R, .int .i64 D, .int .i64 L, .int .i64 G, .bool gr] 93).later av
 have v0 := locE_new (w.alloc (.cells #[.int .i64 n, .int .i64 wy, .int .i64 2, .int .i64 R, .int .i64 D, .int .i64 L, .int .i64 G, .bool gr] 93)) [.int .i64 0, .bool false, .slice none 0 0, .int .i64 0] 73
 rw [World.size_alloc] at v0
 have b0 := below_trans ad av
 clear ad av
 go_enter Tryz.func145, Tryz.ntmps145
 go_upto_block 0 with fail
 generalize (w.alloc (.cells #[.int .i64 n, .int .i64 wy, .int .i64 2, .int .i64 R, .int .i64 D, .int .i64 L, .int .i64 G, .bool gr] 93)).alloc (.cells #[.int .i64 0, .bool false, .slice none 0 0, .int .i64 0] 73) = W0 at d0 v0 b0 ⊢
 obtain ⟨y0, y1, y2, y3, y4, y5, y6, y7⟩ := d0.cs8
 go_wp2_with fail
 refine (HGr.out _ b0).mono ?_
 rintro z w2 ⟨u, rfl, r2, b2⟩
 obtain ⟨mo, mc, hu⟩ := r2.shape
 subst hu
 have v2 := v0.later b2
 have b02 := below_trans b0 b2
 clear y0 y1 y2 y3 y4 y5 y6 y7 d0 v0 b0 b2
 have cR : LocE ((((w2.setCell ⟨w.heap.size + 1, 0, none⟩ (.int .i64 2)).setCell ⟨w.heap.size + 1, 1, none⟩ (.bool ng)).setCell ⟨w.heap.size + 1, 2, none⟩ (.slice mo (Dg.dg 4294967296 m).length mc)).setCell ⟨w.heap.size + 1, 3, none⟩ (.int .i64 G)) (w.heap.size + 1) 73 [.int .i64 2, .bool ng, .slice mo (Dg.dg 4294967296 m).length mc, .int .i64 G] := ((((v2.set 0 (.int .i64 2)).set 1 (.bool ng)).set 2 (.slice mo (Dg.dg 4294967296 m).length mc)).set 3 (.int .i64 G))
 have bu := (((but_set w2 (w.heap.size + 1) 0 (.int .i64 2)).trans (but_set _ (w.heap.size + 1) 1 (.bool ng))).trans (but_set _ (w.heap.size + 1) 2 (.slice mo (Dg.dg 4294967296 m).length mc))).trans (but_set _ (w.heap.size + 1) 3 (.int .i64 G))
 have bR := bu.below b02 (by omega)
 have rR := bu.rd r2 (rd_offU r2 v2 (by simp))
 have hl := run_loadVar_mid (P := Tryz.prog) _ (w.heap.size + 1) 0 73 [.int .i64 2, .bool ng, .slice mo (Dg.dg 4294967296 m).length mc, .int .i64 G] _ cR.range Tryz.underlying73 rfl (by kernel_rfl)
 have HH : Hid (_ ∧ _ ∧ _) := ⟨hl, rR, bR⟩
 obtain ⟨z0, z1, z2, z3⟩ := v2.cs4
 have fz0 := v2.free 0
 have fz1 := v2.free 1
 have fz2 := v2.free 2
 have fz3 := v2.free 3
 clear hl bR bu cR rR
 clear v2 b02 r2
 go_wp2
 obtain ⟨hl, rR, bR⟩ := HH.out
 exact bodyPost_ret (results_one Tryz.results145 rfl hl) rfl ⟨_, rfl, rR, bR⟩
end Go.Proofs.YtnhackdjplppjaaGreatDoor
namespace Go.Proofs.YtnhackdjplppjaaGreatDoor
open Go.RowKit
def endlessT (s : Bool) (m : Nat) (e : Int) (left : Bool) : Trip := ⟨s, m * 2 + (if left = true then 1 else 0), e - 1⟩
set_option maxHeartbeats 1600000 in
theorem endless_any (s : Bool) (v : Value) (m : Nat) (e : Int) (left : Bool) (w : World) (hr : Rd w .u32 v (Dg.dg 4294967296 m)) (hL : (Dg.dg 4294967296 m).length ≤ 500000) (he1 : -2000000 ≤ e) (he2 : e ≤ 2000000) :
  Calls Tryz.prog 179 #[.bool s, v, .int .i64 e, .bool left] w (DRes w (endlessT s m e left)) := by
 have HSH : Hid (∀ w1, Below w.heap.size w w1 → Calls Tryz.prog 177 #[v, .int .i64 1] w1 (Num w1 (m * 2))) := fun w1 b1 => by
  have := shifted_any v _ 1 w1 (hr.later b1) (Dg.small_dg _ _ (by omega)) (by omega) (by omega) (by omega)
  rw [Dg.vl_dg _ _ (by omega)] at this
  exact this
 have hl2 : (Dg.dg 4294967296 (m * 2)).length ≤ 500001 := by
  have := up_len m 1 500000 1 hL (by omega)
  rwa [Nat.pow_one] at this
 have HP1 : Hid (∀ v1 v2 w1, Rd w1 .u32 v1 (Dg.dg 4294967296 (m * 2)) → Rd w1 .u32 v2 [1] → Calls Tryz.prog 168 #[v1, v2] w1 (Num w1 (m * 2 + 1))) := fun v1 v2 w1 h1 h2 => by
  have := plus_any v1 v2 _ _ w1 h1 h2 (Dg.small_dg _ _ (by omega)) (Dg.small_cons.2 ⟨by omega, Dg.small_nil _ (by omega)⟩) (by omega) (by simp)
  rwa [Dg.vl_dg _ _ (by omega), show Dg.vl 4294967296 [1] = 1 from rfl] at this
 obtain ⟨ao, ca, rfl⟩ := hr.shape
 obtain ⟨l, hl⟩ : ∃ l, (Dg.dg 4294967296 m).length = l := ⟨_, rfl⟩
 rw [hl] at HSH ⊢
 have bA := below_alloc w (.cells #[.bool false, .slice none 0 0, .int .i64 0] 96)
 have l2 := loc_new w (.bool false) (.slice none 0 0) (.int .i64 0) 96
 have hew : IntKind.i64.wrap (e - 1) = e - 1 := IntWalk.i64_in _ ⟨by omega, by omega⟩
 unfold endlessT
 clear hr hL hl hl2
 cases left
 ·rw [if_neg (by decide), Nat.add_zero]
  go_enter Tryz.func179, Tryz.ntmps179
  go_wp2_with fail
  refine (HSH.out _ bA).mono ?_
  rintro z w1 ⟨v1, rfl, o1, b1⟩
  have o1 := o1.lower (show w.heap.size + 1 ≤ _ by simp [World.size_alloc])
  replace l2 := l2.later b1
  replace bA := below_trans bA b1
  obtain ⟨so, sc, hvr⟩ := o1.rd.shape
  subst hvr
  clear b1
  go_wp2_with fail
  refine (new_any s so (Dg.dg 4294967296 (m * 2)).length sc (e - 1) _).mono ?_
  rintro z w8 ⟨rfl, b8⟩
  replace l2 := l2.later b8
  replace bA := below_trans bA b8
  replace o1 := o1.later b8
  clear b8
  obtain ⟨hl2, ⟨d0, d1, d2⟩, f0, f1, f2⟩ := id l2
  obtain ⟨-, ⟨g0, g1, g2⟩, -⟩ := loc_set l2 (.bool s) (.slice so (Dg.dg 4294967296 (m * 2)).length sc) (.int .i64 (e - 1))
  have o7 := o1.apart3 (b := w.heap.size) (by omega) (.bool s) (.slice so (Dg.dg 4294967296 (m * 2)).length sc) (.int .i64 (e - 1))
  have b9 := below_set3 bA (Nat.le_refl _) (.bool s) (.slice so (Dg.dg 4294967296 (m * 2)).length sc) (.int .i64 (e - 1))
  go_wp2
  refine bodyPost_ret (v := .agg #[.bool s, .slice so (Dg.dg 4294967296 (m * 2)).length sc, .int .i64 (e - 1)]) (by simp [results, Tryz.results179, go_sem, g0, g1, g2]) rfl ?_
  exact ⟨_, rfl, o7.lower (by omega), b9⟩
 ·rw [if_pos rfl]
  go_enter Tryz.func179, Tryz.ntmps179
  go_wp2_with fail
  refine (HSH.out _ bA).mono ?_
  rintro z w1 ⟨v1, rfl, o1, b1⟩
  replace l2 := l2.later b1
  replace bA := below_trans bA b1
  have b7 := below_alloc w1 (.cells #[.int .u32 ((1 : Nat) : Int)] 141)
  have rn := rd_new (w := w1) (k := .u32) (e := 141) [1] #[.int .u32 ((1 : Nat) : Int)] rfl (by unfold maxLen; simp)
  have hpl := HP1.out _ _ _ (o1.rd.later b7) rn
  replace l2 := l2.later b7
  replace bA := below_trans bA b7
  have hsz := l2.1
  clear b1 b7 rn o1
  go_wp2_with fail
  refine hpl.mono ?_
  rintro z w3 ⟨v3, rfl, o1, b3⟩
  have o1 := o1.lower (show w.heap.size + 1 ≤ _ from hsz)
  replace l2 := l2.later b3
  replace bA := below_trans bA b3
  obtain ⟨so, sc, hvr⟩ := o1.rd.shape
  subst hvr
  clear b3 hpl
  go_wp2_with fail
  refine (new_any s so (Dg.dg 4294967296 (m * 2 + 1)).length sc (e - 1) _).mono ?_
  rintro z w8 ⟨rfl, b8⟩
  replace l2 := l2.later b8
  replace bA := below_trans bA b8
  replace o1 := o1.later b8
  clear b8
  obtain ⟨hl2, ⟨d0, d1, d2⟩, f0, f1, f2⟩ := id l2
  obtain ⟨-, ⟨g0, g1, g2⟩, -⟩ := loc_set l2 (.bool s) (.slice so (Dg.dg 4294967296 (m * 2 + 1)).length sc) (.int .i64 (e - 1))
  have o7 := o1.apart3 (b := w.heap.size) (by omega) (.bool s) (.slice so (Dg.dg 4294967296 (m * 2 + 1)).length sc) (.int .i64 (e - 1))
  have b9 := below_set3 bA (Nat.le_refl _) (.bool s) (.slice so (Dg.dg 4294967296 (m * 2 + 1)).length sc) (.int .i64 (e - 1))
  go_wp2
  refine bodyPost_ret (v := .agg #[.bool s, .slice so (Dg.dg 4294967296 (m * 2 + 1)).length sc, .int .i64 (e - 1)]) (by simp [results, Tryz.results179, go_sem, g0, g1, g2]) rfl ?_
  exact ⟨_, rfl, o7.lower (by omega), b9⟩
end Go.Proofs.YtnhackdjplppjaaGreatDoor
namespace Go.Proofs.YtnhackdjplppjaaGreatDoor
open Go.RowKit
def keptT (t : Trip) : Trip := if bitLen t.n ≤ 128 then t else endlessT t.s (t.n / 2 ^ (bitLen t.n - 128)) (t.e + ((bitLen t.n - 128 : Nat) : Int)) (decide (tz t.n < bitLen t.n - 128))
set_option maxHeartbeats 3200000 in
theorem kept_short (t : Trip) (to0 : Option Addr) (tc : Nat) (w : World) (hr : Rd w .u32 (.slice to0 (Dg.dg 4294967296 t.n).length tc) (Dg.dg 4294967296 t.n)) (hL : (Dg.dg 4294967296 t.n).length ≤ 100000) (hb : bitLen t.n ≤ 128) :
  Calls Tryz.prog 210 #[.agg #[.bool t.s, .slice to0 (Dg.dg 4294967296 t.n).length tc, .int .i64 t.e], .int .i64 128] w fun z w' => z = .returned (.agg #[.bool t.s, .slice to0 (Dg.dg 4294967296 t.n).length tc, .int .i64 t.e]) ∧ Below w.heap.size w w' := by
 have HD : Hid (∀ w1, Calls Tryz.prog 172 #[.agg #[.bool t.s, .slice to0 (Dg.dg 4294967296 t.n).length tc, .int .i64 t.e]] w1 fun x w' => x = .returned (.slice to0 (Dg.dg 4294967296 t.n).length tc) ∧ Below w1.heap.size w1 w') := fun w1 => digits_any _ _ _ _ _ w1
 have HB : Hid (∀ w1, Below w.heap.size w w1 → Calls Tryz.prog 176 #[.slice to0 (Dg.dg 4294967296 t.n).length tc] w1 fun e w' => e = .returned (.int .i64 ((bitLen t.n : Nat) : Int)) ∧ w' = w1) := fun w1 b => by
  have := bits_any _ _ w1 (hr.later b) (Dg.small_dg 4294967296 _ (by omega)) (Dg.norm_dg 4294967296 _ (by omega)) (by omega)
  rw [Dg.vl_dg _ _ (by omega)] at this
  exact this
 have ax := below_alloc w (.cells #[.bool t.s, .slice to0 (Dg.dg 4294967296 t.n).length tc, .int .i64 t.e] 96)
 have ao := below_alloc (w.alloc (.cells #[.bool t.s, .slice to0 (Dg.dg 4294967296 t.n).length tc, .int .i64 t.e] 96)) (.cells #[.bool false, .slice none 0 0, .int .i64 0] 96)
 have x0 := (locE_new w [.bool t.s, .slice to0 (Dg.dg 4294967296 t.n).length tc, .int .i64 t.e] 96).later ao
 have o0 := locE_new (w.alloc (.cells #[.bool t.s, .slice to0 (Dg.dg 4294967296 t.n).length tc, .int .i64 t.e] 96)) [.bool false, .slice none 0 0, .int .i64 0] 96
 rw [World.size_alloc] at o0
 have b0 := below_trans ax ao
 clear ax ao hr hL
 generalize bitLen t.n = k at *
 have hk : IntKind.i64.wrap ((k : Int) - 128) = (k : Int) - 128 := IntWalk.i64_in _ ⟨by omega, by omega⟩
 have hle : (k : Int) - 128 ≤ 0 := by omega
 go_enter Tryz.func210, Tryz.ntmps210
 go_upto_region 1 with fail
 generalize (w.alloc (.cells #[.bool t.s, .slice to0 (Dg.dg 4294967296 t.n).length tc, .int .i64 t.e] 96)).alloc (.cells #[.bool false, .slice none 0 0, .int .i64 0] 96) = W0 at x0 o0 b0 ⊢
 obtain ⟨y0, y1, y2⟩ := x0.cs3
 go_wp2_with fail
 refine (HD.out _).mono ?_
 rintro z w1 ⟨rfl, b1⟩
 have x1 := x0.later b1
 have o1 := o0.later b1
 have b01 := below_trans b0 b1
 clear y0 y1 y2 x0 o0 b0 b1 HD
 go_wp2_with fail
 refine (HB.out _ b01).mono ?_
 rintro z w2 ⟨rfl, rfl⟩
 clear HB
 obtain ⟨y0, y1, y2⟩ := x1.cs3
 have cR : LocE (((w2.setCell ⟨w.heap.size + 1, 0, none⟩ (.bool t.s)).setCell ⟨w.heap.size + 1, 1, none⟩ (.slice to0 (Dg.dg 4294967296 t.n).length tc)).setCell ⟨w.heap.size + 1, 2, none⟩ (.int .i64 t.e)) (w.heap.size + 1) 96 [.bool t.s, .slice to0 (Dg.dg 4294967296 t.n).length tc, .int .i64 t.e] := (((o1.set 0 (.bool t.s)).set 1 (.slice to0 (Dg.dg 4294967296 t.n).length tc)).set 2 (.int .i64 t.e))
 have bu := ((but_set w2 (w.heap.size + 1) 0 (.bool t.s)).trans (but_set _ (w.heap.size + 1) 1 (.slice to0 (Dg.dg 4294967296 t.n).length tc))).trans (but_set _ (w.heap.size + 1) 2 (.int .i64 t.e))
 have bR := bu.below b01 (by omega)
 have hl := run_loadVar_mid (P := Tryz.prog) _ (w.heap.size + 1) 0 96 [.bool t.s, .slice to0 (Dg.dg 4294967296 t.n).length tc, .int .i64 t.e] _ cR.range Tryz.underlying96 rfl (by kernel_rfl)
 have HH : Hid (_ ∧ _) := ⟨hl, bR⟩
 obtain ⟨z0, z1, z2⟩ := o1.cs3
 have fz0 := o1.free 0
 have fz1 := o1.free 1
 have fz2 := o1.free 2
 clear hl bR bu cR
 clear o1 b01 x1
 go_wp2
 obtain ⟨hl, bR⟩ := HH.out
 exact bodyPost_ret (results_one Tryz.results210 rfl hl) rfl ⟨rfl, bR⟩
end Go.Proofs.YtnhackdjplppjaaGreatDoor
namespace Go.Proofs.YtnhackdjplppjaaGreatDoor
open Go.RowKit
def RatRes (w : World) (s : Bool) (N M : Nat) (e : Int) (z : Ending) (w' : World) : Prop :=
 ∃ no nc mo mc, z = .returned (.agg #[.bool s, .slice no (Dg.dg 4294967296 N).length nc, .slice mo (Dg.dg 4294967296 M).length mc, .int .i64 e]) ∧ Rd w' .u32 (.slice no (Dg.dg 4294967296 N).length nc) (Dg.dg 4294967296 N) ∧ Rd w' .u32 (.slice mo (Dg.dg 4294967296 M).length mc) (Dg.dg 4294967296 M) ∧ Below w.heap.size w w'
theorem dg_one32 : Dg.dg 4294967296 1 = [1] := rfl
set_option maxHeartbeats 6400000 in
theorem ratioOf_W (t k : Trip) (to0 : Option Addr) (tc : Nat) (e2 dn : Int) (N M : Nat) (w : World) (hmx : min (max k.e (-20000)) 20000 = e2)
  (HK : ∀ w1, Below w.heap.size w w1 → Calls Tryz.prog 210 #[.agg #[.bool t.s, .slice to0 (Dg.dg 4294967296 t.n).length tc, .int .i64 t.e], .int .i64 128] w1 fun z w' => ∃ v, z = .returned (.agg #[.bool k.s, v, .int .i64 k.e]) ∧ Rd w' .u32 v (Dg.dg 4294967296 k.n) ∧ Below w1.heap.size w1 w')
  (HU : e2 < k.e → IntKind.i64.wrap (k.e - e2) = dn ∧ M = 1 ∧ ∀ ko kc w1, Rd w1 .u32 (.slice ko (Dg.dg 4294967296 k.n).length kc) (Dg.dg 4294967296 k.n) → Calls Tryz.prog 177 #[.slice ko (Dg.dg 4294967296 k.n).length kc, .int .i64 dn] w1 (Num w1 N))
  (HV : k.e ≤ e2 → IntKind.i64.wrap (e2 - k.e) = dn ∧ N = k.n ∧ ∀ q w1, w1.cell? ⟨q, 0, none⟩ = some (.int .u32 1) → Calls Tryz.prog 177 #[.slice (some ⟨q, 0, none⟩) 1 1, .int .i64 dn] w1 (Num w1 M)) :
  Calls Tryz.prog 164 #[.agg #[.bool t.s, .slice to0 (Dg.dg 4294967296 t.n).length tc, .int .i64 t.e]] w (RatRes w k.s N M e2) := by
 replace HK : Hid _ := HK
 replace HU : Hid _ := HU
 replace HV : Hid _ := HV
 have ax := below_alloc w (.cells #[.bool t.s, .slice to0 (Dg.dg 4294967296 t.n).length tc, .int .i64 t.e] 96)
 have ar := below_alloc (w.alloc (.cells #[.bool t.s, .slice to0 (Dg.dg 4294967296 t.n).length tc, .int .i64 t.e] 96)) (.cells #[.bool false, .slice none 0 0, .slice none 0 0, .int .i64 0] 53)
 have x0 := (locE_new w [.bool t.s, .slice to0 (Dg.dg 4294967296 t.n).length tc, .int .i64 t.e] 96).later ar
 have r0 := locE_new (w.alloc (.cells #[.bool t.s, .slice to0 (Dg.dg 4294967296 t.n).length tc, .int .i64 t.e] 96)) [.bool false, .slice none 0 0, .slice none 0 0, .int .i64 0] 53
 rw [World.size_alloc] at r0
 have b0 := below_trans ax ar
 clear ax ar
 go_enter Tryz.func164, Tryz.ntmps164
 go_upto_region 1 with fail
 generalize (w.alloc (.cells #[.bool t.s, .slice to0 (Dg.dg 4294967296 t.n).length tc, .int .i64 t.e] 96)).alloc (.cells #[.bool false, .slice none 0 0, .slice none 0 0, .int .i64 0] 53) = W0 at x0 r0 b0 ⊢
 obtain ⟨y0, y1, y2⟩ := x0.cs3
 go_wp2_with fail
 refine (HK.out _ b0).mono ?_
 rintro z w1 ⟨v, rfl, q1, b1⟩
 obtain ⟨ko, kc, hv⟩ := q1.shape
 subst hv
 have x1 := x0.later b1
 have r1 := r0.later b1
 have b01 := below_trans b0 b1
 clear y0 y1 y2 x0 r0 b0 b1 HK
 obtain ⟨z0, z1, z2⟩ := x1.cs3
 have f0 := x1.free 0
 have f1 := x1.free 1
 have f2 := x1.free 2
 have x2 : LocE (((w1.setCell ⟨w.heap.size, 0, none⟩ (.bool k.s)).setCell ⟨w.heap.size, 1, none⟩ (.slice ko (Dg.dg 4294967296 k.n).length kc)).setCell ⟨w.heap.size, 2, none⟩ (.int .i64 k.e)) w.heap.size 96 [.bool k.s, .slice ko (Dg.dg 4294967296 k.n).length kc, .int .i64 k.e] := (((x1.set 0 (.bool k.s)).set 1 (.slice ko (Dg.dg 4294967296 k.n).length kc)).set 2 (.int .i64 k.e))
 have bu := ((but_set w1 w.heap.size 0 (.bool k.s)).trans (but_set _ w.heap.size 1 (.slice ko (Dg.dg 4294967296 k.n).length kc))).trans (but_set _ w.heap.size 2 (.int .i64 k.e))
 have r2 := bu.loc r1 (by omega)
 have q2 := bu.rd q1 (rd_offU q1 x1 (by simp))
 have b2 := bu.below b01 (Nat.le_refl _)
 go_upto_region 2 with fail
 generalize (((w1.setCell ⟨w.heap.size, 0, none⟩ (.bool k.s)).setCell ⟨w.heap.size, 1, none⟩ (.slice ko (Dg.dg 4294967296 k.n).length kc)).setCell ⟨w.heap.size, 2, none⟩ (.int .i64 k.e)) = W2 at x2 r2 q2 b2 ⊢
 clear z0 z1 z2 f0 f1 f2 bu x1 r1 b01 q1
 obtain ⟨y0, y1, y2⟩ := x2.cs3
 have HD : Hid (∀ w1, Calls Tryz.prog 172 #[.agg #[.bool k.s, .slice ko (Dg.dg 4294967296 k.n).length kc, .int .i64 k.e]] w1 fun x w' => x = .returned (.slice ko (Dg.dg 4294967296 k.n).length kc) ∧ Below w1.heap.size w1 w') := fun w1 => digits_any _ _ _ _ _ w1
 go_wp2_with fail
 refine (HD.out _).mono ?_
 rintro z w3 ⟨rfl, b3⟩
 have al := below_alloc w3 (.cells #[.int .u32 1] 141)
 have ln := locE_new w3 [.int .u32 1] 141
 have x4 := (x2.later b3).later al
 have r4 := (r2.later b3).later al
 have q4 := (q2.later b3).later al
 have b4 := below_trans (below_trans b2 b3) al
 clear y0 y1 y2 x2 r2 q2 b2 b3 al HD
 go_upto_region 3 with fail
 generalize w3.alloc (.cells #[.int .u32 1] 141) = W4 at ln x4 r4 q4 b4 ⊢
 generalize w3.heap.size = Q at ln ⊢
 obtain ⟨y0, y1, y2⟩ := x4.cs3
 have hone := ln.cell 0 rfl
 by_cases hc : e2 < k.e
 ·obtain ⟨h1, h2, h3⟩ := HU.out hc
  have H3 : Hid _ := h3
  subst h2
  clear HU HV h3
  go_wp2_with fail
  refine (H3.out _ _ _ q4).mono ?_
  rintro z w5 ⟨u, rfl, o5, b5⟩
  obtain ⟨no, nc, hu⟩ := o5.rd.shape
  subst hu
  have r5 := r4.later b5
  have x5 := x4.later b5
  have n5 := o5.rd
  have hone5 := (ln.later b5).cell 0 rfl
  have m5 : Rd w5 .u32 (.slice (some ⟨Q, 0, none⟩) 1 1) (Dg.dg 4294967296 1) := by rw [dg_one32]; exact rd_one hone5
  have b05 := below_trans b4 b5
  clear y0 y1 y2 hone hone5 x4 r4 q4 b4 b5 o5 ln H3
  obtain ⟨y0, y1, y2⟩ := x5.cs3
  have h1l : (Dg.dg 4294967296 1).length = 1 := by rw [dg_one32]; rfl
  have cR : LocE ((((w5.setCell ⟨w.heap.size + 1, 0, none⟩ (.bool k.s)).setCell ⟨w.heap.size + 1, 1, none⟩ (.slice no (Dg.dg 4294967296 N).length nc)).setCell ⟨w.heap.size + 1, 2, none⟩ (.slice (some ⟨Q, 0, none⟩) 1 1)).setCell ⟨w.heap.size + 1, 3, none⟩ (.int .i64 e2)) (w.heap.size + 1) 53 [.bool k.s, .slice no (Dg.dg 4294967296 N).length nc, .slice (some ⟨Q, 0, none⟩) 1 1, .int .i64 e2] := ((((r5.set 0 (.bool k.s)).set 1 (.slice no (Dg.dg 4294967296 N).length nc)).set 2 (.slice (some ⟨Q, 0, none⟩) 1 1)).set 3 (.int .i64 e2))
  have bu := (((but_set w5 (w.heap.size + 1) 0 (.bool k.s)).trans (but_set _ (w.heap.size + 1) 1 (.slice no (Dg.dg 4294967296 N).length nc))).trans (but_set _ (w.heap.size + 1) 2 (.slice (some ⟨Q, 0, none⟩) 1 1))).trans (but_set _ (w.heap.size + 1) 3 (.int .i64 e2))
  have bR := bu.below b05 (by omega)
  have rN := bu.rd n5 (rd_offU n5 r5 (by simp))
  have rM := bu.rd m5 (rd_offU m5 r5 (by simp))
  have hl := run_loadVar_mid (P := Tryz.prog) _ (w.heap.size + 1) 0 53 [.bool k.s, .slice no (Dg.dg 4294967296 N).length nc, .slice (some ⟨Q, 0, none⟩) 1 1, .int .i64 e2] _ cR.range Tryz.underlying53 rfl (by kernel_rfl)
  have HH : Hid (_ ∧ _ ∧ _ ∧ _) := ⟨hl, rN, rM, bR⟩
  obtain ⟨z0, z1, z2, z3⟩ := r5.cs4
  have fz0 := r5.free 0
  have fz1 := r5.free 1
  have fz2 := r5.free 2
  have fz3 := r5.free 3
  clear hl bR bu cR rN rM
  clear r5 b05 n5 m5 x5
  go_wp2
  obtain ⟨hl, rN, rM, bR⟩ := HH.out
  refine bodyPost_ret (results_one Tryz.results164 rfl hl) rfl ⟨no, nc, some ⟨Q, 0, none⟩, 1, ?_, rN, ?_, bR⟩
  ·rw [h1l]
  ·rw [h1l]
   exact rM
 ·obtain ⟨h1, h2, h3⟩ := HV.out (by omega)
  have H3 : Hid _ := h3
  subst h2
  clear HU HV h3
  go_wp2_with fail
  refine (H3.out _ _ hone).mono ?_
  rintro z w5 ⟨u, rfl, o5, b5⟩
  obtain ⟨mo, mc, hu⟩ := o5.rd.shape
  subst hu
  have r5 := r4.later b5
  have x5 := x4.later b5
  have n5 := q4.later b5
  have m5 := o5.rd
  have b05 := below_trans b4 b5
  clear y0 y1 y2 hone x4 r4 q4 b4 b5 o5 ln H3
  obtain ⟨y0, y1, y2⟩ := x5.cs3
  have cR : LocE ((((w5.setCell ⟨w.heap.size + 1, 0, none⟩ (.bool k.s)).setCell ⟨w.heap.size + 1, 1, none⟩ (.slice ko (Dg.dg 4294967296 k.n).length kc)).setCell ⟨w.heap.size + 1, 2, none⟩ (.slice mo (Dg.dg 4294967296 M).length mc)).setCell ⟨w.heap.size + 1, 3, none⟩ (.int .i64 e2)) (w.heap.size + 1) 53 [.bool k.s, .slice ko (Dg.dg 4294967296 k.n).length kc, .slice mo (Dg.dg 4294967296 M).length mc, .int .i64 e2] := ((((r5.set 0 (.bool k.s)).set 1 (.slice ko (Dg.dg 4294967296 k.n).length kc)).set 2 (.slice mo (Dg.dg 4294967296 M).length mc)).set 3 (.int .i64 e2))
  have bu := (((but_set w5 (w.heap.size + 1) 0 (.bool k.s)).trans (but_set _ (w.heap.size + 1) 1 (.slice ko (Dg.dg 4294967296 k.n).length kc))).trans (but_set _ (w.heap.size + 1) 2 (.slice mo (Dg.dg 4294967296 M).length mc))).trans (but_set _ (w.heap.size + 1) 3 (.int .i64 e2))
  have bR := bu.below b05 (by omega)
  have rN := bu.rd n5 (rd_offU n5 r5 (by simp))
  have rM := bu.rd m5 (rd_offU m5 r5 (by simp))
  have hl := run_loadVar_mid (P := Tryz.prog) _ (w.heap.size + 1) 0 53 [.bool k.s, .slice ko (Dg.dg 4294967296 k.n).length kc, .slice mo (Dg.dg 4294967296 M).length mc, .int .i64 e2] _ cR.range Tryz.underlying53 rfl (by kernel_rfl)
  have HH : Hid (_ ∧ _ ∧ _ ∧ _) := ⟨hl, rN, rM, bR⟩
  obtain ⟨z0, z1, z2, z3⟩ := r5.cs4
  have fz0 := r5.free 0
  have fz1 := r5.free 1
  have fz2 := r5.free 2
  have fz3 := r5.free 3
  clear hl bR bu cR rN rM
  clear r5 b05 n5 m5 x5
  go_wp2
  obtain ⟨hl, rN, rM, bR⟩ := HH.out
  exact bodyPost_ret (results_one Tryz.results164 rfl hl) rfl ⟨_, _, _, _, rfl, rN, rM, bR⟩
end Go.Proofs.YtnhackdjplppjaaGreatDoor

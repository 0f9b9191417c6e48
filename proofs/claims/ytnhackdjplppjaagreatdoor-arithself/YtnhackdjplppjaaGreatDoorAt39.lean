/-
  Texts laid together: Gb7.
-/
import Derived.Test.YtnhackdjplppjaaGreatDoorAt33
import Derived.Test.YtnhackdjplppjaaGreatDoorAt36
set_option maxRecDepth 100000
namespace Go.Proofs.YtnhackdjplppjaaGreatDoor
open Go.RowKit
set_option maxHeartbeats 3200000 in
theorem oopposite_any (c : Int) (gx : Bool) (x : Trip) (xo : Option Addr) (xc : Nat) (w : World) (rx : Rd w .u32 (.slice xo (Dg.dg 4294967296 x.n).length xc) (Dg.dg 4294967296 x.n)) :
  Calls Tryz.prog 63 #[.agg #[.int .i64 c, .bool gx, .bool x.s, .slice xo (Dg.dg 4294967296 x.n).length xc, .int .i64 x.e]] w (OpRes w c (!gx) ⟨!x.s, x.n, x.e⟩) := by
 obtain ⟨W4, hW5, q1, q2, b3⟩ := ent2 w [.int .i64 c, .bool gx, .bool x.s, .slice xo (Dg.dg 4294967296 x.n).length xc, .int .i64 x.e] 98 [.int .i64 0, .bool false, .bool false, .slice none 0 0, .int .i64 0] 98
 replace hW5 : Hid _ := hW5
 have r6 := rx.later b3
 clear rx
 go_enter Tryz.func63, Tryz.ntmps63
 go_upto_region 1 with fail
 rw [hW5.out]
 clear hW5
 have c8 := q1.cell 1 rfl
 have bu := but_set W4 w.heap.size 1 (.bool (!gx))
 have q7 : LocE (W4.setCell ⟨w.heap.size, 1, none⟩ (.bool (!gx))) w.heap.size 98 [.int .i64 c, .bool (!gx), .bool x.s, .slice xo (Dg.dg 4294967296 x.n).length xc, .int .i64 x.e] := (q1.set 1 (.bool (!gx)))
 have c9 := q1.cell 1 rfl
 have y10 := q1.free 1
 have q11 := bu.loc q2 (by omega)
 have r12 := bu.rd r6 (rd_offU r6 q1 (by simp))
 have b13 := bu.below b3 (by omega)
 clear bu
 go_upto_region 2 with fail
 generalize W4.setCell ⟨w.heap.size, 1, none⟩ (.bool (!gx)) = W14 at q7 q11 r12 b13 ⊢
 clear q1 q2 r6 b3 c8 c9 y10
 have c16 := q7.cell 2 rfl
 have bu := but_set W14 w.heap.size 2 (.bool (!x.s))
 have q15 : LocE (W14.setCell ⟨w.heap.size, 2, none⟩ (.bool (!x.s))) w.heap.size 98 [.int .i64 c, .bool (!gx), .bool (!x.s), .slice xo (Dg.dg 4294967296 x.n).length xc, .int .i64 x.e] := (q7.set 2 (.bool (!x.s)))
 have c17 := q7.cell 2 rfl
 have y18 := q7.free 2
 have q19 := bu.loc q11 (by omega)
 have r20 := bu.rd r12 (rd_offU r12 q7 (by simp))
 have b21 := bu.below b13 (by omega)
 clear bu
 go_upto_region 3 with fail
 generalize W14.setCell ⟨w.heap.size, 2, none⟩ (.bool (!x.s)) = W22 at q15 q19 r20 b21 ⊢
 clear q7 q11 r12 b13 c16 c17 y18
 obtain ⟨c23, c24, c25, c26, c27⟩ := q15.cs5
 have hf := fin5 (P := Tryz.prog) q19 b21 (by omega) Tryz.underlying98 rfl (by kernel_rfl) (.int .i64 c) (.bool (!gx)) (.bool (!x.s)) (.slice xo (Dg.dg 4294967296 x.n).length xc) (.int .i64 x.e)
 have HH : Hid (_ ∧ _ ∧ _) := ⟨hf.1, hf.2.2.rd r20 (rd_offU r20 q19 (by simp)), hf.2.1⟩
 obtain ⟨⟨z0, z1, z2, z3, z4⟩, y0, y1, y2, y3, y4⟩ := csf5 q19
 clear hf q15 q19 r20 b21
 go_wp2
 obtain ⟨hl, rRx, bR⟩ := HH.out
 exact bodyPost_ret (results_one Tryz.results63 rfl hl) rfl ⟨_, rfl, rRx, bR⟩
set_option maxHeartbeats 3200000 in
theorem dbyZero_1 (n wy R D L G : Int) (gr : Bool) (ng : Bool) (w : World) :
  Calls Tryz.prog 128 #[.agg #[.int .i64 n, .int .i64 wy, .int .i64 1, .int .i64 R, .int .i64 D, .int .i64 L, .int .i64 G, .bool gr], .bool ng] w (OpRes2 w 3 ng ⟨false, 0, 0⟩ 8) := by
 obtain ⟨W4, hW5, q1, q2, b3⟩ := ent2 w [.int .i64 n, .int .i64 wy, .int .i64 1, .int .i64 R, .int .i64 D, .int .i64 L, .int .i64 G, .bool gr] 93 [.int .i64 0, .bool false, .bool false, .slice none 0 0, .int .i64 0] 98
 replace hW5 : Hid _ := hW5
 go_enter Tryz.func128, Tryz.ntmps128
 go_upto_region 1 with fail
 rw [hW5.out]
 clear hW5
 have c6 := q1.cell 2 rfl
 have hf := fin5 (P := Tryz.prog) q2 b3 (by omega) Tryz.underlying98 rfl (by kernel_rfl) (.int .i64 3) (.bool ng) (.bool false) (.slice none 0 0) (.int .i64 0)
 have HH : Hid (_ ∧ _) := ⟨hf.1, hf.2.1⟩
 obtain ⟨⟨z0, z1, z2, z3, z4⟩, y0, y1, y2, y3, y4⟩ := csf5 q2
 clear hf q1 q2 b3
 go_wp2
 obtain ⟨hl, bR⟩ := HH.out
 exact bodyPost_ret (results_two Tryz.results128 rfl rfl hl) rfl ⟨_, rfl, rd_nil _ _, bR⟩
set_option maxHeartbeats 3200000 in
theorem dbyZero_3 (c : Int) (n wy R D L G : Int) (gr : Bool) (ng : Bool) (w : World)
  (HN : ∀ w1, Calls Tryz.prog 108 #[.agg #[.int .i64 n, .int .i64 wy, .int .i64 3, .int .i64 R, .int .i64 D, .int .i64 L, .int .i64 G, .bool gr], .int .i64 8] w1 fun z w' => z = .returned (.tuple #[.agg #[.int .i64 c, .bool false, .bool false, .slice none 0 0, .int .i64 0], .int .i64 8]) ∧ Below w1.heap.size w1 w') :
  Calls Tryz.prog 128 #[.agg #[.int .i64 n, .int .i64 wy, .int .i64 3, .int .i64 R, .int .i64 D, .int .i64 L, .int .i64 G, .bool gr], .bool ng] w (OpRes2 w c false ⟨false, 0, 0⟩ 8) := by
 replace HN : Hid _ := HN
 obtain ⟨W4, hW5, q1, q2, b3⟩ := ent2 w [.int .i64 n, .int .i64 wy, .int .i64 3, .int .i64 R, .int .i64 D, .int .i64 L, .int .i64 G, .bool gr] 93 [.int .i64 0, .bool false, .bool false, .slice none 0 0, .int .i64 0] 98
 replace hW5 : Hid _ := hW5
 go_enter Tryz.func128, Tryz.ntmps128
 go_upto_region 1 with fail
 rw [hW5.out]
 clear hW5
 obtain ⟨c6, c7, c8, c9, c10, c11, c12, c13⟩ := q1.cs8
 go_wp2_with fail
 refine (HN.out _).mono ?_
 rintro zz w14 ⟨rfl, bb15⟩
 have q16 := q2.later bb15
 have b17 := below_trans b3 bb15
 clear q1 q2 b3 bb15 HN c6 c7 c8 c9 c10 c11 c12 c13
 have hf := fin5 (P := Tryz.prog) q16 b17 (by omega) Tryz.underlying98 rfl (by kernel_rfl) (.int .i64 c) (.bool false) (.bool false) (.slice none 0 0) (.int .i64 0)
 have HH : Hid (_ ∧ _) := ⟨hf.1, hf.2.1⟩
 obtain ⟨⟨z0, z1, z2, z3, z4⟩, y0, y1, y2, y3, y4⟩ := csf5 q16
 clear hf q16 b17
 go_wp2
 obtain ⟨hl, bR⟩ := HH.out
 exact bodyPost_ret (results_two Tryz.results128 rfl rfl hl) rfl ⟨_, rfl, rd_nil _ _, bR⟩
set_option maxHeartbeats 3200000 in
theorem dbyZero_2 (c : Int) (g : Bool) (m : Nat) (x t : Trip) (n wy R D L G : Int) (gr : Bool) (ng : Bool) (w : World)
  (HG : ∀ w1, Below w.heap.size w w1 → Calls Tryz.prog 175 #[.agg #[.int .i64 n, .int .i64 wy, .int .i64 2, .int .i64 R, .int .i64 D, .int .i64 L, .int .i64 G, .bool gr], .bool ng] w1 (ValRes w1 2 ng m G))
  (HU : ∀ mo mc w1, Below w.heap.size w w1 → Rd w1 .u32 (.slice mo (Dg.dg 4294967296 m).length mc) (Dg.dg 4294967296 m) → Calls Tryz.prog 174 #[.agg #[.int .i64 2, .bool ng, .slice mo (Dg.dg 4294967296 m).length mc, .int .i64 G], .agg #[.int .i64 R, .int .i64 D, .int .i64 L, .int .i64 G, .bool gr]] w1 fun z w' => ∃ v, z = .returned (.agg #[.bool x.s, v, .int .i64 x.e]) ∧ Rd w' .u32 v (Dg.dg 4294967296 x.n) ∧ Below w1.heap.size w1 w')
  (HO : ∀ xo xc w1, Calls Tryz.prog 138 #[.agg #[.bool x.s, .slice xo (Dg.dg 4294967296 x.n).length xc, .int .i64 x.e]] w1 fun z w' => z = .returned (.agg #[.bool x.s, .slice xo (Dg.dg 4294967296 x.n).length xc, .int .i64 x.e]) ∧ Below w1.heap.size w1 w')
  (HM : ∀ xo xc w1, Rd w1 .u32 (.slice xo (Dg.dg 4294967296 x.n).length xc) (Dg.dg 4294967296 x.n) → Calls Tryz.prog 110 #[.agg #[.bool x.s, .slice xo (Dg.dg 4294967296 x.n).length xc, .int .i64 x.e], .bool ng] w1 (OpRes w1 c g t)) :
  Calls Tryz.prog 128 #[.agg #[.int .i64 n, .int .i64 wy, .int .i64 2, .int .i64 R, .int .i64 D, .int .i64 L, .int .i64 G, .bool gr], .bool ng] w (OpRes2 w c g t 8) := by
 replace HG : Hid _ := HG
 replace HU : Hid _ := HU
 replace HO : Hid _ := HO
 replace HM : Hid _ := HM
 obtain ⟨W4, hW5, q1, q2, b3⟩ := ent2 w [.int .i64 n, .int .i64 wy, .int .i64 2, .int .i64 R, .int .i64 D, .int .i64 L, .int .i64 G, .bool gr] 93 [.int .i64 0, .bool false, .bool false, .slice none 0 0, .int .i64 0] 98
 replace hW5 : Hid _ := hW5
 go_enter Tryz.func128, Tryz.ntmps128
 go_upto_region 1 with fail
 rw [hW5.out]
 clear hW5
 have c6 := q1.cell 2 rfl
 go_upto_region 5 with fail
 clear c6
 have bW7 : Below W4.heap.size W4 W4.drew := (Below.refl _ _).drew
 have q8 := q1.later bW7
 have q9 := q2.later bW7
 have b10 := below_trans b3 bW7
 clear q1 q2 b3 bW7
 refine wp_region_held_drew (S := fun wq => LocE wq w.heap.size 93 [.int .i64 n, .int .i64 wy, .int .i64 2, .int .i64 R, .int .i64 D, .int .i64 L, .int .i64 G, .bool gr]) (by kernel_rfl) q8 (fun hS0 => ?_)
 generalize W4.drew = WD11 at q8 q9 b10 hS0 ⊢
 refine tk 0 (.agg #[.int .i64 n, .int .i64 wy, .int .i64 2, .int .i64 R, .int .i64 D, .int .i64 L, .int .i64 G, .bool gr]) rfl (by kernel_rfl) (fun _ _ _ h => h) (fun _ hw0 => xrow 93 (.tmp 2) rfl w.heap.size 0 (by kernel_rfl) _ _ hw0.range Tryz.underlying93 rfl (by kernel_rfl)) hS0 ?_
 refine tk 1 (.bool ng) rfl (by kernel_rfl) (fun _ _ _ h => h) (fun _ _ => by kernel_rfl) hS0 ?_
 refine tk 3 (.pointer (some ⟨w.heap.size, 3, none⟩)) rfl (by kernel_rfl) (fun _ _ _ h => h) (fun _ _ => by kernel_rfl) hS0 ?_
 refine tk 4 (.agg #[.int .i64 R, .int .i64 D, .int .i64 L, .int .i64 G, .bool gr]) rfl (by kernel_rfl) (fun _ _ _ h => h) (fun _ hw0 => xrow 56 (.tmp 17) rfl w.heap.size 3 (by kernel_rfl) _ _ (range_mid hw0 3 5 rfl) Tryz.underlying56 rfl (by kernel_rfl)) hS0 ?_
 refine tk 7 (.bool ng) rfl (by kernel_rfl) (fun _ _ _ h => h) (fun _ _ => by kernel_rfl) hS0 ?_
 refine wpAnyH_ready (rs := [2]) (by kernel_rfl) (by simp) ?_
 refine AllReadyH.cons rfl (fun K hK => ?_) AllReadyH.nil
 go_simp
 refine (HG.out _ b10).mono ?_
 rintro zz w12 ⟨v114, rfl, r115, bb13⟩
 have q16 := q8.later bb13
 have q17 := q9.later bb13
 have b18 := below_trans b10 bb13
 obtain ⟨mo, mc, hv⟩ := r115.shape
 subst hv
 clear q8 q9 b10 bb13 HG
 refine hK.out _ _ q16 (fun hS19 => ?_)
 clear hK K
 refine wpAnyH_ready (rs := [5]) (by kernel_rfl) (by simp) ?_
 refine AllReadyH.cons rfl (fun K hK => ?_) AllReadyH.nil
 go_simp
 refine (HU.out _ _ _ b18 r115).mono ?_
 rintro zz w20 ⟨v122, rfl, r123, bb21⟩
 have q24 := q16.later bb21
 have q25 := q17.later bb21
 have r26 := r115.later bb21
 have b27 := below_trans b18 bb21
 obtain ⟨xo, xc, hv⟩ := r123.shape
 subst hv
 clear q16 q17 r115 b18 bb21 HU
 refine hK.out _ _ q24 (fun hS28 => ?_)
 clear hK K
 refine wpAnyH_ready (rs := [6]) (by kernel_rfl) (by simp) ?_
 refine AllReadyH.cons rfl (fun K hK => ?_) AllReadyH.nil
 go_simp
 refine (HO.out _ _ _).mono ?_
 rintro zz w29 ⟨rfl, bb30⟩
 have q31 := q24.later bb30
 have q32 := q25.later bb30
 have r33 := r26.later bb30
 have r34 := r123.later bb30
 have b35 := below_trans b27 bb30
 clear q24 q25 r26 r123 b27 bb30 HO
 refine hK.out _ _ q31 (fun hS36 => ?_)
 clear hK K
 refine wpAnyH_ready (rs := [8]) (by kernel_rfl) (by simp) ?_
 refine AllReadyH.cons rfl (fun K hK => ?_) AllReadyH.nil
 go_simp
 refine (HM.out _ _ _ r34).mono ?_
 rintro zz w37 ⟨v139, rfl, r140, bb38⟩
 have q41 := q31.later bb38
 have q42 := q32.later bb38
 have r43 := r33.later bb38
 have r44 := r34.later bb38
 have b45 := below_trans b35 bb38
 obtain ⟨so, sc, hv⟩ := r140.shape
 subst hv
 clear q31 q32 r33 r34 b35 bb38 HM
 refine hK.out _ _ q41 (fun hS46 => ?_)
 clear hK K
 refine wpAnyH_ready (rs := [9]) (by kernel_rfl) (by simp) ?_
 refine AllReadyH.cons rfl (fun K hK => ?_) AllReadyH.nil
 have bu : But (w.heap.size + 1) w37 (w37.setCells (w.heap.size + 1) 0 [.int .i64 c, .bool g, .bool t.s, .slice so (Dg.dg 4294967296 t.n).length sc, .int .i64 t.e]) := but_sets _ _ _ _
 have hth : w37.there (w.heap.size + 1) 0 5 := there_of q42
 have q47 : LocE (w37.setCells (w.heap.size + 1) 0 [.int .i64 c, .bool g, .bool t.s, .slice so (Dg.dg 4294967296 t.n).length sc, .int .i64 t.e]) (w.heap.size + 1) 98 [.int .i64 c, .bool g, .bool t.s, .slice so (Dg.dg 4294967296 t.n).length sc, .int .i64 t.e] := q42.sets _ rfl
 have r48 := bu.rd r43 (rd_offU r43 q42 (by simp))
 have r49 := bu.rd r44 (rd_offU r44 q42 (by simp))
 have r50 := bu.rd r140 (rd_offU r140 q42 (by simp))
 have q51 := bu.loc q41 (by omega)
 have b52 := bu.below b45 (by omega)
 rw [if_pos (by kernel_rfl)]
 refine wp_store_mid 98 (.tmp 4) (.tmp 22) rfl (w.heap.size + 1) 0 #[.int .i64 c, .bool g, .bool t.s, .slice so (Dg.dg 4294967296 t.n).length sc, .int .i64 t.e] (by kernel_rfl) (by kernel_rfl) hth (by kernel_rfl) (by simp [Value.oneCell']) ?_
 refine hK.out _ _ q51 (fun hS53 => ?_)
 clear hK K
 clear q42 r43 r44 r140 q41 b45 bu hth
 refine tk 10 (.int .i64 8) rfl (by kernel_rfl) (fun _ _ _ h => h) (fun _ _ => by kernel_rfl) hS53 ?_
 refine wpAnyH_done (by kernel_rfl) ?_ _
 clear hS0 hS19 hS28 hS36 hS46 hS53
 change Exit.then _ _ _ _ (World.setCells w37 (w.heap.size + 1) 0 [.int .i64 c, .bool g, .bool t.s, .slice so (Dg.dg 4294967296 t.n).length sc, .int .i64 t.e])
 generalize World.setCells w37 (w.heap.size + 1) 0 [.int .i64 c, .bool g, .bool t.s, .slice so (Dg.dg 4294967296 t.n).length sc, .int .i64 t.e] = W54 at q51 q47 r48 r49 r50 b52 ⊢
 simp only [Act.put, List.getElem_toArray, List.getElem_cons_succ, List.getElem_cons_zero, List.setIfInBounds_toArray, List.set_cons_zero, List.set_cons_succ]
 have hl := run_loadVar_mid (P := Tryz.prog) _ (w.heap.size + 1) 0 98 [.int .i64 c, .bool g, .bool t.s, .slice so (Dg.dg 4294967296 t.n).length sc, .int .i64 t.e] _ q47.range Tryz.underlying98 rfl (by kernel_rfl)
 go_wp2
 exact bodyPost_ret (results_two Tryz.results128 rfl rfl hl) rfl ⟨_, rfl, r50, b52⟩
set_option maxHeartbeats 3200000 in
theorem mul1_W (cx cy c fl : Int) (gg : Bool) (t : Trip) (n wy fam R D L G : Int) (gr : Bool) (gx gy : Bool) (x y : Trip) (xo yo : Option Addr) (xc yc : Nat) (g cap : Nat) (w : World) (h0 : w.rangeAt g 0 [.int .i64 cx, .bool gx, .bool x.s, .slice xo (Dg.dg 4294967296 x.n).length xc, .int .i64 x.e]) (h1 : w.rangeAt g 5 [.int .i64 cy, .bool gy, .bool y.s, .slice yo (Dg.dg 4294967296 y.n).length yc, .int .i64 y.e])
  (HS : ∀ w1, Below w.heap.size w w1 → Calls Tryz.prog 65 #[.agg #[.int .i64 n, .int .i64 wy, .int .i64 fam, .int .i64 R, .int .i64 D, .int .i64 L, .int .i64 G, .bool gr], .agg #[.int .i64 cx, .bool gx, .bool x.s, .slice xo (Dg.dg 4294967296 x.n).length xc, .int .i64 x.e], .agg #[.int .i64 cy, .bool gy, .bool y.s, .slice yo (Dg.dg 4294967296 y.n).length yc, .int .i64 y.e]] w1 (OpRes2 w1 c gg t fl)) :
  Calls Tryz.prog 64 #[.agg #[.int .i64 n, .int .i64 wy, .int .i64 fam, .int .i64 R, .int .i64 D, .int .i64 L, .int .i64 G, .bool gr], .slice (some ⟨g, 0, none⟩) 2 cap] w (OpRes2 w c gg t fl) := by
 replace HS : Hid _ := HS
 have hgl : g < w.heap.size := World.block_lt_of_cell? w _ (h0 0 _ rfl)
 obtain ⟨W4, hW5, q1, q2, b3⟩ := ent2 w [.int .i64 n, .int .i64 wy, .int .i64 fam, .int .i64 R, .int .i64 D, .int .i64 L, .int .i64 G, .bool gr] 93 [.int .i64 0, .bool false, .bool false, .slice none 0 0, .int .i64 0] 98
 replace hW5 : Hid _ := hW5
 have q6 := range_later h0 b3
 have q7 := range_later h1 b3
 clear h0 h1
 go_enter Tryz.func64, Tryz.ntmps64
 go_upto_region 1 with fail
 rw [hW5.out]
 clear hW5
 go_upto_region 1 with fail
 have bW8 : Below W4.heap.size W4 W4.drew := (Below.refl _ _).drew
 have q9 := range_later q6 bW8
 have q10 := range_later q7 bW8
 have q11 := q1.later bW8
 have q12 := q2.later bW8
 have b13 := below_trans b3 bW8
 clear q6 q7 q1 q2 b3 bW8
 refine wp_region_held_drew (S := fun wq => wq.rangeAt g 0 [.int .i64 cx, .bool gx, .bool x.s, .slice xo (Dg.dg 4294967296 x.n).length xc, .int .i64 x.e] ∧ wq.rangeAt g 5 [.int .i64 cy, .bool gy, .bool y.s, .slice yo (Dg.dg 4294967296 y.n).length yc, .int .i64 y.e] ∧ LocE wq w.heap.size 93 [.int .i64 n, .int .i64 wy, .int .i64 fam, .int .i64 R, .int .i64 D, .int .i64 L, .int .i64 G, .bool gr]) (by kernel_rfl) ⟨q9, q10, q11⟩ (fun hS0 => ?_)
 generalize W4.drew = WD14 at q9 q10 q11 q12 b13 hS0 ⊢
 refine tk 0 (.agg #[.int .i64 n, .int .i64 wy, .int .i64 fam, .int .i64 R, .int .i64 D, .int .i64 L, .int .i64 G, .bool gr]) rfl (by kernel_rfl) (fun _ _ _ h => h) (fun _ hw0 => xrow 93 (.tmp 2) rfl w.heap.size 0 (by kernel_rfl) _ _ hw0.2.2.range Tryz.underlying93 rfl (by kernel_rfl)) hS0 ?_
 refine tk 1 (.slice (some ⟨g, 0, none⟩) 2 cap) rfl (by kernel_rfl) (fun _ _ _ h => h) (fun _ _ => by kernel_rfl) hS0 ?_
 refine tk 2 (.pointer (some ⟨g, 0, none⟩)) rfl (by kernel_rfl) (fun _ _ _ h => h) (fun _ _ => by kernel_rfl) hS0 ?_
 refine tk 3 (.agg #[.int .i64 cx, .bool gx, .bool x.s, .slice xo (Dg.dg 4294967296 x.n).length xc, .int .i64 x.e]) rfl (by kernel_rfl) (fun _ _ _ h => h) (fun _ hw0 => xrow 98 (.tmp 8) rfl g 0 (by kernel_rfl) _ _ hw0.1 Tryz.underlying98 rfl (by kernel_rfl)) hS0 ?_
 refine tk 4 (.slice (some ⟨g, 0, none⟩) 2 cap) rfl (by kernel_rfl) (fun _ _ _ h => h) (fun _ _ => by kernel_rfl) hS0 ?_
 refine tk 5 (.pointer (some ⟨g, 5, none⟩)) rfl (by kernel_rfl) (fun _ _ _ h => h) (fun _ _ => by kernel_rfl) hS0 ?_
 refine tk 6 (.agg #[.int .i64 cy, .bool gy, .bool y.s, .slice yo (Dg.dg 4294967296 y.n).length yc, .int .i64 y.e]) rfl (by kernel_rfl) (fun _ _ _ h => h) (fun _ hw0 => xrow 98 (.tmp 11) rfl g 5 (by kernel_rfl) _ _ hw0.2.1 Tryz.underlying98 rfl (by kernel_rfl)) hS0 ?_
 refine wpAnyH_ready (rs := [7]) (by kernel_rfl) (by simp) ?_
 refine AllReadyH.cons rfl (fun K hK => ?_) AllReadyH.nil
 go_simp
 refine (HS.out _ b13).mono ?_
 rintro zz w15 ⟨v117, rfl, r118, bb16⟩
 have q19 := range_later q9 bb16
 have q20 := range_later q10 bb16
 have q21 := q11.later bb16
 have q22 := q12.later bb16
 have b23 := below_trans b13 bb16
 obtain ⟨so, sc, hv⟩ := r118.shape
 subst hv
 clear q9 q10 q11 q12 b13 bb16 HS
 refine hK.out _ _ ⟨q19, q20, q21⟩ (fun hS24 => ?_)
 clear hK K
 refine tk 8 (.agg #[.int .i64 c, .bool gg, .bool t.s, .slice so (Dg.dg 4294967296 t.n).length sc, .int .i64 t.e]) rfl (by kernel_rfl) (fun _ _ _ h => h) (fun _ _ => by go_simp) hS24 ?_
 refine tk 9 (.int .i64 fl) rfl (by kernel_rfl) (fun _ _ _ h => h) (fun _ _ => by go_simp) hS24 ?_
 refine wpAnyH_ready (rs := [10]) (by kernel_rfl) (by simp) ?_
 refine AllReadyH.cons rfl (fun K hK => ?_) AllReadyH.nil
 have bu : But (w.heap.size + 1) w15 (w15.setCells (w.heap.size + 1) 0 [.int .i64 c, .bool gg, .bool t.s, .slice so (Dg.dg 4294967296 t.n).length sc, .int .i64 t.e]) := but_sets _ _ _ _
 have hth : w15.there (w.heap.size + 1) 0 5 := there_of q22
 have q25 : LocE (w15.setCells (w.heap.size + 1) 0 [.int .i64 c, .bool gg, .bool t.s, .slice so (Dg.dg 4294967296 t.n).length sc, .int .i64 t.e]) (w.heap.size + 1) 98 [.int .i64 c, .bool gg, .bool t.s, .slice so (Dg.dg 4294967296 t.n).length sc, .int .i64 t.e] := q22.sets _ rfl
 have r26 := bu.rd r118 (rd_offU r118 q22 (by simp))
 have q27 := but_range bu q19 (by omega)
 have q28 := but_range bu q20 (by omega)
 have q29 := bu.loc q21 (by omega)
 have b30 := bu.below b23 (by omega)
 rw [if_pos (by kernel_rfl)]
 refine wp_store_mid 98 (.tmp 4) (.tmp 14) rfl (w.heap.size + 1) 0 #[.int .i64 c, .bool gg, .bool t.s, .slice so (Dg.dg 4294967296 t.n).length sc, .int .i64 t.e] (by kernel_rfl) (by kernel_rfl) hth (by kernel_rfl) (by simp [Value.oneCell']) ?_
 refine hK.out _ _ ⟨q27, q28, q29⟩ (fun hS31 => ?_)
 clear hK K
 clear q22 r118 q19 q20 q21 b23 bu hth
 refine tk 11 (.int .i64 fl) rfl (by kernel_rfl) (fun _ _ _ h => h) (fun _ _ => by kernel_rfl) hS31 ?_
 refine wpAnyH_done (by kernel_rfl) ?_ _
 clear hS0 hS24 hS31
 change Exit.then _ _ _ _ (World.setCells w15 (w.heap.size + 1) 0 [.int .i64 c, .bool gg, .bool t.s, .slice so (Dg.dg 4294967296 t.n).length sc, .int .i64 t.e])
 generalize World.setCells w15 (w.heap.size + 1) 0 [.int .i64 c, .bool gg, .bool t.s, .slice so (Dg.dg 4294967296 t.n).length sc, .int .i64 t.e] = W32 at q27 q28 q29 q25 r26 b30 ⊢
 simp only [Act.put, List.getElem_toArray, List.getElem_cons_succ, List.getElem_cons_zero, List.setIfInBounds_toArray, List.set_cons_zero, List.set_cons_succ]
 have hl := run_loadVar_mid (P := Tryz.prog) _ (w.heap.size + 1) 0 98 [.int .i64 c, .bool gg, .bool t.s, .slice so (Dg.dg 4294967296 t.n).length sc, .int .i64 t.e] _ q25.range Tryz.underlying98 rfl (by kernel_rfl)
 go_wp2
 exact bodyPost_ret (results_two Tryz.results64 rfl rfl hl) rfl ⟨_, rfl, r26, b30⟩
set_option maxHeartbeats 3200000 in
theorem div1_W (cx cy c fl : Int) (gg : Bool) (t : Trip) (n wy fam R D L G : Int) (gr : Bool) (gx gy : Bool) (x y : Trip) (xo yo : Option Addr) (xc yc : Nat) (g cap : Nat) (w : World) (h0 : w.rangeAt g 0 [.int .i64 cx, .bool gx, .bool x.s, .slice xo (Dg.dg 4294967296 x.n).length xc, .int .i64 x.e]) (h1 : w.rangeAt g 5 [.int .i64 cy, .bool gy, .bool y.s, .slice yo (Dg.dg 4294967296 y.n).length yc, .int .i64 y.e])
  (HS : ∀ w1, Below w.heap.size w w1 → Calls Tryz.prog 69 #[.agg #[.int .i64 n, .int .i64 wy, .int .i64 fam, .int .i64 R, .int .i64 D, .int .i64 L, .int .i64 G, .bool gr], .agg #[.int .i64 cx, .bool gx, .bool x.s, .slice xo (Dg.dg 4294967296 x.n).length xc, .int .i64 x.e], .agg #[.int .i64 cy, .bool gy, .bool y.s, .slice yo (Dg.dg 4294967296 y.n).length yc, .int .i64 y.e]] w1 (OpRes2 w1 c gg t fl)) :
  Calls Tryz.prog 68 #[.agg #[.int .i64 n, .int .i64 wy, .int .i64 fam, .int .i64 R, .int .i64 D, .int .i64 L, .int .i64 G, .bool gr], .slice (some ⟨g, 0, none⟩) 2 cap] w (OpRes2 w c gg t fl) := by
 replace HS : Hid _ := HS
 have hgl : g < w.heap.size := World.block_lt_of_cell? w _ (h0 0 _ rfl)
 obtain ⟨W4, hW5, q1, q2, b3⟩ := ent2 w [.int .i64 n, .int .i64 wy, .int .i64 fam, .int .i64 R, .int .i64 D, .int .i64 L, .int .i64 G, .bool gr] 93 [.int .i64 0, .bool false, .bool false, .slice none 0 0, .int .i64 0] 98
 replace hW5 : Hid _ := hW5
 have q6 := range_later h0 b3
 have q7 := range_later h1 b3
 clear h0 h1
 go_enter Tryz.func68, Tryz.ntmps68
 go_upto_region 1 with fail
 rw [hW5.out]
 clear hW5
 go_upto_region 1 with fail
 have bW8 : Below W4.heap.size W4 W4.drew := (Below.refl _ _).drew
 have q9 := range_later q6 bW8
 have q10 := range_later q7 bW8
 have q11 := q1.later bW8
 have q12 := q2.later bW8
 have b13 := below_trans b3 bW8
 clear q6 q7 q1 q2 b3 bW8
 refine wp_region_held_drew (S := fun wq => wq.rangeAt g 0 [.int .i64 cx, .bool gx, .bool x.s, .slice xo (Dg.dg 4294967296 x.n).length xc, .int .i64 x.e] ∧ wq.rangeAt g 5 [.int .i64 cy, .bool gy, .bool y.s, .slice yo (Dg.dg 4294967296 y.n).length yc, .int .i64 y.e] ∧ LocE wq w.heap.size 93 [.int .i64 n, .int .i64 wy, .int .i64 fam, .int .i64 R, .int .i64 D, .int .i64 L, .int .i64 G, .bool gr]) (by kernel_rfl) ⟨q9, q10, q11⟩ (fun hS0 => ?_)
 generalize W4.drew = WD14 at q9 q10 q11 q12 b13 hS0 ⊢
 refine tk 0 (.agg #[.int .i64 n, .int .i64 wy, .int .i64 fam, .int .i64 R, .int .i64 D, .int .i64 L, .int .i64 G, .bool gr]) rfl (by kernel_rfl) (fun _ _ _ h => h) (fun _ hw0 => xrow 93 (.tmp 2) rfl w.heap.size 0 (by kernel_rfl) _ _ hw0.2.2.range Tryz.underlying93 rfl (by kernel_rfl)) hS0 ?_
 refine tk 1 (.slice (some ⟨g, 0, none⟩) 2 cap) rfl (by kernel_rfl) (fun _ _ _ h => h) (fun _ _ => by kernel_rfl) hS0 ?_
 refine tk 2 (.pointer (some ⟨g, 0, none⟩)) rfl (by kernel_rfl) (fun _ _ _ h => h) (fun _ _ => by kernel_rfl) hS0 ?_
 refine tk 3 (.agg #[.int .i64 cx, .bool gx, .bool x.s, .slice xo (Dg.dg 4294967296 x.n).length xc, .int .i64 x.e]) rfl (by kernel_rfl) (fun _ _ _ h => h) (fun _ hw0 => xrow 98 (.tmp 8) rfl g 0 (by kernel_rfl) _ _ hw0.1 Tryz.underlying98 rfl (by kernel_rfl)) hS0 ?_
 refine tk 4 (.slice (some ⟨g, 0, none⟩) 2 cap) rfl (by kernel_rfl) (fun _ _ _ h => h) (fun _ _ => by kernel_rfl) hS0 ?_
 refine tk 5 (.pointer (some ⟨g, 5, none⟩)) rfl (by kernel_rfl) (fun _ _ _ h => h) (fun _ _ => by kernel_rfl) hS0 ?_
 refine tk 6 (.agg #[.int .i64 cy, .bool gy, .bool y.s, .slice yo (Dg.dg 4294967296 y.n).length yc, .int .i64 y.e]) rfl (by kernel_rfl) (fun _ _ _ h => h) (fun _ hw0 => xrow 98 (.tmp 11) rfl g 5 (by kernel_rfl) _ _ hw0.2.1 Tryz.underlying98 rfl (by kernel_rfl)) hS0 ?_
 refine wpAnyH_ready (rs := [7]) (by kernel_rfl) (by simp) ?_
 refine AllReadyH.cons rfl (fun K hK => ?_) AllReadyH.nil
 go_simp
 refine (HS.out _ b13).mono ?_
 rintro zz w15 ⟨v117, rfl, r118, bb16⟩
 have q19 := range_later q9 bb16
 have q20 := range_later q10 bb16
 have q21 := q11.later bb16
 have q22 := q12.later bb16
 have b23 := below_trans b13 bb16
 obtain ⟨so, sc, hv⟩ := r118.shape
 subst hv
 clear q9 q10 q11 q12 b13 bb16 HS
 refine hK.out _ _ ⟨q19, q20, q21⟩ (fun hS24 => ?_)
 clear hK K
 refine tk 8 (.agg #[.int .i64 c, .bool gg, .bool t.s, .slice so (Dg.dg 4294967296 t.n).length sc, .int .i64 t.e]) rfl (by kernel_rfl) (fun _ _ _ h => h) (fun _ _ => by go_simp) hS24 ?_
 refine tk 9 (.int .i64 fl) rfl (by kernel_rfl) (fun _ _ _ h => h) (fun _ _ => by go_simp) hS24 ?_
 refine wpAnyH_ready (rs := [10]) (by kernel_rfl) (by simp) ?_
 refine AllReadyH.cons rfl (fun K hK => ?_) AllReadyH.nil
 have bu : But (w.heap.size + 1) w15 (w15.setCells (w.heap.size + 1) 0 [.int .i64 c, .bool gg, .bool t.s, .slice so (Dg.dg 4294967296 t.n).length sc, .int .i64 t.e]) := but_sets _ _ _ _
 have hth : w15.there (w.heap.size + 1) 0 5 := there_of q22
 have q25 : LocE (w15.setCells (w.heap.size + 1) 0 [.int .i64 c, .bool gg, .bool t.s, .slice so (Dg.dg 4294967296 t.n).length sc, .int .i64 t.e]) (w.heap.size + 1) 98 [.int .i64 c, .bool gg, .bool t.s, .slice so (Dg.dg 4294967296 t.n).length sc, .int .i64 t.e] := q22.sets _ rfl
 have r26 := bu.rd r118 (rd_offU r118 q22 (by simp))
 have q27 := but_range bu q19 (by omega)
 have q28 := but_range bu q20 (by omega)
 have q29 := bu.loc q21 (by omega)
 have b30 := bu.below b23 (by omega)
 rw [if_pos (by kernel_rfl)]
 refine wp_store_mid 98 (.tmp 4) (.tmp 14) rfl (w.heap.size + 1) 0 #[.int .i64 c, .bool gg, .bool t.s, .slice so (Dg.dg 4294967296 t.n).length sc, .int .i64 t.e] (by kernel_rfl) (by kernel_rfl) hth (by kernel_rfl) (by simp [Value.oneCell']) ?_
 refine hK.out _ _ ⟨q27, q28, q29⟩ (fun hS31 => ?_)
 clear hK K
 clear q22 r118 q19 q20 q21 b23 bu hth
 refine tk 11 (.int .i64 fl) rfl (by kernel_rfl) (fun _ _ _ h => h) (fun _ _ => by kernel_rfl) hS31 ?_
 refine wpAnyH_done (by kernel_rfl) ?_ _
 clear hS0 hS24 hS31
 change Exit.then _ _ _ _ (World.setCells w15 (w.heap.size + 1) 0 [.int .i64 c, .bool gg, .bool t.s, .slice so (Dg.dg 4294967296 t.n).length sc, .int .i64 t.e])
 generalize World.setCells w15 (w.heap.size + 1) 0 [.int .i64 c, .bool gg, .bool t.s, .slice so (Dg.dg 4294967296 t.n).length sc, .int .i64 t.e] = W32 at q27 q28 q29 q25 r26 b30 ⊢
 simp only [Act.put, List.getElem_toArray, List.getElem_cons_succ, List.getElem_cons_zero, List.setIfInBounds_toArray, List.set_cons_zero, List.set_cons_succ]
 have hl := run_loadVar_mid (P := Tryz.prog) _ (w.heap.size + 1) 0 98 [.int .i64 c, .bool gg, .bool t.s, .slice so (Dg.dg 4294967296 t.n).length sc, .int .i64 t.e] _ q25.range Tryz.underlying98 rfl (by kernel_rfl)
 go_wp2
 exact bodyPost_ret (results_two Tryz.results68 rfl rfl hl) rfl ⟨_, rfl, r26, b30⟩
set_option maxHeartbeats 3200000 in
theorem sub1_W (cx cy c fl : Int) (gg : Bool) (t : Trip) (n wy fam R D L G : Int) (gr : Bool) (gx gy : Bool) (x y : Trip) (xo yo : Option Addr) (xc yc : Nat) (g cap : Nat) (w : World) (h0 : w.rangeAt g 0 [.int .i64 cx, .bool gx, .bool x.s, .slice xo (Dg.dg 4294967296 x.n).length xc, .int .i64 x.e]) (h1 : w.rangeAt g 5 [.int .i64 cy, .bool gy, .bool y.s, .slice yo (Dg.dg 4294967296 y.n).length yc, .int .i64 y.e])
  (HO : ∀ w1, Below w.heap.size w w1 → Calls Tryz.prog 63 #[.agg #[.int .i64 cy, .bool gy, .bool y.s, .slice yo (Dg.dg 4294967296 y.n).length yc, .int .i64 y.e]] w1 (OpRes w1 cy (!gy) ⟨!y.s, y.n, y.e⟩))
  (HS : ∀ qo qc w1, Below w.heap.size w w1 → Rd w1 .u32 (.slice qo (Dg.dg 4294967296 y.n).length qc) (Dg.dg 4294967296 y.n) → Calls Tryz.prog 55 #[.agg #[.int .i64 n, .int .i64 wy, .int .i64 fam, .int .i64 R, .int .i64 D, .int .i64 L, .int .i64 G, .bool gr], .agg #[.int .i64 cx, .bool gx, .bool x.s, .slice xo (Dg.dg 4294967296 x.n).length xc, .int .i64 x.e], .agg #[.int .i64 cy, .bool (!gy), .bool (!y.s), .slice qo (Dg.dg 4294967296 y.n).length qc, .int .i64 y.e]] w1 (OpRes2 w1 c gg t fl)) :
  Calls Tryz.prog 62 #[.agg #[.int .i64 n, .int .i64 wy, .int .i64 fam, .int .i64 R, .int .i64 D, .int .i64 L, .int .i64 G, .bool gr], .slice (some ⟨g, 0, none⟩) 2 cap] w (OpRes2 w c gg t fl) := by
 replace HO : Hid _ := HO
 replace HS : Hid _ := HS
 have hgl : g < w.heap.size := World.block_lt_of_cell? w _ (h0 0 _ rfl)
 obtain ⟨W4, hW5, q1, q2, b3⟩ := ent2 w [.int .i64 n, .int .i64 wy, .int .i64 fam, .int .i64 R, .int .i64 D, .int .i64 L, .int .i64 G, .bool gr] 93 [.int .i64 0, .bool false, .bool false, .slice none 0 0, .int .i64 0] 98
 replace hW5 : Hid _ := hW5
 have q6 := range_later h0 b3
 have q7 := range_later h1 b3
 clear h0 h1
 go_enter Tryz.func62, Tryz.ntmps62
 go_upto_region 1 with fail
 rw [hW5.out]
 clear hW5
 go_upto_region 1 with fail
 have bW8 : Below W4.heap.size W4 W4.drew := (Below.refl _ _).drew
 have q9 := range_later q6 bW8
 have q10 := range_later q7 bW8
 have q11 := q1.later bW8
 have q12 := q2.later bW8
 have b13 := below_trans b3 bW8
 clear q6 q7 q1 q2 b3 bW8
 refine wp_region_held_drew (S := fun wq => wq.rangeAt g 0 [.int .i64 cx, .bool gx, .bool x.s, .slice xo (Dg.dg 4294967296 x.n).length xc, .int .i64 x.e] ∧ wq.rangeAt g 5 [.int .i64 cy, .bool gy, .bool y.s, .slice yo (Dg.dg 4294967296 y.n).length yc, .int .i64 y.e] ∧ LocE wq w.heap.size 93 [.int .i64 n, .int .i64 wy, .int .i64 fam, .int .i64 R, .int .i64 D, .int .i64 L, .int .i64 G, .bool gr]) (by kernel_rfl) ⟨q9, q10, q11⟩ (fun hS0 => ?_)
 generalize W4.drew = WD14 at q9 q10 q11 q12 b13 hS0 ⊢
 refine tk 0 (.agg #[.int .i64 n, .int .i64 wy, .int .i64 fam, .int .i64 R, .int .i64 D, .int .i64 L, .int .i64 G, .bool gr]) rfl (by kernel_rfl) (fun _ _ _ h => h) (fun _ hw0 => xrow 93 (.tmp 2) rfl w.heap.size 0 (by kernel_rfl) _ _ hw0.2.2.range Tryz.underlying93 rfl (by kernel_rfl)) hS0 ?_
 refine tk 1 (.slice (some ⟨g, 0, none⟩) 2 cap) rfl (by kernel_rfl) (fun _ _ _ h => h) (fun _ _ => by kernel_rfl) hS0 ?_
 refine tk 2 (.pointer (some ⟨g, 0, none⟩)) rfl (by kernel_rfl) (fun _ _ _ h => h) (fun _ _ => by kernel_rfl) hS0 ?_
 refine tk 3 (.agg #[.int .i64 cx, .bool gx, .bool x.s, .slice xo (Dg.dg 4294967296 x.n).length xc, .int .i64 x.e]) rfl (by kernel_rfl) (fun _ _ _ h => h) (fun _ hw0 => xrow 98 (.tmp 8) rfl g 0 (by kernel_rfl) _ _ hw0.1 Tryz.underlying98 rfl (by kernel_rfl)) hS0 ?_
 refine tk 4 (.slice (some ⟨g, 0, none⟩) 2 cap) rfl (by kernel_rfl) (fun _ _ _ h => h) (fun _ _ => by kernel_rfl) hS0 ?_
 refine tk 5 (.pointer (some ⟨g, 5, none⟩)) rfl (by kernel_rfl) (fun _ _ _ h => h) (fun _ _ => by kernel_rfl) hS0 ?_
 refine tk 6 (.agg #[.int .i64 cy, .bool gy, .bool y.s, .slice yo (Dg.dg 4294967296 y.n).length yc, .int .i64 y.e]) rfl (by kernel_rfl) (fun _ _ _ h => h) (fun _ hw0 => xrow 98 (.tmp 11) rfl g 5 (by kernel_rfl) _ _ hw0.2.1 Tryz.underlying98 rfl (by kernel_rfl)) hS0 ?_
 refine wpAnyH_ready (rs := [7]) (by kernel_rfl) (by simp) ?_
 refine AllReadyH.cons rfl (fun K hK => ?_) AllReadyH.nil
 go_simp
 refine (HO.out _ b13).mono ?_
 rintro zz w15 ⟨v117, rfl, r118, bb16⟩
 have q19 := range_later q9 bb16
 have q20 := range_later q10 bb16
 have q21 := q11.later bb16
 have q22 := q12.later bb16
 have b23 := below_trans b13 bb16
 obtain ⟨qo, qc, hv⟩ := r118.shape
 subst hv
 clear q9 q10 q11 q12 b13 bb16 HO
 refine hK.out _ _ ⟨q19, q20, q21⟩ (fun hS24 => ?_)
 clear hK K
 refine wpAnyH_ready (rs := [8]) (by kernel_rfl) (by simp) ?_
 refine AllReadyH.cons rfl (fun K hK => ?_) AllReadyH.nil
 go_simp
 refine (HS.out _ _ _ b23 r118).mono ?_
 rintro zz w25 ⟨v127, rfl, r128, bb26⟩
 have q29 := range_later q19 bb26
 have q30 := range_later q20 bb26
 have q31 := q21.later bb26
 have q32 := q22.later bb26
 have r33 := r118.later bb26
 have b34 := below_trans b23 bb26
 obtain ⟨so, sc, hv⟩ := r128.shape
 subst hv
 clear q19 q20 q21 q22 r118 b23 bb26 HS
 refine hK.out _ _ ⟨q29, q30, q31⟩ (fun hS35 => ?_)
 clear hK K
 refine tk 9 (.agg #[.int .i64 c, .bool gg, .bool t.s, .slice so (Dg.dg 4294967296 t.n).length sc, .int .i64 t.e]) rfl (by kernel_rfl) (fun _ _ _ h => h) (fun _ _ => by go_simp) hS35 ?_
 refine tk 10 (.int .i64 fl) rfl (by kernel_rfl) (fun _ _ _ h => h) (fun _ _ => by go_simp) hS35 ?_
 refine wpAnyH_ready (rs := [11]) (by kernel_rfl) (by simp) ?_
 refine AllReadyH.cons rfl (fun K hK => ?_) AllReadyH.nil
 have bu : But (w.heap.size + 1) w25 (w25.setCells (w.heap.size + 1) 0 [.int .i64 c, .bool gg, .bool t.s, .slice so (Dg.dg 4294967296 t.n).length sc, .int .i64 t.e]) := but_sets _ _ _ _
 have hth : w25.there (w.heap.size + 1) 0 5 := there_of q32
 have q36 : LocE (w25.setCells (w.heap.size + 1) 0 [.int .i64 c, .bool gg, .bool t.s, .slice so (Dg.dg 4294967296 t.n).length sc, .int .i64 t.e]) (w.heap.size + 1) 98 [.int .i64 c, .bool gg, .bool t.s, .slice so (Dg.dg 4294967296 t.n).length sc, .int .i64 t.e] := q32.sets _ rfl
 have r37 := bu.rd r33 (rd_offU r33 q32 (by simp))
 have r38 := bu.rd r128 (rd_offU r128 q32 (by simp))
 have q39 := but_range bu q29 (by omega)
 have q40 := but_range bu q30 (by omega)
 have q41 := bu.loc q31 (by omega)
 have b42 := bu.below b34 (by omega)
 rw [if_pos (by kernel_rfl)]
 refine wp_store_mid 98 (.tmp 4) (.tmp 15) rfl (w.heap.size + 1) 0 #[.int .i64 c, .bool gg, .bool t.s, .slice so (Dg.dg 4294967296 t.n).length sc, .int .i64 t.e] (by kernel_rfl) (by kernel_rfl) hth (by kernel_rfl) (by simp [Value.oneCell']) ?_
 refine hK.out _ _ ⟨q39, q40, q41⟩ (fun hS43 => ?_)
 clear hK K
 clear q32 r33 r128 q29 q30 q31 b34 bu hth
 refine tk 12 (.int .i64 fl) rfl (by kernel_rfl) (fun _ _ _ h => h) (fun _ _ => by kernel_rfl) hS43 ?_
 refine wpAnyH_done (by kernel_rfl) ?_ _
 clear hS0 hS24 hS35 hS43
 change Exit.then _ _ _ _ (World.setCells w25 (w.heap.size + 1) 0 [.int .i64 c, .bool gg, .bool t.s, .slice so (Dg.dg 4294967296 t.n).length sc, .int .i64 t.e])
 generalize World.setCells w25 (w.heap.size + 1) 0 [.int .i64 c, .bool gg, .bool t.s, .slice so (Dg.dg 4294967296 t.n).length sc, .int .i64 t.e] = W44 at q39 q40 q41 q36 r37 r38 b42 ⊢
 simp only [Act.put, List.getElem_toArray, List.getElem_cons_succ, List.getElem_cons_zero, List.setIfInBounds_toArray, List.set_cons_zero, List.set_cons_succ]
 have hl := run_loadVar_mid (P := Tryz.prog) _ (w.heap.size + 1) 0 98 [.int .i64 c, .bool gg, .bool t.s, .slice so (Dg.dg 4294967296 t.n).length sc, .int .i64 t.e] _ q36.range Tryz.underlying98 rfl (by kernel_rfl)
 go_wp2
 exact bodyPost_ret (results_two Tryz.results62 rfl rfl hl) rfl ⟨_, rfl, r38, b42⟩
set_option maxHeartbeats 3200000 in
theorem sub_W (n way f1 e1 : Int) (a b st : ByteArray) (w : World)
  (HR : ∀ pb w1, Below w.heap.size w w1 → LocE w1 pb 9 [.string a, .string b] → Calls Tryz.prog 53 #[.int .i64 n, .int .i64 way, .func (.func 62) #[] #[], .slice (some ⟨pb, 0, none⟩) 2 2] w1 fun z w' => z = .returned (.tuple #[.string st, .int .i64 f1, .int .i64 e1]) ∧ Below w1.heap.size w1 w') :
  Calls Tryz.prog 22 #[.int .i64 n, .string a, .string b, .int .i64 way] w fun z w' => z = .returned (.tuple #[.string st, .int .i64 f1, .int .i64 e1]) ∧ Below w.heap.size w w' := by
 replace HR : Hid _ := HR
 go_enter Tryz.func22, Tryz.ntmps22
 have b0 := Below.refl w.heap.size w
 have al1 := below_alloc w (.cells #[.string a, .string b] 9)
 have q2 := locE_new w [.string a, .string b] 9
 have b3 := below_trans b0 al1
 go_wp2_with fail
 refine (HR.out _ _ b3 q2).mono ?_
 rintro zz w4 ⟨rfl, bb5⟩
 have b6 := below_trans b3 bb5
 clear q2 b3 bb5 b0 al1
 go_wp2
 go_ret3
 exact ⟨rfl, b6⟩
set_option maxHeartbeats 3200000 in
theorem mul_W (n way f1 e1 : Int) (a b st : ByteArray) (w : World)
  (HR : ∀ pb w1, Below w.heap.size w w1 → LocE w1 pb 9 [.string a, .string b] → Calls Tryz.prog 53 #[.int .i64 n, .int .i64 way, .func (.func 64) #[] #[], .slice (some ⟨pb, 0, none⟩) 2 2] w1 fun z w' => z = .returned (.tuple #[.string st, .int .i64 f1, .int .i64 e1]) ∧ Below w1.heap.size w1 w') :
  Calls Tryz.prog 24 #[.int .i64 n, .string a, .string b, .int .i64 way] w fun z w' => z = .returned (.tuple #[.string st, .int .i64 f1, .int .i64 e1]) ∧ Below w.heap.size w w' := by
 replace HR : Hid _ := HR
 go_enter Tryz.func24, Tryz.ntmps24
 have b0 := Below.refl w.heap.size w
 have al1 := below_alloc w (.cells #[.string a, .string b] 9)
 have q2 := locE_new w [.string a, .string b] 9
 have b3 := below_trans b0 al1
 go_wp2_with fail
 refine (HR.out _ _ b3 q2).mono ?_
 rintro zz w4 ⟨rfl, bb5⟩
 have b6 := below_trans b3 bb5
 clear q2 b3 bb5 b0 al1
 go_wp2
 go_ret3
 exact ⟨rfl, b6⟩
set_option maxHeartbeats 3200000 in
theorem div_W (n way f1 e1 : Int) (a b st : ByteArray) (w : World)
  (HR : ∀ pb w1, Below w.heap.size w w1 → LocE w1 pb 9 [.string a, .string b] → Calls Tryz.prog 53 #[.int .i64 n, .int .i64 way, .func (.func 68) #[] #[], .slice (some ⟨pb, 0, none⟩) 2 2] w1 fun z w' => z = .returned (.tuple #[.string st, .int .i64 f1, .int .i64 e1]) ∧ Below w1.heap.size w1 w') :
  Calls Tryz.prog 26 #[.int .i64 n, .string a, .string b, .int .i64 way] w fun z w' => z = .returned (.tuple #[.string st, .int .i64 f1, .int .i64 e1]) ∧ Below w.heap.size w w' := by
 replace HR : Hid _ := HR
 go_enter Tryz.func26, Tryz.ntmps26
 have b0 := Below.refl w.heap.size w
 have al1 := below_alloc w (.cells #[.string a, .string b] 9)
 have q2 := locE_new w [.string a, .string b] 9
 have b3 := below_trans b0 al1
 go_wp2_with fail
 refine (HR.out _ _ b3 q2).mono ?_
 rintro zz w4 ⟨rfl, bb5⟩
 have b6 := below_trans b3 bb5
 clear q2 b3 bb5 b0 al1
 go_wp2
 go_ret3
 exact ⟨rfl, b6⟩
set_option maxHeartbeats 3200000 in
theorem fused_W (n way f1 e1 : Int) (a b c st : ByteArray) (w : World)
  (HR : ∀ pb w1, Below w.heap.size w w1 → LocE w1 pb 9 [.string a, .string b, .string c] → Calls Tryz.prog 53 #[.int .i64 n, .int .i64 way, .func (.func 71) #[] #[], .slice (some ⟨pb, 0, none⟩) 3 3] w1 fun z w' => z = .returned (.tuple #[.string st, .int .i64 f1, .int .i64 e1]) ∧ Below w1.heap.size w1 w') :
  Calls Tryz.prog 28 #[.int .i64 n, .string a, .string b, .string c, .int .i64 way] w fun z w' => z = .returned (.tuple #[.string st, .int .i64 f1, .int .i64 e1]) ∧ Below w.heap.size w w' := by
 replace HR : Hid _ := HR
 go_enter Tryz.func28, Tryz.ntmps28
 have b0 := Below.refl w.heap.size w
 have al1 := below_alloc w (.cells #[.string a, .string b, .string c] 9)
 have q2 := locE_new w [.string a, .string b, .string c] 9
 have b3 := below_trans b0 al1
 go_wp2_with fail
 refine (HR.out _ _ b3 q2).mono ?_
 rintro zz w4 ⟨rfl, bb5⟩
 have b6 := below_trans b3 bb5
 clear q2 b3 bb5 b0 al1
 go_wp2
 go_ret3
 exact ⟨rfl, b6⟩
end Go.Proofs.YtnhackdjplppjaaGreatDoor

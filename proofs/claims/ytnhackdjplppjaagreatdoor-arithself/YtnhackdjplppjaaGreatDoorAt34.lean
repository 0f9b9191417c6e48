/-
  Texts laid together: As7.
-/
import Derived.Test.YtnhackdjplppjaaGreatDoorAt25
import Derived.Test.YtnhackdjplppjaaGreatDoorAt32
set_option maxRecDepth 100000
namespace Go.Proofs.YtnhackdjplppjaaGreatDoor
open Go.RowKit
theorem range_of {w : World} {b : Nat} {ty : TypeId} {vs cs : List Value} (h : LocE w b ty vs) (o n : Nat) (e : (vs.drop o).take n = cs) : w.rangeAt b o cs := fun j v hj => by
 subst e
 refine h.cell (o + j) ?_
 rw [List.getElem?_take] at hj
 split at hj
 ·rw [List.getElem?_drop] at hj
  exact hj
 ·cases hj
set_option maxHeartbeats 12800000 in
theorem answer_num (n wy fam R D L G fl : Int) (gr gx : Bool) (t : Trip) (to0 : Option Addr) (tc : Nat) (s : Bool) (N M : Nat) (e : Int) (ps : Bool) (pd : Nat) (pp : Int) (ex ov un : Bool) (c : Int) (g : Bool) (m : Nat) (q fl2 flo : Int) (st : ByteArray) (f1 e1 : Int) (w : World)
  (hor : bits .or .i64 fl fl2 = flo)
  (HQ : ∀ w1, Below w.heap.size w w1 → Calls Tryz.prog 164 #[.agg #[.bool t.s, .slice to0 (Dg.dg 4294967296 t.n).length tc, .int .i64 t.e]] w1 (RatRes w1 s N M e))
  (HRd : ∀ no nc mo mc w1, Below w.heap.size w w1 → Rd w1 .u32 (.slice no (Dg.dg 4294967296 N).length nc) (Dg.dg 4294967296 N) → Rd w1 .u32 (.slice mo (Dg.dg 4294967296 M).length mc) (Dg.dg 4294967296 M) → Calls Tryz.prog 86 #[.agg #[.bool s, .slice no (Dg.dg 4294967296 N).length nc, .slice mo (Dg.dg 4294967296 M).length mc, .int .i64 e], .agg #[.int .i64 R, .int .i64 D, .int .i64 L, .int .i64 G, .bool gr], .int .i64 wy] w1 fun z w' => ∃ po pc, z = .returned (.tuple #[.agg #[.bool ps, .slice po (Dg.dg 4294967296 pd).length pc, .int .i64 pp, .bool ex, .bool ov, .bool un], .int .i64 0]) ∧ Rd w' .u32 (.slice po (Dg.dg 4294967296 pd).length pc) (Dg.dg 4294967296 pd) ∧ Below w1.heap.size w1 w')
  (HSt : ∀ po pc w1, Below w.heap.size w w1 → Rd w1 .u32 (.slice po (Dg.dg 4294967296 pd).length pc) (Dg.dg 4294967296 pd) → Calls Tryz.prog 88 #[.agg #[.int .i64 n, .int .i64 wy, .int .i64 fam, .int .i64 R, .int .i64 D, .int .i64 L, .int .i64 G, .bool gr], .agg #[.bool ps, .slice po (Dg.dg 4294967296 pd).length pc, .int .i64 pp, .bool ex, .bool ov, .bool un]] w1 (SetRes w1 c g m q fl2))
  (HEn : ∀ vo vc w1, Below w.heap.size w w1 → Rd w1 .u32 (.slice vo (Dg.dg 4294967296 m).length vc) (Dg.dg 4294967296 m) → Calls Tryz.prog 87 #[.agg #[.int .i64 n, .int .i64 wy, .int .i64 fam, .int .i64 R, .int .i64 D, .int .i64 L, .int .i64 G, .bool gr], .agg #[.int .i64 c, .bool g, .slice vo (Dg.dg 4294967296 m).length vc, .int .i64 q], .int .i64 flo] w1 fun z w' => z = .returned (.tuple #[.string st, .int .i64 f1, .int .i64 e1]) ∧ Below w1.heap.size w1 w') :
  Calls Tryz.prog 107 #[.agg #[.int .i64 n, .int .i64 wy, .int .i64 fam, .int .i64 R, .int .i64 D, .int .i64 L, .int .i64 G, .bool gr], .agg #[.int .i64 2, .bool gx, .bool t.s, .slice to0 (Dg.dg 4294967296 t.n).length tc, .int .i64 t.e], .int .i64 fl] w fun z w' => z = .returned (.tuple #[.string st, .int .i64 f1, .int .i64 e1]) ∧ Below w.heap.size w w' := by
 replace HQ : Hid _ := HQ
 replace HRd : Hid _ := HRd
 replace HSt : Hid _ := HSt
 replace HEn : Hid _ := HEn
 have a1 := below_alloc w (.cells #[.int .i64 n, .int .i64 wy, .int .i64 fam, .int .i64 R, .int .i64 D, .int .i64 L, .int .i64 G, .bool gr] 93)
 have a2 := below_alloc (w.alloc (.cells #[.int .i64 n, .int .i64 wy, .int .i64 fam, .int .i64 R, .int .i64 D, .int .i64 L, .int .i64 G, .bool gr] 93)) (.cells #[.int .i64 2, .bool gx, .bool t.s, .slice to0 (Dg.dg 4294967296 t.n).length tc, .int .i64 t.e] 98)
 have d0 := (locE_new w [.int .i64 n, .int .i64 wy, .int .i64 fam, .int .i64 R, .int .i64 D, .int .i64 L, .int .i64 G, .bool gr] 93).later a2
 have x0 := locE_new (w.alloc (.cells #[.int .i64 n, .int .i64 wy, .int .i64 fam, .int .i64 R, .int .i64 D, .int .i64 L, .int .i64 G, .bool gr] 93)) [.int .i64 2, .bool gx, .bool t.s, .slice to0 (Dg.dg 4294967296 t.n).length tc, .int .i64 t.e] 98
 rw [World.size_alloc] at x0
 have b0 := below_trans a1 a2
 clear a1 a2
 go_enter Tryz.func107, Tryz.ntmps107
 go_upto_region 1 with fail
 generalize (w.alloc (.cells #[.int .i64 n, .int .i64 wy, .int .i64 fam, .int .i64 R, .int .i64 D, .int .i64 L, .int .i64 G, .bool gr] 93)).alloc (.cells #[.int .i64 2, .bool gx, .bool t.s, .slice to0 (Dg.dg 4294967296 t.n).length tc, .int .i64 t.e] 98) = W0 at d0 x0 b0 ⊢
 have y0 := x0.cell 0 rfl
 go_upto_region 3 with fail
 have bW : Below W0.heap.size W0 W0.drew := (Below.refl _ _).drew
 have d1 := d0.later bW
 have x1 := x0.later bW
 have b1 := below_trans b0 bW
 clear bW d0 x0 b0 y0
 refine wp_region_held_drew (S := (fun wq => wq.rangeAt (w.heap.size + 1) 2 [.bool t.s, .slice to0 (Dg.dg 4294967296 t.n).length tc, .int .i64 t.e] ∧ wq.rangeAt w.heap.size 3 [.int .i64 R, .int .i64 D, .int .i64 L, .int .i64 G, .bool gr] ∧ wq.cell? ⟨w.heap.size, 1, none⟩ = some (.int .i64 wy))) (by kernel_rfl) ⟨fun j v hj => range_of x1 2 3 rfl j v hj, fun j v hj => range_of d1 3 5 rfl j v hj, d1.cell 1 rfl⟩ (fun hS0 => ?_)
 generalize W0.drew = WD at d1 x1 b1 hS0 ⊢
 refine wpAnyH_take (i := 0) (v := .pointer (some ⟨w.heap.size + 1, 2, none⟩)) rfl (by kernel_rfl) (by kernel_rfl) (by kernel_rfl) (fun _ _ _ h => h) (Or.inl ⟨by kernel_rfl, fun w0 _ => by kernel_rfl⟩) hS0 ?_
 refine wpAnyH_take (i := 1) (v := .agg #[.bool t.s, .slice to0 (Dg.dg 4294967296 t.n).length tc, .int .i64 t.e]) rfl (by kernel_rfl) (by kernel_rfl) (by kernel_rfl) (fun _ _ _ h => h) (Or.inl ⟨by kernel_rfl, fun w0 hw0 => xrow 96 (.tmp 18) rfl (w.heap.size + 1) 2 (by kernel_rfl) _ _ hw0.1 Tryz.underlying96 rfl (by kernel_rfl)⟩) hS0 ?_
 refine wpAnyH_take (i := 3) (v := .pointer (some ⟨w.heap.size, 3, none⟩)) rfl (by kernel_rfl) (by kernel_rfl) (by kernel_rfl) (fun _ _ _ h => h) (Or.inl ⟨by kernel_rfl, fun w0 _ => by kernel_rfl⟩) hS0 ?_
 refine wpAnyH_take (i := 4) (v := .agg #[.int .i64 R, .int .i64 D, .int .i64 L, .int .i64 G, .bool gr]) rfl (by kernel_rfl) (by kernel_rfl) (by kernel_rfl) (fun _ _ _ h => h) (Or.inl ⟨by kernel_rfl, fun w0 hw0 => xrow 56 (.tmp 21) rfl w.heap.size 3 (by kernel_rfl) _ _ hw0.2.1 Tryz.underlying56 rfl (by kernel_rfl)⟩) hS0 ?_
 refine wpAnyH_take (i := 5) (v := .pointer (some ⟨w.heap.size, 1, none⟩)) rfl (by kernel_rfl) (by kernel_rfl) (by kernel_rfl) (fun _ _ _ h => h) (Or.inl ⟨by kernel_rfl, fun w0 _ => by kernel_rfl⟩) hS0 ?_
 refine wpAnyH_take (i := 6) (v := .int .i64 wy) rfl (by kernel_rfl) (by kernel_rfl) (by kernel_rfl) (fun _ _ _ h => h) (Or.inl ⟨by kernel_rfl, fun w0 hw0 => xload 3 (.tmp 23) rfl w.heap.size 1 (by kernel_rfl) _ _ Tryz.underlying3 rfl hw0.2.2⟩) hS0 ?_
 refine wpAnyH_ready (rs := [2, 11]) (by kernel_rfl) (by simp) ?_
 refine AllReadyH.cons rfl (fun K hK => ?_) (AllReadyH.cons rfl (fun K hK => ?_) AllReadyH.nil)
 ·skip
  go_simp
  refine (HQ.out _ b1).mono ?_
  rintro z wq ⟨no, nc, mo, mc, rfl, rn, rm, bq⟩
  have d11 := d1.later bq
  have x11 := x1.later bq
  have b11 := below_trans b1 bq
  refine hK.out _ _ ⟨fun j v hj => range_of x11 2 3 rfl j v hj, fun j v hj => range_of d11 3 5 rfl j v hj, d11.cell 1 rfl⟩ (fun hS11 => ?_)
  clear hK K bq d1 x1 b1
  refine wpAnyH_ready (rs := [7, 11]) (by kernel_rfl) (by simp) ?_
  refine AllReadyH.cons rfl (fun K hK => ?_) (AllReadyH.cons rfl (fun K hK => ?_) AllReadyH.nil)
  ·skip
   go_simp
   refine (HRd.out _ _ _ _ _ b11 rn rm).mono ?_
   rintro z wp ⟨po, pc, rfl, rp, bp⟩
   have d12 := d11.later bp
   have x12 := x11.later bp
   have b12 := below_trans b11 bp
   refine hK.out _ _ ⟨fun j v hj => range_of x12 2 3 rfl j v hj, fun j v hj => range_of d12 3 5 rfl j v hj, d12.cell 1 rfl⟩ (fun hS12 => ?_)
   clear hK K bp d11 x11 b11  rn rm
   refine wpAnyH_take (i := 8) (v := .tuple #[.agg #[.bool ps, .slice po (Dg.dg 4294967296 pd).length pc, .int .i64 pp, .bool ex, .bool ov, .bool un], .int .i64 0]) rfl (by kernel_rfl) (by kernel_rfl) (by kernel_rfl) (fun _ _ _ h => h) (Or.inl ⟨by kernel_rfl, fun w0 _ => by go_simp⟩) hS12 ?_
   refine wpAnyH_take (i := 9) (v := .agg #[.bool ps, .slice po (Dg.dg 4294967296 pd).length pc, .int .i64 pp, .bool ex, .bool ov, .bool un]) rfl (by kernel_rfl) (by kernel_rfl) (by kernel_rfl) (fun _ _ _ h => h) (Or.inl ⟨by kernel_rfl, fun w0 _ => by go_simp⟩) hS12 ?_
   refine wpAnyH_take (i := 10) (v := .int .i64 0) rfl (by kernel_rfl) (by kernel_rfl) (by kernel_rfl) (fun _ _ _ h => h) (Or.inl ⟨by kernel_rfl, fun w0 _ => by go_simp⟩) hS12 ?_
   refine wpAnyH_ready (rs := [11]) (by kernel_rfl) (by simp) ?_
   refine AllReadyH.cons rfl (fun K hK => ?_) AllReadyH.nil
   go_simp
   have al := below_alloc wp (.cells #[.bool false, .slice none 0 0, .int .i64 0, .bool false, .bool false, .bool false] 86)
   have pn := locE_new wp [.bool false, .slice none 0 0, .int .i64 0, .bool false, .bool false, .bool false] 86
   have hpn : w.heap.size + 1 < wp.heap.size := x12.lt
   have d13 := d12.later al
   have x13 := x12.later al
   have b13 := below_trans b12 al
   have rp_13 := rp.later al
   refine hK.out _ _ ⟨fun j v hj => range_of x13 2 3 rfl j v hj, fun j v hj => range_of d13 3 5 rfl j v hj, d13.cell 1 rfl⟩ (fun hS13 => ?_)
   clear hK K al d12 x12 b12 rp
   generalize wp.alloc (.cells #[.bool false, .slice none 0 0, .int .i64 0, .bool false, .bool false, .bool false] 86) = WN13 at d13 x13 b13 pn hS13 rp_13 ⊢
   generalize wp.heap.size = PQ at pn hpn ⊢
   refine wpAnyH_ready (rs := [12]) (by kernel_rfl) (by simp) ?_
   refine AllReadyH.cons rfl (fun K hK => ?_) AllReadyH.nil
   rw [if_pos (by kernel_rfl)]
   have hth : WN13.there PQ 0 6 := there_of pn
   refine wp_store_mid 86 (.tmp 9) (.tmp 26) rfl PQ 0 #[.bool ps, .slice po (Dg.dg 4294967296 pd).length pc, .int .i64 pp, .bool ex, .bool ov, .bool un] (by kernel_rfl) (by kernel_rfl) hth (by kernel_rfl) (by simp [Value.oneCell']) ?_
   have bu : But PQ WN13 (WN13.setCells PQ 0 [.bool ps, .slice po (Dg.dg 4294967296 pd).length pc, .int .i64 pp, .bool ex, .bool ov, .bool un]) := but_sets _ _ _ _
   have dS := bu.loc d13 (by omega)
   have xS := bu.loc x13 (by omega)
   have bS := bu.below b13 (by omega)
   have rS := bu.rd rp_13 (rd_offU rp_13 pn (by simp))
   have pS : LocE (WN13.setCells PQ 0 [.bool ps, .slice po (Dg.dg 4294967296 pd).length pc, .int .i64 pp, .bool ex, .bool ov, .bool un]) PQ 86 [.bool ps, .slice po (Dg.dg 4294967296 pd).length pc, .int .i64 pp, .bool ex, .bool ov, .bool un] := ((((((pn.set 0 (.bool ps)).set 1 (.slice po (Dg.dg 4294967296 pd).length pc)).set 2 (.int .i64 pp)).set 3 (.bool ex)).set 4 (.bool ov)).set 5 (.bool un))
   refine hK.out _ _ ⟨fun j v hj => range_of xS 2 3 rfl j v hj, fun j v hj => range_of dS 3 5 rfl j v hj, dS.cell 1 rfl⟩ (fun hSS => ?_)
   clear hK K bu hth d13 x13 b13 pn rp_13
   refine wpAnyH_take (i := 13) (v := .int .i64 0) rfl (by kernel_rfl) (by kernel_rfl) (by kernel_rfl) (fun _ _ _ h => h) (Or.inl ⟨by kernel_rfl, fun w0 _ => by go_simp⟩) hSS ?_
   refine wpAnyH_done (by kernel_rfl) ?_ _
   clear hSS
   change Exit.then _ _ _ _ (World.setCells WN13 PQ 0 [.bool ps, .slice po (Dg.dg 4294967296 pd).length pc, .int .i64 pp, .bool ex, .bool ov, .bool un])
   generalize World.setCells WN13 PQ 0 [.bool ps, .slice po (Dg.dg 4294967296 pd).length pc, .int .i64 pp, .bool ex, .bool ov, .bool un] = WS at dS xS bS rS pS ⊢
   simp only [Act.put, List.getElem_toArray, List.getElem_cons_succ, List.getElem_cons_zero, List.setIfInBounds_toArray, List.set_cons_zero, List.set_cons_succ]
   obtain ⟨y0, y1, y2, y3, y4, y5, y6, y7⟩ := dS.cs8
   obtain ⟨z0, z1, z2, z3, z4, z5⟩ := pS.cs6
   go_wp2_with fail
   refine (HSt.out _ _ _ bS rS).mono ?_
   rintro z wt ⟨u, rfl, rt, bt⟩
   obtain ⟨vo, vc, hu⟩ := rt.shape
   subst hu
   have al := below_alloc wt (.cells #[.int .i64 c, .bool g, .slice vo (Dg.dg 4294967296 m).length vc, .int .i64 q] 73)
   have vt := locE_new wt [.int .i64 c, .bool g, .slice vo (Dg.dg 4294967296 m).length vc, .int .i64 q] 73
   have dt := (dS.later bt).later al
   have rv := rt.later al
   have b9 := below_trans (below_trans bS bt) al
   clear y0 y1 y2 y3 y4 y5 y6 y7 z0 z1 z2 z3 z4 z5 dS xS bS rS pS bt al rt
   go_upto_region 7 with fail
   generalize wt.alloc (.cells #[.int .i64 c, .bool g, .slice vo (Dg.dg 4294967296 m).length vc, .int .i64 q] 73) = WT at vt dt rv b9 ⊢
   generalize wt.heap.size = PV at vt ⊢
   obtain ⟨y0, y1, y2, y3, y4, y5, y6, y7⟩ := dt.cs8
   obtain ⟨z0, z1, z2, z3⟩ := vt.cs4
   go_wp2_with fail
   refine (HEn.out _ _ _ b9 rv).mono ?_
   rintro z wz ⟨rfl, bz⟩
   have bE := below_trans b9 bz
   go_wp2
   go_ret3
   exact ⟨rfl, bE⟩
  ·skip
   go_simp
   have al := below_alloc wq (.cells #[.bool false, .slice none 0 0, .int .i64 0, .bool false, .bool false, .bool false] 86)
   have pn := locE_new wq [.bool false, .slice none 0 0, .int .i64 0, .bool false, .bool false, .bool false] 86
   have hpn : w.heap.size + 1 < wq.heap.size := x11.lt
   have d12 := d11.later al
   have x12 := x11.later al
   have b12 := below_trans b11 al
   have rn_12 := rn.later al
   have rm_12 := rm.later al
   refine hK.out _ _ ⟨fun j v hj => range_of x12 2 3 rfl j v hj, fun j v hj => range_of d12 3 5 rfl j v hj, d12.cell 1 rfl⟩ (fun hS12 => ?_)
   clear hK K al d11 x11 b11 rn rm
   generalize wq.alloc (.cells #[.bool false, .slice none 0 0, .int .i64 0, .bool false, .bool false, .bool false] 86) = WN12 at d12 x12 b12 pn hS12 rn_12 rm_12 ⊢
   generalize wq.heap.size = PQ at pn hpn ⊢
   refine wpAnyH_ready (rs := [7]) (by kernel_rfl) (by simp) ?_
   refine AllReadyH.cons rfl (fun K hK => ?_) AllReadyH.nil
   go_simp
   refine (HRd.out _ _ _ _ _ b12 rn_12 rm_12).mono ?_
   rintro z wp ⟨po, pc, rfl, rp, bp⟩
   have d13 := d12.later bp
   have x13 := x12.later bp
   have b13 := below_trans b12 bp
   have p13 := pn.later bp
   refine hK.out _ _ ⟨fun j v hj => range_of x13 2 3 rfl j v hj, fun j v hj => range_of d13 3 5 rfl j v hj, d13.cell 1 rfl⟩ (fun hS13 => ?_)
   clear hK K bp d12 x12 b12 pn rn_12 rm_12
   refine wpAnyH_take (i := 8) (v := .tuple #[.agg #[.bool ps, .slice po (Dg.dg 4294967296 pd).length pc, .int .i64 pp, .bool ex, .bool ov, .bool un], .int .i64 0]) rfl (by kernel_rfl) (by kernel_rfl) (by kernel_rfl) (fun _ _ _ h => h) (Or.inl ⟨by kernel_rfl, fun w0 _ => by go_simp⟩) hS13 ?_
   refine wpAnyH_take (i := 9) (v := .agg #[.bool ps, .slice po (Dg.dg 4294967296 pd).length pc, .int .i64 pp, .bool ex, .bool ov, .bool un]) rfl (by kernel_rfl) (by kernel_rfl) (by kernel_rfl) (fun _ _ _ h => h) (Or.inl ⟨by kernel_rfl, fun w0 _ => by go_simp⟩) hS13 ?_
   refine wpAnyH_take (i := 10) (v := .int .i64 0) rfl (by kernel_rfl) (by kernel_rfl) (by kernel_rfl) (fun _ _ _ h => h) (Or.inl ⟨by kernel_rfl, fun w0 _ => by go_simp⟩) hS13 ?_
   refine wpAnyH_ready (rs := [12]) (by kernel_rfl) (by simp) ?_
   refine AllReadyH.cons rfl (fun K hK => ?_) AllReadyH.nil
   rw [if_pos (by kernel_rfl)]
   have hth : wp.there PQ 0 6 := there_of p13
   refine wp_store_mid 86 (.tmp 9) (.tmp 26) rfl PQ 0 #[.bool ps, .slice po (Dg.dg 4294967296 pd).length pc, .int .i64 pp, .bool ex, .bool ov, .bool un] (by kernel_rfl) (by kernel_rfl) hth (by kernel_rfl) (by simp [Value.oneCell']) ?_
   have bu : But PQ wp (wp.setCells PQ 0 [.bool ps, .slice po (Dg.dg 4294967296 pd).length pc, .int .i64 pp, .bool ex, .bool ov, .bool un]) := but_sets _ _ _ _
   have dS := bu.loc d13 (by omega)
   have xS := bu.loc x13 (by omega)
   have bS := bu.below b13 (by omega)
   have rS := bu.rd rp (rd_offU rp p13 (by simp))
   have pS : LocE (wp.setCells PQ 0 [.bool ps, .slice po (Dg.dg 4294967296 pd).length pc, .int .i64 pp, .bool ex, .bool ov, .bool un]) PQ 86 [.bool ps, .slice po (Dg.dg 4294967296 pd).length pc, .int .i64 pp, .bool ex, .bool ov, .bool un] := ((((((p13.set 0 (.bool ps)).set 1 (.slice po (Dg.dg 4294967296 pd).length pc)).set 2 (.int .i64 pp)).set 3 (.bool ex)).set 4 (.bool ov)).set 5 (.bool un))
   refine hK.out _ _ ⟨fun j v hj => range_of xS 2 3 rfl j v hj, fun j v hj => range_of dS 3 5 rfl j v hj, dS.cell 1 rfl⟩ (fun hSS => ?_)
   clear hK K bu hth d13 x13 b13 p13 rp
   refine wpAnyH_take (i := 13) (v := .int .i64 0) rfl (by kernel_rfl) (by kernel_rfl) (by kernel_rfl) (fun _ _ _ h => h) (Or.inl ⟨by kernel_rfl, fun w0 _ => by go_simp⟩) hSS ?_
   refine wpAnyH_done (by kernel_rfl) ?_ _
   clear hSS
   change Exit.then _ _ _ _ (World.setCells wp PQ 0 [.bool ps, .slice po (Dg.dg 4294967296 pd).length pc, .int .i64 pp, .bool ex, .bool ov, .bool un])
   generalize World.setCells wp PQ 0 [.bool ps, .slice po (Dg.dg 4294967296 pd).length pc, .int .i64 pp, .bool ex, .bool ov, .bool un] = WS at dS xS bS rS pS ⊢
   simp only [Act.put, List.getElem_toArray, List.getElem_cons_succ, List.getElem_cons_zero, List.setIfInBounds_toArray, List.set_cons_zero, List.set_cons_succ]
   obtain ⟨y0, y1, y2, y3, y4, y5, y6, y7⟩ := dS.cs8
   obtain ⟨z0, z1, z2, z3, z4, z5⟩ := pS.cs6
   go_wp2_with fail
   refine (HSt.out _ _ _ bS rS).mono ?_
   rintro z wt ⟨u, rfl, rt, bt⟩
   obtain ⟨vo, vc, hu⟩ := rt.shape
   subst hu
   have al := below_alloc wt (.cells #[.int .i64 c, .bool g, .slice vo (Dg.dg 4294967296 m).length vc, .int .i64 q] 73)
   have vt := locE_new wt [.int .i64 c, .bool g, .slice vo (Dg.dg 4294967296 m).length vc, .int .i64 q] 73
   have dt := (dS.later bt).later al
   have rv := rt.later al
   have b9 := below_trans (below_trans bS bt) al
   clear y0 y1 y2 y3 y4 y5 y6 y7 z0 z1 z2 z3 z4 z5 dS xS bS rS pS bt al rt
   go_upto_region 7 with fail
   generalize wt.alloc (.cells #[.int .i64 c, .bool g, .slice vo (Dg.dg 4294967296 m).length vc, .int .i64 q] 73) = WT at vt dt rv b9 ⊢
   generalize wt.heap.size = PV at vt ⊢
   obtain ⟨y0, y1, y2, y3, y4, y5, y6, y7⟩ := dt.cs8
   obtain ⟨z0, z1, z2, z3⟩ := vt.cs4
   go_wp2_with fail
   refine (HEn.out _ _ _ b9 rv).mono ?_
   rintro z wz ⟨rfl, bz⟩
   have bE := below_trans b9 bz
   go_wp2
   go_ret3
   exact ⟨rfl, bE⟩
 ·skip
  go_simp
  have al := below_alloc WD (.cells #[.bool false, .slice none 0 0, .int .i64 0, .bool false, .bool false, .bool false] 86)
  have pn := locE_new WD [.bool false, .slice none 0 0, .int .i64 0, .bool false, .bool false, .bool false] 86
  have hpn : w.heap.size + 1 < WD.heap.size := x1.lt
  have d11 := d1.later al
  have x11 := x1.later al
  have b11 := below_trans b1 al
  refine hK.out _ _ ⟨fun j v hj => range_of x11 2 3 rfl j v hj, fun j v hj => range_of d11 3 5 rfl j v hj, d11.cell 1 rfl⟩ (fun hS11 => ?_)
  clear hK K al d1 x1 b1
  generalize WD.alloc (.cells #[.bool false, .slice none 0 0, .int .i64 0, .bool false, .bool false, .bool false] 86) = WN11 at d11 x11 b11 pn hS11 ⊢
  generalize WD.heap.size = PQ at pn hpn ⊢
  refine wpAnyH_ready (rs := [2]) (by kernel_rfl) (by simp) ?_
  refine AllReadyH.cons rfl (fun K hK => ?_) AllReadyH.nil
  go_simp
  refine (HQ.out _ b11).mono ?_
  rintro z wq ⟨no, nc, mo, mc, rfl, rn, rm, bq⟩
  have d12 := d11.later bq
  have x12 := x11.later bq
  have b12 := below_trans b11 bq
  have p12 := pn.later bq
  refine hK.out _ _ ⟨fun j v hj => range_of x12 2 3 rfl j v hj, fun j v hj => range_of d12 3 5 rfl j v hj, d12.cell 1 rfl⟩ (fun hS12 => ?_)
  clear hK K bq d11 x11 b11 pn
  refine wpAnyH_ready (rs := [7]) (by kernel_rfl) (by simp) ?_
  refine AllReadyH.cons rfl (fun K hK => ?_) AllReadyH.nil
  go_simp
  refine (HRd.out _ _ _ _ _ b12 rn rm).mono ?_
  rintro z wp ⟨po, pc, rfl, rp, bp⟩
  have d13 := d12.later bp
  have x13 := x12.later bp
  have b13 := below_trans b12 bp
  have p13 := p12.later bp
  refine hK.out _ _ ⟨fun j v hj => range_of x13 2 3 rfl j v hj, fun j v hj => range_of d13 3 5 rfl j v hj, d13.cell 1 rfl⟩ (fun hS13 => ?_)
  clear hK K bp d12 x12 b12 p12 rn rm
  refine wpAnyH_take (i := 8) (v := .tuple #[.agg #[.bool ps, .slice po (Dg.dg 4294967296 pd).length pc, .int .i64 pp, .bool ex, .bool ov, .bool un], .int .i64 0]) rfl (by kernel_rfl) (by kernel_rfl) (by kernel_rfl) (fun _ _ _ h => h) (Or.inl ⟨by kernel_rfl, fun w0 _ => by go_simp⟩) hS13 ?_
  refine wpAnyH_take (i := 9) (v := .agg #[.bool ps, .slice po (Dg.dg 4294967296 pd).length pc, .int .i64 pp, .bool ex, .bool ov, .bool un]) rfl (by kernel_rfl) (by kernel_rfl) (by kernel_rfl) (fun _ _ _ h => h) (Or.inl ⟨by kernel_rfl, fun w0 _ => by go_simp⟩) hS13 ?_
  refine wpAnyH_take (i := 10) (v := .int .i64 0) rfl (by kernel_rfl) (by kernel_rfl) (by kernel_rfl) (fun _ _ _ h => h) (Or.inl ⟨by kernel_rfl, fun w0 _ => by go_simp⟩) hS13 ?_
  refine wpAnyH_ready (rs := [12]) (by kernel_rfl) (by simp) ?_
  refine AllReadyH.cons rfl (fun K hK => ?_) AllReadyH.nil
  rw [if_pos (by kernel_rfl)]
  have hth : wp.there PQ 0 6 := there_of p13
  refine wp_store_mid 86 (.tmp 9) (.tmp 26) rfl PQ 0 #[.bool ps, .slice po (Dg.dg 4294967296 pd).length pc, .int .i64 pp, .bool ex, .bool ov, .bool un] (by kernel_rfl) (by kernel_rfl) hth (by kernel_rfl) (by simp [Value.oneCell']) ?_
  have bu : But PQ wp (wp.setCells PQ 0 [.bool ps, .slice po (Dg.dg 4294967296 pd).length pc, .int .i64 pp, .bool ex, .bool ov, .bool un]) := but_sets _ _ _ _
  have dS := bu.loc d13 (by omega)
  have xS := bu.loc x13 (by omega)
  have bS := bu.below b13 (by omega)
  have rS := bu.rd rp (rd_offU rp p13 (by simp))
  have pS : LocE (wp.setCells PQ 0 [.bool ps, .slice po (Dg.dg 4294967296 pd).length pc, .int .i64 pp, .bool ex, .bool ov, .bool un]) PQ 86 [.bool ps, .slice po (Dg.dg 4294967296 pd).length pc, .int .i64 pp, .bool ex, .bool ov, .bool un] := ((((((p13.set 0 (.bool ps)).set 1 (.slice po (Dg.dg 4294967296 pd).length pc)).set 2 (.int .i64 pp)).set 3 (.bool ex)).set 4 (.bool ov)).set 5 (.bool un))
  refine hK.out _ _ ⟨fun j v hj => range_of xS 2 3 rfl j v hj, fun j v hj => range_of dS 3 5 rfl j v hj, dS.cell 1 rfl⟩ (fun hSS => ?_)
  clear hK K bu hth d13 x13 b13 p13 rp
  refine wpAnyH_take (i := 13) (v := .int .i64 0) rfl (by kernel_rfl) (by kernel_rfl) (by kernel_rfl) (fun _ _ _ h => h) (Or.inl ⟨by kernel_rfl, fun w0 _ => by go_simp⟩) hSS ?_
  refine wpAnyH_done (by kernel_rfl) ?_ _
  clear hSS
  change Exit.then _ _ _ _ (World.setCells wp PQ 0 [.bool ps, .slice po (Dg.dg 4294967296 pd).length pc, .int .i64 pp, .bool ex, .bool ov, .bool un])
  generalize World.setCells wp PQ 0 [.bool ps, .slice po (Dg.dg 4294967296 pd).length pc, .int .i64 pp, .bool ex, .bool ov, .bool un] = WS at dS xS bS rS pS ⊢
  simp only [Act.put, List.getElem_toArray, List.getElem_cons_succ, List.getElem_cons_zero, List.setIfInBounds_toArray, List.set_cons_zero, List.set_cons_succ]
  obtain ⟨y0, y1, y2, y3, y4, y5, y6, y7⟩ := dS.cs8
  obtain ⟨z0, z1, z2, z3, z4, z5⟩ := pS.cs6
  go_wp2_with fail
  refine (HSt.out _ _ _ bS rS).mono ?_
  rintro z wt ⟨u, rfl, rt, bt⟩
  obtain ⟨vo, vc, hu⟩ := rt.shape
  subst hu
  have al := below_alloc wt (.cells #[.int .i64 c, .bool g, .slice vo (Dg.dg 4294967296 m).length vc, .int .i64 q] 73)
  have vt := locE_new wt [.int .i64 c, .bool g, .slice vo (Dg.dg 4294967296 m).length vc, .int .i64 q] 73
  have dt := (dS.later bt).later al
  have rv := rt.later al
  have b9 := below_trans (below_trans bS bt) al
  clear y0 y1 y2 y3 y4 y5 y6 y7 z0 z1 z2 z3 z4 z5 dS xS bS rS pS bt al rt
  go_upto_region 7 with fail
  generalize wt.alloc (.cells #[.int .i64 c, .bool g, .slice vo (Dg.dg 4294967296 m).length vc, .int .i64 q] 73) = WT at vt dt rv b9 ⊢
  generalize wt.heap.size = PV at vt ⊢
  obtain ⟨y0, y1, y2, y3, y4, y5, y6, y7⟩ := dt.cs8
  obtain ⟨z0, z1, z2, z3⟩ := vt.cs4
  go_wp2_with fail
  refine (HEn.out _ _ _ b9 rv).mono ?_
  rintro z wz ⟨rfl, bz⟩
  have bE := below_trans b9 bz
  go_wp2
  go_ret3
  exact ⟨rfl, bE⟩
end Go.Proofs.YtnhackdjplppjaaGreatDoor

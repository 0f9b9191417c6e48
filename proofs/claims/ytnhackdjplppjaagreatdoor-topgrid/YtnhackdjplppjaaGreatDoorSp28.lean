/-
  Texts laid together: As3, As4, Du1.
-/
import Derived.Test.YtnhackdjplppjaaGreatDoorSp21
set_option maxRecDepth 100000
namespace Go.Proofs.YtnhackdjplppjaaGreatDoor
open Go.RowKit
set_option maxHeartbeats 6400000 in
theorem greatest_W (n wy fam R D L G:Int) (gr ng:Bool) (r pw:Nat) (w:World) (hR:IntKind.u32.wrap R=(r:Int))
  (HP: ∀q w1,Below w.heap.size w w1→w1.cell? ⟨q,0,none⟩=some (.int .u32 (r:Int))→Calls Tryz.prog 215 #[.slice (some ⟨q,0,none⟩) 1 1,yi D] w1 (Num w1 pw))
  (HM: ∀vo vc q w1,Rd w1 .u32 (.slice vo (Dg.dg 4294967296 pw).length vc) (Dg.dg 4294967296 pw)→w1.cell? ⟨q,0,none⟩=some (.int .u32 1)→Calls Tryz.prog 170 #[.slice vo (Dg.dg 4294967296 pw).length vc,.slice (some ⟨q,0,none⟩) 1 1] w1 (Num w1 (pw-1))):
  Calls Tryz.prog 175 #[ykV n wy fam R D L G gr,.bool ng] w (ValRes w 2 ng (pw-1) G):=by
 replace HP:Hid _:=HP;replace HM:Hid _:=HM;have ad:=below_alloc w (.cells (ykL n wy fam R D L G gr).toArray 93);have av:=below_alloc (w.alloc (.cells (ykL n wy fam R D L G gr).toArray 93)) (.cells (yvL 0 false (.slice none 0 0) 0).toArray 73);have d0:=(locE_new w (ykL n wy fam R D L G gr) 93).later av;have v0:=locE_new (w.alloc (.cells (ykL n wy fam R D L G gr).toArray 93)) (yvL 0 false (.slice none 0 0) 0) 73;rw[World.size_alloc] at v0;have b0:=below_trans ad av;clear ad av
 go_enter Tryz.func175,Tryz.ntmps175
 go_upto_region 1 with fail
 generalize(w.alloc (.cells (ykL n wy fam R D L G gr).toArray 93)).alloc (.cells (yvL 0 false (.slice none 0 0) 0).toArray 73)=W0 at d0 v0 b0⊢;have y3:=d0.cell 3 rfl;have y4:=d0.cell 4 rfl;have al:=below_alloc W0 (.cells #[.int .u32 (r:Int)] 141);have hc:=(locE_new W0 [.int .u32 (r:Int)] 141).cell 0 rfl;have d1:=d0.later al;have v1:=v0.later al;have b01:=below_trans b0 al;have z3:=d1.cell 3 rfl;have z4:=d1.cell 4 rfl;clear al
 go_wp2_with fail
 refine(HP.out _ _ b01 hc).mono ?_;rintro z w2 ⟨u,rfl,o2,b2⟩;obtain⟨vo,vc,hu⟩:=o2.rd.shape;subst hu;have r2:=o2.rd;have d2:=d1.later b2;have v2:=v1.later b2;have b02:=below_trans b01 b2;clear y3 y4 z3 z4 hc d0 v0 b0 d1 v1 b01 b2 o2 HP hR
 go_upto_region 2 with fail
 have bW:Below w2.heap.size w2 w2.drew:=(Below.refl _ _).drew;have d3:=d2.later bW;have v3:=v2.later bW;have r3:=r2.later bW;have b03:=below_trans b02 bW;clear bW d2 v2 r2 b02;refine wp_region_held_drew (S:=fun wq=>wq.cell? ⟨w.heap.size,6,none⟩=some (yi G)) (by kernel_rfl) (d3.cell 6 rfl) (fun hS0=> ?_)
 refine wpAnyH_take (i:=0) (v:= .bool ng) rfl (by kernel_rfl) (by kernel_rfl) (by kernel_rfl) (fun _ _ _ h=>h) (Or.inl ⟨by kernel_rfl,fun w0 _=>by kernel_rfl⟩) hS0 ?_
 refine wpAnyH_take (i:=1) (v:= .slice vo (Dg.dg 4294967296 pw).length vc) rfl (by kernel_rfl) (by kernel_rfl) (by kernel_rfl) (fun _ _ _ h=>h) (Or.inl ⟨by kernel_rfl,fun w0 _=>by kernel_rfl⟩) hS0 ?_
 refine wpAnyH_take (i:=4) (v:= .pointer (some ⟨w.heap.size,3,none⟩)) rfl (by kernel_rfl) (by kernel_rfl) (by kernel_rfl) (fun _ _ _ h=>h) (Or.inl ⟨by kernel_rfl,fun w0 _=>by kernel_rfl⟩) hS0 ?_
 refine wpAnyH_take (i:=5) (v:= .pointer (some ⟨w.heap.size,6,none⟩)) rfl (by kernel_rfl) (by kernel_rfl) (by kernel_rfl) (fun _ _ _ h=>h) (Or.inl ⟨by kernel_rfl,fun w0 _=>by kernel_rfl⟩) hS0 ?_
 refine wpAnyH_take (i:=6) (v:=yi G) rfl (by kernel_rfl) (by kernel_rfl) (by kernel_rfl) (fun _ _ _ h=>h) (Or.inl ⟨by kernel_rfl,fun w0 hw0=>xload 3 (.tmp 20) rfl w.heap.size 6 (by kernel_rfl) _ _ Tryz.underlying3 rfl hw0⟩) hS0 ?_
 refine wpAnyH_ready (rs:=[2]) (by kernel_rfl) (by simp) ?_;refine AllReadyH.cons rfl (fun K hK=> ?_) AllReadyH.nil
 go_simp
 have al:=below_alloc w2.drew (.cells #[.int .u32 1] 141);have hc:=(locE_new w2.drew [.int .u32 1] 141).cell 0 rfl;have d4:=d3.later al;have v4:=v3.later al;have r4:=r3.later al;have b04:=below_trans b03 al;refine hK.out _ _ (d4.cell 6 rfl) (fun hS2=> ?_)
 clear hK K al d3 v3 r3 b03;refine wpAnyH_ready (rs:=[3]) (by kernel_rfl) (by simp) ?_;refine AllReadyH.cons rfl (fun K hK=> ?_) AllReadyH.nil
 go_simp
 refine(HM.out _ _ _ _ r4 hc).mono ?_;rintro z w5 ⟨u,rfl,o5,b5⟩;obtain⟨mo,mc,hu⟩:=o5.rd.shape;subst hu;have r5:=o5.rd;have d5:=d4.later b5;have v5:=v4.later b5;have b05:=below_trans b04 b5;refine hK.out _ _ (d5.cell 6 rfl) (fun hS3=> ?_)
 clear hK K d4 v4 r4 b04 b5 o5 hc;have bu:=(((but_set w5 (w.heap.size+1) 0 (yi 2)).trans (but_set _ (w.heap.size+1) 1 (.bool ng))).trans (but_set _ (w.heap.size+1) 2 (.slice mo (Dg.dg 4294967296 (pw-1)).length mc))).trans (but_set _ (w.heap.size+1) 3 (yi G));have bR:Below w.heap.size w (w5.setCells (w.heap.size+1) 0 (yvL 2 ng (.slice mo (Dg.dg 4294967296 (pw-1)).length mc) G)):=bu.below b05 (by omega);have rR:Rd (w5.setCells (w.heap.size+1) 0 (yvL 2 ng (.slice mo (Dg.dg 4294967296 (pw-1)).length mc) G)) .u32 (.slice mo (Dg.dg 4294967296 (pw-1)).length mc) (Dg.dg 4294967296 (pw-1)):=bu.rd r5 (rd_offU r5 v5 (by simp));have hth:w5.there (w.heap.size+1) 0 4:=there_of v5;have hl:=run_loadVar_mid (P:=Tryz.prog) _ (w.heap.size+1) 0 73 (yvL 2 ng (.slice mo (Dg.dg 4294967296 (pw-1)).length mc) G) _ (World.rangeAt_setCells_same w5 (w.heap.size+1) 0 (yvL 2 ng (.slice mo (Dg.dg 4294967296 (pw-1)).length mc) G) hth) Tryz.underlying73 rfl (by kernel_rfl);have HH:Hid (_∧_∧_):=⟨hl,rR,bR⟩;clear hl rR bR bu;refine wpAnyH_take (i:=7) (v:=(yvV 2 ng (.slice mo (Dg.dg 4294967296 (pw-1)).length mc) G)) rfl (by kernel_rfl) (by kernel_rfl) (by kernel_rfl) (fun _ _ _ h=>h) (Or.inl ⟨by kernel_rfl,fun w0 _=>by kernel_rfl⟩) hS3 ?_
 refine wpAnyH_ready (rs:=[8]) (by kernel_rfl) (by simp) ?_;refine AllReadyH.cons rfl (fun K hK=> ?_) AllReadyH.nil
 rw[if_pos (by kernel_rfl)];refine wp_store_mid 73 (.tmp 4) (.tmp 22) rfl (w.heap.size+1) 0 (yvL 2 ng (.slice mo (Dg.dg 4294967296 (pw-1)).length mc) G).toArray (by kernel_rfl) (by kernel_rfl) hth (by kernel_rfl) (by simp[Value.oneCell']) ?_;refine hK.out _ _ ?_ (fun hS8=> ?_)
 ·have hbu:But (w.heap.size+1) w5 (w5.setCells (w.heap.size+1) 0 (yvL 2 ng (.slice mo (Dg.dg 4294967296 (pw-1)).length mc) G)):=but_sets _ _ _ _
  exact(hbu.loc d5 (by omega)).cell 6 rfl
 clear hK K;refine wpAnyH_done (by kernel_rfl) ?_ _;obtain⟨hl,rR,bR⟩:=HH.out;clear HH hS0 hS2 hS3 hS8 d5 v5 r5 b05 hth HM;change Exit.then _ _ _ _ (World.setCells w5 (w.heap.size+1) 0 (yvL 2 ng (.slice mo (Dg.dg 4294967296 (pw-1)).length mc) G));generalize World.setCells w5 (w.heap.size+1) 0 (yvL 2 ng (.slice mo (Dg.dg 4294967296 (pw-1)).length mc) G)=WE at hl rR bR⊢
 go_wp2
 exact bodyPost_ret (results_one Tryz.results175 rfl hl) rfl ⟨_,rfl,rR,bR⟩
set_option maxHeartbeats 3200000 in
theorem over_C (n wy R D L G:Int) (gr ng:Bool) (w:World)
  (HN: ∀w1,Calls Tryz.prog 165 #[yi 3] w1 fun z w'=>z= .returned (yi 5)∧Below w1.heap.size w1 w'):
  Calls Tryz.prog 145 #[ykV n wy 3 R D L G gr,.bool ng] w (ValRes w 5 false 0 0):=by
 replace HN:Hid _:=HN;have ad:=below_alloc w (.cells (ykL n wy 3 R D L G gr).toArray 93);have av:=below_alloc (w.alloc (.cells (ykL n wy 3 R D L G gr).toArray 93)) (.cells (yvL 0 false (.slice none 0 0) 0).toArray 73);have d0:=(locE_new w (ykL n wy 3 R D L G gr) 93).later av;have v0:=locE_new (w.alloc (.cells (ykL n wy 3 R D L G gr).toArray 93)) (yvL 0 false (.slice none 0 0) 0) 73;rw[World.size_alloc] at v0;have b0:=below_trans ad av;clear ad av
 go_enter Tryz.func145,Tryz.ntmps145
 go_upto_block 0 with fail
 generalize(w.alloc (.cells (ykL n wy 3 R D L G gr).toArray 93)).alloc (.cells (yvL 0 false (.slice none 0 0) 0).toArray 73)=W0 at d0 v0 b0⊢;obtain⟨y0,y1,y2,y3,y4,y5,y6,y7⟩:=d0.cs8
 go_wp2_with fail
 refine(HN.out _).mono ?_;rintro z w1 ⟨rfl,b1⟩;have v1:=v0.later b1;have b01:=below_trans b0 b1;clear y0 y1 y2 y3 y4 y5 y6 y7 d0 v0 b0 b1;have cR:LocE ((((w1.setCell ⟨w.heap.size+1,0,none⟩ (yi 5)).setCell ⟨w.heap.size+1,1,none⟩ (.bool false)).setCell ⟨w.heap.size+1,2,none⟩ (.slice none 0 0)).setCell ⟨w.heap.size+1,3,none⟩ (yi 0)) (w.heap.size+1) 73 (yvL 5 false (.slice none 0 0) 0):=((((v1.set 0 (yi 5)).set 1 (.bool false)).set 2 (.slice none 0 0)).set 3 (yi 0));have bu:=(((but_set w1 (w.heap.size+1) 0 (yi 5)).trans (but_set _ (w.heap.size+1) 1 (.bool false))).trans (but_set _ (w.heap.size+1) 2 (.slice none 0 0))).trans (but_set _ (w.heap.size+1) 3 (yi 0));have bR:=bu.below b01 (by omega);have hl:=run_loadVar_mid (P:=Tryz.prog) _ (w.heap.size+1) 0 73 (yvL 5 false (.slice none 0 0) 0) _ cR.range Tryz.underlying73 rfl (by kernel_rfl);have HH:Hid (_∧_):=⟨hl,bR⟩;obtain⟨z0,z1,z2,z3⟩:=v1.cs4;have fz0:=v1.free 0;have fz1:=v1.free 1;have fz2:=v1.free 2;have fz3:=v1.free 3;clear hl bR bu cR;clear v1 b01
 go_wp2
 obtain⟨hl,bR⟩:=HH.out;exact bodyPost_ret (results_one Tryz.results145 rfl hl) rfl ⟨_,rfl,rd_nil _ _,bR⟩
set_option maxHeartbeats 3200000 in
theorem over_A1 (n wy R D L G:Int) (gr ng:Bool) (w:World)
  (HO: ∀w1,Calls Tryz.prog 193 #[ykV n wy 1 R D L G gr,.bool ng] w1 fun z w'=>z= .returned (.bool true)∧Below w1.heap.size w1 w'):
  Calls Tryz.prog 145 #[ykV n wy 1 R D L G gr,.bool ng] w (ValRes w 3 ng 0 0):=by
 replace HO:Hid _:=HO;have ad:=below_alloc w (.cells (ykL n wy 1 R D L G gr).toArray 93);have av:=below_alloc (w.alloc (.cells (ykL n wy 1 R D L G gr).toArray 93)) (.cells (yvL 0 false (.slice none 0 0) 0).toArray 73);have d0:=(locE_new w (ykL n wy 1 R D L G gr) 93).later av;have v0:=locE_new (w.alloc (.cells (ykL n wy 1 R D L G gr).toArray 93)) (yvL 0 false (.slice none 0 0) 0) 73;rw[World.size_alloc] at v0;have b0:=below_trans ad av;clear ad av
 go_enter Tryz.func145,Tryz.ntmps145
 go_upto_block 0 with fail
 generalize(w.alloc (.cells (ykL n wy 1 R D L G gr).toArray 93)).alloc (.cells (yvL 0 false (.slice none 0 0) 0).toArray 73)=W0 at d0 v0 b0⊢;obtain⟨y0,y1,y2,y3,y4,y5,y6,y7⟩:=d0.cs8
 go_wp2_with fail
 refine(HO.out _).mono ?_;rintro z w1 ⟨rfl,b1⟩;have v1:=v0.later b1;have b01:=below_trans b0 b1;clear y0 y1 y2 y3 y4 y5 y6 y7 d0 v0 b0 b1;have cR:LocE ((((w1.setCell ⟨w.heap.size+1,0,none⟩ (yi 3)).setCell ⟨w.heap.size+1,1,none⟩ (.bool ng)).setCell ⟨w.heap.size+1,2,none⟩ (.slice none 0 0)).setCell ⟨w.heap.size+1,3,none⟩ (yi 0)) (w.heap.size+1) 73 (yvL 3 ng (.slice none 0 0) 0):=((((v1.set 0 (yi 3)).set 1 (.bool ng)).set 2 (.slice none 0 0)).set 3 (yi 0));have bu:=(((but_set w1 (w.heap.size+1) 0 (yi 3)).trans (but_set _ (w.heap.size+1) 1 (.bool ng))).trans (but_set _ (w.heap.size+1) 2 (.slice none 0 0))).trans (but_set _ (w.heap.size+1) 3 (yi 0));have bR:=bu.below b01 (by omega);have hl:=run_loadVar_mid (P:=Tryz.prog) _ (w.heap.size+1) 0 73 (yvL 3 ng (.slice none 0 0) 0) _ cR.range Tryz.underlying73 rfl (by kernel_rfl);have HH:Hid (_∧_):=⟨hl,bR⟩;obtain⟨z0,z1,z2,z3⟩:=v1.cs4;have fz0:=v1.free 0;have fz1:=v1.free 1;have fz2:=v1.free 2;have fz3:=v1.free 3;clear hl bR bu cR;clear v1 b01
 go_wp2
 obtain⟨hl,bR⟩:=HH.out;exact bodyPost_ret (results_one Tryz.results145 rfl hl) rfl ⟨_,rfl,rd_nil _ _,bR⟩
set_option maxHeartbeats 3200000 in
theorem over_A0 (n wy R D L G:Int) (gr ng:Bool) (m:Nat) (w:World)
  (HO: ∀w1,Calls Tryz.prog 193 #[ykV n wy 1 R D L G gr,.bool ng] w1 fun z w'=>z= .returned (.bool false)∧Below w1.heap.size w1 w')
  (HGr: ∀w1,Below w.heap.size w w1→Calls Tryz.prog 175 #[ykV n wy 1 R D L G gr,.bool ng] w1 (ValRes w1 2 ng m G)):
  Calls Tryz.prog 145 #[ykV n wy 1 R D L G gr,.bool ng] w (ValRes w 2 ng m G):=by
 replace HO:Hid _:=HO;replace HGr:Hid _:=HGr;have ad:=below_alloc w (.cells (ykL n wy 1 R D L G gr).toArray 93);have av:=below_alloc (w.alloc (.cells (ykL n wy 1 R D L G gr).toArray 93)) (.cells (yvL 0 false (.slice none 0 0) 0).toArray 73);have d0:=(locE_new w (ykL n wy 1 R D L G gr) 93).later av;have v0:=locE_new (w.alloc (.cells (ykL n wy 1 R D L G gr).toArray 93)) (yvL 0 false (.slice none 0 0) 0) 73;rw[World.size_alloc] at v0;have b0:=below_trans ad av;clear ad av
 go_enter Tryz.func145,Tryz.ntmps145
 go_upto_block 0 with fail
 generalize(w.alloc (.cells (ykL n wy 1 R D L G gr).toArray 93)).alloc (.cells (yvL 0 false (.slice none 0 0) 0).toArray 73)=W0 at d0 v0 b0⊢;obtain⟨y0,y1,y2,y3,y4,y5,y6,y7⟩:=d0.cs8
 go_wp2_with fail
 refine(HO.out _).mono ?_;rintro z w1 ⟨rfl,b1⟩;have d1:=d0.later b1;have v1:=v0.later b1;have b01:=below_trans b0 b1;clear y0 y1 y2 y3 y4 y5 y6 y7 d0 v0 b0 b1;obtain⟨y0,y1,y2,y3,y4,y5,y6,y7⟩:=d1.cs8
 go_wp2_with fail
 refine(HGr.out _ b01).mono ?_;rintro z w2 ⟨u,rfl,r2,b2⟩;obtain⟨mo,mc,hu⟩:=r2.shape;subst hu;have v2:=v1.later b2;have b02:=below_trans b01 b2;clear y0 y1 y2 y3 y4 y5 y6 y7 d1 v1 b01 b2;have cR:LocE ((((w2.setCell ⟨w.heap.size+1,0,none⟩ (yi 2)).setCell ⟨w.heap.size+1,1,none⟩ (.bool ng)).setCell ⟨w.heap.size+1,2,none⟩ (.slice mo (Dg.dg 4294967296 m).length mc)).setCell ⟨w.heap.size+1,3,none⟩ (yi G)) (w.heap.size+1) 73 (yvL 2 ng (.slice mo (Dg.dg 4294967296 m).length mc) G):=((((v2.set 0 (yi 2)).set 1 (.bool ng)).set 2 (.slice mo (Dg.dg 4294967296 m).length mc)).set 3 (yi G));have bu:=(((but_set w2 (w.heap.size+1) 0 (yi 2)).trans (but_set _ (w.heap.size+1) 1 (.bool ng))).trans (but_set _ (w.heap.size+1) 2 (.slice mo (Dg.dg 4294967296 m).length mc))).trans (but_set _ (w.heap.size+1) 3 (yi G));have bR:=bu.below b02 (by omega);have rR:=bu.rd r2 (rd_offU r2 v2 (by simp));have hl:=run_loadVar_mid (P:=Tryz.prog) _ (w.heap.size+1) 0 73 (yvL 2 ng (.slice mo (Dg.dg 4294967296 m).length mc) G) _ cR.range Tryz.underlying73 rfl (by kernel_rfl);have HH:Hid (_∧_∧_):=⟨hl,rR,bR⟩;obtain⟨z0,z1,z2,z3⟩:=v2.cs4;have fz0:=v2.free 0;have fz1:=v2.free 1;have fz2:=v2.free 2;have fz3:=v2.free 3;clear hl bR bu cR rR;clear v2 b02 r2
 go_wp2
 obtain⟨hl,rR,bR⟩:=HH.out;exact bodyPost_ret (results_one Tryz.results145 rfl hl) rfl ⟨_,rfl,rR,bR⟩
set_option maxHeartbeats 3200000 in
theorem over_B (n wy R D L G:Int) (gr ng:Bool) (m:Nat) (w:World)
  (HGr: ∀w1,Below w.heap.size w w1→Calls Tryz.prog 175 #[ykV n wy 2 R D L G gr,.bool ng] w1 (ValRes w1 2 ng m G)):
  Calls Tryz.prog 145 #[ykV n wy 2 R D L G gr,.bool ng] w (ValRes w 2 ng m G):=by
 replace HGr:Hid _:=HGr;have ad:=below_alloc w (.cells (ykL n wy 2 R D L G gr).toArray 93);have av:=below_alloc (w.alloc (.cells (ykL n wy 2 R D L G gr).toArray 93)) (.cells (yvL 0 false (.slice none 0 0) 0).toArray 73);have d0:=(locE_new w (ykL n wy 2 R D L G gr) 93).later av;have v0:=locE_new (w.alloc (.cells (ykL n wy 2 R D L G gr).toArray 93)) (yvL 0 false (.slice none 0 0) 0) 73;rw[World.size_alloc] at v0;have b0:=below_trans ad av;clear ad av
 go_enter Tryz.func145,Tryz.ntmps145
 go_upto_block 0 with fail
 generalize(w.alloc (.cells (ykL n wy 2 R D L G gr).toArray 93)).alloc (.cells (yvL 0 false (.slice none 0 0) 0).toArray 73)=W0 at d0 v0 b0⊢;obtain⟨y0,y1,y2,y3,y4,y5,y6,y7⟩:=d0.cs8
 go_wp2_with fail
 refine(HGr.out _ b0).mono ?_;rintro z w2 ⟨u,rfl,r2,b2⟩;obtain⟨mo,mc,hu⟩:=r2.shape;subst hu;have v2:=v0.later b2;have b02:=below_trans b0 b2;clear y0 y1 y2 y3 y4 y5 y6 y7 d0 v0 b0 b2;have cR:LocE ((((w2.setCell ⟨w.heap.size+1,0,none⟩ (yi 2)).setCell ⟨w.heap.size+1,1,none⟩ (.bool ng)).setCell ⟨w.heap.size+1,2,none⟩ (.slice mo (Dg.dg 4294967296 m).length mc)).setCell ⟨w.heap.size+1,3,none⟩ (yi G)) (w.heap.size+1) 73 (yvL 2 ng (.slice mo (Dg.dg 4294967296 m).length mc) G):=((((v2.set 0 (yi 2)).set 1 (.bool ng)).set 2 (.slice mo (Dg.dg 4294967296 m).length mc)).set 3 (yi G));have bu:=(((but_set w2 (w.heap.size+1) 0 (yi 2)).trans (but_set _ (w.heap.size+1) 1 (.bool ng))).trans (but_set _ (w.heap.size+1) 2 (.slice mo (Dg.dg 4294967296 m).length mc))).trans (but_set _ (w.heap.size+1) 3 (yi G));have bR:=bu.below b02 (by omega);have rR:=bu.rd r2 (rd_offU r2 v2 (by simp));have hl:=run_loadVar_mid (P:=Tryz.prog) _ (w.heap.size+1) 0 73 (yvL 2 ng (.slice mo (Dg.dg 4294967296 m).length mc) G) _ cR.range Tryz.underlying73 rfl (by kernel_rfl);have HH:Hid (_∧_∧_):=⟨hl,rR,bR⟩;obtain⟨z0,z1,z2,z3⟩:=v2.cs4;have fz0:=v2.free 0;have fz1:=v2.free 1;have fz2:=v2.free 2;have fz3:=v2.free 3;clear hl bR bu cR rR;clear v2 b02 r2
 go_wp2
 obtain⟨hl,rR,bR⟩:=HH.out;exact bodyPost_ret (results_one Tryz.results145 rfl hl) rfl ⟨_,rfl,rR,bR⟩
end Go.Proofs.YtnhackdjplppjaaGreatDoor
namespace Go.Proofs.YtnhackdjplppjaaGreatDoor
open Go.RowKit
def SetRes (w:World) (c:Int) (g:Bool) (m:Nat) (q fl:Int) (z:Ending) (w':World):Prop:=
 ∃v,z= .returned (.tuple #[yvV c g v q,yi fl])∧Rd w' .u32 v (Dg.dg 4294967296 m)∧Below w.heap.size w w'
set_option maxHeartbeats 3200000 in
theorem settle_over (n wy fam R D L G pw:Int) (gr ng ex un:Bool) (ao:Option Addr) (la ca:Nat) (c q:Int) (g:Bool) (m:Nat) (w:World)
  (HO: ∀w1,Below w.heap.size w w1→Calls Tryz.prog 145 #[ykV n wy fam R D L G gr,.bool ng] w1 (ValRes w1 c g m q)):
  Calls Tryz.prog 88 #[ykV n wy fam R D L G gr,ypV ng (.slice ao la ca) pw ex true un] w (SetRes w c g m q 5):=by
 replace HO:Hid _:=HO;have a1:=below_alloc w (.cells (ykL n wy fam R D L G gr).toArray 93);have a2:=below_alloc (w.alloc (.cells (ykL n wy fam R D L G gr).toArray 93)) (.cells (ypL ng (.slice ao la ca) pw ex true un).toArray 86);have a3:=below_alloc ((w.alloc (.cells (ykL n wy fam R D L G gr).toArray 93)).alloc (.cells (ypL ng (.slice ao la ca) pw ex true un).toArray 86)) (.cells (yvL 0 false (.slice none 0 0) 0).toArray 73);have d0:=((locE_new w (ykL n wy fam R D L G gr) 93).later a2).later a3;have p0:=(locE_new (w.alloc (.cells (ykL n wy fam R D L G gr).toArray 93)) (ypL ng (.slice ao la ca) pw ex true un) 86).later a3;have v0:=locE_new ((w.alloc (.cells (ykL n wy fam R D L G gr).toArray 93)).alloc (.cells (ypL ng (.slice ao la ca) pw ex true un).toArray 86)) (yvL 0 false (.slice none 0 0) 0) 73;rw[World.size_alloc] at p0;rw[World.size_alloc,World.size_alloc] at v0;have b0:=below_trans (below_trans a1 a2) a3;clear a1 a2 a3
 go_enter Tryz.func88,Tryz.ntmps88
 go_upto_block 0 with fail
 generalize((w.alloc (.cells (ykL n wy fam R D L G gr).toArray 93)).alloc (.cells (ypL ng (.slice ao la ca) pw ex true un).toArray 86)).alloc (.cells (yvL 0 false (.slice none 0 0) 0).toArray 73)=W0 at d0 p0 v0 b0⊢;obtain⟨y0,y1,y2,y3,y4,y5,y6,y7⟩:=d0.cs8;obtain⟨x0,x1,x2,x3,x4,x5⟩:=p0.cs6
 go_wp2_with fail
 refine(HO.out _ b0).mono ?_;rintro z w1 ⟨u,rfl,r1,b1⟩;obtain⟨mo,mc,hu⟩:=r1.shape;subst hu;have v1:=v0.later b1;have b01:=below_trans b0 b1;clear y0 y1 y2 y3 y4 y5 y6 y7 x0 x1 x2 x3 x4 x5 d0 p0 v0 b0 b1 HO;have cR:LocE ((((w1.setCell ⟨w.heap.size+1+1,0,none⟩ (yi c)).setCell ⟨w.heap.size+1+1,1,none⟩ (.bool g)).setCell ⟨w.heap.size+1+1,2,none⟩ (.slice mo (Dg.dg 4294967296 m).length mc)).setCell ⟨w.heap.size+1+1,3,none⟩ (yi q)) (w.heap.size+1+1) 73 (yvL c g (.slice mo (Dg.dg 4294967296 m).length mc) q):=((((v1.set 0 (yi c)).set 1 (.bool g)).set 2 (.slice mo (Dg.dg 4294967296 m).length mc)).set 3 (yi q));have bu:=(((but_set w1 (w.heap.size+1+1) 0 (yi c)).trans (but_set _ (w.heap.size+1+1) 1 (.bool g))).trans (but_set _ (w.heap.size+1+1) 2 (.slice mo (Dg.dg 4294967296 m).length mc))).trans (but_set _ (w.heap.size+1+1) 3 (yi q));have bR:=bu.below b01 (by omega);have rR:=bu.rd r1 (rd_offU r1 v1 (by simp));have hl:=run_loadVar_mid (P:=Tryz.prog) _ (w.heap.size+1+1) 0 73 (yvL c g (.slice mo (Dg.dg 4294967296 m).length mc) q) _ cR.range Tryz.underlying73 rfl (by kernel_rfl);have HH:Hid (_∧_∧_):=⟨hl,rR,bR⟩;obtain⟨z0,z1,z2,z3⟩:=v1.cs4;have fz0:=v1.free 0;have fz1:=v1.free 1;have fz2:=v1.free 2;have fz3:=v1.free 3;clear hl bR bu cR rR;clear v1 b01 r1
 go_wp2
 obtain⟨hl,rR,bR⟩:=HH.out;exact bodyPost_ret (results_two Tryz.results88 rfl rfl hl) rfl ⟨_,rfl,rR,bR⟩
set_option maxHeartbeats 3200000 in
theorem settle_low (n wy fam R D L G pw:Int) (gr ng ex:Bool) (ao:Option Addr) (la ca:Nat) (w:World) (hlt:pw<L):
  Calls Tryz.prog 88 #[ykV n wy fam R D L G gr,ypV ng (.slice ao la ca) pw ex false true] w (SetRes w 1 false 0 0 3):=by
 have a1:=below_alloc w (.cells (ykL n wy fam R D L G gr).toArray 93);have a2:=below_alloc (w.alloc (.cells (ykL n wy fam R D L G gr).toArray 93)) (.cells (ypL ng (.slice ao la ca) pw ex false true).toArray 86);have a3:=below_alloc ((w.alloc (.cells (ykL n wy fam R D L G gr).toArray 93)).alloc (.cells (ypL ng (.slice ao la ca) pw ex false true).toArray 86)) (.cells (yvL 0 false (.slice none 0 0) 0).toArray 73);have d0:=((locE_new w (ykL n wy fam R D L G gr) 93).later a2).later a3;have p0:=(locE_new (w.alloc (.cells (ykL n wy fam R D L G gr).toArray 93)) (ypL ng (.slice ao la ca) pw ex false true) 86).later a3;have v0:=locE_new ((w.alloc (.cells (ykL n wy fam R D L G gr).toArray 93)).alloc (.cells (ypL ng (.slice ao la ca) pw ex false true).toArray 86)) (yvL 0 false (.slice none 0 0) 0) 73;rw[World.size_alloc] at p0;rw[World.size_alloc,World.size_alloc] at v0;have b0:=below_trans (below_trans a1 a2) a3;clear a1 a2 a3
 go_enter Tryz.func88,Tryz.ntmps88
 go_upto_block 0 with fail
 generalize((w.alloc (.cells (ykL n wy fam R D L G gr).toArray 93)).alloc (.cells (ypL ng (.slice ao la ca) pw ex false true).toArray 86)).alloc (.cells (yvL 0 false (.slice none 0 0) 0).toArray 73)=W0 at d0 p0 v0 b0⊢;obtain⟨x0,x1,x2,x3,x4,x5⟩:=p0.cs6;have y5:=d0.cell 5 rfl;have cR:LocE ((((W0.setCell ⟨w.heap.size+1+1,0,none⟩ (yi 1)).setCell ⟨w.heap.size+1+1,1,none⟩ (.bool false)).setCell ⟨w.heap.size+1+1,2,none⟩ (.slice none 0 0)).setCell ⟨w.heap.size+1+1,3,none⟩ (yi 0)) (w.heap.size+1+1) 73 (yvL 1 false (.slice none 0 0) 0):=((((v0.set 0 (yi 1)).set 1 (.bool false)).set 2 (.slice none 0 0)).set 3 (yi 0));have bu:=(((but_set W0 (w.heap.size+1+1) 0 (yi 1)).trans (but_set _ (w.heap.size+1+1) 1 (.bool false))).trans (but_set _ (w.heap.size+1+1) 2 (.slice none 0 0))).trans (but_set _ (w.heap.size+1+1) 3 (yi 0));have bR:=bu.below b0 (by omega);have hl:=run_loadVar_mid (P:=Tryz.prog) _ (w.heap.size+1+1) 0 73 (yvL 1 false (.slice none 0 0) 0) _ cR.range Tryz.underlying73 rfl (by kernel_rfl);have HH:Hid (_∧_):=⟨hl,bR⟩;obtain⟨z0,z1,z2,z3⟩:=v0.cs4;have fz0:=v0.free 0;have fz1:=v0.free 1;have fz2:=v0.free 2;have fz3:=v0.free 3;clear hl bR bu cR;clear v0 b0 d0 p0
 go_wp2
 obtain⟨hl,bR⟩:=HH.out;exact bodyPost_ret (results_two Tryz.results88 rfl rfl hl) rfl ⟨_,rfl,rd_nil _ _,bR⟩
set_option maxHeartbeats 6400000 in
theorem settle_in (n wy fam R D L G pw:Int) (gr ng ex un:Bool) (ao:Option Addr) (la ca:Nat) (m:Nat) (w:World) (hla:la=(Dg.dg 4294967296 m).length) (hr:Rd w .u32 (.slice ao la ca) (Dg.dg 4294967296 m)) (hlt:un=true→ ¬pw<L) (cl fl:Int) (hcl:cl=if la=0 then 1 else 2) (hfl:fl=if ex=true then 0 else if un=true then 3 else 1):
  Calls Tryz.prog 88 #[ykV n wy fam R D L G gr,ypV ng (.slice ao la ca) pw ex false un] w (SetRes w cl ng m pw fl):=by
 have HE:Hid (la=(Dg.dg 4294967296 m).length∧cl=(if la=0 then 1 else 2)∧fl=if ex=true then 0 else if un=true then 3 else 1):=⟨hla,hcl,hfl⟩
 clear hcl hfl hla;have a1:=below_alloc w (.cells (ykL n wy fam R D L G gr).toArray 93);have a2:=below_alloc (w.alloc (.cells (ykL n wy fam R D L G gr).toArray 93)) (.cells (ypL ng (.slice ao la ca) pw ex false un).toArray 86);have a3:=below_alloc ((w.alloc (.cells (ykL n wy fam R D L G gr).toArray 93)).alloc (.cells (ypL ng (.slice ao la ca) pw ex false un).toArray 86)) (.cells (yvL 0 false (.slice none 0 0) 0).toArray 73);have d0:=((locE_new w (ykL n wy fam R D L G gr) 93).later a2).later a3;have p0:=(locE_new (w.alloc (.cells (ykL n wy fam R D L G gr).toArray 93)) (ypL ng (.slice ao la ca) pw ex false un) 86).later a3;have v0:=locE_new ((w.alloc (.cells (ykL n wy fam R D L G gr).toArray 93)).alloc (.cells (ypL ng (.slice ao la ca) pw ex false un).toArray 86)) (yvL 0 false (.slice none 0 0) 0) 73;rw[World.size_alloc] at p0;rw[World.size_alloc,World.size_alloc] at v0;have b0:=below_trans (below_trans a1 a2) a3;clear a1 a2 a3
 go_enter Tryz.func88,Tryz.ntmps88
 go_upto_block 0 with fail
 generalize((w.alloc (.cells (ykL n wy fam R D L G gr).toArray 93)).alloc (.cells (ypL ng (.slice ao la ca) pw ex false un).toArray 86)).alloc (.cells (yvL 0 false (.slice none 0 0) 0).toArray 73)=W0 at d0 p0 v0 b0⊢;have r0:=hr.later b0;clear hr;have al:=below_alloc W0 (.cells (yvL 2 ng (.slice ao la ca) pw).toArray 73);have q1:=locE_new W0 (yvL 2 ng (.slice ao la ca) pw) 73;have p1:=p0.later al;have v1:=v0.later al;have r1:=r0.later al;have b1:=below_trans b0 al;have hq:w.heap.size+1+1<W0.heap.size:=v0.lt;have hne:W0.heap.size≠w.heap.size+1:=by omega
 obtain⟨x0,x1,x2,x3,x4,x5⟩:=p0.cs6;have y5:=d0.cell 5 rfl;clear al p0 v0 b0 r0;have go: ∀UU,UU=un→(UU=false∨(UU=true∧ ¬pw<L)):=fun UU h=>by
  subst h
  cases UU
  ·exact .inl rfl
  ·exact .inr ⟨rfl,hlt rfl⟩
 rcases go un rfl with hun| ⟨hun,hl0⟩
 ·subst hun
  clear hlt go
  go_upto_region 6 with fail
  generalize W0.alloc (.cells (yvL 2 ng (.slice ao la ca) pw).toArray 73)=WA at q1 p1 v1 r1 b1⊢;generalize W0.heap.size=Q at q1 hq hne⊢;clear x0 x1 x2 x3 x4 x5 y5 d0;obtain⟨x0,x1,x2,x3,x4,x5⟩:=p1.cs6
  by_cases hz:la=0
  ·have hz1:(((la:Nat):Int)==0)=true:=by rw[hz];rfl
   have hcl:cl=1:=by rw[HE.out.2.1,if_pos hz]
   subst hcl;clear hz;have c0:=q1.cell 0 rfl;have f0:=q1.free 0;have bq:=but_set WA Q 0 (yi 1);have q2:LocE (WA.setCell ⟨Q,0,none⟩ (yi 1)) Q 73 (yvL 1 ng (.slice ao la ca) pw):=q1.set 0 (yi 1);have p2:=bq.loc p1 (by omega);have v2:=bq.loc v1 (by omega);have r2:=bq.rd r1 (rd_offU r1 q1 (by simp));have b2:=bq.below b1 (by omega)
   go_upto_block 1 with fail
   generalize WA.setCell ⟨Q,0,none⟩ (yi 1)=W1 at q2 p2 v2 r2 b2⊢;clear c0 f0 bq q1 p1 v1 r1 b1 x0 x1 x2 x3 x4 x5 hz1;obtain⟨x0,x1,x2,x3,x4,x5⟩:=p2.cs6;clear p2
   cases ex
   ·have hfl:fl=1:=HE.out.2.2
    subst hfl;clear HE;have cR:LocE ((((W1.setCell ⟨w.heap.size+1+1,0,none⟩ (yi 1)).setCell ⟨w.heap.size+1+1,1,none⟩ (.bool ng)).setCell ⟨w.heap.size+1+1,2,none⟩ (.slice ao la ca)).setCell ⟨w.heap.size+1+1,3,none⟩ (yi pw)) (w.heap.size+1+1) 73 (yvL 1 ng (.slice ao la ca) pw):=((((v2.set 0 (yi 1)).set 1 (.bool ng)).set 2 (.slice ao la ca)).set 3 (yi pw));have bu:=(((but_set W1 (w.heap.size+1+1) 0 (yi 1)).trans (but_set _ (w.heap.size+1+1) 1 (.bool ng))).trans (but_set _ (w.heap.size+1+1) 2 (.slice ao la ca))).trans (but_set _ (w.heap.size+1+1) 3 (yi pw));have bR:=bu.below b2 (by omega);have rR:=bu.rd r2 (rd_offU r2 v2 (by simp));have hl:=run_loadVar_mid (P:=Tryz.prog) _ (w.heap.size+1+1) 0 73 (yvL 1 ng (.slice ao la ca) pw) _ cR.range Tryz.underlying73 rfl (by kernel_rfl);have HH:Hid (_∧_∧_):=⟨hl,rR,bR⟩;obtain⟨z0,z1,z2,z3⟩:=v2.cs4;have fz0:=v2.free 0;have fz1:=v2.free 1;have fz2:=v2.free 2;have fz3:=v2.free 3;clear hl bR bu cR rR;obtain⟨k0,k1,k2,k3⟩:=q2.cs4;clear v2 b2 r2 q2
    go_wp2
    obtain⟨hl,rR,bR⟩:=HH.out;exact bodyPost_ret (results_two Tryz.results88 rfl rfl hl) rfl ⟨_,rfl,rR,bR⟩
   ·have hfl:fl=0:=HE.out.2.2
    subst hfl;clear HE;have cR:LocE ((((W1.setCell ⟨w.heap.size+1+1,0,none⟩ (yi 1)).setCell ⟨w.heap.size+1+1,1,none⟩ (.bool ng)).setCell ⟨w.heap.size+1+1,2,none⟩ (.slice ao la ca)).setCell ⟨w.heap.size+1+1,3,none⟩ (yi pw)) (w.heap.size+1+1) 73 (yvL 1 ng (.slice ao la ca) pw):=((((v2.set 0 (yi 1)).set 1 (.bool ng)).set 2 (.slice ao la ca)).set 3 (yi pw));have bu:=(((but_set W1 (w.heap.size+1+1) 0 (yi 1)).trans (but_set _ (w.heap.size+1+1) 1 (.bool ng))).trans (but_set _ (w.heap.size+1+1) 2 (.slice ao la ca))).trans (but_set _ (w.heap.size+1+1) 3 (yi pw));have bR:=bu.below b2 (by omega);have rR:=bu.rd r2 (rd_offU r2 v2 (by simp));have hl:=run_loadVar_mid (P:=Tryz.prog) _ (w.heap.size+1+1) 0 73 (yvL 1 ng (.slice ao la ca) pw) _ cR.range Tryz.underlying73 rfl (by kernel_rfl);have HH:Hid (_∧_∧_):=⟨hl,rR,bR⟩;obtain⟨z0,z1,z2,z3⟩:=v2.cs4;have fz0:=v2.free 0;have fz1:=v2.free 1;have fz2:=v2.free 2;have fz3:=v2.free 3;clear hl bR bu cR rR;obtain⟨k0,k1,k2,k3⟩:=q2.cs4;clear v2 b2 r2 q2
    go_wp2
    obtain⟨hl,rR,bR⟩:=HH.out;exact bodyPost_ret (results_two Tryz.results88 rfl rfl hl) rfl ⟨_,rfl,rR,bR⟩
  ·have hz1:(((la:Nat):Int)==0)=false:=beq_eq_false_iff_ne.2 (by omega)
   have hcl:cl=2:=by rw[HE.out.2.1,if_neg hz]
   subst hcl;clear hz
   go_upto_block 1 with fail
   have q2:=q1;have v2:=v1;have r2:=r1;have b2:=b1;clear q1 v1 r1 b1 p1 hz1;generalize WA=W1 at*
   cases ex
   ·have hfl:fl=1:=HE.out.2.2
    subst hfl;clear HE;have cR:LocE ((((W1.setCell ⟨w.heap.size+1+1,0,none⟩ (yi 2)).setCell ⟨w.heap.size+1+1,1,none⟩ (.bool ng)).setCell ⟨w.heap.size+1+1,2,none⟩ (.slice ao la ca)).setCell ⟨w.heap.size+1+1,3,none⟩ (yi pw)) (w.heap.size+1+1) 73 (yvL 2 ng (.slice ao la ca) pw):=((((v2.set 0 (yi 2)).set 1 (.bool ng)).set 2 (.slice ao la ca)).set 3 (yi pw));have bu:=(((but_set W1 (w.heap.size+1+1) 0 (yi 2)).trans (but_set _ (w.heap.size+1+1) 1 (.bool ng))).trans (but_set _ (w.heap.size+1+1) 2 (.slice ao la ca))).trans (but_set _ (w.heap.size+1+1) 3 (yi pw));have bR:=bu.below b2 (by omega);have rR:=bu.rd r2 (rd_offU r2 v2 (by simp));have hl:=run_loadVar_mid (P:=Tryz.prog) _ (w.heap.size+1+1) 0 73 (yvL 2 ng (.slice ao la ca) pw) _ cR.range Tryz.underlying73 rfl (by kernel_rfl);have HH:Hid (_∧_∧_):=⟨hl,rR,bR⟩;obtain⟨z0,z1,z2,z3⟩:=v2.cs4;have fz0:=v2.free 0;have fz1:=v2.free 1;have fz2:=v2.free 2;have fz3:=v2.free 3;clear hl bR bu cR rR;obtain⟨k0,k1,k2,k3⟩:=q2.cs4;clear v2 b2 r2 q2
    go_wp2
    obtain⟨hl,rR,bR⟩:=HH.out;exact bodyPost_ret (results_two Tryz.results88 rfl rfl hl) rfl ⟨_,rfl,rR,bR⟩
   ·have hfl:fl=0:=HE.out.2.2
    subst hfl;clear HE;have cR:LocE ((((W1.setCell ⟨w.heap.size+1+1,0,none⟩ (yi 2)).setCell ⟨w.heap.size+1+1,1,none⟩ (.bool ng)).setCell ⟨w.heap.size+1+1,2,none⟩ (.slice ao la ca)).setCell ⟨w.heap.size+1+1,3,none⟩ (yi pw)) (w.heap.size+1+1) 73 (yvL 2 ng (.slice ao la ca) pw):=((((v2.set 0 (yi 2)).set 1 (.bool ng)).set 2 (.slice ao la ca)).set 3 (yi pw));have bu:=(((but_set W1 (w.heap.size+1+1) 0 (yi 2)).trans (but_set _ (w.heap.size+1+1) 1 (.bool ng))).trans (but_set _ (w.heap.size+1+1) 2 (.slice ao la ca))).trans (but_set _ (w.heap.size+1+1) 3 (yi pw));have bR:=bu.below b2 (by omega);have rR:=bu.rd r2 (rd_offU r2 v2 (by simp));have hl:=run_loadVar_mid (P:=Tryz.prog) _ (w.heap.size+1+1) 0 73 (yvL 2 ng (.slice ao la ca) pw) _ cR.range Tryz.underlying73 rfl (by kernel_rfl);have HH:Hid (_∧_∧_):=⟨hl,rR,bR⟩;obtain⟨z0,z1,z2,z3⟩:=v2.cs4;have fz0:=v2.free 0;have fz1:=v2.free 1;have fz2:=v2.free 2;have fz3:=v2.free 3;clear hl bR bu cR rR;obtain⟨k0,k1,k2,k3⟩:=q2.cs4;clear v2 b2 r2 q2
    go_wp2
    obtain⟨hl,rR,bR⟩:=HH.out;exact bodyPost_ret (results_two Tryz.results88 rfl rfl hl) rfl ⟨_,rfl,rR,bR⟩
 ·subst hun
  clear hlt go
  go_upto_region 6 with fail
  generalize W0.alloc (.cells (yvL 2 ng (.slice ao la ca) pw).toArray 73)=WA at q1 p1 v1 r1 b1⊢;generalize W0.heap.size=Q at q1 hq hne⊢;clear x0 x1 x2 x3 x4 x5 y5 d0;obtain⟨x0,x1,x2,x3,x4,x5⟩:=p1.cs6
  by_cases hz:la=0
  ·have hz1:(((la:Nat):Int)==0)=true:=by rw[hz];rfl
   have hcl:cl=1:=by rw[HE.out.2.1,if_pos hz]
   subst hcl;clear hz;have c0:=q1.cell 0 rfl;have f0:=q1.free 0;have bq:=but_set WA Q 0 (yi 1);have q2:LocE (WA.setCell ⟨Q,0,none⟩ (yi 1)) Q 73 (yvL 1 ng (.slice ao la ca) pw):=q1.set 0 (yi 1);have p2:=bq.loc p1 (by omega);have v2:=bq.loc v1 (by omega);have r2:=bq.rd r1 (rd_offU r1 q1 (by simp));have b2:=bq.below b1 (by omega)
   go_upto_block 1 with fail
   generalize WA.setCell ⟨Q,0,none⟩ (yi 1)=W1 at q2 p2 v2 r2 b2⊢;clear c0 f0 bq q1 p1 v1 r1 b1 x0 x1 x2 x3 x4 x5 hz1;obtain⟨x0,x1,x2,x3,x4,x5⟩:=p2.cs6;clear p2
   cases ex
   ·have hfl:fl=3:=HE.out.2.2
    subst hfl;clear HE;have cR:LocE ((((W1.setCell ⟨w.heap.size+1+1,0,none⟩ (yi 1)).setCell ⟨w.heap.size+1+1,1,none⟩ (.bool ng)).setCell ⟨w.heap.size+1+1,2,none⟩ (.slice ao la ca)).setCell ⟨w.heap.size+1+1,3,none⟩ (yi pw)) (w.heap.size+1+1) 73 (yvL 1 ng (.slice ao la ca) pw):=((((v2.set 0 (yi 1)).set 1 (.bool ng)).set 2 (.slice ao la ca)).set 3 (yi pw));have bu:=(((but_set W1 (w.heap.size+1+1) 0 (yi 1)).trans (but_set _ (w.heap.size+1+1) 1 (.bool ng))).trans (but_set _ (w.heap.size+1+1) 2 (.slice ao la ca))).trans (but_set _ (w.heap.size+1+1) 3 (yi pw));have bR:=bu.below b2 (by omega);have rR:=bu.rd r2 (rd_offU r2 v2 (by simp));have hl:=run_loadVar_mid (P:=Tryz.prog) _ (w.heap.size+1+1) 0 73 (yvL 1 ng (.slice ao la ca) pw) _ cR.range Tryz.underlying73 rfl (by kernel_rfl);have HH:Hid (_∧_∧_):=⟨hl,rR,bR⟩;obtain⟨z0,z1,z2,z3⟩:=v2.cs4;have fz0:=v2.free 0;have fz1:=v2.free 1;have fz2:=v2.free 2;have fz3:=v2.free 3;clear hl bR bu cR rR;obtain⟨k0,k1,k2,k3⟩:=q2.cs4;clear v2 b2 r2 q2
    go_wp2
    obtain⟨hl,rR,bR⟩:=HH.out;exact bodyPost_ret (results_two Tryz.results88 rfl rfl hl) rfl ⟨_,rfl,rR,bR⟩
   ·have hfl:fl=0:=HE.out.2.2
    subst hfl;clear HE;have cR:LocE ((((W1.setCell ⟨w.heap.size+1+1,0,none⟩ (yi 1)).setCell ⟨w.heap.size+1+1,1,none⟩ (.bool ng)).setCell ⟨w.heap.size+1+1,2,none⟩ (.slice ao la ca)).setCell ⟨w.heap.size+1+1,3,none⟩ (yi pw)) (w.heap.size+1+1) 73 (yvL 1 ng (.slice ao la ca) pw):=((((v2.set 0 (yi 1)).set 1 (.bool ng)).set 2 (.slice ao la ca)).set 3 (yi pw));have bu:=(((but_set W1 (w.heap.size+1+1) 0 (yi 1)).trans (but_set _ (w.heap.size+1+1) 1 (.bool ng))).trans (but_set _ (w.heap.size+1+1) 2 (.slice ao la ca))).trans (but_set _ (w.heap.size+1+1) 3 (yi pw));have bR:=bu.below b2 (by omega);have rR:=bu.rd r2 (rd_offU r2 v2 (by simp));have hl:=run_loadVar_mid (P:=Tryz.prog) _ (w.heap.size+1+1) 0 73 (yvL 1 ng (.slice ao la ca) pw) _ cR.range Tryz.underlying73 rfl (by kernel_rfl);have HH:Hid (_∧_∧_):=⟨hl,rR,bR⟩;obtain⟨z0,z1,z2,z3⟩:=v2.cs4;have fz0:=v2.free 0;have fz1:=v2.free 1;have fz2:=v2.free 2;have fz3:=v2.free 3;clear hl bR bu cR rR;obtain⟨k0,k1,k2,k3⟩:=q2.cs4;clear v2 b2 r2 q2
    go_wp2
    obtain⟨hl,rR,bR⟩:=HH.out;exact bodyPost_ret (results_two Tryz.results88 rfl rfl hl) rfl ⟨_,rfl,rR,bR⟩
  ·have hz1:(((la:Nat):Int)==0)=false:=beq_eq_false_iff_ne.2 (by omega)
   have hcl:cl=2:=by rw[HE.out.2.1,if_neg hz]
   subst hcl;clear hz
   go_upto_block 1 with fail
   have q2:=q1;have v2:=v1;have r2:=r1;have b2:=b1;clear q1 v1 r1 b1 p1 hz1;generalize WA=W1 at*
   cases ex
   ·have hfl:fl=3:=HE.out.2.2
    subst hfl;clear HE;have cR:LocE ((((W1.setCell ⟨w.heap.size+1+1,0,none⟩ (yi 2)).setCell ⟨w.heap.size+1+1,1,none⟩ (.bool ng)).setCell ⟨w.heap.size+1+1,2,none⟩ (.slice ao la ca)).setCell ⟨w.heap.size+1+1,3,none⟩ (yi pw)) (w.heap.size+1+1) 73 (yvL 2 ng (.slice ao la ca) pw):=((((v2.set 0 (yi 2)).set 1 (.bool ng)).set 2 (.slice ao la ca)).set 3 (yi pw));have bu:=(((but_set W1 (w.heap.size+1+1) 0 (yi 2)).trans (but_set _ (w.heap.size+1+1) 1 (.bool ng))).trans (but_set _ (w.heap.size+1+1) 2 (.slice ao la ca))).trans (but_set _ (w.heap.size+1+1) 3 (yi pw));have bR:=bu.below b2 (by omega);have rR:=bu.rd r2 (rd_offU r2 v2 (by simp));have hl:=run_loadVar_mid (P:=Tryz.prog) _ (w.heap.size+1+1) 0 73 (yvL 2 ng (.slice ao la ca) pw) _ cR.range Tryz.underlying73 rfl (by kernel_rfl);have HH:Hid (_∧_∧_):=⟨hl,rR,bR⟩;obtain⟨z0,z1,z2,z3⟩:=v2.cs4;have fz0:=v2.free 0;have fz1:=v2.free 1;have fz2:=v2.free 2;have fz3:=v2.free 3;clear hl bR bu cR rR;obtain⟨k0,k1,k2,k3⟩:=q2.cs4;clear v2 b2 r2 q2
    go_wp2
    obtain⟨hl,rR,bR⟩:=HH.out;exact bodyPost_ret (results_two Tryz.results88 rfl rfl hl) rfl ⟨_,rfl,rR,bR⟩
   ·have hfl:fl=0:=HE.out.2.2
    subst hfl;clear HE;have cR:LocE ((((W1.setCell ⟨w.heap.size+1+1,0,none⟩ (yi 2)).setCell ⟨w.heap.size+1+1,1,none⟩ (.bool ng)).setCell ⟨w.heap.size+1+1,2,none⟩ (.slice ao la ca)).setCell ⟨w.heap.size+1+1,3,none⟩ (yi pw)) (w.heap.size+1+1) 73 (yvL 2 ng (.slice ao la ca) pw):=((((v2.set 0 (yi 2)).set 1 (.bool ng)).set 2 (.slice ao la ca)).set 3 (yi pw));have bu:=(((but_set W1 (w.heap.size+1+1) 0 (yi 2)).trans (but_set _ (w.heap.size+1+1) 1 (.bool ng))).trans (but_set _ (w.heap.size+1+1) 2 (.slice ao la ca))).trans (but_set _ (w.heap.size+1+1) 3 (yi pw));have bR:=bu.below b2 (by omega);have rR:=bu.rd r2 (rd_offU r2 v2 (by simp));have hl:=run_loadVar_mid (P:=Tryz.prog) _ (w.heap.size+1+1) 0 73 (yvL 2 ng (.slice ao la ca) pw) _ cR.range Tryz.underlying73 rfl (by kernel_rfl);have HH:Hid (_∧_∧_):=⟨hl,rR,bR⟩;obtain⟨z0,z1,z2,z3⟩:=v2.cs4;have fz0:=v2.free 0;have fz1:=v2.free 1;have fz2:=v2.free 2;have fz3:=v2.free 3;clear hl bR bu cR rR;obtain⟨k0,k1,k2,k3⟩:=q2.cs4;clear v2 b2 r2 q2
    go_wp2
    obtain⟨hl,rR,bR⟩:=HH.out;exact bodyPost_ret (results_two Tryz.results88 rfl rfl hl) rfl ⟨_,rfl,rR,bR⟩
end Go.Proofs.YtnhackdjplppjaaGreatDoor
namespace Go.Proofs.YtnhackdjplppjaaGreatDoor
open Go.RowKit
def endlessT (s:Bool) (m:Nat) (e:Int) (left:Bool):Trip:=⟨s,m*2+(if left=true then 1 else 0),e-1⟩
set_option maxHeartbeats 1600000 in
theorem endless_any (s:Bool) (v:Value) (m:Nat) (e:Int) (left:Bool) (w:World) (hr:Rd w .u32 v (Dg.dg 4294967296 m)) (hL:(Dg.dg 4294967296 m).length≤500000) (he1: -2000000≤e) (he2:e≤2000000):
  Calls Tryz.prog 179 #[.bool s,v,yi e,.bool left] w (DRes w (endlessT s m e left)):=by
 have HSH:Hid (∀w1,Below w.heap.size w w1→Calls Tryz.prog 177 #[v,yi 1] w1 (Num w1 (m*2))):=fun w1 b1=>by
  have:=shifted_any v _ 1 w1 (hr.later b1) (Dg.small_dg _ _ (by omega)) (by omega) (by omega) (by omega);rw[Dg.vl_dg _ _ (by omega)] at this;exact this
 have hl2:(Dg.dg 4294967296 (m*2)).length≤500001:=by
  have:=up_len m 1 500000 1 hL (by omega)
  rwa [Nat.pow_one] at this
 have HP1:Hid (∀v1 v2 w1,Rd w1 .u32 v1 (Dg.dg 4294967296 (m*2))→Rd w1 .u32 v2 [1]→Calls Tryz.prog 168 #[v1,v2] w1 (Num w1 (m*2+1))):=fun v1 v2 w1 h1 h2=>by
  have:=plus_any v1 v2 _ _ w1 h1 h2 (Dg.small_dg _ _ (by omega)) (Dg.small_cons.2 ⟨by omega,Dg.small_nil _ (by omega)⟩) (by omega) (by simp)
  rwa [Dg.vl_dg _ _ (by omega),show Dg.vl 4294967296 [1]=1 from rfl] at this
 obtain⟨ao,ca,rfl⟩:=hr.shape;obtain⟨l,hl⟩: ∃l,(Dg.dg 4294967296 m).length=l:=⟨_,rfl⟩;rw[hl] at HSH⊢;have bA:=below_alloc w (.cells (ydL false (.slice none 0 0) 0).toArray 96);have l2:=loc_new w (.bool false) (.slice none 0 0) (yi 0) 96;have hew:IntKind.i64.wrap (e-1)=e-1:=IntWalk.i64_in _ ⟨by omega,by omega⟩;unfold endlessT;clear hr hL hl hl2
 cases left
 ·rw[if_neg (by decide),Nat.add_zero]
  go_enter Tryz.func179,Tryz.ntmps179
  go_wp2_with fail
  refine(HSH.out _ bA).mono ?_;rintro z w1 ⟨v1,rfl,o1,b1⟩;have o1:=o1.lower (show w.heap.size+1≤_ by simp[World.size_alloc])
  replace l2:=l2.later b1;replace bA:=below_trans bA b1;obtain⟨so,sc,hvr⟩:=o1.rd.shape;subst hvr;clear b1
  go_wp2_with fail
  refine(new_any s so (Dg.dg 4294967296 (m*2)).length sc (e-1) _).mono ?_;rintro z w8 ⟨rfl,b8⟩;replace l2:=l2.later b8;replace bA:=below_trans bA b8;replace o1:=o1.later b8;clear b8;obtain⟨hl2,⟨d0,d1,d2⟩,f0,f1,f2⟩:=id l2;obtain⟨-,⟨g0,g1,g2⟩,-⟩:=loc_set l2 (.bool s) (.slice so (Dg.dg 4294967296 (m*2)).length sc) (yi (e-1));have o7:=o1.apart3 (b:=w.heap.size) (by omega) (.bool s) (.slice so (Dg.dg 4294967296 (m*2)).length sc) (yi (e-1));have b9:=below_set3 bA (Nat.le_refl _) (.bool s) (.slice so (Dg.dg 4294967296 (m*2)).length sc) (yi (e-1))
  go_wp2
  refine bodyPost_ret (v:=(ydV s (.slice so (Dg.dg 4294967296 (m*2)).length sc) (e-1))) (by simp[results,Tryz.results179,go_sem,g0,g1,g2]) rfl ?_;exact⟨_,rfl,o7.lower (by omega),b9⟩
 ·rw[if_pos rfl]
  go_enter Tryz.func179,Tryz.ntmps179
  go_wp2_with fail
  refine(HSH.out _ bA).mono ?_;rintro z w1 ⟨v1,rfl,o1,b1⟩;replace l2:=l2.later b1;replace bA:=below_trans bA b1;have b7:=below_alloc w1 (.cells #[.int .u32 ((1:Nat):Int)] 141);have rn:=rd_new (w:=w1) (k:= .u32) (e:=141) [1] #[.int .u32 ((1:Nat):Int)] rfl (by unfold maxLen;simp);have hpl:=HP1.out _ _ _ (o1.rd.later b7) rn;replace l2:=l2.later b7;replace bA:=below_trans bA b7;have hsz:=l2.1;clear b1 b7 rn o1
  go_wp2_with fail
  refine hpl.mono ?_;rintro z w3 ⟨v3,rfl,o1,b3⟩;have o1:=o1.lower (show w.heap.size+1≤_ from hsz)
  replace l2:=l2.later b3;replace bA:=below_trans bA b3;obtain⟨so,sc,hvr⟩:=o1.rd.shape;subst hvr;clear b3 hpl
  go_wp2_with fail
  refine(new_any s so (Dg.dg 4294967296 (m*2+1)).length sc (e-1) _).mono ?_;rintro z w8 ⟨rfl,b8⟩;replace l2:=l2.later b8;replace bA:=below_trans bA b8;replace o1:=o1.later b8;clear b8;obtain⟨hl2,⟨d0,d1,d2⟩,f0,f1,f2⟩:=id l2;obtain⟨-,⟨g0,g1,g2⟩,-⟩:=loc_set l2 (.bool s) (.slice so (Dg.dg 4294967296 (m*2+1)).length sc) (yi (e-1));have o7:=o1.apart3 (b:=w.heap.size) (by omega) (.bool s) (.slice so (Dg.dg 4294967296 (m*2+1)).length sc) (yi (e-1));have b9:=below_set3 bA (Nat.le_refl _) (.bool s) (.slice so (Dg.dg 4294967296 (m*2+1)).length sc) (yi (e-1))
  go_wp2
  refine bodyPost_ret (v:=(ydV s (.slice so (Dg.dg 4294967296 (m*2+1)).length sc) (e-1))) (by simp[results,Tryz.results179,go_sem,g0,g1,g2]) rfl ?_;exact⟨_,rfl,o7.lower (by omega),b9⟩
end Go.Proofs.YtnhackdjplppjaaGreatDoor

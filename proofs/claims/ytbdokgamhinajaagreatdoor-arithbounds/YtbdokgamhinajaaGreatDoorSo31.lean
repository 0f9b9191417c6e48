/-
  Texts laid together: Gb7, Gb8.
-/
import Derived.Test.YtbdokgamhinajaaGreatDoorSo30
set_option maxRecDepth 100000
set_option maxHeartbeats 3200000
namespace Go.Proofs.YtbdokgamhinajaaGreatDoor
open _root_.Go.Proofs.Tryz
open Go.RowKit
theorem UY (n wy R D L G:Int)(gr:Bool)(ng:Bool)(w:World):
  yC 95 #[ykV n wy 1 R D L G gr,.bool ng] w (dU w 3 ng ⟨false,0,0⟩ 8):=by
 obtain⟨W4,hW5,q1,q2,b3⟩:=iG w (ykL n wy 1 R D L G gr) 69 (yoL 0 false false yN 0) 76;replace hW5:Hid _:=hW5
 go_enter func95,ntmps95
 go_upto_region 1 with fail
 rw[hW5.out];clear hW5;have c6:=q1.c 2 rfl;have hf:=dL (P:=Tryz.prog) q2 b3 (by omega) underlying76 rfl (by kernel_rfl) (yi 3) (.bool ng) (.bool false) yN (yi 0);have HH:Hid (_∧_):=⟨hf.1,hf.2.1⟩;obtain⟨⟨z0,z1,z2,z3,z4⟩,y0,y1,y2,y3,y4⟩:=dN q2;clear hf q1 q2 b3
 go_wp2
 obtain⟨hl,bR⟩:=HH.out;exact bodyPost_ret (aj results95 rfl rfl hl) rfl ⟨_,rfl,aN _ _,bR⟩
theorem UZ (c:Int)(n wy R D L G:Int)(gr:Bool)(ng:Bool)(w:World)
  (HN:yJ 59 #[ykV n wy 3 R D L G gr,yi 8] (.tuple #[yoV c false false yN 0,yi 8])):
  yC 95 #[ykV n wy 3 R D L G gr,.bool ng] w (dU w c false ⟨false,0,0⟩ 8):=by
 replace HN:Hid _:=HN;obtain⟨W4,hW5,q1,q2,b3⟩:=iG w (ykL n wy 3 R D L G gr) 69 (yoL 0 false false yN 0) 76;replace hW5:Hid _:=hW5
 go_enter func95,ntmps95
 go_upto_region 1 with fail
 rw[hW5.out];clear hW5;obtain⟨c6,c7,c8,c9,c10,c11,c12,c13⟩:=q1.cs8
 go_wp2_with fail
 refine(HN.out _).mono ?_;rintro zz w14 ⟨rfl,bb15⟩;have q16:=q2.l bb15;have b17:=aa b3 bb15;clear q1 q2 b3 bb15 HN c6 c7 c8 c9 c10 c11 c12 c13;have hf:=dL (P:=Tryz.prog) q16 b17 (by omega) underlying76 rfl (by kernel_rfl) (yi c) (.bool false) (.bool false) yN (yi 0);have HH:Hid (_∧_):=⟨hf.1,hf.2.1⟩;obtain⟨⟨z0,z1,z2,z3,z4⟩,y0,y1,y2,y3,y4⟩:=dN q16;clear hf q16 b17
 go_wp2
 obtain⟨hl,bR⟩:=HH.out;exact bodyPost_ret (aj results95 rfl rfl hl) rfl ⟨_,rfl,aN _ _,bR⟩
theorem U0 (c:Int)(g:Bool)(m:Nat)(x t:ak)(n wy R D L G:Int)(gr:Bool)(ng:Bool)(w:World)
  (HG: ∀w1,yB w w1→yC 136 #[ykV n wy 2 R D L G gr,.bool ng] w1 (iT w1 2 ng m G))
  (HU: ∀mo mc w1,yB w w1→Rd w1 .u32 (yT mo m mc) (Dg.dg 4294967296 m)→yC 137 #[yvV 2 ng (yT mo m mc) G,ygV R D L G gr] w1 fun z w'=> ∃v,z= .returned (ydV x.s v x.e)∧Rd w' .u32 v (Dg.dg 4294967296 x.n)∧yB w1 w')
  (HO: ∀xo xc w1,yC 98 #[yDV x xo xc] w1 (yR w1 (yDV x xo xc)))
  (HM: ∀xo xc w1,Rd w1 .u32 (yT xo x.n xc) (Dg.dg 4294967296 x.n)→yC 61 #[yDV x xo xc,.bool ng] w1 (xj w1 c g t)):
  yC 95 #[ykV n wy 2 R D L G gr,.bool ng] w (dU w c g t 8):=by
 replace HG:Hid _:=HG;replace HU:Hid _:=HU;replace HO:Hid _:=HO;replace HM:Hid _:=HM;obtain⟨W4,hW5,q1,q2,b3⟩:=iG w (ykL n wy 2 R D L G gr) 69 (yoL 0 false false yN 0) 76;replace hW5:Hid _:=hW5
 go_enter func95,ntmps95
 go_upto_region 1 with fail
 rw[hW5.out];clear hW5;have c6:=q1.c 2 rfl
 go_upto_region 5 with fail
 clear c6;have bW7:yB W4 W4.drew:=(Below.refl _ _).drew;have q8:=q1.l bW7;have q9:=q2.l bW7;have b10:=aa b3 bW7;clear q1 q2 b3 bW7;refine wp_region_held_drew (S:=fun wq=>au wq w.heap.size 69 (ykL n wy 2 R D L G gr)) (by kernel_rfl) q8 (fun hS0=> ?_)
 generalize W4.drew=WD11 at q8 q9 b10 hS0⊢;refine tq 0 (ykV n wy 2 R D L G gr) rfl (fun _ hw0=>fy 69 (.tmp 2) rfl w.heap.size 0 (by kernel_rfl) _ _ hw0.range underlying69 rfl (by kernel_rfl)) hS0 ?_
 refine tq 1 (.bool ng) rfl (fun _ _=>by kernel_rfl) hS0 ?_
 refine tq 3 (.pointer (some ⟨w.heap.size,3,none⟩)) rfl (fun _ _=>by kernel_rfl) hS0 ?_
 refine tq 4 (ygV R D L G gr) rfl (fun _ hw0=>fy 48 (.tmp 17) rfl w.heap.size 3 (by kernel_rfl) _ _ (kY hw0 3 5 rfl) underlying48 rfl (by kernel_rfl)) hS0 ?_
 refine tq 7 (.bool ng) rfl (fun _ _=>by kernel_rfl) hS0 ?_
 refine wpAnyH_ready (rs:=[2]) (by kernel_rfl) (by simp) ?_;refine AllReadyH.cons rfl (fun K hK=> ?_) AllReadyH.nil
 go_simp
 refine(HG.out _ b10).mono ?_;rintro zz w12 ⟨v114,rfl,r115,bb13⟩;have q16:=q8.l bb13;have q17:=q9.l bb13;have b18:=aa b10 bb13;obtain⟨mo,mc,hv⟩:=r115.shape;subst hv;clear q8 q9 b10 bb13 HG;refine hK.out _ _ q16 (fun hS19=> ?_)
 clear hK K;refine wpAnyH_ready (rs:=[5]) (by kernel_rfl) (by simp) ?_;refine AllReadyH.cons rfl (fun K hK=> ?_) AllReadyH.nil
 go_simp
 refine(HU.out _ _ _ b18 r115).mono ?_;rintro zz w20 ⟨v122,rfl,r123,bb21⟩;have q24:=q16.l bb21;have q25:=q17.l bb21;have r26:=r115.l bb21;have b27:=aa b18 bb21;obtain⟨xo,xc,hv⟩:=r123.shape;subst hv;clear q16 q17 r115 b18 bb21 HU;refine hK.out _ _ q24 (fun hS28=> ?_)
 clear hK K;refine wpAnyH_ready (rs:=[6]) (by kernel_rfl) (by simp) ?_;refine AllReadyH.cons rfl (fun K hK=> ?_) AllReadyH.nil
 go_simp
 refine(HO.out _ _ _).mono ?_;rintro zz w29 ⟨rfl,bb30⟩;have q31:=q24.l bb30;have q32:=q25.l bb30;have r33:=r26.l bb30;have r34:=r123.l bb30;have b35:=aa b27 bb30;clear q24 q25 r26 r123 b27 bb30 HO;refine hK.out _ _ q31 (fun hS36=> ?_)
 clear hK K;refine wpAnyH_ready (rs:=[8]) (by kernel_rfl) (by simp) ?_;refine AllReadyH.cons rfl (fun K hK=> ?_) AllReadyH.nil
 go_simp
 refine(HM.out _ _ _ r34).mono ?_;rintro zz w37 ⟨v139,rfl,r140,bb38⟩;have q41:=q31.l bb38;have q42:=q32.l bb38;have r43:=r33.l bb38;have r44:=r34.l bb38;have b45:=aa b35 bb38;obtain⟨so,sc,hv⟩:=r140.shape;subst hv;clear q31 q32 r33 r34 b35 bb38 HM;refine hK.out _ _ q41 (fun hS46=> ?_)
 clear hK K;refine wpAnyH_ready (rs:=[9]) (by kernel_rfl) (by simp) ?_;refine AllReadyH.cons rfl (fun K hK=> ?_) AllReadyH.nil
 have bu:But (w.heap.size+1) w37 (w37.setCells (w.heap.size+1) 0 (yOL c g t so sc)):=de _ _ _ _;have hth:w37.there (w.heap.size+1) 0 5:=dD q42;have q47:au (w37.setCells (w.heap.size+1) 0 (yOL c g t so sc)) (w.heap.size+1) 76 (yOL c g t so sc):=q42.sets _ rfl;have r48:=bu.rd r43 (aX r43 q42 (by simp));have r49:=bu.rd r44 (aX r44 q42 (by simp));have r50:=bu.rd r140 (aX r140 q42 (by simp));have q51:=bu.loc q41 (by omega);have b52:=bu.below b45 (by omega);rw[if_pos (by kernel_rfl)];refine wp_store_mid 76 (.tmp 4) (.tmp 22) rfl (w.heap.size+1) 0 (yOA c g t so sc) (by kernel_rfl) (by kernel_rfl) hth (by kernel_rfl) (by simp[Value.oneCell']) ?_;refine hK.out _ _ q51 (fun hS53=> ?_)
 clear hK K;clear q42 r43 r44 r140 q41 b45 bu hth;refine tq 10 (yi 8) rfl (fun _ _=>by kernel_rfl) hS53 ?_
 refine wpAnyH_done (by kernel_rfl) ?_ _;clear hS0 hS19 hS28 hS36 hS46 hS53;change Exit.then _ _ _ _ (World.setCells w37 (w.heap.size+1) 0 (yOL c g t so sc));generalize World.setCells w37 (w.heap.size+1) 0 (yOL c g t so sc)=W54 at q51 q47 r48 r49 r50 b52⊢;simp only[Act.put,List.getElem_toArray,List.getElem_cons_succ,List.getElem_cons_zero,List.setIfInBounds_toArray,List.set_cons_zero,List.set_cons_succ];have hl:=run_loadVar_mid (P:=Tryz.prog) _ (w.heap.size+1) 0 76 (yOL c g t so sc) _ q47.range underlying76 rfl (by kernel_rfl)
 go_wp2
 exact bodyPost_ret (aj results95 rfl rfl hl) rfl ⟨_,rfl,r50,b52⟩
theorem adb (cx cy c fl:Int)(gg:Bool)(t:ak)(n wy fam R D L G:Int)(gr:Bool)(gx gy:Bool)(x y:ak)(xo yo:Option Addr)(xc yc:Nat)(g cap:Nat)(w:World)(h0:w.rangeAt g 0 (yOL cx gx x xo xc))(h1:w.rangeAt g 5 (yOL cy gy y yo yc))
  (HS: ∀w1,yB w w1→yC 41 #[ykV n wy fam R D L G gr,yOV cx gx x xo xc,yOV cy gy y yo yc] w1 (dU w1 c gg t fl)):
  yC 52 #[ykV n wy fam R D L G gr,.slice (some ⟨g,0,none⟩) 2 cap] w (dU w c gg t fl):=by
 replace HS:Hid _:=HS;have hgl:g<w.heap.size:=World.block_lt_of_cell? w _ (h0 0 _ rfl);obtain⟨W4,hW5,q1,q2,b3⟩:=iG w (ykL n wy fam R D L G gr) 69 (yoL 0 false false yN 0) 76;replace hW5:Hid _:=hW5;have q6:=aC h0 b3;have q7:=aC h1 b3;clear h0 h1
 go_enter func52,ntmps52
 go_upto_region 1 with fail
 rw[hW5.out];clear hW5
 go_upto_region 1 with fail
 have bW8:yB W4 W4.drew:=(Below.refl _ _).drew;have q9:=aC q6 bW8;have q10:=aC q7 bW8;have q11:=q1.l bW8;have q12:=q2.l bW8;have b13:=aa b3 bW8;clear q6 q7 q1 q2 b3 bW8;refine wp_region_held_drew (S:=fun wq=>wq.rangeAt g 0 (yOL cx gx x xo xc)∧wq.rangeAt g 5 (yOL cy gy y yo yc)∧au wq w.heap.size 69 (ykL n wy fam R D L G gr)) (by kernel_rfl) ⟨q9,q10,q11⟩ (fun hS0=> ?_)
 generalize W4.drew=WD14 at q9 q10 q11 q12 b13 hS0⊢;refine tq 0 (ykV n wy fam R D L G gr) rfl (fun _ hw0=>fy 69 (.tmp 2) rfl w.heap.size 0 (by kernel_rfl) _ _ hw0.2.2.range underlying69 rfl (by kernel_rfl)) hS0 ?_
 refine tq 1 (.slice (some ⟨g,0,none⟩) 2 cap) rfl (fun _ _=>by kernel_rfl) hS0 ?_
 refine tq 2 (.pointer (some ⟨g,0,none⟩)) rfl (fun _ _=>by kernel_rfl) hS0 ?_
 refine tq 3 (yOV cx gx x xo xc) rfl (fun _ hw0=>fy 76 (.tmp 8) rfl g 0 (by kernel_rfl) _ _ hw0.1 underlying76 rfl (by kernel_rfl)) hS0 ?_
 refine tq 4 (.slice (some ⟨g,0,none⟩) 2 cap) rfl (fun _ _=>by kernel_rfl) hS0 ?_
 refine tq 5 (.pointer (some ⟨g,5,none⟩)) rfl (fun _ _=>by kernel_rfl) hS0 ?_
 refine tq 6 (yOV cy gy y yo yc) rfl (fun _ hw0=>fy 76 (.tmp 11) rfl g 5 (by kernel_rfl) _ _ hw0.2.1 underlying76 rfl (by kernel_rfl)) hS0 ?_
 refine wpAnyH_ready (rs:=[7]) (by kernel_rfl) (by simp) ?_;refine AllReadyH.cons rfl (fun K hK=> ?_) AllReadyH.nil
 go_simp
 refine(HS.out _ b13).mono ?_;rintro zz w15 ⟨v117,rfl,r118,bb16⟩;have q19:=aC q9 bb16;have q20:=aC q10 bb16;have q21:=q11.l bb16;have q22:=q12.l bb16;have b23:=aa b13 bb16;obtain⟨so,sc,hv⟩:=r118.shape;subst hv;clear q9 q10 q11 q12 b13 bb16 HS;refine hK.out _ _ ⟨q19,q20,q21⟩ (fun hS24=> ?_)
 clear hK K;refine tq 8 (yOV c gg t so sc) rfl (fun _ _=>by go_simp) hS24 ?_
 refine tq 9 (yi fl) rfl (fun _ _=>by go_simp) hS24 ?_
 refine wpAnyH_ready (rs:=[10]) (by kernel_rfl) (by simp) ?_;refine AllReadyH.cons rfl (fun K hK=> ?_) AllReadyH.nil
 have bu:But (w.heap.size+1) w15 (w15.setCells (w.heap.size+1) 0 (yOL c gg t so sc)):=de _ _ _ _;have hth:w15.there (w.heap.size+1) 0 5:=dD q22;have q25:au (w15.setCells (w.heap.size+1) 0 (yOL c gg t so sc)) (w.heap.size+1) 76 (yOL c gg t so sc):=q22.sets _ rfl;have r26:=bu.rd r118 (aX r118 q22 (by simp));have q27:=dZ bu q19 (by omega);have q28:=dZ bu q20 (by omega);have q29:=bu.loc q21 (by omega);have b30:=bu.below b23 (by omega);rw[if_pos (by kernel_rfl)];refine wp_store_mid 76 (.tmp 4) (.tmp 14) rfl (w.heap.size+1) 0 (yOA c gg t so sc) (by kernel_rfl) (by kernel_rfl) hth (by kernel_rfl) (by simp[Value.oneCell']) ?_;refine hK.out _ _ ⟨q27,q28,q29⟩ (fun hS31=> ?_)
 clear hK K;clear q22 r118 q19 q20 q21 b23 bu hth;refine tq 11 (yi fl) rfl (fun _ _=>by kernel_rfl) hS31 ?_
 refine wpAnyH_done (by kernel_rfl) ?_ _;clear hS0 hS24 hS31;change Exit.then _ _ _ _ (World.setCells w15 (w.heap.size+1) 0 (yOL c gg t so sc));generalize World.setCells w15 (w.heap.size+1) 0 (yOL c gg t so sc)=W32 at q27 q28 q29 q25 r26 b30⊢;simp only[Act.put,List.getElem_toArray,List.getElem_cons_succ,List.getElem_cons_zero,List.setIfInBounds_toArray,List.set_cons_zero,List.set_cons_succ];have hl:=run_loadVar_mid (P:=Tryz.prog) _ (w.heap.size+1) 0 76 (yOL c gg t so sc) _ q25.range underlying76 rfl (by kernel_rfl)
 go_wp2
 exact bodyPost_ret (aj results52 rfl rfl hl) rfl ⟨_,rfl,r26,b30⟩
theorem adc (cx cy c fl:Int)(gg:Bool)(t:ak)(n wy fam R D L G:Int)(gr:Bool)(gx gy:Bool)(x y:ak)(xo yo:Option Addr)(xc yc:Nat)(g cap:Nat)(w:World)(h0:w.rangeAt g 0 (yOL cx gx x xo xc))(h1:w.rangeAt g 5 (yOL cy gy y yo yc))
  (HS: ∀w1,yB w w1→yC 54 #[ykV n wy fam R D L G gr,yOV cx gx x xo xc,yOV cy gy y yo yc] w1 (dU w1 c gg t fl)):
  yC 53 #[ykV n wy fam R D L G gr,.slice (some ⟨g,0,none⟩) 2 cap] w (dU w c gg t fl):=by
 replace HS:Hid _:=HS;have hgl:g<w.heap.size:=World.block_lt_of_cell? w _ (h0 0 _ rfl);obtain⟨W4,hW5,q1,q2,b3⟩:=iG w (ykL n wy fam R D L G gr) 69 (yoL 0 false false yN 0) 76;replace hW5:Hid _:=hW5;have q6:=aC h0 b3;have q7:=aC h1 b3;clear h0 h1
 go_enter func53,ntmps53
 go_upto_region 1 with fail
 rw[hW5.out];clear hW5
 go_upto_region 1 with fail
 have bW8:yB W4 W4.drew:=(Below.refl _ _).drew;have q9:=aC q6 bW8;have q10:=aC q7 bW8;have q11:=q1.l bW8;have q12:=q2.l bW8;have b13:=aa b3 bW8;clear q6 q7 q1 q2 b3 bW8;refine wp_region_held_drew (S:=fun wq=>wq.rangeAt g 0 (yOL cx gx x xo xc)∧wq.rangeAt g 5 (yOL cy gy y yo yc)∧au wq w.heap.size 69 (ykL n wy fam R D L G gr)) (by kernel_rfl) ⟨q9,q10,q11⟩ (fun hS0=> ?_)
 generalize W4.drew=WD14 at q9 q10 q11 q12 b13 hS0⊢;refine tq 0 (ykV n wy fam R D L G gr) rfl (fun _ hw0=>fy 69 (.tmp 2) rfl w.heap.size 0 (by kernel_rfl) _ _ hw0.2.2.range underlying69 rfl (by kernel_rfl)) hS0 ?_
 refine tq 1 (.slice (some ⟨g,0,none⟩) 2 cap) rfl (fun _ _=>by kernel_rfl) hS0 ?_
 refine tq 2 (.pointer (some ⟨g,0,none⟩)) rfl (fun _ _=>by kernel_rfl) hS0 ?_
 refine tq 3 (yOV cx gx x xo xc) rfl (fun _ hw0=>fy 76 (.tmp 8) rfl g 0 (by kernel_rfl) _ _ hw0.1 underlying76 rfl (by kernel_rfl)) hS0 ?_
 refine tq 4 (.slice (some ⟨g,0,none⟩) 2 cap) rfl (fun _ _=>by kernel_rfl) hS0 ?_
 refine tq 5 (.pointer (some ⟨g,5,none⟩)) rfl (fun _ _=>by kernel_rfl) hS0 ?_
 refine tq 6 (yOV cy gy y yo yc) rfl (fun _ hw0=>fy 76 (.tmp 11) rfl g 5 (by kernel_rfl) _ _ hw0.2.1 underlying76 rfl (by kernel_rfl)) hS0 ?_
 refine wpAnyH_ready (rs:=[7]) (by kernel_rfl) (by simp) ?_;refine AllReadyH.cons rfl (fun K hK=> ?_) AllReadyH.nil
 go_simp
 refine(HS.out _ b13).mono ?_;rintro zz w15 ⟨v117,rfl,r118,bb16⟩;have q19:=aC q9 bb16;have q20:=aC q10 bb16;have q21:=q11.l bb16;have q22:=q12.l bb16;have b23:=aa b13 bb16;obtain⟨so,sc,hv⟩:=r118.shape;subst hv;clear q9 q10 q11 q12 b13 bb16 HS;refine hK.out _ _ ⟨q19,q20,q21⟩ (fun hS24=> ?_)
 clear hK K;refine tq 8 (yOV c gg t so sc) rfl (fun _ _=>by go_simp) hS24 ?_
 refine tq 9 (yi fl) rfl (fun _ _=>by go_simp) hS24 ?_
 refine wpAnyH_ready (rs:=[10]) (by kernel_rfl) (by simp) ?_;refine AllReadyH.cons rfl (fun K hK=> ?_) AllReadyH.nil
 have bu:But (w.heap.size+1) w15 (w15.setCells (w.heap.size+1) 0 (yOL c gg t so sc)):=de _ _ _ _;have hth:w15.there (w.heap.size+1) 0 5:=dD q22;have q25:au (w15.setCells (w.heap.size+1) 0 (yOL c gg t so sc)) (w.heap.size+1) 76 (yOL c gg t so sc):=q22.sets _ rfl;have r26:=bu.rd r118 (aX r118 q22 (by simp));have q27:=dZ bu q19 (by omega);have q28:=dZ bu q20 (by omega);have q29:=bu.loc q21 (by omega);have b30:=bu.below b23 (by omega);rw[if_pos (by kernel_rfl)];refine wp_store_mid 76 (.tmp 4) (.tmp 14) rfl (w.heap.size+1) 0 (yOA c gg t so sc) (by kernel_rfl) (by kernel_rfl) hth (by kernel_rfl) (by simp[Value.oneCell']) ?_;refine hK.out _ _ ⟨q27,q28,q29⟩ (fun hS31=> ?_)
 clear hK K;clear q22 r118 q19 q20 q21 b23 bu hth;refine tq 11 (yi fl) rfl (fun _ _=>by kernel_rfl) hS31 ?_
 refine wpAnyH_done (by kernel_rfl) ?_ _;clear hS0 hS24 hS31;change Exit.then _ _ _ _ (World.setCells w15 (w.heap.size+1) 0 (yOL c gg t so sc));generalize World.setCells w15 (w.heap.size+1) 0 (yOL c gg t so sc)=W32 at q27 q28 q29 q25 r26 b30⊢;simp only[Act.put,List.getElem_toArray,List.getElem_cons_succ,List.getElem_cons_zero,List.setIfInBounds_toArray,List.set_cons_zero,List.set_cons_succ];have hl:=run_loadVar_mid (P:=Tryz.prog) _ (w.heap.size+1) 0 76 (yOL c gg t so sc) _ q25.range underlying76 rfl (by kernel_rfl)
 go_wp2
 exact bodyPost_ret (aj results53 rfl rfl hl) rfl ⟨_,rfl,r26,b30⟩
theorem aeR (n way f1 e1:Int)(a b st:ByteArray)(w:World)
  (HR: ∀pb w1,yB w w1→au w1 pb 9 [.string a,.string b]→yC 29 #[yi n,yi way,.func (.func 52) #[] #[],.slice (some ⟨pb,0,none⟩) 2 2] w1 (yR w1 (.tuple #[.string st,yi f1,yi e1]))):
  yC 26 #[yi n,.string a,.string b,yi way] w (yR w (.tuple #[.string st,yi f1,yi e1])):=by
 replace HR:Hid _:=HR
 go_enter func26,ntmps26
 have b0:=Below.refl w.heap.size w;have al1:=af w (.cells #[.string a,.string b] 9);have q2:=ah w [.string a,.string b] 9;have b3:=aa b0 al1
 go_wp2_with fail
 refine(HR.out _ _ b3 q2).mono ?_;rintro zz w4 ⟨rfl,bb5⟩;have b6:=aa b3 bb5;clear q2 b3 bb5 b0 al1
 go_wp2
 go_ret3
 exact⟨rfl,b6⟩
theorem aeS (n way f1 e1:Int)(a b st:ByteArray)(w:World)
  (HR: ∀pb w1,yB w w1→au w1 pb 9 [.string a,.string b]→yC 29 #[yi n,yi way,.func (.func 53) #[] #[],.slice (some ⟨pb,0,none⟩) 2 2] w1 (yR w1 (.tuple #[.string st,yi f1,yi e1]))):
  yC 27 #[yi n,.string a,.string b,yi way] w (yR w (.tuple #[.string st,yi f1,yi e1])):=by
 replace HR:Hid _:=HR
 go_enter func27,ntmps27
 have b0:=Below.refl w.heap.size w;have al1:=af w (.cells #[.string a,.string b] 9);have q2:=ah w [.string a,.string b] 9;have b3:=aa b0 al1
 go_wp2_with fail
 refine(HR.out _ _ b3 q2).mono ?_;rintro zz w4 ⟨rfl,bb5⟩;have b6:=aa b3 bb5;clear q2 b3 bb5 b0 al1
 go_wp2
 go_ret3
 exact⟨rfl,b6⟩
theorem VF (n wy fam R D L G:Int)(gr:Bool)(x:ak)(xo:Option Addr)(xc:Nat)(fl f1 e1:Int)(st:ByteArray)(w:World)
  (HE:yH w 45 #[ykV n wy fam R D L G gr,yvV 1 false yN 0,yi fl] (.tuple #[.string st,yi f1,yi e1])):
  yC 58 #[ykV n wy fam R D L G gr,yOV 1 false x xo xc,yi fl] w (yR w (.tuple #[.string st,yi f1,yi e1])):=by
 replace HE:Hid _:=HE;obtain⟨W4,hW5,q1,q2,b3⟩:=iG w (ykL n wy fam R D L G gr) 69 (yOL 1 false x xo xc) 76;replace hW5:Hid _:=hW5
 go_enter func58,ntmps58
 go_upto_region 1 with fail
 rw[hW5.out];clear hW5;obtain⟨c6,c7,c8,c9,c10,c11,c12,c13⟩:=q1.cs8;have c14:=q2.c 0 rfl;have c15:=q2.c 1 rfl
 go_wp2_with fail
 refine(HE.out _ b3).mono ?_;rintro zz w16 ⟨rfl,bb17⟩;have b18:=aa b3 bb17;clear q1 q2 b3 bb17 HE c6 c7 c8 c9 c10 c11 c12 c13 c14 c15
 go_wp2
 go_ret3
 exact⟨rfl,b18⟩
theorem VG (n wy R D L G:Int)(gr:Bool)(x:ak)(xo:Option Addr)(xc:Nat)(fl f1 e1:Int)(st:ByteArray)(w:World)
  (HE:yH w 45 #[ykV n wy 1 R D L G gr,yvV 1 true yN 0,yi fl] (.tuple #[.string st,yi f1,yi e1])):
  yC 58 #[ykV n wy 1 R D L G gr,yOV 1 true x xo xc,yi fl] w (yR w (.tuple #[.string st,yi f1,yi e1])):=by
 replace HE:Hid _:=HE;obtain⟨W4,hW5,q1,q2,b3⟩:=iG w (ykL n wy 1 R D L G gr) 69 (yOL 1 true x xo xc) 76;replace hW5:Hid _:=hW5
 go_enter func58,ntmps58
 go_upto_region 1 with fail
 rw[hW5.out];clear hW5;obtain⟨c6,c7,c8,c9,c10,c11,c12,c13⟩:=q1.cs8;have c14:=q2.c 0 rfl;have c15:=q2.c 1 rfl
 go_wp2_with fail
 refine(HE.out _ b3).mono ?_;rintro zz w16 ⟨rfl,bb17⟩;have b18:=aa b3 bb17;clear q1 q2 b3 bb17 HE c6 c7 c8 c9 c10 c11 c12 c13 c14 c15
 go_wp2
 go_ret3
 exact⟨rfl,b18⟩
theorem VH (n wy fam R D L G:Int)(gr:Bool)(x:ak)(xo:Option Addr)(xc:Nat)(fl f1 e1:Int)(st:ByteArray)(w:World)(hf:(fam==1)=false)
  (HE:yH w 45 #[ykV n wy fam R D L G gr,yvV 1 false yN 0,yi fl] (.tuple #[.string st,yi f1,yi e1])):
  yC 58 #[ykV n wy fam R D L G gr,yOV 1 true x xo xc,yi fl] w (yR w (.tuple #[.string st,yi f1,yi e1])):=by
 replace HE:Hid _:=HE;obtain⟨W4,hW5,q1,q2,b3⟩:=iG w (ykL n wy fam R D L G gr) 69 (yOL 1 true x xo xc) 76;replace hW5:Hid _:=hW5
 go_enter func58,ntmps58
 go_upto_region 1 with fail
 rw[hW5.out];clear hW5;obtain⟨c6,c7,c8,c9,c10,c11,c12,c13⟩:=q1.cs8;have c14:=q2.c 0 rfl;have c15:=q2.c 1 rfl
 go_wp2_with fail
 refine(HE.out _ b3).mono ?_;rintro zz w16 ⟨rfl,bb17⟩;have b18:=aa b3 bb17;clear q1 q2 b3 bb17 HE c6 c7 c8 c9 c10 c11 c12 c13 c14 c15
 go_wp2
 go_ret3
 exact⟨rfl,b18⟩
theorem Rj (c:Int)(g:Bool)(n wy fam R D L G:Int)(gr:Bool)(x:ak)(xo:Option Addr)(xc:Nat)(fl f1 e1:Int)(st:ByteArray)(w:World)(h2:(c==2)=false)(h1:(c==1)=false)
  (HE:yH w 45 #[ykV n wy fam R D L G gr,yvV c g yN 0,yi fl] (.tuple #[.string st,yi f1,yi e1])):
  yC 58 #[ykV n wy fam R D L G gr,yOV c g x xo xc,yi fl] w (yR w (.tuple #[.string st,yi f1,yi e1])):=by
 replace HE:Hid _:=HE;obtain⟨W4,hW5,q1,q2,b3⟩:=iG w (ykL n wy fam R D L G gr) 69 (yOL c g x xo xc) 76;replace hW5:Hid _:=hW5
 go_enter func58,ntmps58
 go_upto_region 1 with fail
 rw[hW5.out];clear hW5;obtain⟨c6,c7,c8,c9,c10,c11,c12,c13⟩:=q1.cs8;have c14:=q2.c 0 rfl;have c15:=q2.c 1 rfl
 go_wp2_with fail
 refine(HE.out _ b3).mono ?_;rintro zz w16 ⟨rfl,bb17⟩;have b18:=aa b3 bb17;clear q1 q2 b3 bb17 HE c6 c7 c8 c9 c10 c11 c12 c13 c14 c15
 go_wp2
 go_ret3
 exact⟨rfl,b18⟩
theorem adz (x u:ak)(xo:Option Addr)(xc m:Nat)(bl sp ns tw E:Int)(w:World)(h1:IntKind.i64.wrap (bl-128)=sp)(h2: ¬sp≤0)(h3:IntKind.i64.wrap (-sp)=ns)(h4:IntKind.i64.wrap (x.e+sp)=E)
  (HD:yJ 115 #[yDV x xo xc] (yT xo x.n xc))
  (HB: ∀w1,yB w w1→yC 138 #[yT xo x.n xc] w1 fun z w'=>z= .returned (yi bl)∧w'=w1)
  (HT: ∀w1,yB w w1→yC 170 #[yT xo x.n xc] w1 fun z w'=>z= .returned (yi tw)∧w'=w1)
  (HS: ∀w1,yB w w1→yC 130 #[yT xo x.n xc,yi ns] w1 (Num w1 m))
  (HE: ∀mo mc w1,Rd w1 .u32 (yT mo m mc) (Dg.dg 4294967296 m)→yC 140 #[.bool x.s,yT mo m mc,yi E,.bool (decide (tw<sp))] w1 (jN w1 u)):
  yC 144 #[yDV x xo xc,yi 128] w fun z w'=> ∃v,z= .returned (ydV u.s v u.e)∧Rd w' .u32 v (Dg.dg 4294967296 u.n)∧yB w w':=by
 replace HD:Hid _:=HD;replace HB:Hid _:=HB;replace HT:Hid _:=HT;replace HS:Hid _:=HS;replace HE:Hid _:=HE;obtain⟨W4,hW5,q1,q2,b3⟩:=iG w (yDL x xo xc) 74 (ydL false yN 0) 74;replace hW5:Hid _:=hW5
 go_enter func144,ntmps144
 go_upto_region 1 with fail
 rw[hW5.out];clear hW5;obtain⟨c6,c7,c8⟩:=q1.cs3
 go_wp2_with fail
 refine(HD.out _).mono ?_;rintro zz w9 ⟨rfl,bb10⟩;have q11:=q1.l bb10;have q12:=q2.l bb10;have b13:=aa b3 bb10;clear q1 q2 b3 bb10 c6 c7 c8
 go_wp2_with fail
 refine(HB.out _ b13).mono ?_;rintro zz w14 ⟨rfl,rfl⟩
 go_upto_region 4 with fail
 have bW16:yB w14 w14.drew:=(Below.refl _ _).drew;have q17:=q11.l bW16;have q18:=q12.l bW16;have b19:=aa b13 bW16;clear q11 q12 b13 bW16;refine wp_region_held_drew (S:=fun wq=>au wq w.heap.size 74 (yDL x xo xc)) (by kernel_rfl) q17 (fun hS0=> ?_)
 generalize w14.drew=WD20 at q17 q18 b19 hS0⊢;refine tq 0 (.pointer (some ⟨w.heap.size,0,none⟩)) rfl (fun _ _=>by kernel_rfl) hS0 ?_
 refine tq 1 (.pointer (some ⟨w.heap.size,0,none⟩)) rfl (fun _ _=>by kernel_rfl) hS0 ?_
 refine tq 2 (.bool x.s) rfl (fun _ hw0=>gU 4 (.tmp 15) rfl w.heap.size 0 (by kernel_rfl) _ _ underlying4 rfl (hw0.c 0 rfl)) hS0 ?_
 refine tq 3 (yDV x xo xc) rfl (fun _ hw0=>fy 74 (.tmp 2) rfl w.heap.size 0 (by kernel_rfl) _ _ hw0.range underlying74 rfl (by kernel_rfl)) hS0 ?_
 refine tq 5 (yi sp) rfl (fun _ _=>by kernel_rfl) hS0 ?_
 refine tq 6 (yi ns) rfl (fun _ _=>by go_simp) hS0 ?_
 refine tq 8 (.pointer (some ⟨w.heap.size,0,none⟩)) rfl (fun _ _=>by kernel_rfl) hS0 ?_
 refine tq 9 (.pointer (some ⟨w.heap.size,2,none⟩)) rfl (fun _ _=>by kernel_rfl) hS0 ?_
 refine tq 10 (yi x.e) rfl (fun _ hw0=>gU 3 (.tmp 23) rfl w.heap.size 2 (by kernel_rfl) _ _ underlying3 rfl (hw0.c 2 rfl)) hS0 ?_
 refine tq 11 (yi sp) rfl (fun _ _=>by kernel_rfl) hS0 ?_
 refine tq 12 (yi E) rfl (fun _ _=>by go_simp) hS0 ?_
 refine tq 13 (yDV x xo xc) rfl (fun _ hw0=>fy 74 (.tmp 2) rfl w.heap.size 0 (by kernel_rfl) _ _ hw0.range underlying74 rfl (by kernel_rfl)) hS0 ?_
 refine tq 16 (yi sp) rfl (fun _ _=>by kernel_rfl) hS0 ?_
 refine wpAnyH_ready (rs:=[4]) (by kernel_rfl) (by simp) ?_;refine AllReadyH.cons rfl (fun K hK=> ?_) AllReadyH.nil
 go_simp
 refine(HD.out _).mono ?_;rintro zz w21 ⟨rfl,bb22⟩;have q23:=q17.l bb22;have q24:=q18.l bb22;have b25:=aa b19 bb22;clear q17 q18 b19 bb22;refine hK.out _ _ q23 (fun hS26=> ?_)
 clear hK K;refine wpAnyH_ready (rs:=[7]) (by kernel_rfl) (by simp) ?_;refine AllReadyH.cons rfl (fun K hK=> ?_) AllReadyH.nil
 go_simp
 refine(HS.out _ b25).mono ?_;rintro zz w27 ⟨v129,rfl,r130,bb28⟩;have q31:=q23.l bb28;have q32:=q24.l bb28;have b33:=aa b25 bb28;have r34:=r130.rd;obtain⟨mo,mc,hv⟩:=r34.shape;subst hv;clear q23 q24 b25 bb28 r130;refine hK.out _ _ q31 (fun hS35=> ?_)
 clear hK K;refine wpAnyH_ready (rs:=[14]) (by kernel_rfl) (by simp) ?_;refine AllReadyH.cons rfl (fun K hK=> ?_) AllReadyH.nil
 go_simp
 refine(HD.out _).mono ?_;rintro zz w36 ⟨rfl,bb37⟩;have q38:=q31.l bb37;have q39:=q32.l bb37;have r40:=r34.l bb37;have b41:=aa b33 bb37;clear q31 q32 r34 b33 bb37;refine hK.out _ _ q38 (fun hS42=> ?_)
 clear hK K;refine wpAnyH_ready (rs:=[15]) (by kernel_rfl) (by simp) ?_;refine AllReadyH.cons rfl (fun K hK=> ?_) AllReadyH.nil
 go_simp
 refine(HT.out _ b41).mono ?_;rintro zz w43 ⟨rfl,rfl⟩;refine hK.out _ _ q38 (fun hS45=> ?_)
 clear hK K;refine tq 17 (.bool (decide (tw<sp))) rfl (fun _ _=>by go_simp) hS45 ?_
 refine wpAnyH_ready (rs:=[18]) (by kernel_rfl) (by simp) ?_;refine AllReadyH.cons rfl (fun K hK=> ?_) AllReadyH.nil
 go_simp
 refine(HE.out _ _ _ r40).mono ?_;rintro zz w46 ⟨v148,rfl,r149,bb47⟩;have q50:=q38.l bb47;have q51:=q39.l bb47;have r52:=r40.l bb47;have b53:=aa b41 bb47;have r54:=r149.rd;obtain⟨uo,uc,hv⟩:=r54.shape;subst hv;clear q38 q39 r40 b41 bb47 r149;refine hK.out _ _ q50 (fun hS55=> ?_)
 clear hK K;refine wpAnyH_ready (rs:=[19]) (by kernel_rfl) (by simp) ?_;refine AllReadyH.cons rfl (fun K hK=> ?_) AllReadyH.nil
 have bu:But (w.heap.size+1) w46 (w46.setCells (w.heap.size+1) 0 (yDL u uo uc)):=de _ _ _ _;have hth:w46.there (w.heap.size+1) 0 3:=dD q51;have q56:au (w46.setCells (w.heap.size+1) 0 (yDL u uo uc)) (w.heap.size+1) 74 (yDL u uo uc):=q51.sets _ rfl;have r57:=bu.rd r52 (aX r52 q51 (by simp));have r58:=bu.rd r54 (aX r54 q51 (by simp));have q59:=bu.loc q50 (by omega);have b60:=bu.below b53 (by omega);rw[if_pos (by kernel_rfl)];refine wp_store_mid 74 (.tmp 4) (.tmp 32) rfl (w.heap.size+1) 0 (yDA u uo uc) (by kernel_rfl) (by kernel_rfl) hth (by kernel_rfl) (by simp[Value.oneCell']) ?_;refine hK.out _ _ q59 (fun hS61=> ?_)
 clear hK K;clear q51 r52 r54 q50 b53 bu hth;refine wpAnyH_done (by kernel_rfl) ?_ _;clear hS0 hS26 hS35 hS42 hS45 hS55 hS61;change Exit.then _ _ _ _ (World.setCells w46 (w.heap.size+1) 0 (yDL u uo uc));generalize World.setCells w46 (w.heap.size+1) 0 (yDL u uo uc)=W62 at q59 q56 r57 r58 b60⊢;simp only[Act.put,List.getElem_toArray,List.getElem_cons_succ,List.getElem_cons_zero];have hl:=run_loadVar_mid (P:=Tryz.prog) _ (w.heap.size+1) 0 74 (yDL u uo uc) _ q56.range underlying74 rfl (by kernel_rfl)
 go_wp2
 exact bodyPost_ret (br results144 rfl hl) rfl ⟨_,rfl,r58,b60⟩
theorem Rk (n way er:Int)(F m:Nat)(pb:Nat)(w:World)(he:(er==0)=false)
  (HD:yJ 43 #[yi n] (.tuple #[ykV 0 0 0 0 0 0 0 false,yi er])):
  yC 29 #[yi n,yi way,.func (.func F) #[] #[],.slice (some ⟨pb,0,none⟩) m m] w (yR w (.tuple #[.string ⟨#[]⟩,yi 0,yi er])):=by
 replace HD:Hid _:=HD
 go_enter func29,ntmps29
 have b0:=Below.refl w.heap.size w
 go_wp2_with fail
 refine(HD.out _).mono ?_;rintro zz w1 ⟨rfl,bb2⟩;have b3:=aa b0 bb2;clear b0 bb2 HD;obtain⟨W7,hW6,q5,al4⟩:=cA w1 (ykL 0 0 0 0 0 0 0 false) 69;replace hW6:Hid _:=hW6;have hl8:w.heap.size≤w1.heap.size:=b3.size;have b9:=aa b3 al4;clear b3 al4 q5
 go_upto_region 2 with fail
 rw[hW6.out];clear hW6
 go_wp2
 go_ret3
 exact⟨rfl,b9⟩
theorem Rl (er:Int)(n R D L G fam way:Int)(gr:Bool)(F m:Nat)(pb:Nat)(w:World)(he:(er==0)=false)
  (HD:yJ 43 #[yi n] (.tuple #[ykV n 0 fam R D L G gr,yi 0]))
  (HO:yH w 55 #[ykV n 0 fam R D L G gr,.slice (some ⟨pb,0,none⟩) m m] (.tuple #[yN,yi er])):
  yC 29 #[yi n,yi way,.func (.func F) #[] #[],.slice (some ⟨pb,0,none⟩) m m] w (yR w (.tuple #[.string ⟨#[]⟩,yi 0,yi er])):=by
 replace HD:Hid _:=HD;replace HO:Hid _:=HO
 go_enter func29,ntmps29
 have b0:=Below.refl w.heap.size w
 go_wp2_with fail
 refine(HD.out _).mono ?_;rintro zz w1 ⟨rfl,bb2⟩;have b3:=aa b0 bb2;clear b0 bb2 HD;obtain⟨W7,hW6,q5,al4⟩:=cA w1 (ykL n 0 fam R D L G gr) 69;replace hW6:Hid _:=hW6;have hl8:w.heap.size≤w1.heap.size:=b3.size;have b9:=aa b3 al4;clear b3 al4
 go_upto_region 2 with fail
 rw[hW6.out];clear hW6;obtain⟨c10,c11,c12,c13,c14,c15,c16,c17⟩:=q5.cs8
 go_wp2_with fail
 refine(HO.out _ b9).mono ?_;rintro zz w18 ⟨rfl,bb19⟩;have b20:=aa b9 bb19;clear q5 b9 bb19 HO c10 c11 c12 c13 c14 c15 c16 c17
 go_wp2
 go_ret3
 exact⟨rfl,b20⟩
theorem NX (n R D L G fam way:Int)(gr:Bool)(F m:Nat)(ps:List ByteArray)(pb:Nat)(w:World)(hw:way<1)
  (HD:yJ 43 #[yi n] (.tuple #[ykV n 0 fam R D L G gr,yi 0]))
  (HO: ∀w1,yB w w1→yC 55 #[ykV n 0 fam R D L G gr,.slice (some ⟨pb,0,none⟩) m m] w1 fun z w'=> ∃g cap,z= .returned (.tuple #[.slice (some ⟨g,0,none⟩) m cap,yi 0])∧sF w' n ps g cap∧w1.heap.size≤g∧yB w1 w'):
  yC 29 #[yi n,yi way,.func (.func F) #[] #[],.slice (some ⟨pb,0,none⟩) m m] w (yR w (.tuple #[.string ⟨#[]⟩,yi 0,yi 6])):=by
 replace HD:Hid _:=HD;replace HO:Hid _:=HO
 go_enter func29,ntmps29
 have b0:=Below.refl w.heap.size w
 go_wp2_with fail
 refine(HD.out _).mono ?_;rintro zz w1 ⟨rfl,bb2⟩;have b3:=aa b0 bb2;clear b0 bb2 HD;obtain⟨W7,hW6,q5,al4⟩:=cA w1 (ykL n 0 fam R D L G gr) 69;replace hW6:Hid _:=hW6;have hl8:w.heap.size≤w1.heap.size:=b3.size;have b9:=aa b3 al4;clear b3 al4
 go_upto_region 2 with fail
 rw[hW6.out];clear hW6;obtain⟨c10,c11,c12,c13,c14,c15,c16,c17⟩:=q5.cs8;have hq:=q5.lt
 go_wp2_with fail
 refine(HO.out _ b9).mono ?_;rintro zz w18 ⟨g,cap,rfl,r120,hgw,bb19⟩;have b21:=aa b9 bb19;clear q5 b9 bb19 HO c10 c11 c12 c13 c14 c15 c16 c17
 go_wp2
 go_ret3
 exact⟨rfl,b21⟩
theorem NY (n R D L G fam way:Int)(gr:Bool)(F m:Nat)(ps:List ByteArray)(pb:Nat)(w:World)(hw: ¬way<1)(hv:5<way)
  (HD:yJ 43 #[yi n] (.tuple #[ykV n 0 fam R D L G gr,yi 0]))
  (HO: ∀w1,yB w w1→yC 55 #[ykV n 0 fam R D L G gr,.slice (some ⟨pb,0,none⟩) m m] w1 fun z w'=> ∃g cap,z= .returned (.tuple #[.slice (some ⟨g,0,none⟩) m cap,yi 0])∧sF w' n ps g cap∧w1.heap.size≤g∧yB w1 w'):
  yC 29 #[yi n,yi way,.func (.func F) #[] #[],.slice (some ⟨pb,0,none⟩) m m] w (yR w (.tuple #[.string ⟨#[]⟩,yi 0,yi 6])):=by
 replace HD:Hid _:=HD;replace HO:Hid _:=HO
 go_enter func29,ntmps29
 have b0:=Below.refl w.heap.size w
 go_wp2_with fail
 refine(HD.out _).mono ?_;rintro zz w1 ⟨rfl,bb2⟩;have b3:=aa b0 bb2;clear b0 bb2 HD;obtain⟨W7,hW6,q5,al4⟩:=cA w1 (ykL n 0 fam R D L G gr) 69;replace hW6:Hid _:=hW6;have hl8:w.heap.size≤w1.heap.size:=b3.size;have b9:=aa b3 al4;clear b3 al4
 go_upto_region 2 with fail
 rw[hW6.out];clear hW6;obtain⟨c10,c11,c12,c13,c14,c15,c16,c17⟩:=q5.cs8;have hq:=q5.lt
 go_wp2_with fail
 refine(HO.out _ b9).mono ?_;rintro zz w18 ⟨g,cap,rfl,r120,hgw,bb19⟩;have b21:=aa b9 bb19;clear q5 b9 bb19 HO c10 c11 c12 c13 c14 c15 c16 c17
 go_wp2
 go_ret3
 exact⟨rfl,b21⟩
theorem Rm (c f1 e1:Int)(st:ByteArray)(n R D L G way:Int)(gr:Bool)(F m:Nat)(ps:List ByteArray)(pb:Nat)(w:World)(hw: ¬way<1)(hv: ¬5<way)
  (HD:yJ 43 #[yi n] (.tuple #[ykV n 0 1 R D L G gr,yi 0]))
  (HO: ∀w1,yB w w1→yC 55 #[ykV n 0 1 R D L G gr,.slice (some ⟨pb,0,none⟩) m m] w1 fun z w'=> ∃g cap,z= .returned (.tuple #[.slice (some ⟨g,0,none⟩) m cap,yi 0])∧sF w' n ps g cap∧w1.heap.size≤g∧yB w1 w')
  (HX: ∀g cap w1,sF w1 n ps g cap→yC 56 #[.slice (some ⟨g,0,none⟩) m cap] w1 (yR w1 (.bool true)))
  (HN:yJ 59 #[ykV n way 1 R D L G gr,yi 0] (.tuple #[yoV c false false yN 0,yi 0]))
  (HA:yH w 58 #[ykV n way 1 R D L G gr,yoV c false false yN 0,yi 0] (.tuple #[.string st,yi f1,yi e1])):
  yC 29 #[yi n,yi way,.func (.func F) #[] #[],.slice (some ⟨pb,0,none⟩) m m] w (yR w (.tuple #[.string st,yi f1,yi e1])):=by
 replace HD:Hid _:=HD;replace HO:Hid _:=HO;replace HX:Hid _:=HX;replace HN:Hid _:=HN;replace HA:Hid _:=HA
 go_enter func29,ntmps29
 have b0:=Below.refl w.heap.size w
 go_wp2_with fail
 refine(HD.out _).mono ?_;rintro zz w1 ⟨rfl,bb2⟩;have b3:=aa b0 bb2;clear b0 bb2 HD;obtain⟨W7,hW6,q5,al4⟩:=cA w1 (ykL n 0 1 R D L G gr) 69;replace hW6:Hid _:=hW6;have hl8:w.heap.size≤w1.heap.size:=b3.size;have b9:=aa b3 al4;clear b3 al4
 go_upto_region 2 with fail
 rw[hW6.out];clear hW6;obtain⟨c10,c11,c12,c13,c14,c15,c16,c17⟩:=q5.cs8;have hq:=q5.lt
 go_wp2_with fail
 refine(HO.out _ b9).mono ?_;rintro zz w18 ⟨g,cap,rfl,r120,hgw,bb19⟩;have q21:=q5.l bb19;have b22:=aa b9 bb19;clear q5 b9 bb19 HO c10 c11 c12 c13 c14 c15 c16 c17;have bu:=ag w18 w1.heap.size 1 (yi way);have q23:au (w18.setCell ⟨w1.heap.size,1,none⟩ (yi way)) w1.heap.size 69 (ykL n way 1 R D L G gr):=(q21.set 1 (yi way));have c24:=q21.c 1 rfl;have y25:=q21.f 1;have r26:=r120.off bu q21 (by simp) (by omega);have b27:=bu.below b22 (by omega);clear bu
 go_upto_region 10 with fail
 generalize w18.setCell ⟨w1.heap.size,1,none⟩ (yi way)=W28 at q23 r26 b27⊢;clear q21 r120 b22 c24 y25
 go_wp2_with fail
 refine(HX.out _ _ _ r26).mono ?_;rintro zz w29 ⟨rfl,bb30⟩;have q31:=q23.l bb30;have b32:=aa b27 bb30;clear q23 r26 b27 bb30 HX;have c33:=q31.c 2 rfl
 go_upto_region 13 with fail
 clear c33;have bW34:yB w29 w29.drew:=(Below.refl _ _).drew;have q35:=q31.l bW34;have b36:=aa b32 bW34;clear q31 b32 bW34;refine wp_region_held_drew (S:=fun wq=>au wq w1.heap.size 69 (ykL n way 1 R D L G gr)) (by kernel_rfl) q35 (fun hS0=> ?_)
 generalize w29.drew=WD37 at q35 b36 hS0⊢;refine tq 0 (ykV n way 1 R D L G gr) rfl (fun _ hw0=>fy 69 (.tmp 11) rfl w1.heap.size 0 (by kernel_rfl) _ _ hw0.range underlying69 rfl (by kernel_rfl)) hS0 ?_
 refine tq 1 (ykV n way 1 R D L G gr) rfl (fun _ hw0=>fy 69 (.tmp 11) rfl w1.heap.size 0 (by kernel_rfl) _ _ hw0.range underlying69 rfl (by kernel_rfl)) hS0 ?_
 refine wpAnyH_ready (rs:=[2]) (by kernel_rfl) (by simp) ?_;refine AllReadyH.cons rfl (fun K hK=> ?_) AllReadyH.nil
 go_simp
 refine(HN.out _).mono ?_;rintro zz w38 ⟨rfl,bb39⟩;have q40:=q35.l bb39;have b41:=aa b36 bb39;clear q35 b36 bb39 HN;refine hK.out _ _ q40 (fun hS42=> ?_)
 clear hK K;refine tq 3 (yoV c false false yN 0) rfl (fun _ _=>by go_simp) hS42 ?_
 refine tq 4 (yi 0) rfl (fun _ _=>by go_simp) hS42 ?_
 refine wpAnyH_ready (rs:=[5]) (by kernel_rfl) (by simp) ?_;refine AllReadyH.cons rfl (fun K hK=> ?_) AllReadyH.nil
 go_simp
 refine(HA.out _ b41).mono ?_;rintro zz w43 ⟨rfl,bb44⟩;have q45:=q40.l bb44;have b46:=aa b41 bb44;clear q40 b41 bb44 HA;refine hK.out _ _ q45 (fun hS47=> ?_)
 clear hK K;refine tq 6 (.string st) rfl (fun _ _=>by go_simp) hS47 ?_
 refine tq 7 (yi f1) rfl (fun _ _=>by go_simp) hS47 ?_
 refine tq 8 (yi e1) rfl (fun _ _=>by go_simp) hS47 ?_
 refine tq 9 (.string st) rfl (fun _ _=>by kernel_rfl) hS47 ?_
 refine tq 10 (yi f1) rfl (fun _ _=>by kernel_rfl) hS47 ?_
 refine tq 11 (yi e1) rfl (fun _ _=>by kernel_rfl) hS47 ?_
 refine wpAnyH_done (by kernel_rfl) ?_ _;clear hS0 hS42 hS47;simp only[Act.put,List.getElem_toArray,List.getElem_cons_succ,List.getElem_cons_zero,List.setIfInBounds_toArray,List.set_cons_zero,List.set_cons_succ]
 go_wp2
 go_ret3
 exact⟨rfl,b46⟩
theorem Rn (c f1 e1:Int)(st:ByteArray)(n R D L G fam way:Int)(gr:Bool)(F m:Nat)(ps:List ByteArray)(pb:Nat)(w:World)(hw: ¬way<1)(hv: ¬5<way)(hf:(fam==1)=false)
  (HD:yJ 43 #[yi n] (.tuple #[ykV n 0 fam R D L G gr,yi 0]))
  (HO: ∀w1,yB w w1→yC 55 #[ykV n 0 fam R D L G gr,.slice (some ⟨pb,0,none⟩) m m] w1 fun z w'=> ∃g cap,z= .returned (.tuple #[.slice (some ⟨g,0,none⟩) m cap,yi 0])∧sF w' n ps g cap∧w1.heap.size≤g∧yB w1 w')
  (HX: ∀g cap w1,sF w1 n ps g cap→yC 56 #[.slice (some ⟨g,0,none⟩) m cap] w1 (yR w1 (.bool true)))
  (HN:yJ 59 #[ykV n way fam R D L G gr,yi 16] (.tuple #[yoV c false false yN 0,yi 16]))
  (HA:yH w 58 #[ykV n way fam R D L G gr,yoV c false false yN 0,yi 16] (.tuple #[.string st,yi f1,yi e1])):
  yC 29 #[yi n,yi way,.func (.func F) #[] #[],.slice (some ⟨pb,0,none⟩) m m] w (yR w (.tuple #[.string st,yi f1,yi e1])):=by
 replace HD:Hid _:=HD;replace HO:Hid _:=HO;replace HX:Hid _:=HX;replace HN:Hid _:=HN;replace HA:Hid _:=HA
 go_enter func29,ntmps29
 have b0:=Below.refl w.heap.size w
 go_wp2_with fail
 refine(HD.out _).mono ?_;rintro zz w1 ⟨rfl,bb2⟩;have b3:=aa b0 bb2;clear b0 bb2 HD;obtain⟨W7,hW6,q5,al4⟩:=cA w1 (ykL n 0 fam R D L G gr) 69;replace hW6:Hid _:=hW6;have hl8:w.heap.size≤w1.heap.size:=b3.size;have b9:=aa b3 al4;clear b3 al4
 go_upto_region 2 with fail
 rw[hW6.out];clear hW6;obtain⟨c10,c11,c12,c13,c14,c15,c16,c17⟩:=q5.cs8;have hq:=q5.lt
 go_wp2_with fail
 refine(HO.out _ b9).mono ?_;rintro zz w18 ⟨g,cap,rfl,r120,hgw,bb19⟩;have q21:=q5.l bb19;have b22:=aa b9 bb19;clear q5 b9 bb19 HO c10 c11 c12 c13 c14 c15 c16 c17;have bu:=ag w18 w1.heap.size 1 (yi way);have q23:au (w18.setCell ⟨w1.heap.size,1,none⟩ (yi way)) w1.heap.size 69 (ykL n way fam R D L G gr):=(q21.set 1 (yi way));have c24:=q21.c 1 rfl;have y25:=q21.f 1;have r26:=r120.off bu q21 (by simp) (by omega);have b27:=bu.below b22 (by omega);clear bu
 go_upto_region 10 with fail
 generalize w18.setCell ⟨w1.heap.size,1,none⟩ (yi way)=W28 at q23 r26 b27⊢;clear q21 r120 b22 c24 y25
 go_wp2_with fail
 refine(HX.out _ _ _ r26).mono ?_;rintro zz w29 ⟨rfl,bb30⟩;have q31:=q23.l bb30;have b32:=aa b27 bb30;clear q23 r26 b27 bb30 HX;have c33:=q31.c 2 rfl
 go_upto_region 14 with fail
 clear c33;have bW34:yB w29 w29.drew:=(Below.refl _ _).drew;have q35:=q31.l bW34;have b36:=aa b32 bW34;clear q31 b32 bW34;refine wp_region_held_drew (S:=fun wq=>au wq w1.heap.size 69 (ykL n way fam R D L G gr)) (by kernel_rfl) q35 (fun hS0=> ?_)
 generalize w29.drew=WD37 at q35 b36 hS0⊢;refine tq 0 (ykV n way fam R D L G gr) rfl (fun _ hw0=>fy 69 (.tmp 11) rfl w1.heap.size 0 (by kernel_rfl) _ _ hw0.range underlying69 rfl (by kernel_rfl)) hS0 ?_
 refine tq 1 (ykV n way fam R D L G gr) rfl (fun _ hw0=>fy 69 (.tmp 11) rfl w1.heap.size 0 (by kernel_rfl) _ _ hw0.range underlying69 rfl (by kernel_rfl)) hS0 ?_
 refine wpAnyH_ready (rs:=[2]) (by kernel_rfl) (by simp) ?_;refine AllReadyH.cons rfl (fun K hK=> ?_) AllReadyH.nil
 go_simp
 refine(HN.out _).mono ?_;rintro zz w38 ⟨rfl,bb39⟩;have q40:=q35.l bb39;have b41:=aa b36 bb39;clear q35 b36 bb39 HN;refine hK.out _ _ q40 (fun hS42=> ?_)
 clear hK K;refine tq 3 (yoV c false false yN 0) rfl (fun _ _=>by go_simp) hS42 ?_
 refine tq 4 (yi 16) rfl (fun _ _=>by go_simp) hS42 ?_
 refine wpAnyH_ready (rs:=[5]) (by kernel_rfl) (by simp) ?_;refine AllReadyH.cons rfl (fun K hK=> ?_) AllReadyH.nil
 go_simp
 refine(HA.out _ b41).mono ?_;rintro zz w43 ⟨rfl,bb44⟩;have q45:=q40.l bb44;have b46:=aa b41 bb44;clear q40 b41 bb44 HA;refine hK.out _ _ q45 (fun hS47=> ?_)
 clear hK K;refine tq 6 (.string st) rfl (fun _ _=>by go_simp) hS47 ?_
 refine tq 7 (yi f1) rfl (fun _ _=>by go_simp) hS47 ?_
 refine tq 8 (yi e1) rfl (fun _ _=>by go_simp) hS47 ?_
 refine tq 9 (.string st) rfl (fun _ _=>by kernel_rfl) hS47 ?_
 refine tq 10 (yi f1) rfl (fun _ _=>by kernel_rfl) hS47 ?_
 refine tq 11 (yi e1) rfl (fun _ _=>by kernel_rfl) hS47 ?_
 refine wpAnyH_done (by kernel_rfl) ?_ _;clear hS0 hS42 hS47;simp only[Act.put,List.getElem_toArray,List.getElem_cons_succ,List.getElem_cons_zero,List.setIfInBounds_toArray,List.set_cons_zero,List.set_cons_succ]
 go_wp2
 go_ret3
 exact⟨rfl,b46⟩
end Go.Proofs.YtbdokgamhinajaaGreatDoor

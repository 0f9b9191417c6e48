/-
  Texts laid together: As3, As4, Du1, As5.
-/
import Derived.Test.YtbdokgamhinajaaGreatDoorSm15
import Derived.Test.YtbdokgamhinajaaGreatDoorSm23
set_option maxRecDepth 100000
set_option maxHeartbeats 6400000
namespace Go.Proofs.YtbdokgamhinajaaGreatDoor
open _root_.Go.Proofs.Tryz
open Go.RowKit
theorem QM (n wy fam R D L G:Int)(gr ng:Bool)(r pw:Nat)(w:World)(hR:IntKind.u32.wrap R=(r:Int))
  (HP: ∀q w1,yB w w1→w1.cell? ⟨q,0,none⟩=some (.int .u32 r)→yC 161 #[.slice (some ⟨q,0,none⟩) 1 1,yi D] w1 (Num w1 pw))
  (HM: ∀vo vc q w1,Rd w1 .u32 (yT vo pw vc) (Dg.dg 4294967296 pw)→w1.cell? ⟨q,0,none⟩=some (.int .u32 1)→yC 109 #[yT vo pw vc,.slice (some ⟨q,0,none⟩) 1 1] w1 (Num w1 (pw-1))):
  yC 136 #[ykV n wy fam R D L G gr,.bool ng] w (iT w 2 ng (pw-1) G):=by
 replace HP:Hid _:=HP;replace HM:Hid _:=HM;have ad:=af w (.cells (ykA n wy fam R D L G gr) 69);have av:=af (w.alloc (.cells (ykA n wy fam R D L G gr) 69)) (.cells (yvA 0 false yN 0) 100);have d0:=(ah w (ykL n wy fam R D L G gr) 69).l av;have v0:=ah (w.alloc (.cells (ykA n wy fam R D L G gr) 69)) (yvL 0 false yN 0) 100;rw[World.size_alloc] at v0;have b0:=aa ad av;clear ad av
 go_enter func136,ntmps136
 go_upto_region 1 with fail
 generalize(w.alloc (.cells (ykA n wy fam R D L G gr) 69)).alloc (.cells (yvA 0 false yN 0) 100)=W0 at d0 v0 b0⊢;have y3:=d0.c 3 rfl;have y4:=d0.c 4 rfl;have al:=af W0 (.cells #[.int .u32 r] 148);have hc:=(ah W0 [.int .u32 r] 148).c 0 rfl;have d1:=d0.l al;have v1:=v0.l al;have b01:=aa b0 al;have z3:=d1.c 3 rfl;have z4:=d1.c 4 rfl;clear al
 go_wp2_with fail
 refine(HP.out _ _ b01 hc).mono ?_;rintro z w2 ⟨u,rfl,o2,b2⟩;obtain⟨vo,vc,hu⟩:=o2.rd.shape;subst hu;have r2:=o2.rd;have d2:=d1.l b2;have v2:=v1.l b2;have b02:=aa b01 b2;clear y3 y4 z3 z4 hc d0 v0 b0 d1 v1 b01 b2 o2 HP hR
 go_upto_region 2 with fail
 have bW:yB w2 w2.drew:=(Below.refl _ _).drew;have d3:=d2.l bW;have v3:=v2.l bW;have r3:=r2.l bW;have b03:=aa b02 bW;clear bW d2 v2 r2 b02;refine wp_region_held_drew (S:=fun wq=>wq.cell? ⟨w.heap.size,6,none⟩=some (yi G)) (by kernel_rfl) (d3.c 6 rfl) (fun hS0=> ?_)
 refine tq 0 (.bool ng) rfl (fun w0 _=>by kernel_rfl) hS0 ?_
 refine tq 1 (yT vo pw vc) rfl (fun w0 _=>by kernel_rfl) hS0 ?_
 refine tq 4 (.pointer (some ⟨w.heap.size,3,none⟩)) rfl (fun w0 _=>by kernel_rfl) hS0 ?_
 refine tq 5 (.pointer (some ⟨w.heap.size,6,none⟩)) rfl (fun w0 _=>by kernel_rfl) hS0 ?_
 refine tq 6 (yi G) rfl (fun w0 hw0=>gU 3 (.tmp 20) rfl w.heap.size 6 (by kernel_rfl) _ _ underlying3 rfl hw0) hS0 ?_
 refine wpAnyH_ready (rs:=[2]) (by kernel_rfl) (by simp) ?_;refine AllReadyH.cons rfl (fun K hK=> ?_) AllReadyH.nil
 go_simp
 have al:=af w2.drew (.cells #[.int .u32 1] 148);have hc:=(ah w2.drew [.int .u32 1] 148).c 0 rfl;have d4:=d3.l al;have v4:=v3.l al;have r4:=r3.l al;have b04:=aa b03 al;refine hK.out _ _ (d4.c 6 rfl) (fun hS2=> ?_)
 clear hK K al d3 v3 r3 b03;refine wpAnyH_ready (rs:=[3]) (by kernel_rfl) (by simp) ?_;refine AllReadyH.cons rfl (fun K hK=> ?_) AllReadyH.nil
 go_simp
 refine(HM.out _ _ _ _ r4 hc).mono ?_;rintro z w5 ⟨u,rfl,o5,b5⟩;obtain⟨mo,mc,hu⟩:=o5.rd.shape;subst hu;have r5:=o5.rd;have d5:=d4.l b5;have v5:=v4.l b5;have b05:=aa b04 b5;refine hK.out _ _ (d5.c 6 rfl) (fun hS3=> ?_)
 clear hK K d4 v4 r4 b04 b5 o5 hc;have bu:=(((ag w5 (w.heap.size+1) 0 (yi 2)).trans (ag _ (w.heap.size+1) 1 (.bool ng))).trans (ag _ (w.heap.size+1) 2 (.slice mo (Dg.dg 4294967296 (pw-1)).length mc))).trans (ag _ (w.heap.size+1) 3 (yi G));have bR:yB w (w5.setCells (w.heap.size+1) 0 (yvL 2 ng (.slice mo (Dg.dg 4294967296 (pw-1)).length mc) G)):=bu.below b05 (by omega);have rR:Rd (w5.setCells (w.heap.size+1) 0 (yvL 2 ng (.slice mo (Dg.dg 4294967296 (pw-1)).length mc) G)) .u32 (.slice mo (Dg.dg 4294967296 (pw-1)).length mc) (Dg.dg 4294967296 (pw-1)):=bu.rd r5 (aX r5 v5 (by simp));have hth:w5.there (w.heap.size+1) 0 4:=dD v5;have hl:=run_loadVar_mid (P:=Tryz.prog) _ (w.heap.size+1) 0 100 (yvL 2 ng (.slice mo (Dg.dg 4294967296 (pw-1)).length mc) G) _ (World.rangeAt_setCells_same w5 (w.heap.size+1) 0 (yvL 2 ng (.slice mo (Dg.dg 4294967296 (pw-1)).length mc) G) hth) underlying100 rfl (by kernel_rfl);have HH:Hid (_∧_∧_):=⟨hl,rR,bR⟩;clear hl rR bR bu;refine tq 7 ((yvV 2 ng (.slice mo (Dg.dg 4294967296 (pw-1)).length mc) G)) rfl (fun w0 _=>by kernel_rfl) hS3 ?_
 refine wpAnyH_ready (rs:=[8]) (by kernel_rfl) (by simp) ?_;refine AllReadyH.cons rfl (fun K hK=> ?_) AllReadyH.nil
 rw[if_pos (by kernel_rfl)];refine wp_store_mid 100 (.tmp 4) (.tmp 22) rfl (w.heap.size+1) 0 (yvA 2 ng (.slice mo (Dg.dg 4294967296 (pw-1)).length mc) G) (by kernel_rfl) (by kernel_rfl) hth (by kernel_rfl) (by simp[Value.oneCell']) ?_;refine hK.out _ _ ?_ (fun hS8=> ?_)
 ·have hbu:But (w.heap.size+1) w5 (w5.setCells (w.heap.size+1) 0 (yvL 2 ng (.slice mo (Dg.dg 4294967296 (pw-1)).length mc) G)):=de _ _ _ _
  exact(hbu.loc d5 (by omega)).c 6 rfl
 clear hK K;refine wpAnyH_done (by kernel_rfl) ?_ _;obtain⟨hl,rR,bR⟩:=HH.out;clear HH hS0 hS2 hS3 hS8 d5 v5 r5 b05 hth HM;change Exit.then _ _ _ _ (World.setCells w5 (w.heap.size+1) 0 (yvL 2 ng (.slice mo (Dg.dg 4294967296 (pw-1)).length mc) G));generalize World.setCells w5 (w.heap.size+1) 0 (yvL 2 ng (.slice mo (Dg.dg 4294967296 (pw-1)).length mc) G)=WE at hl rR bR⊢
 go_wp2
 exact bodyPost_ret (br results136 rfl hl) rfl ⟨_,rfl,rR,bR⟩
theorem adn (n wy R D L G:Int)(gr ng:Bool)(w:World)
  (HN:yJ 103 #[yi 3] (yi 5)):
  yC 89 #[ykV n wy 3 R D L G gr,.bool ng] w (iT w 5 false 0 0):=by
 replace HN:Hid _:=HN;have ad:=af w (.cells (ykA n wy 3 R D L G gr) 69);have av:=af (w.alloc (.cells (ykA n wy 3 R D L G gr) 69)) (.cells (yvA 0 false yN 0) 100);have d0:=(ah w (ykL n wy 3 R D L G gr) 69).l av;have v0:=ah (w.alloc (.cells (ykA n wy 3 R D L G gr) 69)) (yvL 0 false yN 0) 100;rw[World.size_alloc] at v0;have b0:=aa ad av;clear ad av
 go_enter func89,ntmps89
 go_upto_block 0 with fail
 generalize(w.alloc (.cells (ykA n wy 3 R D L G gr) 69)).alloc (.cells (yvA 0 false yN 0) 100)=W0 at d0 v0 b0⊢;obtain⟨y0,y1,y2,y3,y4,y5,y6,y7⟩:=d0.cs8
 go_wp2_with fail
 refine(HN.out _).mono ?_;rintro z w1 ⟨rfl,b1⟩;have v1:=v0.l b1;have b01:=aa b0 b1;clear y0 y1 y2 y3 y4 y5 y6 y7 d0 v0 b0 b1;have cR:au ((((w1.setCell ⟨w.heap.size+1,0,none⟩ (yi 5)).setCell ⟨w.heap.size+1,1,none⟩ (.bool false)).setCell ⟨w.heap.size+1,2,none⟩ yN).setCell ⟨w.heap.size+1,3,none⟩ (yi 0)) (w.heap.size+1) 100 (yvL 5 false yN 0):=((((v1.set 0 (yi 5)).set 1 (.bool false)).set 2 yN).set 3 (yi 0));have bu:=(((ag w1 (w.heap.size+1) 0 (yi 5)).trans (ag _ (w.heap.size+1) 1 (.bool false))).trans (ag _ (w.heap.size+1) 2 yN)).trans (ag _ (w.heap.size+1) 3 (yi 0));have bR:=bu.below b01 (by omega);have hl:=run_loadVar_mid (P:=Tryz.prog) _ (w.heap.size+1) 0 100 (yvL 5 false yN 0) _ cR.range underlying100 rfl (by kernel_rfl);have HH:Hid (_∧_):=⟨hl,bR⟩;obtain⟨z0,z1,z2,z3⟩:=v1.cs4;have fz0:=v1.f 0;have fz1:=v1.f 1;have fz2:=v1.f 2;have fz3:=v1.f 3;clear hl bR bu cR;clear v1 b01
 go_wp2
 obtain⟨hl,bR⟩:=HH.out;exact bodyPost_ret (br results89 rfl hl) rfl ⟨_,rfl,aN _ _,bR⟩
theorem abM (n wy R D L G:Int)(gr ng:Bool)(w:World)
  (HO:yJ 135 #[ykV n wy 1 R D L G gr,.bool ng] (.bool true)):
  yC 89 #[ykV n wy 1 R D L G gr,.bool ng] w (iT w 3 ng 0 0):=by
 replace HO:Hid _:=HO;have ad:=af w (.cells (ykA n wy 1 R D L G gr) 69);have av:=af (w.alloc (.cells (ykA n wy 1 R D L G gr) 69)) (.cells (yvA 0 false yN 0) 100);have d0:=(ah w (ykL n wy 1 R D L G gr) 69).l av;have v0:=ah (w.alloc (.cells (ykA n wy 1 R D L G gr) 69)) (yvL 0 false yN 0) 100;rw[World.size_alloc] at v0;have b0:=aa ad av;clear ad av
 go_enter func89,ntmps89
 go_upto_block 0 with fail
 generalize(w.alloc (.cells (ykA n wy 1 R D L G gr) 69)).alloc (.cells (yvA 0 false yN 0) 100)=W0 at d0 v0 b0⊢;obtain⟨y0,y1,y2,y3,y4,y5,y6,y7⟩:=d0.cs8
 go_wp2_with fail
 refine(HO.out _).mono ?_;rintro z w1 ⟨rfl,b1⟩;have v1:=v0.l b1;have b01:=aa b0 b1;clear y0 y1 y2 y3 y4 y5 y6 y7 d0 v0 b0 b1;have cR:au ((((w1.setCell ⟨w.heap.size+1,0,none⟩ (yi 3)).setCell ⟨w.heap.size+1,1,none⟩ (.bool ng)).setCell ⟨w.heap.size+1,2,none⟩ yN).setCell ⟨w.heap.size+1,3,none⟩ (yi 0)) (w.heap.size+1) 100 (yvL 3 ng yN 0):=((((v1.set 0 (yi 3)).set 1 (.bool ng)).set 2 yN).set 3 (yi 0));have bu:=(((ag w1 (w.heap.size+1) 0 (yi 3)).trans (ag _ (w.heap.size+1) 1 (.bool ng))).trans (ag _ (w.heap.size+1) 2 yN)).trans (ag _ (w.heap.size+1) 3 (yi 0));have bR:=bu.below b01 (by omega);have hl:=run_loadVar_mid (P:=Tryz.prog) _ (w.heap.size+1) 0 100 (yvL 3 ng yN 0) _ cR.range underlying100 rfl (by kernel_rfl);have HH:Hid (_∧_):=⟨hl,bR⟩;obtain⟨z0,z1,z2,z3⟩:=v1.cs4;have fz0:=v1.f 0;have fz1:=v1.f 1;have fz2:=v1.f 2;have fz3:=v1.f 3;clear hl bR bu cR;clear v1 b01
 go_wp2
 obtain⟨hl,bR⟩:=HH.out;exact bodyPost_ret (br results89 rfl hl) rfl ⟨_,rfl,aN _ _,bR⟩
theorem abN (n wy R D L G:Int)(gr ng:Bool)(m:Nat)(w:World)
  (HO:yJ 135 #[ykV n wy 1 R D L G gr,.bool ng] (.bool false))
  (HGr: ∀w1,yB w w1→yC 136 #[ykV n wy 1 R D L G gr,.bool ng] w1 (iT w1 2 ng m G)):
  yC 89 #[ykV n wy 1 R D L G gr,.bool ng] w (iT w 2 ng m G):=by
 replace HO:Hid _:=HO;replace HGr:Hid _:=HGr;have ad:=af w (.cells (ykA n wy 1 R D L G gr) 69);have av:=af (w.alloc (.cells (ykA n wy 1 R D L G gr) 69)) (.cells (yvA 0 false yN 0) 100);have d0:=(ah w (ykL n wy 1 R D L G gr) 69).l av;have v0:=ah (w.alloc (.cells (ykA n wy 1 R D L G gr) 69)) (yvL 0 false yN 0) 100;rw[World.size_alloc] at v0;have b0:=aa ad av;clear ad av
 go_enter func89,ntmps89
 go_upto_block 0 with fail
 generalize(w.alloc (.cells (ykA n wy 1 R D L G gr) 69)).alloc (.cells (yvA 0 false yN 0) 100)=W0 at d0 v0 b0⊢;obtain⟨y0,y1,y2,y3,y4,y5,y6,y7⟩:=d0.cs8
 go_wp2_with fail
 refine(HO.out _).mono ?_;rintro z w1 ⟨rfl,b1⟩;have d1:=d0.l b1;have v1:=v0.l b1;have b01:=aa b0 b1;clear y0 y1 y2 y3 y4 y5 y6 y7 d0 v0 b0 b1;obtain⟨y0,y1,y2,y3,y4,y5,y6,y7⟩:=d1.cs8
 go_wp2_with fail
 refine(HGr.out _ b01).mono ?_;rintro z w2 ⟨u,rfl,r2,b2⟩;obtain⟨mo,mc,hu⟩:=r2.shape;subst hu;have v2:=v1.l b2;have b02:=aa b01 b2;clear y0 y1 y2 y3 y4 y5 y6 y7 d1 v1 b01 b2;have cR:au ((((w2.setCell ⟨w.heap.size+1,0,none⟩ (yi 2)).setCell ⟨w.heap.size+1,1,none⟩ (.bool ng)).setCell ⟨w.heap.size+1,2,none⟩ (yT mo m mc)).setCell ⟨w.heap.size+1,3,none⟩ (yi G)) (w.heap.size+1) 100 (yvL 2 ng (yT mo m mc) G):=((((v2.set 0 (yi 2)).set 1 (.bool ng)).set 2 (yT mo m mc)).set 3 (yi G));have bu:=(((ag w2 (w.heap.size+1) 0 (yi 2)).trans (ag _ (w.heap.size+1) 1 (.bool ng))).trans (ag _ (w.heap.size+1) 2 (yT mo m mc))).trans (ag _ (w.heap.size+1) 3 (yi G));have bR:=bu.below b02 (by omega);have rR:=bu.rd r2 (aX r2 v2 (by simp));have hl:=run_loadVar_mid (P:=Tryz.prog) _ (w.heap.size+1) 0 100 (yvL 2 ng (yT mo m mc) G) _ cR.range underlying100 rfl (by kernel_rfl);have HH:Hid (_∧_∧_):=⟨hl,rR,bR⟩;obtain⟨z0,z1,z2,z3⟩:=v2.cs4;have fz0:=v2.f 0;have fz1:=v2.f 1;have fz2:=v2.f 2;have fz3:=v2.f 3;clear hl bR bu cR rR;clear v2 b02 r2
 go_wp2
 obtain⟨hl,rR,bR⟩:=HH.out;exact bodyPost_ret (br results89 rfl hl) rfl ⟨_,rfl,rR,bR⟩
theorem ado (n wy R D L G:Int)(gr ng:Bool)(m:Nat)(w:World)
  (HGr: ∀w1,yB w w1→yC 136 #[ykV n wy 2 R D L G gr,.bool ng] w1 (iT w1 2 ng m G)):
  yC 89 #[ykV n wy 2 R D L G gr,.bool ng] w (iT w 2 ng m G):=by
 replace HGr:Hid _:=HGr;have ad:=af w (.cells (ykA n wy 2 R D L G gr) 69);have av:=af (w.alloc (.cells (ykA n wy 2 R D L G gr) 69)) (.cells (yvA 0 false yN 0) 100);have d0:=(ah w (ykL n wy 2 R D L G gr) 69).l av;have v0:=ah (w.alloc (.cells (ykA n wy 2 R D L G gr) 69)) (yvL 0 false yN 0) 100;rw[World.size_alloc] at v0;have b0:=aa ad av;clear ad av
 go_enter func89,ntmps89
 go_upto_block 0 with fail
 generalize(w.alloc (.cells (ykA n wy 2 R D L G gr) 69)).alloc (.cells (yvA 0 false yN 0) 100)=W0 at d0 v0 b0⊢;obtain⟨y0,y1,y2,y3,y4,y5,y6,y7⟩:=d0.cs8
 go_wp2_with fail
 refine(HGr.out _ b0).mono ?_;rintro z w2 ⟨u,rfl,r2,b2⟩;obtain⟨mo,mc,hu⟩:=r2.shape;subst hu;have v2:=v0.l b2;have b02:=aa b0 b2;clear y0 y1 y2 y3 y4 y5 y6 y7 d0 v0 b0 b2;have cR:au ((((w2.setCell ⟨w.heap.size+1,0,none⟩ (yi 2)).setCell ⟨w.heap.size+1,1,none⟩ (.bool ng)).setCell ⟨w.heap.size+1,2,none⟩ (yT mo m mc)).setCell ⟨w.heap.size+1,3,none⟩ (yi G)) (w.heap.size+1) 100 (yvL 2 ng (yT mo m mc) G):=((((v2.set 0 (yi 2)).set 1 (.bool ng)).set 2 (yT mo m mc)).set 3 (yi G));have bu:=(((ag w2 (w.heap.size+1) 0 (yi 2)).trans (ag _ (w.heap.size+1) 1 (.bool ng))).trans (ag _ (w.heap.size+1) 2 (yT mo m mc))).trans (ag _ (w.heap.size+1) 3 (yi G));have bR:=bu.below b02 (by omega);have rR:=bu.rd r2 (aX r2 v2 (by simp));have hl:=run_loadVar_mid (P:=Tryz.prog) _ (w.heap.size+1) 0 100 (yvL 2 ng (yT mo m mc) G) _ cR.range underlying100 rfl (by kernel_rfl);have HH:Hid (_∧_∧_):=⟨hl,rR,bR⟩;obtain⟨z0,z1,z2,z3⟩:=v2.cs4;have fz0:=v2.f 0;have fz1:=v2.f 1;have fz2:=v2.f 2;have fz3:=v2.f 3;clear hl bR bu cR rR;clear v2 b02 r2
 go_wp2
 obtain⟨hl,rR,bR⟩:=HH.out;exact bodyPost_ret (br results89 rfl hl) rfl ⟨_,rfl,rR,bR⟩
def B6 (w:World)(c:Int)(g:Bool)(m:Nat)(q fl:Int)(z:Ending)(w':World):Prop:=
 ∃v,z= .returned (.tuple #[yvV c g v q,yi fl])∧Rd w' .u32 v (Dg.dg 4294967296 m)∧yB w w'
theorem Lr (n wy fam R D L G pw:Int)(gr ng ex un:Bool)(ao:Option Addr)(la ca:Nat)(c q:Int)(g:Bool)(m:Nat)(w:World)
  (HO: ∀w1,yB w w1→yC 89 #[ykV n wy fam R D L G gr,.bool ng] w1 (iT w1 c g m q)):
  yC 46 #[ykV n wy fam R D L G gr,ypV ng (.slice ao la ca) pw ex true un] w (B6 w c g m q 5):=by
 replace HO:Hid _:=HO;have a1:=af w (.cells (ykA n wy fam R D L G gr) 69);have a2:=af (w.alloc (.cells (ykA n wy fam R D L G gr) 69)) (.cells (ypA ng (.slice ao la ca) pw ex true un) 95);have a3:=af ((w.alloc (.cells (ykA n wy fam R D L G gr) 69)).alloc (.cells (ypA ng (.slice ao la ca) pw ex true un) 95)) (.cells (yvA 0 false yN 0) 100);have d0:=((ah w (ykL n wy fam R D L G gr) 69).l a2).l a3;have p0:=(ah (w.alloc (.cells (ykA n wy fam R D L G gr) 69)) (ypL ng (.slice ao la ca) pw ex true un) 95).l a3;have v0:=ah ((w.alloc (.cells (ykA n wy fam R D L G gr) 69)).alloc (.cells (ypA ng (.slice ao la ca) pw ex true un) 95)) (yvL 0 false yN 0) 100;rw[World.size_alloc] at p0;rw[World.size_alloc,World.size_alloc] at v0;have b0:=aa (aa a1 a2) a3;clear a1 a2 a3
 go_enter func46,ntmps46
 go_upto_block 0 with fail
 generalize((w.alloc (.cells (ykA n wy fam R D L G gr) 69)).alloc (.cells (ypA ng (.slice ao la ca) pw ex true un) 95)).alloc (.cells (yvA 0 false yN 0) 100)=W0 at d0 p0 v0 b0⊢;obtain⟨y0,y1,y2,y3,y4,y5,y6,y7⟩:=d0.cs8;obtain⟨x0,x1,x2,x3,x4,x5⟩:=p0.cs6
 go_wp2_with fail
 refine(HO.out _ b0).mono ?_;rintro z w1 ⟨u,rfl,r1,b1⟩;obtain⟨mo,mc,hu⟩:=r1.shape;subst hu;have v1:=v0.l b1;have b01:=aa b0 b1;clear y0 y1 y2 y3 y4 y5 y6 y7 x0 x1 x2 x3 x4 x5 d0 p0 v0 b0 b1 HO;have cR:au ((((w1.setCell ⟨w.heap.size+1+1,0,none⟩ (yi c)).setCell ⟨w.heap.size+1+1,1,none⟩ (.bool g)).setCell ⟨w.heap.size+1+1,2,none⟩ (yT mo m mc)).setCell ⟨w.heap.size+1+1,3,none⟩ (yi q)) (w.heap.size+1+1) 100 (yvL c g (yT mo m mc) q):=((((v1.set 0 (yi c)).set 1 (.bool g)).set 2 (yT mo m mc)).set 3 (yi q));have bu:=(((ag w1 (w.heap.size+1+1) 0 (yi c)).trans (ag _ (w.heap.size+1+1) 1 (.bool g))).trans (ag _ (w.heap.size+1+1) 2 (yT mo m mc))).trans (ag _ (w.heap.size+1+1) 3 (yi q));have bR:=bu.below b01 (by omega);have rR:=bu.rd r1 (aX r1 v1 (by simp));have hl:=run_loadVar_mid (P:=Tryz.prog) _ (w.heap.size+1+1) 0 100 (yvL c g (yT mo m mc) q) _ cR.range underlying100 rfl (by kernel_rfl);have HH:Hid (_∧_∧_):=⟨hl,rR,bR⟩;obtain⟨z0,z1,z2,z3⟩:=v1.cs4;have fz0:=v1.f 0;have fz1:=v1.f 1;have fz2:=v1.f 2;have fz3:=v1.f 3;clear hl bR bu cR rR;clear v1 b01 r1
 go_wp2
 obtain⟨hl,rR,bR⟩:=HH.out;exact bodyPost_ret (aj results46 rfl rfl hl) rfl ⟨_,rfl,rR,bR⟩
theorem OU (n wy fam R D L G pw:Int)(gr ng ex:Bool)(ao:Option Addr)(la ca:Nat)(w:World)(hlt:pw<L):
  yC 46 #[ykV n wy fam R D L G gr,ypV ng (.slice ao la ca) pw ex false true] w (B6 w 1 false 0 0 3):=by
 have a1:=af w (.cells (ykA n wy fam R D L G gr) 69);have a2:=af (w.alloc (.cells (ykA n wy fam R D L G gr) 69)) (.cells (ypA ng (.slice ao la ca) pw ex false true) 95);have a3:=af ((w.alloc (.cells (ykA n wy fam R D L G gr) 69)).alloc (.cells (ypA ng (.slice ao la ca) pw ex false true) 95)) (.cells (yvA 0 false yN 0) 100);have d0:=((ah w (ykL n wy fam R D L G gr) 69).l a2).l a3;have p0:=(ah (w.alloc (.cells (ykA n wy fam R D L G gr) 69)) (ypL ng (.slice ao la ca) pw ex false true) 95).l a3;have v0:=ah ((w.alloc (.cells (ykA n wy fam R D L G gr) 69)).alloc (.cells (ypA ng (.slice ao la ca) pw ex false true) 95)) (yvL 0 false yN 0) 100;rw[World.size_alloc] at p0;rw[World.size_alloc,World.size_alloc] at v0;have b0:=aa (aa a1 a2) a3;clear a1 a2 a3
 go_enter func46,ntmps46
 go_upto_block 0 with fail
 generalize((w.alloc (.cells (ykA n wy fam R D L G gr) 69)).alloc (.cells (ypA ng (.slice ao la ca) pw ex false true) 95)).alloc (.cells (yvA 0 false yN 0) 100)=W0 at d0 p0 v0 b0⊢;obtain⟨x0,x1,x2,x3,x4,x5⟩:=p0.cs6;have y5:=d0.c 5 rfl;have cR:au ((((W0.setCell ⟨w.heap.size+1+1,0,none⟩ (yi 1)).setCell ⟨w.heap.size+1+1,1,none⟩ (.bool false)).setCell ⟨w.heap.size+1+1,2,none⟩ yN).setCell ⟨w.heap.size+1+1,3,none⟩ (yi 0)) (w.heap.size+1+1) 100 (yvL 1 false yN 0):=((((v0.set 0 (yi 1)).set 1 (.bool false)).set 2 yN).set 3 (yi 0));have bu:=(((ag W0 (w.heap.size+1+1) 0 (yi 1)).trans (ag _ (w.heap.size+1+1) 1 (.bool false))).trans (ag _ (w.heap.size+1+1) 2 yN)).trans (ag _ (w.heap.size+1+1) 3 (yi 0));have bR:=bu.below b0 (by omega);have hl:=run_loadVar_mid (P:=Tryz.prog) _ (w.heap.size+1+1) 0 100 (yvL 1 false yN 0) _ cR.range underlying100 rfl (by kernel_rfl);have HH:Hid (_∧_):=⟨hl,bR⟩;obtain⟨z0,z1,z2,z3⟩:=v0.cs4;have fz0:=v0.f 0;have fz1:=v0.f 1;have fz2:=v0.f 2;have fz3:=v0.f 3;clear hl bR bu cR;clear v0 b0 d0 p0
 go_wp2
 obtain⟨hl,bR⟩:=HH.out;exact bodyPost_ret (aj results46 rfl rfl hl) rfl ⟨_,rfl,aN _ _,bR⟩
theorem Id (n wy fam R D L G pw:Int)(gr ng ex un:Bool)(ao:Option Addr)(la ca:Nat)(m:Nat)(w:World)(hla:la=(Dg.dg 4294967296 m).length)(hr:Rd w .u32 (.slice ao la ca) (Dg.dg 4294967296 m))(hlt:un=true→ ¬pw<L)(cl fl:Int)(hcl:cl=if la=0 then 1 else 2)(hfl:fl=if ex=true then 0 else if un=true then 3 else 1):
  yC 46 #[ykV n wy fam R D L G gr,ypV ng (.slice ao la ca) pw ex false un] w (B6 w cl ng m pw fl):=by
 have HE:Hid (la=(Dg.dg 4294967296 m).length∧cl=(if la=0 then 1 else 2)∧fl=if ex=true then 0 else if un=true then 3 else 1):=⟨hla,hcl,hfl⟩
 clear hcl hfl hla;have a1:=af w (.cells (ykA n wy fam R D L G gr) 69);have a2:=af (w.alloc (.cells (ykA n wy fam R D L G gr) 69)) (.cells (ypA ng (.slice ao la ca) pw ex false un) 95);have a3:=af ((w.alloc (.cells (ykA n wy fam R D L G gr) 69)).alloc (.cells (ypA ng (.slice ao la ca) pw ex false un) 95)) (.cells (yvA 0 false yN 0) 100);have d0:=((ah w (ykL n wy fam R D L G gr) 69).l a2).l a3;have p0:=(ah (w.alloc (.cells (ykA n wy fam R D L G gr) 69)) (ypL ng (.slice ao la ca) pw ex false un) 95).l a3;have v0:=ah ((w.alloc (.cells (ykA n wy fam R D L G gr) 69)).alloc (.cells (ypA ng (.slice ao la ca) pw ex false un) 95)) (yvL 0 false yN 0) 100;rw[World.size_alloc] at p0;rw[World.size_alloc,World.size_alloc] at v0;have b0:=aa (aa a1 a2) a3;clear a1 a2 a3
 go_enter func46,ntmps46
 go_upto_block 0 with fail
 generalize((w.alloc (.cells (ykA n wy fam R D L G gr) 69)).alloc (.cells (ypA ng (.slice ao la ca) pw ex false un) 95)).alloc (.cells (yvA 0 false yN 0) 100)=W0 at d0 p0 v0 b0⊢;have r0:=hr.l b0;clear hr;have al:=af W0 (.cells (yvA 2 ng (.slice ao la ca) pw) 100);have q1:=ah W0 (yvL 2 ng (.slice ao la ca) pw) 100;have p1:=p0.l al;have v1:=v0.l al;have r1:=r0.l al;have b1:=aa b0 al;have hq:w.heap.size+1+1<W0.heap.size:=v0.lt;have hne:W0.heap.size≠w.heap.size+1:=by omega
 obtain⟨x0,x1,x2,x3,x4,x5⟩:=p0.cs6;have y5:=d0.c 5 rfl;clear al p0 v0 b0 r0;have go: ∀UU,UU=un→(UU=false∨(UU=true∧ ¬pw<L)):=fun UU h=>by
  subst h
  cases UU
  ·exact .inl rfl
  ·exact .inr ⟨rfl,hlt rfl⟩
 rcases go un rfl with hun| ⟨hun,hl0⟩
 ·subst hun
  clear hlt go
  go_upto_region 6 with fail
  generalize W0.alloc (.cells (yvA 2 ng (.slice ao la ca) pw) 100)=WA at q1 p1 v1 r1 b1⊢;generalize W0.heap.size=Q at q1 hq hne⊢;clear x0 x1 x2 x3 x4 x5 y5 d0;obtain⟨x0,x1,x2,x3,x4,x5⟩:=p1.cs6
  by_cases hz:la=0
  ·have hz1:(((la:Nat):Int)==0)=true:=by rw[hz];rfl
   have hcl:cl=1:=by rw[HE.out.2.1,if_pos hz]
   subst hcl;clear hz;have c0:=q1.c 0 rfl;have f0:=q1.f 0;have bq:=ag WA Q 0 (yi 1);have q2:au (WA.setCell ⟨Q,0,none⟩ (yi 1)) Q 100 (yvL 1 ng (.slice ao la ca) pw):=q1.set 0 (yi 1);have p2:=bq.loc p1 (by omega);have v2:=bq.loc v1 (by omega);have r2:=bq.rd r1 (aX r1 q1 (by simp));have b2:=bq.below b1 (by omega)
   go_upto_block 1 with fail
   generalize WA.setCell ⟨Q,0,none⟩ (yi 1)=W1 at q2 p2 v2 r2 b2⊢;clear c0 f0 bq q1 p1 v1 r1 b1 x0 x1 x2 x3 x4 x5 hz1;obtain⟨x0,x1,x2,x3,x4,x5⟩:=p2.cs6;clear p2
   cases ex
   ·have hfl:fl=1:=HE.out.2.2
    subst hfl;clear HE;have cR:au ((((W1.setCell ⟨w.heap.size+1+1,0,none⟩ (yi 1)).setCell ⟨w.heap.size+1+1,1,none⟩ (.bool ng)).setCell ⟨w.heap.size+1+1,2,none⟩ (.slice ao la ca)).setCell ⟨w.heap.size+1+1,3,none⟩ (yi pw)) (w.heap.size+1+1) 100 (yvL 1 ng (.slice ao la ca) pw):=((((v2.set 0 (yi 1)).set 1 (.bool ng)).set 2 (.slice ao la ca)).set 3 (yi pw));have bu:=(((ag W1 (w.heap.size+1+1) 0 (yi 1)).trans (ag _ (w.heap.size+1+1) 1 (.bool ng))).trans (ag _ (w.heap.size+1+1) 2 (.slice ao la ca))).trans (ag _ (w.heap.size+1+1) 3 (yi pw));have bR:=bu.below b2 (by omega);have rR:=bu.rd r2 (aX r2 v2 (by simp));have hl:=run_loadVar_mid (P:=Tryz.prog) _ (w.heap.size+1+1) 0 100 (yvL 1 ng (.slice ao la ca) pw) _ cR.range underlying100 rfl (by kernel_rfl);have HH:Hid (_∧_∧_):=⟨hl,rR,bR⟩;obtain⟨z0,z1,z2,z3⟩:=v2.cs4;have fz0:=v2.f 0;have fz1:=v2.f 1;have fz2:=v2.f 2;have fz3:=v2.f 3;clear hl bR bu cR rR;obtain⟨k0,k1,k2,k3⟩:=q2.cs4;clear v2 b2 r2 q2
    go_wp2
    obtain⟨hl,rR,bR⟩:=HH.out;exact bodyPost_ret (aj results46 rfl rfl hl) rfl ⟨_,rfl,rR,bR⟩
   ·have hfl:fl=0:=HE.out.2.2
    subst hfl;clear HE;have cR:au ((((W1.setCell ⟨w.heap.size+1+1,0,none⟩ (yi 1)).setCell ⟨w.heap.size+1+1,1,none⟩ (.bool ng)).setCell ⟨w.heap.size+1+1,2,none⟩ (.slice ao la ca)).setCell ⟨w.heap.size+1+1,3,none⟩ (yi pw)) (w.heap.size+1+1) 100 (yvL 1 ng (.slice ao la ca) pw):=((((v2.set 0 (yi 1)).set 1 (.bool ng)).set 2 (.slice ao la ca)).set 3 (yi pw));have bu:=(((ag W1 (w.heap.size+1+1) 0 (yi 1)).trans (ag _ (w.heap.size+1+1) 1 (.bool ng))).trans (ag _ (w.heap.size+1+1) 2 (.slice ao la ca))).trans (ag _ (w.heap.size+1+1) 3 (yi pw));have bR:=bu.below b2 (by omega);have rR:=bu.rd r2 (aX r2 v2 (by simp));have hl:=run_loadVar_mid (P:=Tryz.prog) _ (w.heap.size+1+1) 0 100 (yvL 1 ng (.slice ao la ca) pw) _ cR.range underlying100 rfl (by kernel_rfl);have HH:Hid (_∧_∧_):=⟨hl,rR,bR⟩;obtain⟨z0,z1,z2,z3⟩:=v2.cs4;have fz0:=v2.f 0;have fz1:=v2.f 1;have fz2:=v2.f 2;have fz3:=v2.f 3;clear hl bR bu cR rR;obtain⟨k0,k1,k2,k3⟩:=q2.cs4;clear v2 b2 r2 q2
    go_wp2
    obtain⟨hl,rR,bR⟩:=HH.out;exact bodyPost_ret (aj results46 rfl rfl hl) rfl ⟨_,rfl,rR,bR⟩
  ·have hz1:(((la:Nat):Int)==0)=false:=beq_eq_false_iff_ne.2 (by omega)
   have hcl:cl=2:=by rw[HE.out.2.1,if_neg hz]
   subst hcl;clear hz
   go_upto_block 1 with fail
   have q2:=q1;have v2:=v1;have r2:=r1;have b2:=b1;clear q1 v1 r1 b1 p1 hz1;generalize WA=W1 at*
   cases ex
   ·have hfl:fl=1:=HE.out.2.2
    subst hfl;clear HE;have cR:au ((((W1.setCell ⟨w.heap.size+1+1,0,none⟩ (yi 2)).setCell ⟨w.heap.size+1+1,1,none⟩ (.bool ng)).setCell ⟨w.heap.size+1+1,2,none⟩ (.slice ao la ca)).setCell ⟨w.heap.size+1+1,3,none⟩ (yi pw)) (w.heap.size+1+1) 100 (yvL 2 ng (.slice ao la ca) pw):=((((v2.set 0 (yi 2)).set 1 (.bool ng)).set 2 (.slice ao la ca)).set 3 (yi pw));have bu:=(((ag W1 (w.heap.size+1+1) 0 (yi 2)).trans (ag _ (w.heap.size+1+1) 1 (.bool ng))).trans (ag _ (w.heap.size+1+1) 2 (.slice ao la ca))).trans (ag _ (w.heap.size+1+1) 3 (yi pw));have bR:=bu.below b2 (by omega);have rR:=bu.rd r2 (aX r2 v2 (by simp));have hl:=run_loadVar_mid (P:=Tryz.prog) _ (w.heap.size+1+1) 0 100 (yvL 2 ng (.slice ao la ca) pw) _ cR.range underlying100 rfl (by kernel_rfl);have HH:Hid (_∧_∧_):=⟨hl,rR,bR⟩;obtain⟨z0,z1,z2,z3⟩:=v2.cs4;have fz0:=v2.f 0;have fz1:=v2.f 1;have fz2:=v2.f 2;have fz3:=v2.f 3;clear hl bR bu cR rR;obtain⟨k0,k1,k2,k3⟩:=q2.cs4;clear v2 b2 r2 q2
    go_wp2
    obtain⟨hl,rR,bR⟩:=HH.out;exact bodyPost_ret (aj results46 rfl rfl hl) rfl ⟨_,rfl,rR,bR⟩
   ·have hfl:fl=0:=HE.out.2.2
    subst hfl;clear HE;have cR:au ((((W1.setCell ⟨w.heap.size+1+1,0,none⟩ (yi 2)).setCell ⟨w.heap.size+1+1,1,none⟩ (.bool ng)).setCell ⟨w.heap.size+1+1,2,none⟩ (.slice ao la ca)).setCell ⟨w.heap.size+1+1,3,none⟩ (yi pw)) (w.heap.size+1+1) 100 (yvL 2 ng (.slice ao la ca) pw):=((((v2.set 0 (yi 2)).set 1 (.bool ng)).set 2 (.slice ao la ca)).set 3 (yi pw));have bu:=(((ag W1 (w.heap.size+1+1) 0 (yi 2)).trans (ag _ (w.heap.size+1+1) 1 (.bool ng))).trans (ag _ (w.heap.size+1+1) 2 (.slice ao la ca))).trans (ag _ (w.heap.size+1+1) 3 (yi pw));have bR:=bu.below b2 (by omega);have rR:=bu.rd r2 (aX r2 v2 (by simp));have hl:=run_loadVar_mid (P:=Tryz.prog) _ (w.heap.size+1+1) 0 100 (yvL 2 ng (.slice ao la ca) pw) _ cR.range underlying100 rfl (by kernel_rfl);have HH:Hid (_∧_∧_):=⟨hl,rR,bR⟩;obtain⟨z0,z1,z2,z3⟩:=v2.cs4;have fz0:=v2.f 0;have fz1:=v2.f 1;have fz2:=v2.f 2;have fz3:=v2.f 3;clear hl bR bu cR rR;obtain⟨k0,k1,k2,k3⟩:=q2.cs4;clear v2 b2 r2 q2
    go_wp2
    obtain⟨hl,rR,bR⟩:=HH.out;exact bodyPost_ret (aj results46 rfl rfl hl) rfl ⟨_,rfl,rR,bR⟩
 ·subst hun
  clear hlt go
  go_upto_region 6 with fail
  generalize W0.alloc (.cells (yvA 2 ng (.slice ao la ca) pw) 100)=WA at q1 p1 v1 r1 b1⊢;generalize W0.heap.size=Q at q1 hq hne⊢;clear x0 x1 x2 x3 x4 x5 y5 d0;obtain⟨x0,x1,x2,x3,x4,x5⟩:=p1.cs6
  by_cases hz:la=0
  ·have hz1:(((la:Nat):Int)==0)=true:=by rw[hz];rfl
   have hcl:cl=1:=by rw[HE.out.2.1,if_pos hz]
   subst hcl;clear hz;have c0:=q1.c 0 rfl;have f0:=q1.f 0;have bq:=ag WA Q 0 (yi 1);have q2:au (WA.setCell ⟨Q,0,none⟩ (yi 1)) Q 100 (yvL 1 ng (.slice ao la ca) pw):=q1.set 0 (yi 1);have p2:=bq.loc p1 (by omega);have v2:=bq.loc v1 (by omega);have r2:=bq.rd r1 (aX r1 q1 (by simp));have b2:=bq.below b1 (by omega)
   go_upto_block 1 with fail
   generalize WA.setCell ⟨Q,0,none⟩ (yi 1)=W1 at q2 p2 v2 r2 b2⊢;clear c0 f0 bq q1 p1 v1 r1 b1 x0 x1 x2 x3 x4 x5 hz1;obtain⟨x0,x1,x2,x3,x4,x5⟩:=p2.cs6;clear p2
   cases ex
   ·have hfl:fl=3:=HE.out.2.2
    subst hfl;clear HE;have cR:au ((((W1.setCell ⟨w.heap.size+1+1,0,none⟩ (yi 1)).setCell ⟨w.heap.size+1+1,1,none⟩ (.bool ng)).setCell ⟨w.heap.size+1+1,2,none⟩ (.slice ao la ca)).setCell ⟨w.heap.size+1+1,3,none⟩ (yi pw)) (w.heap.size+1+1) 100 (yvL 1 ng (.slice ao la ca) pw):=((((v2.set 0 (yi 1)).set 1 (.bool ng)).set 2 (.slice ao la ca)).set 3 (yi pw));have bu:=(((ag W1 (w.heap.size+1+1) 0 (yi 1)).trans (ag _ (w.heap.size+1+1) 1 (.bool ng))).trans (ag _ (w.heap.size+1+1) 2 (.slice ao la ca))).trans (ag _ (w.heap.size+1+1) 3 (yi pw));have bR:=bu.below b2 (by omega);have rR:=bu.rd r2 (aX r2 v2 (by simp));have hl:=run_loadVar_mid (P:=Tryz.prog) _ (w.heap.size+1+1) 0 100 (yvL 1 ng (.slice ao la ca) pw) _ cR.range underlying100 rfl (by kernel_rfl);have HH:Hid (_∧_∧_):=⟨hl,rR,bR⟩;obtain⟨z0,z1,z2,z3⟩:=v2.cs4;have fz0:=v2.f 0;have fz1:=v2.f 1;have fz2:=v2.f 2;have fz3:=v2.f 3;clear hl bR bu cR rR;obtain⟨k0,k1,k2,k3⟩:=q2.cs4;clear v2 b2 r2 q2
    go_wp2
    obtain⟨hl,rR,bR⟩:=HH.out;exact bodyPost_ret (aj results46 rfl rfl hl) rfl ⟨_,rfl,rR,bR⟩
   ·have hfl:fl=0:=HE.out.2.2
    subst hfl;clear HE;have cR:au ((((W1.setCell ⟨w.heap.size+1+1,0,none⟩ (yi 1)).setCell ⟨w.heap.size+1+1,1,none⟩ (.bool ng)).setCell ⟨w.heap.size+1+1,2,none⟩ (.slice ao la ca)).setCell ⟨w.heap.size+1+1,3,none⟩ (yi pw)) (w.heap.size+1+1) 100 (yvL 1 ng (.slice ao la ca) pw):=((((v2.set 0 (yi 1)).set 1 (.bool ng)).set 2 (.slice ao la ca)).set 3 (yi pw));have bu:=(((ag W1 (w.heap.size+1+1) 0 (yi 1)).trans (ag _ (w.heap.size+1+1) 1 (.bool ng))).trans (ag _ (w.heap.size+1+1) 2 (.slice ao la ca))).trans (ag _ (w.heap.size+1+1) 3 (yi pw));have bR:=bu.below b2 (by omega);have rR:=bu.rd r2 (aX r2 v2 (by simp));have hl:=run_loadVar_mid (P:=Tryz.prog) _ (w.heap.size+1+1) 0 100 (yvL 1 ng (.slice ao la ca) pw) _ cR.range underlying100 rfl (by kernel_rfl);have HH:Hid (_∧_∧_):=⟨hl,rR,bR⟩;obtain⟨z0,z1,z2,z3⟩:=v2.cs4;have fz0:=v2.f 0;have fz1:=v2.f 1;have fz2:=v2.f 2;have fz3:=v2.f 3;clear hl bR bu cR rR;obtain⟨k0,k1,k2,k3⟩:=q2.cs4;clear v2 b2 r2 q2
    go_wp2
    obtain⟨hl,rR,bR⟩:=HH.out;exact bodyPost_ret (aj results46 rfl rfl hl) rfl ⟨_,rfl,rR,bR⟩
  ·have hz1:(((la:Nat):Int)==0)=false:=beq_eq_false_iff_ne.2 (by omega)
   have hcl:cl=2:=by rw[HE.out.2.1,if_neg hz]
   subst hcl;clear hz
   go_upto_block 1 with fail
   have q2:=q1;have v2:=v1;have r2:=r1;have b2:=b1;clear q1 v1 r1 b1 p1 hz1;generalize WA=W1 at*
   cases ex
   ·have hfl:fl=3:=HE.out.2.2
    subst hfl;clear HE;have cR:au ((((W1.setCell ⟨w.heap.size+1+1,0,none⟩ (yi 2)).setCell ⟨w.heap.size+1+1,1,none⟩ (.bool ng)).setCell ⟨w.heap.size+1+1,2,none⟩ (.slice ao la ca)).setCell ⟨w.heap.size+1+1,3,none⟩ (yi pw)) (w.heap.size+1+1) 100 (yvL 2 ng (.slice ao la ca) pw):=((((v2.set 0 (yi 2)).set 1 (.bool ng)).set 2 (.slice ao la ca)).set 3 (yi pw));have bu:=(((ag W1 (w.heap.size+1+1) 0 (yi 2)).trans (ag _ (w.heap.size+1+1) 1 (.bool ng))).trans (ag _ (w.heap.size+1+1) 2 (.slice ao la ca))).trans (ag _ (w.heap.size+1+1) 3 (yi pw));have bR:=bu.below b2 (by omega);have rR:=bu.rd r2 (aX r2 v2 (by simp));have hl:=run_loadVar_mid (P:=Tryz.prog) _ (w.heap.size+1+1) 0 100 (yvL 2 ng (.slice ao la ca) pw) _ cR.range underlying100 rfl (by kernel_rfl);have HH:Hid (_∧_∧_):=⟨hl,rR,bR⟩;obtain⟨z0,z1,z2,z3⟩:=v2.cs4;have fz0:=v2.f 0;have fz1:=v2.f 1;have fz2:=v2.f 2;have fz3:=v2.f 3;clear hl bR bu cR rR;obtain⟨k0,k1,k2,k3⟩:=q2.cs4;clear v2 b2 r2 q2
    go_wp2
    obtain⟨hl,rR,bR⟩:=HH.out;exact bodyPost_ret (aj results46 rfl rfl hl) rfl ⟨_,rfl,rR,bR⟩
   ·have hfl:fl=0:=HE.out.2.2
    subst hfl;clear HE;have cR:au ((((W1.setCell ⟨w.heap.size+1+1,0,none⟩ (yi 2)).setCell ⟨w.heap.size+1+1,1,none⟩ (.bool ng)).setCell ⟨w.heap.size+1+1,2,none⟩ (.slice ao la ca)).setCell ⟨w.heap.size+1+1,3,none⟩ (yi pw)) (w.heap.size+1+1) 100 (yvL 2 ng (.slice ao la ca) pw):=((((v2.set 0 (yi 2)).set 1 (.bool ng)).set 2 (.slice ao la ca)).set 3 (yi pw));have bu:=(((ag W1 (w.heap.size+1+1) 0 (yi 2)).trans (ag _ (w.heap.size+1+1) 1 (.bool ng))).trans (ag _ (w.heap.size+1+1) 2 (.slice ao la ca))).trans (ag _ (w.heap.size+1+1) 3 (yi pw));have bR:=bu.below b2 (by omega);have rR:=bu.rd r2 (aX r2 v2 (by simp));have hl:=run_loadVar_mid (P:=Tryz.prog) _ (w.heap.size+1+1) 0 100 (yvL 2 ng (.slice ao la ca) pw) _ cR.range underlying100 rfl (by kernel_rfl);have HH:Hid (_∧_∧_):=⟨hl,rR,bR⟩;obtain⟨z0,z1,z2,z3⟩:=v2.cs4;have fz0:=v2.f 0;have fz1:=v2.f 1;have fz2:=v2.f 2;have fz3:=v2.f 3;clear hl bR bu cR rR;obtain⟨k0,k1,k2,k3⟩:=q2.cs4;clear v2 b2 r2 q2
    go_wp2
    obtain⟨hl,rR,bR⟩:=HH.out;exact bodyPost_ret (aj results46 rfl rfl hl) rfl ⟨_,rfl,rR,bR⟩
def d8 (s:Bool)(m:Nat)(e:Int)(left:Bool):ak:=⟨s,m*2+(if left=true then 1 else 0),e-1⟩
theorem xG (s:Bool)(v:Value)(m:Nat)(e:Int)(left:Bool)(w:World)(hr:Rd w .u32 v (Dg.dg 4294967296 m))(hL:(Dg.dg 4294967296 m).length≤500000)(he1: -2000000≤e)(he2:e≤2000000):
  yC 140 #[.bool s,v,yi e,.bool left] w (jN w (d8 s m e left)):=by
 have HSH:Hid (∀w1,yB w w1→yC 130 #[v,yi 1] w1 (Num w1 (m*2))):=fun w1 b1=>by
  have:=eO v _ 1 w1 (hr.l b1) (Dg.small_dg _ _ (by omega)) (by omega) (by omega) (by omega);rw[Dg.vl_dg _ _ (by omega)] at this;exact this
 have hl2:(Dg.dg 4294967296 (m*2)).length≤500001:=by
  have:=CF m 1 500000 1 hL (by omega)
  rwa [Nat.pow_one] at this
 have HP1:Hid (∀v1 v2 w1,Rd w1 .u32 v1 (Dg.dg 4294967296 (m*2))→Rd w1 .u32 v2 [1]→yC 107 #[v1,v2] w1 (Num w1 (m*2+1))):=fun v1 v2 w1 h1 h2=>by
  have:=rj v1 v2 _ _ w1 h1 h2 (Dg.small_dg _ _ (by omega)) (Dg.small_cons.2 ⟨by omega,Dg.small_nil _ (by omega)⟩) (by omega) (by simp)
  rwa [Dg.vl_dg _ _ (by omega),show Dg.vl 4294967296 [1]=1 from rfl] at this
 obtain⟨ao,ca,rfl⟩:=hr.shape;obtain⟨l,hl⟩: ∃l,(Dg.dg 4294967296 m).length=l:=⟨_,rfl⟩;rw[hl] at HSH⊢;have bA:=af w (.cells (ydA false yN 0) 74);have l2:=aA w (.bool false) yN (yi 0) 74;have hew:IntKind.i64.wrap (e-1)=e-1:=IntWalk.i64_in _ ⟨by omega,by omega⟩;unfold d8;clear hr hL hl hl2
 cases left
 ·rw[if_neg (by decide),Nat.add_zero]
  go_enter func140,ntmps140
  go_wp2_with fail
  refine(HSH.out _ bA).mono ?_;rintro z w1 ⟨v1,rfl,o1,b1⟩;have o1:=o1.lower (show w.heap.size+1≤_ by simp[World.size_alloc])
  replace l2:=l2.l b1;replace bA:=aa bA b1;obtain⟨so,sc,hvr⟩:=o1.rd.shape;subst hvr;clear b1
  go_wp2_with fail
  refine(l9 s so (Dg.dg 4294967296 (m*2)).length sc (e-1) _).mono ?_;rintro z w8 ⟨rfl,b8⟩;replace l2:=l2.l b8;replace bA:=aa bA b8;replace o1:=o1.l b8;clear b8;obtain⟨hl2,⟨d0,d1,d2⟩,f0,f1,f2⟩:=id l2;obtain⟨-,⟨g0,g1,g2⟩,-⟩:=aD l2 (.bool s) (.slice so (Dg.dg 4294967296 (m*2)).length sc) (yi (e-1));have o7:=o1.apart3 (b:=w.heap.size) (by omega) (.bool s) (.slice so (Dg.dg 4294967296 (m*2)).length sc) (yi (e-1));have b9:=am bA (Nat.le_refl _) (.bool s) (.slice so (Dg.dg 4294967296 (m*2)).length sc) (yi (e-1))
  go_wp2
  refine bodyPost_ret (v:=(ydV s (.slice so (Dg.dg 4294967296 (m*2)).length sc) (e-1))) (by simp[results,results140,go_sem,g0,g1,g2]) rfl ?_;exact⟨_,rfl,o7.lower (by omega),b9⟩
 ·rw[if_pos rfl]
  go_enter func140,ntmps140
  go_wp2_with fail
  refine(HSH.out _ bA).mono ?_;rintro z w1 ⟨v1,rfl,o1,b1⟩;replace l2:=l2.l b1;replace bA:=aa bA b1;have b7:=af w1 (.cells #[.int .u32 ((1:Nat):Int)] 148);have rn:=cE (w:=w1) (k:= .u32) (e:=148) [1] #[.int .u32 ((1:Nat):Int)] rfl (by unfold maxLen;simp);have hpl:=HP1.out _ _ _ (o1.rd.l b7) rn;replace l2:=l2.l b7;replace bA:=aa bA b7;have hsz:=l2.1;clear b1 b7 rn o1
  go_wp2_with fail
  refine hpl.mono ?_;rintro z w3 ⟨v3,rfl,o1,b3⟩;have o1:=o1.lower (show w.heap.size+1≤_ from hsz)
  replace l2:=l2.l b3;replace bA:=aa bA b3;obtain⟨so,sc,hvr⟩:=o1.rd.shape;subst hvr;clear b3 hpl
  go_wp2_with fail
  refine(l9 s so (Dg.dg 4294967296 (m*2+1)).length sc (e-1) _).mono ?_;rintro z w8 ⟨rfl,b8⟩;replace l2:=l2.l b8;replace bA:=aa bA b8;replace o1:=o1.l b8;clear b8;obtain⟨hl2,⟨d0,d1,d2⟩,f0,f1,f2⟩:=id l2;obtain⟨-,⟨g0,g1,g2⟩,-⟩:=aD l2 (.bool s) (.slice so (Dg.dg 4294967296 (m*2+1)).length sc) (yi (e-1));have o7:=o1.apart3 (b:=w.heap.size) (by omega) (.bool s) (.slice so (Dg.dg 4294967296 (m*2+1)).length sc) (yi (e-1));have b9:=am bA (Nat.le_refl _) (.bool s) (.slice so (Dg.dg 4294967296 (m*2+1)).length sc) (yi (e-1))
  go_wp2
  refine bodyPost_ret (v:=(ydV s (.slice so (Dg.dg 4294967296 (m*2+1)).length sc) (e-1))) (by simp[results,results140,go_sem,g0,g1,g2]) rfl ?_;exact⟨_,rfl,o7.lower (by omega),b9⟩
def eQ (t:ak):ak:=if bitLen t.n≤128 then t else d8 t.s (t.n/2^ (bitLen t.n-128)) (t.e+((bitLen t.n-128:Nat):Int)) (decide (tz t.n<bitLen t.n-128))
theorem EQ (t:ak)(to0:Option Addr)(tc:Nat)(w:World)(hr:Rd w .u32 (yT to0 t.n tc) (Dg.dg 4294967296 t.n))(hL:(Dg.dg 4294967296 t.n).length≤100000)(hb:bitLen t.n≤128):
  yC 144 #[yDV t to0 tc,yi 128] w (yR w (yDV t to0 tc)):=by
 have HD:Hid (yJ 115 #[yDV t to0 tc] (yT to0 t.n tc)):=fun w1=>cN _ _ _ _ _ w1
 have HB:Hid (∀w1,yB w w1→yC 138 #[yT to0 t.n tc] w1 fun e w'=>e= .returned (yi ((bitLen t.n:Nat):Int))∧w'=w1):=fun w1 b=>by
  have:=kE _ _ w1 (hr.l b) (Dg.small_dg 4294967296 _ (by omega)) (Dg.norm_dg 4294967296 _ (by omega)) (by omega);rw[Dg.vl_dg _ _ (by omega)] at this;exact this
 have ax:=af w (.cells (yDA t to0 tc) 74);have ao:=af (w.alloc (.cells (yDA t to0 tc) 74)) (.cells (ydA false yN 0) 74);have x0:=(ah w (yDL t to0 tc) 74).l ao;have o0:=ah (w.alloc (.cells (yDA t to0 tc) 74)) (ydL false yN 0) 74;rw[World.size_alloc] at o0;have b0:=aa ax ao;clear ax ao hr hL;generalize bitLen t.n=k at*;have hk:IntKind.i64.wrap ((k:Int)-128)=(k:Int)-128:=IntWalk.i64_in _ ⟨by omega,by omega⟩;have hle:(k:Int)-128≤0:=by omega
 go_enter func144,ntmps144
 go_upto_region 1 with fail
 generalize(w.alloc (.cells (yDA t to0 tc) 74)).alloc (.cells (ydA false yN 0) 74)=W0 at x0 o0 b0⊢;obtain⟨y0,y1,y2⟩:=x0.cs3
 go_wp2_with fail
 refine(HD.out _).mono ?_;rintro z w1 ⟨rfl,b1⟩;have x1:=x0.l b1;have o1:=o0.l b1;have b01:=aa b0 b1;clear y0 y1 y2 x0 o0 b0 b1 HD
 go_wp2_with fail
 refine(HB.out _ b01).mono ?_;rintro z w2 ⟨rfl,rfl⟩;clear HB;obtain⟨y0,y1,y2⟩:=x1.cs3;have cR:au (((w2.setCell ⟨w.heap.size+1,0,none⟩ (.bool t.s)).setCell ⟨w.heap.size+1,1,none⟩ (yT to0 t.n tc)).setCell ⟨w.heap.size+1,2,none⟩ (yi t.e)) (w.heap.size+1) 74 (yDL t to0 tc):=(((o1.set 0 (.bool t.s)).set 1 (yT to0 t.n tc)).set 2 (yi t.e));have bu:=((ag w2 (w.heap.size+1) 0 (.bool t.s)).trans (ag _ (w.heap.size+1) 1 (yT to0 t.n tc))).trans (ag _ (w.heap.size+1) 2 (yi t.e));have bR:=bu.below b01 (by omega);have hl:=run_loadVar_mid (P:=Tryz.prog) _ (w.heap.size+1) 0 74 (yDL t to0 tc) _ cR.range underlying74 rfl (by kernel_rfl);have HH:Hid (_∧_):=⟨hl,bR⟩;obtain⟨z0,z1,z2⟩:=o1.cs3;have fz0:=o1.f 0;have fz1:=o1.f 1;have fz2:=o1.f 2;clear hl bR bu cR;clear o1 b01 x1
 go_wp2
 obtain⟨hl,bR⟩:=HH.out;exact bodyPost_ret (br results144 rfl hl) rfl ⟨rfl,bR⟩
end Go.Proofs.YtbdokgamhinajaaGreatDoor

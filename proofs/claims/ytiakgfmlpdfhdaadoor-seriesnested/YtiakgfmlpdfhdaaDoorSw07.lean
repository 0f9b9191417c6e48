/-
  Texts laid together: Se7.
-/
import Derived.Test.YtiakgfmlpdfhdaaDoorSw02
import Derived.Test.YtiakgfmlpdfhdaaDoorSw05
set_option maxRecDepth 100000
set_option maxHeartbeats 3200000
namespace Go.Proofs.YtiakgfmlpdfhdaaDoor
open Go.RowKit
theorem serSeriesPis_e1 (b:Int)(w:World)(h:b<10)
  (HA: ∀w1,yB w w1→yC 7 #[yi b] w1 fun z w'=> ∃po pc qo qc,z= .returned (.tuple #[.agg #[.bool false,.slice po 0 pc,yi 0,.bool false,.slice qo 0 qc,yi 0],yi 3])∧Hid (pc≤maxLen∧qc≤maxLen)∧yB w1 w')
  (HB:yH w 8 #[] (.bool true))
  (HS: ∀po pc qo qc w1,Hid (pc≤maxLen∧qc≤maxLen)→yB w w1→yC 9 #[.agg #[.bool false,.slice po 0 pc,yi 0,.bool false,.slice qo 0 qc,yi 0],.agg #[.bool false,yN,yi 0,.bool false,yN,yi 0]] w1 (yR w1 (.bool true))):
  yC 3 #[yi b] w (yR w (.bool true)):=by
 replace HA:Hid _:=HA;replace HB:Hid _:=HB;replace HS:Hid _:=HS
 go_enter Tryd.func3,Tryd.ntmps3
 have b0:=Below.refl w.heap.size w
 go_wp2_with fail
 refine(HA.out _ b0).mono ?_;rintro zz w1 ⟨po,pc,qo,qc,rfl,hmp,bb2⟩;have b3:=aa b0 bb2;clear b0 bb2 HA;obtain⟨W6,hW5,q7,al4⟩:=cA w1 [.bool false,.slice po 0 pc,yi 0,.bool false,.slice qo 0 qc,yi 0] 27;replace hW5:Hid _:=hW5;have hl8:w.heap.size≤w1.heap.size:=b3.size;have b9:=aa b3 al4;clear b3 al4
 go_upto_region 2 with fail
 rw[hW5.out];clear hW5
 go_wp2_with fail
 refine(HB.out _ b9).mono ?_;rintro zz w10 ⟨rfl,bb11⟩;have q12:=q7.l bb11;have b13:=aa b9 bb11;clear q7 b9 bb11 HB;obtain⟨c14,c15,c16,c17,c18,c19⟩:=q12.cs6
 go_wp2_with fail
 refine(HS.out _ _ _ _ _ hmp b13).mono ?_;rintro zz w20 ⟨rfl,bb21⟩;have b22:=aa b13 bb21;clear q12 b13 bb21 HS c14 c15 c16 c17 c18 c19
 go_wp2
 go_ret
 exact⟨by simp,b22⟩
theorem serSeriesPis_e2 (b:Int)(w:World)(h0: ¬b<10)(h:1000<b)
  (HA: ∀w1,yB w w1→yC 7 #[yi b] w1 fun z w'=> ∃po pc qo qc,z= .returned (.tuple #[.agg #[.bool false,.slice po 0 pc,yi 0,.bool false,.slice qo 0 qc,yi 0],yi 3])∧Hid (pc≤maxLen∧qc≤maxLen)∧yB w1 w')
  (HB:yH w 8 #[] (.bool true))
  (HS: ∀po pc qo qc w1,Hid (pc≤maxLen∧qc≤maxLen)→yB w w1→yC 9 #[.agg #[.bool false,.slice po 0 pc,yi 0,.bool false,.slice qo 0 qc,yi 0],.agg #[.bool false,yN,yi 0,.bool false,yN,yi 0]] w1 (yR w1 (.bool true))):
  yC 3 #[yi b] w (yR w (.bool true)):=by
 replace HA:Hid _:=HA;replace HB:Hid _:=HB;replace HS:Hid _:=HS
 go_enter Tryd.func3,Tryd.ntmps3
 have b0:=Below.refl w.heap.size w
 go_wp2_with fail
 refine(HA.out _ b0).mono ?_;rintro zz w1 ⟨po,pc,qo,qc,rfl,hmp,bb2⟩;have b3:=aa b0 bb2;clear b0 bb2 HA;obtain⟨W6,hW5,q7,al4⟩:=cA w1 [.bool false,.slice po 0 pc,yi 0,.bool false,.slice qo 0 qc,yi 0] 27;replace hW5:Hid _:=hW5;have hl8:w.heap.size≤w1.heap.size:=b3.size;have b9:=aa b3 al4;clear b3 al4
 go_upto_region 2 with fail
 rw[hW5.out];clear hW5
 go_wp2_with fail
 refine(HB.out _ b9).mono ?_;rintro zz w10 ⟨rfl,bb11⟩;have q12:=q7.l bb11;have b13:=aa b9 bb11;clear q7 b9 bb11 HB;obtain⟨c14,c15,c16,c17,c18,c19⟩:=q12.cs6
 go_wp2_with fail
 refine(HS.out _ _ _ _ _ hmp b13).mono ?_;rintro zz w20 ⟨rfl,bb21⟩;have b22:=aa b13 bb21;clear q12 b13 bb21 HS c14 c15 c16 c17 c18 c19
 go_wp2
 go_ret
 exact⟨by simp,b22⟩
theorem serSeriesPis_ok (b k:Int)(m:Nat)(p q u v:ak)(w:World)(h1: ¬b<10)(h2: ¬1000<b)(hk:IntKind.i64.wrap (b+100)=k)
  (HA: ∀w1,yB w w1→yC 7 #[yi b] w1 (BRd w1 p q 0))
  (HB:yH w 8 #[] (.bool true))
  (HR: ∀w1,yB w w1→yC 12 #[yi k] w1 (RZs w1 false m))
  (HN: ∀mo mc w1,yB w w1→Rd w1 .i64 (yS mo m mc) (Dg.dg 65536 m)→yC 11 #[yS mo m mc,yi k] w1 (tR w1 u v))
  (HK: ∀po pc qo qc uo uc vo vc w1,yB w w1→Rd w1 .u32 (yT po p.n pc) (Dg.dg 4294967296 p.n)→Rd w1 .u32 (yT qo q.n qc) (Dg.dg 4294967296 q.n)→Rd w1 .i64 (yS uo u.n uc) (Dg.dg 65536 u.n)→Rd w1 .i64 (yS vo v.n vc) (Dg.dg 65536 v.n)→yC 10 #[.agg #[.bool p.s,yT po p.n pc,yi p.e,.bool q.s,yT qo q.n qc,yi q.e],.agg #[.bool u.s,yS uo u.n uc,yi u.e,.bool v.s,yS vo v.n vc,yi v.e],yi b] w1 (yR w1 (.bool true))):
  yC 3 #[yi b] w (yR w (.bool true)):=by
 replace HA:Hid _:=HA;replace HB:Hid _:=HB;replace HR:Hid _:=HR;replace HN:Hid _:=HN;replace HK:Hid _:=HK;have hfd:=field_z
 go_enter Tryd.func3,Tryd.ntmps3
 have b0:=Below.refl w.heap.size w
 go_wp2_with fail
 refine(HA.out _ b0).mono ?_;rintro zz w1 ⟨v1x3,v2x4,rfl,r1x5,r2x6,bb2⟩;have b7:=aa b0 bb2;obtain⟨po,pc,hv⟩:=r1x5.shape;subst hv;obtain⟨qo,qc,hv⟩:=r2x6.shape;subst hv;clear b0 bb2 HA;obtain⟨W10,hW9,q11,al8⟩:=cA w1 [.bool p.s,yT po p.n pc,yi p.e,.bool q.s,yT qo q.n qc,yi q.e] 27;replace hW9:Hid _:=hW9;have hl12:w.heap.size≤w1.heap.size:=b7.size;have r13:=r1x5.l al8;have r14:=r2x6.l al8;have b15:=aa b7 al8;clear r1x5 r2x6 b7 al8
 go_upto_region 2 with fail
 rw[hW9.out];clear hW9
 go_upto_region 4 with fail
 have bW16:yB W10 W10.drew:=(Below.refl _ _).drew;have q17:=q11.l bW16;have r18:=r13.l bW16;have r19:=r14.l bW16;have b20:=aa b15 bW16;clear q11 r13 r14 b15 bW16;refine wp_region_held_drew (S:=fun wq=>au wq w1.heap.size 27 [.bool p.s,yT po p.n pc,yi p.e,.bool q.s,yT qo q.n qc,yi q.e]) (by kernel_rfl) q17 (fun hS0=> ?_)
 generalize W10.drew=WD21 at q17 r18 r19 b20 hS0⊢;refine wpAnyH_ready (rs:=[0]) (by kernel_rfl) (by simp) ?_;refine AllReadyH.cons rfl (fun K hK=> ?_) AllReadyH.nil
 go_simp
 refine(HB.out _ b20).mono ?_;rintro zz w22 ⟨rfl,bb23⟩;have q24:=q17.l bb23;have r25:=r18.l bb23;have r26:=r19.l bb23;have b27:=aa b20 bb23;clear q17 r18 r19 b20 bb23 HB;refine hK.out _ _ q24 (fun hS28=> ?_)
 clear hK K;refine tq 1 (.bool true) rfl (fun _ _=>by kernel_rfl) hS28 ?_
 refine tq 2 (yi 0) rfl (fun _ _=>by kernel_rfl) hS28 ?_
 refine tq 3 (.bool true) rfl (fun _ _=>by go_simp) hS28 ?_
 refine tq 4 (.bool true) rfl (fun _ _=>by kernel_rfl) hS28 ?_
 refine tq 5 (.bool true) rfl (fun _ _=>by kernel_rfl) hS28 ?_
 refine tq 6 (.agg #[.bool p.s,yT po p.n pc,yi p.e,.bool q.s,yT qo q.n qc,yi q.e]) rfl (fun _ hw0=>fy 27 (.tmp 3) rfl w1.heap.size 0 (by kernel_rfl) _ _ hw0.range Tryd.underlying27 rfl (by kernel_rfl)) hS28 ?_
 refine tq 7 (yi b) rfl (fun _ _=>by kernel_rfl) hS28 ?_
 refine tq 8 (yi k) rfl (fun _ _=>by go_simp) hS28 ?_
 refine tq 11 (yi b) rfl (fun _ _=>by kernel_rfl) hS28 ?_
 refine tq 12 (yi k) rfl (fun _ _=>by go_simp) hS28 ?_
 refine tq 14 (yi b) rfl (fun _ _=>by kernel_rfl) hS28 ?_
 refine wpAnyH_ready (rs:=[9]) (by kernel_rfl) (by simp) ?_;refine AllReadyH.cons rfl (fun K hK=> ?_) AllReadyH.nil
 go_simp
 refine(HR.out _ b27).mono ?_;rintro zz w29 ⟨v1x31,rfl,r1x32,bb30⟩;have q33:=q24.l bb30;have r34:=r25.l bb30;have r35:=r26.l bb30;have b36:=aa b27 bb30;obtain⟨mo,mc,hv⟩:=r1x32.shape;subst hv;clear q24 r25 r26 b27 bb30 HR;refine hK.out _ _ q33 (fun hS37=> ?_)
 clear hK K;refine tq 10 (yS mo m mc) rfl (fun _ _=>by kernel_rfl) hS37 ?_
 refine wpAnyH_ready (rs:=[13]) (by kernel_rfl) (by simp) ?_;refine AllReadyH.cons rfl (fun K hK=> ?_) AllReadyH.nil
 go_simp
 refine(HN.out _ _ _ b36 r1x32).mono ?_;rintro zz w38 ⟨v1x40,v2x41,rfl,r1x42,r2x43,bb39⟩;have q44:=q33.l bb39;have r45:=r34.l bb39;have r46:=r35.l bb39;have b47:=aa b36 bb39;obtain⟨uo,uc,hv⟩:=r1x42.shape;subst hv;obtain⟨vo,vc,hv⟩:=r2x43.shape;subst hv;clear q33 r34 r35 r1x32 b36 bb39 HN;refine hK.out _ _ q44 (fun hS48=> ?_)
 clear hK K;refine wpAnyH_ready (rs:=[15]) (by kernel_rfl) (by simp) ?_;refine AllReadyH.cons rfl (fun K hK=> ?_) AllReadyH.nil
 go_simp
 refine(HK.out _ _ _ _ _ _ _ _ _ b47 r45 r46 r1x42 r2x43).mono ?_;rintro zz w49 ⟨rfl,bb50⟩;have q51:=q44.l bb50;have b52:=aa b47 bb50;clear q44 r45 r46 r1x42 r2x43 b47 bb50 HK;refine hK.out _ _ q51 (fun hS53=> ?_)
 clear hK K;refine tq 16 (.bool true) rfl (fun _ _=>by kernel_rfl) hS53 ?_
 refine tq 17 (.bool true) rfl (fun _ _=>by kernel_rfl) hS53 ?_
 refine wpAnyH_done (by kernel_rfl) ?_ _;clear hS0 hS28 hS37 hS48 hS53;simp only[Act.put,List.getElem_toArray,List.getElem_cons_succ,List.getElem_cons_zero,List.setIfInBounds_toArray,List.set_cons_zero,List.set_cons_succ]
 go_wp2
 go_ret
 exact⟨by simp,b52⟩
theorem serSeriesLn2s_e1 (b:Int)(w:World)(h:b<10)
  (HA: ∀w1,yB w w1→yC 13 #[yi b] w1 fun z w'=> ∃po pc qo qc,z= .returned (.tuple #[.agg #[.bool false,.slice po 0 pc,yi 0,.bool false,.slice qo 0 qc,yi 0],yi 3])∧Hid (pc≤maxLen∧qc≤maxLen)∧yB w1 w')
  (HB:yH w 8 #[] (.bool true))
  (HS: ∀po pc qo qc w1,Hid (pc≤maxLen∧qc≤maxLen)→yB w w1→yC 9 #[.agg #[.bool false,.slice po 0 pc,yi 0,.bool false,.slice qo 0 qc,yi 0],.agg #[.bool false,yN,yi 0,.bool false,yN,yi 0]] w1 (yR w1 (.bool true))):
  yC 4 #[yi b] w (yR w (.bool true)):=by
 replace HA:Hid _:=HA;replace HB:Hid _:=HB;replace HS:Hid _:=HS
 go_enter Tryd.func4,Tryd.ntmps4
 have b0:=Below.refl w.heap.size w
 go_wp2_with fail
 refine(HA.out _ b0).mono ?_;rintro zz w1 ⟨po,pc,qo,qc,rfl,hmp,bb2⟩;have b3:=aa b0 bb2;clear b0 bb2 HA;obtain⟨W6,hW5,q7,al4⟩:=cA w1 [.bool false,.slice po 0 pc,yi 0,.bool false,.slice qo 0 qc,yi 0] 27;replace hW5:Hid _:=hW5;have hl8:w.heap.size≤w1.heap.size:=b3.size;have b9:=aa b3 al4;clear b3 al4
 go_upto_region 2 with fail
 rw[hW5.out];clear hW5
 go_wp2_with fail
 refine(HB.out _ b9).mono ?_;rintro zz w10 ⟨rfl,bb11⟩;have q12:=q7.l bb11;have b13:=aa b9 bb11;clear q7 b9 bb11 HB;obtain⟨c14,c15,c16,c17,c18,c19⟩:=q12.cs6
 go_wp2_with fail
 refine(HS.out _ _ _ _ _ hmp b13).mono ?_;rintro zz w20 ⟨rfl,bb21⟩;have b22:=aa b13 bb21;clear q12 b13 bb21 HS c14 c15 c16 c17 c18 c19
 go_wp2
 go_ret
 exact⟨by simp,b22⟩
theorem serSeriesLn2s_e2 (b:Int)(w:World)(h0: ¬b<10)(h:1000<b)
  (HA: ∀w1,yB w w1→yC 13 #[yi b] w1 fun z w'=> ∃po pc qo qc,z= .returned (.tuple #[.agg #[.bool false,.slice po 0 pc,yi 0,.bool false,.slice qo 0 qc,yi 0],yi 3])∧Hid (pc≤maxLen∧qc≤maxLen)∧yB w1 w')
  (HB:yH w 8 #[] (.bool true))
  (HS: ∀po pc qo qc w1,Hid (pc≤maxLen∧qc≤maxLen)→yB w w1→yC 9 #[.agg #[.bool false,.slice po 0 pc,yi 0,.bool false,.slice qo 0 qc,yi 0],.agg #[.bool false,yN,yi 0,.bool false,yN,yi 0]] w1 (yR w1 (.bool true))):
  yC 4 #[yi b] w (yR w (.bool true)):=by
 replace HA:Hid _:=HA;replace HB:Hid _:=HB;replace HS:Hid _:=HS
 go_enter Tryd.func4,Tryd.ntmps4
 have b0:=Below.refl w.heap.size w
 go_wp2_with fail
 refine(HA.out _ b0).mono ?_;rintro zz w1 ⟨po,pc,qo,qc,rfl,hmp,bb2⟩;have b3:=aa b0 bb2;clear b0 bb2 HA;obtain⟨W6,hW5,q7,al4⟩:=cA w1 [.bool false,.slice po 0 pc,yi 0,.bool false,.slice qo 0 qc,yi 0] 27;replace hW5:Hid _:=hW5;have hl8:w.heap.size≤w1.heap.size:=b3.size;have b9:=aa b3 al4;clear b3 al4
 go_upto_region 2 with fail
 rw[hW5.out];clear hW5
 go_wp2_with fail
 refine(HB.out _ b9).mono ?_;rintro zz w10 ⟨rfl,bb11⟩;have q12:=q7.l bb11;have b13:=aa b9 bb11;clear q7 b9 bb11 HB;obtain⟨c14,c15,c16,c17,c18,c19⟩:=q12.cs6
 go_wp2_with fail
 refine(HS.out _ _ _ _ _ hmp b13).mono ?_;rintro zz w20 ⟨rfl,bb21⟩;have b22:=aa b13 bb21;clear q12 b13 bb21 HS c14 c15 c16 c17 c18 c19
 go_wp2
 go_ret
 exact⟨by simp,b22⟩
theorem serSeriesLn2s_ok (b k:Int)(m:Nat)(p q u v:ak)(w:World)(h1: ¬b<10)(h2: ¬1000<b)(hk:IntKind.i64.wrap (b+100)=k)
  (HA: ∀w1,yB w w1→yC 13 #[yi b] w1 (BRd w1 p q 0))
  (HB:yH w 8 #[] (.bool true))
  (HR: ∀w1,yB w w1→yC 14 #[yi k] w1 (RZs w1 false m))
  (HN: ∀mo mc w1,yB w w1→Rd w1 .i64 (yS mo m mc) (Dg.dg 65536 m)→yC 11 #[yS mo m mc,yi k] w1 (tR w1 u v))
  (HK: ∀po pc qo qc uo uc vo vc w1,yB w w1→Rd w1 .u32 (yT po p.n pc) (Dg.dg 4294967296 p.n)→Rd w1 .u32 (yT qo q.n qc) (Dg.dg 4294967296 q.n)→Rd w1 .i64 (yS uo u.n uc) (Dg.dg 65536 u.n)→Rd w1 .i64 (yS vo v.n vc) (Dg.dg 65536 v.n)→yC 10 #[.agg #[.bool p.s,yT po p.n pc,yi p.e,.bool q.s,yT qo q.n qc,yi q.e],.agg #[.bool u.s,yS uo u.n uc,yi u.e,.bool v.s,yS vo v.n vc,yi v.e],yi b] w1 (yR w1 (.bool true))):
  yC 4 #[yi b] w (yR w (.bool true)):=by
 replace HA:Hid _:=HA;replace HB:Hid _:=HB;replace HR:Hid _:=HR;replace HN:Hid _:=HN;replace HK:Hid _:=HK;have hfd:=field_z
 go_enter Tryd.func4,Tryd.ntmps4
 have b0:=Below.refl w.heap.size w
 go_wp2_with fail
 refine(HA.out _ b0).mono ?_;rintro zz w1 ⟨v1x3,v2x4,rfl,r1x5,r2x6,bb2⟩;have b7:=aa b0 bb2;obtain⟨po,pc,hv⟩:=r1x5.shape;subst hv;obtain⟨qo,qc,hv⟩:=r2x6.shape;subst hv;clear b0 bb2 HA;obtain⟨W10,hW9,q11,al8⟩:=cA w1 [.bool p.s,yT po p.n pc,yi p.e,.bool q.s,yT qo q.n qc,yi q.e] 27;replace hW9:Hid _:=hW9;have hl12:w.heap.size≤w1.heap.size:=b7.size;have r13:=r1x5.l al8;have r14:=r2x6.l al8;have b15:=aa b7 al8;clear r1x5 r2x6 b7 al8
 go_upto_region 2 with fail
 rw[hW9.out];clear hW9
 go_upto_region 4 with fail
 have bW16:yB W10 W10.drew:=(Below.refl _ _).drew;have q17:=q11.l bW16;have r18:=r13.l bW16;have r19:=r14.l bW16;have b20:=aa b15 bW16;clear q11 r13 r14 b15 bW16;refine wp_region_held_drew (S:=fun wq=>au wq w1.heap.size 27 [.bool p.s,yT po p.n pc,yi p.e,.bool q.s,yT qo q.n qc,yi q.e]) (by kernel_rfl) q17 (fun hS0=> ?_)
 generalize W10.drew=WD21 at q17 r18 r19 b20 hS0⊢;refine wpAnyH_ready (rs:=[0]) (by kernel_rfl) (by simp) ?_;refine AllReadyH.cons rfl (fun K hK=> ?_) AllReadyH.nil
 go_simp
 refine(HB.out _ b20).mono ?_;rintro zz w22 ⟨rfl,bb23⟩;have q24:=q17.l bb23;have r25:=r18.l bb23;have r26:=r19.l bb23;have b27:=aa b20 bb23;clear q17 r18 r19 b20 bb23 HB;refine hK.out _ _ q24 (fun hS28=> ?_)
 clear hK K;refine tq 1 (.bool true) rfl (fun _ _=>by kernel_rfl) hS28 ?_
 refine tq 2 (yi 0) rfl (fun _ _=>by kernel_rfl) hS28 ?_
 refine tq 3 (.bool true) rfl (fun _ _=>by go_simp) hS28 ?_
 refine tq 4 (.bool true) rfl (fun _ _=>by kernel_rfl) hS28 ?_
 refine tq 5 (.bool true) rfl (fun _ _=>by kernel_rfl) hS28 ?_
 refine tq 6 (.agg #[.bool p.s,yT po p.n pc,yi p.e,.bool q.s,yT qo q.n qc,yi q.e]) rfl (fun _ hw0=>fy 27 (.tmp 3) rfl w1.heap.size 0 (by kernel_rfl) _ _ hw0.range Tryd.underlying27 rfl (by kernel_rfl)) hS28 ?_
 refine tq 7 (yi b) rfl (fun _ _=>by kernel_rfl) hS28 ?_
 refine tq 8 (yi k) rfl (fun _ _=>by go_simp) hS28 ?_
 refine tq 11 (yi b) rfl (fun _ _=>by kernel_rfl) hS28 ?_
 refine tq 12 (yi k) rfl (fun _ _=>by go_simp) hS28 ?_
 refine tq 14 (yi b) rfl (fun _ _=>by kernel_rfl) hS28 ?_
 refine wpAnyH_ready (rs:=[9]) (by kernel_rfl) (by simp) ?_;refine AllReadyH.cons rfl (fun K hK=> ?_) AllReadyH.nil
 go_simp
 refine(HR.out _ b27).mono ?_;rintro zz w29 ⟨v1x31,rfl,r1x32,bb30⟩;have q33:=q24.l bb30;have r34:=r25.l bb30;have r35:=r26.l bb30;have b36:=aa b27 bb30;obtain⟨mo,mc,hv⟩:=r1x32.shape;subst hv;clear q24 r25 r26 b27 bb30 HR;refine hK.out _ _ q33 (fun hS37=> ?_)
 clear hK K;refine tq 10 (yS mo m mc) rfl (fun _ _=>by kernel_rfl) hS37 ?_
 refine wpAnyH_ready (rs:=[13]) (by kernel_rfl) (by simp) ?_;refine AllReadyH.cons rfl (fun K hK=> ?_) AllReadyH.nil
 go_simp
 refine(HN.out _ _ _ b36 r1x32).mono ?_;rintro zz w38 ⟨v1x40,v2x41,rfl,r1x42,r2x43,bb39⟩;have q44:=q33.l bb39;have r45:=r34.l bb39;have r46:=r35.l bb39;have b47:=aa b36 bb39;obtain⟨uo,uc,hv⟩:=r1x42.shape;subst hv;obtain⟨vo,vc,hv⟩:=r2x43.shape;subst hv;clear q33 r34 r35 r1x32 b36 bb39 HN;refine hK.out _ _ q44 (fun hS48=> ?_)
 clear hK K;refine wpAnyH_ready (rs:=[15]) (by kernel_rfl) (by simp) ?_;refine AllReadyH.cons rfl (fun K hK=> ?_) AllReadyH.nil
 go_simp
 refine(HK.out _ _ _ _ _ _ _ _ _ b47 r45 r46 r1x42 r2x43).mono ?_;rintro zz w49 ⟨rfl,bb50⟩;have q51:=q44.l bb50;have b52:=aa b47 bb50;clear q44 r45 r46 r1x42 r2x43 b47 bb50 HK;refine hK.out _ _ q51 (fun hS53=> ?_)
 clear hK K;refine tq 16 (.bool true) rfl (fun _ _=>by kernel_rfl) hS53 ?_
 refine tq 17 (.bool true) rfl (fun _ _=>by kernel_rfl) hS53 ?_
 refine wpAnyH_done (by kernel_rfl) ?_ _;clear hS0 hS28 hS37 hS48 hS53;simp only[Act.put,List.getElem_toArray,List.getElem_cons_succ,List.getElem_cons_zero,List.setIfInBounds_toArray,List.set_cons_zero,List.set_cons_succ]
 go_wp2
 go_ret
 exact⟨by simp,b52⟩
end Go.Proofs.YtiakgfmlpdfhdaaDoor

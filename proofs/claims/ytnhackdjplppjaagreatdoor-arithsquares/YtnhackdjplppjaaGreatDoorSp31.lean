/-
  Texts laid together: Gb7.
-/
import Derived.Test.YtnhackdjplppjaaGreatDoorSp27
set_option maxRecDepth 100000
namespace Go.Proofs.YtnhackdjplppjaaGreatDoor
open Go.RowKit
set_option maxHeartbeats 3200000 in
theorem oopposite_any (c:Int) (gx:Bool) (x:Trip) (xo:Option Addr) (xc:Nat) (w:World) (rx:Rd w .u32 (.slice xo (Dg.dg 4294967296 x.n).length xc) (Dg.dg 4294967296 x.n)):
  Calls Tryz.prog 63 #[yOV c gx x xo xc] w (OpRes w c (!gx) ⟨!x.s,x.n,x.e⟩):=by
 obtain⟨W4,hW5,q1,q2,b3⟩:=ent2 w (yOL c gx x xo xc) 98 (yoL 0 false false (.slice none 0 0) 0) 98;replace hW5:Hid _:=hW5;have r6:=rx.later b3;clear rx
 go_enter Tryz.func63,Tryz.ntmps63
 go_upto_region 1 with fail
 rw[hW5.out];clear hW5;have c8:=q1.cell 1 rfl;have bu:=but_set W4 w.heap.size 1 (.bool (!gx));have q7:LocE (W4.setCell ⟨w.heap.size,1,none⟩ (.bool (!gx))) w.heap.size 98 (yOL c (!gx) x xo xc):=(q1.set 1 (.bool (!gx)));have c9:=q1.cell 1 rfl;have y10:=q1.free 1;have q11:=bu.loc q2 (by omega);have r12:=bu.rd r6 (rd_offU r6 q1 (by simp));have b13:=bu.below b3 (by omega);clear bu
 go_upto_region 2 with fail
 generalize W4.setCell ⟨w.heap.size,1,none⟩ (.bool (!gx))=W14 at q7 q11 r12 b13⊢;clear q1 q2 r6 b3 c8 c9 y10;have c16:=q7.cell 2 rfl;have bu:=but_set W14 w.heap.size 2 (.bool (!x.s));have q15:LocE (W14.setCell ⟨w.heap.size,2,none⟩ (.bool (!x.s))) w.heap.size 98 (yoL c (!gx) (!x.s) (.slice xo (Dg.dg 4294967296 x.n).length xc) x.e):=(q7.set 2 (.bool (!x.s)));have c17:=q7.cell 2 rfl;have y18:=q7.free 2;have q19:=bu.loc q11 (by omega);have r20:=bu.rd r12 (rd_offU r12 q7 (by simp));have b21:=bu.below b13 (by omega);clear bu
 go_upto_region 3 with fail
 generalize W14.setCell ⟨w.heap.size,2,none⟩ (.bool (!x.s))=W22 at q15 q19 r20 b21⊢;clear q7 q11 r12 b13 c16 c17 y18;obtain⟨c23,c24,c25,c26,c27⟩:=q15.cs5;have hf:=fin5 (P:=Tryz.prog) q19 b21 (by omega) Tryz.underlying98 rfl (by kernel_rfl) (yi c) (.bool (!gx)) (.bool (!x.s)) (.slice xo (Dg.dg 4294967296 x.n).length xc) (yi x.e);have HH:Hid (_∧_∧_):=⟨hf.1,hf.2.2.rd r20 (rd_offU r20 q19 (by simp)),hf.2.1⟩;obtain⟨⟨z0,z1,z2,z3,z4⟩,y0,y1,y2,y3,y4⟩:=csf5 q19;clear hf q15 q19 r20 b21
 go_wp2
 obtain⟨hl,rRx,bR⟩:=HH.out;exact bodyPost_ret (results_one Tryz.results63 rfl hl) rfl ⟨_,rfl,rRx,bR⟩
set_option maxHeartbeats 3200000 in
theorem droot_1 (n wy fam R D L G:Int) (gr:Bool) (gx:Bool) (x:Trip) (xo:Option Addr) (xc:Nat) (w:World) (rx:Rd w .u32 (.slice xo (Dg.dg 4294967296 x.n).length xc) (Dg.dg 4294967296 x.n)):
  Calls Tryz.prog 73 #[ykV n wy fam R D L G gr,yOV 1 gx x xo xc] w (OpRes2 w 1 gx x 0):=by
 obtain⟨W5,hW6,q1,q2,q3,b4⟩:=ent3 w (ykL n wy fam R D L G gr) 93 (yOL 1 gx x xo xc) 98 (yoL 0 false false (.slice none 0 0) 0) 98;replace hW6:Hid _:=hW6;have r7:=rx.later b4;clear q1 rx
 go_enter Tryz.func73,Tryz.ntmps73
 go_upto_region 1 with fail
 rw[hW6.out];clear hW6;obtain⟨c8,c9,c10,c11,c12⟩:=q2.cs5
 go_wp2_with fail
 refine(zer_t _ _ _ _ _ _ _).mono ?_;rintro zz w13 ⟨rfl,bb14⟩;have q15:=q2.later bb14;have q16:=q3.later bb14;have r17:=r7.later bb14;have b18:=below_trans b4 bb14;clear q2 q3 r7 b4 bb14 c8 c9 c10 c11 c12;obtain⟨c19,c20,c21,c22,c23⟩:=q15.cs5;have hf:=fin5 (P:=Tryz.prog) q16 b18 (by omega) Tryz.underlying98 rfl (by kernel_rfl) (yi 1) (.bool gx) (.bool x.s) (.slice xo (Dg.dg 4294967296 x.n).length xc) (yi x.e);have HH:Hid (_∧_∧_):=⟨hf.1,hf.2.2.rd r17 (rd_offU r17 q16 (by simp)),hf.2.1⟩;obtain⟨⟨z0,z1,z2,z3,z4⟩,y0,y1,y2,y3,y4⟩:=csf5 q16;clear hf q15 q16 r17 b18
 go_wp2
 obtain⟨hl,rRx,bR⟩:=HH.out;exact bodyPost_ret (results_two Tryz.results73 rfl rfl hl) rfl ⟨_,rfl,rRx,bR⟩
set_option maxHeartbeats 3200000 in
theorem droot_neg (cx c:Int) (n wy fam R D L G:Int) (gr:Bool) (x:Trip) (xo:Option Addr) (xc:Nat) (w:World) (hx1:(cx==1)=false)
  (HN: ∀w1,Calls Tryz.prog 108 #[ykV n wy fam R D L G gr,yi 16] w1 fun z w'=>z= .returned (.tuple #[yoV c false false (.slice none 0 0) 0,yi 16])∧Below w1.heap.size w1 w'):
  Calls Tryz.prog 73 #[ykV n wy fam R D L G gr,yOV cx true x xo xc] w (OpRes2 w c false ⟨false,0,0⟩ 16):=by
 replace HN:Hid _:=HN;obtain⟨W5,hW6,q1,q2,q3,b4⟩:=ent3 w (ykL n wy fam R D L G gr) 93 (yOL cx true x xo xc) 98 (yoL 0 false false (.slice none 0 0) 0) 98;replace hW6:Hid _:=hW6
 go_enter Tryz.func73,Tryz.ntmps73
 go_upto_region 1 with fail
 rw[hW6.out];clear hW6;obtain⟨c7,c8,c9,c10,c11⟩:=q2.cs5
 go_wp2_with fail
 refine(zer_f _ _ _ _ _ _ _ _ hx1).mono ?_;rintro zz w12 ⟨rfl,bb13⟩;have q14:=q1.later bb13;have q15:=q2.later bb13;have q16:=q3.later bb13;have b17:=below_trans b4 bb13;clear q1 q2 q3 b4 bb13 c7 c8 c9 c10 c11;obtain⟨c18,c19,c20,c21,c22,c23,c24,c25⟩:=q14.cs8;have c26:=q15.cell 1 rfl
 go_wp2_with fail
 refine(HN.out _).mono ?_;rintro zz w27 ⟨rfl,bb28⟩;have q29:=q16.later bb28;have b30:=below_trans b17 bb28;clear q14 q15 q16 b17 bb28 HN c18 c19 c20 c21 c22 c23 c24 c25 c26;have hf:=fin5 (P:=Tryz.prog) q29 b30 (by omega) Tryz.underlying98 rfl (by kernel_rfl) (yi c) (.bool false) (.bool false) (.slice none 0 0) (yi 0);have HH:Hid (_∧_):=⟨hf.1,hf.2.1⟩;obtain⟨⟨z0,z1,z2,z3,z4⟩,y0,y1,y2,y3,y4⟩:=csf5 q29;clear hf q29 b30
 go_wp2
 obtain⟨hl,bR⟩:=HH.out;exact bodyPost_ret (results_two Tryz.results73 rfl rfl hl) rfl ⟨_,rfl,rd_nil _ _,bR⟩
set_option maxHeartbeats 3200000 in
theorem droot_3 (n wy fam R D L G:Int) (gr:Bool) (x:Trip) (xo:Option Addr) (xc:Nat) (w:World) (rx:Rd w .u32 (.slice xo (Dg.dg 4294967296 x.n).length xc) (Dg.dg 4294967296 x.n)):
  Calls Tryz.prog 73 #[ykV n wy fam R D L G gr,yOV 3 false x xo xc] w (OpRes2 w 3 false x 0):=by
 obtain⟨W5,hW6,q1,q2,q3,b4⟩:=ent3 w (ykL n wy fam R D L G gr) 93 (yOL 3 false x xo xc) 98 (yoL 0 false false (.slice none 0 0) 0) 98;replace hW6:Hid _:=hW6;have r7:=rx.later b4;clear q1 rx
 go_enter Tryz.func73,Tryz.ntmps73
 go_upto_region 1 with fail
 rw[hW6.out];clear hW6;obtain⟨c8,c9,c10,c11,c12⟩:=q2.cs5
 go_wp2_with fail
 refine(zer_f _ _ _ _ _ _ _ _ rfl).mono ?_;rintro zz w13 ⟨rfl,bb14⟩;have q15:=q2.later bb14;have q16:=q3.later bb14;have r17:=r7.later bb14;have b18:=below_trans b4 bb14;clear q2 q3 r7 b4 bb14 c8 c9 c10 c11 c12;obtain⟨c19,c20,c21,c22,c23⟩:=q15.cs5
 go_wp2_with fail
 refine(inf_t _ _ _ _ _ _ _).mono ?_;rintro zz w24 ⟨rfl,bb25⟩;have q26:=q15.later bb25;have q27:=q16.later bb25;have r28:=r17.later bb25;have b29:=below_trans b18 bb25;clear q15 q16 r17 b18 bb25 c19 c20 c21 c22 c23;obtain⟨c30,c31,c32,c33,c34⟩:=q26.cs5;have hf:=fin5 (P:=Tryz.prog) q27 b29 (by omega) Tryz.underlying98 rfl (by kernel_rfl) (yi 3) (.bool false) (.bool x.s) (.slice xo (Dg.dg 4294967296 x.n).length xc) (yi x.e);have HH:Hid (_∧_∧_):=⟨hf.1,hf.2.2.rd r28 (rd_offU r28 q27 (by simp)),hf.2.1⟩;obtain⟨⟨z0,z1,z2,z3,z4⟩,y0,y1,y2,y3,y4⟩:=csf5 q27;clear hf q26 q27 r28 b29
 go_wp2
 obtain⟨hl,rRx,bR⟩:=HH.out;exact bodyPost_ret (results_two Tryz.results73 rfl rfl hl) rfl ⟨_,rfl,rRx,bR⟩
set_option maxHeartbeats 3200000 in
theorem droot_num (cx c:Int) (g:Bool) (t u:Trip) (n wy fam R D L G:Int) (gr:Bool) (x:Trip) (xo:Option Addr) (xc:Nat) (w:World) (hx1:(cx==1)=false) (hx3:(cx==3)=false)
  (HT: ∀w1,Below w.heap.size w w1→Calls Tryz.prog 131 #[yDV x xo xc,yi 128] w1 (DRes w1 u))
  (HM: ∀uo uc w1,Rd w1 .u32 (.slice uo (Dg.dg 4294967296 u.n).length uc) (Dg.dg 4294967296 u.n)→Calls Tryz.prog 110 #[yDV u uo uc,.bool false] w1 (OpRes w1 c g t)):
  Calls Tryz.prog 73 #[ykV n wy fam R D L G gr,yOV cx false x xo xc] w (OpRes2 w c g t 0):=by
 replace HT:Hid _:=HT;replace HM:Hid _:=HM;obtain⟨W5,hW6,q1,q2,q3,b4⟩:=ent3 w (ykL n wy fam R D L G gr) 93 (yOL cx false x xo xc) 98 (yoL 0 false false (.slice none 0 0) 0) 98;replace hW6:Hid _:=hW6;clear q1
 go_enter Tryz.func73,Tryz.ntmps73
 go_upto_region 1 with fail
 rw[hW6.out];clear hW6;obtain⟨c7,c8,c9,c10,c11⟩:=q2.cs5
 go_wp2_with fail
 refine(zer_f _ _ _ _ _ _ _ _ hx1).mono ?_;rintro zz w12 ⟨rfl,bb13⟩;have q14:=q2.later bb13;have q15:=q3.later bb13;have b16:=below_trans b4 bb13;clear q2 q3 b4 bb13 c7 c8 c9 c10 c11;obtain⟨c17,c18,c19,c20,c21⟩:=q14.cs5
 go_wp2_with fail
 refine(inf_f _ _ _ _ _ _ _ _ hx3).mono ?_;rintro zz w22 ⟨rfl,bb23⟩;have q24:=q14.later bb23;have q25:=q15.later bb23;have b26:=below_trans b16 bb23;clear q14 q15 b16 bb23 c17 c18 c19 c20 c21;have c27:=q24.cell 2 rfl;have c28:=q24.cell 3 rfl;have c29:=q24.cell 4 rfl
 go_wp2_with fail
 refine(HT.out _ b26).mono ?_;rintro zz w30 ⟨v132,rfl,r133,bb31⟩;have q34:=q25.later bb31;have b35:=below_trans b26 bb31;have r36:=r133.rd;obtain⟨uo,uc,hv⟩:=r36.shape;subst hv;clear q24 q25 b26 bb31 r133 HT c27 c28 c29
 go_wp2_with fail
 refine(HM.out _ _ _ r36).mono ?_;rintro zz w37 ⟨v139,rfl,r140,bb38⟩;have q41:=q34.later bb38;have r42:=r36.later bb38;have b43:=below_trans b35 bb38;obtain⟨so,sc,hv⟩:=r140.shape;subst hv;clear q34 r36 b35 bb38 HM;have hf:=fin5 (P:=Tryz.prog) q41 b43 (by omega) Tryz.underlying98 rfl (by kernel_rfl) (yi c) (.bool g) (.bool t.s) (.slice so (Dg.dg 4294967296 t.n).length sc) (yi t.e);have HH:Hid (_∧_∧_):=⟨hf.1,hf.2.2.rd r140 (rd_offU r140 q41 (by simp)),hf.2.1⟩;obtain⟨⟨z0,z1,z2,z3,z4⟩,y0,y1,y2,y3,y4⟩:=csf5 q41;clear hf q41 r42 r140 b43
 go_wp2
 obtain⟨hl,rRs,bR⟩:=HH.out;exact bodyPost_ret (results_two Tryz.results73 rfl rfl hl) rfl ⟨_,rfl,rRs,bR⟩
set_option maxHeartbeats 3200000 in
theorem dbyZero_1 (n wy R D L G:Int) (gr:Bool) (ng:Bool) (w:World):
  Calls Tryz.prog 128 #[ykV n wy 1 R D L G gr,.bool ng] w (OpRes2 w 3 ng ⟨false,0,0⟩ 8):=by
 obtain⟨W4,hW5,q1,q2,b3⟩:=ent2 w (ykL n wy 1 R D L G gr) 93 (yoL 0 false false (.slice none 0 0) 0) 98;replace hW5:Hid _:=hW5
 go_enter Tryz.func128,Tryz.ntmps128
 go_upto_region 1 with fail
 rw[hW5.out];clear hW5;have c6:=q1.cell 2 rfl;have hf:=fin5 (P:=Tryz.prog) q2 b3 (by omega) Tryz.underlying98 rfl (by kernel_rfl) (yi 3) (.bool ng) (.bool false) (.slice none 0 0) (yi 0);have HH:Hid (_∧_):=⟨hf.1,hf.2.1⟩;obtain⟨⟨z0,z1,z2,z3,z4⟩,y0,y1,y2,y3,y4⟩:=csf5 q2;clear hf q1 q2 b3
 go_wp2
 obtain⟨hl,bR⟩:=HH.out;exact bodyPost_ret (results_two Tryz.results128 rfl rfl hl) rfl ⟨_,rfl,rd_nil _ _,bR⟩
set_option maxHeartbeats 3200000 in
theorem dbyZero_3 (c:Int) (n wy R D L G:Int) (gr:Bool) (ng:Bool) (w:World)
  (HN: ∀w1,Calls Tryz.prog 108 #[ykV n wy 3 R D L G gr,yi 8] w1 fun z w'=>z= .returned (.tuple #[yoV c false false (.slice none 0 0) 0,yi 8])∧Below w1.heap.size w1 w'):
  Calls Tryz.prog 128 #[ykV n wy 3 R D L G gr,.bool ng] w (OpRes2 w c false ⟨false,0,0⟩ 8):=by
 replace HN:Hid _:=HN;obtain⟨W4,hW5,q1,q2,b3⟩:=ent2 w (ykL n wy 3 R D L G gr) 93 (yoL 0 false false (.slice none 0 0) 0) 98;replace hW5:Hid _:=hW5
 go_enter Tryz.func128,Tryz.ntmps128
 go_upto_region 1 with fail
 rw[hW5.out];clear hW5;obtain⟨c6,c7,c8,c9,c10,c11,c12,c13⟩:=q1.cs8
 go_wp2_with fail
 refine(HN.out _).mono ?_;rintro zz w14 ⟨rfl,bb15⟩;have q16:=q2.later bb15;have b17:=below_trans b3 bb15;clear q1 q2 b3 bb15 HN c6 c7 c8 c9 c10 c11 c12 c13;have hf:=fin5 (P:=Tryz.prog) q16 b17 (by omega) Tryz.underlying98 rfl (by kernel_rfl) (yi c) (.bool false) (.bool false) (.slice none 0 0) (yi 0);have HH:Hid (_∧_):=⟨hf.1,hf.2.1⟩;obtain⟨⟨z0,z1,z2,z3,z4⟩,y0,y1,y2,y3,y4⟩:=csf5 q16;clear hf q16 b17
 go_wp2
 obtain⟨hl,bR⟩:=HH.out;exact bodyPost_ret (results_two Tryz.results128 rfl rfl hl) rfl ⟨_,rfl,rd_nil _ _,bR⟩
set_option maxHeartbeats 3200000 in
theorem dbyZero_2 (c:Int) (g:Bool) (m:Nat) (x t:Trip) (n wy R D L G:Int) (gr:Bool) (ng:Bool) (w:World)
  (HG: ∀w1,Below w.heap.size w w1→Calls Tryz.prog 175 #[ykV n wy 2 R D L G gr,.bool ng] w1 (ValRes w1 2 ng m G))
  (HU: ∀mo mc w1,Below w.heap.size w w1→Rd w1 .u32 (.slice mo (Dg.dg 4294967296 m).length mc) (Dg.dg 4294967296 m)→Calls Tryz.prog 174 #[yvV 2 ng (.slice mo (Dg.dg 4294967296 m).length mc) G,ygV R D L G gr] w1 fun z w'=> ∃v,z= .returned (ydV x.s v x.e)∧Rd w' .u32 v (Dg.dg 4294967296 x.n)∧Below w1.heap.size w1 w')
  (HO: ∀xo xc w1,Calls Tryz.prog 138 #[yDV x xo xc] w1 fun z w'=>z= .returned (yDV x xo xc)∧Below w1.heap.size w1 w')
  (HM: ∀xo xc w1,Rd w1 .u32 (.slice xo (Dg.dg 4294967296 x.n).length xc) (Dg.dg 4294967296 x.n)→Calls Tryz.prog 110 #[yDV x xo xc,.bool ng] w1 (OpRes w1 c g t)):
  Calls Tryz.prog 128 #[ykV n wy 2 R D L G gr,.bool ng] w (OpRes2 w c g t 8):=by
 replace HG:Hid _:=HG;replace HU:Hid _:=HU;replace HO:Hid _:=HO;replace HM:Hid _:=HM;obtain⟨W4,hW5,q1,q2,b3⟩:=ent2 w (ykL n wy 2 R D L G gr) 93 (yoL 0 false false (.slice none 0 0) 0) 98;replace hW5:Hid _:=hW5
 go_enter Tryz.func128,Tryz.ntmps128
 go_upto_region 1 with fail
 rw[hW5.out];clear hW5;have c6:=q1.cell 2 rfl
 go_upto_region 5 with fail
 clear c6;have bW7:Below W4.heap.size W4 W4.drew:=(Below.refl _ _).drew;have q8:=q1.later bW7;have q9:=q2.later bW7;have b10:=below_trans b3 bW7;clear q1 q2 b3 bW7;refine wp_region_held_drew (S:=fun wq=>LocE wq w.heap.size 93 (ykL n wy 2 R D L G gr)) (by kernel_rfl) q8 (fun hS0=> ?_)
 generalize W4.drew=WD11 at q8 q9 b10 hS0⊢;refine tk 0 (ykV n wy 2 R D L G gr) rfl (by kernel_rfl) (fun _ _ _ h=>h) (fun _ hw0=>xrow 93 (.tmp 2) rfl w.heap.size 0 (by kernel_rfl) _ _ hw0.range Tryz.underlying93 rfl (by kernel_rfl)) hS0 ?_
 refine tk 1 (.bool ng) rfl (by kernel_rfl) (fun _ _ _ h=>h) (fun _ _=>by kernel_rfl) hS0 ?_
 refine tk 3 (.pointer (some ⟨w.heap.size,3,none⟩)) rfl (by kernel_rfl) (fun _ _ _ h=>h) (fun _ _=>by kernel_rfl) hS0 ?_
 refine tk 4 (ygV R D L G gr) rfl (by kernel_rfl) (fun _ _ _ h=>h) (fun _ hw0=>xrow 56 (.tmp 17) rfl w.heap.size 3 (by kernel_rfl) _ _ (range_mid hw0 3 5 rfl) Tryz.underlying56 rfl (by kernel_rfl)) hS0 ?_
 refine tk 7 (.bool ng) rfl (by kernel_rfl) (fun _ _ _ h=>h) (fun _ _=>by kernel_rfl) hS0 ?_
 refine wpAnyH_ready (rs:=[2]) (by kernel_rfl) (by simp) ?_;refine AllReadyH.cons rfl (fun K hK=> ?_) AllReadyH.nil
 go_simp
 refine(HG.out _ b10).mono ?_;rintro zz w12 ⟨v114,rfl,r115,bb13⟩;have q16:=q8.later bb13;have q17:=q9.later bb13;have b18:=below_trans b10 bb13;obtain⟨mo,mc,hv⟩:=r115.shape;subst hv;clear q8 q9 b10 bb13 HG;refine hK.out _ _ q16 (fun hS19=> ?_)
 clear hK K;refine wpAnyH_ready (rs:=[5]) (by kernel_rfl) (by simp) ?_;refine AllReadyH.cons rfl (fun K hK=> ?_) AllReadyH.nil
 go_simp
 refine(HU.out _ _ _ b18 r115).mono ?_;rintro zz w20 ⟨v122,rfl,r123,bb21⟩;have q24:=q16.later bb21;have q25:=q17.later bb21;have r26:=r115.later bb21;have b27:=below_trans b18 bb21;obtain⟨xo,xc,hv⟩:=r123.shape;subst hv;clear q16 q17 r115 b18 bb21 HU;refine hK.out _ _ q24 (fun hS28=> ?_)
 clear hK K;refine wpAnyH_ready (rs:=[6]) (by kernel_rfl) (by simp) ?_;refine AllReadyH.cons rfl (fun K hK=> ?_) AllReadyH.nil
 go_simp
 refine(HO.out _ _ _).mono ?_;rintro zz w29 ⟨rfl,bb30⟩;have q31:=q24.later bb30;have q32:=q25.later bb30;have r33:=r26.later bb30;have r34:=r123.later bb30;have b35:=below_trans b27 bb30;clear q24 q25 r26 r123 b27 bb30 HO;refine hK.out _ _ q31 (fun hS36=> ?_)
 clear hK K;refine wpAnyH_ready (rs:=[8]) (by kernel_rfl) (by simp) ?_;refine AllReadyH.cons rfl (fun K hK=> ?_) AllReadyH.nil
 go_simp
 refine(HM.out _ _ _ r34).mono ?_;rintro zz w37 ⟨v139,rfl,r140,bb38⟩;have q41:=q31.later bb38;have q42:=q32.later bb38;have r43:=r33.later bb38;have r44:=r34.later bb38;have b45:=below_trans b35 bb38;obtain⟨so,sc,hv⟩:=r140.shape;subst hv;clear q31 q32 r33 r34 b35 bb38 HM;refine hK.out _ _ q41 (fun hS46=> ?_)
 clear hK K;refine wpAnyH_ready (rs:=[9]) (by kernel_rfl) (by simp) ?_;refine AllReadyH.cons rfl (fun K hK=> ?_) AllReadyH.nil
 have bu:But (w.heap.size+1) w37 (w37.setCells (w.heap.size+1) 0 (yOL c g t so sc)):=but_sets _ _ _ _;have hth:w37.there (w.heap.size+1) 0 5:=there_of q42;have q47:LocE (w37.setCells (w.heap.size+1) 0 (yOL c g t so sc)) (w.heap.size+1) 98 (yOL c g t so sc):=q42.sets _ rfl;have r48:=bu.rd r43 (rd_offU r43 q42 (by simp));have r49:=bu.rd r44 (rd_offU r44 q42 (by simp));have r50:=bu.rd r140 (rd_offU r140 q42 (by simp));have q51:=bu.loc q41 (by omega);have b52:=bu.below b45 (by omega);rw[if_pos (by kernel_rfl)];refine wp_store_mid 98 (.tmp 4) (.tmp 22) rfl (w.heap.size+1) 0 (yOL c g t so sc).toArray (by kernel_rfl) (by kernel_rfl) hth (by kernel_rfl) (by simp[Value.oneCell']) ?_;refine hK.out _ _ q51 (fun hS53=> ?_)
 clear hK K;clear q42 r43 r44 r140 q41 b45 bu hth;refine tk 10 (yi 8) rfl (by kernel_rfl) (fun _ _ _ h=>h) (fun _ _=>by kernel_rfl) hS53 ?_
 refine wpAnyH_done (by kernel_rfl) ?_ _;clear hS0 hS19 hS28 hS36 hS46 hS53;change Exit.then _ _ _ _ (World.setCells w37 (w.heap.size+1) 0 (yOL c g t so sc));generalize World.setCells w37 (w.heap.size+1) 0 (yOL c g t so sc)=W54 at q51 q47 r48 r49 r50 b52⊢;simp only[Act.put,List.getElem_toArray,List.getElem_cons_succ,List.getElem_cons_zero,List.setIfInBounds_toArray,List.set_cons_zero,List.set_cons_succ];have hl:=run_loadVar_mid (P:=Tryz.prog) _ (w.heap.size+1) 0 98 (yOL c g t so sc) _ q47.range Tryz.underlying98 rfl (by kernel_rfl)
 go_wp2
 exact bodyPost_ret (results_two Tryz.results128 rfl rfl hl) rfl ⟨_,rfl,r50,b52⟩
set_option maxHeartbeats 3200000 in
theorem mul1_W (cx cy c fl:Int) (gg:Bool) (t:Trip) (n wy fam R D L G:Int) (gr:Bool) (gx gy:Bool) (x y:Trip) (xo yo:Option Addr) (xc yc:Nat) (g cap:Nat) (w:World) (h0:w.rangeAt g 0 (yOL cx gx x xo xc)) (h1:w.rangeAt g 5 (yOL cy gy y yo yc))
  (HS: ∀w1,Below w.heap.size w w1→Calls Tryz.prog 65 #[ykV n wy fam R D L G gr,yOV cx gx x xo xc,yOV cy gy y yo yc] w1 (OpRes2 w1 c gg t fl)):
  Calls Tryz.prog 64 #[ykV n wy fam R D L G gr,.slice (some ⟨g,0,none⟩) 2 cap] w (OpRes2 w c gg t fl):=by
 replace HS:Hid _:=HS;have hgl:g<w.heap.size:=World.block_lt_of_cell? w _ (h0 0 _ rfl);obtain⟨W4,hW5,q1,q2,b3⟩:=ent2 w (ykL n wy fam R D L G gr) 93 (yoL 0 false false (.slice none 0 0) 0) 98;replace hW5:Hid _:=hW5;have q6:=range_later h0 b3;have q7:=range_later h1 b3;clear h0 h1
 go_enter Tryz.func64,Tryz.ntmps64
 go_upto_region 1 with fail
 rw[hW5.out];clear hW5
 go_upto_region 1 with fail
 have bW8:Below W4.heap.size W4 W4.drew:=(Below.refl _ _).drew;have q9:=range_later q6 bW8;have q10:=range_later q7 bW8;have q11:=q1.later bW8;have q12:=q2.later bW8;have b13:=below_trans b3 bW8;clear q6 q7 q1 q2 b3 bW8;refine wp_region_held_drew (S:=fun wq=>wq.rangeAt g 0 (yOL cx gx x xo xc)∧wq.rangeAt g 5 (yOL cy gy y yo yc)∧LocE wq w.heap.size 93 (ykL n wy fam R D L G gr)) (by kernel_rfl) ⟨q9,q10,q11⟩ (fun hS0=> ?_)
 generalize W4.drew=WD14 at q9 q10 q11 q12 b13 hS0⊢;refine tk 0 (ykV n wy fam R D L G gr) rfl (by kernel_rfl) (fun _ _ _ h=>h) (fun _ hw0=>xrow 93 (.tmp 2) rfl w.heap.size 0 (by kernel_rfl) _ _ hw0.2.2.range Tryz.underlying93 rfl (by kernel_rfl)) hS0 ?_
 refine tk 1 (.slice (some ⟨g,0,none⟩) 2 cap) rfl (by kernel_rfl) (fun _ _ _ h=>h) (fun _ _=>by kernel_rfl) hS0 ?_
 refine tk 2 (.pointer (some ⟨g,0,none⟩)) rfl (by kernel_rfl) (fun _ _ _ h=>h) (fun _ _=>by kernel_rfl) hS0 ?_
 refine tk 3 (yOV cx gx x xo xc) rfl (by kernel_rfl) (fun _ _ _ h=>h) (fun _ hw0=>xrow 98 (.tmp 8) rfl g 0 (by kernel_rfl) _ _ hw0.1 Tryz.underlying98 rfl (by kernel_rfl)) hS0 ?_
 refine tk 4 (.slice (some ⟨g,0,none⟩) 2 cap) rfl (by kernel_rfl) (fun _ _ _ h=>h) (fun _ _=>by kernel_rfl) hS0 ?_
 refine tk 5 (.pointer (some ⟨g,5,none⟩)) rfl (by kernel_rfl) (fun _ _ _ h=>h) (fun _ _=>by kernel_rfl) hS0 ?_
 refine tk 6 (yOV cy gy y yo yc) rfl (by kernel_rfl) (fun _ _ _ h=>h) (fun _ hw0=>xrow 98 (.tmp 11) rfl g 5 (by kernel_rfl) _ _ hw0.2.1 Tryz.underlying98 rfl (by kernel_rfl)) hS0 ?_
 refine wpAnyH_ready (rs:=[7]) (by kernel_rfl) (by simp) ?_;refine AllReadyH.cons rfl (fun K hK=> ?_) AllReadyH.nil
 go_simp
 refine(HS.out _ b13).mono ?_;rintro zz w15 ⟨v117,rfl,r118,bb16⟩;have q19:=range_later q9 bb16;have q20:=range_later q10 bb16;have q21:=q11.later bb16;have q22:=q12.later bb16;have b23:=below_trans b13 bb16;obtain⟨so,sc,hv⟩:=r118.shape;subst hv;clear q9 q10 q11 q12 b13 bb16 HS;refine hK.out _ _ ⟨q19,q20,q21⟩ (fun hS24=> ?_)
 clear hK K;refine tk 8 (yOV c gg t so sc) rfl (by kernel_rfl) (fun _ _ _ h=>h) (fun _ _=>by go_simp) hS24 ?_
 refine tk 9 (yi fl) rfl (by kernel_rfl) (fun _ _ _ h=>h) (fun _ _=>by go_simp) hS24 ?_
 refine wpAnyH_ready (rs:=[10]) (by kernel_rfl) (by simp) ?_;refine AllReadyH.cons rfl (fun K hK=> ?_) AllReadyH.nil
 have bu:But (w.heap.size+1) w15 (w15.setCells (w.heap.size+1) 0 (yOL c gg t so sc)):=but_sets _ _ _ _;have hth:w15.there (w.heap.size+1) 0 5:=there_of q22;have q25:LocE (w15.setCells (w.heap.size+1) 0 (yOL c gg t so sc)) (w.heap.size+1) 98 (yOL c gg t so sc):=q22.sets _ rfl;have r26:=bu.rd r118 (rd_offU r118 q22 (by simp));have q27:=but_range bu q19 (by omega);have q28:=but_range bu q20 (by omega);have q29:=bu.loc q21 (by omega);have b30:=bu.below b23 (by omega);rw[if_pos (by kernel_rfl)];refine wp_store_mid 98 (.tmp 4) (.tmp 14) rfl (w.heap.size+1) 0 (yOL c gg t so sc).toArray (by kernel_rfl) (by kernel_rfl) hth (by kernel_rfl) (by simp[Value.oneCell']) ?_;refine hK.out _ _ ⟨q27,q28,q29⟩ (fun hS31=> ?_)
 clear hK K;clear q22 r118 q19 q20 q21 b23 bu hth;refine tk 11 (yi fl) rfl (by kernel_rfl) (fun _ _ _ h=>h) (fun _ _=>by kernel_rfl) hS31 ?_
 refine wpAnyH_done (by kernel_rfl) ?_ _;clear hS0 hS24 hS31;change Exit.then _ _ _ _ (World.setCells w15 (w.heap.size+1) 0 (yOL c gg t so sc));generalize World.setCells w15 (w.heap.size+1) 0 (yOL c gg t so sc)=W32 at q27 q28 q29 q25 r26 b30⊢;simp only[Act.put,List.getElem_toArray,List.getElem_cons_succ,List.getElem_cons_zero,List.setIfInBounds_toArray,List.set_cons_zero,List.set_cons_succ];have hl:=run_loadVar_mid (P:=Tryz.prog) _ (w.heap.size+1) 0 98 (yOL c gg t so sc) _ q25.range Tryz.underlying98 rfl (by kernel_rfl)
 go_wp2
 exact bodyPost_ret (results_two Tryz.results64 rfl rfl hl) rfl ⟨_,rfl,r26,b30⟩
set_option maxHeartbeats 3200000 in
theorem div1_W (cx cy c fl:Int) (gg:Bool) (t:Trip) (n wy fam R D L G:Int) (gr:Bool) (gx gy:Bool) (x y:Trip) (xo yo:Option Addr) (xc yc:Nat) (g cap:Nat) (w:World) (h0:w.rangeAt g 0 (yOL cx gx x xo xc)) (h1:w.rangeAt g 5 (yOL cy gy y yo yc))
  (HS: ∀w1,Below w.heap.size w w1→Calls Tryz.prog 69 #[ykV n wy fam R D L G gr,yOV cx gx x xo xc,yOV cy gy y yo yc] w1 (OpRes2 w1 c gg t fl)):
  Calls Tryz.prog 68 #[ykV n wy fam R D L G gr,.slice (some ⟨g,0,none⟩) 2 cap] w (OpRes2 w c gg t fl):=by
 replace HS:Hid _:=HS;have hgl:g<w.heap.size:=World.block_lt_of_cell? w _ (h0 0 _ rfl);obtain⟨W4,hW5,q1,q2,b3⟩:=ent2 w (ykL n wy fam R D L G gr) 93 (yoL 0 false false (.slice none 0 0) 0) 98;replace hW5:Hid _:=hW5;have q6:=range_later h0 b3;have q7:=range_later h1 b3;clear h0 h1
 go_enter Tryz.func68,Tryz.ntmps68
 go_upto_region 1 with fail
 rw[hW5.out];clear hW5
 go_upto_region 1 with fail
 have bW8:Below W4.heap.size W4 W4.drew:=(Below.refl _ _).drew;have q9:=range_later q6 bW8;have q10:=range_later q7 bW8;have q11:=q1.later bW8;have q12:=q2.later bW8;have b13:=below_trans b3 bW8;clear q6 q7 q1 q2 b3 bW8;refine wp_region_held_drew (S:=fun wq=>wq.rangeAt g 0 (yOL cx gx x xo xc)∧wq.rangeAt g 5 (yOL cy gy y yo yc)∧LocE wq w.heap.size 93 (ykL n wy fam R D L G gr)) (by kernel_rfl) ⟨q9,q10,q11⟩ (fun hS0=> ?_)
 generalize W4.drew=WD14 at q9 q10 q11 q12 b13 hS0⊢;refine tk 0 (ykV n wy fam R D L G gr) rfl (by kernel_rfl) (fun _ _ _ h=>h) (fun _ hw0=>xrow 93 (.tmp 2) rfl w.heap.size 0 (by kernel_rfl) _ _ hw0.2.2.range Tryz.underlying93 rfl (by kernel_rfl)) hS0 ?_
 refine tk 1 (.slice (some ⟨g,0,none⟩) 2 cap) rfl (by kernel_rfl) (fun _ _ _ h=>h) (fun _ _=>by kernel_rfl) hS0 ?_
 refine tk 2 (.pointer (some ⟨g,0,none⟩)) rfl (by kernel_rfl) (fun _ _ _ h=>h) (fun _ _=>by kernel_rfl) hS0 ?_
 refine tk 3 (yOV cx gx x xo xc) rfl (by kernel_rfl) (fun _ _ _ h=>h) (fun _ hw0=>xrow 98 (.tmp 8) rfl g 0 (by kernel_rfl) _ _ hw0.1 Tryz.underlying98 rfl (by kernel_rfl)) hS0 ?_
 refine tk 4 (.slice (some ⟨g,0,none⟩) 2 cap) rfl (by kernel_rfl) (fun _ _ _ h=>h) (fun _ _=>by kernel_rfl) hS0 ?_
 refine tk 5 (.pointer (some ⟨g,5,none⟩)) rfl (by kernel_rfl) (fun _ _ _ h=>h) (fun _ _=>by kernel_rfl) hS0 ?_
 refine tk 6 (yOV cy gy y yo yc) rfl (by kernel_rfl) (fun _ _ _ h=>h) (fun _ hw0=>xrow 98 (.tmp 11) rfl g 5 (by kernel_rfl) _ _ hw0.2.1 Tryz.underlying98 rfl (by kernel_rfl)) hS0 ?_
 refine wpAnyH_ready (rs:=[7]) (by kernel_rfl) (by simp) ?_;refine AllReadyH.cons rfl (fun K hK=> ?_) AllReadyH.nil
 go_simp
 refine(HS.out _ b13).mono ?_;rintro zz w15 ⟨v117,rfl,r118,bb16⟩;have q19:=range_later q9 bb16;have q20:=range_later q10 bb16;have q21:=q11.later bb16;have q22:=q12.later bb16;have b23:=below_trans b13 bb16;obtain⟨so,sc,hv⟩:=r118.shape;subst hv;clear q9 q10 q11 q12 b13 bb16 HS;refine hK.out _ _ ⟨q19,q20,q21⟩ (fun hS24=> ?_)
 clear hK K;refine tk 8 (yOV c gg t so sc) rfl (by kernel_rfl) (fun _ _ _ h=>h) (fun _ _=>by go_simp) hS24 ?_
 refine tk 9 (yi fl) rfl (by kernel_rfl) (fun _ _ _ h=>h) (fun _ _=>by go_simp) hS24 ?_
 refine wpAnyH_ready (rs:=[10]) (by kernel_rfl) (by simp) ?_;refine AllReadyH.cons rfl (fun K hK=> ?_) AllReadyH.nil
 have bu:But (w.heap.size+1) w15 (w15.setCells (w.heap.size+1) 0 (yOL c gg t so sc)):=but_sets _ _ _ _;have hth:w15.there (w.heap.size+1) 0 5:=there_of q22;have q25:LocE (w15.setCells (w.heap.size+1) 0 (yOL c gg t so sc)) (w.heap.size+1) 98 (yOL c gg t so sc):=q22.sets _ rfl;have r26:=bu.rd r118 (rd_offU r118 q22 (by simp));have q27:=but_range bu q19 (by omega);have q28:=but_range bu q20 (by omega);have q29:=bu.loc q21 (by omega);have b30:=bu.below b23 (by omega);rw[if_pos (by kernel_rfl)];refine wp_store_mid 98 (.tmp 4) (.tmp 14) rfl (w.heap.size+1) 0 (yOL c gg t so sc).toArray (by kernel_rfl) (by kernel_rfl) hth (by kernel_rfl) (by simp[Value.oneCell']) ?_;refine hK.out _ _ ⟨q27,q28,q29⟩ (fun hS31=> ?_)
 clear hK K;clear q22 r118 q19 q20 q21 b23 bu hth;refine tk 11 (yi fl) rfl (by kernel_rfl) (fun _ _ _ h=>h) (fun _ _=>by kernel_rfl) hS31 ?_
 refine wpAnyH_done (by kernel_rfl) ?_ _;clear hS0 hS24 hS31;change Exit.then _ _ _ _ (World.setCells w15 (w.heap.size+1) 0 (yOL c gg t so sc));generalize World.setCells w15 (w.heap.size+1) 0 (yOL c gg t so sc)=W32 at q27 q28 q29 q25 r26 b30⊢;simp only[Act.put,List.getElem_toArray,List.getElem_cons_succ,List.getElem_cons_zero,List.setIfInBounds_toArray,List.set_cons_zero,List.set_cons_succ];have hl:=run_loadVar_mid (P:=Tryz.prog) _ (w.heap.size+1) 0 98 (yOL c gg t so sc) _ q25.range Tryz.underlying98 rfl (by kernel_rfl)
 go_wp2
 exact bodyPost_ret (results_two Tryz.results68 rfl rfl hl) rfl ⟨_,rfl,r26,b30⟩
set_option maxHeartbeats 3200000 in
theorem sub1_W (cx cy c fl:Int) (gg:Bool) (t:Trip) (n wy fam R D L G:Int) (gr:Bool) (gx gy:Bool) (x y:Trip) (xo yo:Option Addr) (xc yc:Nat) (g cap:Nat) (w:World) (h0:w.rangeAt g 0 (yOL cx gx x xo xc)) (h1:w.rangeAt g 5 (yOL cy gy y yo yc))
  (HO: ∀w1,Below w.heap.size w w1→Calls Tryz.prog 63 #[yOV cy gy y yo yc] w1 (OpRes w1 cy (!gy) ⟨!y.s,y.n,y.e⟩))
  (HS: ∀qo qc w1,Below w.heap.size w w1→Rd w1 .u32 (.slice qo (Dg.dg 4294967296 y.n).length qc) (Dg.dg 4294967296 y.n)→Calls Tryz.prog 55 #[ykV n wy fam R D L G gr,yOV cx gx x xo xc,yoV cy (!gy) (!y.s) (.slice qo (Dg.dg 4294967296 y.n).length qc) y.e] w1 (OpRes2 w1 c gg t fl)):
  Calls Tryz.prog 62 #[ykV n wy fam R D L G gr,.slice (some ⟨g,0,none⟩) 2 cap] w (OpRes2 w c gg t fl):=by
 replace HO:Hid _:=HO;replace HS:Hid _:=HS;have hgl:g<w.heap.size:=World.block_lt_of_cell? w _ (h0 0 _ rfl);obtain⟨W4,hW5,q1,q2,b3⟩:=ent2 w (ykL n wy fam R D L G gr) 93 (yoL 0 false false (.slice none 0 0) 0) 98;replace hW5:Hid _:=hW5;have q6:=range_later h0 b3;have q7:=range_later h1 b3;clear h0 h1
 go_enter Tryz.func62,Tryz.ntmps62
 go_upto_region 1 with fail
 rw[hW5.out];clear hW5
 go_upto_region 1 with fail
 have bW8:Below W4.heap.size W4 W4.drew:=(Below.refl _ _).drew;have q9:=range_later q6 bW8;have q10:=range_later q7 bW8;have q11:=q1.later bW8;have q12:=q2.later bW8;have b13:=below_trans b3 bW8;clear q6 q7 q1 q2 b3 bW8;refine wp_region_held_drew (S:=fun wq=>wq.rangeAt g 0 (yOL cx gx x xo xc)∧wq.rangeAt g 5 (yOL cy gy y yo yc)∧LocE wq w.heap.size 93 (ykL n wy fam R D L G gr)) (by kernel_rfl) ⟨q9,q10,q11⟩ (fun hS0=> ?_)
 generalize W4.drew=WD14 at q9 q10 q11 q12 b13 hS0⊢;refine tk 0 (ykV n wy fam R D L G gr) rfl (by kernel_rfl) (fun _ _ _ h=>h) (fun _ hw0=>xrow 93 (.tmp 2) rfl w.heap.size 0 (by kernel_rfl) _ _ hw0.2.2.range Tryz.underlying93 rfl (by kernel_rfl)) hS0 ?_
 refine tk 1 (.slice (some ⟨g,0,none⟩) 2 cap) rfl (by kernel_rfl) (fun _ _ _ h=>h) (fun _ _=>by kernel_rfl) hS0 ?_
 refine tk 2 (.pointer (some ⟨g,0,none⟩)) rfl (by kernel_rfl) (fun _ _ _ h=>h) (fun _ _=>by kernel_rfl) hS0 ?_
 refine tk 3 (yOV cx gx x xo xc) rfl (by kernel_rfl) (fun _ _ _ h=>h) (fun _ hw0=>xrow 98 (.tmp 8) rfl g 0 (by kernel_rfl) _ _ hw0.1 Tryz.underlying98 rfl (by kernel_rfl)) hS0 ?_
 refine tk 4 (.slice (some ⟨g,0,none⟩) 2 cap) rfl (by kernel_rfl) (fun _ _ _ h=>h) (fun _ _=>by kernel_rfl) hS0 ?_
 refine tk 5 (.pointer (some ⟨g,5,none⟩)) rfl (by kernel_rfl) (fun _ _ _ h=>h) (fun _ _=>by kernel_rfl) hS0 ?_
 refine tk 6 (yOV cy gy y yo yc) rfl (by kernel_rfl) (fun _ _ _ h=>h) (fun _ hw0=>xrow 98 (.tmp 11) rfl g 5 (by kernel_rfl) _ _ hw0.2.1 Tryz.underlying98 rfl (by kernel_rfl)) hS0 ?_
 refine wpAnyH_ready (rs:=[7]) (by kernel_rfl) (by simp) ?_;refine AllReadyH.cons rfl (fun K hK=> ?_) AllReadyH.nil
 go_simp
 refine(HO.out _ b13).mono ?_;rintro zz w15 ⟨v117,rfl,r118,bb16⟩;have q19:=range_later q9 bb16;have q20:=range_later q10 bb16;have q21:=q11.later bb16;have q22:=q12.later bb16;have b23:=below_trans b13 bb16;obtain⟨qo,qc,hv⟩:=r118.shape;subst hv;clear q9 q10 q11 q12 b13 bb16 HO;refine hK.out _ _ ⟨q19,q20,q21⟩ (fun hS24=> ?_)
 clear hK K;refine wpAnyH_ready (rs:=[8]) (by kernel_rfl) (by simp) ?_;refine AllReadyH.cons rfl (fun K hK=> ?_) AllReadyH.nil
 go_simp
 refine(HS.out _ _ _ b23 r118).mono ?_;rintro zz w25 ⟨v127,rfl,r128,bb26⟩;have q29:=range_later q19 bb26;have q30:=range_later q20 bb26;have q31:=q21.later bb26;have q32:=q22.later bb26;have r33:=r118.later bb26;have b34:=below_trans b23 bb26;obtain⟨so,sc,hv⟩:=r128.shape;subst hv;clear q19 q20 q21 q22 r118 b23 bb26 HS;refine hK.out _ _ ⟨q29,q30,q31⟩ (fun hS35=> ?_)
 clear hK K;refine tk 9 (yOV c gg t so sc) rfl (by kernel_rfl) (fun _ _ _ h=>h) (fun _ _=>by go_simp) hS35 ?_
 refine tk 10 (yi fl) rfl (by kernel_rfl) (fun _ _ _ h=>h) (fun _ _=>by go_simp) hS35 ?_
 refine wpAnyH_ready (rs:=[11]) (by kernel_rfl) (by simp) ?_;refine AllReadyH.cons rfl (fun K hK=> ?_) AllReadyH.nil
 have bu:But (w.heap.size+1) w25 (w25.setCells (w.heap.size+1) 0 (yOL c gg t so sc)):=but_sets _ _ _ _;have hth:w25.there (w.heap.size+1) 0 5:=there_of q32;have q36:LocE (w25.setCells (w.heap.size+1) 0 (yOL c gg t so sc)) (w.heap.size+1) 98 (yOL c gg t so sc):=q32.sets _ rfl;have r37:=bu.rd r33 (rd_offU r33 q32 (by simp));have r38:=bu.rd r128 (rd_offU r128 q32 (by simp));have q39:=but_range bu q29 (by omega);have q40:=but_range bu q30 (by omega);have q41:=bu.loc q31 (by omega);have b42:=bu.below b34 (by omega);rw[if_pos (by kernel_rfl)];refine wp_store_mid 98 (.tmp 4) (.tmp 15) rfl (w.heap.size+1) 0 (yOL c gg t so sc).toArray (by kernel_rfl) (by kernel_rfl) hth (by kernel_rfl) (by simp[Value.oneCell']) ?_;refine hK.out _ _ ⟨q39,q40,q41⟩ (fun hS43=> ?_)
 clear hK K;clear q32 r33 r128 q29 q30 q31 b34 bu hth;refine tk 12 (yi fl) rfl (by kernel_rfl) (fun _ _ _ h=>h) (fun _ _=>by kernel_rfl) hS43 ?_
 refine wpAnyH_done (by kernel_rfl) ?_ _;clear hS0 hS24 hS35 hS43;change Exit.then _ _ _ _ (World.setCells w25 (w.heap.size+1) 0 (yOL c gg t so sc));generalize World.setCells w25 (w.heap.size+1) 0 (yOL c gg t so sc)=W44 at q39 q40 q41 q36 r37 r38 b42⊢;simp only[Act.put,List.getElem_toArray,List.getElem_cons_succ,List.getElem_cons_zero,List.setIfInBounds_toArray,List.set_cons_zero,List.set_cons_succ];have hl:=run_loadVar_mid (P:=Tryz.prog) _ (w.heap.size+1) 0 98 (yOL c gg t so sc) _ q36.range Tryz.underlying98 rfl (by kernel_rfl)
 go_wp2
 exact bodyPost_ret (results_two Tryz.results62 rfl rfl hl) rfl ⟨_,rfl,r38,b42⟩
set_option maxHeartbeats 3200000 in
theorem sqrt1_W (cx c fl:Int) (gg:Bool) (t:Trip) (n wy fam R D L G:Int) (gr:Bool) (gx:Bool) (x:Trip) (xo:Option Addr) (xc:Nat) (g cap:Nat) (w:World) (h0:w.rangeAt g 0 (yOL cx gx x xo xc))
  (HS: ∀w1,Below w.heap.size w w1→Calls Tryz.prog 73 #[ykV n wy fam R D L G gr,yOV cx gx x xo xc] w1 (OpRes2 w1 c gg t fl)):
  Calls Tryz.prog 72 #[ykV n wy fam R D L G gr,.slice (some ⟨g,0,none⟩) 1 cap] w (OpRes2 w c gg t fl):=by
 replace HS:Hid _:=HS;have hgl:g<w.heap.size:=World.block_lt_of_cell? w _ (h0 0 _ rfl);obtain⟨W4,hW5,q1,q2,b3⟩:=ent2 w (ykL n wy fam R D L G gr) 93 (yoL 0 false false (.slice none 0 0) 0) 98;replace hW5:Hid _:=hW5;have q6:=range_later h0 b3;clear h0
 go_enter Tryz.func72,Tryz.ntmps72
 go_upto_region 1 with fail
 rw[hW5.out];clear hW5
 go_upto_region 1 with fail
 have bW7:Below W4.heap.size W4 W4.drew:=(Below.refl _ _).drew;have q8:=range_later q6 bW7;have q9:=q1.later bW7;have q10:=q2.later bW7;have b11:=below_trans b3 bW7;clear q6 q1 q2 b3 bW7;refine wp_region_held_drew (S:=fun wq=>wq.rangeAt g 0 (yOL cx gx x xo xc)∧LocE wq w.heap.size 93 (ykL n wy fam R D L G gr)) (by kernel_rfl) ⟨q8,q9⟩ (fun hS0=> ?_)
 generalize W4.drew=WD12 at q8 q9 q10 b11 hS0⊢;refine tk 0 (ykV n wy fam R D L G gr) rfl (by kernel_rfl) (fun _ _ _ h=>h) (fun _ hw0=>xrow 93 (.tmp 2) rfl w.heap.size 0 (by kernel_rfl) _ _ hw0.2.range Tryz.underlying93 rfl (by kernel_rfl)) hS0 ?_
 refine tk 1 (.slice (some ⟨g,0,none⟩) 1 cap) rfl (by kernel_rfl) (fun _ _ _ h=>h) (fun _ _=>by kernel_rfl) hS0 ?_
 refine tk 2 (.pointer (some ⟨g,0,none⟩)) rfl (by kernel_rfl) (fun _ _ _ h=>h) (fun _ _=>by kernel_rfl) hS0 ?_
 refine tk 3 (yOV cx gx x xo xc) rfl (by kernel_rfl) (fun _ _ _ h=>h) (fun _ hw0=>xrow 98 (.tmp 8) rfl g 0 (by kernel_rfl) _ _ hw0.1 Tryz.underlying98 rfl (by kernel_rfl)) hS0 ?_
 refine wpAnyH_ready (rs:=[4]) (by kernel_rfl) (by simp) ?_;refine AllReadyH.cons rfl (fun K hK=> ?_) AllReadyH.nil
 go_simp
 refine(HS.out _ b11).mono ?_;rintro zz w13 ⟨v115,rfl,r116,bb14⟩;have q17:=range_later q8 bb14;have q18:=q9.later bb14;have q19:=q10.later bb14;have b20:=below_trans b11 bb14;obtain⟨so,sc,hv⟩:=r116.shape;subst hv;clear q8 q9 q10 b11 bb14 HS;refine hK.out _ _ ⟨q17,q18⟩ (fun hS21=> ?_)
 clear hK K;refine tk 5 (yOV c gg t so sc) rfl (by kernel_rfl) (fun _ _ _ h=>h) (fun _ _=>by go_simp) hS21 ?_
 refine tk 6 (yi fl) rfl (by kernel_rfl) (fun _ _ _ h=>h) (fun _ _=>by go_simp) hS21 ?_
 refine wpAnyH_ready (rs:=[7]) (by kernel_rfl) (by simp) ?_;refine AllReadyH.cons rfl (fun K hK=> ?_) AllReadyH.nil
 have bu:But (w.heap.size+1) w13 (w13.setCells (w.heap.size+1) 0 (yOL c gg t so sc)):=but_sets _ _ _ _;have hth:w13.there (w.heap.size+1) 0 5:=there_of q19;have q22:LocE (w13.setCells (w.heap.size+1) 0 (yOL c gg t so sc)) (w.heap.size+1) 98 (yOL c gg t so sc):=q19.sets _ rfl;have r23:=bu.rd r116 (rd_offU r116 q19 (by simp));have q24:=but_range bu q17 (by omega);have q25:=bu.loc q18 (by omega);have b26:=bu.below b20 (by omega);rw[if_pos (by kernel_rfl)];refine wp_store_mid 98 (.tmp 4) (.tmp 11) rfl (w.heap.size+1) 0 (yOL c gg t so sc).toArray (by kernel_rfl) (by kernel_rfl) hth (by kernel_rfl) (by simp[Value.oneCell']) ?_;refine hK.out _ _ ⟨q24,q25⟩ (fun hS27=> ?_)
 clear hK K;clear q19 r116 q17 q18 b20 bu hth;refine tk 8 (yi fl) rfl (by kernel_rfl) (fun _ _ _ h=>h) (fun _ _=>by kernel_rfl) hS27 ?_
 refine wpAnyH_done (by kernel_rfl) ?_ _;clear hS0 hS21 hS27;change Exit.then _ _ _ _ (World.setCells w13 (w.heap.size+1) 0 (yOL c gg t so sc));generalize World.setCells w13 (w.heap.size+1) 0 (yOL c gg t so sc)=W28 at q24 q25 q22 r23 b26⊢;simp only[Act.put,List.getElem_toArray,List.getElem_cons_succ,List.getElem_cons_zero,List.setIfInBounds_toArray,List.set_cons_zero,List.set_cons_succ];have hl:=run_loadVar_mid (P:=Tryz.prog) _ (w.heap.size+1) 0 98 (yOL c gg t so sc) _ q22.range Tryz.underlying98 rfl (by kernel_rfl)
 go_wp2
 exact bodyPost_ret (results_two Tryz.results72 rfl rfl hl) rfl ⟨_,rfl,r23,b26⟩
set_option maxHeartbeats 3200000 in
theorem sub_W (n way f1 e1:Int) (a b st:ByteArray) (w:World)
  (HR: ∀pb w1,Below w.heap.size w w1→LocE w1 pb 9 [.string a,.string b]→Calls Tryz.prog 53 #[yi n,yi way,.func (.func 62) #[] #[],.slice (some ⟨pb,0,none⟩) 2 2] w1 fun z w'=>z= .returned (.tuple #[.string st,yi f1,yi e1])∧Below w1.heap.size w1 w'):
  Calls Tryz.prog 22 #[yi n,.string a,.string b,yi way] w fun z w'=>z= .returned (.tuple #[.string st,yi f1,yi e1])∧Below w.heap.size w w':=by
 replace HR:Hid _:=HR
 go_enter Tryz.func22,Tryz.ntmps22
 have b0:=Below.refl w.heap.size w;have al1:=below_alloc w (.cells #[.string a,.string b] 9);have q2:=locE_new w [.string a,.string b] 9;have b3:=below_trans b0 al1
 go_wp2_with fail
 refine(HR.out _ _ b3 q2).mono ?_;rintro zz w4 ⟨rfl,bb5⟩;have b6:=below_trans b3 bb5;clear q2 b3 bb5 b0 al1
 go_wp2
 go_ret3
 exact⟨rfl,b6⟩
set_option maxHeartbeats 3200000 in
theorem mul_W (n way f1 e1:Int) (a b st:ByteArray) (w:World)
  (HR: ∀pb w1,Below w.heap.size w w1→LocE w1 pb 9 [.string a,.string b]→Calls Tryz.prog 53 #[yi n,yi way,.func (.func 64) #[] #[],.slice (some ⟨pb,0,none⟩) 2 2] w1 fun z w'=>z= .returned (.tuple #[.string st,yi f1,yi e1])∧Below w1.heap.size w1 w'):
  Calls Tryz.prog 24 #[yi n,.string a,.string b,yi way] w fun z w'=>z= .returned (.tuple #[.string st,yi f1,yi e1])∧Below w.heap.size w w':=by
 replace HR:Hid _:=HR
 go_enter Tryz.func24,Tryz.ntmps24
 have b0:=Below.refl w.heap.size w;have al1:=below_alloc w (.cells #[.string a,.string b] 9);have q2:=locE_new w [.string a,.string b] 9;have b3:=below_trans b0 al1
 go_wp2_with fail
 refine(HR.out _ _ b3 q2).mono ?_;rintro zz w4 ⟨rfl,bb5⟩;have b6:=below_trans b3 bb5;clear q2 b3 bb5 b0 al1
 go_wp2
 go_ret3
 exact⟨rfl,b6⟩
set_option maxHeartbeats 3200000 in
theorem div_W (n way f1 e1:Int) (a b st:ByteArray) (w:World)
  (HR: ∀pb w1,Below w.heap.size w w1→LocE w1 pb 9 [.string a,.string b]→Calls Tryz.prog 53 #[yi n,yi way,.func (.func 68) #[] #[],.slice (some ⟨pb,0,none⟩) 2 2] w1 fun z w'=>z= .returned (.tuple #[.string st,yi f1,yi e1])∧Below w1.heap.size w1 w'):
  Calls Tryz.prog 26 #[yi n,.string a,.string b,yi way] w fun z w'=>z= .returned (.tuple #[.string st,yi f1,yi e1])∧Below w.heap.size w w':=by
 replace HR:Hid _:=HR
 go_enter Tryz.func26,Tryz.ntmps26
 have b0:=Below.refl w.heap.size w;have al1:=below_alloc w (.cells #[.string a,.string b] 9);have q2:=locE_new w [.string a,.string b] 9;have b3:=below_trans b0 al1
 go_wp2_with fail
 refine(HR.out _ _ b3 q2).mono ?_;rintro zz w4 ⟨rfl,bb5⟩;have b6:=below_trans b3 bb5;clear q2 b3 bb5 b0 al1
 go_wp2
 go_ret3
 exact⟨rfl,b6⟩
set_option maxHeartbeats 3200000 in
theorem fused_W (n way f1 e1:Int) (a b c st:ByteArray) (w:World)
  (HR: ∀pb w1,Below w.heap.size w w1→LocE w1 pb 9 [.string a,.string b,.string c]→Calls Tryz.prog 53 #[yi n,yi way,.func (.func 71) #[] #[],.slice (some ⟨pb,0,none⟩) 3 3] w1 fun z w'=>z= .returned (.tuple #[.string st,yi f1,yi e1])∧Below w1.heap.size w1 w'):
  Calls Tryz.prog 28 #[yi n,.string a,.string b,.string c,yi way] w fun z w'=>z= .returned (.tuple #[.string st,yi f1,yi e1])∧Below w.heap.size w w':=by
 replace HR:Hid _:=HR
 go_enter Tryz.func28,Tryz.ntmps28
 have b0:=Below.refl w.heap.size w;have al1:=below_alloc w (.cells #[.string a,.string b,.string c] 9);have q2:=locE_new w [.string a,.string b,.string c] 9;have b3:=below_trans b0 al1
 go_wp2_with fail
 refine(HR.out _ _ b3 q2).mono ?_;rintro zz w4 ⟨rfl,bb5⟩;have b6:=below_trans b3 bb5;clear q2 b3 bb5 b0 al1
 go_wp2
 go_ret3
 exact⟨rfl,b6⟩
set_option maxHeartbeats 3200000 in
theorem sqrt_W (n way f1 e1:Int) (a st:ByteArray) (w:World)
  (HR: ∀pb w1,Below w.heap.size w w1→LocE w1 pb 9 [.string a]→Calls Tryz.prog 53 #[yi n,yi way,.func (.func 72) #[] #[],.slice (some ⟨pb,0,none⟩) 1 1] w1 fun z w'=>z= .returned (.tuple #[.string st,yi f1,yi e1])∧Below w1.heap.size w1 w'):
  Calls Tryz.prog 30 #[yi n,.string a,yi way] w fun z w'=>z= .returned (.tuple #[.string st,yi f1,yi e1])∧Below w.heap.size w w':=by
 replace HR:Hid _:=HR
 go_enter Tryz.func30,Tryz.ntmps30
 have b0:=Below.refl w.heap.size w;have al1:=below_alloc w (.cells #[.string a] 9);have q2:=locE_new w [.string a] 9;have b3:=below_trans b0 al1
 go_wp2_with fail
 refine(HR.out _ _ b3 q2).mono ?_;rintro zz w4 ⟨rfl,bb5⟩;have b6:=below_trans b3 bb5;clear q2 b3 bb5 b0 al1
 go_wp2
 go_ret3
 exact⟨rfl,b6⟩
end Go.Proofs.YtnhackdjplppjaaGreatDoor

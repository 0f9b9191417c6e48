/-
  Texts laid together: Gb6, Pa1, Pa3.
-/
import Derived.Test.YtdhpndnncmagiaaGreatDoorMa16
import Derived.Test.YtdhpndnncmagiaaGreatDoorMa35
import Derived.Test.YtdhpndnncmagiaaGreatDoorMa36
import Derived.Test.YtdhpndnncmagiaaGreatDoorMa37
set_option maxRecDepth 100000
set_option maxHeartbeats 3200000
namespace Go.Proofs.YtdhpndnncmagiaaGreatDoor
open _root_.Go.Proofs.Tryz
open Go.RowKit
theorem lF (g s:Bool)(o:Option Addr)(l k:Nat)(e:Int)(w:World):yC 68 #[yoV 3 g s (.slice o l k) e] w (yR w (.bool true)):=SY 3 g s o l k e w
theorem Oh (c:Int)(n wy fam R D L G:Int)(gr:Bool)(gx gy:Bool)(x y:ak)(xo yo:Option Addr)(xc yc:Nat)(w:World)
  (HN:yJ 67 #[ykV n wy fam R D L G gr,yi 16] (.tuple #[yoV c false false yN 0,yi 16])):
  yC 170 #[ykV n wy fam R D L G gr,yOV 3 gx x xo xc,yOV 1 gy y yo yc] w (dU w c false ⟨false,0,0⟩ 16):=by
 replace HN:Hid _:=HN;obtain⟨W6,hW7,q1,q2,q3,q4,b5⟩:=pi w (ykL n wy fam R D L G gr) 83 (yOL 3 gx x xo xc) 88 (yOL 1 gy y yo yc) 88 (yoL 0 false false yN 0) 88;replace hW7:Hid _:=hW7
 go_enter func170,ntmps170
 go_upto_region 1 with fail
 rw[hW7.out];clear hW7;obtain⟨c8,c9,c10,c11,c12⟩:=q2.cs5;have c13:=q3.c 1 rfl
 go_wp2_with fail
 refine(lF _ _ _ _ _ _ _).mono ?_;rintro zz w14 ⟨rfl,bb15⟩;have q16:=q1.l bb15;have q17:=q3.l bb15;have q18:=q4.l bb15;have b19:=aa b5 bb15;clear q1 q2 q3 q4 b5 bb15 c8 c9 c10 c11 c12 c13;obtain⟨c20,c21,c22,c23,c24⟩:=q17.cs5
 go_wp2_with fail
 refine(BR _ _ _ _ _ _ _).mono ?_;rintro zz w25 ⟨rfl,bb26⟩;have q27:=q16.l bb26;have q28:=q18.l bb26;have b29:=aa b19 bb26;clear q16 q17 q18 b19 bb26 c20 c21 c22 c23 c24;obtain⟨c30,c31,c32,c33,c34,c35,c36,c37⟩:=q27.cs8
 go_wp2_with fail
 refine(HN.out _).mono ?_;rintro zz w38 ⟨rfl,bb39⟩;have q40:=q28.l bb39;have b41:=aa b29 bb39;clear q27 q28 b29 bb39 HN c30 c31 c32 c33 c34 c35 c36 c37;have hf:=dL (P:=Tryz.prog) q40 b41 (by omega) underlying88 rfl (by kernel_rfl) (yi c) (.bool false) (.bool false) yN (yi 0);have HH:Hid (_∧_):=⟨hf.1,hf.2.1⟩;obtain⟨⟨z0,z1,z2,z3,z4⟩,y0,y1,y2,y3,y4⟩:=dN q40;clear hf q40 b41
 go_wp2
 obtain⟨hl,bR⟩:=HH.out;exact bodyPost_ret (aj results170 rfl rfl hl) rfl ⟨_,rfl,aN _ _,bR⟩
theorem Oi (c:Int)(n wy fam R D L G:Int)(gr:Bool)(gx gy:Bool)(x y:ak)(xo yo:Option Addr)(xc yc:Nat)(w:World)
  (HN:yJ 67 #[ykV n wy fam R D L G gr,yi 16] (.tuple #[yoV c false false yN 0,yi 16])):
  yC 170 #[ykV n wy fam R D L G gr,yOV 1 gx x xo xc,yOV 3 gy y yo yc] w (dU w c false ⟨false,0,0⟩ 16):=by
 replace HN:Hid _:=HN;obtain⟨W6,hW7,q1,q2,q3,q4,b5⟩:=pi w (ykL n wy fam R D L G gr) 83 (yOL 1 gx x xo xc) 88 (yOL 3 gy y yo yc) 88 (yoL 0 false false yN 0) 88;replace hW7:Hid _:=hW7
 go_enter func170,ntmps170
 go_upto_region 1 with fail
 rw[hW7.out];clear hW7;obtain⟨c8,c9,c10,c11,c12⟩:=q2.cs5;have c13:=q3.c 1 rfl
 go_wp2_with fail
 refine(iY _ _ _ _ _ _ _ _ rfl).mono ?_;rintro zz w14 ⟨rfl,bb15⟩;have q16:=q1.l bb15;have q17:=q2.l bb15;have q18:=q3.l bb15;have q19:=q4.l bb15;have b20:=aa b5 bb15;clear q1 q2 q3 q4 b5 bb15 c8 c9 c10 c11 c12 c13;obtain⟨c21,c22,c23,c24,c25⟩:=q17.cs5
 go_wp2_with fail
 refine(BR _ _ _ _ _ _ _).mono ?_;rintro zz w26 ⟨rfl,bb27⟩;have q28:=q16.l bb27;have q29:=q18.l bb27;have q30:=q19.l bb27;have b31:=aa b20 bb27;clear q16 q17 q18 q19 b20 bb27 c21 c22 c23 c24 c25;obtain⟨c32,c33,c34,c35,c36⟩:=q29.cs5
 go_wp2_with fail
 refine(lF _ _ _ _ _ _ _).mono ?_;rintro zz w37 ⟨rfl,bb38⟩;have q39:=q28.l bb38;have q40:=q30.l bb38;have b41:=aa b31 bb38;clear q28 q29 q30 b31 bb38 c32 c33 c34 c35 c36;obtain⟨c42,c43,c44,c45,c46,c47,c48,c49⟩:=q39.cs8
 go_wp2_with fail
 refine(HN.out _).mono ?_;rintro zz w50 ⟨rfl,bb51⟩;have q52:=q40.l bb51;have b53:=aa b41 bb51;clear q39 q40 b41 bb51 HN c42 c43 c44 c45 c46 c47 c48 c49;have hf:=dL (P:=Tryz.prog) q52 b53 (by omega) underlying88 rfl (by kernel_rfl) (yi c) (.bool false) (.bool false) yN (yi 0);have HH:Hid (_∧_):=⟨hf.1,hf.2.1⟩;obtain⟨⟨z0,z1,z2,z3,z4⟩,y0,y1,y2,y3,y4⟩:=dN q52;clear hf q52 b53
 go_wp2
 obtain⟨hl,bR⟩:=HH.out;exact bodyPost_ret (aj results170 rfl rfl hl) rfl ⟨_,rfl,aN _ _,bR⟩
theorem Oj (cy:Int)(n wy fam R D L G:Int)(gr:Bool)(gx gy:Bool)(x y:ak)(xo yo:Option Addr)(xc yc:Nat)(w:World)(hy1:(cy==1)=false):
  yC 170 #[ykV n wy fam R D L G gr,yOV 3 gx x xo xc,yOV cy gy y yo yc] w (dU w 3 (gx != gy) ⟨false,0,0⟩ 0):=by
 obtain⟨W6,hW7,q1,q2,q3,q4,b5⟩:=pi w (ykL n wy fam R D L G gr) 83 (yOL 3 gx x xo xc) 88 (yOL cy gy y yo yc) 88 (yoL 0 false false yN 0) 88;replace hW7:Hid _:=hW7;clear q1
 go_enter func170,ntmps170
 go_upto_region 1 with fail
 rw[hW7.out];clear hW7;obtain⟨c8,c9,c10,c11,c12⟩:=q2.cs5;have c13:=q3.c 1 rfl
 go_wp2_with fail
 refine(lF _ _ _ _ _ _ _).mono ?_;rintro zz w14 ⟨rfl,bb15⟩;have q16:=q2.l bb15;have q17:=q3.l bb15;have q18:=q4.l bb15;have b19:=aa b5 bb15;clear q2 q3 q4 b5 bb15 c8 c9 c10 c11 c12 c13;obtain⟨c20,c21,c22,c23,c24⟩:=q17.cs5
 go_wp2_with fail
 refine(sC _ _ _ _ _ _ _ _ hy1).mono ?_;rintro zz w25 ⟨rfl,bb26⟩;have q27:=q16.l bb26;have q28:=q18.l bb26;have b29:=aa b19 bb26;clear q16 q17 q18 b19 bb26 c20 c21 c22 c23 c24;obtain⟨c30,c31,c32,c33,c34⟩:=q27.cs5
 go_wp2_with fail
 refine(sC _ _ _ _ _ _ _ _ rfl).mono ?_;rintro zz w35 ⟨rfl,bb36⟩;have q37:=q27.l bb36;have q38:=q28.l bb36;have b39:=aa b29 bb36;clear q27 q28 b29 bb36 c30 c31 c32 c33 c34;obtain⟨c40,c41,c42,c43,c44⟩:=q37.cs5
 go_wp2_with fail
 refine(lF _ _ _ _ _ _ _).mono ?_;rintro zz w45 ⟨rfl,bb46⟩;have q47:=q38.l bb46;have b48:=aa b39 bb46;clear q37 q38 b39 bb46 c40 c41 c42 c43 c44;have hf:=dL (P:=Tryz.prog) q47 b48 (by omega) underlying88 rfl (by kernel_rfl) (yi 3) (.bool (gx != gy)) (.bool false) yN (yi 0);have HH:Hid (_∧_):=⟨hf.1,hf.2.1⟩;obtain⟨⟨z0,z1,z2,z3,z4⟩,y0,y1,y2,y3,y4⟩:=dN q47;clear hf q47 b48
 go_wp2
 obtain⟨hl,bR⟩:=HH.out;exact bodyPost_ret (aj results170 rfl rfl hl) rfl ⟨_,rfl,aN _ _,bR⟩
theorem Ok (cx:Int)(n wy fam R D L G:Int)(gr:Bool)(gx gy:Bool)(x y:ak)(xo yo:Option Addr)(xc yc:Nat)(w:World)(hx3:(cx==3)=false)(hx1:(cx==1)=false):
  yC 170 #[ykV n wy fam R D L G gr,yOV cx gx x xo xc,yOV 3 gy y yo yc] w (dU w 3 (gx != gy) ⟨false,0,0⟩ 0):=by
 obtain⟨W6,hW7,q1,q2,q3,q4,b5⟩:=pi w (ykL n wy fam R D L G gr) 83 (yOL cx gx x xo xc) 88 (yOL 3 gy y yo yc) 88 (yoL 0 false false yN 0) 88;replace hW7:Hid _:=hW7;clear q1
 go_enter func170,ntmps170
 go_upto_region 1 with fail
 rw[hW7.out];clear hW7;obtain⟨c8,c9,c10,c11,c12⟩:=q2.cs5;have c13:=q3.c 1 rfl
 go_wp2_with fail
 refine(iY _ _ _ _ _ _ _ _ hx3).mono ?_;rintro zz w14 ⟨rfl,bb15⟩;have q16:=q2.l bb15;have q17:=q3.l bb15;have q18:=q4.l bb15;have b19:=aa b5 bb15;clear q2 q3 q4 b5 bb15 c8 c9 c10 c11 c12 c13;obtain⟨c20,c21,c22,c23,c24⟩:=q16.cs5
 go_wp2_with fail
 refine(sC _ _ _ _ _ _ _ _ hx1).mono ?_;rintro zz w25 ⟨rfl,bb26⟩;have q27:=q16.l bb26;have q28:=q17.l bb26;have q29:=q18.l bb26;have b30:=aa b19 bb26;clear q16 q17 q18 b19 bb26 c20 c21 c22 c23 c24;obtain⟨c31,c32,c33,c34,c35⟩:=q27.cs5
 go_wp2_with fail
 refine(iY _ _ _ _ _ _ _ _ hx3).mono ?_;rintro zz w36 ⟨rfl,bb37⟩;have q38:=q28.l bb37;have q39:=q29.l bb37;have b40:=aa b30 bb37;clear q27 q28 q29 b30 bb37 c31 c32 c33 c34 c35;obtain⟨c41,c42,c43,c44,c45⟩:=q38.cs5
 go_wp2_with fail
 refine(lF _ _ _ _ _ _ _).mono ?_;rintro zz w46 ⟨rfl,bb47⟩;have q48:=q39.l bb47;have b49:=aa b40 bb47;clear q38 q39 b40 bb47 c41 c42 c43 c44 c45;have hf:=dL (P:=Tryz.prog) q48 b49 (by omega) underlying88 rfl (by kernel_rfl) (yi 3) (.bool (gx != gy)) (.bool false) yN (yi 0);have HH:Hid (_∧_):=⟨hf.1,hf.2.1⟩;obtain⟨⟨z0,z1,z2,z3,z4⟩,y0,y1,y2,y3,y4⟩:=dN q48;clear hf q48 b49
 go_wp2
 obtain⟨hl,bR⟩:=HH.out;exact bodyPost_ret (aj results170 rfl rfl hl) rfl ⟨_,rfl,aN _ _,bR⟩
theorem K5 (cx cy c:Int)(g:Bool)(t u:ak)(n wy fam R D L G:Int)(gr:Bool)(gx gy:Bool)(x y:ak)(xo yo:Option Addr)(xc yc:Nat)(w:World)(hx3:(cx==3)=false)(hx1:(cx==1)=false)(hy3:(cy==3)=false)
  (HT: ∀w1,yB w w1→yC 217 #[yDV x xo xc,yDV y yo yc] w1 (jN w1 u))
  (HM: ∀uo uc w1,Rd w1 .u32 (yT uo u.n uc) (Dg.dg 4294967296 u.n)→yC 69 #[yDV u uo uc,.bool (gx != gy)] w1 (xj w1 c g t)):
  yC 170 #[ykV n wy fam R D L G gr,yOV cx gx x xo xc,yOV cy gy y yo yc] w (dU w c g t 0):=by
 replace HT:Hid _:=HT;replace HM:Hid _:=HM;obtain⟨W6,hW7,q1,q2,q3,q4,b5⟩:=pi w (ykL n wy fam R D L G gr) 83 (yOL cx gx x xo xc) 88 (yOL cy gy y yo yc) 88 (yoL 0 false false yN 0) 88;replace hW7:Hid _:=hW7;clear q1
 go_enter func170,ntmps170
 go_upto_region 1 with fail
 rw[hW7.out];clear hW7;obtain⟨c8,c9,c10,c11,c12⟩:=q2.cs5;have c13:=q3.c 1 rfl
 go_wp2_with fail
 refine(iY _ _ _ _ _ _ _ _ hx3).mono ?_;rintro zz w14 ⟨rfl,bb15⟩;have q16:=q2.l bb15;have q17:=q3.l bb15;have q18:=q4.l bb15;have b19:=aa b5 bb15;clear q2 q3 q4 b5 bb15 c8 c9 c10 c11 c12 c13;obtain⟨c20,c21,c22,c23,c24⟩:=q16.cs5
 go_wp2_with fail
 refine(sC _ _ _ _ _ _ _ _ hx1).mono ?_;rintro zz w25 ⟨rfl,bb26⟩;have q27:=q16.l bb26;have q28:=q17.l bb26;have q29:=q18.l bb26;have b30:=aa b19 bb26;clear q16 q17 q18 b19 bb26 c20 c21 c22 c23 c24;obtain⟨c31,c32,c33,c34,c35⟩:=q27.cs5
 go_wp2_with fail
 refine(iY _ _ _ _ _ _ _ _ hx3).mono ?_;rintro zz w36 ⟨rfl,bb37⟩;have q38:=q27.l bb37;have q39:=q28.l bb37;have q40:=q29.l bb37;have b41:=aa b30 bb37;clear q27 q28 q29 b30 bb37 c31 c32 c33 c34 c35;obtain⟨c42,c43,c44,c45,c46⟩:=q39.cs5
 go_wp2_with fail
 refine(iY _ _ _ _ _ _ _ _ hy3).mono ?_;rintro zz w47 ⟨rfl,bb48⟩;have q49:=q38.l bb48;have q50:=q39.l bb48;have q51:=q40.l bb48;have b52:=aa b41 bb48;clear q38 q39 q40 b41 bb48 c42 c43 c44 c45 c46;have c53:=q49.c 2 rfl;have c54:=q49.c 3 rfl;have c55:=q49.c 4 rfl;have c56:=q50.c 2 rfl;have c57:=q50.c 3 rfl;have c58:=q50.c 4 rfl
 go_wp2_with fail
 refine(HT.out _ b52).mono ?_;rintro zz w59 ⟨v161,rfl,r162,bb60⟩;have q63:=q51.l bb60;have b64:=aa b52 bb60;have r65:=r162.rd;obtain⟨uo,uc,hv⟩:=r65.shape;subst hv;clear q49 q50 q51 b52 bb60 r162 HT c53 c54 c55 c56 c57 c58
 go_wp2_with fail
 refine(HM.out _ _ _ r65).mono ?_;rintro zz w66 ⟨v168,rfl,r169,bb67⟩;have q70:=q63.l bb67;have r71:=r65.l bb67;have b72:=aa b64 bb67;obtain⟨so,sc,hv⟩:=r169.shape;subst hv;clear q63 r65 b64 bb67 HM;have hf:=dL (P:=Tryz.prog) q70 b72 (by omega) underlying88 rfl (by kernel_rfl) (yi c) (.bool g) (.bool t.s) (yT so t.n sc) (yi t.e);have HH:Hid (_∧_∧_):=⟨hf.1,hf.2.2.rd r169 (aX r169 q70 (by simp)),hf.2.1⟩;obtain⟨⟨z0,z1,z2,z3,z4⟩,y0,y1,y2,y3,y4⟩:=dN q70;clear hf q70 r71 r169 b72
 go_wp2
 obtain⟨hl,rRs,bR⟩:=HH.out;exact bodyPost_ret (aj results170 rfl rfl hl) rfl ⟨_,rfl,rRs,bR⟩
theorem Rz (c:Int)(n wy fam R D L G:Int)(gr:Bool)(x y:ak)(xo yo:Option Addr)(xc yc:Nat)(w:World)
  (HN:yJ 67 #[ykV n wy fam R D L G gr,yi 16] (.tuple #[yoV c false false yN 0,yi 16])):
  yC 35 #[ykV n wy fam R D L G gr,yOV 3 true x xo xc,yOV 3 false y yo yc] w (dU w c false ⟨false,0,0⟩ 16):=by
 replace HN:Hid _:=HN;obtain⟨W6,hW7,q1,q2,q3,q4,b5⟩:=pi w (ykL n wy fam R D L G gr) 83 (yOL 3 true x xo xc) 88 (yOL 3 false y yo yc) 88 (yoL 0 false false yN 0) 88;replace hW7:Hid _:=hW7
 go_enter func35,ntmps35
 go_upto_region 1 with fail
 rw[hW7.out];clear hW7;obtain⟨c8,c9,c10,c11,c12⟩:=q2.cs5
 go_wp2_with fail
 refine(lF _ _ _ _ _ _ _).mono ?_;rintro zz w13 ⟨rfl,bb14⟩;have q15:=q1.l bb14;have q16:=q2.l bb14;have q17:=q3.l bb14;have q18:=q4.l bb14;have b19:=aa b5 bb14;clear q1 q2 q3 q4 b5 bb14 c8 c9 c10 c11 c12;obtain⟨c20,c21,c22,c23,c24⟩:=q17.cs5
 go_wp2_with fail
 refine(lF _ _ _ _ _ _ _).mono ?_;rintro zz w25 ⟨rfl,bb26⟩;have q27:=q15.l bb26;have q28:=q16.l bb26;have q29:=q17.l bb26;have q30:=q18.l bb26;have b31:=aa b19 bb26;clear q15 q16 q17 q18 b19 bb26 c20 c21 c22 c23 c24;obtain⟨c32,c33,c34,c35,c36,c37,c38,c39⟩:=q27.cs8;have c40:=q28.c 1 rfl;have c41:=q29.c 1 rfl
 go_wp2_with fail
 refine(HN.out _).mono ?_;rintro zz w42 ⟨rfl,bb43⟩;have q44:=q30.l bb43;have b45:=aa b31 bb43;clear q27 q28 q29 q30 b31 bb43 HN c32 c33 c34 c35 c36 c37 c38 c39 c40 c41;have hf:=dL (P:=Tryz.prog) q44 b45 (by omega) underlying88 rfl (by kernel_rfl) (yi c) (.bool false) (.bool false) yN (yi 0);have HH:Hid (_∧_):=⟨hf.1,hf.2.1⟩;obtain⟨⟨z0,z1,z2,z3,z4⟩,y0,y1,y2,y3,y4⟩:=dN q44;clear hf q44 b45
 go_wp2
 obtain⟨hl,bR⟩:=HH.out;exact bodyPost_ret (aj results35 rfl rfl hl) rfl ⟨_,rfl,aN _ _,bR⟩
theorem RC (c:Int)(n wy fam R D L G:Int)(gr:Bool)(x y:ak)(xo yo:Option Addr)(xc yc:Nat)(w:World)
  (HN:yJ 67 #[ykV n wy fam R D L G gr,yi 16] (.tuple #[yoV c false false yN 0,yi 16])):
  yC 35 #[ykV n wy fam R D L G gr,yOV 3 false x xo xc,yOV 3 true y yo yc] w (dU w c false ⟨false,0,0⟩ 16):=by
 replace HN:Hid _:=HN;obtain⟨W6,hW7,q1,q2,q3,q4,b5⟩:=pi w (ykL n wy fam R D L G gr) 83 (yOL 3 false x xo xc) 88 (yOL 3 true y yo yc) 88 (yoL 0 false false yN 0) 88;replace hW7:Hid _:=hW7
 go_enter func35,ntmps35
 go_upto_region 1 with fail
 rw[hW7.out];clear hW7;obtain⟨c8,c9,c10,c11,c12⟩:=q2.cs5
 go_wp2_with fail
 refine(lF _ _ _ _ _ _ _).mono ?_;rintro zz w13 ⟨rfl,bb14⟩;have q15:=q1.l bb14;have q16:=q2.l bb14;have q17:=q3.l bb14;have q18:=q4.l bb14;have b19:=aa b5 bb14;clear q1 q2 q3 q4 b5 bb14 c8 c9 c10 c11 c12;obtain⟨c20,c21,c22,c23,c24⟩:=q17.cs5
 go_wp2_with fail
 refine(lF _ _ _ _ _ _ _).mono ?_;rintro zz w25 ⟨rfl,bb26⟩;have q27:=q15.l bb26;have q28:=q16.l bb26;have q29:=q17.l bb26;have q30:=q18.l bb26;have b31:=aa b19 bb26;clear q15 q16 q17 q18 b19 bb26 c20 c21 c22 c23 c24;obtain⟨c32,c33,c34,c35,c36,c37,c38,c39⟩:=q27.cs8;have c40:=q28.c 1 rfl;have c41:=q29.c 1 rfl
 go_wp2_with fail
 refine(HN.out _).mono ?_;rintro zz w42 ⟨rfl,bb43⟩;have q44:=q30.l bb43;have b45:=aa b31 bb43;clear q27 q28 q29 q30 b31 bb43 HN c32 c33 c34 c35 c36 c37 c38 c39 c40 c41;have hf:=dL (P:=Tryz.prog) q44 b45 (by omega) underlying88 rfl (by kernel_rfl) (yi c) (.bool false) (.bool false) yN (yi 0);have HH:Hid (_∧_):=⟨hf.1,hf.2.1⟩;obtain⟨⟨z0,z1,z2,z3,z4⟩,y0,y1,y2,y3,y4⟩:=dN q44;clear hf q44 b45
 go_wp2
 obtain⟨hl,bR⟩:=HH.out;exact bodyPost_ret (aj results35 rfl rfl hl) rfl ⟨_,rfl,aN _ _,bR⟩
theorem S4 (n wy fam R D L G:Int)(gr:Bool)(gx:Bool)(x y:ak)(xo yo:Option Addr)(xc yc:Nat)(w:World)(rx:Rd w .u32 (yT xo x.n xc) (Dg.dg 4294967296 x.n)):
  yC 35 #[ykV n wy fam R D L G gr,yOV 3 gx x xo xc,yOV 3 gx y yo yc] w (dU w 3 gx x 0):=by
 obtain⟨W6,hW7,q1,q2,q3,q4,b5⟩:=pi w (ykL n wy fam R D L G gr) 83 (yOL 3 gx x xo xc) 88 (yOL 3 gx y yo yc) 88 (yoL 0 false false yN 0) 88;replace hW7:Hid _:=hW7;have r8:=rx.l b5;clear q1 rx
 go_enter func35,ntmps35
 go_upto_region 1 with fail
 rw[hW7.out];clear hW7;obtain⟨c9,c10,c11,c12,c13⟩:=q2.cs5
 go_wp2_with fail
 refine(lF _ _ _ _ _ _ _).mono ?_;rintro zz w14 ⟨rfl,bb15⟩;have q16:=q2.l bb15;have q17:=q3.l bb15;have q18:=q4.l bb15;have r19:=r8.l bb15;have b20:=aa b5 bb15;clear q2 q3 q4 r8 b5 bb15 c9 c10 c11 c12 c13;obtain⟨c21,c22,c23,c24,c25⟩:=q17.cs5
 go_wp2_with fail
 refine(lF _ _ _ _ _ _ _).mono ?_;rintro zz w26 ⟨rfl,bb27⟩;have q28:=q16.l bb27;have q29:=q17.l bb27;have q30:=q18.l bb27;have r31:=r19.l bb27;have b32:=aa b20 bb27;clear q16 q17 q18 r19 b20 bb27 c21 c22 c23 c24 c25;obtain⟨c33,c34,c35,c36,c37⟩:=q28.cs5;have c38:=q29.c 1 rfl
 go_wp2_with fail
 refine(lF _ _ _ _ _ _ _).mono ?_;rintro zz w39 ⟨rfl,bb40⟩;have q41:=q28.l bb40;have q42:=q30.l bb40;have r43:=r31.l bb40;have b44:=aa b32 bb40;clear q28 q29 q30 r31 b32 bb40 c33 c34 c35 c36 c37 c38;obtain⟨c45,c46,c47,c48,c49⟩:=q41.cs5;have hf:=dL (P:=Tryz.prog) q42 b44 (by omega) underlying88 rfl (by kernel_rfl) (yi 3) (.bool gx) (.bool x.s) (yT xo x.n xc) (yi x.e);have HH:Hid (_∧_∧_):=⟨hf.1,hf.2.2.rd r43 (aX r43 q42 (by simp)),hf.2.1⟩;obtain⟨⟨z0,z1,z2,z3,z4⟩,y0,y1,y2,y3,y4⟩:=dN q42;clear hf q41 q42 r43 b44
 go_wp2
 obtain⟨hl,rRx,bR⟩:=HH.out;exact bodyPost_ret (aj results35 rfl rfl hl) rfl ⟨_,rfl,rRx,bR⟩
theorem adM (cy:Int)(n wy fam R D L G:Int)(gr:Bool)(gx gy:Bool)(x y:ak)(xo yo:Option Addr)(xc yc:Nat)(w:World)(hy3:(cy==3)=false)(rx:Rd w .u32 (yT xo x.n xc) (Dg.dg 4294967296 x.n)):
  yC 35 #[ykV n wy fam R D L G gr,yOV 3 gx x xo xc,yOV cy gy y yo yc] w (dU w 3 gx x 0):=by
 obtain⟨W6,hW7,q1,q2,q3,q4,b5⟩:=pi w (ykL n wy fam R D L G gr) 83 (yOL 3 gx x xo xc) 88 (yOL cy gy y yo yc) 88 (yoL 0 false false yN 0) 88;replace hW7:Hid _:=hW7;have r8:=rx.l b5;clear q1 rx
 go_enter func35,ntmps35
 go_upto_region 1 with fail
 rw[hW7.out];clear hW7;obtain⟨c9,c10,c11,c12,c13⟩:=q2.cs5
 go_wp2_with fail
 refine(lF _ _ _ _ _ _ _).mono ?_;rintro zz w14 ⟨rfl,bb15⟩;have q16:=q2.l bb15;have q17:=q3.l bb15;have q18:=q4.l bb15;have r19:=r8.l bb15;have b20:=aa b5 bb15;clear q2 q3 q4 r8 b5 bb15 c9 c10 c11 c12 c13;obtain⟨c21,c22,c23,c24,c25⟩:=q17.cs5
 go_wp2_with fail
 refine(iY _ _ _ _ _ _ _ _ hy3).mono ?_;rintro zz w26 ⟨rfl,bb27⟩;have q28:=q16.l bb27;have q29:=q18.l bb27;have r30:=r19.l bb27;have b31:=aa b20 bb27;clear q16 q17 q18 r19 b20 bb27 c21 c22 c23 c24 c25;obtain⟨c32,c33,c34,c35,c36⟩:=q28.cs5
 go_wp2_with fail
 refine(lF _ _ _ _ _ _ _).mono ?_;rintro zz w37 ⟨rfl,bb38⟩;have q39:=q28.l bb38;have q40:=q29.l bb38;have r41:=r30.l bb38;have b42:=aa b31 bb38;clear q28 q29 r30 b31 bb38 c32 c33 c34 c35 c36;obtain⟨c43,c44,c45,c46,c47⟩:=q39.cs5;have hf:=dL (P:=Tryz.prog) q40 b42 (by omega) underlying88 rfl (by kernel_rfl) (yi 3) (.bool gx) (.bool x.s) (yT xo x.n xc) (yi x.e);have HH:Hid (_∧_∧_):=⟨hf.1,hf.2.2.rd r41 (aX r41 q40 (by simp)),hf.2.1⟩;obtain⟨⟨z0,z1,z2,z3,z4⟩,y0,y1,y2,y3,y4⟩:=dN q40;clear hf q39 q40 r41 b42
 go_wp2
 obtain⟨hl,rRx,bR⟩:=HH.out;exact bodyPost_ret (aj results35 rfl rfl hl) rfl ⟨_,rfl,rRx,bR⟩
theorem adN (cx:Int)(n wy fam R D L G:Int)(gr:Bool)(gx gy:Bool)(x y:ak)(xo yo:Option Addr)(xc yc:Nat)(w:World)(hx3:(cx==3)=false)(ry:Rd w .u32 (yT yo y.n yc) (Dg.dg 4294967296 y.n)):
  yC 35 #[ykV n wy fam R D L G gr,yOV cx gx x xo xc,yOV 3 gy y yo yc] w (dU w 3 gy y 0):=by
 obtain⟨W6,hW7,q1,q2,q3,q4,b5⟩:=pi w (ykL n wy fam R D L G gr) 83 (yOL cx gx x xo xc) 88 (yOL 3 gy y yo yc) 88 (yoL 0 false false yN 0) 88;replace hW7:Hid _:=hW7;have r8:=ry.l b5;clear q1 ry
 go_enter func35,ntmps35
 go_upto_region 1 with fail
 rw[hW7.out];clear hW7;obtain⟨c9,c10,c11,c12,c13⟩:=q2.cs5
 go_wp2_with fail
 refine(iY _ _ _ _ _ _ _ _ hx3).mono ?_;rintro zz w14 ⟨rfl,bb15⟩;have q16:=q2.l bb15;have q17:=q3.l bb15;have q18:=q4.l bb15;have r19:=r8.l bb15;have b20:=aa b5 bb15;clear q2 q3 q4 r8 b5 bb15 c9 c10 c11 c12 c13;obtain⟨c21,c22,c23,c24,c25⟩:=q16.cs5
 go_wp2_with fail
 refine(iY _ _ _ _ _ _ _ _ hx3).mono ?_;rintro zz w26 ⟨rfl,bb27⟩;have q28:=q17.l bb27;have q29:=q18.l bb27;have r30:=r19.l bb27;have b31:=aa b20 bb27;clear q16 q17 q18 r19 b20 bb27 c21 c22 c23 c24 c25;obtain⟨c32,c33,c34,c35,c36⟩:=q28.cs5
 go_wp2_with fail
 refine(lF _ _ _ _ _ _ _).mono ?_;rintro zz w37 ⟨rfl,bb38⟩;have q39:=q28.l bb38;have q40:=q29.l bb38;have r41:=r30.l bb38;have b42:=aa b31 bb38;clear q28 q29 r30 b31 bb38 c32 c33 c34 c35 c36;obtain⟨c43,c44,c45,c46,c47⟩:=q39.cs5;have hf:=dL (P:=Tryz.prog) q40 b42 (by omega) underlying88 rfl (by kernel_rfl) (yi 3) (.bool gy) (.bool y.s) (yT yo y.n yc) (yi y.e);have HH:Hid (_∧_∧_):=⟨hf.1,hf.2.2.rd r41 (aX r41 q40 (by simp)),hf.2.1⟩;obtain⟨⟨z0,z1,z2,z3,z4⟩,y0,y1,y2,y3,y4⟩:=dN q40;clear hf q39 q40 r41 b42
 go_wp2
 obtain⟨hl,rRy,bR⟩:=HH.out;exact bodyPost_ret (aj results35 rfl rfl hl) rfl ⟨_,rfl,rRy,bR⟩
theorem Pw (k:Nat)(hk:1≤k∧k≤8)(wy:Int)(hw:1≤wy∧wy≤5)(ng:Bool)(w:World):yC 131 #[dsk k wy,.bool ng] w (iT w (ovV k wy ng).1 (ovV k wy ng).2.1 (ovV k wy ng).2.2.1 (ovV k wy ng).2.2.2):=by
 unfold ovV;have HG:=fun w1=>Ba k hk wy ng w1
 unfold dsk at HG⊢
 rcases qt hk with h|h|h
 ·rw[h] at HG⊢
  rw[if_neg (by decide)]
  by_cases ho:aaV wy ng=true
  ·rw[if_pos ⟨rfl,ho⟩]
   exact abM _ _ _ _ _ _ _ _ w (fun w1=>by have:=CT k wy 1 (rdN k) (dgN k) (lsI k) (gsI k) (decide (k≤3)) ng hw w1;rw[ho] at this;exact this)
  ·rw[if_neg (fun c=>ho c.2)]
   exact abN _ _ _ _ _ _ _ _ _ w (fun w1=>by have:=CT k wy 1 (rdN k) (dgN k) (lsI k) (gsI k) (decide (k≤3)) ng hw w1;rw[show aaV wy ng=false by simpa using ho] at this;exact this) (fun w1 _=>HG w1)
 ·rw[h] at HG⊢
  rw[if_neg (by decide),if_neg (fun c=>absurd c.1 (by decide))]
  exact ado _ _ _ _ _ _ _ _ _ w (fun w1 _=>HG w1)
 ·rw[h,if_pos rfl]
  exact adn _ _ _ _ _ _ _ _ w (fun w1=>A5 3 (.inr (.inr rfl)) w1)
theorem Px (k:Nat)(hk:1≤k∧k≤8)(wy:Int)(hw:1≤wy∧wy≤5)(P:fz)(ao:Option Addr)(ca:Nat)(w:World)(hr:Rd w .u32 (yT ao P.d ca) (Dg.dg 4294967296 P.d)):
  yC 63 #[dsk k wy,ypV P.s (yT ao P.d ca) P.p P.ex P.ov P.un] w (B6 w (pG k wy P).1 (pG k wy P).2.1 (pG k wy P).2.2.1 (pG k wy P).2.2.2.1 (pG k wy P).2.2.2.2):=by
 obtain⟨ps,pd,pp,ex,ov,un⟩:=P;unfold pG;simp only at hr⊢
 cases ov
 ·rw[if_neg (by decide)]
  by_cases hl:un=true∧pp<lsI k
  ·rw[if_pos hl]
   obtain⟨rfl,hl⟩:=hl;exact OU _ _ _ _ _ _ _ _ _ _ _ _ _ _ w hl
  ·rw[if_neg hl]
   have hz:(if pd=0 then(1:Int) else 2)=if(Dg.dg 4294967296 pd).length=0 then 1 else 2:=by
    by_cases h:pd=0
    ·rw[if_pos h,if_pos (by rw[h];rfl)]
    ·rw[if_neg h,if_neg (fun c=>h ((Dg.dg_nil_iff 4294967296 pd (by omega)).1 (List.length_eq_zero_iff.1 c)))]
   exact Id _ _ _ _ _ _ _ _ _ _ _ _ _ _ _ pd w rfl hr (fun h c=>hl ⟨h,c⟩) _ _ hz rfl
 ·rw[if_pos rfl]
  exact Lr _ _ _ _ _ _ _ _ _ _ _ _ _ _ _ _ _ _ _ w (fun w1 _=>Pw k hk wy hw ps w1)
theorem GQ (k:Nat)(hk:1≤k∧k≤8)(wy cx cy:Int)(gx gy:Bool)(x y:ak)(xo yo:Option Addr)(xc yc:Nat)(w:World)(rx:rdT w x xo xc)(ry:rdT w y yo yc)(mx:Mid x)(my:Mid y):
  yC 35 #[dsk k wy,opV cx gx x xo xc,opV cy gy y yo yc] w (RE w (vY k wy cx gx x cy gy y)):=by
 unfold vY
 by_cases hx:cx=3
 ·subst hx
  by_cases hy:cy=3
  ·subst hy
   cases gx<;>cases gy
   ·rw[if_neg (by simp),if_pos rfl]
    exact S4 _ _ _ _ _ _ _ _ _ _ _ _ _ _ _ w rx
   ·rw[if_pos (by simp)]
    exact RC _ _ _ _ _ _ _ _ _ _ _ _ _ _ _ w (fun w1=>lV k hk wy 16 w1)
   ·rw[if_pos (by simp)]
    exact Rz _ _ _ _ _ _ _ _ _ _ _ _ _ _ _ w (fun w1=>lV k hk wy 16 w1)
   ·rw[if_neg (by simp),if_pos rfl]
    exact S4 _ _ _ _ _ _ _ _ _ _ _ _ _ _ _ w rx
  ·rw[if_neg (fun c=>hy c.2.1),if_pos rfl]
   exact adM _ _ _ _ _ _ _ _ _ _ _ _ _ _ _ _ _ w (ne3 hy) rx
 ·rw[if_neg (fun c=>hx c.1),if_neg hx]
  by_cases hy:cy=3
  ·subst hy
   rw[if_pos rfl];exact adN _ _ _ _ _ _ _ _ _ _ _ _ _ _ _ _ _ w (ne3 hx) ry
  ·rw[if_neg hy]
   exact Ng _ _ _ _ _ _ _ _ _ _ _ _ _ _ _ _ _ _ _ w rfl (ne3 hx) (ne3 hy) (fun w1 b=>uj _ _ x y w1 ⟨_,rfl,rx.l b⟩ ⟨_,rfl,ry.l b⟩ mx.1 my.1 mx.2.1 mx.2.2 my.2.1 my.2.2)
theorem vZ (k:Nat)(hk:1≤k∧k≤8)(wy cx cy:Int)(gx gy:Bool)(x y:ak)(xo yo:Option Addr)(xc yc:Nat)(w:World)(rx:rdT w x xo xc)(ry:rdT w y yo yc)(mx:Mid x)(my:Mid y):
  yC 170 #[dsk k wy,opV cx gx x xo xc,opV cy gy y yo yc] w (RE w (mK k cx gx x cy gy y)):=by
 have HT:=fun w1 (b:yB w w1)=>Ac _ _ x y w1 ⟨_,rfl,rx.l b⟩ ⟨_,rfl,ry.l b⟩ mx.1 my.1 mx.2.1 mx.2.2 my.2.1 my.2.2
 have HM:=fun uo uc w1 h=>mT (aK x y) (gx != gy) uo uc w1 h
 unfold mK
 by_cases hx:cx=3
 ·subst hx
  by_cases hy:cy=1
  ·subst hy
   rw[if_pos (.inl ⟨rfl,rfl⟩)];exact Oh _ _ _ _ _ _ _ _ _ _ _ _ _ _ _ _ _ w (fun w1=>lV k hk wy 16 w1)
  ·rw[if_neg (by omega),if_pos (.inl rfl)]
   exact Oj _ _ _ _ _ _ _ _ _ _ _ _ _ _ _ _ _ w (ne1 hy)
 ·by_cases hy:cy=3
  ·subst hy
   by_cases h1:cx=1
   ·subst h1
    rw[if_pos (.inr ⟨rfl,rfl⟩)];exact Oi _ _ _ _ _ _ _ _ _ _ _ _ _ _ _ _ _ w (fun w1=>lV k hk wy 16 w1)
   ·rw[if_neg (by omega),if_pos (.inr rfl)]
    exact Ok _ _ _ _ _ _ _ _ _ _ _ _ _ _ _ _ _ w (ne3 hx) (ne1 h1)
  ·rw[if_neg (by omega),if_neg (by omega)]
   by_cases h1:cx=1
   ·subst h1
    exact Ol _ _ _ _ _ _ _ _ _ _ _ _ _ _ _ _ _ _ _ _ _ w (ne3 hy) HT HM
   ·exact K5 _ _ _ _ _ _ _ _ _ _ _ _ _ _ _ _ _ _ _ _ _ _ w (ne3 hx) (ne1 h1) (ne3 hy) HT HM
end Go.Proofs.YtdhpndnncmagiaaGreatDoor

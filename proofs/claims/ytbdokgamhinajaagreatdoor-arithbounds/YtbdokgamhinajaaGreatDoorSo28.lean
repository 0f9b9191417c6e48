/-
  Texts laid together: Gb6.
-/
import Derived.Test.YtbdokgamhinajaaGreatDoorSo27
set_option maxRecDepth 100000
set_option maxHeartbeats 3200000
namespace Go.Proofs.YtbdokgamhinajaaGreatDoor
open _root_.Go.Proofs.Tryz
open Go.RowKit
theorem SY (c:Int)(g s:Bool)(o:Option Addr)(l k:Nat)(e:Int)(w:World):
  yC 60 #[yoV c g s (.slice o l k) e] w (yR w (.bool (c==3))):=by
 obtain⟨W3,hW4,q1,b2⟩:=cA w (yoL c g s (.slice o l k) e) 76;replace hW4:Hid _:=hW4
 go_enter func60,ntmps60
 go_upto_region 1 with fail
 rw[hW4.out];clear hW4;have c5:=q1.c 0 rfl
 go_wp2
 go_ret
 exact⟨rfl,b2⟩
theorem lF (g s:Bool)(o:Option Addr)(l k:Nat)(e:Int)(w:World):yC 60 #[yoV 3 g s (.slice o l k) e] w (yR w (.bool true)):=SY 3 g s o l k e w
theorem iY (c:Int)(g s:Bool)(o:Option Addr)(l k:Nat)(e:Int)(w:World)(h:(c==3)=false):yC 60 #[yoV c g s (.slice o l k) e] w (yR w (.bool false)):=by
 have:=SY c g s o l k e w;rw[h] at this;exact this
theorem SZ (c:Int)(g s:Bool)(o:Option Addr)(l k:Nat)(e:Int)(w:World):
  yC 80 #[yoV c g s (.slice o l k) e] w (yR w (.bool (c==1))):=by
 obtain⟨W3,hW4,q1,b2⟩:=cA w (yoL c g s (.slice o l k) e) 76;replace hW4:Hid _:=hW4
 go_enter func80,ntmps80
 go_upto_region 1 with fail
 rw[hW4.out];clear hW4;have c5:=q1.c 0 rfl
 go_wp2
 go_ret
 exact⟨rfl,b2⟩
theorem BR (g s:Bool)(o:Option Addr)(l k:Nat)(e:Int)(w:World):yC 80 #[yoV 1 g s (.slice o l k) e] w (yR w (.bool true)):=SZ 1 g s o l k e w
theorem sC (c:Int)(g s:Bool)(o:Option Addr)(l k:Nat)(e:Int)(w:World)(h:(c==1)=false):yC 80 #[yoV c g s (.slice o l k) e] w (yR w (.bool false)):=by
 have:=SZ c g s o l k e w;rw[h] at this;exact this
theorem Oh (c:Int)(n wy fam R D L G:Int)(gr:Bool)(gx gy:Bool)(x y:ak)(xo yo:Option Addr)(xc yc:Nat)(w:World)
  (HN:yJ 59 #[ykV n wy fam R D L G gr,yi 16] (.tuple #[yoV c false false yN 0,yi 16])):
  yC 41 #[ykV n wy fam R D L G gr,yOV 3 gx x xo xc,yOV 1 gy y yo yc] w (dU w c false ⟨false,0,0⟩ 16):=by
 replace HN:Hid _:=HN;obtain⟨W6,hW7,q1,q2,q3,q4,b5⟩:=pi w (ykL n wy fam R D L G gr) 69 (yOL 3 gx x xo xc) 76 (yOL 1 gy y yo yc) 76 (yoL 0 false false yN 0) 76;replace hW7:Hid _:=hW7
 go_enter func41,ntmps41
 go_upto_region 1 with fail
 rw[hW7.out];clear hW7;obtain⟨c8,c9,c10,c11,c12⟩:=q2.cs5;have c13:=q3.c 1 rfl
 go_wp2_with fail
 refine(lF _ _ _ _ _ _ _).mono ?_;rintro zz w14 ⟨rfl,bb15⟩;have q16:=q1.l bb15;have q17:=q3.l bb15;have q18:=q4.l bb15;have b19:=aa b5 bb15;clear q1 q2 q3 q4 b5 bb15 c8 c9 c10 c11 c12 c13;obtain⟨c20,c21,c22,c23,c24⟩:=q17.cs5
 go_wp2_with fail
 refine(BR _ _ _ _ _ _ _).mono ?_;rintro zz w25 ⟨rfl,bb26⟩;have q27:=q16.l bb26;have q28:=q18.l bb26;have b29:=aa b19 bb26;clear q16 q17 q18 b19 bb26 c20 c21 c22 c23 c24;obtain⟨c30,c31,c32,c33,c34,c35,c36,c37⟩:=q27.cs8
 go_wp2_with fail
 refine(HN.out _).mono ?_;rintro zz w38 ⟨rfl,bb39⟩;have q40:=q28.l bb39;have b41:=aa b29 bb39;clear q27 q28 b29 bb39 HN c30 c31 c32 c33 c34 c35 c36 c37;have hf:=dL (P:=Tryz.prog) q40 b41 (by omega) underlying76 rfl (by kernel_rfl) (yi c) (.bool false) (.bool false) yN (yi 0);have HH:Hid (_∧_):=⟨hf.1,hf.2.1⟩;obtain⟨⟨z0,z1,z2,z3,z4⟩,y0,y1,y2,y3,y4⟩:=dN q40;clear hf q40 b41
 go_wp2
 obtain⟨hl,bR⟩:=HH.out;exact bodyPost_ret (aj results41 rfl rfl hl) rfl ⟨_,rfl,aN _ _,bR⟩
theorem Oi (c:Int)(n wy fam R D L G:Int)(gr:Bool)(gx gy:Bool)(x y:ak)(xo yo:Option Addr)(xc yc:Nat)(w:World)
  (HN:yJ 59 #[ykV n wy fam R D L G gr,yi 16] (.tuple #[yoV c false false yN 0,yi 16])):
  yC 41 #[ykV n wy fam R D L G gr,yOV 1 gx x xo xc,yOV 3 gy y yo yc] w (dU w c false ⟨false,0,0⟩ 16):=by
 replace HN:Hid _:=HN;obtain⟨W6,hW7,q1,q2,q3,q4,b5⟩:=pi w (ykL n wy fam R D L G gr) 69 (yOL 1 gx x xo xc) 76 (yOL 3 gy y yo yc) 76 (yoL 0 false false yN 0) 76;replace hW7:Hid _:=hW7
 go_enter func41,ntmps41
 go_upto_region 1 with fail
 rw[hW7.out];clear hW7;obtain⟨c8,c9,c10,c11,c12⟩:=q2.cs5;have c13:=q3.c 1 rfl
 go_wp2_with fail
 refine(iY _ _ _ _ _ _ _ _ rfl).mono ?_;rintro zz w14 ⟨rfl,bb15⟩;have q16:=q1.l bb15;have q17:=q2.l bb15;have q18:=q3.l bb15;have q19:=q4.l bb15;have b20:=aa b5 bb15;clear q1 q2 q3 q4 b5 bb15 c8 c9 c10 c11 c12 c13;obtain⟨c21,c22,c23,c24,c25⟩:=q17.cs5
 go_wp2_with fail
 refine(BR _ _ _ _ _ _ _).mono ?_;rintro zz w26 ⟨rfl,bb27⟩;have q28:=q16.l bb27;have q29:=q18.l bb27;have q30:=q19.l bb27;have b31:=aa b20 bb27;clear q16 q17 q18 q19 b20 bb27 c21 c22 c23 c24 c25;obtain⟨c32,c33,c34,c35,c36⟩:=q29.cs5
 go_wp2_with fail
 refine(lF _ _ _ _ _ _ _).mono ?_;rintro zz w37 ⟨rfl,bb38⟩;have q39:=q28.l bb38;have q40:=q30.l bb38;have b41:=aa b31 bb38;clear q28 q29 q30 b31 bb38 c32 c33 c34 c35 c36;obtain⟨c42,c43,c44,c45,c46,c47,c48,c49⟩:=q39.cs8
 go_wp2_with fail
 refine(HN.out _).mono ?_;rintro zz w50 ⟨rfl,bb51⟩;have q52:=q40.l bb51;have b53:=aa b41 bb51;clear q39 q40 b41 bb51 HN c42 c43 c44 c45 c46 c47 c48 c49;have hf:=dL (P:=Tryz.prog) q52 b53 (by omega) underlying76 rfl (by kernel_rfl) (yi c) (.bool false) (.bool false) yN (yi 0);have HH:Hid (_∧_):=⟨hf.1,hf.2.1⟩;obtain⟨⟨z0,z1,z2,z3,z4⟩,y0,y1,y2,y3,y4⟩:=dN q52;clear hf q52 b53
 go_wp2
 obtain⟨hl,bR⟩:=HH.out;exact bodyPost_ret (aj results41 rfl rfl hl) rfl ⟨_,rfl,aN _ _,bR⟩
theorem Oj (cy:Int)(n wy fam R D L G:Int)(gr:Bool)(gx gy:Bool)(x y:ak)(xo yo:Option Addr)(xc yc:Nat)(w:World)(hy1:(cy==1)=false):
  yC 41 #[ykV n wy fam R D L G gr,yOV 3 gx x xo xc,yOV cy gy y yo yc] w (dU w 3 (gx != gy) ⟨false,0,0⟩ 0):=by
 obtain⟨W6,hW7,q1,q2,q3,q4,b5⟩:=pi w (ykL n wy fam R D L G gr) 69 (yOL 3 gx x xo xc) 76 (yOL cy gy y yo yc) 76 (yoL 0 false false yN 0) 76;replace hW7:Hid _:=hW7;clear q1
 go_enter func41,ntmps41
 go_upto_region 1 with fail
 rw[hW7.out];clear hW7;obtain⟨c8,c9,c10,c11,c12⟩:=q2.cs5;have c13:=q3.c 1 rfl
 go_wp2_with fail
 refine(lF _ _ _ _ _ _ _).mono ?_;rintro zz w14 ⟨rfl,bb15⟩;have q16:=q2.l bb15;have q17:=q3.l bb15;have q18:=q4.l bb15;have b19:=aa b5 bb15;clear q2 q3 q4 b5 bb15 c8 c9 c10 c11 c12 c13;obtain⟨c20,c21,c22,c23,c24⟩:=q17.cs5
 go_wp2_with fail
 refine(sC _ _ _ _ _ _ _ _ hy1).mono ?_;rintro zz w25 ⟨rfl,bb26⟩;have q27:=q16.l bb26;have q28:=q18.l bb26;have b29:=aa b19 bb26;clear q16 q17 q18 b19 bb26 c20 c21 c22 c23 c24;obtain⟨c30,c31,c32,c33,c34⟩:=q27.cs5
 go_wp2_with fail
 refine(sC _ _ _ _ _ _ _ _ rfl).mono ?_;rintro zz w35 ⟨rfl,bb36⟩;have q37:=q27.l bb36;have q38:=q28.l bb36;have b39:=aa b29 bb36;clear q27 q28 b29 bb36 c30 c31 c32 c33 c34;obtain⟨c40,c41,c42,c43,c44⟩:=q37.cs5
 go_wp2_with fail
 refine(lF _ _ _ _ _ _ _).mono ?_;rintro zz w45 ⟨rfl,bb46⟩;have q47:=q38.l bb46;have b48:=aa b39 bb46;clear q37 q38 b39 bb46 c40 c41 c42 c43 c44;have hf:=dL (P:=Tryz.prog) q47 b48 (by omega) underlying76 rfl (by kernel_rfl) (yi 3) (.bool (gx != gy)) (.bool false) yN (yi 0);have HH:Hid (_∧_):=⟨hf.1,hf.2.1⟩;obtain⟨⟨z0,z1,z2,z3,z4⟩,y0,y1,y2,y3,y4⟩:=dN q47;clear hf q47 b48
 go_wp2
 obtain⟨hl,bR⟩:=HH.out;exact bodyPost_ret (aj results41 rfl rfl hl) rfl ⟨_,rfl,aN _ _,bR⟩
theorem Ok (cx:Int)(n wy fam R D L G:Int)(gr:Bool)(gx gy:Bool)(x y:ak)(xo yo:Option Addr)(xc yc:Nat)(w:World)(hx3:(cx==3)=false)(hx1:(cx==1)=false):
  yC 41 #[ykV n wy fam R D L G gr,yOV cx gx x xo xc,yOV 3 gy y yo yc] w (dU w 3 (gx != gy) ⟨false,0,0⟩ 0):=by
 obtain⟨W6,hW7,q1,q2,q3,q4,b5⟩:=pi w (ykL n wy fam R D L G gr) 69 (yOL cx gx x xo xc) 76 (yOL 3 gy y yo yc) 76 (yoL 0 false false yN 0) 76;replace hW7:Hid _:=hW7;clear q1
 go_enter func41,ntmps41
 go_upto_region 1 with fail
 rw[hW7.out];clear hW7;obtain⟨c8,c9,c10,c11,c12⟩:=q2.cs5;have c13:=q3.c 1 rfl
 go_wp2_with fail
 refine(iY _ _ _ _ _ _ _ _ hx3).mono ?_;rintro zz w14 ⟨rfl,bb15⟩;have q16:=q2.l bb15;have q17:=q3.l bb15;have q18:=q4.l bb15;have b19:=aa b5 bb15;clear q2 q3 q4 b5 bb15 c8 c9 c10 c11 c12 c13;obtain⟨c20,c21,c22,c23,c24⟩:=q16.cs5
 go_wp2_with fail
 refine(sC _ _ _ _ _ _ _ _ hx1).mono ?_;rintro zz w25 ⟨rfl,bb26⟩;have q27:=q16.l bb26;have q28:=q17.l bb26;have q29:=q18.l bb26;have b30:=aa b19 bb26;clear q16 q17 q18 b19 bb26 c20 c21 c22 c23 c24;obtain⟨c31,c32,c33,c34,c35⟩:=q27.cs5
 go_wp2_with fail
 refine(iY _ _ _ _ _ _ _ _ hx3).mono ?_;rintro zz w36 ⟨rfl,bb37⟩;have q38:=q28.l bb37;have q39:=q29.l bb37;have b40:=aa b30 bb37;clear q27 q28 q29 b30 bb37 c31 c32 c33 c34 c35;obtain⟨c41,c42,c43,c44,c45⟩:=q38.cs5
 go_wp2_with fail
 refine(lF _ _ _ _ _ _ _).mono ?_;rintro zz w46 ⟨rfl,bb47⟩;have q48:=q39.l bb47;have b49:=aa b40 bb47;clear q38 q39 b40 bb47 c41 c42 c43 c44 c45;have hf:=dL (P:=Tryz.prog) q48 b49 (by omega) underlying76 rfl (by kernel_rfl) (yi 3) (.bool (gx != gy)) (.bool false) yN (yi 0);have HH:Hid (_∧_):=⟨hf.1,hf.2.1⟩;obtain⟨⟨z0,z1,z2,z3,z4⟩,y0,y1,y2,y3,y4⟩:=dN q48;clear hf q48 b49
 go_wp2
 obtain⟨hl,bR⟩:=HH.out;exact bodyPost_ret (aj results41 rfl rfl hl) rfl ⟨_,rfl,aN _ _,bR⟩
theorem Ol (cy c:Int)(g:Bool)(t u:ak)(n wy fam R D L G:Int)(gr:Bool)(gx gy:Bool)(x y:ak)(xo yo:Option Addr)(xc yc:Nat)(w:World)(hy3:(cy==3)=false)
  (HT: ∀w1,yB w w1→yC 81 #[yDV x xo xc,yDV y yo yc] w1 (jN w1 u))
  (HM: ∀uo uc w1,Rd w1 .u32 (yT uo u.n uc) (Dg.dg 4294967296 u.n)→yC 61 #[yDV u uo uc,.bool (gx != gy)] w1 (xj w1 c g t)):
  yC 41 #[ykV n wy fam R D L G gr,yOV 1 gx x xo xc,yOV cy gy y yo yc] w (dU w c g t 0):=by
 replace HT:Hid _:=HT;replace HM:Hid _:=HM;obtain⟨W6,hW7,q1,q2,q3,q4,b5⟩:=pi w (ykL n wy fam R D L G gr) 69 (yOL 1 gx x xo xc) 76 (yOL cy gy y yo yc) 76 (yoL 0 false false yN 0) 76;replace hW7:Hid _:=hW7;clear q1
 go_enter func41,ntmps41
 go_upto_region 1 with fail
 rw[hW7.out];clear hW7;obtain⟨c8,c9,c10,c11,c12⟩:=q2.cs5;have c13:=q3.c 1 rfl
 go_wp2_with fail
 refine(iY _ _ _ _ _ _ _ _ rfl).mono ?_;rintro zz w14 ⟨rfl,bb15⟩;have q16:=q2.l bb15;have q17:=q3.l bb15;have q18:=q4.l bb15;have b19:=aa b5 bb15;clear q2 q3 q4 b5 bb15 c8 c9 c10 c11 c12 c13;obtain⟨c20,c21,c22,c23,c24⟩:=q16.cs5
 go_wp2_with fail
 refine(BR _ _ _ _ _ _ _).mono ?_;rintro zz w25 ⟨rfl,bb26⟩;have q27:=q16.l bb26;have q28:=q17.l bb26;have q29:=q18.l bb26;have b30:=aa b19 bb26;clear q16 q17 q18 b19 bb26 c20 c21 c22 c23 c24;obtain⟨c31,c32,c33,c34,c35⟩:=q28.cs5
 go_wp2_with fail
 refine(iY _ _ _ _ _ _ _ _ hy3).mono ?_;rintro zz w36 ⟨rfl,bb37⟩;have q38:=q27.l bb37;have q39:=q28.l bb37;have q40:=q29.l bb37;have b41:=aa b30 bb37;clear q27 q28 q29 b30 bb37 c31 c32 c33 c34 c35;obtain⟨c42,c43,c44,c45,c46⟩:=q38.cs5
 go_wp2_with fail
 refine(iY _ _ _ _ _ _ _ _ rfl).mono ?_;rintro zz w47 ⟨rfl,bb48⟩;have q49:=q38.l bb48;have q50:=q39.l bb48;have q51:=q40.l bb48;have b52:=aa b41 bb48;clear q38 q39 q40 b41 bb48 c42 c43 c44 c45 c46;obtain⟨c53,c54,c55,c56,c57⟩:=q50.cs5
 go_wp2_with fail
 refine(iY _ _ _ _ _ _ _ _ hy3).mono ?_;rintro zz w58 ⟨rfl,bb59⟩;have q60:=q49.l bb59;have q61:=q50.l bb59;have q62:=q51.l bb59;have b63:=aa b52 bb59;clear q49 q50 q51 b52 bb59 c53 c54 c55 c56 c57;have c64:=q60.c 2 rfl;have c65:=q60.c 3 rfl;have c66:=q60.c 4 rfl;have c67:=q61.c 2 rfl;have c68:=q61.c 3 rfl;have c69:=q61.c 4 rfl
 go_wp2_with fail
 refine(HT.out _ b63).mono ?_;rintro zz w70 ⟨v172,rfl,r173,bb71⟩;have q74:=q62.l bb71;have b75:=aa b63 bb71;have r76:=r173.rd;obtain⟨uo,uc,hv⟩:=r76.shape;subst hv;clear q60 q61 q62 b63 bb71 r173 HT c64 c65 c66 c67 c68 c69
 go_wp2_with fail
 refine(HM.out _ _ _ r76).mono ?_;rintro zz w77 ⟨v179,rfl,r180,bb78⟩;have q81:=q74.l bb78;have r82:=r76.l bb78;have b83:=aa b75 bb78;obtain⟨so,sc,hv⟩:=r180.shape;subst hv;clear q74 r76 b75 bb78 HM;have hf:=dL (P:=Tryz.prog) q81 b83 (by omega) underlying76 rfl (by kernel_rfl) (yi c) (.bool g) (.bool t.s) (yT so t.n sc) (yi t.e);have HH:Hid (_∧_∧_):=⟨hf.1,hf.2.2.rd r180 (aX r180 q81 (by simp)),hf.2.1⟩;obtain⟨⟨z0,z1,z2,z3,z4⟩,y0,y1,y2,y3,y4⟩:=dN q81;clear hf q81 r82 r180 b83
 go_wp2
 obtain⟨hl,rRs,bR⟩:=HH.out;exact bodyPost_ret (aj results41 rfl rfl hl) rfl ⟨_,rfl,rRs,bR⟩
theorem K5 (cx cy c:Int)(g:Bool)(t u:ak)(n wy fam R D L G:Int)(gr:Bool)(gx gy:Bool)(x y:ak)(xo yo:Option Addr)(xc yc:Nat)(w:World)(hx3:(cx==3)=false)(hx1:(cx==1)=false)(hy3:(cy==3)=false)
  (HT: ∀w1,yB w w1→yC 81 #[yDV x xo xc,yDV y yo yc] w1 (jN w1 u))
  (HM: ∀uo uc w1,Rd w1 .u32 (yT uo u.n uc) (Dg.dg 4294967296 u.n)→yC 61 #[yDV u uo uc,.bool (gx != gy)] w1 (xj w1 c g t)):
  yC 41 #[ykV n wy fam R D L G gr,yOV cx gx x xo xc,yOV cy gy y yo yc] w (dU w c g t 0):=by
 replace HT:Hid _:=HT;replace HM:Hid _:=HM;obtain⟨W6,hW7,q1,q2,q3,q4,b5⟩:=pi w (ykL n wy fam R D L G gr) 69 (yOL cx gx x xo xc) 76 (yOL cy gy y yo yc) 76 (yoL 0 false false yN 0) 76;replace hW7:Hid _:=hW7;clear q1
 go_enter func41,ntmps41
 go_upto_region 1 with fail
 rw[hW7.out];clear hW7;obtain⟨c8,c9,c10,c11,c12⟩:=q2.cs5;have c13:=q3.c 1 rfl
 go_wp2_with fail
 refine(iY _ _ _ _ _ _ _ _ hx3).mono ?_;rintro zz w14 ⟨rfl,bb15⟩;have q16:=q2.l bb15;have q17:=q3.l bb15;have q18:=q4.l bb15;have b19:=aa b5 bb15;clear q2 q3 q4 b5 bb15 c8 c9 c10 c11 c12 c13;obtain⟨c20,c21,c22,c23,c24⟩:=q16.cs5
 go_wp2_with fail
 refine(sC _ _ _ _ _ _ _ _ hx1).mono ?_;rintro zz w25 ⟨rfl,bb26⟩;have q27:=q16.l bb26;have q28:=q17.l bb26;have q29:=q18.l bb26;have b30:=aa b19 bb26;clear q16 q17 q18 b19 bb26 c20 c21 c22 c23 c24;obtain⟨c31,c32,c33,c34,c35⟩:=q27.cs5
 go_wp2_with fail
 refine(iY _ _ _ _ _ _ _ _ hx3).mono ?_;rintro zz w36 ⟨rfl,bb37⟩;have q38:=q27.l bb37;have q39:=q28.l bb37;have q40:=q29.l bb37;have b41:=aa b30 bb37;clear q27 q28 q29 b30 bb37 c31 c32 c33 c34 c35;obtain⟨c42,c43,c44,c45,c46⟩:=q39.cs5
 go_wp2_with fail
 refine(iY _ _ _ _ _ _ _ _ hy3).mono ?_;rintro zz w47 ⟨rfl,bb48⟩;have q49:=q38.l bb48;have q50:=q39.l bb48;have q51:=q40.l bb48;have b52:=aa b41 bb48;clear q38 q39 q40 b41 bb48 c42 c43 c44 c45 c46;have c53:=q49.c 2 rfl;have c54:=q49.c 3 rfl;have c55:=q49.c 4 rfl;have c56:=q50.c 2 rfl;have c57:=q50.c 3 rfl;have c58:=q50.c 4 rfl
 go_wp2_with fail
 refine(HT.out _ b52).mono ?_;rintro zz w59 ⟨v161,rfl,r162,bb60⟩;have q63:=q51.l bb60;have b64:=aa b52 bb60;have r65:=r162.rd;obtain⟨uo,uc,hv⟩:=r65.shape;subst hv;clear q49 q50 q51 b52 bb60 r162 HT c53 c54 c55 c56 c57 c58
 go_wp2_with fail
 refine(HM.out _ _ _ r65).mono ?_;rintro zz w66 ⟨v168,rfl,r169,bb67⟩;have q70:=q63.l bb67;have r71:=r65.l bb67;have b72:=aa b64 bb67;obtain⟨so,sc,hv⟩:=r169.shape;subst hv;clear q63 r65 b64 bb67 HM;have hf:=dL (P:=Tryz.prog) q70 b72 (by omega) underlying76 rfl (by kernel_rfl) (yi c) (.bool g) (.bool t.s) (yT so t.n sc) (yi t.e);have HH:Hid (_∧_∧_):=⟨hf.1,hf.2.2.rd r169 (aX r169 q70 (by simp)),hf.2.1⟩;obtain⟨⟨z0,z1,z2,z3,z4⟩,y0,y1,y2,y3,y4⟩:=dN q70;clear hf q70 r71 r169 b72
 go_wp2
 obtain⟨hl,rRs,bR⟩:=HH.out;exact bodyPost_ret (aj results41 rfl rfl hl) rfl ⟨_,rfl,rRs,bR⟩
theorem K6 (c:Int)(n wy fam R D L G:Int)(gr:Bool)(gx gy:Bool)(x y:ak)(xo yo:Option Addr)(xc yc:Nat)(w:World)
  (HN:yJ 59 #[ykV n wy fam R D L G gr,yi 16] (.tuple #[yoV c false false yN 0,yi 16])):
  yC 54 #[ykV n wy fam R D L G gr,yOV 3 gx x xo xc,yOV 3 gy y yo yc] w (dU w c false ⟨false,0,0⟩ 16):=by
 replace HN:Hid _:=HN;obtain⟨W6,hW7,q1,q2,q3,q4,b5⟩:=pi w (ykL n wy fam R D L G gr) 69 (yOL 3 gx x xo xc) 76 (yOL 3 gy y yo yc) 76 (yoL 0 false false yN 0) 76;replace hW7:Hid _:=hW7
 go_enter func54,ntmps54
 go_upto_region 1 with fail
 rw[hW7.out];clear hW7;obtain⟨c8,c9,c10,c11,c12⟩:=q2.cs5;have c13:=q3.c 1 rfl
 go_wp2_with fail
 refine(lF _ _ _ _ _ _ _).mono ?_;rintro zz w14 ⟨rfl,bb15⟩;have q16:=q1.l bb15;have q17:=q3.l bb15;have q18:=q4.l bb15;have b19:=aa b5 bb15;clear q1 q2 q3 q4 b5 bb15 c8 c9 c10 c11 c12 c13;obtain⟨c20,c21,c22,c23,c24⟩:=q17.cs5
 go_wp2_with fail
 refine(lF _ _ _ _ _ _ _).mono ?_;rintro zz w25 ⟨rfl,bb26⟩;have q27:=q16.l bb26;have q28:=q18.l bb26;have b29:=aa b19 bb26;clear q16 q17 q18 b19 bb26 c20 c21 c22 c23 c24;obtain⟨c30,c31,c32,c33,c34,c35,c36,c37⟩:=q27.cs8
 go_wp2_with fail
 refine(HN.out _).mono ?_;rintro zz w38 ⟨rfl,bb39⟩;have q40:=q28.l bb39;have b41:=aa b29 bb39;clear q27 q28 b29 bb39 HN c30 c31 c32 c33 c34 c35 c36 c37;have hf:=dL (P:=Tryz.prog) q40 b41 (by omega) underlying76 rfl (by kernel_rfl) (yi c) (.bool false) (.bool false) yN (yi 0);have HH:Hid (_∧_):=⟨hf.1,hf.2.1⟩;obtain⟨⟨z0,z1,z2,z3,z4⟩,y0,y1,y2,y3,y4⟩:=dN q40;clear hf q40 b41
 go_wp2
 obtain⟨hl,bR⟩:=HH.out;exact bodyPost_ret (aj results54 rfl rfl hl) rfl ⟨_,rfl,aN _ _,bR⟩
theorem K7 (c:Int)(n wy fam R D L G:Int)(gr:Bool)(gx gy:Bool)(x y:ak)(xo yo:Option Addr)(xc yc:Nat)(w:World)
  (HN:yJ 59 #[ykV n wy fam R D L G gr,yi 16] (.tuple #[yoV c false false yN 0,yi 16])):
  yC 54 #[ykV n wy fam R D L G gr,yOV 1 gx x xo xc,yOV 1 gy y yo yc] w (dU w c false ⟨false,0,0⟩ 16):=by
 replace HN:Hid _:=HN;obtain⟨W6,hW7,q1,q2,q3,q4,b5⟩:=pi w (ykL n wy fam R D L G gr) 69 (yOL 1 gx x xo xc) 76 (yOL 1 gy y yo yc) 76 (yoL 0 false false yN 0) 76;replace hW7:Hid _:=hW7
 go_enter func54,ntmps54
 go_upto_region 1 with fail
 rw[hW7.out];clear hW7;obtain⟨c8,c9,c10,c11,c12⟩:=q2.cs5;have c13:=q3.c 1 rfl
 go_wp2_with fail
 refine(iY _ _ _ _ _ _ _ _ rfl).mono ?_;rintro zz w14 ⟨rfl,bb15⟩;have q16:=q1.l bb15;have q17:=q2.l bb15;have q18:=q3.l bb15;have q19:=q4.l bb15;have b20:=aa b5 bb15;clear q1 q2 q3 q4 b5 bb15 c8 c9 c10 c11 c12 c13;obtain⟨c21,c22,c23,c24,c25⟩:=q17.cs5
 go_wp2_with fail
 refine(BR _ _ _ _ _ _ _).mono ?_;rintro zz w26 ⟨rfl,bb27⟩;have q28:=q16.l bb27;have q29:=q18.l bb27;have q30:=q19.l bb27;have b31:=aa b20 bb27;clear q16 q17 q18 q19 b20 bb27 c21 c22 c23 c24 c25;obtain⟨c32,c33,c34,c35,c36⟩:=q29.cs5
 go_wp2_with fail
 refine(BR _ _ _ _ _ _ _).mono ?_;rintro zz w37 ⟨rfl,bb38⟩;have q39:=q28.l bb38;have q40:=q30.l bb38;have b41:=aa b31 bb38;clear q28 q29 q30 b31 bb38 c32 c33 c34 c35 c36;obtain⟨c42,c43,c44,c45,c46,c47,c48,c49⟩:=q39.cs8
 go_wp2_with fail
 refine(HN.out _).mono ?_;rintro zz w50 ⟨rfl,bb51⟩;have q52:=q40.l bb51;have b53:=aa b41 bb51;clear q39 q40 b41 bb51 HN c42 c43 c44 c45 c46 c47 c48 c49;have hf:=dL (P:=Tryz.prog) q52 b53 (by omega) underlying76 rfl (by kernel_rfl) (yi c) (.bool false) (.bool false) yN (yi 0);have HH:Hid (_∧_):=⟨hf.1,hf.2.1⟩;obtain⟨⟨z0,z1,z2,z3,z4⟩,y0,y1,y2,y3,y4⟩:=dN q52;clear hf q52 b53
 go_wp2
 obtain⟨hl,bR⟩:=HH.out;exact bodyPost_ret (aj results54 rfl rfl hl) rfl ⟨_,rfl,aN _ _,bR⟩
theorem K8 (cy:Int)(n wy fam R D L G:Int)(gr:Bool)(gx gy:Bool)(x y:ak)(xo yo:Option Addr)(xc yc:Nat)(w:World)(hy3:(cy==3)=false):
  yC 54 #[ykV n wy fam R D L G gr,yOV 3 gx x xo xc,yOV cy gy y yo yc] w (dU w 3 (gx != gy) ⟨false,0,0⟩ 0):=by
 obtain⟨W6,hW7,q1,q2,q3,q4,b5⟩:=pi w (ykL n wy fam R D L G gr) 69 (yOL 3 gx x xo xc) 76 (yOL cy gy y yo yc) 76 (yoL 0 false false yN 0) 76;replace hW7:Hid _:=hW7;clear q1
 go_enter func54,ntmps54
 go_upto_region 1 with fail
 rw[hW7.out];clear hW7;obtain⟨c8,c9,c10,c11,c12⟩:=q2.cs5;have c13:=q3.c 1 rfl
 go_wp2_with fail
 refine(lF _ _ _ _ _ _ _).mono ?_;rintro zz w14 ⟨rfl,bb15⟩;have q16:=q2.l bb15;have q17:=q3.l bb15;have q18:=q4.l bb15;have b19:=aa b5 bb15;clear q2 q3 q4 b5 bb15 c8 c9 c10 c11 c12 c13;obtain⟨c20,c21,c22,c23,c24⟩:=q17.cs5
 go_wp2_with fail
 refine(iY _ _ _ _ _ _ _ _ hy3).mono ?_;rintro zz w25 ⟨rfl,bb26⟩;have q27:=q16.l bb26;have q28:=q18.l bb26;have b29:=aa b19 bb26;clear q16 q17 q18 b19 bb26 c20 c21 c22 c23 c24;obtain⟨c30,c31,c32,c33,c34⟩:=q27.cs5
 go_wp2_with fail
 refine(sC _ _ _ _ _ _ _ _ rfl).mono ?_;rintro zz w35 ⟨rfl,bb36⟩;have q37:=q27.l bb36;have q38:=q28.l bb36;have b39:=aa b29 bb36;clear q27 q28 b29 bb36 c30 c31 c32 c33 c34;obtain⟨c40,c41,c42,c43,c44⟩:=q37.cs5
 go_wp2_with fail
 refine(lF _ _ _ _ _ _ _).mono ?_;rintro zz w45 ⟨rfl,bb46⟩;have q47:=q38.l bb46;have b48:=aa b39 bb46;clear q37 q38 b39 bb46 c40 c41 c42 c43 c44;have hf:=dL (P:=Tryz.prog) q47 b48 (by omega) underlying76 rfl (by kernel_rfl) (yi 3) (.bool (gx != gy)) (.bool false) yN (yi 0);have HH:Hid (_∧_):=⟨hf.1,hf.2.1⟩;obtain⟨⟨z0,z1,z2,z3,z4⟩,y0,y1,y2,y3,y4⟩:=dN q47;clear hf q47 b48
 go_wp2
 obtain⟨hl,bR⟩:=HH.out;exact bodyPost_ret (aj results54 rfl rfl hl) rfl ⟨_,rfl,aN _ _,bR⟩
theorem K9 (n wy fam R D L G:Int)(gr:Bool)(gx gy:Bool)(x y:ak)(xo yo:Option Addr)(xc yc:Nat)(w:World):
  yC 54 #[ykV n wy fam R D L G gr,yOV 1 gx x xo xc,yOV 3 gy y yo yc] w (dU w 1 (gx != gy) ⟨false,0,0⟩ 0):=by
 obtain⟨W6,hW7,q1,q2,q3,q4,b5⟩:=pi w (ykL n wy fam R D L G gr) 69 (yOL 1 gx x xo xc) 76 (yOL 3 gy y yo yc) 76 (yoL 0 false false yN 0) 76;replace hW7:Hid _:=hW7;clear q1
 go_enter func54,ntmps54
 go_upto_region 1 with fail
 rw[hW7.out];clear hW7;obtain⟨c8,c9,c10,c11,c12⟩:=q2.cs5;have c13:=q3.c 1 rfl
 go_wp2_with fail
 refine(iY _ _ _ _ _ _ _ _ rfl).mono ?_;rintro zz w14 ⟨rfl,bb15⟩;have q16:=q2.l bb15;have q17:=q3.l bb15;have q18:=q4.l bb15;have b19:=aa b5 bb15;clear q2 q3 q4 b5 bb15 c8 c9 c10 c11 c12 c13;obtain⟨c20,c21,c22,c23,c24⟩:=q16.cs5
 go_wp2_with fail
 refine(BR _ _ _ _ _ _ _).mono ?_;rintro zz w25 ⟨rfl,bb26⟩;have q27:=q16.l bb26;have q28:=q17.l bb26;have q29:=q18.l bb26;have b30:=aa b19 bb26;clear q16 q17 q18 b19 bb26 c20 c21 c22 c23 c24;obtain⟨c31,c32,c33,c34,c35⟩:=q28.cs5
 go_wp2_with fail
 refine(sC _ _ _ _ _ _ _ _ rfl).mono ?_;rintro zz w36 ⟨rfl,bb37⟩;have q38:=q27.l bb37;have q39:=q28.l bb37;have q40:=q29.l bb37;have b41:=aa b30 bb37;clear q27 q28 q29 b30 bb37 c31 c32 c33 c34 c35;obtain⟨c42,c43,c44,c45,c46⟩:=q38.cs5
 go_wp2_with fail
 refine(iY _ _ _ _ _ _ _ _ rfl).mono ?_;rintro zz w47 ⟨rfl,bb48⟩;have q49:=q39.l bb48;have q50:=q40.l bb48;have b51:=aa b41 bb48;clear q38 q39 q40 b41 bb48 c42 c43 c44 c45 c46;obtain⟨c52,c53,c54,c55,c56⟩:=q49.cs5
 go_wp2_with fail
 refine(lF _ _ _ _ _ _ _).mono ?_;rintro zz w57 ⟨rfl,bb58⟩;have q59:=q50.l bb58;have b60:=aa b51 bb58;clear q49 q50 b51 bb58 c52 c53 c54 c55 c56;have hf:=dL (P:=Tryz.prog) q59 b60 (by omega) underlying76 rfl (by kernel_rfl) (yi 1) (.bool (gx != gy)) (.bool false) yN (yi 0);have HH:Hid (_∧_):=⟨hf.1,hf.2.1⟩;obtain⟨⟨z0,z1,z2,z3,z4⟩,y0,y1,y2,y3,y4⟩:=dN q59;clear hf q59 b60
 go_wp2
 obtain⟨hl,bR⟩:=HH.out;exact bodyPost_ret (aj results54 rfl rfl hl) rfl ⟨_,rfl,aN _ _,bR⟩
theorem La (cx:Int)(n wy fam R D L G:Int)(gr:Bool)(gx gy:Bool)(x y:ak)(xo yo:Option Addr)(xc yc:Nat)(w:World)(hx3:(cx==3)=false)(hx1:(cx==1)=false):
  yC 54 #[ykV n wy fam R D L G gr,yOV cx gx x xo xc,yOV 3 gy y yo yc] w (dU w 1 (gx != gy) ⟨false,0,0⟩ 0):=by
 obtain⟨W6,hW7,q1,q2,q3,q4,b5⟩:=pi w (ykL n wy fam R D L G gr) 69 (yOL cx gx x xo xc) 76 (yOL 3 gy y yo yc) 76 (yoL 0 false false yN 0) 76;replace hW7:Hid _:=hW7;clear q1
 go_enter func54,ntmps54
 go_upto_region 1 with fail
 rw[hW7.out];clear hW7;obtain⟨c8,c9,c10,c11,c12⟩:=q2.cs5;have c13:=q3.c 1 rfl
 go_wp2_with fail
 refine(iY _ _ _ _ _ _ _ _ hx3).mono ?_;rintro zz w14 ⟨rfl,bb15⟩;have q16:=q2.l bb15;have q17:=q3.l bb15;have q18:=q4.l bb15;have b19:=aa b5 bb15;clear q2 q3 q4 b5 bb15 c8 c9 c10 c11 c12 c13;obtain⟨c20,c21,c22,c23,c24⟩:=q16.cs5
 go_wp2_with fail
 refine(sC _ _ _ _ _ _ _ _ hx1).mono ?_;rintro zz w25 ⟨rfl,bb26⟩;have q27:=q16.l bb26;have q28:=q17.l bb26;have q29:=q18.l bb26;have b30:=aa b19 bb26;clear q16 q17 q18 b19 bb26 c20 c21 c22 c23 c24;obtain⟨c31,c32,c33,c34,c35⟩:=q27.cs5
 go_wp2_with fail
 refine(iY _ _ _ _ _ _ _ _ hx3).mono ?_;rintro zz w36 ⟨rfl,bb37⟩;have q38:=q28.l bb37;have q39:=q29.l bb37;have b40:=aa b30 bb37;clear q27 q28 q29 b30 bb37 c31 c32 c33 c34 c35;obtain⟨c41,c42,c43,c44,c45⟩:=q38.cs5
 go_wp2_with fail
 refine(lF _ _ _ _ _ _ _).mono ?_;rintro zz w46 ⟨rfl,bb47⟩;have q48:=q39.l bb47;have b49:=aa b40 bb47;clear q38 q39 b40 bb47 c41 c42 c43 c44 c45;have hf:=dL (P:=Tryz.prog) q48 b49 (by omega) underlying76 rfl (by kernel_rfl) (yi 1) (.bool (gx != gy)) (.bool false) yN (yi 0);have HH:Hid (_∧_):=⟨hf.1,hf.2.1⟩;obtain⟨⟨z0,z1,z2,z3,z4⟩,y0,y1,y2,y3,y4⟩:=dN q48;clear hf q48 b49
 go_wp2
 obtain⟨hl,bR⟩:=HH.out;exact bodyPost_ret (aj results54 rfl rfl hl) rfl ⟨_,rfl,aN _ _,bR⟩
theorem Lb (cx c fl:Int)(g:Bool)(t:ak)(n wy fam R D L G:Int)(gr:Bool)(gx gy:Bool)(x y:ak)(xo yo:Option Addr)(xc yc:Nat)(w:World)(hx3:(cx==3)=false)(hx1:(cx==1)=false)
  (HB: ∀w1,yB w w1→yC 95 #[ykV n wy fam R D L G gr,.bool (gx != gy)] w1 (dU w1 c g t fl)):
  yC 54 #[ykV n wy fam R D L G gr,yOV cx gx x xo xc,yOV 1 gy y yo yc] w (dU w c g t fl):=by
 replace HB:Hid _:=HB;obtain⟨W6,hW7,q1,q2,q3,q4,b5⟩:=pi w (ykL n wy fam R D L G gr) 69 (yOL cx gx x xo xc) 76 (yOL 1 gy y yo yc) 76 (yoL 0 false false yN 0) 76;replace hW7:Hid _:=hW7
 go_enter func54,ntmps54
 go_upto_region 1 with fail
 rw[hW7.out];clear hW7;obtain⟨c8,c9,c10,c11,c12⟩:=q2.cs5;have c13:=q3.c 1 rfl
 go_wp2_with fail
 refine(iY _ _ _ _ _ _ _ _ hx3).mono ?_;rintro zz w14 ⟨rfl,bb15⟩;have q16:=q1.l bb15;have q17:=q2.l bb15;have q18:=q3.l bb15;have q19:=q4.l bb15;have b20:=aa b5 bb15;clear q1 q2 q3 q4 b5 bb15 c8 c9 c10 c11 c12 c13;obtain⟨c21,c22,c23,c24,c25⟩:=q17.cs5
 go_wp2_with fail
 refine(sC _ _ _ _ _ _ _ _ hx1).mono ?_;rintro zz w26 ⟨rfl,bb27⟩;have q28:=q16.l bb27;have q29:=q17.l bb27;have q30:=q18.l bb27;have q31:=q19.l bb27;have b32:=aa b20 bb27;clear q16 q17 q18 q19 b20 bb27 c21 c22 c23 c24 c25;obtain⟨c33,c34,c35,c36,c37⟩:=q29.cs5
 go_wp2_with fail
 refine(iY _ _ _ _ _ _ _ _ hx3).mono ?_;rintro zz w38 ⟨rfl,bb39⟩;have q40:=q28.l bb39;have q41:=q30.l bb39;have q42:=q31.l bb39;have b43:=aa b32 bb39;clear q28 q29 q30 q31 b32 bb39 c33 c34 c35 c36 c37;obtain⟨c44,c45,c46,c47,c48⟩:=q41.cs5
 go_wp2_with fail
 refine(iY _ _ _ _ _ _ _ _ rfl).mono ?_;rintro zz w49 ⟨rfl,bb50⟩;have q51:=q40.l bb50;have q52:=q41.l bb50;have q53:=q42.l bb50;have b54:=aa b43 bb50;clear q40 q41 q42 b43 bb50 c44 c45 c46 c47 c48;obtain⟨c55,c56,c57,c58,c59⟩:=q52.cs5
 go_wp2_with fail
 refine(BR _ _ _ _ _ _ _).mono ?_;rintro zz w60 ⟨rfl,bb61⟩;have q62:=q51.l bb61;have q63:=q53.l bb61;have b64:=aa b54 bb61;clear q51 q52 q53 b54 bb61 c55 c56 c57 c58 c59;obtain⟨c65,c66,c67,c68,c69,c70,c71,c72⟩:=q62.cs8
 go_wp2_with fail
 refine(HB.out _ b64).mono ?_;rintro zz w73 ⟨v175,rfl,r176,bb74⟩;have q77:=q63.l bb74;have b78:=aa b64 bb74;obtain⟨so,sc,hv⟩:=r176.shape;subst hv;clear q62 q63 b64 bb74 HB c65 c66 c67 c68 c69 c70 c71 c72;have hf:=dL (P:=Tryz.prog) q77 b78 (by omega) underlying76 rfl (by kernel_rfl) (yi c) (.bool g) (.bool t.s) (yT so t.n sc) (yi t.e);have HH:Hid (_∧_∧_):=⟨hf.1,hf.2.2.rd r176 (aX r176 q77 (by simp)),hf.2.1⟩;obtain⟨⟨z0,z1,z2,z3,z4⟩,y0,y1,y2,y3,y4⟩:=dN q77;clear hf q77 r176 b78
 go_wp2
 obtain⟨hl,rRs,bR⟩:=HH.out;exact bodyPost_ret (aj results54 rfl rfl hl) rfl ⟨_,rfl,rRs,bR⟩
theorem Lc (cy c:Int)(g:Bool)(t u:ak)(n wy fam R D L G:Int)(gr:Bool)(gx gy:Bool)(x y:ak)(xo yo:Option Addr)(xc yc:Nat)(w:World)(hy3:(cy==3)=false)(hy1:(cy==1)=false)
  (HT: ∀w1,yB w w1→yC 96 #[yDV x xo xc,yDV y yo yc,yi 128] w1 (jN w1 u))
  (HM: ∀uo uc w1,Rd w1 .u32 (yT uo u.n uc) (Dg.dg 4294967296 u.n)→yC 61 #[yDV u uo uc,.bool (gx != gy)] w1 (xj w1 c g t)):
  yC 54 #[ykV n wy fam R D L G gr,yOV 1 gx x xo xc,yOV cy gy y yo yc] w (dU w c g t 0):=by
 replace HT:Hid _:=HT;replace HM:Hid _:=HM;obtain⟨W6,hW7,q1,q2,q3,q4,b5⟩:=pi w (ykL n wy fam R D L G gr) 69 (yOL 1 gx x xo xc) 76 (yOL cy gy y yo yc) 76 (yoL 0 false false yN 0) 76;replace hW7:Hid _:=hW7;clear q1
 go_enter func54,ntmps54
 go_upto_region 1 with fail
 rw[hW7.out];clear hW7;obtain⟨c8,c9,c10,c11,c12⟩:=q2.cs5;have c13:=q3.c 1 rfl
 go_wp2_with fail
 refine(iY _ _ _ _ _ _ _ _ rfl).mono ?_;rintro zz w14 ⟨rfl,bb15⟩;have q16:=q2.l bb15;have q17:=q3.l bb15;have q18:=q4.l bb15;have b19:=aa b5 bb15;clear q2 q3 q4 b5 bb15 c8 c9 c10 c11 c12 c13;obtain⟨c20,c21,c22,c23,c24⟩:=q16.cs5
 go_wp2_with fail
 refine(BR _ _ _ _ _ _ _).mono ?_;rintro zz w25 ⟨rfl,bb26⟩;have q27:=q16.l bb26;have q28:=q17.l bb26;have q29:=q18.l bb26;have b30:=aa b19 bb26;clear q16 q17 q18 b19 bb26 c20 c21 c22 c23 c24;obtain⟨c31,c32,c33,c34,c35⟩:=q28.cs5
 go_wp2_with fail
 refine(sC _ _ _ _ _ _ _ _ hy1).mono ?_;rintro zz w36 ⟨rfl,bb37⟩;have q38:=q27.l bb37;have q39:=q28.l bb37;have q40:=q29.l bb37;have b41:=aa b30 bb37;clear q27 q28 q29 b30 bb37 c31 c32 c33 c34 c35;obtain⟨c42,c43,c44,c45,c46⟩:=q38.cs5
 go_wp2_with fail
 refine(iY _ _ _ _ _ _ _ _ rfl).mono ?_;rintro zz w47 ⟨rfl,bb48⟩;have q49:=q38.l bb48;have q50:=q39.l bb48;have q51:=q40.l bb48;have b52:=aa b41 bb48;clear q38 q39 q40 b41 bb48 c42 c43 c44 c45 c46;obtain⟨c53,c54,c55,c56,c57⟩:=q50.cs5
 go_wp2_with fail
 refine(iY _ _ _ _ _ _ _ _ hy3).mono ?_;rintro zz w58 ⟨rfl,bb59⟩;have q60:=q49.l bb59;have q61:=q50.l bb59;have q62:=q51.l bb59;have b63:=aa b52 bb59;clear q49 q50 q51 b52 bb59 c53 c54 c55 c56 c57;obtain⟨c64,c65,c66,c67,c68⟩:=q61.cs5
 go_wp2_with fail
 refine(sC _ _ _ _ _ _ _ _ hy1).mono ?_;rintro zz w69 ⟨rfl,bb70⟩;have q71:=q60.l bb70;have q72:=q61.l bb70;have q73:=q62.l bb70;have b74:=aa b63 bb70;clear q60 q61 q62 b63 bb70 c64 c65 c66 c67 c68;have c75:=q71.c 2 rfl;have c76:=q71.c 3 rfl;have c77:=q71.c 4 rfl;have c78:=q72.c 2 rfl;have c79:=q72.c 3 rfl;have c80:=q72.c 4 rfl
 go_wp2_with fail
 refine(HT.out _ b74).mono ?_;rintro zz w81 ⟨v183,rfl,r184,bb82⟩;have q85:=q73.l bb82;have b86:=aa b74 bb82;have r87:=r184.rd;obtain⟨uo,uc,hv⟩:=r87.shape;subst hv;clear q71 q72 q73 b74 bb82 r184 HT c75 c76 c77 c78 c79 c80
 go_wp2_with fail
 refine(HM.out _ _ _ r87).mono ?_;rintro zz w88 ⟨v190,rfl,r191,bb89⟩;have q92:=q85.l bb89;have r93:=r87.l bb89;have b94:=aa b86 bb89;obtain⟨so,sc,hv⟩:=r191.shape;subst hv;clear q85 r87 b86 bb89 HM;have hf:=dL (P:=Tryz.prog) q92 b94 (by omega) underlying76 rfl (by kernel_rfl) (yi c) (.bool g) (.bool t.s) (yT so t.n sc) (yi t.e);have HH:Hid (_∧_∧_):=⟨hf.1,hf.2.2.rd r191 (aX r191 q92 (by simp)),hf.2.1⟩;obtain⟨⟨z0,z1,z2,z3,z4⟩,y0,y1,y2,y3,y4⟩:=dN q92;clear hf q92 r93 r191 b94
 go_wp2
 obtain⟨hl,rRs,bR⟩:=HH.out;exact bodyPost_ret (aj results54 rfl rfl hl) rfl ⟨_,rfl,rRs,bR⟩
theorem H8 (cx cy c:Int)(g:Bool)(t u:ak)(n wy fam R D L G:Int)(gr:Bool)(gx gy:Bool)(x y:ak)(xo yo:Option Addr)(xc yc:Nat)(w:World)(hx3:(cx==3)=false)(hx1:(cx==1)=false)(hy3:(cy==3)=false)(hy1:(cy==1)=false)
  (HT: ∀w1,yB w w1→yC 96 #[yDV x xo xc,yDV y yo yc,yi 128] w1 (jN w1 u))
  (HM: ∀uo uc w1,Rd w1 .u32 (yT uo u.n uc) (Dg.dg 4294967296 u.n)→yC 61 #[yDV u uo uc,.bool (gx != gy)] w1 (xj w1 c g t)):
  yC 54 #[ykV n wy fam R D L G gr,yOV cx gx x xo xc,yOV cy gy y yo yc] w (dU w c g t 0):=by
 replace HT:Hid _:=HT;replace HM:Hid _:=HM;obtain⟨W6,hW7,q1,q2,q3,q4,b5⟩:=pi w (ykL n wy fam R D L G gr) 69 (yOL cx gx x xo xc) 76 (yOL cy gy y yo yc) 76 (yoL 0 false false yN 0) 76;replace hW7:Hid _:=hW7;clear q1
 go_enter func54,ntmps54
 go_upto_region 1 with fail
 rw[hW7.out];clear hW7;obtain⟨c8,c9,c10,c11,c12⟩:=q2.cs5;have c13:=q3.c 1 rfl
 go_wp2_with fail
 refine(iY _ _ _ _ _ _ _ _ hx3).mono ?_;rintro zz w14 ⟨rfl,bb15⟩;have q16:=q2.l bb15;have q17:=q3.l bb15;have q18:=q4.l bb15;have b19:=aa b5 bb15;clear q2 q3 q4 b5 bb15 c8 c9 c10 c11 c12 c13;obtain⟨c20,c21,c22,c23,c24⟩:=q16.cs5
 go_wp2_with fail
 refine(sC _ _ _ _ _ _ _ _ hx1).mono ?_;rintro zz w25 ⟨rfl,bb26⟩;have q27:=q16.l bb26;have q28:=q17.l bb26;have q29:=q18.l bb26;have b30:=aa b19 bb26;clear q16 q17 q18 b19 bb26 c20 c21 c22 c23 c24;obtain⟨c31,c32,c33,c34,c35⟩:=q27.cs5
 go_wp2_with fail
 refine(iY _ _ _ _ _ _ _ _ hx3).mono ?_;rintro zz w36 ⟨rfl,bb37⟩;have q38:=q27.l bb37;have q39:=q28.l bb37;have q40:=q29.l bb37;have b41:=aa b30 bb37;clear q27 q28 q29 b30 bb37 c31 c32 c33 c34 c35;obtain⟨c42,c43,c44,c45,c46⟩:=q39.cs5
 go_wp2_with fail
 refine(iY _ _ _ _ _ _ _ _ hy3).mono ?_;rintro zz w47 ⟨rfl,bb48⟩;have q49:=q38.l bb48;have q50:=q39.l bb48;have q51:=q40.l bb48;have b52:=aa b41 bb48;clear q38 q39 q40 b41 bb48 c42 c43 c44 c45 c46;obtain⟨c53,c54,c55,c56,c57⟩:=q50.cs5
 go_wp2_with fail
 refine(sC _ _ _ _ _ _ _ _ hy1).mono ?_;rintro zz w58 ⟨rfl,bb59⟩;have q60:=q49.l bb59;have q61:=q50.l bb59;have q62:=q51.l bb59;have b63:=aa b52 bb59;clear q49 q50 q51 b52 bb59 c53 c54 c55 c56 c57;have c64:=q60.c 2 rfl;have c65:=q60.c 3 rfl;have c66:=q60.c 4 rfl;have c67:=q61.c 2 rfl;have c68:=q61.c 3 rfl;have c69:=q61.c 4 rfl
 go_wp2_with fail
 refine(HT.out _ b63).mono ?_;rintro zz w70 ⟨v172,rfl,r173,bb71⟩;have q74:=q62.l bb71;have b75:=aa b63 bb71;have r76:=r173.rd;obtain⟨uo,uc,hv⟩:=r76.shape;subst hv;clear q60 q61 q62 b63 bb71 r173 HT c64 c65 c66 c67 c68 c69
 go_wp2_with fail
 refine(HM.out _ _ _ r76).mono ?_;rintro zz w77 ⟨v179,rfl,r180,bb78⟩;have q81:=q74.l bb78;have r82:=r76.l bb78;have b83:=aa b75 bb78;obtain⟨so,sc,hv⟩:=r180.shape;subst hv;clear q74 r76 b75 bb78 HM;have hf:=dL (P:=Tryz.prog) q81 b83 (by omega) underlying76 rfl (by kernel_rfl) (yi c) (.bool g) (.bool t.s) (yT so t.n sc) (yi t.e);have HH:Hid (_∧_∧_):=⟨hf.1,hf.2.2.rd r180 (aX r180 q81 (by simp)),hf.2.1⟩;obtain⟨⟨z0,z1,z2,z3,z4⟩,y0,y1,y2,y3,y4⟩:=dN q81;clear hf q81 r82 r180 b83
 go_wp2
 obtain⟨hl,rRs,bR⟩:=HH.out;exact bodyPost_ret (aj results54 rfl rfl hl) rfl ⟨_,rfl,rRs,bR⟩
theorem Rz (c:Int)(n wy fam R D L G:Int)(gr:Bool)(x y:ak)(xo yo:Option Addr)(xc yc:Nat)(w:World)
  (HN:yJ 59 #[ykV n wy fam R D L G gr,yi 16] (.tuple #[yoV c false false yN 0,yi 16])):
  yC 31 #[ykV n wy fam R D L G gr,yOV 3 true x xo xc,yOV 3 false y yo yc] w (dU w c false ⟨false,0,0⟩ 16):=by
 replace HN:Hid _:=HN;obtain⟨W6,hW7,q1,q2,q3,q4,b5⟩:=pi w (ykL n wy fam R D L G gr) 69 (yOL 3 true x xo xc) 76 (yOL 3 false y yo yc) 76 (yoL 0 false false yN 0) 76;replace hW7:Hid _:=hW7
 go_enter func31,ntmps31
 go_upto_region 1 with fail
 rw[hW7.out];clear hW7;obtain⟨c8,c9,c10,c11,c12⟩:=q2.cs5
 go_wp2_with fail
 refine(lF _ _ _ _ _ _ _).mono ?_;rintro zz w13 ⟨rfl,bb14⟩;have q15:=q1.l bb14;have q16:=q2.l bb14;have q17:=q3.l bb14;have q18:=q4.l bb14;have b19:=aa b5 bb14;clear q1 q2 q3 q4 b5 bb14 c8 c9 c10 c11 c12;obtain⟨c20,c21,c22,c23,c24⟩:=q17.cs5
 go_wp2_with fail
 refine(lF _ _ _ _ _ _ _).mono ?_;rintro zz w25 ⟨rfl,bb26⟩;have q27:=q15.l bb26;have q28:=q16.l bb26;have q29:=q17.l bb26;have q30:=q18.l bb26;have b31:=aa b19 bb26;clear q15 q16 q17 q18 b19 bb26 c20 c21 c22 c23 c24;obtain⟨c32,c33,c34,c35,c36,c37,c38,c39⟩:=q27.cs8;have c40:=q28.c 1 rfl;have c41:=q29.c 1 rfl
 go_wp2_with fail
 refine(HN.out _).mono ?_;rintro zz w42 ⟨rfl,bb43⟩;have q44:=q30.l bb43;have b45:=aa b31 bb43;clear q27 q28 q29 q30 b31 bb43 HN c32 c33 c34 c35 c36 c37 c38 c39 c40 c41;have hf:=dL (P:=Tryz.prog) q44 b45 (by omega) underlying76 rfl (by kernel_rfl) (yi c) (.bool false) (.bool false) yN (yi 0);have HH:Hid (_∧_):=⟨hf.1,hf.2.1⟩;obtain⟨⟨z0,z1,z2,z3,z4⟩,y0,y1,y2,y3,y4⟩:=dN q44;clear hf q44 b45
 go_wp2
 obtain⟨hl,bR⟩:=HH.out;exact bodyPost_ret (aj results31 rfl rfl hl) rfl ⟨_,rfl,aN _ _,bR⟩
theorem RC (c:Int)(n wy fam R D L G:Int)(gr:Bool)(x y:ak)(xo yo:Option Addr)(xc yc:Nat)(w:World)
  (HN:yJ 59 #[ykV n wy fam R D L G gr,yi 16] (.tuple #[yoV c false false yN 0,yi 16])):
  yC 31 #[ykV n wy fam R D L G gr,yOV 3 false x xo xc,yOV 3 true y yo yc] w (dU w c false ⟨false,0,0⟩ 16):=by
 replace HN:Hid _:=HN;obtain⟨W6,hW7,q1,q2,q3,q4,b5⟩:=pi w (ykL n wy fam R D L G gr) 69 (yOL 3 false x xo xc) 76 (yOL 3 true y yo yc) 76 (yoL 0 false false yN 0) 76;replace hW7:Hid _:=hW7
 go_enter func31,ntmps31
 go_upto_region 1 with fail
 rw[hW7.out];clear hW7;obtain⟨c8,c9,c10,c11,c12⟩:=q2.cs5
 go_wp2_with fail
 refine(lF _ _ _ _ _ _ _).mono ?_;rintro zz w13 ⟨rfl,bb14⟩;have q15:=q1.l bb14;have q16:=q2.l bb14;have q17:=q3.l bb14;have q18:=q4.l bb14;have b19:=aa b5 bb14;clear q1 q2 q3 q4 b5 bb14 c8 c9 c10 c11 c12;obtain⟨c20,c21,c22,c23,c24⟩:=q17.cs5
 go_wp2_with fail
 refine(lF _ _ _ _ _ _ _).mono ?_;rintro zz w25 ⟨rfl,bb26⟩;have q27:=q15.l bb26;have q28:=q16.l bb26;have q29:=q17.l bb26;have q30:=q18.l bb26;have b31:=aa b19 bb26;clear q15 q16 q17 q18 b19 bb26 c20 c21 c22 c23 c24;obtain⟨c32,c33,c34,c35,c36,c37,c38,c39⟩:=q27.cs8;have c40:=q28.c 1 rfl;have c41:=q29.c 1 rfl
 go_wp2_with fail
 refine(HN.out _).mono ?_;rintro zz w42 ⟨rfl,bb43⟩;have q44:=q30.l bb43;have b45:=aa b31 bb43;clear q27 q28 q29 q30 b31 bb43 HN c32 c33 c34 c35 c36 c37 c38 c39 c40 c41;have hf:=dL (P:=Tryz.prog) q44 b45 (by omega) underlying76 rfl (by kernel_rfl) (yi c) (.bool false) (.bool false) yN (yi 0);have HH:Hid (_∧_):=⟨hf.1,hf.2.1⟩;obtain⟨⟨z0,z1,z2,z3,z4⟩,y0,y1,y2,y3,y4⟩:=dN q44;clear hf q44 b45
 go_wp2
 obtain⟨hl,bR⟩:=HH.out;exact bodyPost_ret (aj results31 rfl rfl hl) rfl ⟨_,rfl,aN _ _,bR⟩
theorem S4 (n wy fam R D L G:Int)(gr:Bool)(gx:Bool)(x y:ak)(xo yo:Option Addr)(xc yc:Nat)(w:World)(rx:Rd w .u32 (yT xo x.n xc) (Dg.dg 4294967296 x.n)):
  yC 31 #[ykV n wy fam R D L G gr,yOV 3 gx x xo xc,yOV 3 gx y yo yc] w (dU w 3 gx x 0):=by
 obtain⟨W6,hW7,q1,q2,q3,q4,b5⟩:=pi w (ykL n wy fam R D L G gr) 69 (yOL 3 gx x xo xc) 76 (yOL 3 gx y yo yc) 76 (yoL 0 false false yN 0) 76;replace hW7:Hid _:=hW7;have r8:=rx.l b5;clear q1 rx
 go_enter func31,ntmps31
 go_upto_region 1 with fail
 rw[hW7.out];clear hW7;obtain⟨c9,c10,c11,c12,c13⟩:=q2.cs5
 go_wp2_with fail
 refine(lF _ _ _ _ _ _ _).mono ?_;rintro zz w14 ⟨rfl,bb15⟩;have q16:=q2.l bb15;have q17:=q3.l bb15;have q18:=q4.l bb15;have r19:=r8.l bb15;have b20:=aa b5 bb15;clear q2 q3 q4 r8 b5 bb15 c9 c10 c11 c12 c13;obtain⟨c21,c22,c23,c24,c25⟩:=q17.cs5
 go_wp2_with fail
 refine(lF _ _ _ _ _ _ _).mono ?_;rintro zz w26 ⟨rfl,bb27⟩;have q28:=q16.l bb27;have q29:=q17.l bb27;have q30:=q18.l bb27;have r31:=r19.l bb27;have b32:=aa b20 bb27;clear q16 q17 q18 r19 b20 bb27 c21 c22 c23 c24 c25;obtain⟨c33,c34,c35,c36,c37⟩:=q28.cs5;have c38:=q29.c 1 rfl
 go_wp2_with fail
 refine(lF _ _ _ _ _ _ _).mono ?_;rintro zz w39 ⟨rfl,bb40⟩;have q41:=q28.l bb40;have q42:=q30.l bb40;have r43:=r31.l bb40;have b44:=aa b32 bb40;clear q28 q29 q30 r31 b32 bb40 c33 c34 c35 c36 c37 c38;obtain⟨c45,c46,c47,c48,c49⟩:=q41.cs5;have hf:=dL (P:=Tryz.prog) q42 b44 (by omega) underlying76 rfl (by kernel_rfl) (yi 3) (.bool gx) (.bool x.s) (yT xo x.n xc) (yi x.e);have HH:Hid (_∧_∧_):=⟨hf.1,hf.2.2.rd r43 (aX r43 q42 (by simp)),hf.2.1⟩;obtain⟨⟨z0,z1,z2,z3,z4⟩,y0,y1,y2,y3,y4⟩:=dN q42;clear hf q41 q42 r43 b44
 go_wp2
 obtain⟨hl,rRx,bR⟩:=HH.out;exact bodyPost_ret (aj results31 rfl rfl hl) rfl ⟨_,rfl,rRx,bR⟩
theorem adM (cy:Int)(n wy fam R D L G:Int)(gr:Bool)(gx gy:Bool)(x y:ak)(xo yo:Option Addr)(xc yc:Nat)(w:World)(hy3:(cy==3)=false)(rx:Rd w .u32 (yT xo x.n xc) (Dg.dg 4294967296 x.n)):
  yC 31 #[ykV n wy fam R D L G gr,yOV 3 gx x xo xc,yOV cy gy y yo yc] w (dU w 3 gx x 0):=by
 obtain⟨W6,hW7,q1,q2,q3,q4,b5⟩:=pi w (ykL n wy fam R D L G gr) 69 (yOL 3 gx x xo xc) 76 (yOL cy gy y yo yc) 76 (yoL 0 false false yN 0) 76;replace hW7:Hid _:=hW7;have r8:=rx.l b5;clear q1 rx
 go_enter func31,ntmps31
 go_upto_region 1 with fail
 rw[hW7.out];clear hW7;obtain⟨c9,c10,c11,c12,c13⟩:=q2.cs5
 go_wp2_with fail
 refine(lF _ _ _ _ _ _ _).mono ?_;rintro zz w14 ⟨rfl,bb15⟩;have q16:=q2.l bb15;have q17:=q3.l bb15;have q18:=q4.l bb15;have r19:=r8.l bb15;have b20:=aa b5 bb15;clear q2 q3 q4 r8 b5 bb15 c9 c10 c11 c12 c13;obtain⟨c21,c22,c23,c24,c25⟩:=q17.cs5
 go_wp2_with fail
 refine(iY _ _ _ _ _ _ _ _ hy3).mono ?_;rintro zz w26 ⟨rfl,bb27⟩;have q28:=q16.l bb27;have q29:=q18.l bb27;have r30:=r19.l bb27;have b31:=aa b20 bb27;clear q16 q17 q18 r19 b20 bb27 c21 c22 c23 c24 c25;obtain⟨c32,c33,c34,c35,c36⟩:=q28.cs5
 go_wp2_with fail
 refine(lF _ _ _ _ _ _ _).mono ?_;rintro zz w37 ⟨rfl,bb38⟩;have q39:=q28.l bb38;have q40:=q29.l bb38;have r41:=r30.l bb38;have b42:=aa b31 bb38;clear q28 q29 r30 b31 bb38 c32 c33 c34 c35 c36;obtain⟨c43,c44,c45,c46,c47⟩:=q39.cs5;have hf:=dL (P:=Tryz.prog) q40 b42 (by omega) underlying76 rfl (by kernel_rfl) (yi 3) (.bool gx) (.bool x.s) (yT xo x.n xc) (yi x.e);have HH:Hid (_∧_∧_):=⟨hf.1,hf.2.2.rd r41 (aX r41 q40 (by simp)),hf.2.1⟩;obtain⟨⟨z0,z1,z2,z3,z4⟩,y0,y1,y2,y3,y4⟩:=dN q40;clear hf q39 q40 r41 b42
 go_wp2
 obtain⟨hl,rRx,bR⟩:=HH.out;exact bodyPost_ret (aj results31 rfl rfl hl) rfl ⟨_,rfl,rRx,bR⟩
theorem adN (cx:Int)(n wy fam R D L G:Int)(gr:Bool)(gx gy:Bool)(x y:ak)(xo yo:Option Addr)(xc yc:Nat)(w:World)(hx3:(cx==3)=false)(ry:Rd w .u32 (yT yo y.n yc) (Dg.dg 4294967296 y.n)):
  yC 31 #[ykV n wy fam R D L G gr,yOV cx gx x xo xc,yOV 3 gy y yo yc] w (dU w 3 gy y 0):=by
 obtain⟨W6,hW7,q1,q2,q3,q4,b5⟩:=pi w (ykL n wy fam R D L G gr) 69 (yOL cx gx x xo xc) 76 (yOL 3 gy y yo yc) 76 (yoL 0 false false yN 0) 76;replace hW7:Hid _:=hW7;have r8:=ry.l b5;clear q1 ry
 go_enter func31,ntmps31
 go_upto_region 1 with fail
 rw[hW7.out];clear hW7;obtain⟨c9,c10,c11,c12,c13⟩:=q2.cs5
 go_wp2_with fail
 refine(iY _ _ _ _ _ _ _ _ hx3).mono ?_;rintro zz w14 ⟨rfl,bb15⟩;have q16:=q2.l bb15;have q17:=q3.l bb15;have q18:=q4.l bb15;have r19:=r8.l bb15;have b20:=aa b5 bb15;clear q2 q3 q4 r8 b5 bb15 c9 c10 c11 c12 c13;obtain⟨c21,c22,c23,c24,c25⟩:=q16.cs5
 go_wp2_with fail
 refine(iY _ _ _ _ _ _ _ _ hx3).mono ?_;rintro zz w26 ⟨rfl,bb27⟩;have q28:=q17.l bb27;have q29:=q18.l bb27;have r30:=r19.l bb27;have b31:=aa b20 bb27;clear q16 q17 q18 r19 b20 bb27 c21 c22 c23 c24 c25;obtain⟨c32,c33,c34,c35,c36⟩:=q28.cs5
 go_wp2_with fail
 refine(lF _ _ _ _ _ _ _).mono ?_;rintro zz w37 ⟨rfl,bb38⟩;have q39:=q28.l bb38;have q40:=q29.l bb38;have r41:=r30.l bb38;have b42:=aa b31 bb38;clear q28 q29 r30 b31 bb38 c32 c33 c34 c35 c36;obtain⟨c43,c44,c45,c46,c47⟩:=q39.cs5;have hf:=dL (P:=Tryz.prog) q40 b42 (by omega) underlying76 rfl (by kernel_rfl) (yi 3) (.bool gy) (.bool y.s) (yT yo y.n yc) (yi y.e);have HH:Hid (_∧_∧_):=⟨hf.1,hf.2.2.rd r41 (aX r41 q40 (by simp)),hf.2.1⟩;obtain⟨⟨z0,z1,z2,z3,z4⟩,y0,y1,y2,y3,y4⟩:=dN q40;clear hf q39 q40 r41 b42
 go_wp2
 obtain⟨hl,rRy,bR⟩:=HH.out;exact bodyPost_ret (aj results31 rfl rfl hl) rfl ⟨_,rfl,rRy,bR⟩
end Go.Proofs.YtbdokgamhinajaaGreatDoor

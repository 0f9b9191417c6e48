/-
  Texts laid together: Ga2, Ra5, Bl1, Bl6, Bm1, Bs1, Inv, BlN, BlM, Ra6, Dp1.
-/
import Derived.OrdersHeld
import Derived.Test.YtbdokgamhinajaaGreatDoorSj43
set_option maxRecDepth 100000
set_option maxHeartbeats 3200000
namespace Go.Proofs.YtbdokgamhinajaaGreatDoor
open _root_.Go.Proofs.Tryz
open Go.RowKit
theorem VV (c:Int)(n wy:Int)(x y:ak)(xo yo:Option Addr)(xc yc:Nat)(w:World)(HO: ∀pb w1,au w1 pb 32 [yi 3,.bool true,.bool x.s,.slice xo (Dg.dg 65536 x.n).length xc,yi x.e,yi 3,.bool false,.bool y.s,.slice yo (Dg.dg 65536 y.n).length yc,yi y.e]→yC 34 #[yi n,.slice (some ⟨pb,0,none⟩) 2 2] w1 (yR w1 (.tuple #[yoV 0 false false (.slice none 0 0) 0,yi 0,.bool false])))
  (HL: ∀w1,yC 35 #[yi n] w1 (RVF w1 c false ⟨false,0,0⟩ 16)):
  yC 10 #[yi n,yoV 3 true x.s (.slice xo (Dg.dg 65536 x.n).length xc) x.e,yoV 3 false y.s (.slice yo (Dg.dg 65536 y.n).length yc) y.e,yi wy] w (RVF w c false ⟨false,0,0⟩ 16):=by
 replace HO:Hid _:=HO;replace HL:Hid _:=HL;obtain⟨W5,hW6,q1,q2,q3,b4⟩:=lG w (yoL 3 true x.s (.slice xo (Dg.dg 65536 x.n).length xc) x.e) 32 (yoL 3 false y.s (.slice yo (Dg.dg 65536 y.n).length yc) y.e) 32 (yoL 0 false false (.slice none 0 0) 0) 32;replace hW6:Hid _:=hW6
 go_enter func10,ntmps10
 go_upto_region 1 with fail
 rw[hW6.out];clear hW6;obtain⟨c7,c8,c9,c10,c11⟩:=q1.cs5;obtain⟨c12,c13,c14,c15,c16⟩:=q2.cs5;have al17:=af W5 (.cells #[yi 3,.bool true,.bool x.s,.slice xo (Dg.dg 65536 x.n).length xc,yi x.e,yi 3,.bool false,.bool y.s,.slice yo (Dg.dg 65536 y.n).length yc,yi y.e] 32);have q18:=ah W5 [yi 3,.bool true,.bool x.s,.slice xo (Dg.dg 65536 x.n).length xc,yi x.e,yi 3,.bool false,.bool y.s,.slice yo (Dg.dg 65536 y.n).length yc,yi y.e] 32;have q19:=q1.l al17;have q20:=q2.l al17;have q21:=q3.l al17;have b22:=aa b4 al17
 go_wp2_with fail
 refine(HO.out _ _ q18).mono ?_;rintro zz w23 ⟨rfl,bb24⟩;have q25:=q19.l bb24;have q26:=q20.l bb24;have q27:=q21.l bb24;have b28:=aa b22 bb24;clear q19 q20 q21 q18 b22 bb24 HO c7 c8 c9 c10 c11 c12 c13 c14 c15 c16 q1 q2 q3 b4 al17;obtain⟨W32,hW31,q30,al29⟩:=cA w23 (yoL 0 false false (.slice none 0 0) 0) 32;replace hW31:Hid _:=hW31;have hl33:w.heap.size≤w23.heap.size:=b28.size;have hl34:=q26.lt;have hl35:=q27.lt;have q36:=q25.l al29;have q37:=q26.l al29;have q38:=q27.l al29;have b39:=aa b28 al29;clear q25 q26 q27 b28 al29 q30
 go_upto_region 2 with fail
 rw[hW31.out];clear hW31;have c40:=q36.c 0 rfl;have c41:=q36.c 1 rfl;have c42:=q37.c 0 rfl;have c43:=q37.c 1 rfl
 go_wp2_with fail
 refine(HL.out _).mono ?_;rintro zz w44 ⟨v146,rfl,r147,bb45⟩;have q48:=q38.l bb45;have b49:=aa b39 bb45;obtain⟨so,sc,hv⟩:=r147.shape;subst hv;clear q36 q37 q38 b39 bb45 HL c40 c41 c42 c43;have hf:=dL (P:=Tryz.prog) q48 b49 (by omega) underlying32 rfl (by kernel_rfl) (yi c) (.bool false) (.bool false) (.slice so (Dg.dg 65536 0).length sc) (yi 0);have HH:Hid (_∧_∧_):=⟨hf.1,hf.2.2.rd r147 (mu r147 q48),hf.2.1⟩;obtain⟨⟨z0,z1,z2,z3,z4⟩,y0,y1,y2,y3,y4⟩:=dN q48;clear hf q48 r147 b49
 go_wp2
 obtain⟨hl,rRs,bR⟩:=HH.out;exact bodyPost_ret (aj results10 rfl rfl hl) rfl ⟨_,rfl,rRs,bR⟩
theorem VW (c:Int)(n wy:Int)(x y:ak)(xo yo:Option Addr)(xc yc:Nat)(w:World)(HO: ∀pb w1,au w1 pb 32 [yi 3,.bool false,.bool x.s,.slice xo (Dg.dg 65536 x.n).length xc,yi x.e,yi 3,.bool true,.bool y.s,.slice yo (Dg.dg 65536 y.n).length yc,yi y.e]→yC 34 #[yi n,.slice (some ⟨pb,0,none⟩) 2 2] w1 (yR w1 (.tuple #[yoV 0 false false (.slice none 0 0) 0,yi 0,.bool false])))
  (HL: ∀w1,yC 35 #[yi n] w1 (RVF w1 c false ⟨false,0,0⟩ 16)):
  yC 10 #[yi n,yoV 3 false x.s (.slice xo (Dg.dg 65536 x.n).length xc) x.e,yoV 3 true y.s (.slice yo (Dg.dg 65536 y.n).length yc) y.e,yi wy] w (RVF w c false ⟨false,0,0⟩ 16):=by
 replace HO:Hid _:=HO;replace HL:Hid _:=HL;obtain⟨W5,hW6,q1,q2,q3,b4⟩:=lG w (yoL 3 false x.s (.slice xo (Dg.dg 65536 x.n).length xc) x.e) 32 (yoL 3 true y.s (.slice yo (Dg.dg 65536 y.n).length yc) y.e) 32 (yoL 0 false false (.slice none 0 0) 0) 32;replace hW6:Hid _:=hW6
 go_enter func10,ntmps10
 go_upto_region 1 with fail
 rw[hW6.out];clear hW6;obtain⟨c7,c8,c9,c10,c11⟩:=q1.cs5;obtain⟨c12,c13,c14,c15,c16⟩:=q2.cs5;have al17:=af W5 (.cells #[yi 3,.bool false,.bool x.s,.slice xo (Dg.dg 65536 x.n).length xc,yi x.e,yi 3,.bool true,.bool y.s,.slice yo (Dg.dg 65536 y.n).length yc,yi y.e] 32);have q18:=ah W5 [yi 3,.bool false,.bool x.s,.slice xo (Dg.dg 65536 x.n).length xc,yi x.e,yi 3,.bool true,.bool y.s,.slice yo (Dg.dg 65536 y.n).length yc,yi y.e] 32;have q19:=q1.l al17;have q20:=q2.l al17;have q21:=q3.l al17;have b22:=aa b4 al17
 go_wp2_with fail
 refine(HO.out _ _ q18).mono ?_;rintro zz w23 ⟨rfl,bb24⟩;have q25:=q19.l bb24;have q26:=q20.l bb24;have q27:=q21.l bb24;have b28:=aa b22 bb24;clear q19 q20 q21 q18 b22 bb24 HO c7 c8 c9 c10 c11 c12 c13 c14 c15 c16 q1 q2 q3 b4 al17;obtain⟨W32,hW31,q30,al29⟩:=cA w23 (yoL 0 false false (.slice none 0 0) 0) 32;replace hW31:Hid _:=hW31;have hl33:w.heap.size≤w23.heap.size:=b28.size;have hl34:=q26.lt;have hl35:=q27.lt;have q36:=q25.l al29;have q37:=q26.l al29;have q38:=q27.l al29;have b39:=aa b28 al29;clear q25 q26 q27 b28 al29 q30
 go_upto_region 2 with fail
 rw[hW31.out];clear hW31;have c40:=q36.c 0 rfl;have c41:=q36.c 1 rfl;have c42:=q37.c 0 rfl;have c43:=q37.c 1 rfl
 go_wp2_with fail
 refine(HL.out _).mono ?_;rintro zz w44 ⟨v146,rfl,r147,bb45⟩;have q48:=q38.l bb45;have b49:=aa b39 bb45;obtain⟨so,sc,hv⟩:=r147.shape;subst hv;clear q36 q37 q38 b39 bb45 HL c40 c41 c42 c43;have hf:=dL (P:=Tryz.prog) q48 b49 (by omega) underlying32 rfl (by kernel_rfl) (yi c) (.bool false) (.bool false) (.slice so (Dg.dg 65536 0).length sc) (yi 0);have HH:Hid (_∧_∧_):=⟨hf.1,hf.2.2.rd r147 (mu r147 q48),hf.2.1⟩;obtain⟨⟨z0,z1,z2,z3,z4⟩,y0,y1,y2,y3,y4⟩:=dN q48;clear hf q48 r147 b49
 go_wp2
 obtain⟨hl,rRs,bR⟩:=HH.out;exact bodyPost_ret (aj results10 rfl rfl hl) rfl ⟨_,rfl,rRs,bR⟩
theorem adO (cy:Int)(n wy:Int)(gx gy:Bool)(x y:ak)(xo yo:Option Addr)(xc yc:Nat)(w:World)(hy:(3==cy)=false)(rx:Rd w .i64 (.slice xo (Dg.dg 65536 x.n).length xc) (Dg.dg 65536 x.n))
  (HO: ∀pb w1,au w1 pb 32 [yi 3,.bool gx,.bool x.s,.slice xo (Dg.dg 65536 x.n).length xc,yi x.e,yi cy,.bool gy,.bool y.s,.slice yo (Dg.dg 65536 y.n).length yc,yi y.e]→yC 34 #[yi n,.slice (some ⟨pb,0,none⟩) 2 2] w1 (yR w1 (.tuple #[yoV 0 false false (.slice none 0 0) 0,yi 0,.bool false]))):
  yC 10 #[yi n,yoV 3 gx x.s (.slice xo (Dg.dg 65536 x.n).length xc) x.e,yoV cy gy y.s (.slice yo (Dg.dg 65536 y.n).length yc) y.e,yi wy] w (RVF w 3 gx x 0):=by
 replace HO:Hid _:=HO;obtain⟨W5,hW6,q1,q2,q3,b4⟩:=lG w (yoL 3 gx x.s (.slice xo (Dg.dg 65536 x.n).length xc) x.e) 32 (yoL cy gy y.s (.slice yo (Dg.dg 65536 y.n).length yc) y.e) 32 (yoL 0 false false (.slice none 0 0) 0) 32;replace hW6:Hid _:=hW6;have r7:=rx.l b4;clear rx
 go_enter func10,ntmps10
 go_upto_region 1 with fail
 rw[hW6.out];clear hW6;obtain⟨c8,c9,c10,c11,c12⟩:=q1.cs5;obtain⟨c13,c14,c15,c16,c17⟩:=q2.cs5;have al18:=af W5 (.cells #[yi 3,.bool gx,.bool x.s,.slice xo (Dg.dg 65536 x.n).length xc,yi x.e,yi cy,.bool gy,.bool y.s,.slice yo (Dg.dg 65536 y.n).length yc,yi y.e] 32);have q19:=ah W5 [yi 3,.bool gx,.bool x.s,.slice xo (Dg.dg 65536 x.n).length xc,yi x.e,yi cy,.bool gy,.bool y.s,.slice yo (Dg.dg 65536 y.n).length yc,yi y.e] 32;have q20:=q1.l al18;have q21:=q2.l al18;have q22:=q3.l al18;have r23:=r7.l al18;have b24:=aa b4 al18
 go_wp2_with fail
 refine(HO.out _ _ q19).mono ?_;rintro zz w25 ⟨rfl,bb26⟩;have q27:=q20.l bb26;have q28:=q21.l bb26;have q29:=q22.l bb26;have r30:=r23.l bb26;have b31:=aa b24 bb26;clear q20 q21 q22 q19 r23 b24 bb26 HO c8 c9 c10 c11 c12 c13 c14 c15 c16 c17 q1 q2 q3 r7 b4 al18;obtain⟨W35,hW34,q33,al32⟩:=cA w25 (yoL 0 false false (.slice none 0 0) 0) 32;replace hW34:Hid _:=hW34;have hl36:w.heap.size≤w25.heap.size:=b31.size;have hl37:=q28.lt;have hl38:=q29.lt;have q39:=q27.l al32;have q40:=q28.l al32;have q41:=q29.l al32;have r42:=r30.l al32;have b43:=aa b31 al32;clear q27 q28 q29 r30 b31 al32 q33
 go_upto_region 2 with fail
 rw[hW34.out];clear hW34;obtain⟨c44,c45,c46,c47,c48⟩:=q39.cs5;have c49:=q40.c 0 rfl;have hf:=dL (P:=Tryz.prog) q41 b43 (by omega) underlying32 rfl (by kernel_rfl) (yi 3) (.bool gx) (.bool x.s) (.slice xo (Dg.dg 65536 x.n).length xc) (yi x.e);have HH:Hid (_∧_∧_):=⟨hf.1,hf.2.2.rd r42 (mu r42 q41),hf.2.1⟩;obtain⟨⟨z0,z1,z2,z3,z4⟩,y0,y1,y2,y3,y4⟩:=dN q41;clear hf q39 q40 q41 r42 b43
 go_wp2
 obtain⟨hl,rRx,bR⟩:=HH.out;exact bodyPost_ret (aj results10 rfl rfl hl) rfl ⟨_,rfl,rRx,bR⟩
theorem acI (n wy:Int)(gx:Bool)(x y:ak)(xo yo:Option Addr)(xc yc:Nat)(w:World)(rx:Rd w .i64 (.slice xo (Dg.dg 65536 x.n).length xc) (Dg.dg 65536 x.n))
  (HO: ∀pb w1,au w1 pb 32 [yi 3,.bool gx,.bool x.s,.slice xo (Dg.dg 65536 x.n).length xc,yi x.e,yi 3,.bool gx,.bool y.s,.slice yo (Dg.dg 65536 y.n).length yc,yi y.e]→yC 34 #[yi n,.slice (some ⟨pb,0,none⟩) 2 2] w1 (yR w1 (.tuple #[yoV 0 false false (.slice none 0 0) 0,yi 0,.bool false]))):
  yC 10 #[yi n,yoV 3 gx x.s (.slice xo (Dg.dg 65536 x.n).length xc) x.e,yoV 3 gx y.s (.slice yo (Dg.dg 65536 y.n).length yc) y.e,yi wy] w (RVF w 3 gx x 0):=by
 replace HO:Hid _:=HO;obtain⟨W5,hW6,q1,q2,q3,b4⟩:=lG w (yoL 3 gx x.s (.slice xo (Dg.dg 65536 x.n).length xc) x.e) 32 (yoL 3 gx y.s (.slice yo (Dg.dg 65536 y.n).length yc) y.e) 32 (yoL 0 false false (.slice none 0 0) 0) 32;replace hW6:Hid _:=hW6;have r7:=rx.l b4;clear rx
 go_enter func10,ntmps10
 go_upto_region 1 with fail
 rw[hW6.out];clear hW6;obtain⟨c8,c9,c10,c11,c12⟩:=q1.cs5;obtain⟨c13,c14,c15,c16,c17⟩:=q2.cs5;have al18:=af W5 (.cells #[yi 3,.bool gx,.bool x.s,.slice xo (Dg.dg 65536 x.n).length xc,yi x.e,yi 3,.bool gx,.bool y.s,.slice yo (Dg.dg 65536 y.n).length yc,yi y.e] 32);have q19:=ah W5 [yi 3,.bool gx,.bool x.s,.slice xo (Dg.dg 65536 x.n).length xc,yi x.e,yi 3,.bool gx,.bool y.s,.slice yo (Dg.dg 65536 y.n).length yc,yi y.e] 32;have q20:=q1.l al18;have q21:=q2.l al18;have q22:=q3.l al18;have r23:=r7.l al18;have b24:=aa b4 al18
 go_wp2_with fail
 refine(HO.out _ _ q19).mono ?_;rintro zz w25 ⟨rfl,bb26⟩;have q27:=q20.l bb26;have q28:=q21.l bb26;have q29:=q22.l bb26;have r30:=r23.l bb26;have b31:=aa b24 bb26;clear q20 q21 q22 q19 r23 b24 bb26 HO c8 c9 c10 c11 c12 c13 c14 c15 c16 c17 q1 q2 q3 r7 b4 al18;obtain⟨W35,hW34,q33,al32⟩:=cA w25 (yoL 0 false false (.slice none 0 0) 0) 32;replace hW34:Hid _:=hW34;have hl36:w.heap.size≤w25.heap.size:=b31.size;have hl37:=q28.lt;have hl38:=q29.lt;have q39:=q27.l al32;have q40:=q28.l al32;have q41:=q29.l al32;have r42:=r30.l al32;have b43:=aa b31 al32;clear q27 q28 q29 r30 b31 al32 q33
 go_upto_region 2 with fail
 rw[hW34.out];clear hW34;obtain⟨c44,c45,c46,c47,c48⟩:=q39.cs5;have c49:=q40.c 0 rfl;have c50:=q40.c 1 rfl;have hf:=dL (P:=Tryz.prog) q41 b43 (by omega) underlying32 rfl (by kernel_rfl) (yi 3) (.bool gx) (.bool x.s) (.slice xo (Dg.dg 65536 x.n).length xc) (yi x.e);have HH:Hid (_∧_∧_):=⟨hf.1,hf.2.2.rd r42 (mu r42 q41),hf.2.1⟩;obtain⟨⟨z0,z1,z2,z3,z4⟩,y0,y1,y2,y3,y4⟩:=dN q41;clear hf q39 q40 q41 r42 b43
 go_wp2
 obtain⟨hl,rRx,bR⟩:=HH.out;exact bodyPost_ret (aj results10 rfl rfl hl) rfl ⟨_,rfl,rRx,bR⟩
theorem adP (cx:Int)(n wy:Int)(gx gy:Bool)(x y:ak)(xo yo:Option Addr)(xc yc:Nat)(w:World)(hx:(cx==3)=false)(ry:Rd w .i64 (.slice yo (Dg.dg 65536 y.n).length yc) (Dg.dg 65536 y.n))
  (HO: ∀pb w1,au w1 pb 32 [yi cx,.bool gx,.bool x.s,.slice xo (Dg.dg 65536 x.n).length xc,yi x.e,yi 3,.bool gy,.bool y.s,.slice yo (Dg.dg 65536 y.n).length yc,yi y.e]→yC 34 #[yi n,.slice (some ⟨pb,0,none⟩) 2 2] w1 (yR w1 (.tuple #[yoV 0 false false (.slice none 0 0) 0,yi 0,.bool false]))):
  yC 10 #[yi n,yoV cx gx x.s (.slice xo (Dg.dg 65536 x.n).length xc) x.e,yoV 3 gy y.s (.slice yo (Dg.dg 65536 y.n).length yc) y.e,yi wy] w (RVF w 3 gy y 0):=by
 replace HO:Hid _:=HO;obtain⟨W5,hW6,q1,q2,q3,b4⟩:=lG w (yoL cx gx x.s (.slice xo (Dg.dg 65536 x.n).length xc) x.e) 32 (yoL 3 gy y.s (.slice yo (Dg.dg 65536 y.n).length yc) y.e) 32 (yoL 0 false false (.slice none 0 0) 0) 32;replace hW6:Hid _:=hW6;have r7:=ry.l b4;clear ry
 go_enter func10,ntmps10
 go_upto_region 1 with fail
 rw[hW6.out];clear hW6;obtain⟨c8,c9,c10,c11,c12⟩:=q1.cs5;obtain⟨c13,c14,c15,c16,c17⟩:=q2.cs5;have al18:=af W5 (.cells #[yi cx,.bool gx,.bool x.s,.slice xo (Dg.dg 65536 x.n).length xc,yi x.e,yi 3,.bool gy,.bool y.s,.slice yo (Dg.dg 65536 y.n).length yc,yi y.e] 32);have q19:=ah W5 [yi cx,.bool gx,.bool x.s,.slice xo (Dg.dg 65536 x.n).length xc,yi x.e,yi 3,.bool gy,.bool y.s,.slice yo (Dg.dg 65536 y.n).length yc,yi y.e] 32;have q20:=q1.l al18;have q21:=q2.l al18;have q22:=q3.l al18;have r23:=r7.l al18;have b24:=aa b4 al18
 go_wp2_with fail
 refine(HO.out _ _ q19).mono ?_;rintro zz w25 ⟨rfl,bb26⟩;have q27:=q20.l bb26;have q28:=q21.l bb26;have q29:=q22.l bb26;have r30:=r23.l bb26;have b31:=aa b24 bb26;clear q20 q21 q22 q19 r23 b24 bb26 HO c8 c9 c10 c11 c12 c13 c14 c15 c16 c17 q1 q2 q3 r7 b4 al18;obtain⟨W35,hW34,q33,al32⟩:=cA w25 (yoL 0 false false (.slice none 0 0) 0) 32;replace hW34:Hid _:=hW34;have hl36:w.heap.size≤w25.heap.size:=b31.size;have hl37:=q28.lt;have hl38:=q29.lt;have q39:=q27.l al32;have q40:=q28.l al32;have q41:=q29.l al32;have r42:=r30.l al32;have b43:=aa b31 al32;clear q27 q28 q29 r30 b31 al32 q33
 go_upto_region 2 with fail
 rw[hW34.out];clear hW34;have c44:=q39.c 0 rfl;obtain⟨c45,c46,c47,c48,c49⟩:=q40.cs5;have hf:=dL (P:=Tryz.prog) q41 b43 (by omega) underlying32 rfl (by kernel_rfl) (yi 3) (.bool gy) (.bool y.s) (.slice yo (Dg.dg 65536 y.n).length yc) (yi y.e);have HH:Hid (_∧_∧_):=⟨hf.1,hf.2.2.rd r42 (mu r42 q41),hf.2.1⟩;obtain⟨⟨z0,z1,z2,z3,z4⟩,y0,y1,y2,y3,y4⟩:=dN q41;clear hf q39 q40 q41 r42 b43
 go_wp2
 obtain⟨hl,rRy,bR⟩:=HH.out;exact bodyPost_ret (aj results10 rfl rfl hl) rfl ⟨_,rfl,rRy,bR⟩
theorem ace (cx cy c fl:Int)(g:Bool)(t:ak)(n wy:Int)(gx gy:Bool)(x y:ak)(xo yo:Option Addr)(xc yc:Nat)(w:World)(hx:(cx==3)=false)(hy:(cy==3)=false)(HO: ∀pb w1,au w1 pb 32 [yi cx,.bool gx,.bool x.s,.slice xo (Dg.dg 65536 x.n).length xc,yi x.e,yi cy,.bool gy,.bool y.s,.slice yo (Dg.dg 65536 y.n).length yc,yi y.e]→yC 34 #[yi n,.slice (some ⟨pb,0,none⟩) 2 2] w1 (yR w1 (.tuple #[yoV 0 false false (.slice none 0 0) 0,yi 0,.bool false])))
  (HS: ∀w1,yB w w1→yC 36 #[yi n,ydV x.s (.slice xo (Dg.dg 65536 x.n).length xc) x.e,ydV y.s (.slice yo (Dg.dg 65536 y.n).length yc) y.e,.bool gx,.bool gy,yi wy] w1 (RVF w1 c g t fl)):
  yC 10 #[yi n,yoV cx gx x.s (.slice xo (Dg.dg 65536 x.n).length xc) x.e,yoV cy gy y.s (.slice yo (Dg.dg 65536 y.n).length yc) y.e,yi wy] w (RVF w c g t fl):=by
 replace HO:Hid _:=HO;replace HS:Hid _:=HS;obtain⟨W5,hW6,q1,q2,q3,b4⟩:=lG w (yoL cx gx x.s (.slice xo (Dg.dg 65536 x.n).length xc) x.e) 32 (yoL cy gy y.s (.slice yo (Dg.dg 65536 y.n).length yc) y.e) 32 (yoL 0 false false (.slice none 0 0) 0) 32;replace hW6:Hid _:=hW6
 go_enter func10,ntmps10
 go_upto_region 1 with fail
 rw[hW6.out];clear hW6;obtain⟨c7,c8,c9,c10,c11⟩:=q1.cs5;obtain⟨c12,c13,c14,c15,c16⟩:=q2.cs5;have al17:=af W5 (.cells #[yi cx,.bool gx,.bool x.s,.slice xo (Dg.dg 65536 x.n).length xc,yi x.e,yi cy,.bool gy,.bool y.s,.slice yo (Dg.dg 65536 y.n).length yc,yi y.e] 32);have q18:=ah W5 [yi cx,.bool gx,.bool x.s,.slice xo (Dg.dg 65536 x.n).length xc,yi x.e,yi cy,.bool gy,.bool y.s,.slice yo (Dg.dg 65536 y.n).length yc,yi y.e] 32;have q19:=q1.l al17;have q20:=q2.l al17;have q21:=q3.l al17;have b22:=aa b4 al17
 go_wp2_with fail
 refine(HO.out _ _ q18).mono ?_;rintro zz w23 ⟨rfl,bb24⟩;have q25:=q19.l bb24;have q26:=q20.l bb24;have q27:=q21.l bb24;have b28:=aa b22 bb24;clear q19 q20 q21 q18 b22 bb24 HO c7 c8 c9 c10 c11 c12 c13 c14 c15 c16 q1 q2 q3 b4 al17;obtain⟨W32,hW31,q30,al29⟩:=cA w23 (yoL 0 false false (.slice none 0 0) 0) 32;replace hW31:Hid _:=hW31;have hl33:w.heap.size≤w23.heap.size:=b28.size;have hl34:=q26.lt;have hl35:=q27.lt;have q36:=q25.l al29;have q37:=q26.l al29;have q38:=q27.l al29;have b39:=aa b28 al29;clear q25 q26 q27 b28 al29 q30
 go_upto_region 2 with fail
 rw[hW31.out];clear hW31;obtain⟨c40,c41,c42,c43,c44⟩:=q36.cs5;obtain⟨c45,c46,c47,c48,c49⟩:=q37.cs5
 go_wp2_with fail
 refine(HS.out _ b39).mono ?_;rintro zz w50 ⟨v152,rfl,r153,bb51⟩;have q54:=q38.l bb51;have b55:=aa b39 bb51;obtain⟨so,sc,hv⟩:=r153.shape;subst hv;clear q36 q37 q38 b39 bb51 HS c40 c41 c42 c43 c44 c45 c46 c47 c48 c49;have hf:=dL (P:=Tryz.prog) q54 b55 (by omega) underlying32 rfl (by kernel_rfl) (yi c) (.bool g) (.bool t.s) (.slice so (Dg.dg 65536 t.n).length sc) (yi t.e);have HH:Hid (_∧_∧_):=⟨hf.1,hf.2.2.rd r153 (mu r153 q54),hf.2.1⟩;obtain⟨⟨z0,z1,z2,z3,z4⟩,y0,y1,y2,y3,y4⟩:=dN q54;clear hf q54 r153 b55
 go_wp2
 obtain⟨hl,rRs,bR⟩:=HH.out;exact bodyPost_ret (aj results10 rfl rfl hl) rfl ⟨_,rfl,rRs,bR⟩
theorem plc_bare {k:Nat}(hk:1≤k∧k≤8)(way:Int)(t:ak)(h0:t.n≠0):fY k way (bare t)=fY k way t:=by
 obtain⟨-,-,d1,-,-,-,-,-,w64,-,-,-⟩:=eR hk;have hs:(bare t).s=t.s:=by unfold bare;rw[if_neg h0]
 unfold fY;rw[hs];exact round_bare t h0 (by omega) (by rw[Int.toNat_natCast];exact w64) t.s
theorem num_two {k:Nat}{t:ak}{sg:Bool}(h0:t.n≠0)(way:Int):m8 k way (nu t sg).1 (nu t sg).2.1 (nu t sg).2.2.1 (nu t sg).2.2.2=m8 k way 2 t.s t 0:=by
 unfold nu vI xr tF;rw[if_neg h0,if_neg h0,if_neg h0]
theorem num_nil {k:Nat}{t:ak}{sg:Bool}(h0:t.n=0)(way:Int):m8 k way (nu t sg).1 (nu t sg).2.1 (nu t sg).2.2.1 (nu t sg).2.2.2=m8 k way 1 sg ⟨false,0,0⟩ 0:=by
 unfold nu vI xr tF;rw[if_pos h0,if_pos h0,if_pos h0]
def mL (w:World)(b:Nat)(v0 v1 v2 v3 v4 v5:Value):Prop:=
 b<w.heap.size∧(w.cell? ⟨b,0,none⟩=some v0∧w.cell? ⟨b,1,none⟩=some v1∧w.cell? ⟨b,2,none⟩=some v2∧w.cell? ⟨b,3,none⟩=some v3∧w.cell? ⟨b,4,none⟩=some v4∧w.cell? ⟨b,5,none⟩=some v5)∧
  (w.frozen? ⟨b,0,none⟩=false∧w.frozen? ⟨b,1,none⟩=false∧w.frozen? ⟨b,2,none⟩=false∧w.frozen? ⟨b,3,none⟩=false∧w.frozen? ⟨b,4,none⟩=false∧w.frozen? ⟨b,5,none⟩=false)
theorem mL.l {w w':World}{b:Nat}{v0 v1 v2 v3 v4 v5:Value}(h:mL w b v0 v1 v2 v3 v4 v5)(hb:yB w w'):mL w' b v0 v1 v2 v3 v4 v5:=by
 obtain⟨hl,⟨c0,c1,c2,c3,c4,c5⟩,f0,f1,f2,f3,f4,f5⟩:=h;refine⟨Nat.lt_of_lt_of_le hl hb.size,⟨cell_later hb c0,cell_later hb c1,cell_later hb c2,cell_later hb c3,cell_later hb c4,cell_later hb c5⟩, ?_, ?_, ?_, ?_, ?_, ?_⟩
 all_goals rw[hb.frozen (by exact hl)];assumption
def ZB6 (w:World)(b:Nat):Prop:=b<w.heap.size∧ ∃ty,w.heap[b]? =some (.cells #[.bool false,.slice none 0 0,yi 0,.bool false,.slice none 0 0,yi 0] ty (0,0))
theorem ZB6.l {w w':World}{b:Nat}(h:ZB6 w b)(hb:yB w w'):ZB6 w' b:=by
 obtain⟨hl,ty,hh⟩:=h;exact⟨Nat.lt_of_lt_of_le hl hb.size,ty,(hb.block b hl).trans hh⟩
theorem ZB6.rd {w:World}{b:Nat}{v:Value}{zs:List Nat}(h:ZB6 w b)(hr:Rd w .i64 v zs)(hn:Dg.Norm zs)(x0 x1 x2 x3 x4 x5:Value):
  Rd ((((((w.setCell ⟨b,0,none⟩ x0).setCell ⟨b,1,none⟩ x1).setCell ⟨b,2,none⟩ x2).setCell ⟨b,3,none⟩ x3).setCell ⟨b,4,none⟩ x4).setCell ⟨b,5,none⟩ x5) .i64 v zs:=by
 obtain⟨hl,ty,hh⟩:=h;obtain⟨ao,cap,rfl,h1,h2,h3⟩:=hr;refine⟨ao,cap,rfl,h1,h2,fun hp=> ?_⟩
 obtain⟨c,off,rfl,hc⟩:=h3 hp;refine⟨c,off,rfl,fun i hi=> ?_⟩
 have hne:c≠b:=by
  intro e;subst e;have k1:=hc (zs.length-1) (by omega);have hz:=hn (List.length_pos_iff.1 hp);unfold World.cell? at k1;simp only[hh] at k1;obtain⟨o,ho⟩: ∃o,off+(zs.length-1)=o:=⟨_,rfl⟩;rw[ho] at k1;generalize zs.getD (zs.length-1) 0=d at*
  match o,k1 with
  |0,k1=>simp at k1
  |1,k1=>simp at k1
  |2,k1=>simp at k1;omega
  |3,k1=>simp at k1
  |4,k1=>simp at k1
  |5,k1=>simp at k1;omega
  |o+6,k1=>simp at k1
 rw[World.cell?_setCell_other (h:=by simp),World.cell?_setCell_other (h:=by simp),World.cell?_setCell_other (h:=by simp),World.cell?_setCell_other (h:=by simp),World.cell?_setCell_other (h:=by simp),World.cell?_setCell_other (h:=by simp)];exact hc i hi
def bJ (a b:ak):Int:=dJ (aG a (dV b))
def hiI (x:Nat→ak):Nat→Nat
 |0=>0
 |i+1=>if 0<bJ (x (i+1)) (x (hiI x i)) then i+1 else hiI x i
theorem mL.apart3 {w:World}{b c:Nat}{v0 v1 v2 v3 v4 v5:Value}(h:mL w b v0 v1 v2 v3 v4 v5)(hne:c≠b)(x0 x1 x2:Value):
  mL (((w.setCell ⟨c,0,none⟩ x0).setCell ⟨c,1,none⟩ x1).setCell ⟨c,2,none⟩ x2) b v0 v1 v2 v3 v4 v5:=by
 obtain⟨hl,⟨c0,c1,c2,c3,c4,c5⟩,f0,f1,f2,f3,f4,f5⟩:=h;refine⟨by simpa using hl,⟨?_, ?_, ?_, ?_, ?_, ?_⟩,by simpa using f0,by simpa using f1,by simpa using f2,by simpa using f3,by simpa using f4,by simpa using f5⟩
 all_goals (rw[World.cell?_setCell_other (h:=by simp),World.cell?_setCell_other (h:=by simp),World.cell?_setCell_other (h:=by simp)];assumption)
def left (listed:Array Bool):Nat:=(listed.toList.filter (fun b=> !b)).length
def Ag (W:World)(base:Nat)(v:Value):Prop:= ∃p,v= .pointer (some ⟨p,0,none⟩)∧base≤p∧Loc W p (.bool false) (.slice none 0 0) (yi 0)
theorem Ag.l {W W':World}{base:Nat}{v:Value}(h:Ag W base v)(hb:yB W W'):Ag W' base v:=by
 obtain⟨p,h1,h2,h3⟩:=h;exact⟨p,h1,h2,h3.l hb⟩
def BT (W:World)(base:Nat)(v:Value):Prop:= ∃p,v= .pointer (some ⟨p,0,none⟩)∧base≤p∧mL W p (.bool false) (.slice none 0 0) (yi 0) (.bool false) (.slice none 0 0) (yi 0)∧ZB6 W p
def V4 (W:World)(base:Nat)(v:Value):Prop:= ∃p,v= .pointer (some ⟨p,0,none⟩)∧base≤p∧Loc W p (.bool false) (.slice none 0 0) (yi 0)∧ZB W p
theorem BT.l {W W':World}{base:Nat}{v:Value}(h:BT W base v)(hb:yB W W'):BT W' base v:=by
 obtain⟨p,h1,h2,h3,h4⟩:=h;exact⟨p,h1,h2,h3.l hb,h4.l hb⟩
theorem V4.l {W W':World}{base:Nat}{v:Value}(h:V4 W base v)(hb:yB W W'):V4 W' base v:=by
 obtain⟨p,h1,h2,h3,h4⟩:=h;exact⟨p,h1,h2,h3.l hb,h4.l hb⟩
theorem ZB.off {w w':World}{q b:Nat}(h:ZB w q)(hg:w.grownBy w' (some b))(hne:q≠b):ZB w' q:=by
 obtain⟨hl,ty,hh⟩:=h;exact⟨Nat.lt_of_lt_of_le hl hg.size,ty,(hg.block q hl (by intro e;cases e;exact hne rfl)).trans hh⟩
theorem ZB6.off {w w':World}{q b:Nat}(h:ZB6 w q)(hg:w.grownBy w' (some b))(hne:q≠b):ZB6 w' q:=by
 obtain⟨hl,ty,hh⟩:=h;exact⟨Nat.lt_of_lt_of_le hl hg.size,ty,(hg.block q hl (by intro e;cases e;exact hne rfl)).trans hh⟩
def RB6 (W:World)(v:Value)(x y:ak):Prop:= ∃p q,v= .agg #[.bool x.s,p,yi x.e,.bool y.s,q,yi y.e]∧Rd W .i64 p (Dg.dg 65536 x.n)∧Rd W .i64 q (Dg.dg 65536 y.n)
theorem RB6.l {W W':World}{v:Value}{x y:ak}(h:RB6 W v x y)(hb:yB W W'):RB6 W' v x y:=by
 obtain⟨p,q,h1,h2,h3⟩:=h;exact⟨p,q,h1,h2.l hb,h3.l hb⟩
theorem op_sign {k:Nat}(hk:1≤k∧k≤8){p:ByteArray}(h:dF (k:Int) p=0)(c:bM (k:Int) p=2):(opT (k:Int) p).s=dz (k:Int) p:=by
 have h0:=(ir hk h).2.2 c;have hc:dh k (aZ k p) (aR k p) (aU k p)=2:=by
  unfold bM at c
  rwa [if_pos h,Int.toNat_natCast] at c
 have e:=(wI (EX hk p (.inr hc))).1;rw[Dg.vl_dg _ _ (by omega)] at e;have e2:opT (k:Int) p=nxT k p:=by unfold opT;rw[if_pos h,Int.toNat_natCast]
 rw[e2] at h0⊢;rw[e] at h0⊢;unfold dz;rw[if_pos h,Int.toNat_natCast];have hn:ge k (aZ k p) (aR k p) (aU k p)≠0:=fun c=>h0 ((fI _).2 c)
 unfold bare;rw[if_neg hn]
theorem refDP_same (ea eb E da db ma mb:Int)(sa:Bool)(ao bo:Option Addr)(la lb ac bc:Nat)(X Y Z:Nat)(t:ak)(w:World)(hc:((la:Int)==0)=false∧((lb:Int)==0)=false∧min ea eb=E∨((la:Int)==0)=true∧((lb:Int)==0)=false∧eb=E∨((la:Int)==0)=false∧((lb:Int)==0)=true∧ea=E∨((la:Int)==0)=true∧((lb:Int)==0)=true∧ea=E)(hda:IntKind.i64.wrap (ea-E)=da)(hdb:IntKind.i64.wrap (eb-E)=db)(hma:max 0 da=ma)(hmb:max 0 db=mb)
  (HU: ∀w1,yB w w1→yC 112 #[.slice ao la ac,yi ma] w1 (cG w1 X))
  (HV: ∀w1,yB w w1→yC 112 #[.slice bo lb bc,yi mb] w1 (cG w1 Y))
  (HP: ∀xo xc yo yc w1,yB w w1→Rd w1 .i64 (.slice xo (Dg.dg 65536 X).length xc) (Dg.dg 65536 X)→Rd w1 .i64 (.slice yo (Dg.dg 65536 Y).length yc) (Dg.dg 65536 Y)→yC 69 #[.slice xo (Dg.dg 65536 X).length xc,.slice yo (Dg.dg 65536 Y).length yc] w1 (cG w1 Z))
  (HB: ∀zo zc w1,yB w w1→Rd w1 .i64 (.slice zo (Dg.dg 65536 Z).length zc) (Dg.dg 65536 Z)→yC 67 #[ydV sa (.slice zo (Dg.dg 65536 Z).length zc) E] w1 (Xi w.heap.size w1 t)):
  yC 72 #[ydV sa (.slice ao la ac) ea,ydV sa (.slice bo lb bc) eb] w (di w t):=by
 replace HU:Hid _:=HU;replace HV:Hid _:=HV;replace HP:Hid _:=HP;replace HB:Hid _:=HB;obtain⟨W5,hW6,q1,q2,q3,b4⟩:=lG w (ydL sa (.slice ao la ac) ea) 30 (ydL sa (.slice bo lb bc) eb) 30 (ydL false (.slice none 0 0) 0) 30;replace hW6:Hid _:=hW6
 go_enter func72,ntmps72
 go_upto_region 1 with fail
 rw[hW6.out];clear hW6;have c7:=q1.c 1 rfl;have c8:=q1.c 2 rfl;have c9:=q2.c 1 rfl;have c10:=q2.c 2 rfl
 rcases hc with⟨hla,hlb,hE⟩| ⟨hla,hlb,hE⟩| ⟨hla,hlb,hE⟩| ⟨hla,hlb,hE⟩
 all_goals try rw[hE] at c8
 all_goals try rw[hE] at c10
 all_goals
  go_upto_region 6 with fail
  clear hE;clear c7 c8 c9 c10;have bW11:yB W5 W5.drew:=(Below.refl _ _).drew;have q12:=q1.l bW11;have q13:=q2.l bW11;have q14:=q3.l bW11;have b15:=aa b4 bW11;clear q1 q2 q3 b4 bW11;refine wp_region_held_drew (S:=fun wq=>au wq w.heap.size 30 (ydL sa (.slice ao la ac) ea)∧au wq (w.heap.size+1) 30 (ydL sa (.slice bo lb bc) eb)) (by kernel_rfl) ⟨q12,q13⟩ (fun hS0=> ?_)
  generalize W5.drew=WD16 at q12 q13 q14 b15 hS0⊢;refine tk 0 (.pointer (some ⟨w.heap.size,1,none⟩)) rfl (by kernel_rfl) (fun _ _ _ h=>h) (fun _ _=>by kernel_rfl) hS0 ?_
  refine tk 1 (.slice ao la ac) rfl (by kernel_rfl) (fun _ _ _ h=>h) (fun _ hw0=>gU 28 (.tmp 25) rfl w.heap.size 1 (by kernel_rfl) _ _ underlying28 rfl (hw0.1.c 1 rfl)) hS0 ?_
  refine tk 2 (.pointer (some ⟨w.heap.size,2,none⟩)) rfl (by kernel_rfl) (fun _ _ _ h=>h) (fun _ _=>by kernel_rfl) hS0 ?_
  refine tk 3 (yi ea) rfl (by kernel_rfl) (fun _ _ _ h=>h) (fun _ hw0=>gU 3 (.tmp 27) rfl w.heap.size 2 (by kernel_rfl) _ _ underlying3 rfl (hw0.1.c 2 rfl)) hS0 ?_
  refine tk 4 (yi E) rfl (by kernel_rfl) (fun _ _ _ h=>h) (fun _ _=>by kernel_rfl) hS0 ?_
  refine tk 5 (yi da) rfl (by kernel_rfl) (fun _ _ _ h=>h) (fun _ _=>by go_simp) hS0 ?_
  refine tk 6 (yi ma) rfl (by kernel_rfl) (fun _ _ _ h=>h) (fun _ _=>by go_simp) hS0 ?_
  refine tk 8 (.pointer (some ⟨w.heap.size+1,1,none⟩)) rfl (by kernel_rfl) (fun _ _ _ h=>h) (fun _ _=>by kernel_rfl) hS0 ?_
  refine tk 9 (.slice bo lb bc) rfl (by kernel_rfl) (fun _ _ _ h=>h) (fun _ hw0=>gU 28 (.tmp 33) rfl (w.heap.size+1) 1 (by kernel_rfl) _ _ underlying28 rfl (hw0.2.c 1 rfl)) hS0 ?_
  refine tk 10 (.pointer (some ⟨w.heap.size+1,2,none⟩)) rfl (by kernel_rfl) (fun _ _ _ h=>h) (fun _ _=>by kernel_rfl) hS0 ?_
  refine tk 11 (yi eb) rfl (by kernel_rfl) (fun _ _ _ h=>h) (fun _ hw0=>gU 3 (.tmp 35) rfl (w.heap.size+1) 2 (by kernel_rfl) _ _ underlying3 rfl (hw0.2.c 2 rfl)) hS0 ?_
  refine tk 12 (yi E) rfl (by kernel_rfl) (fun _ _ _ h=>h) (fun _ _=>by kernel_rfl) hS0 ?_
  refine tk 13 (yi db) rfl (by kernel_rfl) (fun _ _ _ h=>h) (fun _ _=>by go_simp) hS0 ?_
  refine tk 14 (yi mb) rfl (by kernel_rfl) (fun _ _ _ h=>h) (fun _ _=>by go_simp) hS0 ?_
  refine wpAnyH_ready (rs:=[7]) (by kernel_rfl) (by simp) ?_;refine AllReadyH.cons rfl (fun K hK=> ?_) AllReadyH.nil
  go_simp
  refine(HU.out _ b15).mono ?_;rintro zz w17 ⟨v119,rfl,r120,bb18⟩;have q21:=q12.l bb18;have q22:=q13.l bb18;have q23:=q14.l bb18;have b24:=aa b15 bb18;obtain⟨xo,xc,hv⟩:=r120.shape;subst hv;clear q12 q13 q14 b15 bb18 HU;refine hK.out _ _ ⟨q21,q22⟩ (fun hS25=> ?_)
  clear hK K;refine wpAnyH_ready (rs:=[15]) (by kernel_rfl) (by simp) ?_;refine AllReadyH.cons rfl (fun K hK=> ?_) AllReadyH.nil
  go_simp
  refine(HV.out _ b24).mono ?_;rintro zz w26 ⟨v128,rfl,r129,bb27⟩;have q30:=q21.l bb27;have q31:=q22.l bb27;have q32:=q23.l bb27;have r33:=r120.l bb27;have b34:=aa b24 bb27;obtain⟨yo,yc,hv⟩:=r129.shape;subst hv;clear q21 q22 q23 r120 b24 bb27 HV;refine hK.out _ _ ⟨q30,q31⟩ (fun hS35=> ?_)
  clear hK K;refine tk 16 (.slice xo (Dg.dg 65536 X).length xc) rfl (by kernel_rfl) (fun _ _ _ h=>h) (fun _ _=>by kernel_rfl) hS35 ?_
  refine tk 17 (.slice yo (Dg.dg 65536 Y).length yc) rfl (by kernel_rfl) (fun _ _ _ h=>h) (fun _ _=>by kernel_rfl) hS35 ?_
  refine wpAnyH_done (by kernel_rfl) ?_ _;clear hS0 hS25 hS35;simp only[Act.put,List.getElem_toArray,List.getElem_cons_succ,List.getElem_cons_zero,List.setIfInBounds_toArray,List.set_cons_zero,List.set_cons_succ];have c36:=q30.c 0 rfl;have c37:=q31.c 0 rfl
  go_upto_region 8 with fail
  clear c36 c37;have bW38:yB w26 w26.drew:=(Below.refl _ _).drew;have q39:=q30.l bW38;have q40:=q32.l bW38;have r41:=r33.l bW38;have r42:=r129.l bW38;have b43:=aa b34 bW38;clear q30 q31 q32 r33 r129 b34 bW38;refine wp_region_held_drew (S:=fun wq=>au wq w.heap.size 30 (ydL sa (.slice ao la ac) ea)) (by kernel_rfl) q39 (fun hS0=> ?_)
  generalize w26.drew=WD44 at q39 q40 r41 r42 b43 hS0⊢;refine tk 0 (.pointer (some ⟨w.heap.size,0,none⟩)) rfl (by kernel_rfl) (fun _ _ _ h=>h) (fun _ _=>by kernel_rfl) hS0 ?_
  refine tk 1 (.bool sa) rfl (by kernel_rfl) (fun _ _ _ h=>h) (fun _ hw0=>gU 4 (.tmp 46) rfl w.heap.size 0 (by kernel_rfl) _ _ underlying4 rfl (hw0.c 0 rfl)) hS0 ?_
  refine tk 2 (.slice xo (Dg.dg 65536 X).length xc) rfl (by kernel_rfl) (fun _ _ _ h=>h) (fun _ _=>by kernel_rfl) hS0 ?_
  refine tk 3 (.slice yo (Dg.dg 65536 Y).length yc) rfl (by kernel_rfl) (fun _ _ _ h=>h) (fun _ _=>by kernel_rfl) hS0 ?_
  refine tk 5 (yi E) rfl (by kernel_rfl) (fun _ _ _ h=>h) (fun _ _=>by kernel_rfl) hS0 ?_
  refine wpAnyH_ready (rs:=[4]) (by kernel_rfl) (by simp) ?_;refine AllReadyH.cons rfl (fun K hK=> ?_) AllReadyH.nil
  go_simp
  refine(HP.out _ _ _ _ _ b43 r41 r42).mono ?_;rintro zz w45 ⟨v147,rfl,r148,bb46⟩;have q49:=q39.l bb46;have q50:=q40.l bb46;have r51:=r41.l bb46;have r52:=r42.l bb46;have b53:=aa b43 bb46;obtain⟨zo,zc,hv⟩:=r148.shape;subst hv;clear q39 q40 r41 r42 b43 bb46 HP;refine hK.out _ _ q49 (fun hS54=> ?_)
  clear hK K;refine tk 6 (ydV sa (.slice zo (Dg.dg 65536 Z).length zc) E) rfl (by kernel_rfl) (fun _ _ _ h=>h) (fun _ _=>by kernel_rfl) hS54 ?_
  refine wpAnyH_ready (rs:=[7]) (by kernel_rfl) (by simp) ?_;refine AllReadyH.cons rfl (fun K hK=> ?_) AllReadyH.nil
  go_simp
  refine(HB.out _ _ _ b53 r148).mono ?_;rintro zz w55 ⟨v157,rfl,r158,bb56,hF⟩;have q59:=q49.l bb56;have q60:=q50.l bb56;have r61:=r51.l bb56;have r62:=r52.l bb56;have r63:=r148.l bb56;have b64:=aa b53 bb56;obtain⟨uo,uc,hv⟩:=r158.shape;subst hv;clear q49 q50 r51 r52 r148 b53 bb56 HB;refine hK.out _ _ q59 (fun hS65=> ?_)
  clear hK K;refine wpAnyH_ready (rs:=[8]) (by kernel_rfl) (by simp) ?_;refine AllReadyH.cons rfl (fun K hK=> ?_) AllReadyH.nil
  have bu:But (w.heap.size+1+1) w55 (w55.setCells (w.heap.size+1+1) 0 (ydL t.s (.slice uo (Dg.dg 65536 t.n).length uc) t.e)):=de _ _ _ _;have hth:w55.there (w.heap.size+1+1) 0 3:=dD q60;have q66:au (w55.setCells (w.heap.size+1+1) 0 (ydL t.s (.slice uo (Dg.dg 65536 t.n).length uc) t.e)) (w.heap.size+1+1) 30 (ydL t.s (.slice uo (Dg.dg 65536 t.n).length uc) t.e):=q60.sets _ rfl;have r67:=bu.rd r61 (cq r61 (Dg.norm_dg _ _ (by omega)) q60 (fun x hx n hn=>by simp at hx;rcases hx with rfl|rfl|rfl<;>simp;all_goals omega))
  have r68:=bu.rd r62 (cq r62 (Dg.norm_dg _ _ (by omega)) q60 (fun x hx n hn=>by simp at hx;rcases hx with rfl|rfl|rfl<;>simp;all_goals omega))
  have r69:=bu.rd r63 (cq r63 (Dg.norm_dg _ _ (by omega)) q60 (fun x hx n hn=>by simp at hx;rcases hx with rfl|rfl|rfl<;>simp;all_goals omega))
  have r70:=bu.rd r158 (cq r158 (Dg.norm_dg _ _ (by omega)) q60 (fun x hx n hn=>by simp at hx;rcases hx with rfl|rfl|rfl<;>simp;all_goals omega))
  have q71:=bu.loc q59 (by omega);have b72:=bu.below b64 (by omega);rw[if_pos (by kernel_rfl)];refine wp_store_mid 30 (.tmp 4) (.tmp 53) rfl (w.heap.size+1+1) 0 (ydA t.s (.slice uo (Dg.dg 65536 t.n).length uc) t.e) (by kernel_rfl) (by kernel_rfl) hth (by kernel_rfl) (by simp[Value.oneCell']) ?_;refine hK.out _ _ q71 (fun hS73=> ?_)
  clear hK K;clear q60 r61 r62 r63 r158 q59 b64 bu hth;refine wpAnyH_done (by kernel_rfl) ?_ _;clear hS0 hS54 hS65 hS73;change Exit.then _ _ _ _ (World.setCells w55 (w.heap.size+1+1) 0 (ydL t.s (.slice uo (Dg.dg 65536 t.n).length uc) t.e));generalize World.setCells w55 (w.heap.size+1+1) 0 (ydL t.s (.slice uo (Dg.dg 65536 t.n).length uc) t.e)=W74 at q71 q66 r67 r68 r69 r70 b72⊢;simp only[Act.put,List.getElem_toArray,List.getElem_cons_succ,List.getElem_cons_zero];have hl:=run_loadVar_mid (P:=Tryz.prog) _ (w.heap.size+1+1) 0 30 (ydL t.s (.slice uo (Dg.dg 65536 t.n).length uc) t.e) _ q66.range underlying30 rfl (by kernel_rfl)
  go_wp2
  exact bodyPost_ret (br results72 rfl hl) rfl ⟨_,rfl,r70,hF.out,b72⟩
end Go.Proofs.YtbdokgamhinajaaGreatDoor

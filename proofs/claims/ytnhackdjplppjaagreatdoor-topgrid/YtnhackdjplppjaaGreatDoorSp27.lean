/-
  Texts laid together: Gb6.
-/
import Derived.Test.YtnhackdjplppjaaGreatDoorSp26
set_option maxRecDepth 100000
namespace Go.Proofs.YtnhackdjplppjaaGreatDoor
open Go.RowKit
set_option maxHeartbeats 3200000 in
theorem inf_any (c:Int) (g s:Bool) (o:Option Addr) (l k:Nat) (e:Int) (w:World):
  Calls Tryz.prog 109 #[yoV c g s (.slice o l k) e] w fun z w'=>z= .returned (.bool (c==3))∧Below w.heap.size w w':=by
 obtain⟨W3,hW4,q1,b2⟩:=ent1 w (yoL c g s (.slice o l k) e) 98;replace hW4:Hid _:=hW4
 go_enter Tryz.func109,Tryz.ntmps109
 go_upto_region 1 with fail
 rw[hW4.out];clear hW4;have c5:=q1.cell 0 rfl
 go_wp2
 go_ret
 exact⟨rfl,b2⟩
theorem inf_t (g s:Bool) (o:Option Addr) (l k:Nat) (e:Int) (w:World):Calls Tryz.prog 109 #[yoV 3 g s (.slice o l k) e] w fun z w'=>z= .returned (.bool true)∧Below w.heap.size w w':=inf_any 3 g s o l k e w
theorem inf_f (c:Int) (g s:Bool) (o:Option Addr) (l k:Nat) (e:Int) (w:World) (h:(c==3)=false):Calls Tryz.prog 109 #[yoV c g s (.slice o l k) e] w fun z w'=>z= .returned (.bool false)∧Below w.heap.size w w':=by
 have:=inf_any c g s o l k e w;rw[h] at this;exact this
set_option maxHeartbeats 3200000 in
theorem zer_any (c:Int) (g s:Bool) (o:Option Addr) (l k:Nat) (e:Int) (w:World):
  Calls Tryz.prog 125 #[yoV c g s (.slice o l k) e] w fun z w'=>z= .returned (.bool (c==1))∧Below w.heap.size w w':=by
 obtain⟨W3,hW4,q1,b2⟩:=ent1 w (yoL c g s (.slice o l k) e) 98;replace hW4:Hid _:=hW4
 go_enter Tryz.func125,Tryz.ntmps125
 go_upto_region 1 with fail
 rw[hW4.out];clear hW4;have c5:=q1.cell 0 rfl
 go_wp2
 go_ret
 exact⟨rfl,b2⟩
theorem zer_t (g s:Bool) (o:Option Addr) (l k:Nat) (e:Int) (w:World):Calls Tryz.prog 125 #[yoV 1 g s (.slice o l k) e] w fun z w'=>z= .returned (.bool true)∧Below w.heap.size w w':=zer_any 1 g s o l k e w
theorem zer_f (c:Int) (g s:Bool) (o:Option Addr) (l k:Nat) (e:Int) (w:World) (h:(c==1)=false):Calls Tryz.prog 125 #[yoV c g s (.slice o l k) e] w fun z w'=>z= .returned (.bool false)∧Below w.heap.size w w':=by
 have:=zer_any c g s o l k e w;rw[h] at this;exact this
set_option maxHeartbeats 3200000 in
theorem dproduct_31 (c:Int) (n wy fam R D L G:Int) (gr:Bool) (gx gy:Bool) (x y:Trip) (xo yo:Option Addr) (xc yc:Nat) (w:World)
  (HN: ∀w1,Calls Tryz.prog 108 #[ykV n wy fam R D L G gr,yi 16] w1 fun z w'=>z= .returned (.tuple #[yoV c false false (.slice none 0 0) 0,yi 16])∧Below w1.heap.size w1 w'):
  Calls Tryz.prog 65 #[ykV n wy fam R D L G gr,yOV 3 gx x xo xc,yOV 1 gy y yo yc] w (OpRes2 w c false ⟨false,0,0⟩ 16):=by
 replace HN:Hid _:=HN;obtain⟨W6,hW7,q1,q2,q3,q4,b5⟩:=ent4 w (ykL n wy fam R D L G gr) 93 (yOL 3 gx x xo xc) 98 (yOL 1 gy y yo yc) 98 (yoL 0 false false (.slice none 0 0) 0) 98;replace hW7:Hid _:=hW7
 go_enter Tryz.func65,Tryz.ntmps65
 go_upto_region 1 with fail
 rw[hW7.out];clear hW7;obtain⟨c8,c9,c10,c11,c12⟩:=q2.cs5;have c13:=q3.cell 1 rfl
 go_wp2_with fail
 refine(inf_t _ _ _ _ _ _ _).mono ?_;rintro zz w14 ⟨rfl,bb15⟩;have q16:=q1.later bb15;have q17:=q3.later bb15;have q18:=q4.later bb15;have b19:=below_trans b5 bb15;clear q1 q2 q3 q4 b5 bb15 c8 c9 c10 c11 c12 c13;obtain⟨c20,c21,c22,c23,c24⟩:=q17.cs5
 go_wp2_with fail
 refine(zer_t _ _ _ _ _ _ _).mono ?_;rintro zz w25 ⟨rfl,bb26⟩;have q27:=q16.later bb26;have q28:=q18.later bb26;have b29:=below_trans b19 bb26;clear q16 q17 q18 b19 bb26 c20 c21 c22 c23 c24;obtain⟨c30,c31,c32,c33,c34,c35,c36,c37⟩:=q27.cs8
 go_wp2_with fail
 refine(HN.out _).mono ?_;rintro zz w38 ⟨rfl,bb39⟩;have q40:=q28.later bb39;have b41:=below_trans b29 bb39;clear q27 q28 b29 bb39 HN c30 c31 c32 c33 c34 c35 c36 c37;have hf:=fin5 (P:=Tryz.prog) q40 b41 (by omega) Tryz.underlying98 rfl (by kernel_rfl) (yi c) (.bool false) (.bool false) (.slice none 0 0) (yi 0);have HH:Hid (_∧_):=⟨hf.1,hf.2.1⟩;obtain⟨⟨z0,z1,z2,z3,z4⟩,y0,y1,y2,y3,y4⟩:=csf5 q40;clear hf q40 b41
 go_wp2
 obtain⟨hl,bR⟩:=HH.out;exact bodyPost_ret (results_two Tryz.results65 rfl rfl hl) rfl ⟨_,rfl,rd_nil _ _,bR⟩
set_option maxHeartbeats 3200000 in
theorem dproduct_13 (c:Int) (n wy fam R D L G:Int) (gr:Bool) (gx gy:Bool) (x y:Trip) (xo yo:Option Addr) (xc yc:Nat) (w:World)
  (HN: ∀w1,Calls Tryz.prog 108 #[ykV n wy fam R D L G gr,yi 16] w1 fun z w'=>z= .returned (.tuple #[yoV c false false (.slice none 0 0) 0,yi 16])∧Below w1.heap.size w1 w'):
  Calls Tryz.prog 65 #[ykV n wy fam R D L G gr,yOV 1 gx x xo xc,yOV 3 gy y yo yc] w (OpRes2 w c false ⟨false,0,0⟩ 16):=by
 replace HN:Hid _:=HN;obtain⟨W6,hW7,q1,q2,q3,q4,b5⟩:=ent4 w (ykL n wy fam R D L G gr) 93 (yOL 1 gx x xo xc) 98 (yOL 3 gy y yo yc) 98 (yoL 0 false false (.slice none 0 0) 0) 98;replace hW7:Hid _:=hW7
 go_enter Tryz.func65,Tryz.ntmps65
 go_upto_region 1 with fail
 rw[hW7.out];clear hW7;obtain⟨c8,c9,c10,c11,c12⟩:=q2.cs5;have c13:=q3.cell 1 rfl
 go_wp2_with fail
 refine(inf_f _ _ _ _ _ _ _ _ rfl).mono ?_;rintro zz w14 ⟨rfl,bb15⟩;have q16:=q1.later bb15;have q17:=q2.later bb15;have q18:=q3.later bb15;have q19:=q4.later bb15;have b20:=below_trans b5 bb15;clear q1 q2 q3 q4 b5 bb15 c8 c9 c10 c11 c12 c13;obtain⟨c21,c22,c23,c24,c25⟩:=q17.cs5
 go_wp2_with fail
 refine(zer_t _ _ _ _ _ _ _).mono ?_;rintro zz w26 ⟨rfl,bb27⟩;have q28:=q16.later bb27;have q29:=q18.later bb27;have q30:=q19.later bb27;have b31:=below_trans b20 bb27;clear q16 q17 q18 q19 b20 bb27 c21 c22 c23 c24 c25;obtain⟨c32,c33,c34,c35,c36⟩:=q29.cs5
 go_wp2_with fail
 refine(inf_t _ _ _ _ _ _ _).mono ?_;rintro zz w37 ⟨rfl,bb38⟩;have q39:=q28.later bb38;have q40:=q30.later bb38;have b41:=below_trans b31 bb38;clear q28 q29 q30 b31 bb38 c32 c33 c34 c35 c36;obtain⟨c42,c43,c44,c45,c46,c47,c48,c49⟩:=q39.cs8
 go_wp2_with fail
 refine(HN.out _).mono ?_;rintro zz w50 ⟨rfl,bb51⟩;have q52:=q40.later bb51;have b53:=below_trans b41 bb51;clear q39 q40 b41 bb51 HN c42 c43 c44 c45 c46 c47 c48 c49;have hf:=fin5 (P:=Tryz.prog) q52 b53 (by omega) Tryz.underlying98 rfl (by kernel_rfl) (yi c) (.bool false) (.bool false) (.slice none 0 0) (yi 0);have HH:Hid (_∧_):=⟨hf.1,hf.2.1⟩;obtain⟨⟨z0,z1,z2,z3,z4⟩,y0,y1,y2,y3,y4⟩:=csf5 q52;clear hf q52 b53
 go_wp2
 obtain⟨hl,bR⟩:=HH.out;exact bodyPost_ret (results_two Tryz.results65 rfl rfl hl) rfl ⟨_,rfl,rd_nil _ _,bR⟩
set_option maxHeartbeats 3200000 in
theorem dproduct_3y (cy:Int) (n wy fam R D L G:Int) (gr:Bool) (gx gy:Bool) (x y:Trip) (xo yo:Option Addr) (xc yc:Nat) (w:World) (hy1:(cy==1)=false):
  Calls Tryz.prog 65 #[ykV n wy fam R D L G gr,yOV 3 gx x xo xc,yOV cy gy y yo yc] w (OpRes2 w 3 (gx != gy) ⟨false,0,0⟩ 0):=by
 obtain⟨W6,hW7,q1,q2,q3,q4,b5⟩:=ent4 w (ykL n wy fam R D L G gr) 93 (yOL 3 gx x xo xc) 98 (yOL cy gy y yo yc) 98 (yoL 0 false false (.slice none 0 0) 0) 98;replace hW7:Hid _:=hW7;clear q1
 go_enter Tryz.func65,Tryz.ntmps65
 go_upto_region 1 with fail
 rw[hW7.out];clear hW7;obtain⟨c8,c9,c10,c11,c12⟩:=q2.cs5;have c13:=q3.cell 1 rfl
 go_wp2_with fail
 refine(inf_t _ _ _ _ _ _ _).mono ?_;rintro zz w14 ⟨rfl,bb15⟩;have q16:=q2.later bb15;have q17:=q3.later bb15;have q18:=q4.later bb15;have b19:=below_trans b5 bb15;clear q2 q3 q4 b5 bb15 c8 c9 c10 c11 c12 c13;obtain⟨c20,c21,c22,c23,c24⟩:=q17.cs5
 go_wp2_with fail
 refine(zer_f _ _ _ _ _ _ _ _ hy1).mono ?_;rintro zz w25 ⟨rfl,bb26⟩;have q27:=q16.later bb26;have q28:=q18.later bb26;have b29:=below_trans b19 bb26;clear q16 q17 q18 b19 bb26 c20 c21 c22 c23 c24;obtain⟨c30,c31,c32,c33,c34⟩:=q27.cs5
 go_wp2_with fail
 refine(zer_f _ _ _ _ _ _ _ _ rfl).mono ?_;rintro zz w35 ⟨rfl,bb36⟩;have q37:=q27.later bb36;have q38:=q28.later bb36;have b39:=below_trans b29 bb36;clear q27 q28 b29 bb36 c30 c31 c32 c33 c34;obtain⟨c40,c41,c42,c43,c44⟩:=q37.cs5
 go_wp2_with fail
 refine(inf_t _ _ _ _ _ _ _).mono ?_;rintro zz w45 ⟨rfl,bb46⟩;have q47:=q38.later bb46;have b48:=below_trans b39 bb46;clear q37 q38 b39 bb46 c40 c41 c42 c43 c44;have hf:=fin5 (P:=Tryz.prog) q47 b48 (by omega) Tryz.underlying98 rfl (by kernel_rfl) (yi 3) (.bool (gx != gy)) (.bool false) (.slice none 0 0) (yi 0);have HH:Hid (_∧_):=⟨hf.1,hf.2.1⟩;obtain⟨⟨z0,z1,z2,z3,z4⟩,y0,y1,y2,y3,y4⟩:=csf5 q47;clear hf q47 b48
 go_wp2
 obtain⟨hl,bR⟩:=HH.out;exact bodyPost_ret (results_two Tryz.results65 rfl rfl hl) rfl ⟨_,rfl,rd_nil _ _,bR⟩
set_option maxHeartbeats 3200000 in
theorem dproduct_x3 (cx:Int) (n wy fam R D L G:Int) (gr:Bool) (gx gy:Bool) (x y:Trip) (xo yo:Option Addr) (xc yc:Nat) (w:World) (hx3:(cx==3)=false) (hx1:(cx==1)=false):
  Calls Tryz.prog 65 #[ykV n wy fam R D L G gr,yOV cx gx x xo xc,yOV 3 gy y yo yc] w (OpRes2 w 3 (gx != gy) ⟨false,0,0⟩ 0):=by
 obtain⟨W6,hW7,q1,q2,q3,q4,b5⟩:=ent4 w (ykL n wy fam R D L G gr) 93 (yOL cx gx x xo xc) 98 (yOL 3 gy y yo yc) 98 (yoL 0 false false (.slice none 0 0) 0) 98;replace hW7:Hid _:=hW7;clear q1
 go_enter Tryz.func65,Tryz.ntmps65
 go_upto_region 1 with fail
 rw[hW7.out];clear hW7;obtain⟨c8,c9,c10,c11,c12⟩:=q2.cs5;have c13:=q3.cell 1 rfl
 go_wp2_with fail
 refine(inf_f _ _ _ _ _ _ _ _ hx3).mono ?_;rintro zz w14 ⟨rfl,bb15⟩;have q16:=q2.later bb15;have q17:=q3.later bb15;have q18:=q4.later bb15;have b19:=below_trans b5 bb15;clear q2 q3 q4 b5 bb15 c8 c9 c10 c11 c12 c13;obtain⟨c20,c21,c22,c23,c24⟩:=q16.cs5
 go_wp2_with fail
 refine(zer_f _ _ _ _ _ _ _ _ hx1).mono ?_;rintro zz w25 ⟨rfl,bb26⟩;have q27:=q16.later bb26;have q28:=q17.later bb26;have q29:=q18.later bb26;have b30:=below_trans b19 bb26;clear q16 q17 q18 b19 bb26 c20 c21 c22 c23 c24;obtain⟨c31,c32,c33,c34,c35⟩:=q27.cs5
 go_wp2_with fail
 refine(inf_f _ _ _ _ _ _ _ _ hx3).mono ?_;rintro zz w36 ⟨rfl,bb37⟩;have q38:=q28.later bb37;have q39:=q29.later bb37;have b40:=below_trans b30 bb37;clear q27 q28 q29 b30 bb37 c31 c32 c33 c34 c35;obtain⟨c41,c42,c43,c44,c45⟩:=q38.cs5
 go_wp2_with fail
 refine(inf_t _ _ _ _ _ _ _).mono ?_;rintro zz w46 ⟨rfl,bb47⟩;have q48:=q39.later bb47;have b49:=below_trans b40 bb47;clear q38 q39 b40 bb47 c41 c42 c43 c44 c45;have hf:=fin5 (P:=Tryz.prog) q48 b49 (by omega) Tryz.underlying98 rfl (by kernel_rfl) (yi 3) (.bool (gx != gy)) (.bool false) (.slice none 0 0) (yi 0);have HH:Hid (_∧_):=⟨hf.1,hf.2.1⟩;obtain⟨⟨z0,z1,z2,z3,z4⟩,y0,y1,y2,y3,y4⟩:=csf5 q48;clear hf q48 b49
 go_wp2
 obtain⟨hl,bR⟩:=HH.out;exact bodyPost_ret (results_two Tryz.results65 rfl rfl hl) rfl ⟨_,rfl,rd_nil _ _,bR⟩
set_option maxHeartbeats 3200000 in
theorem dproduct_n1 (cy c:Int) (g:Bool) (t u:Trip) (n wy fam R D L G:Int) (gr:Bool) (gx gy:Bool) (x y:Trip) (xo yo:Option Addr) (xc yc:Nat) (w:World) (hy3:(cy==3)=false)
  (HT: ∀w1,Below w.heap.size w w1→Calls Tryz.prog 126 #[yDV x xo xc,yDV y yo yc] w1 (DRes w1 u))
  (HM: ∀uo uc w1,Rd w1 .u32 (.slice uo (Dg.dg 4294967296 u.n).length uc) (Dg.dg 4294967296 u.n)→Calls Tryz.prog 110 #[yDV u uo uc,.bool (gx != gy)] w1 (OpRes w1 c g t)):
  Calls Tryz.prog 65 #[ykV n wy fam R D L G gr,yOV 1 gx x xo xc,yOV cy gy y yo yc] w (OpRes2 w c g t 0):=by
 replace HT:Hid _:=HT;replace HM:Hid _:=HM;obtain⟨W6,hW7,q1,q2,q3,q4,b5⟩:=ent4 w (ykL n wy fam R D L G gr) 93 (yOL 1 gx x xo xc) 98 (yOL cy gy y yo yc) 98 (yoL 0 false false (.slice none 0 0) 0) 98;replace hW7:Hid _:=hW7;clear q1
 go_enter Tryz.func65,Tryz.ntmps65
 go_upto_region 1 with fail
 rw[hW7.out];clear hW7;obtain⟨c8,c9,c10,c11,c12⟩:=q2.cs5;have c13:=q3.cell 1 rfl
 go_wp2_with fail
 refine(inf_f _ _ _ _ _ _ _ _ rfl).mono ?_;rintro zz w14 ⟨rfl,bb15⟩;have q16:=q2.later bb15;have q17:=q3.later bb15;have q18:=q4.later bb15;have b19:=below_trans b5 bb15;clear q2 q3 q4 b5 bb15 c8 c9 c10 c11 c12 c13;obtain⟨c20,c21,c22,c23,c24⟩:=q16.cs5
 go_wp2_with fail
 refine(zer_t _ _ _ _ _ _ _).mono ?_;rintro zz w25 ⟨rfl,bb26⟩;have q27:=q16.later bb26;have q28:=q17.later bb26;have q29:=q18.later bb26;have b30:=below_trans b19 bb26;clear q16 q17 q18 b19 bb26 c20 c21 c22 c23 c24;obtain⟨c31,c32,c33,c34,c35⟩:=q28.cs5
 go_wp2_with fail
 refine(inf_f _ _ _ _ _ _ _ _ hy3).mono ?_;rintro zz w36 ⟨rfl,bb37⟩;have q38:=q27.later bb37;have q39:=q28.later bb37;have q40:=q29.later bb37;have b41:=below_trans b30 bb37;clear q27 q28 q29 b30 bb37 c31 c32 c33 c34 c35;obtain⟨c42,c43,c44,c45,c46⟩:=q38.cs5
 go_wp2_with fail
 refine(inf_f _ _ _ _ _ _ _ _ rfl).mono ?_;rintro zz w47 ⟨rfl,bb48⟩;have q49:=q38.later bb48;have q50:=q39.later bb48;have q51:=q40.later bb48;have b52:=below_trans b41 bb48;clear q38 q39 q40 b41 bb48 c42 c43 c44 c45 c46;obtain⟨c53,c54,c55,c56,c57⟩:=q50.cs5
 go_wp2_with fail
 refine(inf_f _ _ _ _ _ _ _ _ hy3).mono ?_;rintro zz w58 ⟨rfl,bb59⟩;have q60:=q49.later bb59;have q61:=q50.later bb59;have q62:=q51.later bb59;have b63:=below_trans b52 bb59;clear q49 q50 q51 b52 bb59 c53 c54 c55 c56 c57;have c64:=q60.cell 2 rfl;have c65:=q60.cell 3 rfl;have c66:=q60.cell 4 rfl;have c67:=q61.cell 2 rfl;have c68:=q61.cell 3 rfl;have c69:=q61.cell 4 rfl
 go_wp2_with fail
 refine(HT.out _ b63).mono ?_;rintro zz w70 ⟨v172,rfl,r173,bb71⟩;have q74:=q62.later bb71;have b75:=below_trans b63 bb71;have r76:=r173.rd;obtain⟨uo,uc,hv⟩:=r76.shape;subst hv;clear q60 q61 q62 b63 bb71 r173 HT c64 c65 c66 c67 c68 c69
 go_wp2_with fail
 refine(HM.out _ _ _ r76).mono ?_;rintro zz w77 ⟨v179,rfl,r180,bb78⟩;have q81:=q74.later bb78;have r82:=r76.later bb78;have b83:=below_trans b75 bb78;obtain⟨so,sc,hv⟩:=r180.shape;subst hv;clear q74 r76 b75 bb78 HM;have hf:=fin5 (P:=Tryz.prog) q81 b83 (by omega) Tryz.underlying98 rfl (by kernel_rfl) (yi c) (.bool g) (.bool t.s) (.slice so (Dg.dg 4294967296 t.n).length sc) (yi t.e);have HH:Hid (_∧_∧_):=⟨hf.1,hf.2.2.rd r180 (rd_offU r180 q81 (by simp)),hf.2.1⟩;obtain⟨⟨z0,z1,z2,z3,z4⟩,y0,y1,y2,y3,y4⟩:=csf5 q81;clear hf q81 r82 r180 b83
 go_wp2
 obtain⟨hl,rRs,bR⟩:=HH.out;exact bodyPost_ret (results_two Tryz.results65 rfl rfl hl) rfl ⟨_,rfl,rRs,bR⟩
set_option maxHeartbeats 3200000 in
theorem dproduct_num (cx cy c:Int) (g:Bool) (t u:Trip) (n wy fam R D L G:Int) (gr:Bool) (gx gy:Bool) (x y:Trip) (xo yo:Option Addr) (xc yc:Nat) (w:World) (hx3:(cx==3)=false) (hx1:(cx==1)=false) (hy3:(cy==3)=false)
  (HT: ∀w1,Below w.heap.size w w1→Calls Tryz.prog 126 #[yDV x xo xc,yDV y yo yc] w1 (DRes w1 u))
  (HM: ∀uo uc w1,Rd w1 .u32 (.slice uo (Dg.dg 4294967296 u.n).length uc) (Dg.dg 4294967296 u.n)→Calls Tryz.prog 110 #[yDV u uo uc,.bool (gx != gy)] w1 (OpRes w1 c g t)):
  Calls Tryz.prog 65 #[ykV n wy fam R D L G gr,yOV cx gx x xo xc,yOV cy gy y yo yc] w (OpRes2 w c g t 0):=by
 replace HT:Hid _:=HT;replace HM:Hid _:=HM;obtain⟨W6,hW7,q1,q2,q3,q4,b5⟩:=ent4 w (ykL n wy fam R D L G gr) 93 (yOL cx gx x xo xc) 98 (yOL cy gy y yo yc) 98 (yoL 0 false false (.slice none 0 0) 0) 98;replace hW7:Hid _:=hW7;clear q1
 go_enter Tryz.func65,Tryz.ntmps65
 go_upto_region 1 with fail
 rw[hW7.out];clear hW7;obtain⟨c8,c9,c10,c11,c12⟩:=q2.cs5;have c13:=q3.cell 1 rfl
 go_wp2_with fail
 refine(inf_f _ _ _ _ _ _ _ _ hx3).mono ?_;rintro zz w14 ⟨rfl,bb15⟩;have q16:=q2.later bb15;have q17:=q3.later bb15;have q18:=q4.later bb15;have b19:=below_trans b5 bb15;clear q2 q3 q4 b5 bb15 c8 c9 c10 c11 c12 c13;obtain⟨c20,c21,c22,c23,c24⟩:=q16.cs5
 go_wp2_with fail
 refine(zer_f _ _ _ _ _ _ _ _ hx1).mono ?_;rintro zz w25 ⟨rfl,bb26⟩;have q27:=q16.later bb26;have q28:=q17.later bb26;have q29:=q18.later bb26;have b30:=below_trans b19 bb26;clear q16 q17 q18 b19 bb26 c20 c21 c22 c23 c24;obtain⟨c31,c32,c33,c34,c35⟩:=q27.cs5
 go_wp2_with fail
 refine(inf_f _ _ _ _ _ _ _ _ hx3).mono ?_;rintro zz w36 ⟨rfl,bb37⟩;have q38:=q27.later bb37;have q39:=q28.later bb37;have q40:=q29.later bb37;have b41:=below_trans b30 bb37;clear q27 q28 q29 b30 bb37 c31 c32 c33 c34 c35;obtain⟨c42,c43,c44,c45,c46⟩:=q39.cs5
 go_wp2_with fail
 refine(inf_f _ _ _ _ _ _ _ _ hy3).mono ?_;rintro zz w47 ⟨rfl,bb48⟩;have q49:=q38.later bb48;have q50:=q39.later bb48;have q51:=q40.later bb48;have b52:=below_trans b41 bb48;clear q38 q39 q40 b41 bb48 c42 c43 c44 c45 c46;have c53:=q49.cell 2 rfl;have c54:=q49.cell 3 rfl;have c55:=q49.cell 4 rfl;have c56:=q50.cell 2 rfl;have c57:=q50.cell 3 rfl;have c58:=q50.cell 4 rfl
 go_wp2_with fail
 refine(HT.out _ b52).mono ?_;rintro zz w59 ⟨v161,rfl,r162,bb60⟩;have q63:=q51.later bb60;have b64:=below_trans b52 bb60;have r65:=r162.rd;obtain⟨uo,uc,hv⟩:=r65.shape;subst hv;clear q49 q50 q51 b52 bb60 r162 HT c53 c54 c55 c56 c57 c58
 go_wp2_with fail
 refine(HM.out _ _ _ r65).mono ?_;rintro zz w66 ⟨v168,rfl,r169,bb67⟩;have q70:=q63.later bb67;have r71:=r65.later bb67;have b72:=below_trans b64 bb67;obtain⟨so,sc,hv⟩:=r169.shape;subst hv;clear q63 r65 b64 bb67 HM;have hf:=fin5 (P:=Tryz.prog) q70 b72 (by omega) Tryz.underlying98 rfl (by kernel_rfl) (yi c) (.bool g) (.bool t.s) (.slice so (Dg.dg 4294967296 t.n).length sc) (yi t.e);have HH:Hid (_∧_∧_):=⟨hf.1,hf.2.2.rd r169 (rd_offU r169 q70 (by simp)),hf.2.1⟩;obtain⟨⟨z0,z1,z2,z3,z4⟩,y0,y1,y2,y3,y4⟩:=csf5 q70;clear hf q70 r71 r169 b72
 go_wp2
 obtain⟨hl,rRs,bR⟩:=HH.out;exact bodyPost_ret (results_two Tryz.results65 rfl rfl hl) rfl ⟨_,rfl,rRs,bR⟩
set_option maxHeartbeats 3200000 in
theorem dquotient_33 (c:Int) (n wy fam R D L G:Int) (gr:Bool) (gx gy:Bool) (x y:Trip) (xo yo:Option Addr) (xc yc:Nat) (w:World)
  (HN: ∀w1,Calls Tryz.prog 108 #[ykV n wy fam R D L G gr,yi 16] w1 fun z w'=>z= .returned (.tuple #[yoV c false false (.slice none 0 0) 0,yi 16])∧Below w1.heap.size w1 w'):
  Calls Tryz.prog 69 #[ykV n wy fam R D L G gr,yOV 3 gx x xo xc,yOV 3 gy y yo yc] w (OpRes2 w c false ⟨false,0,0⟩ 16):=by
 replace HN:Hid _:=HN;obtain⟨W6,hW7,q1,q2,q3,q4,b5⟩:=ent4 w (ykL n wy fam R D L G gr) 93 (yOL 3 gx x xo xc) 98 (yOL 3 gy y yo yc) 98 (yoL 0 false false (.slice none 0 0) 0) 98;replace hW7:Hid _:=hW7
 go_enter Tryz.func69,Tryz.ntmps69
 go_upto_region 1 with fail
 rw[hW7.out];clear hW7;obtain⟨c8,c9,c10,c11,c12⟩:=q2.cs5;have c13:=q3.cell 1 rfl
 go_wp2_with fail
 refine(inf_t _ _ _ _ _ _ _).mono ?_;rintro zz w14 ⟨rfl,bb15⟩;have q16:=q1.later bb15;have q17:=q3.later bb15;have q18:=q4.later bb15;have b19:=below_trans b5 bb15;clear q1 q2 q3 q4 b5 bb15 c8 c9 c10 c11 c12 c13;obtain⟨c20,c21,c22,c23,c24⟩:=q17.cs5
 go_wp2_with fail
 refine(inf_t _ _ _ _ _ _ _).mono ?_;rintro zz w25 ⟨rfl,bb26⟩;have q27:=q16.later bb26;have q28:=q18.later bb26;have b29:=below_trans b19 bb26;clear q16 q17 q18 b19 bb26 c20 c21 c22 c23 c24;obtain⟨c30,c31,c32,c33,c34,c35,c36,c37⟩:=q27.cs8
 go_wp2_with fail
 refine(HN.out _).mono ?_;rintro zz w38 ⟨rfl,bb39⟩;have q40:=q28.later bb39;have b41:=below_trans b29 bb39;clear q27 q28 b29 bb39 HN c30 c31 c32 c33 c34 c35 c36 c37;have hf:=fin5 (P:=Tryz.prog) q40 b41 (by omega) Tryz.underlying98 rfl (by kernel_rfl) (yi c) (.bool false) (.bool false) (.slice none 0 0) (yi 0);have HH:Hid (_∧_):=⟨hf.1,hf.2.1⟩;obtain⟨⟨z0,z1,z2,z3,z4⟩,y0,y1,y2,y3,y4⟩:=csf5 q40;clear hf q40 b41
 go_wp2
 obtain⟨hl,bR⟩:=HH.out;exact bodyPost_ret (results_two Tryz.results69 rfl rfl hl) rfl ⟨_,rfl,rd_nil _ _,bR⟩
set_option maxHeartbeats 3200000 in
theorem dquotient_11 (c:Int) (n wy fam R D L G:Int) (gr:Bool) (gx gy:Bool) (x y:Trip) (xo yo:Option Addr) (xc yc:Nat) (w:World)
  (HN: ∀w1,Calls Tryz.prog 108 #[ykV n wy fam R D L G gr,yi 16] w1 fun z w'=>z= .returned (.tuple #[yoV c false false (.slice none 0 0) 0,yi 16])∧Below w1.heap.size w1 w'):
  Calls Tryz.prog 69 #[ykV n wy fam R D L G gr,yOV 1 gx x xo xc,yOV 1 gy y yo yc] w (OpRes2 w c false ⟨false,0,0⟩ 16):=by
 replace HN:Hid _:=HN;obtain⟨W6,hW7,q1,q2,q3,q4,b5⟩:=ent4 w (ykL n wy fam R D L G gr) 93 (yOL 1 gx x xo xc) 98 (yOL 1 gy y yo yc) 98 (yoL 0 false false (.slice none 0 0) 0) 98;replace hW7:Hid _:=hW7
 go_enter Tryz.func69,Tryz.ntmps69
 go_upto_region 1 with fail
 rw[hW7.out];clear hW7;obtain⟨c8,c9,c10,c11,c12⟩:=q2.cs5;have c13:=q3.cell 1 rfl
 go_wp2_with fail
 refine(inf_f _ _ _ _ _ _ _ _ rfl).mono ?_;rintro zz w14 ⟨rfl,bb15⟩;have q16:=q1.later bb15;have q17:=q2.later bb15;have q18:=q3.later bb15;have q19:=q4.later bb15;have b20:=below_trans b5 bb15;clear q1 q2 q3 q4 b5 bb15 c8 c9 c10 c11 c12 c13;obtain⟨c21,c22,c23,c24,c25⟩:=q17.cs5
 go_wp2_with fail
 refine(zer_t _ _ _ _ _ _ _).mono ?_;rintro zz w26 ⟨rfl,bb27⟩;have q28:=q16.later bb27;have q29:=q18.later bb27;have q30:=q19.later bb27;have b31:=below_trans b20 bb27;clear q16 q17 q18 q19 b20 bb27 c21 c22 c23 c24 c25;obtain⟨c32,c33,c34,c35,c36⟩:=q29.cs5
 go_wp2_with fail
 refine(zer_t _ _ _ _ _ _ _).mono ?_;rintro zz w37 ⟨rfl,bb38⟩;have q39:=q28.later bb38;have q40:=q30.later bb38;have b41:=below_trans b31 bb38;clear q28 q29 q30 b31 bb38 c32 c33 c34 c35 c36;obtain⟨c42,c43,c44,c45,c46,c47,c48,c49⟩:=q39.cs8
 go_wp2_with fail
 refine(HN.out _).mono ?_;rintro zz w50 ⟨rfl,bb51⟩;have q52:=q40.later bb51;have b53:=below_trans b41 bb51;clear q39 q40 b41 bb51 HN c42 c43 c44 c45 c46 c47 c48 c49;have hf:=fin5 (P:=Tryz.prog) q52 b53 (by omega) Tryz.underlying98 rfl (by kernel_rfl) (yi c) (.bool false) (.bool false) (.slice none 0 0) (yi 0);have HH:Hid (_∧_):=⟨hf.1,hf.2.1⟩;obtain⟨⟨z0,z1,z2,z3,z4⟩,y0,y1,y2,y3,y4⟩:=csf5 q52;clear hf q52 b53
 go_wp2
 obtain⟨hl,bR⟩:=HH.out;exact bodyPost_ret (results_two Tryz.results69 rfl rfl hl) rfl ⟨_,rfl,rd_nil _ _,bR⟩
set_option maxHeartbeats 3200000 in
theorem dquotient_3y (cy:Int) (n wy fam R D L G:Int) (gr:Bool) (gx gy:Bool) (x y:Trip) (xo yo:Option Addr) (xc yc:Nat) (w:World) (hy3:(cy==3)=false):
  Calls Tryz.prog 69 #[ykV n wy fam R D L G gr,yOV 3 gx x xo xc,yOV cy gy y yo yc] w (OpRes2 w 3 (gx != gy) ⟨false,0,0⟩ 0):=by
 obtain⟨W6,hW7,q1,q2,q3,q4,b5⟩:=ent4 w (ykL n wy fam R D L G gr) 93 (yOL 3 gx x xo xc) 98 (yOL cy gy y yo yc) 98 (yoL 0 false false (.slice none 0 0) 0) 98;replace hW7:Hid _:=hW7;clear q1
 go_enter Tryz.func69,Tryz.ntmps69
 go_upto_region 1 with fail
 rw[hW7.out];clear hW7;obtain⟨c8,c9,c10,c11,c12⟩:=q2.cs5;have c13:=q3.cell 1 rfl
 go_wp2_with fail
 refine(inf_t _ _ _ _ _ _ _).mono ?_;rintro zz w14 ⟨rfl,bb15⟩;have q16:=q2.later bb15;have q17:=q3.later bb15;have q18:=q4.later bb15;have b19:=below_trans b5 bb15;clear q2 q3 q4 b5 bb15 c8 c9 c10 c11 c12 c13;obtain⟨c20,c21,c22,c23,c24⟩:=q17.cs5
 go_wp2_with fail
 refine(inf_f _ _ _ _ _ _ _ _ hy3).mono ?_;rintro zz w25 ⟨rfl,bb26⟩;have q27:=q16.later bb26;have q28:=q18.later bb26;have b29:=below_trans b19 bb26;clear q16 q17 q18 b19 bb26 c20 c21 c22 c23 c24;obtain⟨c30,c31,c32,c33,c34⟩:=q27.cs5
 go_wp2_with fail
 refine(zer_f _ _ _ _ _ _ _ _ rfl).mono ?_;rintro zz w35 ⟨rfl,bb36⟩;have q37:=q27.later bb36;have q38:=q28.later bb36;have b39:=below_trans b29 bb36;clear q27 q28 b29 bb36 c30 c31 c32 c33 c34;obtain⟨c40,c41,c42,c43,c44⟩:=q37.cs5
 go_wp2_with fail
 refine(inf_t _ _ _ _ _ _ _).mono ?_;rintro zz w45 ⟨rfl,bb46⟩;have q47:=q38.later bb46;have b48:=below_trans b39 bb46;clear q37 q38 b39 bb46 c40 c41 c42 c43 c44;have hf:=fin5 (P:=Tryz.prog) q47 b48 (by omega) Tryz.underlying98 rfl (by kernel_rfl) (yi 3) (.bool (gx != gy)) (.bool false) (.slice none 0 0) (yi 0);have HH:Hid (_∧_):=⟨hf.1,hf.2.1⟩;obtain⟨⟨z0,z1,z2,z3,z4⟩,y0,y1,y2,y3,y4⟩:=csf5 q47;clear hf q47 b48
 go_wp2
 obtain⟨hl,bR⟩:=HH.out;exact bodyPost_ret (results_two Tryz.results69 rfl rfl hl) rfl ⟨_,rfl,rd_nil _ _,bR⟩
set_option maxHeartbeats 3200000 in
theorem dquotient_13 (n wy fam R D L G:Int) (gr:Bool) (gx gy:Bool) (x y:Trip) (xo yo:Option Addr) (xc yc:Nat) (w:World):
  Calls Tryz.prog 69 #[ykV n wy fam R D L G gr,yOV 1 gx x xo xc,yOV 3 gy y yo yc] w (OpRes2 w 1 (gx != gy) ⟨false,0,0⟩ 0):=by
 obtain⟨W6,hW7,q1,q2,q3,q4,b5⟩:=ent4 w (ykL n wy fam R D L G gr) 93 (yOL 1 gx x xo xc) 98 (yOL 3 gy y yo yc) 98 (yoL 0 false false (.slice none 0 0) 0) 98;replace hW7:Hid _:=hW7;clear q1
 go_enter Tryz.func69,Tryz.ntmps69
 go_upto_region 1 with fail
 rw[hW7.out];clear hW7;obtain⟨c8,c9,c10,c11,c12⟩:=q2.cs5;have c13:=q3.cell 1 rfl
 go_wp2_with fail
 refine(inf_f _ _ _ _ _ _ _ _ rfl).mono ?_;rintro zz w14 ⟨rfl,bb15⟩;have q16:=q2.later bb15;have q17:=q3.later bb15;have q18:=q4.later bb15;have b19:=below_trans b5 bb15;clear q2 q3 q4 b5 bb15 c8 c9 c10 c11 c12 c13;obtain⟨c20,c21,c22,c23,c24⟩:=q16.cs5
 go_wp2_with fail
 refine(zer_t _ _ _ _ _ _ _).mono ?_;rintro zz w25 ⟨rfl,bb26⟩;have q27:=q16.later bb26;have q28:=q17.later bb26;have q29:=q18.later bb26;have b30:=below_trans b19 bb26;clear q16 q17 q18 b19 bb26 c20 c21 c22 c23 c24;obtain⟨c31,c32,c33,c34,c35⟩:=q28.cs5
 go_wp2_with fail
 refine(zer_f _ _ _ _ _ _ _ _ rfl).mono ?_;rintro zz w36 ⟨rfl,bb37⟩;have q38:=q27.later bb37;have q39:=q28.later bb37;have q40:=q29.later bb37;have b41:=below_trans b30 bb37;clear q27 q28 q29 b30 bb37 c31 c32 c33 c34 c35;obtain⟨c42,c43,c44,c45,c46⟩:=q38.cs5
 go_wp2_with fail
 refine(inf_f _ _ _ _ _ _ _ _ rfl).mono ?_;rintro zz w47 ⟨rfl,bb48⟩;have q49:=q39.later bb48;have q50:=q40.later bb48;have b51:=below_trans b41 bb48;clear q38 q39 q40 b41 bb48 c42 c43 c44 c45 c46;obtain⟨c52,c53,c54,c55,c56⟩:=q49.cs5
 go_wp2_with fail
 refine(inf_t _ _ _ _ _ _ _).mono ?_;rintro zz w57 ⟨rfl,bb58⟩;have q59:=q50.later bb58;have b60:=below_trans b51 bb58;clear q49 q50 b51 bb58 c52 c53 c54 c55 c56;have hf:=fin5 (P:=Tryz.prog) q59 b60 (by omega) Tryz.underlying98 rfl (by kernel_rfl) (yi 1) (.bool (gx != gy)) (.bool false) (.slice none 0 0) (yi 0);have HH:Hid (_∧_):=⟨hf.1,hf.2.1⟩;obtain⟨⟨z0,z1,z2,z3,z4⟩,y0,y1,y2,y3,y4⟩:=csf5 q59;clear hf q59 b60
 go_wp2
 obtain⟨hl,bR⟩:=HH.out;exact bodyPost_ret (results_two Tryz.results69 rfl rfl hl) rfl ⟨_,rfl,rd_nil _ _,bR⟩
set_option maxHeartbeats 3200000 in
theorem dquotient_x3 (cx:Int) (n wy fam R D L G:Int) (gr:Bool) (gx gy:Bool) (x y:Trip) (xo yo:Option Addr) (xc yc:Nat) (w:World) (hx3:(cx==3)=false) (hx1:(cx==1)=false):
  Calls Tryz.prog 69 #[ykV n wy fam R D L G gr,yOV cx gx x xo xc,yOV 3 gy y yo yc] w (OpRes2 w 1 (gx != gy) ⟨false,0,0⟩ 0):=by
 obtain⟨W6,hW7,q1,q2,q3,q4,b5⟩:=ent4 w (ykL n wy fam R D L G gr) 93 (yOL cx gx x xo xc) 98 (yOL 3 gy y yo yc) 98 (yoL 0 false false (.slice none 0 0) 0) 98;replace hW7:Hid _:=hW7;clear q1
 go_enter Tryz.func69,Tryz.ntmps69
 go_upto_region 1 with fail
 rw[hW7.out];clear hW7;obtain⟨c8,c9,c10,c11,c12⟩:=q2.cs5;have c13:=q3.cell 1 rfl
 go_wp2_with fail
 refine(inf_f _ _ _ _ _ _ _ _ hx3).mono ?_;rintro zz w14 ⟨rfl,bb15⟩;have q16:=q2.later bb15;have q17:=q3.later bb15;have q18:=q4.later bb15;have b19:=below_trans b5 bb15;clear q2 q3 q4 b5 bb15 c8 c9 c10 c11 c12 c13;obtain⟨c20,c21,c22,c23,c24⟩:=q16.cs5
 go_wp2_with fail
 refine(zer_f _ _ _ _ _ _ _ _ hx1).mono ?_;rintro zz w25 ⟨rfl,bb26⟩;have q27:=q16.later bb26;have q28:=q17.later bb26;have q29:=q18.later bb26;have b30:=below_trans b19 bb26;clear q16 q17 q18 b19 bb26 c20 c21 c22 c23 c24;obtain⟨c31,c32,c33,c34,c35⟩:=q27.cs5
 go_wp2_with fail
 refine(inf_f _ _ _ _ _ _ _ _ hx3).mono ?_;rintro zz w36 ⟨rfl,bb37⟩;have q38:=q28.later bb37;have q39:=q29.later bb37;have b40:=below_trans b30 bb37;clear q27 q28 q29 b30 bb37 c31 c32 c33 c34 c35;obtain⟨c41,c42,c43,c44,c45⟩:=q38.cs5
 go_wp2_with fail
 refine(inf_t _ _ _ _ _ _ _).mono ?_;rintro zz w46 ⟨rfl,bb47⟩;have q48:=q39.later bb47;have b49:=below_trans b40 bb47;clear q38 q39 b40 bb47 c41 c42 c43 c44 c45;have hf:=fin5 (P:=Tryz.prog) q48 b49 (by omega) Tryz.underlying98 rfl (by kernel_rfl) (yi 1) (.bool (gx != gy)) (.bool false) (.slice none 0 0) (yi 0);have HH:Hid (_∧_):=⟨hf.1,hf.2.1⟩;obtain⟨⟨z0,z1,z2,z3,z4⟩,y0,y1,y2,y3,y4⟩:=csf5 q48;clear hf q48 b49
 go_wp2
 obtain⟨hl,bR⟩:=HH.out;exact bodyPost_ret (results_two Tryz.results69 rfl rfl hl) rfl ⟨_,rfl,rd_nil _ _,bR⟩
set_option maxHeartbeats 3200000 in
theorem dquotient_x1 (cx c fl:Int) (g:Bool) (t:Trip) (n wy fam R D L G:Int) (gr:Bool) (gx gy:Bool) (x y:Trip) (xo yo:Option Addr) (xc yc:Nat) (w:World) (hx3:(cx==3)=false) (hx1:(cx==1)=false)
  (HB: ∀w1,Below w.heap.size w w1→Calls Tryz.prog 128 #[ykV n wy fam R D L G gr,.bool (gx != gy)] w1 (OpRes2 w1 c g t fl)):
  Calls Tryz.prog 69 #[ykV n wy fam R D L G gr,yOV cx gx x xo xc,yOV 1 gy y yo yc] w (OpRes2 w c g t fl):=by
 replace HB:Hid _:=HB;obtain⟨W6,hW7,q1,q2,q3,q4,b5⟩:=ent4 w (ykL n wy fam R D L G gr) 93 (yOL cx gx x xo xc) 98 (yOL 1 gy y yo yc) 98 (yoL 0 false false (.slice none 0 0) 0) 98;replace hW7:Hid _:=hW7
 go_enter Tryz.func69,Tryz.ntmps69
 go_upto_region 1 with fail
 rw[hW7.out];clear hW7;obtain⟨c8,c9,c10,c11,c12⟩:=q2.cs5;have c13:=q3.cell 1 rfl
 go_wp2_with fail
 refine(inf_f _ _ _ _ _ _ _ _ hx3).mono ?_;rintro zz w14 ⟨rfl,bb15⟩;have q16:=q1.later bb15;have q17:=q2.later bb15;have q18:=q3.later bb15;have q19:=q4.later bb15;have b20:=below_trans b5 bb15;clear q1 q2 q3 q4 b5 bb15 c8 c9 c10 c11 c12 c13;obtain⟨c21,c22,c23,c24,c25⟩:=q17.cs5
 go_wp2_with fail
 refine(zer_f _ _ _ _ _ _ _ _ hx1).mono ?_;rintro zz w26 ⟨rfl,bb27⟩;have q28:=q16.later bb27;have q29:=q17.later bb27;have q30:=q18.later bb27;have q31:=q19.later bb27;have b32:=below_trans b20 bb27;clear q16 q17 q18 q19 b20 bb27 c21 c22 c23 c24 c25;obtain⟨c33,c34,c35,c36,c37⟩:=q29.cs5
 go_wp2_with fail
 refine(inf_f _ _ _ _ _ _ _ _ hx3).mono ?_;rintro zz w38 ⟨rfl,bb39⟩;have q40:=q28.later bb39;have q41:=q30.later bb39;have q42:=q31.later bb39;have b43:=below_trans b32 bb39;clear q28 q29 q30 q31 b32 bb39 c33 c34 c35 c36 c37;obtain⟨c44,c45,c46,c47,c48⟩:=q41.cs5
 go_wp2_with fail
 refine(inf_f _ _ _ _ _ _ _ _ rfl).mono ?_;rintro zz w49 ⟨rfl,bb50⟩;have q51:=q40.later bb50;have q52:=q41.later bb50;have q53:=q42.later bb50;have b54:=below_trans b43 bb50;clear q40 q41 q42 b43 bb50 c44 c45 c46 c47 c48;obtain⟨c55,c56,c57,c58,c59⟩:=q52.cs5
 go_wp2_with fail
 refine(zer_t _ _ _ _ _ _ _).mono ?_;rintro zz w60 ⟨rfl,bb61⟩;have q62:=q51.later bb61;have q63:=q53.later bb61;have b64:=below_trans b54 bb61;clear q51 q52 q53 b54 bb61 c55 c56 c57 c58 c59;obtain⟨c65,c66,c67,c68,c69,c70,c71,c72⟩:=q62.cs8
 go_wp2_with fail
 refine(HB.out _ b64).mono ?_;rintro zz w73 ⟨v175,rfl,r176,bb74⟩;have q77:=q63.later bb74;have b78:=below_trans b64 bb74;obtain⟨so,sc,hv⟩:=r176.shape;subst hv;clear q62 q63 b64 bb74 HB c65 c66 c67 c68 c69 c70 c71 c72;have hf:=fin5 (P:=Tryz.prog) q77 b78 (by omega) Tryz.underlying98 rfl (by kernel_rfl) (yi c) (.bool g) (.bool t.s) (.slice so (Dg.dg 4294967296 t.n).length sc) (yi t.e);have HH:Hid (_∧_∧_):=⟨hf.1,hf.2.2.rd r176 (rd_offU r176 q77 (by simp)),hf.2.1⟩;obtain⟨⟨z0,z1,z2,z3,z4⟩,y0,y1,y2,y3,y4⟩:=csf5 q77;clear hf q77 r176 b78
 go_wp2
 obtain⟨hl,rRs,bR⟩:=HH.out;exact bodyPost_ret (results_two Tryz.results69 rfl rfl hl) rfl ⟨_,rfl,rRs,bR⟩
set_option maxHeartbeats 3200000 in
theorem dquotient_n1 (cy c:Int) (g:Bool) (t u:Trip) (n wy fam R D L G:Int) (gr:Bool) (gx gy:Bool) (x y:Trip) (xo yo:Option Addr) (xc yc:Nat) (w:World) (hy3:(cy==3)=false) (hy1:(cy==1)=false)
  (HT: ∀w1,Below w.heap.size w w1→Calls Tryz.prog 129 #[yDV x xo xc,yDV y yo yc,yi 128] w1 (DRes w1 u))
  (HM: ∀uo uc w1,Rd w1 .u32 (.slice uo (Dg.dg 4294967296 u.n).length uc) (Dg.dg 4294967296 u.n)→Calls Tryz.prog 110 #[yDV u uo uc,.bool (gx != gy)] w1 (OpRes w1 c g t)):
  Calls Tryz.prog 69 #[ykV n wy fam R D L G gr,yOV 1 gx x xo xc,yOV cy gy y yo yc] w (OpRes2 w c g t 0):=by
 replace HT:Hid _:=HT;replace HM:Hid _:=HM;obtain⟨W6,hW7,q1,q2,q3,q4,b5⟩:=ent4 w (ykL n wy fam R D L G gr) 93 (yOL 1 gx x xo xc) 98 (yOL cy gy y yo yc) 98 (yoL 0 false false (.slice none 0 0) 0) 98;replace hW7:Hid _:=hW7;clear q1
 go_enter Tryz.func69,Tryz.ntmps69
 go_upto_region 1 with fail
 rw[hW7.out];clear hW7;obtain⟨c8,c9,c10,c11,c12⟩:=q2.cs5;have c13:=q3.cell 1 rfl
 go_wp2_with fail
 refine(inf_f _ _ _ _ _ _ _ _ rfl).mono ?_;rintro zz w14 ⟨rfl,bb15⟩;have q16:=q2.later bb15;have q17:=q3.later bb15;have q18:=q4.later bb15;have b19:=below_trans b5 bb15;clear q2 q3 q4 b5 bb15 c8 c9 c10 c11 c12 c13;obtain⟨c20,c21,c22,c23,c24⟩:=q16.cs5
 go_wp2_with fail
 refine(zer_t _ _ _ _ _ _ _).mono ?_;rintro zz w25 ⟨rfl,bb26⟩;have q27:=q16.later bb26;have q28:=q17.later bb26;have q29:=q18.later bb26;have b30:=below_trans b19 bb26;clear q16 q17 q18 b19 bb26 c20 c21 c22 c23 c24;obtain⟨c31,c32,c33,c34,c35⟩:=q28.cs5
 go_wp2_with fail
 refine(zer_f _ _ _ _ _ _ _ _ hy1).mono ?_;rintro zz w36 ⟨rfl,bb37⟩;have q38:=q27.later bb37;have q39:=q28.later bb37;have q40:=q29.later bb37;have b41:=below_trans b30 bb37;clear q27 q28 q29 b30 bb37 c31 c32 c33 c34 c35;obtain⟨c42,c43,c44,c45,c46⟩:=q38.cs5
 go_wp2_with fail
 refine(inf_f _ _ _ _ _ _ _ _ rfl).mono ?_;rintro zz w47 ⟨rfl,bb48⟩;have q49:=q38.later bb48;have q50:=q39.later bb48;have q51:=q40.later bb48;have b52:=below_trans b41 bb48;clear q38 q39 q40 b41 bb48 c42 c43 c44 c45 c46;obtain⟨c53,c54,c55,c56,c57⟩:=q50.cs5
 go_wp2_with fail
 refine(inf_f _ _ _ _ _ _ _ _ hy3).mono ?_;rintro zz w58 ⟨rfl,bb59⟩;have q60:=q49.later bb59;have q61:=q50.later bb59;have q62:=q51.later bb59;have b63:=below_trans b52 bb59;clear q49 q50 q51 b52 bb59 c53 c54 c55 c56 c57;obtain⟨c64,c65,c66,c67,c68⟩:=q61.cs5
 go_wp2_with fail
 refine(zer_f _ _ _ _ _ _ _ _ hy1).mono ?_;rintro zz w69 ⟨rfl,bb70⟩;have q71:=q60.later bb70;have q72:=q61.later bb70;have q73:=q62.later bb70;have b74:=below_trans b63 bb70;clear q60 q61 q62 b63 bb70 c64 c65 c66 c67 c68;have c75:=q71.cell 2 rfl;have c76:=q71.cell 3 rfl;have c77:=q71.cell 4 rfl;have c78:=q72.cell 2 rfl;have c79:=q72.cell 3 rfl;have c80:=q72.cell 4 rfl
 go_wp2_with fail
 refine(HT.out _ b74).mono ?_;rintro zz w81 ⟨v183,rfl,r184,bb82⟩;have q85:=q73.later bb82;have b86:=below_trans b74 bb82;have r87:=r184.rd;obtain⟨uo,uc,hv⟩:=r87.shape;subst hv;clear q71 q72 q73 b74 bb82 r184 HT c75 c76 c77 c78 c79 c80
 go_wp2_with fail
 refine(HM.out _ _ _ r87).mono ?_;rintro zz w88 ⟨v190,rfl,r191,bb89⟩;have q92:=q85.later bb89;have r93:=r87.later bb89;have b94:=below_trans b86 bb89;obtain⟨so,sc,hv⟩:=r191.shape;subst hv;clear q85 r87 b86 bb89 HM;have hf:=fin5 (P:=Tryz.prog) q92 b94 (by omega) Tryz.underlying98 rfl (by kernel_rfl) (yi c) (.bool g) (.bool t.s) (.slice so (Dg.dg 4294967296 t.n).length sc) (yi t.e);have HH:Hid (_∧_∧_):=⟨hf.1,hf.2.2.rd r191 (rd_offU r191 q92 (by simp)),hf.2.1⟩;obtain⟨⟨z0,z1,z2,z3,z4⟩,y0,y1,y2,y3,y4⟩:=csf5 q92;clear hf q92 r93 r191 b94
 go_wp2
 obtain⟨hl,rRs,bR⟩:=HH.out;exact bodyPost_ret (results_two Tryz.results69 rfl rfl hl) rfl ⟨_,rfl,rRs,bR⟩
set_option maxHeartbeats 3200000 in
theorem dquotient_num (cx cy c:Int) (g:Bool) (t u:Trip) (n wy fam R D L G:Int) (gr:Bool) (gx gy:Bool) (x y:Trip) (xo yo:Option Addr) (xc yc:Nat) (w:World) (hx3:(cx==3)=false) (hx1:(cx==1)=false) (hy3:(cy==3)=false) (hy1:(cy==1)=false)
  (HT: ∀w1,Below w.heap.size w w1→Calls Tryz.prog 129 #[yDV x xo xc,yDV y yo yc,yi 128] w1 (DRes w1 u))
  (HM: ∀uo uc w1,Rd w1 .u32 (.slice uo (Dg.dg 4294967296 u.n).length uc) (Dg.dg 4294967296 u.n)→Calls Tryz.prog 110 #[yDV u uo uc,.bool (gx != gy)] w1 (OpRes w1 c g t)):
  Calls Tryz.prog 69 #[ykV n wy fam R D L G gr,yOV cx gx x xo xc,yOV cy gy y yo yc] w (OpRes2 w c g t 0):=by
 replace HT:Hid _:=HT;replace HM:Hid _:=HM;obtain⟨W6,hW7,q1,q2,q3,q4,b5⟩:=ent4 w (ykL n wy fam R D L G gr) 93 (yOL cx gx x xo xc) 98 (yOL cy gy y yo yc) 98 (yoL 0 false false (.slice none 0 0) 0) 98;replace hW7:Hid _:=hW7;clear q1
 go_enter Tryz.func69,Tryz.ntmps69
 go_upto_region 1 with fail
 rw[hW7.out];clear hW7;obtain⟨c8,c9,c10,c11,c12⟩:=q2.cs5;have c13:=q3.cell 1 rfl
 go_wp2_with fail
 refine(inf_f _ _ _ _ _ _ _ _ hx3).mono ?_;rintro zz w14 ⟨rfl,bb15⟩;have q16:=q2.later bb15;have q17:=q3.later bb15;have q18:=q4.later bb15;have b19:=below_trans b5 bb15;clear q2 q3 q4 b5 bb15 c8 c9 c10 c11 c12 c13;obtain⟨c20,c21,c22,c23,c24⟩:=q16.cs5
 go_wp2_with fail
 refine(zer_f _ _ _ _ _ _ _ _ hx1).mono ?_;rintro zz w25 ⟨rfl,bb26⟩;have q27:=q16.later bb26;have q28:=q17.later bb26;have q29:=q18.later bb26;have b30:=below_trans b19 bb26;clear q16 q17 q18 b19 bb26 c20 c21 c22 c23 c24;obtain⟨c31,c32,c33,c34,c35⟩:=q27.cs5
 go_wp2_with fail
 refine(inf_f _ _ _ _ _ _ _ _ hx3).mono ?_;rintro zz w36 ⟨rfl,bb37⟩;have q38:=q27.later bb37;have q39:=q28.later bb37;have q40:=q29.later bb37;have b41:=below_trans b30 bb37;clear q27 q28 q29 b30 bb37 c31 c32 c33 c34 c35;obtain⟨c42,c43,c44,c45,c46⟩:=q39.cs5
 go_wp2_with fail
 refine(inf_f _ _ _ _ _ _ _ _ hy3).mono ?_;rintro zz w47 ⟨rfl,bb48⟩;have q49:=q38.later bb48;have q50:=q39.later bb48;have q51:=q40.later bb48;have b52:=below_trans b41 bb48;clear q38 q39 q40 b41 bb48 c42 c43 c44 c45 c46;obtain⟨c53,c54,c55,c56,c57⟩:=q50.cs5
 go_wp2_with fail
 refine(zer_f _ _ _ _ _ _ _ _ hy1).mono ?_;rintro zz w58 ⟨rfl,bb59⟩;have q60:=q49.later bb59;have q61:=q50.later bb59;have q62:=q51.later bb59;have b63:=below_trans b52 bb59;clear q49 q50 q51 b52 bb59 c53 c54 c55 c56 c57;have c64:=q60.cell 2 rfl;have c65:=q60.cell 3 rfl;have c66:=q60.cell 4 rfl;have c67:=q61.cell 2 rfl;have c68:=q61.cell 3 rfl;have c69:=q61.cell 4 rfl
 go_wp2_with fail
 refine(HT.out _ b63).mono ?_;rintro zz w70 ⟨v172,rfl,r173,bb71⟩;have q74:=q62.later bb71;have b75:=below_trans b63 bb71;have r76:=r173.rd;obtain⟨uo,uc,hv⟩:=r76.shape;subst hv;clear q60 q61 q62 b63 bb71 r173 HT c64 c65 c66 c67 c68 c69
 go_wp2_with fail
 refine(HM.out _ _ _ r76).mono ?_;rintro zz w77 ⟨v179,rfl,r180,bb78⟩;have q81:=q74.later bb78;have r82:=r76.later bb78;have b83:=below_trans b75 bb78;obtain⟨so,sc,hv⟩:=r180.shape;subst hv;clear q74 r76 b75 bb78 HM;have hf:=fin5 (P:=Tryz.prog) q81 b83 (by omega) Tryz.underlying98 rfl (by kernel_rfl) (yi c) (.bool g) (.bool t.s) (.slice so (Dg.dg 4294967296 t.n).length sc) (yi t.e);have HH:Hid (_∧_∧_):=⟨hf.1,hf.2.2.rd r180 (rd_offU r180 q81 (by simp)),hf.2.1⟩;obtain⟨⟨z0,z1,z2,z3,z4⟩,y0,y1,y2,y3,y4⟩:=csf5 q81;clear hf q81 r82 r180 b83
 go_wp2
 obtain⟨hl,rRs,bR⟩:=HH.out;exact bodyPost_ret (results_two Tryz.results69 rfl rfl hl) rfl ⟨_,rfl,rRs,bR⟩
set_option maxHeartbeats 3200000 in
theorem dsum_no_tf (c:Int) (n wy fam R D L G:Int) (gr:Bool) (x y:Trip) (xo yo:Option Addr) (xc yc:Nat) (w:World)
  (HN: ∀w1,Calls Tryz.prog 108 #[ykV n wy fam R D L G gr,yi 16] w1 fun z w'=>z= .returned (.tuple #[yoV c false false (.slice none 0 0) 0,yi 16])∧Below w1.heap.size w1 w'):
  Calls Tryz.prog 55 #[ykV n wy fam R D L G gr,yOV 3 true x xo xc,yOV 3 false y yo yc] w (OpRes2 w c false ⟨false,0,0⟩ 16):=by
 replace HN:Hid _:=HN;obtain⟨W6,hW7,q1,q2,q3,q4,b5⟩:=ent4 w (ykL n wy fam R D L G gr) 93 (yOL 3 true x xo xc) 98 (yOL 3 false y yo yc) 98 (yoL 0 false false (.slice none 0 0) 0) 98;replace hW7:Hid _:=hW7
 go_enter Tryz.func55,Tryz.ntmps55
 go_upto_region 1 with fail
 rw[hW7.out];clear hW7;obtain⟨c8,c9,c10,c11,c12⟩:=q2.cs5
 go_wp2_with fail
 refine(inf_t _ _ _ _ _ _ _).mono ?_;rintro zz w13 ⟨rfl,bb14⟩;have q15:=q1.later bb14;have q16:=q2.later bb14;have q17:=q3.later bb14;have q18:=q4.later bb14;have b19:=below_trans b5 bb14;clear q1 q2 q3 q4 b5 bb14 c8 c9 c10 c11 c12;obtain⟨c20,c21,c22,c23,c24⟩:=q17.cs5
 go_wp2_with fail
 refine(inf_t _ _ _ _ _ _ _).mono ?_;rintro zz w25 ⟨rfl,bb26⟩;have q27:=q15.later bb26;have q28:=q16.later bb26;have q29:=q17.later bb26;have q30:=q18.later bb26;have b31:=below_trans b19 bb26;clear q15 q16 q17 q18 b19 bb26 c20 c21 c22 c23 c24;obtain⟨c32,c33,c34,c35,c36,c37,c38,c39⟩:=q27.cs8;have c40:=q28.cell 1 rfl;have c41:=q29.cell 1 rfl
 go_wp2_with fail
 refine(HN.out _).mono ?_;rintro zz w42 ⟨rfl,bb43⟩;have q44:=q30.later bb43;have b45:=below_trans b31 bb43;clear q27 q28 q29 q30 b31 bb43 HN c32 c33 c34 c35 c36 c37 c38 c39 c40 c41;have hf:=fin5 (P:=Tryz.prog) q44 b45 (by omega) Tryz.underlying98 rfl (by kernel_rfl) (yi c) (.bool false) (.bool false) (.slice none 0 0) (yi 0);have HH:Hid (_∧_):=⟨hf.1,hf.2.1⟩;obtain⟨⟨z0,z1,z2,z3,z4⟩,y0,y1,y2,y3,y4⟩:=csf5 q44;clear hf q44 b45
 go_wp2
 obtain⟨hl,bR⟩:=HH.out;exact bodyPost_ret (results_two Tryz.results55 rfl rfl hl) rfl ⟨_,rfl,rd_nil _ _,bR⟩
set_option maxHeartbeats 3200000 in
theorem dsum_no_ft (c:Int) (n wy fam R D L G:Int) (gr:Bool) (x y:Trip) (xo yo:Option Addr) (xc yc:Nat) (w:World)
  (HN: ∀w1,Calls Tryz.prog 108 #[ykV n wy fam R D L G gr,yi 16] w1 fun z w'=>z= .returned (.tuple #[yoV c false false (.slice none 0 0) 0,yi 16])∧Below w1.heap.size w1 w'):
  Calls Tryz.prog 55 #[ykV n wy fam R D L G gr,yOV 3 false x xo xc,yOV 3 true y yo yc] w (OpRes2 w c false ⟨false,0,0⟩ 16):=by
 replace HN:Hid _:=HN;obtain⟨W6,hW7,q1,q2,q3,q4,b5⟩:=ent4 w (ykL n wy fam R D L G gr) 93 (yOL 3 false x xo xc) 98 (yOL 3 true y yo yc) 98 (yoL 0 false false (.slice none 0 0) 0) 98;replace hW7:Hid _:=hW7
 go_enter Tryz.func55,Tryz.ntmps55
 go_upto_region 1 with fail
 rw[hW7.out];clear hW7;obtain⟨c8,c9,c10,c11,c12⟩:=q2.cs5
 go_wp2_with fail
 refine(inf_t _ _ _ _ _ _ _).mono ?_;rintro zz w13 ⟨rfl,bb14⟩;have q15:=q1.later bb14;have q16:=q2.later bb14;have q17:=q3.later bb14;have q18:=q4.later bb14;have b19:=below_trans b5 bb14;clear q1 q2 q3 q4 b5 bb14 c8 c9 c10 c11 c12;obtain⟨c20,c21,c22,c23,c24⟩:=q17.cs5
 go_wp2_with fail
 refine(inf_t _ _ _ _ _ _ _).mono ?_;rintro zz w25 ⟨rfl,bb26⟩;have q27:=q15.later bb26;have q28:=q16.later bb26;have q29:=q17.later bb26;have q30:=q18.later bb26;have b31:=below_trans b19 bb26;clear q15 q16 q17 q18 b19 bb26 c20 c21 c22 c23 c24;obtain⟨c32,c33,c34,c35,c36,c37,c38,c39⟩:=q27.cs8;have c40:=q28.cell 1 rfl;have c41:=q29.cell 1 rfl
 go_wp2_with fail
 refine(HN.out _).mono ?_;rintro zz w42 ⟨rfl,bb43⟩;have q44:=q30.later bb43;have b45:=below_trans b31 bb43;clear q27 q28 q29 q30 b31 bb43 HN c32 c33 c34 c35 c36 c37 c38 c39 c40 c41;have hf:=fin5 (P:=Tryz.prog) q44 b45 (by omega) Tryz.underlying98 rfl (by kernel_rfl) (yi c) (.bool false) (.bool false) (.slice none 0 0) (yi 0);have HH:Hid (_∧_):=⟨hf.1,hf.2.1⟩;obtain⟨⟨z0,z1,z2,z3,z4⟩,y0,y1,y2,y3,y4⟩:=csf5 q44;clear hf q44 b45
 go_wp2
 obtain⟨hl,bR⟩:=HH.out;exact bodyPost_ret (results_two Tryz.results55 rfl rfl hl) rfl ⟨_,rfl,rd_nil _ _,bR⟩
set_option maxHeartbeats 3200000 in
theorem dsum_xx (n wy fam R D L G:Int) (gr:Bool) (gx:Bool) (x y:Trip) (xo yo:Option Addr) (xc yc:Nat) (w:World) (rx:Rd w .u32 (.slice xo (Dg.dg 4294967296 x.n).length xc) (Dg.dg 4294967296 x.n)):
  Calls Tryz.prog 55 #[ykV n wy fam R D L G gr,yOV 3 gx x xo xc,yOV 3 gx y yo yc] w (OpRes2 w 3 gx x 0):=by
 obtain⟨W6,hW7,q1,q2,q3,q4,b5⟩:=ent4 w (ykL n wy fam R D L G gr) 93 (yOL 3 gx x xo xc) 98 (yOL 3 gx y yo yc) 98 (yoL 0 false false (.slice none 0 0) 0) 98;replace hW7:Hid _:=hW7;have r8:=rx.later b5;clear q1 rx
 go_enter Tryz.func55,Tryz.ntmps55
 go_upto_region 1 with fail
 rw[hW7.out];clear hW7;obtain⟨c9,c10,c11,c12,c13⟩:=q2.cs5
 go_wp2_with fail
 refine(inf_t _ _ _ _ _ _ _).mono ?_;rintro zz w14 ⟨rfl,bb15⟩;have q16:=q2.later bb15;have q17:=q3.later bb15;have q18:=q4.later bb15;have r19:=r8.later bb15;have b20:=below_trans b5 bb15;clear q2 q3 q4 r8 b5 bb15 c9 c10 c11 c12 c13;obtain⟨c21,c22,c23,c24,c25⟩:=q17.cs5
 go_wp2_with fail
 refine(inf_t _ _ _ _ _ _ _).mono ?_;rintro zz w26 ⟨rfl,bb27⟩;have q28:=q16.later bb27;have q29:=q17.later bb27;have q30:=q18.later bb27;have r31:=r19.later bb27;have b32:=below_trans b20 bb27;clear q16 q17 q18 r19 b20 bb27 c21 c22 c23 c24 c25;obtain⟨c33,c34,c35,c36,c37⟩:=q28.cs5;have c38:=q29.cell 1 rfl
 go_wp2_with fail
 refine(inf_t _ _ _ _ _ _ _).mono ?_;rintro zz w39 ⟨rfl,bb40⟩;have q41:=q28.later bb40;have q42:=q30.later bb40;have r43:=r31.later bb40;have b44:=below_trans b32 bb40;clear q28 q29 q30 r31 b32 bb40 c33 c34 c35 c36 c37 c38;obtain⟨c45,c46,c47,c48,c49⟩:=q41.cs5;have hf:=fin5 (P:=Tryz.prog) q42 b44 (by omega) Tryz.underlying98 rfl (by kernel_rfl) (yi 3) (.bool gx) (.bool x.s) (.slice xo (Dg.dg 4294967296 x.n).length xc) (yi x.e);have HH:Hid (_∧_∧_):=⟨hf.1,hf.2.2.rd r43 (rd_offU r43 q42 (by simp)),hf.2.1⟩;obtain⟨⟨z0,z1,z2,z3,z4⟩,y0,y1,y2,y3,y4⟩:=csf5 q42;clear hf q41 q42 r43 b44
 go_wp2
 obtain⟨hl,rRx,bR⟩:=HH.out;exact bodyPost_ret (results_two Tryz.results55 rfl rfl hl) rfl ⟨_,rfl,rRx,bR⟩
set_option maxHeartbeats 3200000 in
theorem dsum_x (cy:Int) (n wy fam R D L G:Int) (gr:Bool) (gx gy:Bool) (x y:Trip) (xo yo:Option Addr) (xc yc:Nat) (w:World) (hy3:(cy==3)=false) (rx:Rd w .u32 (.slice xo (Dg.dg 4294967296 x.n).length xc) (Dg.dg 4294967296 x.n)):
  Calls Tryz.prog 55 #[ykV n wy fam R D L G gr,yOV 3 gx x xo xc,yOV cy gy y yo yc] w (OpRes2 w 3 gx x 0):=by
 obtain⟨W6,hW7,q1,q2,q3,q4,b5⟩:=ent4 w (ykL n wy fam R D L G gr) 93 (yOL 3 gx x xo xc) 98 (yOL cy gy y yo yc) 98 (yoL 0 false false (.slice none 0 0) 0) 98;replace hW7:Hid _:=hW7;have r8:=rx.later b5;clear q1 rx
 go_enter Tryz.func55,Tryz.ntmps55
 go_upto_region 1 with fail
 rw[hW7.out];clear hW7;obtain⟨c9,c10,c11,c12,c13⟩:=q2.cs5
 go_wp2_with fail
 refine(inf_t _ _ _ _ _ _ _).mono ?_;rintro zz w14 ⟨rfl,bb15⟩;have q16:=q2.later bb15;have q17:=q3.later bb15;have q18:=q4.later bb15;have r19:=r8.later bb15;have b20:=below_trans b5 bb15;clear q2 q3 q4 r8 b5 bb15 c9 c10 c11 c12 c13;obtain⟨c21,c22,c23,c24,c25⟩:=q17.cs5
 go_wp2_with fail
 refine(inf_f _ _ _ _ _ _ _ _ hy3).mono ?_;rintro zz w26 ⟨rfl,bb27⟩;have q28:=q16.later bb27;have q29:=q18.later bb27;have r30:=r19.later bb27;have b31:=below_trans b20 bb27;clear q16 q17 q18 r19 b20 bb27 c21 c22 c23 c24 c25;obtain⟨c32,c33,c34,c35,c36⟩:=q28.cs5
 go_wp2_with fail
 refine(inf_t _ _ _ _ _ _ _).mono ?_;rintro zz w37 ⟨rfl,bb38⟩;have q39:=q28.later bb38;have q40:=q29.later bb38;have r41:=r30.later bb38;have b42:=below_trans b31 bb38;clear q28 q29 r30 b31 bb38 c32 c33 c34 c35 c36;obtain⟨c43,c44,c45,c46,c47⟩:=q39.cs5;have hf:=fin5 (P:=Tryz.prog) q40 b42 (by omega) Tryz.underlying98 rfl (by kernel_rfl) (yi 3) (.bool gx) (.bool x.s) (.slice xo (Dg.dg 4294967296 x.n).length xc) (yi x.e);have HH:Hid (_∧_∧_):=⟨hf.1,hf.2.2.rd r41 (rd_offU r41 q40 (by simp)),hf.2.1⟩;obtain⟨⟨z0,z1,z2,z3,z4⟩,y0,y1,y2,y3,y4⟩:=csf5 q40;clear hf q39 q40 r41 b42
 go_wp2
 obtain⟨hl,rRx,bR⟩:=HH.out;exact bodyPost_ret (results_two Tryz.results55 rfl rfl hl) rfl ⟨_,rfl,rRx,bR⟩
set_option maxHeartbeats 3200000 in
theorem dsum_y (cx:Int) (n wy fam R D L G:Int) (gr:Bool) (gx gy:Bool) (x y:Trip) (xo yo:Option Addr) (xc yc:Nat) (w:World) (hx3:(cx==3)=false) (ry:Rd w .u32 (.slice yo (Dg.dg 4294967296 y.n).length yc) (Dg.dg 4294967296 y.n)):
  Calls Tryz.prog 55 #[ykV n wy fam R D L G gr,yOV cx gx x xo xc,yOV 3 gy y yo yc] w (OpRes2 w 3 gy y 0):=by
 obtain⟨W6,hW7,q1,q2,q3,q4,b5⟩:=ent4 w (ykL n wy fam R D L G gr) 93 (yOL cx gx x xo xc) 98 (yOL 3 gy y yo yc) 98 (yoL 0 false false (.slice none 0 0) 0) 98;replace hW7:Hid _:=hW7;have r8:=ry.later b5;clear q1 ry
 go_enter Tryz.func55,Tryz.ntmps55
 go_upto_region 1 with fail
 rw[hW7.out];clear hW7;obtain⟨c9,c10,c11,c12,c13⟩:=q2.cs5
 go_wp2_with fail
 refine(inf_f _ _ _ _ _ _ _ _ hx3).mono ?_;rintro zz w14 ⟨rfl,bb15⟩;have q16:=q2.later bb15;have q17:=q3.later bb15;have q18:=q4.later bb15;have r19:=r8.later bb15;have b20:=below_trans b5 bb15;clear q2 q3 q4 r8 b5 bb15 c9 c10 c11 c12 c13;obtain⟨c21,c22,c23,c24,c25⟩:=q16.cs5
 go_wp2_with fail
 refine(inf_f _ _ _ _ _ _ _ _ hx3).mono ?_;rintro zz w26 ⟨rfl,bb27⟩;have q28:=q17.later bb27;have q29:=q18.later bb27;have r30:=r19.later bb27;have b31:=below_trans b20 bb27;clear q16 q17 q18 r19 b20 bb27 c21 c22 c23 c24 c25;obtain⟨c32,c33,c34,c35,c36⟩:=q28.cs5
 go_wp2_with fail
 refine(inf_t _ _ _ _ _ _ _).mono ?_;rintro zz w37 ⟨rfl,bb38⟩;have q39:=q28.later bb38;have q40:=q29.later bb38;have r41:=r30.later bb38;have b42:=below_trans b31 bb38;clear q28 q29 r30 b31 bb38 c32 c33 c34 c35 c36;obtain⟨c43,c44,c45,c46,c47⟩:=q39.cs5;have hf:=fin5 (P:=Tryz.prog) q40 b42 (by omega) Tryz.underlying98 rfl (by kernel_rfl) (yi 3) (.bool gy) (.bool y.s) (.slice yo (Dg.dg 4294967296 y.n).length yc) (yi y.e);have HH:Hid (_∧_∧_):=⟨hf.1,hf.2.2.rd r41 (rd_offU r41 q40 (by simp)),hf.2.1⟩;obtain⟨⟨z0,z1,z2,z3,z4⟩,y0,y1,y2,y3,y4⟩:=csf5 q40;clear hf q39 q40 r41 b42
 go_wp2
 obtain⟨hl,rRy,bR⟩:=HH.out;exact bodyPost_ret (results_two Tryz.results55 rfl rfl hl) rfl ⟨_,rfl,rRy,bR⟩
end Go.Proofs.YtnhackdjplppjaaGreatDoor

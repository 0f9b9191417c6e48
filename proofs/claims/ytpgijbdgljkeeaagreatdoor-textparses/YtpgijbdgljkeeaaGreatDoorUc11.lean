/-
  Texts laid together: Ty8, Ty11, DyCs.
-/
import Derived.Test.YtpgijbdgljkeeaaGreatDoorTie
import Derived.Test.YtpgijbdgljkeeaaGreatDoorCards
import Derived.Test.YtpgijbdgljkeeaaGreatDoorUc10
set_option maxRecDepth 100000
set_option maxHeartbeats 3200000
namespace Go.Proofs.YtpgijbdgljkeeaaGreatDoor
open Go.RowKit
theorem parses_none_e (er:Int)(n f0 f1' f2 R D L G fam wy f1 e1:Int)(gr:Bool)(tx st:ByteArray)(w:World)
  (HA:yH w 13 #[yi n,.string tx,yi wy] (.tuple #[.string st,yi f1,yi e1]))
  (HF:yJ 14 #[yi n] (.tuple #[yhV f0 f1' f2 R D L G gr fam,.bool false]))
  (HQ:yH w 10 #[.string tx] (.tuple #[yrV false yN yN 0,yi er]))
  (HZ:yJ 16 #[yi 1,.bool false] (yoV 1 false false yN 0))
  (HB:yH w 11 #[] (.bool true))
  (HI:yH w 18 #[yi n,.string st,yi f1,yi e1,yi 6,yoV 1 false false yN 0,yi 0] (.bool true)):
  yC 4 #[yi n,.string tx,yi wy] w (yR w (.bool true)):=by
 replace HA:Hid _:=HA;replace HF:Hid _:=HF;replace HQ:Hid _:=HQ;replace HZ:Hid _:=HZ;replace HB:Hid _:=HB;replace HI:Hid _:=HI
 go_enter Tryz.func4,Tryz.ntmps4
 have b0:=Below.refl w.heap.size w
 go_wp2_with fail
 refine(HA.out _ b0).mono ?_;rintro zz w1 ⟨rfl,bb2⟩;have b3:=aa b0 bb2;clear b0 bb2 HA
 go_wp2_with fail
 refine(HF.out _).mono ?_;rintro zz w4 ⟨rfl,bb5⟩;have b6:=aa b3 bb5;clear b3 bb5 HF;obtain⟨W9,hW8,q10,al7⟩:=cA w4 (yhL f0 f1' f2 R D L G gr fam) 42;replace hW8:Hid _:=hW8;have hl11:w.heap.size≤w4.heap.size:=b6.size;have b12:=aa b6 al7;clear b6 al7 q10
 go_upto_region 4 with fail
 rw[hW8.out];clear hW8
 go_wp2_with fail
 refine(HQ.out _ b12).mono ?_;rintro zz w13 ⟨rfl,bb14⟩;have b15:=aa b12 bb14;clear b12 bb14 HQ;obtain⟨W18,hW17,q19,al16⟩:=cA w13 (yrL false yN yN 0) 31;replace hW17:Hid _:=hW17;have hl20:w.heap.size≤w13.heap.size:=b15.size;have b21:=aa b15 al16;clear b15 al16 q19
 go_upto_region 7 with fail
 rw[hW17.out];clear hW17
 go_wp2_with fail
 refine(HZ.out _).mono ?_;rintro zz w22 ⟨rfl,bb23⟩;have b24:=aa b21 bb23;clear b21 bb23 HZ;obtain⟨W27,hW26,q28,al25⟩:=cA w22 (yoL 1 false false yN 0) 49;replace hW26:Hid _:=hW26;have hl29:w.heap.size≤w22.heap.size:=b24.size;have b30:=aa b24 al25;clear b24 al25
 go_upto_region 12 with fail
 rw[hW26.out];clear hW26
 go_wp2_with fail
 refine(HB.out _ b30).mono ?_;rintro zz w31 ⟨rfl,bb32⟩;have q33:=q28.l bb32;have b34:=aa b30 bb32;clear q28 b30 bb32 HB;obtain⟨c35,c36,c37,c38,c39⟩:=q33.cs5
 go_wp2_with fail
 refine(HI.out _ b34).mono ?_;rintro zz w40 ⟨rfl,bb41⟩;have b42:=aa b34 bb41;clear q33 b34 bb41 HI c35 c36 c37 c38 c39
 go_wp2
 go_ret
 exact⟨by simp,b42⟩
theorem parses_none_o (g0:Bool)(N M:Nat)(E:Int)(n f0 f1' f2 R D L G fam wy f1 e1:Int)(gr:Bool)(tx st:ByteArray)(w:World)
  (HA:yH w 13 #[yi n,.string tx,yi wy] (.tuple #[.string st,yi f1,yi e1]))
  (HF:yJ 14 #[yi n] (.tuple #[yhV f0 f1' f2 R D L G gr fam,.bool false]))
  (HQ: ∀w1,yB w w1→yC 10 #[.string tx] w1 (RqE w1 g0 N M E 0))
  (HZ:yJ 16 #[yi 1,.bool false] (yoV 1 false false yN 0))
  (HB:yH w 11 #[] (.bool true))
  (HI:yH w 18 #[yi n,.string st,yi f1,yi e1,yi 6,yoV 1 false false yN 0,yi 0] (.bool true)):
  yC 4 #[yi n,.string tx,yi wy] w (yR w (.bool true)):=by
 replace HA:Hid _:=HA;replace HF:Hid _:=HF;replace HQ:Hid _:=HQ;replace HZ:Hid _:=HZ;replace HB:Hid _:=HB;replace HI:Hid _:=HI
 go_enter Tryz.func4,Tryz.ntmps4
 have b0:=Below.refl w.heap.size w
 go_wp2_with fail
 refine(HA.out _ b0).mono ?_;rintro zz w1 ⟨rfl,bb2⟩;have b3:=aa b0 bb2;clear b0 bb2 HA
 go_wp2_with fail
 refine(HF.out _).mono ?_;rintro zz w4 ⟨rfl,bb5⟩;have b6:=aa b3 bb5;clear b3 bb5 HF;obtain⟨W9,hW8,q10,al7⟩:=cA w4 (yhL f0 f1' f2 R D L G gr fam) 42;replace hW8:Hid _:=hW8;have hl11:w.heap.size≤w4.heap.size:=b6.size;have b12:=aa b6 al7;clear b6 al7 q10
 go_upto_region 4 with fail
 rw[hW8.out];clear hW8
 go_wp2_with fail
 refine(HQ.out _ b12).mono ?_;rintro zz w13 ⟨v1x15,v2x16,rfl,r1x17,r2x18,bb14⟩;have b19:=aa b12 bb14;obtain⟨xo,xc,hv⟩:=r1x17.shape;subst hv;obtain⟨yo,yc,hv⟩:=r2x18.shape;subst hv;clear b12 bb14 HQ;obtain⟨W22,hW21,q23,al20⟩:=cA w13 (yrL g0 (yS xo N xc) (yS yo M yc) E) 31;replace hW21:Hid _:=hW21;have hl24:w.heap.size≤w13.heap.size:=b19.size;have b25:=aa b19 al20;clear r1x17 r2x18 b19 al20 q23
 go_upto_region 7 with fail
 rw[hW21.out];clear hW21
 go_wp2_with fail
 refine(HZ.out _).mono ?_;rintro zz w26 ⟨rfl,bb27⟩;have b28:=aa b25 bb27;clear b25 bb27 HZ;obtain⟨W31,hW30,q32,al29⟩:=cA w26 (yoL 1 false false yN 0) 49;replace hW30:Hid _:=hW30;have hl33:w.heap.size≤w26.heap.size:=b28.size;have b34:=aa b28 al29;clear b28 al29
 go_upto_region 12 with fail
 rw[hW30.out];clear hW30
 go_wp2_with fail
 refine(HB.out _ b34).mono ?_;rintro zz w35 ⟨rfl,bb36⟩;have q37:=q32.l bb36;have b38:=aa b34 bb36;clear q32 b34 bb36 HB;obtain⟨c39,c40,c41,c42,c43⟩:=q37.cs5
 go_wp2_with fail
 refine(HI.out _ b38).mono ?_;rintro zz w44 ⟨rfl,bb45⟩;have b46:=aa b38 bb45;clear q37 b38 bb45 HI c39 c40 c41 c42 c43
 go_wp2
 go_ret
 exact⟨by simp,b46⟩
theorem parses_err (er:Int)(n f0 f1' f2 R D L G fam wy f1 e1:Int)(gr:Bool)(tx st:ByteArray)(w:World)(he:(er==0)=false)
  (HA:yH w 13 #[yi n,.string tx,yi wy] (.tuple #[.string st,yi f1,yi e1]))
  (HF:yJ 14 #[yi n] (.tuple #[yhV f0 f1' f2 R D L G gr fam,.bool true]))
  (HQ:yH w 10 #[.string tx] (.tuple #[yrV false yN yN 0,yi er]))
  (HZ:yJ 16 #[yi 1,.bool false] (yoV 1 false false yN 0))
  (HB:yH w 11 #[] (.bool true))
  (HI:yH w 18 #[yi n,.string st,yi f1,yi e1,yi er,yoV 1 false false yN 0,yi 0] (.bool true)):
  yC 4 #[yi n,.string tx,yi wy] w (yR w (.bool true)):=by
 replace HA:Hid _:=HA;replace HF:Hid _:=HF;replace HQ:Hid _:=HQ;replace HZ:Hid _:=HZ;replace HB:Hid _:=HB;replace HI:Hid _:=HI
 go_enter Tryz.func4,Tryz.ntmps4
 have b0:=Below.refl w.heap.size w
 go_wp2_with fail
 refine(HA.out _ b0).mono ?_;rintro zz w1 ⟨rfl,bb2⟩;have b3:=aa b0 bb2;clear b0 bb2 HA
 go_wp2_with fail
 refine(HF.out _).mono ?_;rintro zz w4 ⟨rfl,bb5⟩;have b6:=aa b3 bb5;clear b3 bb5 HF;obtain⟨W9,hW8,q10,al7⟩:=cA w4 (yhL f0 f1' f2 R D L G gr fam) 42;replace hW8:Hid _:=hW8;have hl11:w.heap.size≤w4.heap.size:=b6.size;have b12:=aa b6 al7;clear b6 al7 q10
 go_upto_region 4 with fail
 rw[hW8.out];clear hW8
 go_wp2_with fail
 refine(HQ.out _ b12).mono ?_;rintro zz w13 ⟨rfl,bb14⟩;have b15:=aa b12 bb14;clear b12 bb14 HQ;obtain⟨W18,hW17,q19,al16⟩:=cA w13 (yrL false yN yN 0) 31;replace hW17:Hid _:=hW17;have hl20:w.heap.size≤w13.heap.size:=b15.size;have b21:=aa b15 al16;clear b15 al16 q19
 go_upto_region 7 with fail
 rw[hW17.out];clear hW17
 go_wp2_with fail
 refine(HZ.out _).mono ?_;rintro zz w22 ⟨rfl,bb23⟩;have b24:=aa b21 bb23;clear b21 bb23 HZ;obtain⟨W27,hW26,q28,al25⟩:=cA w22 (yoL 1 false false yN 0) 49;replace hW26:Hid _:=hW26;have hl29:w.heap.size≤w22.heap.size:=b24.size;have b30:=aa b24 al25;clear b24 al25
 go_upto_region 12 with fail
 rw[hW26.out];clear hW26
 go_wp2_with fail
 refine(HB.out _ b30).mono ?_;rintro zz w31 ⟨rfl,bb32⟩;have q33:=q28.l bb32;have b34:=aa b30 bb32;clear q28 b30 bb32 HB;obtain⟨c35,c36,c37,c38,c39⟩:=q33.cs5
 go_wp2_with fail
 refine(HI.out _ b34).mono ?_;rintro zz w40 ⟨rfl,bb41⟩;have b42:=aa b34 bb41;clear q33 b34 bb41 HI c35 c36 c37 c38 c39
 go_wp2
 go_ret
 exact⟨by simp,b42⟩
theorem parses_way (g0:Bool)(N M:Nat)(E:Int)(n f0 f1' f2 R D L G fam wy f1 e1:Int)(gr:Bool)(tx st:ByteArray)(w:World)
  (HA:yH w 13 #[yi n,.string tx,yi wy] (.tuple #[.string st,yi f1,yi e1]))
  (HF:yJ 14 #[yi n] (.tuple #[yhV f0 f1' f2 R D L G gr fam,.bool true]))
  (HQ: ∀w1,yB w w1→yC 10 #[.string tx] w1 (RqE w1 g0 N M E 0))
  (HY: ∀w1,yC 15 #[yi wy] w1 fun z w'=>z= .returned (.bool false)∧w'=w1)
  (HZ:yJ 16 #[yi 1,.bool false] (yoV 1 false false yN 0))
  (HB:yH w 11 #[] (.bool true))
  (HI:yH w 18 #[yi n,.string st,yi f1,yi e1,yi 6,yoV 1 false false yN 0,yi 0] (.bool true)):
  yC 4 #[yi n,.string tx,yi wy] w (yR w (.bool true)):=by
 replace HA:Hid _:=HA;replace HF:Hid _:=HF;replace HQ:Hid _:=HQ;replace HY:Hid _:=HY;replace HZ:Hid _:=HZ;replace HB:Hid _:=HB;replace HI:Hid _:=HI
 go_enter Tryz.func4,Tryz.ntmps4
 have b0:=Below.refl w.heap.size w
 go_wp2_with fail
 refine(HA.out _ b0).mono ?_;rintro zz w1 ⟨rfl,bb2⟩;have b3:=aa b0 bb2;clear b0 bb2 HA
 go_wp2_with fail
 refine(HF.out _).mono ?_;rintro zz w4 ⟨rfl,bb5⟩;have b6:=aa b3 bb5;clear b3 bb5 HF;obtain⟨W9,hW8,q10,al7⟩:=cA w4 (yhL f0 f1' f2 R D L G gr fam) 42;replace hW8:Hid _:=hW8;have hl11:w.heap.size≤w4.heap.size:=b6.size;have b12:=aa b6 al7;clear b6 al7 q10
 go_upto_region 4 with fail
 rw[hW8.out];clear hW8
 go_wp2_with fail
 refine(HQ.out _ b12).mono ?_;rintro zz w13 ⟨v1x15,v2x16,rfl,r1x17,r2x18,bb14⟩;have b19:=aa b12 bb14;obtain⟨xo,xc,hv⟩:=r1x17.shape;subst hv;obtain⟨yo,yc,hv⟩:=r2x18.shape;subst hv;clear b12 bb14 HQ;obtain⟨W22,hW21,q23,al20⟩:=cA w13 (yrL g0 (yS xo N xc) (yS yo M yc) E) 31;replace hW21:Hid _:=hW21;have hl24:w.heap.size≤w13.heap.size:=b19.size;have b25:=aa b19 al20;clear r1x17 r2x18 b19 al20 q23
 go_upto_region 7 with fail
 rw[hW21.out];clear hW21
 go_wp2_with fail
 refine(HY.out _).mono ?_;rintro zz w26 ⟨rfl,rfl⟩;clear HY
 go_wp2_with fail
 refine(HZ.out _).mono ?_;rintro zz w28 ⟨rfl,bb29⟩;have b30:=aa b25 bb29;clear b25 bb29 HZ;obtain⟨W33,hW32,q34,al31⟩:=cA w28 (yoL 1 false false yN 0) 49;replace hW32:Hid _:=hW32;have hl35:w.heap.size≤w28.heap.size:=b30.size;have b36:=aa b30 al31;clear b30 al31
 go_upto_region 12 with fail
 rw[hW32.out];clear hW32
 go_wp2_with fail
 refine(HB.out _ b36).mono ?_;rintro zz w37 ⟨rfl,bb38⟩;have q39:=q34.l bb38;have b40:=aa b36 bb38;clear q34 b36 bb38 HB;obtain⟨c41,c42,c43,c44,c45⟩:=q39.cs5
 go_wp2_with fail
 refine(HI.out _ b40).mono ?_;rintro zz w46 ⟨rfl,bb47⟩;have b48:=aa b40 bb47;clear q39 b40 bb47 HI c41 c42 c43 c44 c45
 go_wp2
 go_ret
 exact⟨by simp,b48⟩
theorem parses_zero (g0:Bool)(N M:Nat)(E:Int)(n f0 f1' f2 R D L G fam wy f1 e1:Int)(gr:Bool)(tx st:ByteArray)(w:World)(hl: ¬0< (Dg.dg 65536 N).length)
  (HA:yH w 13 #[yi n,.string tx,yi wy] (.tuple #[.string st,yi f1,yi e1]))
  (HF:yJ 14 #[yi n] (.tuple #[yhV f0 f1' f2 R D L G gr fam,.bool true]))
  (HQ: ∀w1,yB w w1→yC 10 #[.string tx] w1 (RqE w1 g0 N M E 0))
  (HY: ∀w1,yC 15 #[yi wy] w1 fun z w'=>z= .returned (.bool true)∧w'=w1)
  (HZ:yJ 16 #[yi 1,.bool false] (yoV 1 false false yN 0))
  (HB:yH w 11 #[] (.bool true))
  (HI:yH w 18 #[yi n,.string st,yi f1,yi e1,yi 0,yoV 1 false false yN 0,yi 0] (.bool true)):
  yC 4 #[yi n,.string tx,yi wy] w (yR w (.bool true)):=by
 replace HA:Hid _:=HA;replace HF:Hid _:=HF;replace HQ:Hid _:=HQ;replace HY:Hid _:=HY;replace HZ:Hid _:=HZ;replace HB:Hid _:=HB;replace HI:Hid _:=HI
 go_enter Tryz.func4,Tryz.ntmps4
 have b0:=Below.refl w.heap.size w
 go_wp2_with fail
 refine(HA.out _ b0).mono ?_;rintro zz w1 ⟨rfl,bb2⟩;have b3:=aa b0 bb2;clear b0 bb2 HA
 go_wp2_with fail
 refine(HF.out _).mono ?_;rintro zz w4 ⟨rfl,bb5⟩;have b6:=aa b3 bb5;clear b3 bb5 HF;obtain⟨W9,hW8,q10,al7⟩:=cA w4 (yhL f0 f1' f2 R D L G gr fam) 42;replace hW8:Hid _:=hW8;have hl11:w.heap.size≤w4.heap.size:=b6.size;have b12:=aa b6 al7;clear b6 al7 q10
 go_upto_region 4 with fail
 rw[hW8.out];clear hW8
 go_wp2_with fail
 refine(HQ.out _ b12).mono ?_;rintro zz w13 ⟨v1x15,v2x16,rfl,r1x17,r2x18,bb14⟩;have b19:=aa b12 bb14;obtain⟨xo,xc,hv⟩:=r1x17.shape;subst hv;obtain⟨yo,yc,hv⟩:=r2x18.shape;subst hv;clear b12 bb14 HQ;obtain⟨W22,hW21,q23,al20⟩:=cA w13 (yrL g0 (yS xo N xc) (yS yo M yc) E) 31;replace hW21:Hid _:=hW21;have hl24:w.heap.size≤w13.heap.size:=b19.size;have b25:=aa b19 al20;clear r1x17 r2x18 b19 al20
 go_upto_region 7 with fail
 rw[hW21.out];clear hW21
 go_wp2_with fail
 refine(HY.out _).mono ?_;rintro zz w26 ⟨rfl,rfl⟩;clear HY
 go_wp2_with fail
 refine(HZ.out _).mono ?_;rintro zz w28 ⟨rfl,bb29⟩;have q30:=q23.l bb29;have b31:=aa b25 bb29;clear q23 b25 bb29 HZ;obtain⟨W34,hW33,q35,al32⟩:=cA w28 (yoL 1 false false yN 0) 49;replace hW33:Hid _:=hW33;have hl36:w.heap.size≤w28.heap.size:=b31.size;have hl37:=q30.lt;have q38:=q30.l al32;have b39:=aa b31 al32;clear q30 b31 al32
 go_upto_region 12 with fail
 rw[hW33.out];clear hW33;have c40:=q38.c 1 rfl
 go_wp2_with fail
 refine(HB.out _ b39).mono ?_;rintro zz w41 ⟨rfl,bb42⟩;have q43:=q35.l bb42;have b44:=aa b39 bb42;clear q38 q35 b39 bb42 HB c40;obtain⟨c45,c46,c47,c48,c49⟩:=q43.cs5
 go_wp2_with fail
 refine(HI.out _ b44).mono ?_;rintro zz w50 ⟨rfl,bb51⟩;have b52:=aa b44 bb51;clear q43 b44 bb51 HI c45 c46 c47 c48 c49
 go_wp2
 go_ret
 exact⟨by simp,b52⟩
theorem parses_num (c fl:Int)(g:Bool)(t:ak)(g0:Bool)(N M:Nat)(E:Int)(n f0 f1' f2 R D L G fam wy f1 e1:Int)(gr:Bool)(tx st:ByteArray)(w:World)(hl:0< (Dg.dg 65536 N).length)
  (HA:yH w 13 #[yi n,.string tx,yi wy] (.tuple #[.string st,yi f1,yi e1]))
  (HF:yJ 14 #[yi n] (.tuple #[yhV f0 f1' f2 R D L G gr fam,.bool true]))
  (HQ: ∀w1,yB w w1→yC 10 #[.string tx] w1 (RqE w1 g0 N M E 0))
  (HY: ∀w1,yC 15 #[yi wy] w1 fun z w'=>z= .returned (.bool true)∧w'=w1)
  (HZ:yJ 16 #[yi 1,.bool false] (yoV 1 false false yN 0))
  (HT: ∀xo xc yo yc w1,Rd w1 .i64 (yS xo N xc) (Dg.dg 65536 N)→Rd w1 .i64 (yS yo M yc) (Dg.dg 65536 M)→yC 17 #[yi n,yrV g0 (yS xo N xc) (yS yo M yc) E,yi wy] w1 (RVG w1 c g t fl))
  (HB:yH w 11 #[] (.bool true))
  (HI: ∀so sc w1,yB w w1→Rd w1 .i64 (yS so t.n sc) (Dg.dg 65536 t.n)→yC 18 #[yi n,.string st,yi f1,yi e1,yi 0,yEV c g t so sc,yi fl] w1 (yR w1 (.bool true))):
  yC 4 #[yi n,.string tx,yi wy] w (yR w (.bool true)):=by
 replace HA:Hid _:=HA;replace HF:Hid _:=HF;replace HQ:Hid _:=HQ;replace HY:Hid _:=HY;replace HZ:Hid _:=HZ;replace HT:Hid _:=HT;replace HB:Hid _:=HB;replace HI:Hid _:=HI
 go_enter Tryz.func4,Tryz.ntmps4
 have b0:=Below.refl w.heap.size w
 go_wp2_with fail
 refine(HA.out _ b0).mono ?_;rintro zz w1 ⟨rfl,bb2⟩;have b3:=aa b0 bb2;clear b0 bb2 HA
 go_wp2_with fail
 refine(HF.out _).mono ?_;rintro zz w4 ⟨rfl,bb5⟩;have b6:=aa b3 bb5;clear b3 bb5 HF;obtain⟨W9,hW8,q10,al7⟩:=cA w4 (yhL f0 f1' f2 R D L G gr fam) 42;replace hW8:Hid _:=hW8;have hl11:w.heap.size≤w4.heap.size:=b6.size;have b12:=aa b6 al7;clear b6 al7 q10
 go_upto_region 4 with fail
 rw[hW8.out];clear hW8
 go_wp2_with fail
 refine(HQ.out _ b12).mono ?_;rintro zz w13 ⟨v1x15,v2x16,rfl,r1x17,r2x18,bb14⟩;have b19:=aa b12 bb14;obtain⟨xo,xc,hv⟩:=r1x17.shape;subst hv;obtain⟨yo,yc,hv⟩:=r2x18.shape;subst hv;clear b12 bb14 HQ;obtain⟨W22,hW21,q23,al20⟩:=cA w13 (yrL g0 (yS xo N xc) (yS yo M yc) E) 31;replace hW21:Hid _:=hW21;have hl24:w.heap.size≤w13.heap.size:=b19.size;have r25:=r1x17.l al20;have r26:=r2x18.l al20;have b27:=aa b19 al20;clear r1x17 r2x18 b19 al20
 go_upto_region 7 with fail
 rw[hW21.out];clear hW21
 go_wp2_with fail
 refine(HY.out _).mono ?_;rintro zz w28 ⟨rfl,rfl⟩;clear HY
 go_wp2_with fail
 refine(HZ.out _).mono ?_;rintro zz w30 ⟨rfl,bb31⟩;have q32:=q23.l bb31;have r33:=r25.l bb31;have r34:=r26.l bb31;have b35:=aa b27 bb31;clear q23 r25 r26 b27 bb31 HZ;obtain⟨W38,hW37,q39,al36⟩:=cA w30 (yoL 1 false false yN 0) 49;replace hW37:Hid _:=hW37;have hl40:w.heap.size≤w30.heap.size:=b35.size;have hl41:=q32.lt;have q42:=q32.l al36;have r43:=r33.l al36;have r44:=r34.l al36;have b45:=aa b35 al36;clear q32 r33 r34 b35 al36
 go_upto_region 12 with fail
 rw[hW37.out];clear hW37;obtain⟨c46,c47,c48,c49⟩:=q42.cs4;have hft:=q39.lt
 go_wp2_with fail
 refine(HT.out _ _ _ _ _ r43 r44).mono ?_;rintro zz w50 ⟨v1x52,rfl,r1x53,ff1,bb51⟩;have q54:=q39.l bb51;have b55:=aa b45 bb51;obtain⟨so,sc,hv⟩:=r1x53.shape;subst hv;clear q42 q39 r43 r44 b45 bb51 HT c46 c47 c48 c49;have bu:=((((ag w50 w30.heap.size 0 (yi c)).trans (ag _ w30.heap.size 1 (.bool g))).trans (ag _ w30.heap.size 2 (.bool t.s))).trans (ag _ w30.heap.size 3 (yS so t.n sc))).trans (ag _ w30.heap.size 4 (yi t.e));have q56:au (((((w50.setCell ⟨w30.heap.size,0,none⟩ (yi c)).setCell ⟨w30.heap.size,1,none⟩ (.bool g)).setCell ⟨w30.heap.size,2,none⟩ (.bool t.s)).setCell ⟨w30.heap.size,3,none⟩ (yS so t.n sc)).setCell ⟨w30.heap.size,4,none⟩ (yi t.e)) w30.heap.size 49 (yEL c g t so sc):=(((((q54.set 0 (yi c)).set 1 (.bool g)).set 2 (.bool t.s)).set 3 (yS so t.n sc)).set 4 (yi t.e));have c57:=q54.c 0 rfl;have y58:=q54.f 0;have c59:=q54.c 1 rfl;have y60:=q54.f 1;have c61:=q54.c 2 rfl;have y62:=q54.f 2;have c63:=q54.c 3 rfl;have y64:=q54.f 3;have c65:=q54.c 4 rfl;have y66:=q54.f 4;have r67:Rd (((((w50.setCell ⟨w30.heap.size,0,none⟩ (yi c)).setCell ⟨w30.heap.size,1,none⟩ (.bool g)).setCell ⟨w30.heap.size,2,none⟩ (.bool t.s)).setCell ⟨w30.heap.size,3,none⟩ (yS so t.n sc)).setCell ⟨w30.heap.size,4,none⟩ (yi t.e)) .i64 (yS so t.n sc) (Dg.dg 65536 t.n):=(((((r1x53.set_far ff1 hft (yi c)).set_far ff1 hft (.bool g)).set_far ff1 hft (.bool t.s)).set_far ff1 hft (yS so t.n sc)).set_far ff1 hft (yi t.e));clear ff1 hft;have b68:=bu.below b55 (by omega);clear bu
 go_upto_region 14 with fail
 generalize((((w50.setCell ⟨w30.heap.size,0,none⟩ (yi c)).setCell ⟨w30.heap.size,1,none⟩ (.bool g)).setCell ⟨w30.heap.size,2,none⟩ (.bool t.s)).setCell ⟨w30.heap.size,3,none⟩ (yS so t.n sc)).setCell ⟨w30.heap.size,4,none⟩ (yi t.e)=W69 at q56 r67 b68⊢;clear q54 r1x53 b55 c57 y58 c59 y60 c61 y62 c63 y64 c65 y66
 go_wp2_with fail
 refine(HB.out _ b68).mono ?_;rintro zz w70 ⟨rfl,bb71⟩;have q72:=q56.l bb71;have r73:=r67.l bb71;have b74:=aa b68 bb71;clear q56 r67 b68 bb71 HB;obtain⟨c75,c76,c77,c78,c79⟩:=q72.cs5
 go_wp2_with fail
 refine(HI.out _ _ _ b74 r73).mono ?_;rintro zz w80 ⟨rfl,bb81⟩;have b82:=aa b74 bb81;clear q72 r73 b74 bb81 HI c75 c76 c77 c78 c79
 go_wp2
 go_ret
 exact⟨by simp,b82⟩
theorem tz_five {n:Nat}(h:n≠0)(k:Nat):tz (n*5^k)=tz n:=by
 obtain⟨h1,h2⟩:=odd_of h;have h3:=five_odd _ h1 k;have h4:=(odd_two (t:=tz n) h3).1;rw[show n/2^tz n*5^k*2^tz n=n/2^tz n*2^tz n*5^k by ac_rfl,←h2] at h4
 exact h4
theorem raV_in {t:ByteArray}(h:raE t=0):(Dg.dg 4294967296 (raV t).2.1).length≤1200∧(Dg.dg 4294967296 (raV t).2.2.1).length≤1200∧(raV t).2.2.1≠0∧ -20000≤(raV t).2.2.2∧(raV t).2.2.2≤20000∧(Dg.dg 65536 (raV t).2.1).length≤20000∧(Dg.dg 65536 (raV t).2.2.1).length≤20000:=by
 obtain⟨h1,h2,h3,h4⟩:=nmV_zero h;have hdig:=((digB_iff _).1 h2).2;obtain⟨a,ha⟩: ∃a,a=1600:=⟨_,rfl⟩;have hN:pv (nmV t).1.2.1 (nmV t).1.2.1.size<2^a:=Nat.lt_of_lt_of_le (Tb _ hdig _ (Nat.le_refl _)) (Nat.le_trans (pow10_two _) (Nat.pow_le_pow_right (by omega) (by omega)));unfold raV nrV
 split
 ·refine⟨by decide,by decide,by decide,by decide,by decide,by decide,by decide⟩
 ·rename_i h0
  obtain⟨m0,mlt⟩:=nrM_in (p:=(nmV t).1.2.2) h0 hN h4;have k1:=Nat.div_le_self (nrM (pv (nmV t).1.2.1 (nmV t).1.2.1.size) (nmV t).1.2.2).1 (2^tz (nrM (pv (nmV t).1.2.1 (nmV t).1.2.1.size) (nmV t).1.2.2).1);obtain⟨c,hc⟩: ∃c,c=18000:=⟨_,rfl⟩;have k2:(nrM (pv (nmV t).1.2.1 (nmV t).1.2.1.size) (nmV t).1.2.2).2≤2^c∧(nrM (pv (nmV t).1.2.1 (nmV t).1.2.1.size) (nmV t).1.2.2).2≠0:=by
   unfold nrM
   split
   ·exact⟨Nat.pow_pos (by omega),Nat.one_ne_zero⟩
   ·refine⟨Nat.le_trans (pow5_two _) (Nat.pow_le_pow_right (by omega) ?_),Nat.ne_of_gt (Nat.pow_pos (by omega))⟩
    have:=(redF_le (-(nmV t).1.2.2).toNat (pv (nmV t).1.2.1 (nmV t).1.2.1.size)).2;omega
  have k3:(nmV t).1.2.2+(tz (nrM (pv (nmV t).1.2.1 (nmV t).1.2.1.size) (nmV t).1.2.2).1:Int)≤20000:=by
   by_cases hp:0< (nmV t).1.2.2
   ·have e:(nrM (pv (nmV t).1.2.1 (nmV t).1.2.1.size) (nmV t).1.2.2).1=pv (nmV t).1.2.1 (nmV t).1.2.1.size*5^ (nmV t).1.2.2.toNat:=by
     unfold nrM;rw[if_pos hp]
    rw[e,tz_five h0];have:=tz_bits h0 hN;omega
   ·have:=tz_bits m0 mlt
    omega
  have l1:(Dg.dg 4294967296 ((nrM (pv (nmV t).1.2.1 (nmV t).1.2.1.size) (nmV t).1.2.2).1/2^tz (nrM (pv (nmV t).1.2.1 (nmV t).1.2.1.size) (nmV t).1.2.2).1)).length≤1200:=jq (Nat.lt_of_le_of_lt k1 mlt) (by omega);have l2:(Dg.dg 4294967296 (nrM (pv (nmV t).1.2.1 (nmV t).1.2.1.size) (nmV t).1.2.2).2).length≤1200:=jq (k:=c+1) (Nat.lt_of_le_of_lt k2.1 (Nat.pow_lt_pow_right (by omega) (by omega))) (by omega);exact⟨l1,l2,k2.2,by show _≤(nmV t).1.2.2+_;omega,k3,UI (k:=a+18000) (Nat.le_of_lt (Nat.lt_of_le_of_lt k1 mlt)) (by omega),UI (k:=c) k2.1 (by omega)⟩
theorem ra_fine {t:ByteArray}(h:raE t=0):eA (Dg.dg 4294967296 (raV t).2.1) (Dg.dg 4294967296 (raV t).2.2.1) (raV t).2.2.2=0:=by
 obtain⟨l1,l2,m0,e1,e2,-,-⟩:=raV_in h;unfold eA;rw[if_pos (pJ (Dg.norm_dg _ _ (by omega)) l1),if_pos (pJ (Dg.norm_dg _ _ (by omega)) l2),if_neg];rintro(c|c)
 ·exact m0 ((Dg.dg_nil_iff 4294967296 _ (by omega)).1 (List.length_eq_zero_iff.1 c))
 ·unfold eJ at c
  simp at c;omega
theorem textParses_walk (n:Int)(t:ByteArray)(way:Int)(w:World)(hT:TxW w):yC 4 #[yi n,.string t,yi way] w (yR w (.bool true)):=by
 have HB:=fun w1 (b:yB w w1)=>textBegun_any w1 (hT.l b)
 have HZ:yJ 16 #[yi 1,.bool false] (yoV 1 false false yN 0):=fun w1=>refZero_any 1 (by omega) false w1
 have HE: ∀e:Int,e≠0→yH w 18 #[yi n,.string ⟨#[]⟩,yi 0,yi e,yi e,yoV 1 false false yN 0,yi 0] (.bool true):=fun e he w1 _=>aal n 1 e 0 false ⟨false,0,0⟩ none 0 w1 (by simpa using he)
 have HA:=fun w1 (b:yB w w1)=>tParse_any n t way w1 (hT.l b)
 have HQ:=fun w1 (_:yB w w1)=>refRatio_any t w1
 unfold psV at HA
 by_cases hf:dK n=0
 ·rw[if_pos hf] at HA
  by_cases he:raE t=0
  ·exact parses_none_o (raV t).1 (raV t).2.1 (raV t).2.2.1 (raV t).2.2.2 n _ _ _ _ _ _ _ _ way _ _ _ t _ w HA (fun w1=>oT n w1 hf) (fun w1 b=>(HQ w1 b).2 he) HZ HB (HE 6 (by decide))
  ·exact parses_none_e (raE t) n _ _ _ _ _ _ _ _ way _ _ _ t _ w HA (fun w1=>oT n w1 hf) (fun w1 b=>(HQ w1 b).1 he) HZ HB (HE 6 (by decide))
 rw[if_neg hf] at HA;obtain⟨k1,k2,k3⟩:=fF hf;obtain⟨k,rfl⟩: ∃k:Nat,n=(k:Int):=⟨n.toNat,k3.symm⟩;rw[Int.toNat_natCast] at k1 k2 HA;have hk:1≤k∧k≤8:=⟨k1,k2⟩;have hg:=(eR hk).2.2.2.2.2.2.2.2.2.2.2;have HF:=fun w1=>form_any k hk w1
 by_cases he:raE t=0
 rotate_left
 ·rw[if_pos he] at HA
  exact parses_err (raE t) (k:Int) _ _ _ _ _ _ _ _ way _ _ _ t _ w (by simpa using he) HA HF (fun w1 b=>(HQ w1 b).1 he) HZ HB (HE _ he)
 rw[if_neg (fun c=>c he)] at HA
 have HQ2:=fun w1 b=>(HQ w1 b).2 he
 obtain⟨l1,l2,m0,e1,e2,l3,l4⟩:=raV_in he;have hr:=ra_fine he;clear HQ;generalize(raV t).1=qs at*;generalize(raV t).2.1=N at*;generalize(raV t).2.2.1=M at*;generalize(raV t).2.2.2=E at*;have HY:=fun w1=>qi way w1
 unfold fitT mM at HA
 by_cases hy:iC way=true
 rotate_left
 ·have e6:eE (Dg.dg 4294967296 N) (Dg.dg 4294967296 M) E (rdN k) (dgN k) (lsI k) (gsI k) way=6:=by rw[Bq hr hg,if_neg hy]
  rw[if_neg (by rw[e6];decide),e6] at HA;rw[show iC way=false by simpa using hy] at HY
  exact parses_way qs N M E (k:Int) _ _ _ _ _ _ _ _ way _ _ _ t _ w HA HF HQ2 HY HZ HB (HE 6 (by decide))
 have e0:eE (Dg.dg 4294967296 N) (Dg.dg 4294967296 M) E (rdN k) (dgN k) (lsI k) (gsI k) way=0:=by rw[Bq hr hg,if_pos hy]
 rw[if_pos e0] at HA;rw[hy] at HY;have hp:df (Dg.dg 4294967296 N) (Dg.dg 4294967296 M) E (rdN k) (dgN k) (lsI k) (gsI k) (decide (k≤3)) qs way=if(Dg.dg 4294967296 N).length=0 then⟨false,0,0,true,false,false⟩ else cI (rdN k) (dgN k) (lsI k) (gsI k) (decide (k≤3)) qs (Dg.vl 4294967296 (Dg.dg 4294967296 N)) (Dg.vl 4294967296 (Dg.dg 4294967296 M)) E way:=if_pos e0
 rw[Dg.vl_dg _ _ (by omega),Dg.vl_dg _ _ (by omega)] at hp;rw[hp] at HA;have hlen: ∀B,2≤B→((Dg.dg B N).length=0↔N=0):=fun B hB=>by rw[List.length_eq_zero_iff,Dg.dg_nil_iff B _ hB]
 by_cases hz:N=0
 ·rw[if_pos ((hlen _ (by omega)).2 hz)] at HA
  have hs:SameV k (Dw k 1 false 0 0 0) (1,false,⟨false,0,0⟩,0):=same_oth hk (c:=1) (by decide) false 0 rfl (fun c=>by cases c)
  exact parses_zero qs N M E (k:Int) _ _ _ _ _ _ _ _ way _ _ _ t _ w (by have:=(hlen 65536 (by omega)).2 hz;omega) HA HF HQ2 HY HZ HB (fun w1 _=>pat_ok hs none 0 w1 (aN w1 .i64))
 ·rw[if_neg (fun c=>hz ((hlen _ (by omega)).1 c))] at HA
  have hs:=same_plc hk way _ (rnd_of hk qs N M E way hz m0);rw[or_set] at hs;exact parses_num _ _ _ _ qs N M E (k:Int) _ _ _ _ _ _ _ _ way _ _ _ t _ w (Nat.pos_of_ne_zero (fun c=>hz ((hlen _ (by omega)).1 c))) HA HF HQ2 HY HZ (fun no nc mo mc w1 r1 r2=>fittedG_any k hk way hy qs _ _ E no mo nc mc w1 hz m0 r1 r2 l3 l4 e1 e2) HB (fun so sc w1 _ h=>pat_ok hs so sc w1 h)
end Go.Proofs.YtpgijbdgljkeeaaGreatDoor
namespace Go.Proofs.YtpgijbdgljkeeaaGreatDoor.dy
open Go.ChangeShapes Go.WideShapes Go.ChangeAt Go.RowKit Go.Joins
theorem laidOut:laidOutB Tryz.prog=true:=by kernel_rfl
theorem door_met (os:Os)(args:Array Value):laidMetH Tryz.prog Rows.textRatiosRow.laid ((World.doorLaid Tryz.prog 400 os).forCall (fun _ _=>0) ⟨#[],args,[]⟩).memory:=
 laidMetH_of_parts3 (fuel:=8) (laidMet_of_run' 8 (by kernel_rfl) (by kernel_rfl)) (by kernel_rfl) (by kernel_rfl)
theorem open_int' {H:Type}{enc:TypeId×Value→H}{W:World}{base:Nat}{v:Value}{d:DataW H}{p:List MemPlace}(hv:Value.okWide Tryz.prog W .any base 3 v)(h:DataW.Trod enc Tryz.prog W 0 (fun _=>true) true 3 v d p):
  ∃n:Int,v=yi n∧(Lit.int .i64 n).wf=true:=by
 obtain⟨n,rfl,-,-,hw⟩:=open_int Tryz.underlying3 hv h;exact⟨n,rfl,hw⟩
theorem and_mk {a b:Bool}(ha:a=true)(hb:b=true):(a&&b)=true:=by rw[ha,hb];rfl
theorem words_cut (a r:List Char)(h: ∀c∈a,c≠Char.ofNat 32):wordsSigns (a++Char.ofNat 32::r)=a::wordsSigns r:=by
 induction a with
 |nil=>rfl
 |cons c a ih=>
  have h1:c≠Char.ofNat 32:=h c (by simp);have h2:=ih (fun x hx=>h x (by simp[hx]))
  show wordsSigns (c::(a++Char.ofNat 32::r))=_
  rw[wordsSigns]
  ·rw[h2]
  ·intro e;exact h1 e
theorem initS:Tryz.prog.initOrder= "harness" ++(" " ++("a852d428f9119d5542430a37dbc93668ed18b05fa7ff4b0deebe9d9f97c84673" ++(" " ++("cut" ++(" " ++ "at slipstick/slipsticklaw.TextRatios slipstick/slipsticklaw.TextParses slipstick/slipsticklaw.TextPrints slipstick/slipsticklaw.TextShortests slipstick/slipsticklaw.TextBack slipstick/slipsticklaw.TextNoShorter"))))):=by kernel_rfl
theorem blank:(" " :String).toList=[Char.ofNat 32]:=by decide+kernel
theorem no_blank1: ∀c∈("harness" :String).toList,c≠Char.ofNat 32:=by decide+kernel
theorem no_blank2: ∀c∈("a852d428f9119d5542430a37dbc93668ed18b05fa7ff4b0deebe9d9f97c84673" :String).toList,c≠Char.ofNat 32:=by decide+kernel
theorem no_blank3: ∀c∈("cut" :String).toList,c≠Char.ofNat 32:=by decide+kernel
theorem sum_signs:isSumSigns ("a852d428f9119d5542430a37dbc93668ed18b05fa7ff4b0deebe9d9f97c84673" :String).toList=true:=by decide+kernel
theorem words_of {P:Program}{s r:String}(h:P.initOrder= "harness" ++(" " ++(s++(" " ++("cut" ++(" " ++r))))))(hn: ∀c∈s.toList,c≠Char.ofNat 32):
  wordsSigns P.initOrder.toList=("harness" :String).toList::s.toList::("cut" :String).toList::wordsSigns r.toList:=by
 rw[h,String.toList_append,String.toList_append,String.toList_append,String.toList_append,String.toList_append,String.toList_append,blank];simp only[List.singleton_append];rw[words_cut _ _ no_blank1,words_cut _ _ hn,words_cut _ _ no_blank3]
theorem main_of {P:Program}{s:List Char}{ws:List (List Char)}(h:wordsSigns P.initOrder.toList=("harness" :String).toList::s::ws)(hs:isSumSigns s=true):P.mainIs=some (true,s):=by
 unfold Program.mainIs;rw[h];simp only[hs,Bool.not_true,Bool.false_eq_true,if_false,beq_self_eq_true,if_true]
theorem cut_gc:(("cut" :String).toList==("gc" :String).toList)=false:=by decide+kernel
theorem cut_spec:(("cut" :String).toList==("spec" :String).toList)=false:=by decide+kernel
theorem lifts_of {P:Program}{s:List Char}{ws:List (List Char)}(h:wordsSigns P.initOrder.toList=("harness" :String).toList::s::("cut" :String).toList::ws)(hs:isSumSigns s=true):P.headLifts=[]:=by
 unfold Program.headLifts;rw[behind_of h hs,strip_none _ _ _ cut_none];simp
theorem make_of {P:Program}{s:List Char}{ws:List (List Char)}(h:wordsSigns P.initOrder.toList=("harness" :String).toList::s::("cut" :String).toList::ws)(hs:isSumSigns s=true):P.make=some .cut:=by
 unfold Program.make;rw[behind_of h hs];simp only[cut_gc,cut_spec,Bool.or_self,Bool.false_eq_true,if_false,beq_self_eq_true,Bool.true_or,if_true]
theorem final_of {P:Program}{s:List Char}{ws:List (List Char)}(h:wordsSigns P.initOrder.toList=("harness" :String).toList::s::("cut" :String).toList::ws)(hs:isSumSigns s=true):P.liftsFinal=false:=by
 unfold Program.liftsFinal;rw[behind_of h hs,lifts_of h hs];have e:((some ("cut" :String).toList:Option (List Char))==some ("carried" :String).toList)=false:=by decide+kernel
 simp only[List.head?_cons,e,Bool.false_and,List.contains_nil,Bool.or_self]
theorem words_is:wordsSigns Tryz.prog.initOrder.toList=("harness" :String).toList::("a852d428f9119d5542430a37dbc93668ed18b05fa7ff4b0deebe9d9f97c84673" :String).toList::("cut" :String).toList::wordsSigns ("at slipstick/slipsticklaw.TextRatios slipstick/slipsticklaw.TextParses slipstick/slipsticklaw.TextPrints slipstick/slipsticklaw.TextShortests slipstick/slipsticklaw.TextBack slipstick/slipsticklaw.TextNoShorter" :String).toList:=words_of initS no_blank2
theorem main_is:Tryz.prog.mainIs=some (true,("a852d428f9119d5542430a37dbc93668ed18b05fa7ff4b0deebe9d9f97c84673" :String).toList):=main_of words_is sum_signs
theorem make_is:Tryz.prog.make=some .cut:=make_of words_is sum_signs
theorem final_is:Tryz.prog.liftsFinal=false:=final_of words_is sum_signs
theorem enter_is:Tryz.prog.mayEnter=true:=enter_of words_is sum_signs (by kernel_rfl) (by kernel_rfl) (by kernel_rfl)
end Go.Proofs.YtpgijbdgljkeeaaGreatDoor.dy

/-
  The walk of ConvExacts.
-/
import Derived.Test.YtddkchlamdhgcaaGreatDoorXb01
set_option maxRecDepth 100000
set_option maxHeartbeats 12800000
namespace Go.Proofs.YtddkchlamdhgcaaGreatDoor
open _root_.Go.Proofs.Tryz
open Go.RowKit
theorem exacts_e1 (ok2:Bool)(n j f0 f1 f2 R D L G fam g0 g1 g2 R2 D2 L2 G2 fam2:Int)(gr gr2:Bool)(s:ByteArray)(w:World)
  (HA:yH w 17 #[yi n,yi j] (.tuple #[.bool false,yi 6]))
  (HF:yJ 18 #[yi n] (.tuple #[yhV f0 f1 f2 R D L G gr fam,.bool false]))
  (HG:yJ 18 #[yi j] (.tuple #[yhV g0 g1 g2 R2 D2 L2 G2 gr2 fam2,.bool ok2]))
  (HB:yH w 16 #[] (.bool true)):
  yC 4 #[yi n,yi j,.string s] w (yR w (.bool true)):=by
 replace HA:Hid _:=HA;replace HF:Hid _:=HF;replace HG:Hid _:=HG;replace HB:Hid _:=HB
 go_enter func4,ntmps4
 have b0:=Below.refl w.heap.size w
 go_wp2_with fail
 refine(HA.out _ b0).mono ?_;rintro zz w1 ⟨rfl,bb2⟩;have b3:=aa b0 bb2;clear b0 bb2 HA
 go_wp2_with fail
 refine(HF.out _).mono ?_;rintro zz w4 ⟨rfl,bb5⟩;have b6:=aa b3 bb5;clear b3 bb5 HF;obtain⟨W9,hW8,q10,al7⟩:=cA w4 (yhL f0 f1 f2 R D L G gr fam) 51;replace hW8:Hid _:=hW8;have hl11:w.heap.size≤w4.heap.size:=b6.size;have b12:=aa b6 al7;clear b6 al7 q10
 go_upto_region 3 with fail
 rw[hW8.out];clear hW8
 go_wp2_with fail
 refine(HG.out _).mono ?_;rintro zz w13 ⟨rfl,bb14⟩;have b15:=aa b12 bb14;clear b12 bb14 HG;obtain⟨W18,hW17,q19,al16⟩:=cA w13 (yhL g0 g1 g2 R2 D2 L2 G2 gr2 fam2) 51;replace hW17:Hid _:=hW17;have hl20:w.heap.size≤w13.heap.size:=b15.size;have b21:=aa b15 al16;clear b15 al16 q19
 go_upto_region 4 with fail
 rw[hW17.out];clear hW17
 go_wp2_with fail
 refine(HB.out _ b21).mono ?_;rintro zz w22 ⟨rfl,bb23⟩;have b24:=aa b21 bb23;clear b21 bb23
 go_wp2_with fail
 refine(HB.out _ b24).mono ?_;rintro zz w25 ⟨rfl,bb26⟩;have b27:=aa b24 bb26;clear b24 bb26
 go_wp2
 go_ret
 exact⟨by simp,b27⟩
theorem exacts_e2 (n j f0 f1 f2 R D L G fam g0 g1 g2 R2 D2 L2 G2 fam2:Int)(gr gr2:Bool)(s:ByteArray)(w:World)
  (HA:yH w 17 #[yi n,yi j] (.tuple #[.bool false,yi 6]))
  (HF:yJ 18 #[yi n] (.tuple #[yhV f0 f1 f2 R D L G gr fam,.bool true]))
  (HG:yJ 18 #[yi j] (.tuple #[yhV g0 g1 g2 R2 D2 L2 G2 gr2 fam2,.bool false]))
  (HB:yH w 16 #[] (.bool true)):
  yC 4 #[yi n,yi j,.string s] w (yR w (.bool true)):=by
 replace HA:Hid _:=HA;replace HF:Hid _:=HF;replace HG:Hid _:=HG;replace HB:Hid _:=HB
 go_enter func4,ntmps4
 have b0:=Below.refl w.heap.size w
 go_wp2_with fail
 refine(HA.out _ b0).mono ?_;rintro zz w1 ⟨rfl,bb2⟩;have b3:=aa b0 bb2;clear b0 bb2 HA
 go_wp2_with fail
 refine(HF.out _).mono ?_;rintro zz w4 ⟨rfl,bb5⟩;have b6:=aa b3 bb5;clear b3 bb5 HF;obtain⟨W9,hW8,q10,al7⟩:=cA w4 (yhL f0 f1 f2 R D L G gr fam) 51;replace hW8:Hid _:=hW8;have hl11:w.heap.size≤w4.heap.size:=b6.size;have b12:=aa b6 al7;clear b6 al7 q10
 go_upto_region 3 with fail
 rw[hW8.out];clear hW8
 go_wp2_with fail
 refine(HG.out _).mono ?_;rintro zz w13 ⟨rfl,bb14⟩;have b15:=aa b12 bb14;clear b12 bb14 HG;obtain⟨W18,hW17,q19,al16⟩:=cA w13 (yhL g0 g1 g2 R2 D2 L2 G2 gr2 fam2) 51;replace hW17:Hid _:=hW17;have hl20:w.heap.size≤w13.heap.size:=b15.size;have b21:=aa b15 al16;clear b15 al16 q19
 go_upto_region 4 with fail
 rw[hW17.out];clear hW17
 go_wp2_with fail
 refine(HB.out _ b21).mono ?_;rintro zz w22 ⟨rfl,bb23⟩;have b24:=aa b21 bb23;clear b21 bb23
 go_wp2_with fail
 refine(HB.out _ b24).mono ?_;rintro zz w25 ⟨rfl,bb26⟩;have b27:=aa b24 bb26;clear b24 bb26
 go_wp2
 go_ret
 exact⟨by simp,b27⟩
theorem exacts_t1 (pc:Int)(n j f0 f1 f2 R D L G fam g0 g1 g2 R2 D2 L2 G2 fam2:Int)(gr gr2:Bool)(s:ByteArray)(w:World)(hpc:(pc==0)=false)
  (HA:yH w 17 #[yi n,yi j] (.tuple #[.bool true,yi 0]))
  (HF:yJ 18 #[yi n] (.tuple #[yhV f0 f1 f2 R D L G gr fam,.bool true]))
  (HG:yJ 18 #[yi j] (.tuple #[yhV g0 g1 g2 R2 D2 L2 G2 gr2 fam2,.bool true]))
  (HB:yH w 16 #[] (.bool true))
  (HO:yJ 19 #[yi n,.string s] (yi pc)):
  yC 4 #[yi n,yi j,.string s] w (yR w (.bool true)):=by
 replace HA:Hid _:=HA;replace HF:Hid _:=HF;replace HG:Hid _:=HG;replace HB:Hid _:=HB;replace HO:Hid _:=HO
 go_enter func4,ntmps4
 have b0:=Below.refl w.heap.size w
 go_wp2_with fail
 refine(HA.out _ b0).mono ?_;rintro zz w1 ⟨rfl,bb2⟩;have b3:=aa b0 bb2;clear b0 bb2 HA
 go_wp2_with fail
 refine(HF.out _).mono ?_;rintro zz w4 ⟨rfl,bb5⟩;have b6:=aa b3 bb5;clear b3 bb5 HF;obtain⟨W9,hW8,q10,al7⟩:=cA w4 (yhL f0 f1 f2 R D L G gr fam) 51;replace hW8:Hid _:=hW8;have hl11:w.heap.size≤w4.heap.size:=b6.size;have b12:=aa b6 al7;clear b6 al7 q10
 go_upto_region 3 with fail
 rw[hW8.out];clear hW8
 go_wp2_with fail
 refine(HG.out _).mono ?_;rintro zz w13 ⟨rfl,bb14⟩;have b15:=aa b12 bb14;clear b12 bb14 HG;obtain⟨W18,hW17,q19,al16⟩:=cA w13 (yhL g0 g1 g2 R2 D2 L2 G2 gr2 fam2) 51;replace hW17:Hid _:=hW17;have hl20:w.heap.size≤w13.heap.size:=b15.size;have b21:=aa b15 al16;clear b15 al16 q19
 go_upto_region 4 with fail
 rw[hW17.out];clear hW17
 go_wp2_with fail
 refine(HB.out _ b21).mono ?_;rintro zz w22 ⟨rfl,bb23⟩;have b24:=aa b21 bb23;clear b21 bb23 HB
 go_wp2_with fail
 refine(HO.out _).mono ?_;rintro zz w25 ⟨rfl,bb26⟩;have b27:=aa b24 bb26;clear b24 bb26 HO
 go_wp2
 go_ret
 exact⟨by simp,b27⟩
theorem exacts_t2 (cx:Int)(gx ng:Bool)(x:ak)(n j f0 f1 f2 R D L G fam g0 g1 g2 R2 D2 L2 G2 fam2:Int)(gr gr2:Bool)(s:ByteArray)(w:World)(h2:(cx==2)=false)
  (HA:yH w 17 #[yi n,yi j] (.tuple #[.bool true,yi 0]))
  (HF:yJ 18 #[yi n] (.tuple #[yhV f0 f1 f2 R D L G gr fam,.bool true]))
  (HG:yJ 18 #[yi j] (.tuple #[yhV g0 g1 g2 R2 D2 L2 G2 gr2 fam2,.bool true]))
  (HB:yH w 16 #[] (.bool true))
  (HO:yJ 19 #[yi n,.string s] (yi 0))
  (HD: ∀w1,yC 20 #[yi n,.string s] w1 (JV w1 cx gx x ng)):
  yC 4 #[yi n,yi j,.string s] w (yR w (.bool true)):=by
 replace HA:Hid _:=HA;replace HF:Hid _:=HF;replace HG:Hid _:=HG;replace HB:Hid _:=HB;replace HO:Hid _:=HO;replace HD:Hid _:=HD
 go_enter func4,ntmps4
 have b0:=Below.refl w.heap.size w
 go_wp2_with fail
 refine(HA.out _ b0).mono ?_;rintro zz w1 ⟨rfl,bb2⟩;have b3:=aa b0 bb2;clear b0 bb2 HA
 go_wp2_with fail
 refine(HF.out _).mono ?_;rintro zz w4 ⟨rfl,bb5⟩;have b6:=aa b3 bb5;clear b3 bb5 HF;obtain⟨W9,hW8,q10,al7⟩:=cA w4 (yhL f0 f1 f2 R D L G gr fam) 51;replace hW8:Hid _:=hW8;have hl11:w.heap.size≤w4.heap.size:=b6.size;have b12:=aa b6 al7;clear b6 al7 q10
 go_upto_region 3 with fail
 rw[hW8.out];clear hW8
 go_wp2_with fail
 refine(HG.out _).mono ?_;rintro zz w13 ⟨rfl,bb14⟩;have b15:=aa b12 bb14;clear b12 bb14 HG;obtain⟨W18,hW17,q19,al16⟩:=cA w13 (yhL g0 g1 g2 R2 D2 L2 G2 gr2 fam2) 51;replace hW17:Hid _:=hW17;have hl20:w.heap.size≤w13.heap.size:=b15.size;have b21:=aa b15 al16;clear b15 al16 q19
 go_upto_region 4 with fail
 rw[hW17.out];clear hW17
 go_wp2_with fail
 refine(HB.out _ b21).mono ?_;rintro zz w22 ⟨rfl,bb23⟩;have b24:=aa b21 bb23;clear b21 bb23 HB
 go_wp2_with fail
 refine(HO.out _).mono ?_;rintro zz w25 ⟨rfl,bb26⟩;have b27:=aa b24 bb26;clear b24 bb26 HO
 go_wp2_with fail
 refine(HD.out _).mono ?_;rintro zz w28 ⟨v1x30,rfl,r1x31,bb29,-⟩;have b32:=aa b27 bb29;obtain⟨xo,xc,hv⟩:=r1x31.shape;subst hv;clear b27 bb29 HD;obtain⟨W35,hW34,q36,al33⟩:=cA w28 (yEL cx gx x xo xc) 32;replace hW34:Hid _:=hW34;have hl37:w.heap.size≤w28.heap.size:=b32.size;have b38:=aa b32 al33;clear r1x31 b32 al33
 go_upto_region 11 with fail
 rw[hW34.out];clear hW34;have c39:=q36.c 0 rfl
 go_wp2
 go_ret
 exact⟨by simp,b38⟩
theorem exacts_t3 (gx ng:Bool)(x:ak)(n j f0 f1 f2 R D L G fam g0 g1 g2 R2 D2 L2 G2 fam2:Int)(gr gr2:Bool)(s:ByteArray)(w:World)
  (HA:yH w 17 #[yi n,yi j] (.tuple #[.bool true,yi 0]))
  (HF:yJ 18 #[yi n] (.tuple #[yhV f0 f1 f2 R D L G gr fam,.bool true]))
  (HG:yJ 18 #[yi j] (.tuple #[yhV g0 g1 g2 R2 D2 L2 G2 gr2 fam2,.bool true]))
  (HB:yH w 16 #[] (.bool true))
  (HO:yJ 19 #[yi n,.string s] (yi 0))
  (HD: ∀w1,yC 20 #[yi n,.string s] w1 (JV w1 2 gx x ng))
  (HI: ∀xo xc w1,yB w w1→Rd w1 .i64 (yS xo x.n xc) (Dg.dg 65536 x.n)→yC 21 #[yMV x xo xc,ygV R D L G gr] w1 (yR w1 (.bool false))):
  yC 4 #[yi n,yi j,.string s] w (yR w (.bool true)):=by
 replace HA:Hid _:=HA;replace HF:Hid _:=HF;replace HG:Hid _:=HG;replace HB:Hid _:=HB;replace HO:Hid _:=HO;replace HD:Hid _:=HD;replace HI:Hid _:=HI
 go_enter func4,ntmps4
 have b0:=Below.refl w.heap.size w
 go_wp2_with fail
 refine(HA.out _ b0).mono ?_;rintro zz w1 ⟨rfl,bb2⟩;have b3:=aa b0 bb2;clear b0 bb2 HA
 go_wp2_with fail
 refine(HF.out _).mono ?_;rintro zz w4 ⟨rfl,bb5⟩;have b6:=aa b3 bb5;clear b3 bb5 HF;obtain⟨W9,hW8,q10,al7⟩:=cA w4 (yhL f0 f1 f2 R D L G gr fam) 51;replace hW8:Hid _:=hW8;have hl11:w.heap.size≤w4.heap.size:=b6.size;have b12:=aa b6 al7;clear b6 al7
 go_upto_region 3 with fail
 rw[hW8.out];clear hW8
 go_wp2_with fail
 refine(HG.out _).mono ?_;rintro zz w13 ⟨rfl,bb14⟩;have q15:=q10.l bb14;have b16:=aa b12 bb14;clear q10 b12 bb14 HG;obtain⟨W19,hW18,q20,al17⟩:=cA w13 (yhL g0 g1 g2 R2 D2 L2 G2 gr2 fam2) 51;replace hW18:Hid _:=hW18;have hl21:w.heap.size≤w13.heap.size:=b16.size;have hl22:=q15.lt;have q23:=q15.l al17;have b24:=aa b16 al17;clear q15 b16 al17 q20
 go_upto_region 4 with fail
 rw[hW18.out];clear hW18
 go_wp2_with fail
 refine(HB.out _ b24).mono ?_;rintro zz w25 ⟨rfl,bb26⟩;have q27:=q23.l bb26;have b28:=aa b24 bb26;clear q23 b24 bb26 HB
 go_wp2_with fail
 refine(HO.out _).mono ?_;rintro zz w29 ⟨rfl,bb30⟩;have q31:=q27.l bb30;have b32:=aa b28 bb30;clear q27 b28 bb30 HO
 go_wp2_with fail
 refine(HD.out _).mono ?_;rintro zz w33 ⟨v1x35,rfl,r1x36,bb34,-⟩;have q37:=q31.l bb34;have b38:=aa b32 bb34;obtain⟨xo,xc,hv⟩:=r1x36.shape;subst hv;clear q31 b32 bb34 HD;obtain⟨W41,hW40,q42,al39⟩:=cA w33 (yEL 2 gx x xo xc) 32;replace hW40:Hid _:=hW40;have hl43:w.heap.size≤w33.heap.size:=b38.size;have hl44:=q37.lt;have q45:=q37.l al39;have r46:=r1x36.l al39;have b47:=aa b38 al39;clear q37 r1x36 b38 al39
 go_upto_region 11 with fail
 rw[hW40.out];clear hW40;have c48:=q45.c 3 rfl;have c49:=q45.c 4 rfl;have c50:=q45.c 5 rfl;have c51:=q45.c 6 rfl;have c52:=q45.c 7 rfl;have c53:=q42.c 0 rfl;have c54:=q42.c 2 rfl;have c55:=q42.c 3 rfl;have c56:=q42.c 4 rfl
 go_wp2_with fail
 refine(HI.out _ _ _ b47 r46).mono ?_;rintro zz w57 ⟨rfl,bb58⟩;have b59:=aa b47 bb58;clear q45 q42 r46 b47 bb58 HI c48 c49 c50 c51 c52 c53 c54 c55 c56
 go_wp2
 go_ret
 exact⟨by simp,b59⟩
theorem exacts_t4 (gx ng:Bool)(x:ak)(n j f0 f1 f2 R D L G fam g0 g1 g2 R2 D2 L2 G2 fam2:Int)(gr gr2:Bool)(s:ByteArray)(w:World)
  (HA:yH w 17 #[yi n,yi j] (.tuple #[.bool true,yi 0]))
  (HF:yJ 18 #[yi n] (.tuple #[yhV f0 f1 f2 R D L G gr fam,.bool true]))
  (HG:yJ 18 #[yi j] (.tuple #[yhV g0 g1 g2 R2 D2 L2 G2 gr2 fam2,.bool true]))
  (HB:yH w 16 #[] (.bool true))
  (HO:yJ 19 #[yi n,.string s] (yi 0))
  (HD: ∀w1,yC 20 #[yi n,.string s] w1 (JV w1 2 gx x ng))
  (HI: ∀xo xc w1,yB w w1→Rd w1 .i64 (yS xo x.n xc) (Dg.dg 65536 x.n)→yC 21 #[yMV x xo xc,ygV R D L G gr] w1 (yR w1 (.bool true)))
  (HJ: ∀xo xc w1,yB w w1→Rd w1 .i64 (yS xo x.n xc) (Dg.dg 65536 x.n)→yC 21 #[yMV x xo xc,ygV R2 D2 L2 G2 gr2] w1 (yR w1 (.bool true))):
  yC 4 #[yi n,yi j,.string s] w (yR w (.bool true)):=by
 replace HA:Hid _:=HA;replace HF:Hid _:=HF;replace HG:Hid _:=HG;replace HB:Hid _:=HB;replace HO:Hid _:=HO;replace HD:Hid _:=HD;replace HI:Hid _:=HI;replace HJ:Hid _:=HJ
 go_enter func4,ntmps4
 have b0:=Below.refl w.heap.size w
 go_wp2_with fail
 refine(HA.out _ b0).mono ?_;rintro zz w1 ⟨rfl,bb2⟩;have b3:=aa b0 bb2;clear b0 bb2 HA
 go_wp2_with fail
 refine(HF.out _).mono ?_;rintro zz w4 ⟨rfl,bb5⟩;have b6:=aa b3 bb5;clear b3 bb5 HF;obtain⟨W9,hW8,q10,al7⟩:=cA w4 (yhL f0 f1 f2 R D L G gr fam) 51;replace hW8:Hid _:=hW8;have hl11:w.heap.size≤w4.heap.size:=b6.size;have b12:=aa b6 al7;clear b6 al7
 go_upto_region 3 with fail
 rw[hW8.out];clear hW8
 go_wp2_with fail
 refine(HG.out _).mono ?_;rintro zz w13 ⟨rfl,bb14⟩;have q15:=q10.l bb14;have b16:=aa b12 bb14;clear q10 b12 bb14 HG;obtain⟨W19,hW18,q20,al17⟩:=cA w13 (yhL g0 g1 g2 R2 D2 L2 G2 gr2 fam2) 51;replace hW18:Hid _:=hW18;have hl21:w.heap.size≤w13.heap.size:=b16.size;have hl22:=q15.lt;have q23:=q15.l al17;have b24:=aa b16 al17;clear q15 b16 al17
 go_upto_region 4 with fail
 rw[hW18.out];clear hW18
 go_wp2_with fail
 refine(HB.out _ b24).mono ?_;rintro zz w25 ⟨rfl,bb26⟩;have q27:=q23.l bb26;have q28:=q20.l bb26;have b29:=aa b24 bb26;clear q23 q20 b24 bb26 HB
 go_wp2_with fail
 refine(HO.out _).mono ?_;rintro zz w30 ⟨rfl,bb31⟩;have q32:=q27.l bb31;have q33:=q28.l bb31;have b34:=aa b29 bb31;clear q27 q28 b29 bb31 HO
 go_wp2_with fail
 refine(HD.out _).mono ?_;rintro zz w35 ⟨v1x37,rfl,r1x38,bb36,-⟩;have q39:=q32.l bb36;have q40:=q33.l bb36;have b41:=aa b34 bb36;obtain⟨xo,xc,hv⟩:=r1x38.shape;subst hv;clear q32 q33 b34 bb36 HD;obtain⟨W44,hW43,q45,al42⟩:=cA w35 (yEL 2 gx x xo xc) 32;replace hW43:Hid _:=hW43;have hl46:w.heap.size≤w35.heap.size:=b41.size;have hl47:=q39.lt;have hl48:=q40.lt;have q49:=q39.l al42;have q50:=q40.l al42;have r51:=r1x38.l al42;have b52:=aa b41 al42;clear q39 q40 r1x38 b41 al42
 go_upto_region 11 with fail
 rw[hW43.out];clear hW43;have c53:=q49.c 3 rfl;have c54:=q49.c 4 rfl;have c55:=q49.c 5 rfl;have c56:=q49.c 6 rfl;have c57:=q49.c 7 rfl;have c58:=q45.c 0 rfl;have c59:=q45.c 2 rfl;have c60:=q45.c 3 rfl;have c61:=q45.c 4 rfl
 go_wp2_with fail
 refine(HI.out _ _ _ b52 r51).mono ?_;rintro zz w62 ⟨rfl,bb63⟩;have q64:=q50.l bb63;have q65:=q45.l bb63;have r66:=r51.l bb63;have b67:=aa b52 bb63;clear q49 q50 q45 r51 b52 bb63 HI c53 c54 c55 c56 c57 c58 c59 c60 c61;have c68:=q64.c 3 rfl;have c69:=q64.c 4 rfl;have c70:=q64.c 5 rfl;have c71:=q64.c 6 rfl;have c72:=q64.c 7 rfl;have c73:=q65.c 2 rfl;have c74:=q65.c 3 rfl;have c75:=q65.c 4 rfl
 go_wp2_with fail
 refine(HJ.out _ _ _ b67 r66).mono ?_;rintro zz w76 ⟨rfl,bb77⟩;have b78:=aa b67 bb77;clear q64 q65 r66 b67 bb77 HJ c68 c69 c70 c71 c72 c73 c74 c75
 go_wp2
 go_ret
 exact⟨by simp,b78⟩
def SrW (w:World)(a b:Nat)(cfFo cg:List Value)(v:Value)(A:Nat)(wr:World):Prop:=
 yB w wr∧au wr a 51 cfFo∧au wr b 51 cg∧Rd wr .i64 v (Dg.dg 65536 A)
def NonI (u v:Nat→Bool)(q:Nat):Prop:= ∀k,k<q→(u k&& !v k)=false
def NonE (u v:Nat→Nat→Bool)(x y:Nat→Bool)(wd i:Nat):Prop:= ∀k,k<i→NonI (u k) (v k) wd∧(x k&& !y k)=false
theorem nonI_next {u v:Nat→Bool}{q:Nat}(h:NonI u v q)(h1:(u q&& !v q)=false):NonI u v (q+1):=fun k hk=>by
 by_cases c:k=q
 ·rw[c];exact h1
 ·exact h k (by omega)
theorem nonE_next {u v:Nat→Nat→Bool}{x y:Nat→Bool}{wd i:Nat}(h:NonE u v x y wd i)(h1:NonI (u i) (v i) wd)(h2:(x i&& !y i)=false):NonE u v x y wd (i+1):=fun k hk=>by
 by_cases c:k=i
 ·rw[c];exact⟨h1,h2⟩
 ·exact h k (by omega)
theorem exacts_s1 (pc:Int)(wd pn A:Nat)(PW L1 NDeg:Int)(P E E2 F:Nat→Int)(M:Nat→Nat)(X:Nat→Nat→ak)(u v:Nat→Nat→Bool)(x2 y2:Nat→Bool)(n j f0 f1 f2 R D L G fam g0 g1 g2 R2 D2 L2 G2 fam2:Int)(gr gr2:Bool)(s:ByteArray)(w:World)(hpc:(pc==0)=false)
  (hPW:IntKind.i64.wrap ((wd:Int)*D)=PW) (hL1:IntKind.i64.wrap (L+1)=L1) (hND:IntKind.i64.wrap (-D)=NDeg) (hwd:1≤wd∧wd≤4)
  (hP: ∀i,i<4→[Value.int .i64 L,yi G,yi L1,yi NDeg][i]? =some (yi (P i)))
  (hE: ∀i,i<4→IntKind.i64.wrap ((wd:Int)*P i)=E i)
  (hE2: ∀i,i<4→IntKind.i64.wrap ((wd:Int)*IntKind.i64.wrap (IntKind.i64.wrap (P i+D)-1))=E2 i)
  (hF: ∀i,i<4→F i=if gr=true then E i else E2 i)
  (hno:NonE u v x2 y2 wd 4→False)
  (HA:yH w 17 #[yi n,yi j] (.tuple #[.bool false,yi 0]))
  (HF:yJ 18 #[yi n] (.tuple #[yhV f0 f1 f2 R D L G gr fam,.bool true]))
  (HG:yJ 18 #[yi j] (.tuple #[yhV g0 g1 g2 R2 D2 L2 G2 gr2 fam2,.bool true]))
  (HB:yH w 16 #[] (.bool true))
  (HO:yJ 19 #[yi n,.string s] (yi pc))
  (HW:yJ 22 #[ygV R D L G gr] (yi wd))
  (HP: ∀w1,yC 13 #[yi PW] w1 (cG w1 pn))
  (HL: ∀po pc q w1,Rd w1 .i64 (yS po pn pc) (Dg.dg 65536 pn)→au w1 q 3 [yi 1]→yC 23 #[yS po pn pc,.slice (some ⟨q,0,none⟩) 1 1] w1 (cG w1 A))
  (HDn: ∀q:Nat,q<wd→ ∀yo yc w1,Rd w1 .i64 (yS yo A yc) (Dg.dg 65536 A)→yC 25 #[yS yo A yc,yi (q:Int)] w1 (cG w1 (M q)))
  (HBr: ∀i q:Nat,i<4→q<wd→ ∀mo mc w1,Rd w1 .i64 (.slice mo (Dg.dg 65536 (M q)).length mc) (Dg.dg 65536 (M q))→yC 24 #[ydV false (.slice mo (Dg.dg 65536 (M q)).length mc) (E i)] w1 (dr w1 (X i q)))
  (HI: ∀i q:Nat,i<4→q<wd→ ∀xo xc w1,Rd w1 .i64 (.slice xo (Dg.dg 65536 (X i q).n).length xc) (Dg.dg 65536 (X i q).n)→yC 21 #[.agg #[.bool (X i q).s,.slice xo (Dg.dg 65536 (X i q).n).length xc,yi (X i q).e],ygV R D L G gr] w1 (yR w1 (.bool (u i q))))
  (HJ: ∀i q:Nat,i<4→q<wd→ ∀xo xc w1,Rd w1 .i64 (.slice xo (Dg.dg 65536 (X i q).n).length xc) (Dg.dg 65536 (X i q).n)→yC 21 #[.agg #[.bool (X i q).s,.slice xo (Dg.dg 65536 (X i q).n).length xc,yi (X i q).e],ygV R2 D2 L2 G2 gr2] w1 (yR w1 (.bool (v i q))))
  (HK: ∀i:Nat,i<4→ ∀q w1,au w1 q 3 [yi 1]→yC 21 #[ydV false (.slice (some ⟨q,0,none⟩) 1 1) (F i),ygV R D L G gr] w1 (yR w1 (.bool (x2 i))))
  (HM: ∀i:Nat,i<4→ ∀q w1,au w1 q 3 [yi 1]→yC 21 #[ydV false (.slice (some ⟨q,0,none⟩) 1 1) (F i),ygV R2 D2 L2 G2 gr2] w1 (yR w1 (.bool (y2 i)))):
  yC 4 #[yi n,yi j,.string s] w (yR w (.bool true)):=by
 replace HA:Hid _:=HA;replace HF:Hid _:=HF;replace HG:Hid _:=HG;replace HB:Hid _:=HB;replace HO:Hid _:=HO;replace hP:Hid _:=hP;replace hE:Hid _:=hE;replace hE2:Hid _:=hE2;replace hF:Hid _:=hF;replace hno:Hid _:=hno;replace HW:Hid _:=HW;replace HP:Hid _:=HP;replace HL:Hid _:=HL;replace HDn:Hid _:=HDn;replace HBr:Hid _:=HBr;replace HI:Hid _:=HI;replace HJ:Hid _:=HJ;replace HK:Hid _:=HK;replace HM:Hid _:=HM
 go_enter func4,ntmps4
 have b0:=Below.refl w.heap.size w
 go_wp2_with fail
 refine(HA.out _ b0).mono ?_;rintro zz w1 ⟨rfl,bb2⟩;have b3:=aa b0 bb2;clear b0 bb2 HA
 go_wp2_with fail
 refine(HF.out _).mono ?_;rintro zz w4 ⟨rfl,bb5⟩;have b6:=aa b3 bb5;clear b3 bb5 HF;obtain⟨W9,hW8,q10,al7⟩:=cA w4 (yhL f0 f1 f2 R D L G gr fam) 51;replace hW8:Hid _:=hW8;have hl11:w.heap.size≤w4.heap.size:=b6.size;have b12:=aa b6 al7;clear b6 al7
 go_upto_region 3 with fail
 rw[hW8.out];clear hW8
 go_wp2_with fail
 refine(HG.out _).mono ?_;rintro zz w13 ⟨rfl,bb14⟩;have q15:=q10.l bb14;have b16:=aa b12 bb14;clear q10 b12 bb14 HG;obtain⟨W19,hW18,q20,al17⟩:=cA w13 (yhL g0 g1 g2 R2 D2 L2 G2 gr2 fam2) 51;replace hW18:Hid _:=hW18;have hl21:w.heap.size≤w13.heap.size:=b16.size;have hl22:=q15.lt;have q23:=q15.l al17;have b24:=aa b16 al17;clear q15 b16 al17
 go_upto_region 4 with fail
 rw[hW18.out];clear hW18
 go_wp2_with fail
 refine(HB.out _ b24).mono ?_;rintro zz w25 ⟨rfl,bb26⟩;have q27:=q23.l bb26;have q28:=q20.l bb26;have b29:=aa b24 bb26;clear q23 q20 b24 bb26 HB
 go_wp2_with fail
 refine(HO.out _).mono ?_;rintro zz w30 ⟨rfl,bb31⟩;have q32:=q27.l bb31;have q33:=q28.l bb31;have b34:=aa b29 bb31;clear q27 q28 b29 bb31 HO;have c35:=q32.c 3 rfl;have c36:=q32.c 4 rfl;have c37:=q32.c 5 rfl;have c38:=q32.c 6 rfl;have c39:=q32.c 7 rfl
 go_wp2_with fail
 refine(HW.out _).mono ?_;rintro zz w40 ⟨rfl,bb41⟩;have q42:=q32.l bb41;have q43:=q33.l bb41;have b44:=aa b34 bb41;clear q32 q33 b34 bb41 HW c35 c36 c37 c38 c39;have c45:=q42.c 4 rfl
 go_wp2_with fail
 refine(HP.out _).mono ?_;rintro zz w46 ⟨v1x48,rfl,r1x49,bb47⟩;have q50:=q42.l bb47;have q51:=q43.l bb47;have b52:=aa b44 bb47;obtain⟨po,pc,hv⟩:=r1x49.shape;subst hv;clear q42 q43 b44 bb47 HP c45;have al53:=af w46 (.cells #[yi 1] 3);have q54:=ah w46 [yi 1] 3;have q55:=q50.l al53;have q56:=q51.l al53;have r57:=r1x49.l al53;have b58:=aa b52 al53
 go_wp2_with fail
 refine(HL.out _ _ _ _ r57 q54).mono ?_;rintro zz w59 ⟨v1x61,rfl,r1x62,bb60⟩;have q63:=q55.l bb60;have q64:=q56.l bb60;have b65:=aa b58 bb60;obtain⟨yo,yc,hv⟩:=r1x62.shape;subst hv;clear q55 q56 q54 r57 b58 bb60 HL q50 q51 r1x49 b52 al53;have hS:SrW w (w4.heap.size) (w13.heap.size) (yhL f0 f1 f2 R D L G gr fam) (yhL g0 g1 g2 R2 D2 L2 G2 gr2 fam2) (yS yo A yc) A w59:=⟨b65,q63,q64,r1x62⟩;clear q63 q64 r1x62 b65;generalize w4.heap.size=adFo at hS⊢;generalize w13.heap.size=adGo at hS⊢;generalize w59=ws at hS⊢
 go_wp2
 go_loopw [18] (fun kv wr=> ∃i:Nat,i≤4∧kv=yi (i:Int)∧SrW w adFo adGo (yhL f0 f1 f2 R D L G gr fam) (yhL g0 g1 g2 R2 D2 L2 G2 gr2 fam2) (yS yo A yc) A wr∧NonE u v x2 y2 wd i) (fun kv _=>4-(intOf kv).toNat)
 case atStart=>exact⟨0,by omega,rfl,hS,fun k hk=>absurd hk (by omega)⟩
 case round=>
  clear hS;obtain⟨i,hi,rfl,hS,hNo⟩:=hrel
  by_cases hi4:i<4
  ·obtain⟨p,hp⟩: ∃p,P i=p:=⟨_,rfl⟩
   obtain⟨e,he⟩: ∃e,E i=e:=⟨_,rfl⟩;obtain⟨e2,he2⟩: ∃e,E2 i=e:=⟨_,rfl⟩;have hpi:=hP.out i hi4;have hei:=hE.out i hi4;have he2i:=hE2.out i hi4;rw[hp] at hpi hei he2i;rw[he] at hei;rw[he2] at he2i;have hFi:=hF.out i hi4;rw[he,he2] at hFi;obtain⟨pd,hpd⟩: ∃e,IntKind.i64.wrap (p+D)=e:=⟨_,rfl⟩;rw[hpd] at he2i;obtain⟨pd1,hpd1⟩: ∃e,IntKind.i64.wrap (pd-1)=e:=⟨_,rfl⟩;rw[hpd1] at he2i;replace hp:Hid _:=hp;replace he:Hid _:=he;replace he2:Hid _:=he2;replace hFi:Hid _:=hFi;obtain⟨bz,qf,qgFo,ry⟩:=hS;have c101:=qf.c 4 rfl;have c102:=qf.c 5 rfl;have c103:=qf.c 6 rfl;have al104:=af wr (.cells #[yi L,yi G,yi L1,yi NDeg] 3);have q105:=ah wr [yi L,yi G,yi L1,yi NDeg] 3;have q106:=qf.l al104;have q107:=qgFo.l al104;have r108:=ry.l al104;have b109:=aa bz al104;have c110:=q105.c i hpi;have hS2:SrW w adFo adGo (yhL f0 f1 f2 R D L G gr fam) (yhL g0 g1 g2 R2 D2 L2 G2 gr2 fam2) (yS yo A yc) A (wr.alloc (.cells #[yi L,yi G,yi L1,yi NDeg] 3)):=⟨b109,q106,q107,r108⟩
   go_upto_region 21 with fail
   clear q106 q107 q105 r108 b109 c110 qf qgFo ry bz al104;generalize(wr.alloc (.cells #[yi L,yi G,yi L1,yi NDeg] 3))=ws at hS2⊢
   go_wp2
   simp only[show decide ((i:Int)<4)=true from decide_eq_true (by omega)]
   go_loopw [20] (fun jv wr=> ∃q:Nat,q≤wd∧jv=yi (q:Int)∧SrW w adFo adGo (yhL f0 f1 f2 R D L G gr fam) (yhL g0 g1 g2 R2 D2 L2 G2 gr2 fam2) (yS yo A yc) A wr∧NonI (u i) (v i) q) (fun jv _=>wd-(intOf jv).toNat)
   case atStart=>exact⟨0,by omega,rfl,hS2,fun k hk=>absurd hk (by omega)⟩
   case round=>
    clear hS2;obtain⟨q,hq,rfl,hS,hN⟩:=hrel
    by_cases hlt:q<wd
    ·have HDa:Hid _:=HDn.out q hlt
     have HBa:Hid _:=HBr.out i q hi4 hlt;have HIa:Hid _:=HI.out i q hi4 hlt;have HJa:Hid _:=HJ.out i q hi4 hlt;obtain⟨bz,qf,qgFo,ry⟩:=hS;obtain⟨mq,hmq⟩: ∃m,M q=m:=⟨_,rfl⟩;obtain⟨x,hx⟩: ∃x,X i q=x:=⟨_,rfl⟩;replace HDa:=HDa.out;replace HBa:=HBa.out;replace HIa:=HIa.out;replace HJa:=HJa.out;rw[hmq] at HDa HBa;rw[hx] at HBa HIa HJa;rw[he.out] at HBa;clear hmq hx
     cases h1:u i q
     ·rw[h1] at HIa
      replace h1:Hid _:=h1;replace HDa:Hid _:=HDa;replace HBa:Hid _:=HBa;replace HIa:Hid _:=HIa;replace HJa:Hid _:=HJa
      go_wp2_with fail
      refine(HDa.out _ _ _ ry).mono ?_;rintro zz w201 ⟨v1x203,rfl,r1x204,bb202⟩;have q205:=qf.l bb202;have q206:=qgFo.l bb202;have r207:=ry.l bb202;have b208:=aa bz bb202;obtain⟨mo,mc,hv⟩:=r1x204.shape;subst hv;clear qf qgFo ry bz bb202 HDa
      go_wp2_with fail
      refine(HBa.out _ _ _ r1x204).mono ?_;rintro zz w209 ⟨v1x211,rfl,r1x212,bb210⟩;have q213:=q205.l bb210;have q214:=q206.l bb210;have r215:=r207.l bb210;have b216:=aa b208 bb210;obtain⟨xo,xc,hv⟩:=r1x212.shape;subst hv;clear q205 q206 r207 r1x204 b208 bb210 HBa;obtain⟨W219,hW218,q220,al217⟩:=cA w209 (yML x xo xc) 30;replace hW218:Hid _:=hW218;have hl221:w.heap.size≤w209.heap.size:=b216.size;have hl222:=q213.lt;have hl223:=q214.lt;have q224:=q213.l al217;have q225:=q214.l al217;have r226:=r215.l al217;have r227:=r1x212.l al217;have b228:=aa b216 al217;clear q213 q214 r215 r1x212 b216 al217
      go_upto_region 25 with fail
      rw[hW218.out];clear hW218;have c229:=q224.c 3 rfl;have c230:=q224.c 4 rfl;have c231:=q224.c 5 rfl;have c232:=q224.c 6 rfl;have c233:=q224.c 7 rfl;obtain⟨c234,c235,c236⟩:=q220.cs3
      go_wp2_with fail
      refine(HIa.out _ _ _ r227).mono ?_;rintro zz w237 ⟨rfl,bb238⟩;have q239:=q224.l bb238;have q240:=q225.l bb238;have r241:=r226.l bb238;have b242:=aa b228 bb238;clear q224 q225 q220 r226 r227 b228 bb238 HIa c229 c230 c231 c232 c233 c234 c235 c236
      go_wp2
      go_roundw
      case rel=>exact⟨q+1,by omega,by go_num,⟨b242,q239,q240,r241⟩,nonI_next hN (by rw[h1.out];rfl)⟩
      case measure=>simp[intOf];omega
     ·rw[h1] at HIa
      cases h2:v i q
      ·rw[h2] at HJa
       replace h1:Hid _:=h1;replace h2:Hid _:=h2;replace HDa:Hid _:=HDa;replace HBa:Hid _:=HBa;replace HIa:Hid _:=HIa;replace HJa:Hid _:=HJa
       go_wp2_with fail
       refine(HDa.out _ _ _ ry).mono ?_;rintro zz w201 ⟨v1x203,rfl,r1x204,bb202⟩;have q205:=qf.l bb202;have q206:=qgFo.l bb202;have b207:=aa bz bb202;obtain⟨mo,mc,hv⟩:=r1x204.shape;subst hv;clear qf qgFo ry bz bb202 HDa
       go_wp2_with fail
       refine(HBa.out _ _ _ r1x204).mono ?_;rintro zz w208 ⟨v1x210,rfl,r1x211,bb209⟩;have q212:=q205.l bb209;have q213:=q206.l bb209;have b214:=aa b207 bb209;obtain⟨xo,xc,hv⟩:=r1x211.shape;subst hv;clear q205 q206 r1x204 b207 bb209 HBa;obtain⟨W217,hW216,q218,al215⟩:=cA w208 (yML x xo xc) 30;replace hW216:Hid _:=hW216;have hl219:w.heap.size≤w208.heap.size:=b214.size;have hl220:=q212.lt;have hl221:=q213.lt;have q222:=q212.l al215;have q223:=q213.l al215;have r224:=r1x211.l al215;have b225:=aa b214 al215;clear q212 q213 r1x211 b214 al215
       go_upto_region 25 with fail
       rw[hW216.out];clear hW216;have c226:=q222.c 3 rfl;have c227:=q222.c 4 rfl;have c228:=q222.c 5 rfl;have c229:=q222.c 6 rfl;have c230:=q222.c 7 rfl;obtain⟨c231,c232,c233⟩:=q218.cs3
       go_wp2_with fail
       refine(HIa.out _ _ _ r224).mono ?_;rintro zz w234 ⟨rfl,bb235⟩;have q236:=q223.l bb235;have q237:=q218.l bb235;have r238:=r224.l bb235;have b239:=aa b225 bb235;clear q222 q223 q218 r224 b225 bb235 HIa c226 c227 c228 c229 c230 c231 c232 c233;have c240:=q236.c 3 rfl;have c241:=q236.c 4 rfl;have c242:=q236.c 5 rfl;have c243:=q236.c 6 rfl;have c244:=q236.c 7 rfl;obtain⟨c245,c246,c247⟩:=q237.cs3
       go_wp2_with fail
       refine(HJa.out _ _ _ r238).mono ?_;rintro zz w248 ⟨rfl,bb249⟩;have b250:=aa b239 bb249;clear q236 q237 r238 b239 bb249 HJa c240 c241 c242 c243 c244 c245 c246 c247
       go_wp2
       go_ret
       exact⟨by simp,b250⟩
      ·rw[h2] at HJa
       replace h1:Hid _:=h1;replace h2:Hid _:=h2;replace HDa:Hid _:=HDa;replace HBa:Hid _:=HBa;replace HIa:Hid _:=HIa;replace HJa:Hid _:=HJa
       go_wp2_with fail
       refine(HDa.out _ _ _ ry).mono ?_;rintro zz w201 ⟨v1x203,rfl,r1x204,bb202⟩;have q205:=qf.l bb202;have q206:=qgFo.l bb202;have r207:=ry.l bb202;have b208:=aa bz bb202;obtain⟨mo,mc,hv⟩:=r1x204.shape;subst hv;clear qf qgFo ry bz bb202 HDa
       go_wp2_with fail
       refine(HBa.out _ _ _ r1x204).mono ?_;rintro zz w209 ⟨v1x211,rfl,r1x212,bb210⟩;have q213:=q205.l bb210;have q214:=q206.l bb210;have r215:=r207.l bb210;have b216:=aa b208 bb210;obtain⟨xo,xc,hv⟩:=r1x212.shape;subst hv;clear q205 q206 r207 r1x204 b208 bb210 HBa;obtain⟨W219,hW218,q220,al217⟩:=cA w209 (yML x xo xc) 30;replace hW218:Hid _:=hW218;have hl221:w.heap.size≤w209.heap.size:=b216.size;have hl222:=q213.lt;have hl223:=q214.lt;have q224:=q213.l al217;have q225:=q214.l al217;have r226:=r215.l al217;have r227:=r1x212.l al217;have b228:=aa b216 al217;clear q213 q214 r215 r1x212 b216 al217
       go_upto_region 25 with fail
       rw[hW218.out];clear hW218;have c229:=q224.c 3 rfl;have c230:=q224.c 4 rfl;have c231:=q224.c 5 rfl;have c232:=q224.c 6 rfl;have c233:=q224.c 7 rfl;obtain⟨c234,c235,c236⟩:=q220.cs3
       go_wp2_with fail
       refine(HIa.out _ _ _ r227).mono ?_;rintro zz w237 ⟨rfl,bb238⟩;have q239:=q224.l bb238;have q240:=q225.l bb238;have q241:=q220.l bb238;have r242:=r226.l bb238;have r243:=r227.l bb238;have b244:=aa b228 bb238;clear q224 q225 q220 r226 r227 b228 bb238 HIa c229 c230 c231 c232 c233 c234 c235 c236;have c245:=q240.c 3 rfl;have c246:=q240.c 4 rfl;have c247:=q240.c 5 rfl;have c248:=q240.c 6 rfl;have c249:=q240.c 7 rfl;obtain⟨c250,c251,c252⟩:=q241.cs3
       go_wp2_with fail
       refine(HJa.out _ _ _ r243).mono ?_;rintro zz w253 ⟨rfl,bb254⟩;have q255:=q239.l bb254;have q256:=q240.l bb254;have r257:=r242.l bb254;have b258:=aa b244 bb254;clear q239 q240 q241 r242 r243 b244 bb254 HJa c245 c246 c247 c248 c249 c250 c251 c252
       go_wp2
       go_roundw
       case rel=>exact⟨q+1,by omega,by go_num,⟨b258,q255,q256,r257⟩,nonI_next hN (by rw[h1.out,h2.out];rfl)⟩
       case measure=>simp[intOf];omega
    ·obtain rfl:q=wd:=by omega
     obtain⟨bz,qf,qgFo,ry⟩:=hS;have HKa:=HK.out i hi4;have HMa:=HM.out i hi4;rw[hFi.out] at HKa HMa;clear hFi
     cases gr
     case false=>
      rw[if_neg (by decide)] at HKa HMa
      cases h1:x2 i
      ·rw[h1] at HKa
       replace h1:Hid _:=h1;replace HKa:Hid _:=HKa;replace HMa:Hid _:=HMa;have al301:=af wr (.cells #[yi 1] 3);have q302:=ah wr [yi 1] 3;have q303:=qf.l al301;have q304:=qgFo.l al301;have r305:=ry.l al301;have b306:=aa bz al301;obtain⟨W309,hW308,q310,al307⟩:=cA (wr.alloc (.cells #[yi 1] 3)) (ydL false (.slice (some ⟨wr.heap.size,0,none⟩) 1 1) e2) 30;replace hW308:Hid _:=hW308;have hl311:w.heap.size≤(wr.alloc (.cells #[yi 1] 3)).heap.size:=b306.size;have hl312:=q303.lt;have hl313:=q304.lt;have hl314:=q302.lt;simp only[World.size_alloc] at q310 hl311 hl312 hl313 hl314;have c315:=q303.c 4 rfl;have q316:=q303.l al307;have q317:=q304.l al307;have q318:=q302.l al307;have r319:=r305.l al307;have b320:=aa b306 al307;have hsz321:(wr.alloc (.cells #[yi 1] 3)).heap.size=wr.heap.size+1:=by simp only[World.size_alloc]
       clear q303 q304 q302 b306 qf qgFo ry bz al301
       go_upto_region 28 with fail
       rw[hW308.out];clear c315 hW308;have c322:=q316.c 3 rfl;have c323:=q316.c 4 rfl;have c324:=q316.c 5 rfl;have c325:=q316.c 6 rfl;have c326:=q316.c 7 rfl;obtain⟨c327,c328,c329⟩:=q310.cs3
       go_wp2_with fail
       refine(HKa.out _ _ q318).mono ?_;rintro zz w330 ⟨rfl,bb331⟩;have q332:=q316.l bb331;have q333:=q317.l bb331;have r334:=r319.l bb331;have b335:=aa b320 bb331;have ba336:=aa al307 bb331;clear q316 q317 q318 q310 r319 b320 al307 bb331 HKa c322 c323 c324 c325 c326 c327 c328 c329
       go_wp2
       go_roundw
       case rel=>exact⟨i+1,by omega,by go_num,⟨b335,q332,q333,r334⟩,nonE_next hNo hN (by rw[h1.out];rfl)⟩
       case measure=>simp[intOf];omega
      ·rw[h1] at HKa
       cases h2:y2 i
       ·rw[h2] at HMa
        replace h1:Hid _:=h1;replace h2:Hid _:=h2;replace HKa:Hid _:=HKa;replace HMa:Hid _:=HMa;have al301:=af wr (.cells #[yi 1] 3);have q302:=ah wr [yi 1] 3;have q303:=qf.l al301;have q304:=qgFo.l al301;have b305:=aa bz al301;obtain⟨W308,hW307,q309,al306⟩:=cA (wr.alloc (.cells #[yi 1] 3)) (ydL false (.slice (some ⟨wr.heap.size,0,none⟩) 1 1) e2) 30;replace hW307:Hid _:=hW307;have hl310:w.heap.size≤(wr.alloc (.cells #[yi 1] 3)).heap.size:=b305.size;have hl311:=q303.lt;have hl312:=q304.lt;have hl313:=q302.lt;simp only[World.size_alloc] at q309 hl310 hl311 hl312 hl313;have c314:=q303.c 4 rfl;have q315:=q303.l al306;have q316:=q304.l al306;have q317:=q302.l al306;have b318:=aa b305 al306;have hsz319:(wr.alloc (.cells #[yi 1] 3)).heap.size=wr.heap.size+1:=by simp only[World.size_alloc]
        clear q303 q304 q302 b305 qf qgFo ry bz al301
        go_upto_region 28 with fail
        rw[hW307.out];clear c314 hW307;have c320:=q315.c 3 rfl;have c321:=q315.c 4 rfl;have c322:=q315.c 5 rfl;have c323:=q315.c 6 rfl;have c324:=q315.c 7 rfl;obtain⟨c325,c326,c327⟩:=q309.cs3
        go_wp2_with fail
        refine(HKa.out _ _ q317).mono ?_;rintro zz w328 ⟨rfl,bb329⟩;have q330:=q316.l bb329;have q331:=q317.l bb329;have q332:=q309.l bb329;have b333:=aa b318 bb329;have ba334:=aa al306 bb329;clear q315 q316 q317 q309 b318 al306 bb329 HKa c320 c321 c322 c323 c324 c325 c326 c327;have c335:=q330.c 3 rfl;have c336:=q330.c 4 rfl;have c337:=q330.c 5 rfl;have c338:=q330.c 6 rfl;have c339:=q330.c 7 rfl;obtain⟨c340,c341,c342⟩:=q332.cs3
        go_wp2_with fail
        refine(HMa.out _ _ q331).mono ?_;rintro zz w343 ⟨rfl,bb344⟩;have b345:=aa b333 bb344;have ba346:=aa ba334 bb344;clear q330 q331 q332 b333 ba334 bb344 HMa c335 c336 c337 c338 c339 c340 c341 c342
        go_wp2
        go_ret
        exact⟨by simp,b345⟩
       ·rw[h2] at HMa
        replace h1:Hid _:=h1;replace h2:Hid _:=h2;replace HKa:Hid _:=HKa;replace HMa:Hid _:=HMa;have al301:=af wr (.cells #[yi 1] 3);have q302:=ah wr [yi 1] 3;have q303:=qf.l al301;have q304:=qgFo.l al301;have r305:=ry.l al301;have b306:=aa bz al301;obtain⟨W309,hW308,q310,al307⟩:=cA (wr.alloc (.cells #[yi 1] 3)) (ydL false (.slice (some ⟨wr.heap.size,0,none⟩) 1 1) e2) 30;replace hW308:Hid _:=hW308;have hl311:w.heap.size≤(wr.alloc (.cells #[yi 1] 3)).heap.size:=b306.size;have hl312:=q303.lt;have hl313:=q304.lt;have hl314:=q302.lt;simp only[World.size_alloc] at q310 hl311 hl312 hl313 hl314;have c315:=q303.c 4 rfl;have q316:=q303.l al307;have q317:=q304.l al307;have q318:=q302.l al307;have r319:=r305.l al307;have b320:=aa b306 al307;have hsz321:(wr.alloc (.cells #[yi 1] 3)).heap.size=wr.heap.size+1:=by simp only[World.size_alloc]
        clear q303 q304 q302 b306 qf qgFo ry bz al301
        go_upto_region 28 with fail
        rw[hW308.out];clear c315 hW308;have c322:=q316.c 3 rfl;have c323:=q316.c 4 rfl;have c324:=q316.c 5 rfl;have c325:=q316.c 6 rfl;have c326:=q316.c 7 rfl;obtain⟨c327,c328,c329⟩:=q310.cs3
        go_wp2_with fail
        refine(HKa.out _ _ q318).mono ?_;rintro zz w330 ⟨rfl,bb331⟩;have q332:=q316.l bb331;have q333:=q317.l bb331;have q334:=q318.l bb331;have q335:=q310.l bb331;have r336:=r319.l bb331;have b337:=aa b320 bb331;have ba338:=aa al307 bb331;clear q316 q317 q318 q310 r319 b320 al307 bb331 HKa c322 c323 c324 c325 c326 c327 c328 c329;have c339:=q333.c 3 rfl;have c340:=q333.c 4 rfl;have c341:=q333.c 5 rfl;have c342:=q333.c 6 rfl;have c343:=q333.c 7 rfl;obtain⟨c344,c345,c346⟩:=q335.cs3
        go_wp2_with fail
        refine(HMa.out _ _ q334).mono ?_;rintro zz w347 ⟨rfl,bb348⟩;have q349:=q332.l bb348;have q350:=q333.l bb348;have r351:=r336.l bb348;have b352:=aa b337 bb348;have ba353:=aa ba338 bb348;clear q332 q333 q334 q335 r336 b337 ba338 bb348 HMa c339 c340 c341 c342 c343 c344 c345 c346
        go_wp2
        go_roundw
        case rel=>exact⟨i+1,by omega,by go_num,⟨b352,q349,q350,r351⟩,nonE_next hNo hN (by rw[h1.out,h2.out];rfl)⟩
        case measure=>simp[intOf];omega
     case true=>
      rw[if_pos rfl] at HKa HMa
      cases h1:x2 i
      ·rw[h1] at HKa
       replace h1:Hid _:=h1;replace HKa:Hid _:=HKa;replace HMa:Hid _:=HMa;have al301:=af wr (.cells #[yi 1] 3);have q302:=ah wr [yi 1] 3;have q303:=qf.l al301;have q304:=qgFo.l al301;have r305:=ry.l al301;have b306:=aa bz al301;obtain⟨W309,hW308,q310,al307⟩:=cA (wr.alloc (.cells #[yi 1] 3)) (ydL false (.slice (some ⟨wr.heap.size,0,none⟩) 1 1) e2) 30;replace hW308:Hid _:=hW308;have hl311:w.heap.size≤(wr.alloc (.cells #[yi 1] 3)).heap.size:=b306.size;have hl312:=q303.lt;have hl313:=q304.lt;have hl314:=q302.lt;simp only[World.size_alloc] at q310 hl311 hl312 hl313 hl314;have c315:=q303.c 4 rfl;have q316:=q303.l al307;have q317:=q304.l al307;have q318:=q302.l al307;have r319:=r305.l al307;have b320:=aa b306 al307;have hsz321:(wr.alloc (.cells #[yi 1] 3)).heap.size=wr.heap.size+1:=by simp only[World.size_alloc]
       clear q303 q304 q302 b306 qf qgFo ry bz al301
       go_upto_region 28 with fail
       rw[hW308.out];clear c315 hW308;have c323:=q316.c 7 rfl;have bu:=ag W309 (wr.heap.size+1) 2 (yi e);have q322:au (W309.setCell ⟨wr.heap.size+1,2,none⟩ (yi e)) (wr.heap.size+1) 30 (ydL false (.slice (some ⟨wr.heap.size,0,none⟩) 1 1) e):=(q310.set 2 (yi e));have c324:=q310.c 2 rfl;have y325:=q310.f 2;have q326:=bu.loc q316 (by omega);have q327:=bu.loc q317 (by omega);have q328:=bu.loc q318 (by omega);have ba329:=bu.below al307 (by omega);have r330:=r305.l ba329;have b331:=bu.below b320 (by omega);clear bu
       go_upto_region 30 with fail
       generalize W309.setCell ⟨wr.heap.size+1,2,none⟩ (yi e)=W332 at q326 q327 q328 q322 r330 b331 ba329⊢;clear q310 q316 q317 q318 r319 al307 b320 c323 c324 y325;have c333:=q326.c 3 rfl;have c334:=q326.c 4 rfl;have c335:=q326.c 5 rfl;have c336:=q326.c 6 rfl;have c337:=q326.c 7 rfl;obtain⟨c338,c339,c340⟩:=q322.cs3
       go_wp2_with fail
       refine(HKa.out _ _ q328).mono ?_;rintro zz w341 ⟨rfl,bb342⟩;have q343:=q326.l bb342;have q344:=q327.l bb342;have r345:=r330.l bb342;have b346:=aa b331 bb342;have ba347:=aa ba329 bb342;clear q326 q327 q328 q322 r330 b331 ba329 bb342 HKa c333 c334 c335 c336 c337 c338 c339 c340
       go_wp2
       go_roundw
       case rel=>exact⟨i+1,by omega,by go_num,⟨b346,q343,q344,r345⟩,nonE_next hNo hN (by rw[h1.out];rfl)⟩
       case measure=>simp[intOf];omega
      ·rw[h1] at HKa
       cases h2:y2 i
       ·rw[h2] at HMa
        replace h1:Hid _:=h1;replace h2:Hid _:=h2;replace HKa:Hid _:=HKa;replace HMa:Hid _:=HMa;have al301:=af wr (.cells #[yi 1] 3);have q302:=ah wr [yi 1] 3;have q303:=qf.l al301;have q304:=qgFo.l al301;have b305:=aa bz al301;obtain⟨W308,hW307,q309,al306⟩:=cA (wr.alloc (.cells #[yi 1] 3)) (ydL false (.slice (some ⟨wr.heap.size,0,none⟩) 1 1) e2) 30;replace hW307:Hid _:=hW307;have hl310:w.heap.size≤(wr.alloc (.cells #[yi 1] 3)).heap.size:=b305.size;have hl311:=q303.lt;have hl312:=q304.lt;have hl313:=q302.lt;simp only[World.size_alloc] at q309 hl310 hl311 hl312 hl313;have c314:=q303.c 4 rfl;have q315:=q303.l al306;have q316:=q304.l al306;have q317:=q302.l al306;have b318:=aa b305 al306;have hsz319:(wr.alloc (.cells #[yi 1] 3)).heap.size=wr.heap.size+1:=by simp only[World.size_alloc]
        clear q303 q304 q302 b305 qf qgFo ry bz al301
        go_upto_region 28 with fail
        rw[hW307.out];clear c314 hW307;have c321:=q315.c 7 rfl;have bu:=ag W308 (wr.heap.size+1) 2 (yi e);have q320:au (W308.setCell ⟨wr.heap.size+1,2,none⟩ (yi e)) (wr.heap.size+1) 30 (ydL false (.slice (some ⟨wr.heap.size,0,none⟩) 1 1) e):=(q309.set 2 (yi e));have c322:=q309.c 2 rfl;have y323:=q309.f 2;have q324:=bu.loc q315 (by omega);have q325:=bu.loc q316 (by omega);have q326:=bu.loc q317 (by omega);have b327:=bu.below b318 (by omega);clear bu
        go_upto_region 30 with fail
        generalize W308.setCell ⟨wr.heap.size+1,2,none⟩ (yi e)=W328 at q324 q325 q326 q320 b327⊢;clear q309 q315 q316 q317 b318 al306 c321 c322 y323;have c329:=q324.c 3 rfl;have c330:=q324.c 4 rfl;have c331:=q324.c 5 rfl;have c332:=q324.c 6 rfl;have c333:=q324.c 7 rfl;obtain⟨c334,c335,c336⟩:=q320.cs3
        go_wp2_with fail
        refine(HKa.out _ _ q326).mono ?_;rintro zz w337 ⟨rfl,bb338⟩;have q339:=q325.l bb338;have q340:=q326.l bb338;have q341:=q320.l bb338;have b342:=aa b327 bb338;clear q324 q325 q326 q320 b327 bb338 HKa c329 c330 c331 c332 c333 c334 c335 c336;have c343:=q339.c 3 rfl;have c344:=q339.c 4 rfl;have c345:=q339.c 5 rfl;have c346:=q339.c 6 rfl;have c347:=q339.c 7 rfl;obtain⟨c348,c349,c350⟩:=q341.cs3
        go_wp2_with fail
        refine(HMa.out _ _ q340).mono ?_;rintro zz w351 ⟨rfl,bb352⟩;have b353:=aa b342 bb352;clear q339 q340 q341 b342 bb352 HMa c343 c344 c345 c346 c347 c348 c349 c350
        go_wp2
        go_ret
        exact⟨by simp,b353⟩
       ·rw[h2] at HMa
        replace h1:Hid _:=h1;replace h2:Hid _:=h2;replace HKa:Hid _:=HKa;replace HMa:Hid _:=HMa;have al301:=af wr (.cells #[yi 1] 3);have q302:=ah wr [yi 1] 3;have q303:=qf.l al301;have q304:=qgFo.l al301;have r305:=ry.l al301;have b306:=aa bz al301;obtain⟨W309,hW308,q310,al307⟩:=cA (wr.alloc (.cells #[yi 1] 3)) (ydL false (.slice (some ⟨wr.heap.size,0,none⟩) 1 1) e2) 30;replace hW308:Hid _:=hW308;have hl311:w.heap.size≤(wr.alloc (.cells #[yi 1] 3)).heap.size:=b306.size;have hl312:=q303.lt;have hl313:=q304.lt;have hl314:=q302.lt;simp only[World.size_alloc] at q310 hl311 hl312 hl313 hl314;have c315:=q303.c 4 rfl;have q316:=q303.l al307;have q317:=q304.l al307;have q318:=q302.l al307;have r319:=r305.l al307;have b320:=aa b306 al307;have hsz321:(wr.alloc (.cells #[yi 1] 3)).heap.size=wr.heap.size+1:=by simp only[World.size_alloc]
        clear q303 q304 q302 b306 qf qgFo ry bz al301
        go_upto_region 28 with fail
        rw[hW308.out];clear c315 hW308;have c323:=q316.c 7 rfl;have bu:=ag W309 (wr.heap.size+1) 2 (yi e);have q322:au (W309.setCell ⟨wr.heap.size+1,2,none⟩ (yi e)) (wr.heap.size+1) 30 (ydL false (.slice (some ⟨wr.heap.size,0,none⟩) 1 1) e):=(q310.set 2 (yi e));have c324:=q310.c 2 rfl;have y325:=q310.f 2;have q326:=bu.loc q316 (by omega);have q327:=bu.loc q317 (by omega);have q328:=bu.loc q318 (by omega);have ba329:=bu.below al307 (by omega);have r330:=r305.l ba329;have b331:=bu.below b320 (by omega);clear bu
        go_upto_region 30 with fail
        generalize W309.setCell ⟨wr.heap.size+1,2,none⟩ (yi e)=W332 at q326 q327 q328 q322 r330 b331 ba329⊢;clear q310 q316 q317 q318 r319 al307 b320 c323 c324 y325;have c333:=q326.c 3 rfl;have c334:=q326.c 4 rfl;have c335:=q326.c 5 rfl;have c336:=q326.c 6 rfl;have c337:=q326.c 7 rfl;obtain⟨c338,c339,c340⟩:=q322.cs3
        go_wp2_with fail
        refine(HKa.out _ _ q328).mono ?_;rintro zz w341 ⟨rfl,bb342⟩;have q343:=q326.l bb342;have q344:=q327.l bb342;have q345:=q328.l bb342;have q346:=q322.l bb342;have r347:=r330.l bb342;have b348:=aa b331 bb342;have ba349:=aa ba329 bb342;clear q326 q327 q328 q322 r330 b331 ba329 bb342 HKa c333 c334 c335 c336 c337 c338 c339 c340;have c350:=q344.c 3 rfl;have c351:=q344.c 4 rfl;have c352:=q344.c 5 rfl;have c353:=q344.c 6 rfl;have c354:=q344.c 7 rfl;obtain⟨c355,c356,c357⟩:=q346.cs3
        go_wp2_with fail
        refine(HMa.out _ _ q345).mono ?_;rintro zz w358 ⟨rfl,bb359⟩;have q360:=q343.l bb359;have q361:=q344.l bb359;have r362:=r347.l bb359;have b363:=aa b348 bb359;have ba364:=aa ba349 bb359;clear q343 q344 q345 q346 r347 b348 ba349 bb359 HMa c350 c351 c352 c353 c354 c355 c356 c357
        go_wp2
        go_roundw
        case rel=>exact⟨i+1,by omega,by go_num,⟨b363,q360,q361,r362⟩,nonE_next hNo hN (by rw[h1.out,h2.out];rfl)⟩
        case measure=>simp[intOf];omega
  ·obtain rfl:i=4:=by omega
   exact(hno.out hNo).elim
theorem exacts_s2 (cx:Int)(gx ng:Bool)(x:ak)(wd pn A:Nat)(PW L1 NDeg:Int)(P E E2 F:Nat→Int)(M:Nat→Nat)(X:Nat→Nat→ak)(u v:Nat→Nat→Bool)(x2 y2:Nat→Bool)(n j f0 f1 f2 R D L G fam g0 g1 g2 R2 D2 L2 G2 fam2:Int)(gr gr2:Bool)(s:ByteArray)(w:World)
  (hPW:IntKind.i64.wrap ((wd:Int)*D)=PW) (hL1:IntKind.i64.wrap (L+1)=L1) (hND:IntKind.i64.wrap (-D)=NDeg) (hwd:1≤wd∧wd≤4)
  (hP: ∀i,i<4→[Value.int .i64 L,yi G,yi L1,yi NDeg][i]? =some (yi (P i)))
  (hE: ∀i,i<4→IntKind.i64.wrap ((wd:Int)*P i)=E i)
  (hE2: ∀i,i<4→IntKind.i64.wrap ((wd:Int)*IntKind.i64.wrap (IntKind.i64.wrap (P i+D)-1))=E2 i)
  (hF: ∀i,i<4→F i=if gr=true then E i else E2 i)
  (hno:NonE u v x2 y2 wd 4→False)
  (HA:yH w 17 #[yi n,yi j] (.tuple #[.bool false,yi 0]))
  (HF:yJ 18 #[yi n] (.tuple #[yhV f0 f1 f2 R D L G gr fam,.bool true]))
  (HG:yJ 18 #[yi j] (.tuple #[yhV g0 g1 g2 R2 D2 L2 G2 gr2 fam2,.bool true]))
  (HB:yH w 16 #[] (.bool true))
  (HO:yJ 19 #[yi n,.string s] (yi 0))
  (HD: ∀w1,yC 20 #[yi n,.string s] w1 (JV w1 cx gx x ng))
  (HW:yJ 22 #[ygV R D L G gr] (yi wd))
  (HP: ∀w1,yC 13 #[yi PW] w1 (cG w1 pn))
  (HL: ∀po pc q w1,Rd w1 .i64 (yS po pn pc) (Dg.dg 65536 pn)→au w1 q 3 [yi 1]→yC 23 #[yS po pn pc,.slice (some ⟨q,0,none⟩) 1 1] w1 (cG w1 A))
  (HDn: ∀q:Nat,q<wd→ ∀yo yc w1,Rd w1 .i64 (yS yo A yc) (Dg.dg 65536 A)→yC 25 #[yS yo A yc,yi (q:Int)] w1 (cG w1 (M q)))
  (HBr: ∀i q:Nat,i<4→q<wd→ ∀mo mc w1,Rd w1 .i64 (.slice mo (Dg.dg 65536 (M q)).length mc) (Dg.dg 65536 (M q))→yC 24 #[ydV false (.slice mo (Dg.dg 65536 (M q)).length mc) (E i)] w1 (dr w1 (X i q)))
  (HI: ∀i q:Nat,i<4→q<wd→ ∀xo xc w1,Rd w1 .i64 (.slice xo (Dg.dg 65536 (X i q).n).length xc) (Dg.dg 65536 (X i q).n)→yC 21 #[.agg #[.bool (X i q).s,.slice xo (Dg.dg 65536 (X i q).n).length xc,yi (X i q).e],ygV R D L G gr] w1 (yR w1 (.bool (u i q))))
  (HJ: ∀i q:Nat,i<4→q<wd→ ∀xo xc w1,Rd w1 .i64 (.slice xo (Dg.dg 65536 (X i q).n).length xc) (Dg.dg 65536 (X i q).n)→yC 21 #[.agg #[.bool (X i q).s,.slice xo (Dg.dg 65536 (X i q).n).length xc,yi (X i q).e],ygV R2 D2 L2 G2 gr2] w1 (yR w1 (.bool (v i q))))
  (HK: ∀i:Nat,i<4→ ∀q w1,au w1 q 3 [yi 1]→yC 21 #[ydV false (.slice (some ⟨q,0,none⟩) 1 1) (F i),ygV R D L G gr] w1 (yR w1 (.bool (x2 i))))
  (HM: ∀i:Nat,i<4→ ∀q w1,au w1 q 3 [yi 1]→yC 21 #[ydV false (.slice (some ⟨q,0,none⟩) 1 1) (F i),ygV R2 D2 L2 G2 gr2] w1 (yR w1 (.bool (y2 i)))):
  yC 4 #[yi n,yi j,.string s] w (yR w (.bool true)):=by
 replace HA:Hid _:=HA;replace HF:Hid _:=HF;replace HG:Hid _:=HG;replace HB:Hid _:=HB;replace HO:Hid _:=HO;replace HD:Hid _:=HD;replace hP:Hid _:=hP;replace hE:Hid _:=hE;replace hE2:Hid _:=hE2;replace hF:Hid _:=hF;replace hno:Hid _:=hno;replace HW:Hid _:=HW;replace HP:Hid _:=HP;replace HL:Hid _:=HL;replace HDn:Hid _:=HDn;replace HBr:Hid _:=HBr;replace HI:Hid _:=HI;replace HJ:Hid _:=HJ;replace HK:Hid _:=HK;replace HM:Hid _:=HM
 go_enter func4,ntmps4
 have b0:=Below.refl w.heap.size w
 go_wp2_with fail
 refine(HA.out _ b0).mono ?_;rintro zz w1 ⟨rfl,bb2⟩;have b3:=aa b0 bb2;clear b0 bb2 HA
 go_wp2_with fail
 refine(HF.out _).mono ?_;rintro zz w4 ⟨rfl,bb5⟩;have b6:=aa b3 bb5;clear b3 bb5 HF;obtain⟨W9,hW8,q10,al7⟩:=cA w4 (yhL f0 f1 f2 R D L G gr fam) 51;replace hW8:Hid _:=hW8;have hl11:w.heap.size≤w4.heap.size:=b6.size;have b12:=aa b6 al7;clear b6 al7
 go_upto_region 3 with fail
 rw[hW8.out];clear hW8
 go_wp2_with fail
 refine(HG.out _).mono ?_;rintro zz w13 ⟨rfl,bb14⟩;have q15:=q10.l bb14;have b16:=aa b12 bb14;clear q10 b12 bb14 HG;obtain⟨W19,hW18,q20,al17⟩:=cA w13 (yhL g0 g1 g2 R2 D2 L2 G2 gr2 fam2) 51;replace hW18:Hid _:=hW18;have hl21:w.heap.size≤w13.heap.size:=b16.size;have hl22:=q15.lt;have q23:=q15.l al17;have b24:=aa b16 al17;clear q15 b16 al17
 go_upto_region 4 with fail
 rw[hW18.out];clear hW18
 go_wp2_with fail
 refine(HB.out _ b24).mono ?_;rintro zz w25 ⟨rfl,bb26⟩;have q27:=q23.l bb26;have q28:=q20.l bb26;have b29:=aa b24 bb26;clear q23 q20 b24 bb26 HB
 go_wp2_with fail
 refine(HO.out _).mono ?_;rintro zz w30 ⟨rfl,bb31⟩;have q32:=q27.l bb31;have q33:=q28.l bb31;have b34:=aa b29 bb31;clear q27 q28 b29 bb31 HO
 go_wp2_with fail
 refine(HD.out _).mono ?_;rintro zz w35 ⟨v1x37,rfl,r1x38,bb36,-⟩;have q39:=q32.l bb36;have q40:=q33.l bb36;have b41:=aa b34 bb36;obtain⟨xo,xc,hv⟩:=r1x38.shape;subst hv;clear q32 q33 b34 bb36 HD;obtain⟨W44,hW43,q45,al42⟩:=cA w35 (yEL cx gx x xo xc) 32;replace hW43:Hid _:=hW43;have hl46:w.heap.size≤w35.heap.size:=b41.size;have hl47:=q39.lt;have hl48:=q40.lt;have q49:=q39.l al42;have q50:=q40.l al42;have b51:=aa b41 al42;clear q39 q40 r1x38 b41 al42 q45
 go_upto_region 11 with fail
 rw[hW43.out];clear hW43;have c52:=q49.c 3 rfl;have c53:=q49.c 4 rfl;have c54:=q49.c 5 rfl;have c55:=q49.c 6 rfl;have c56:=q49.c 7 rfl
 go_wp2_with fail
 refine(HW.out _).mono ?_;rintro zz w57 ⟨rfl,bb58⟩;have q59:=q49.l bb58;have q60:=q50.l bb58;have b61:=aa b51 bb58;clear q49 q50 b51 bb58 HW c52 c53 c54 c55 c56;have c62:=q59.c 4 rfl
 go_wp2_with fail
 refine(HP.out _).mono ?_;rintro zz w63 ⟨v1x65,rfl,r1x66,bb64⟩;have q67:=q59.l bb64;have q68:=q60.l bb64;have b69:=aa b61 bb64;obtain⟨po,pc,hv⟩:=r1x66.shape;subst hv;clear q59 q60 b61 bb64 HP c62;have al70:=af w63 (.cells #[yi 1] 3);have q71:=ah w63 [yi 1] 3;have q72:=q67.l al70;have q73:=q68.l al70;have r74:=r1x66.l al70;have b75:=aa b69 al70
 go_wp2_with fail
 refine(HL.out _ _ _ _ r74 q71).mono ?_;rintro zz w76 ⟨v1x78,rfl,r1x79,bb77⟩;have q80:=q72.l bb77;have q81:=q73.l bb77;have b82:=aa b75 bb77;obtain⟨yo,yc,hv⟩:=r1x79.shape;subst hv;clear q72 q73 q71 r74 b75 bb77 HL q67 q68 r1x66 b69 al70;have hS:SrW w (w4.heap.size) (w13.heap.size) (yhL f0 f1 f2 R D L G gr fam) (yhL g0 g1 g2 R2 D2 L2 G2 gr2 fam2) (yS yo A yc) A w76:=⟨b82,q80,q81,r1x79⟩;clear q80 q81 r1x79 b82;generalize w4.heap.size=adFo at hS⊢;generalize w13.heap.size=adGo at hS⊢;generalize w76=ws at hS⊢
 go_wp2
 go_loopw [18] (fun kv wr=> ∃i:Nat,i≤4∧kv=yi (i:Int)∧SrW w adFo adGo (yhL f0 f1 f2 R D L G gr fam) (yhL g0 g1 g2 R2 D2 L2 G2 gr2 fam2) (yS yo A yc) A wr∧NonE u v x2 y2 wd i) (fun kv _=>4-(intOf kv).toNat)
 case atStart=>exact⟨0,by omega,rfl,hS,fun k hk=>absurd hk (by omega)⟩
 case round=>
  clear hS;obtain⟨i,hi,rfl,hS,hNo⟩:=hrel
  by_cases hi4:i<4
  ·obtain⟨p,hp⟩: ∃p,P i=p:=⟨_,rfl⟩
   obtain⟨e,he⟩: ∃e,E i=e:=⟨_,rfl⟩;obtain⟨e2,he2⟩: ∃e,E2 i=e:=⟨_,rfl⟩;have hpi:=hP.out i hi4;have hei:=hE.out i hi4;have he2i:=hE2.out i hi4;rw[hp] at hpi hei he2i;rw[he] at hei;rw[he2] at he2i;have hFi:=hF.out i hi4;rw[he,he2] at hFi;obtain⟨pd,hpd⟩: ∃e,IntKind.i64.wrap (p+D)=e:=⟨_,rfl⟩;rw[hpd] at he2i;obtain⟨pd1,hpd1⟩: ∃e,IntKind.i64.wrap (pd-1)=e:=⟨_,rfl⟩;rw[hpd1] at he2i;replace hp:Hid _:=hp;replace he:Hid _:=he;replace he2:Hid _:=he2;replace hFi:Hid _:=hFi;obtain⟨bz,qf,qgFo,ry⟩:=hS;have c101:=qf.c 4 rfl;have c102:=qf.c 5 rfl;have c103:=qf.c 6 rfl;have al104:=af wr (.cells #[yi L,yi G,yi L1,yi NDeg] 3);have q105:=ah wr [yi L,yi G,yi L1,yi NDeg] 3;have q106:=qf.l al104;have q107:=qgFo.l al104;have r108:=ry.l al104;have b109:=aa bz al104;have c110:=q105.c i hpi;have hS2:SrW w adFo adGo (yhL f0 f1 f2 R D L G gr fam) (yhL g0 g1 g2 R2 D2 L2 G2 gr2 fam2) (yS yo A yc) A (wr.alloc (.cells #[yi L,yi G,yi L1,yi NDeg] 3)):=⟨b109,q106,q107,r108⟩
   go_upto_region 21 with fail
   clear q106 q107 q105 r108 b109 c110 qf qgFo ry bz al104;generalize(wr.alloc (.cells #[yi L,yi G,yi L1,yi NDeg] 3))=ws at hS2⊢
   go_wp2
   simp only[show decide ((i:Int)<4)=true from decide_eq_true (by omega)]
   go_loopw [20] (fun jv wr=> ∃q:Nat,q≤wd∧jv=yi (q:Int)∧SrW w adFo adGo (yhL f0 f1 f2 R D L G gr fam) (yhL g0 g1 g2 R2 D2 L2 G2 gr2 fam2) (yS yo A yc) A wr∧NonI (u i) (v i) q) (fun jv _=>wd-(intOf jv).toNat)
   case atStart=>exact⟨0,by omega,rfl,hS2,fun k hk=>absurd hk (by omega)⟩
   case round=>
    clear hS2;obtain⟨q,hq,rfl,hS,hN⟩:=hrel
    by_cases hlt:q<wd
    ·have HDa:Hid _:=HDn.out q hlt
     have HBa:Hid _:=HBr.out i q hi4 hlt;have HIa:Hid _:=HI.out i q hi4 hlt;have HJa:Hid _:=HJ.out i q hi4 hlt;obtain⟨bz,qf,qgFo,ry⟩:=hS;obtain⟨mq,hmq⟩: ∃m,M q=m:=⟨_,rfl⟩;obtain⟨x,hx⟩: ∃x,X i q=x:=⟨_,rfl⟩;replace HDa:=HDa.out;replace HBa:=HBa.out;replace HIa:=HIa.out;replace HJa:=HJa.out;rw[hmq] at HDa HBa;rw[hx] at HBa HIa HJa;rw[he.out] at HBa;clear hmq hx
     cases h1:u i q
     ·rw[h1] at HIa
      replace h1:Hid _:=h1;replace HDa:Hid _:=HDa;replace HBa:Hid _:=HBa;replace HIa:Hid _:=HIa;replace HJa:Hid _:=HJa
      go_wp2_with fail
      refine(HDa.out _ _ _ ry).mono ?_;rintro zz w201 ⟨v1x203,rfl,r1x204,bb202⟩;have q205:=qf.l bb202;have q206:=qgFo.l bb202;have r207:=ry.l bb202;have b208:=aa bz bb202;obtain⟨mo,mc,hv⟩:=r1x204.shape;subst hv;clear qf qgFo ry bz bb202 HDa
      go_wp2_with fail
      refine(HBa.out _ _ _ r1x204).mono ?_;rintro zz w209 ⟨v1x211,rfl,r1x212,bb210⟩;have q213:=q205.l bb210;have q214:=q206.l bb210;have r215:=r207.l bb210;have b216:=aa b208 bb210;obtain⟨xo,xc,hv⟩:=r1x212.shape;subst hv;clear q205 q206 r207 r1x204 b208 bb210 HBa;obtain⟨W219,hW218,q220,al217⟩:=cA w209 (yML x xo xc) 30;replace hW218:Hid _:=hW218;have hl221:w.heap.size≤w209.heap.size:=b216.size;have hl222:=q213.lt;have hl223:=q214.lt;have q224:=q213.l al217;have q225:=q214.l al217;have r226:=r215.l al217;have r227:=r1x212.l al217;have b228:=aa b216 al217;clear q213 q214 r215 r1x212 b216 al217
      go_upto_region 25 with fail
      rw[hW218.out];clear hW218;have c229:=q224.c 3 rfl;have c230:=q224.c 4 rfl;have c231:=q224.c 5 rfl;have c232:=q224.c 6 rfl;have c233:=q224.c 7 rfl;obtain⟨c234,c235,c236⟩:=q220.cs3
      go_wp2_with fail
      refine(HIa.out _ _ _ r227).mono ?_;rintro zz w237 ⟨rfl,bb238⟩;have q239:=q224.l bb238;have q240:=q225.l bb238;have r241:=r226.l bb238;have b242:=aa b228 bb238;clear q224 q225 q220 r226 r227 b228 bb238 HIa c229 c230 c231 c232 c233 c234 c235 c236
      go_wp2
      go_roundw
      case rel=>exact⟨q+1,by omega,by go_num,⟨b242,q239,q240,r241⟩,nonI_next hN (by rw[h1.out];rfl)⟩
      case measure=>simp[intOf];omega
     ·rw[h1] at HIa
      cases h2:v i q
      ·rw[h2] at HJa
       replace h1:Hid _:=h1;replace h2:Hid _:=h2;replace HDa:Hid _:=HDa;replace HBa:Hid _:=HBa;replace HIa:Hid _:=HIa;replace HJa:Hid _:=HJa
       go_wp2_with fail
       refine(HDa.out _ _ _ ry).mono ?_;rintro zz w201 ⟨v1x203,rfl,r1x204,bb202⟩;have q205:=qf.l bb202;have q206:=qgFo.l bb202;have b207:=aa bz bb202;obtain⟨mo,mc,hv⟩:=r1x204.shape;subst hv;clear qf qgFo ry bz bb202 HDa
       go_wp2_with fail
       refine(HBa.out _ _ _ r1x204).mono ?_;rintro zz w208 ⟨v1x210,rfl,r1x211,bb209⟩;have q212:=q205.l bb209;have q213:=q206.l bb209;have b214:=aa b207 bb209;obtain⟨xo,xc,hv⟩:=r1x211.shape;subst hv;clear q205 q206 r1x204 b207 bb209 HBa;obtain⟨W217,hW216,q218,al215⟩:=cA w208 (yML x xo xc) 30;replace hW216:Hid _:=hW216;have hl219:w.heap.size≤w208.heap.size:=b214.size;have hl220:=q212.lt;have hl221:=q213.lt;have q222:=q212.l al215;have q223:=q213.l al215;have r224:=r1x211.l al215;have b225:=aa b214 al215;clear q212 q213 r1x211 b214 al215
       go_upto_region 25 with fail
       rw[hW216.out];clear hW216;have c226:=q222.c 3 rfl;have c227:=q222.c 4 rfl;have c228:=q222.c 5 rfl;have c229:=q222.c 6 rfl;have c230:=q222.c 7 rfl;obtain⟨c231,c232,c233⟩:=q218.cs3
       go_wp2_with fail
       refine(HIa.out _ _ _ r224).mono ?_;rintro zz w234 ⟨rfl,bb235⟩;have q236:=q223.l bb235;have q237:=q218.l bb235;have r238:=r224.l bb235;have b239:=aa b225 bb235;clear q222 q223 q218 r224 b225 bb235 HIa c226 c227 c228 c229 c230 c231 c232 c233;have c240:=q236.c 3 rfl;have c241:=q236.c 4 rfl;have c242:=q236.c 5 rfl;have c243:=q236.c 6 rfl;have c244:=q236.c 7 rfl;obtain⟨c245,c246,c247⟩:=q237.cs3
       go_wp2_with fail
       refine(HJa.out _ _ _ r238).mono ?_;rintro zz w248 ⟨rfl,bb249⟩;have b250:=aa b239 bb249;clear q236 q237 r238 b239 bb249 HJa c240 c241 c242 c243 c244 c245 c246 c247
       go_wp2
       go_ret
       exact⟨by simp,b250⟩
      ·rw[h2] at HJa
       replace h1:Hid _:=h1;replace h2:Hid _:=h2;replace HDa:Hid _:=HDa;replace HBa:Hid _:=HBa;replace HIa:Hid _:=HIa;replace HJa:Hid _:=HJa
       go_wp2_with fail
       refine(HDa.out _ _ _ ry).mono ?_;rintro zz w201 ⟨v1x203,rfl,r1x204,bb202⟩;have q205:=qf.l bb202;have q206:=qgFo.l bb202;have r207:=ry.l bb202;have b208:=aa bz bb202;obtain⟨mo,mc,hv⟩:=r1x204.shape;subst hv;clear qf qgFo ry bz bb202 HDa
       go_wp2_with fail
       refine(HBa.out _ _ _ r1x204).mono ?_;rintro zz w209 ⟨v1x211,rfl,r1x212,bb210⟩;have q213:=q205.l bb210;have q214:=q206.l bb210;have r215:=r207.l bb210;have b216:=aa b208 bb210;obtain⟨xo,xc,hv⟩:=r1x212.shape;subst hv;clear q205 q206 r207 r1x204 b208 bb210 HBa;obtain⟨W219,hW218,q220,al217⟩:=cA w209 (yML x xo xc) 30;replace hW218:Hid _:=hW218;have hl221:w.heap.size≤w209.heap.size:=b216.size;have hl222:=q213.lt;have hl223:=q214.lt;have q224:=q213.l al217;have q225:=q214.l al217;have r226:=r215.l al217;have r227:=r1x212.l al217;have b228:=aa b216 al217;clear q213 q214 r215 r1x212 b216 al217
       go_upto_region 25 with fail
       rw[hW218.out];clear hW218;have c229:=q224.c 3 rfl;have c230:=q224.c 4 rfl;have c231:=q224.c 5 rfl;have c232:=q224.c 6 rfl;have c233:=q224.c 7 rfl;obtain⟨c234,c235,c236⟩:=q220.cs3
       go_wp2_with fail
       refine(HIa.out _ _ _ r227).mono ?_;rintro zz w237 ⟨rfl,bb238⟩;have q239:=q224.l bb238;have q240:=q225.l bb238;have q241:=q220.l bb238;have r242:=r226.l bb238;have r243:=r227.l bb238;have b244:=aa b228 bb238;clear q224 q225 q220 r226 r227 b228 bb238 HIa c229 c230 c231 c232 c233 c234 c235 c236;have c245:=q240.c 3 rfl;have c246:=q240.c 4 rfl;have c247:=q240.c 5 rfl;have c248:=q240.c 6 rfl;have c249:=q240.c 7 rfl;obtain⟨c250,c251,c252⟩:=q241.cs3
       go_wp2_with fail
       refine(HJa.out _ _ _ r243).mono ?_;rintro zz w253 ⟨rfl,bb254⟩;have q255:=q239.l bb254;have q256:=q240.l bb254;have r257:=r242.l bb254;have b258:=aa b244 bb254;clear q239 q240 q241 r242 r243 b244 bb254 HJa c245 c246 c247 c248 c249 c250 c251 c252
       go_wp2
       go_roundw
       case rel=>exact⟨q+1,by omega,by go_num,⟨b258,q255,q256,r257⟩,nonI_next hN (by rw[h1.out,h2.out];rfl)⟩
       case measure=>simp[intOf];omega
    ·obtain rfl:q=wd:=by omega
     obtain⟨bz,qf,qgFo,ry⟩:=hS;have HKa:=HK.out i hi4;have HMa:=HM.out i hi4;rw[hFi.out] at HKa HMa;clear hFi
     cases gr
     case false=>
      rw[if_neg (by decide)] at HKa HMa
      cases h1:x2 i
      ·rw[h1] at HKa
       replace h1:Hid _:=h1;replace HKa:Hid _:=HKa;replace HMa:Hid _:=HMa;have al301:=af wr (.cells #[yi 1] 3);have q302:=ah wr [yi 1] 3;have q303:=qf.l al301;have q304:=qgFo.l al301;have r305:=ry.l al301;have b306:=aa bz al301;obtain⟨W309,hW308,q310,al307⟩:=cA (wr.alloc (.cells #[yi 1] 3)) (ydL false (.slice (some ⟨wr.heap.size,0,none⟩) 1 1) e2) 30;replace hW308:Hid _:=hW308;have hl311:w.heap.size≤(wr.alloc (.cells #[yi 1] 3)).heap.size:=b306.size;have hl312:=q303.lt;have hl313:=q304.lt;have hl314:=q302.lt;simp only[World.size_alloc] at q310 hl311 hl312 hl313 hl314;have c315:=q303.c 4 rfl;have q316:=q303.l al307;have q317:=q304.l al307;have q318:=q302.l al307;have r319:=r305.l al307;have b320:=aa b306 al307;have hsz321:(wr.alloc (.cells #[yi 1] 3)).heap.size=wr.heap.size+1:=by simp only[World.size_alloc]
       clear q303 q304 q302 b306 qf qgFo ry bz al301
       go_upto_region 28 with fail
       rw[hW308.out];clear c315 hW308;have c322:=q316.c 3 rfl;have c323:=q316.c 4 rfl;have c324:=q316.c 5 rfl;have c325:=q316.c 6 rfl;have c326:=q316.c 7 rfl;obtain⟨c327,c328,c329⟩:=q310.cs3
       go_wp2_with fail
       refine(HKa.out _ _ q318).mono ?_;rintro zz w330 ⟨rfl,bb331⟩;have q332:=q316.l bb331;have q333:=q317.l bb331;have r334:=r319.l bb331;have b335:=aa b320 bb331;have ba336:=aa al307 bb331;clear q316 q317 q318 q310 r319 b320 al307 bb331 HKa c322 c323 c324 c325 c326 c327 c328 c329
       go_wp2
       go_roundw
       case rel=>exact⟨i+1,by omega,by go_num,⟨b335,q332,q333,r334⟩,nonE_next hNo hN (by rw[h1.out];rfl)⟩
       case measure=>simp[intOf];omega
      ·rw[h1] at HKa
       cases h2:y2 i
       ·rw[h2] at HMa
        replace h1:Hid _:=h1;replace h2:Hid _:=h2;replace HKa:Hid _:=HKa;replace HMa:Hid _:=HMa;have al301:=af wr (.cells #[yi 1] 3);have q302:=ah wr [yi 1] 3;have q303:=qf.l al301;have q304:=qgFo.l al301;have b305:=aa bz al301;obtain⟨W308,hW307,q309,al306⟩:=cA (wr.alloc (.cells #[yi 1] 3)) (ydL false (.slice (some ⟨wr.heap.size,0,none⟩) 1 1) e2) 30;replace hW307:Hid _:=hW307;have hl310:w.heap.size≤(wr.alloc (.cells #[yi 1] 3)).heap.size:=b305.size;have hl311:=q303.lt;have hl312:=q304.lt;have hl313:=q302.lt;simp only[World.size_alloc] at q309 hl310 hl311 hl312 hl313;have c314:=q303.c 4 rfl;have q315:=q303.l al306;have q316:=q304.l al306;have q317:=q302.l al306;have b318:=aa b305 al306;have hsz319:(wr.alloc (.cells #[yi 1] 3)).heap.size=wr.heap.size+1:=by simp only[World.size_alloc]
        clear q303 q304 q302 b305 qf qgFo ry bz al301
        go_upto_region 28 with fail
        rw[hW307.out];clear c314 hW307;have c320:=q315.c 3 rfl;have c321:=q315.c 4 rfl;have c322:=q315.c 5 rfl;have c323:=q315.c 6 rfl;have c324:=q315.c 7 rfl;obtain⟨c325,c326,c327⟩:=q309.cs3
        go_wp2_with fail
        refine(HKa.out _ _ q317).mono ?_;rintro zz w328 ⟨rfl,bb329⟩;have q330:=q316.l bb329;have q331:=q317.l bb329;have q332:=q309.l bb329;have b333:=aa b318 bb329;have ba334:=aa al306 bb329;clear q315 q316 q317 q309 b318 al306 bb329 HKa c320 c321 c322 c323 c324 c325 c326 c327;have c335:=q330.c 3 rfl;have c336:=q330.c 4 rfl;have c337:=q330.c 5 rfl;have c338:=q330.c 6 rfl;have c339:=q330.c 7 rfl;obtain⟨c340,c341,c342⟩:=q332.cs3
        go_wp2_with fail
        refine(HMa.out _ _ q331).mono ?_;rintro zz w343 ⟨rfl,bb344⟩;have b345:=aa b333 bb344;have ba346:=aa ba334 bb344;clear q330 q331 q332 b333 ba334 bb344 HMa c335 c336 c337 c338 c339 c340 c341 c342
        go_wp2
        go_ret
        exact⟨by simp,b345⟩
       ·rw[h2] at HMa
        replace h1:Hid _:=h1;replace h2:Hid _:=h2;replace HKa:Hid _:=HKa;replace HMa:Hid _:=HMa;have al301:=af wr (.cells #[yi 1] 3);have q302:=ah wr [yi 1] 3;have q303:=qf.l al301;have q304:=qgFo.l al301;have r305:=ry.l al301;have b306:=aa bz al301;obtain⟨W309,hW308,q310,al307⟩:=cA (wr.alloc (.cells #[yi 1] 3)) (ydL false (.slice (some ⟨wr.heap.size,0,none⟩) 1 1) e2) 30;replace hW308:Hid _:=hW308;have hl311:w.heap.size≤(wr.alloc (.cells #[yi 1] 3)).heap.size:=b306.size;have hl312:=q303.lt;have hl313:=q304.lt;have hl314:=q302.lt;simp only[World.size_alloc] at q310 hl311 hl312 hl313 hl314;have c315:=q303.c 4 rfl;have q316:=q303.l al307;have q317:=q304.l al307;have q318:=q302.l al307;have r319:=r305.l al307;have b320:=aa b306 al307;have hsz321:(wr.alloc (.cells #[yi 1] 3)).heap.size=wr.heap.size+1:=by simp only[World.size_alloc]
        clear q303 q304 q302 b306 qf qgFo ry bz al301
        go_upto_region 28 with fail
        rw[hW308.out];clear c315 hW308;have c322:=q316.c 3 rfl;have c323:=q316.c 4 rfl;have c324:=q316.c 5 rfl;have c325:=q316.c 6 rfl;have c326:=q316.c 7 rfl;obtain⟨c327,c328,c329⟩:=q310.cs3
        go_wp2_with fail
        refine(HKa.out _ _ q318).mono ?_;rintro zz w330 ⟨rfl,bb331⟩;have q332:=q316.l bb331;have q333:=q317.l bb331;have q334:=q318.l bb331;have q335:=q310.l bb331;have r336:=r319.l bb331;have b337:=aa b320 bb331;have ba338:=aa al307 bb331;clear q316 q317 q318 q310 r319 b320 al307 bb331 HKa c322 c323 c324 c325 c326 c327 c328 c329;have c339:=q333.c 3 rfl;have c340:=q333.c 4 rfl;have c341:=q333.c 5 rfl;have c342:=q333.c 6 rfl;have c343:=q333.c 7 rfl;obtain⟨c344,c345,c346⟩:=q335.cs3
        go_wp2_with fail
        refine(HMa.out _ _ q334).mono ?_;rintro zz w347 ⟨rfl,bb348⟩;have q349:=q332.l bb348;have q350:=q333.l bb348;have r351:=r336.l bb348;have b352:=aa b337 bb348;have ba353:=aa ba338 bb348;clear q332 q333 q334 q335 r336 b337 ba338 bb348 HMa c339 c340 c341 c342 c343 c344 c345 c346
        go_wp2
        go_roundw
        case rel=>exact⟨i+1,by omega,by go_num,⟨b352,q349,q350,r351⟩,nonE_next hNo hN (by rw[h1.out,h2.out];rfl)⟩
        case measure=>simp[intOf];omega
     case true=>
      rw[if_pos rfl] at HKa HMa
      cases h1:x2 i
      ·rw[h1] at HKa
       replace h1:Hid _:=h1;replace HKa:Hid _:=HKa;replace HMa:Hid _:=HMa;have al301:=af wr (.cells #[yi 1] 3);have q302:=ah wr [yi 1] 3;have q303:=qf.l al301;have q304:=qgFo.l al301;have r305:=ry.l al301;have b306:=aa bz al301;obtain⟨W309,hW308,q310,al307⟩:=cA (wr.alloc (.cells #[yi 1] 3)) (ydL false (.slice (some ⟨wr.heap.size,0,none⟩) 1 1) e2) 30;replace hW308:Hid _:=hW308;have hl311:w.heap.size≤(wr.alloc (.cells #[yi 1] 3)).heap.size:=b306.size;have hl312:=q303.lt;have hl313:=q304.lt;have hl314:=q302.lt;simp only[World.size_alloc] at q310 hl311 hl312 hl313 hl314;have c315:=q303.c 4 rfl;have q316:=q303.l al307;have q317:=q304.l al307;have q318:=q302.l al307;have r319:=r305.l al307;have b320:=aa b306 al307;have hsz321:(wr.alloc (.cells #[yi 1] 3)).heap.size=wr.heap.size+1:=by simp only[World.size_alloc]
       clear q303 q304 q302 b306 qf qgFo ry bz al301
       go_upto_region 28 with fail
       rw[hW308.out];clear c315 hW308;have c323:=q316.c 7 rfl;have bu:=ag W309 (wr.heap.size+1) 2 (yi e);have q322:au (W309.setCell ⟨wr.heap.size+1,2,none⟩ (yi e)) (wr.heap.size+1) 30 (ydL false (.slice (some ⟨wr.heap.size,0,none⟩) 1 1) e):=(q310.set 2 (yi e));have c324:=q310.c 2 rfl;have y325:=q310.f 2;have q326:=bu.loc q316 (by omega);have q327:=bu.loc q317 (by omega);have q328:=bu.loc q318 (by omega);have ba329:=bu.below al307 (by omega);have r330:=r305.l ba329;have b331:=bu.below b320 (by omega);clear bu
       go_upto_region 30 with fail
       generalize W309.setCell ⟨wr.heap.size+1,2,none⟩ (yi e)=W332 at q326 q327 q328 q322 r330 b331 ba329⊢;clear q310 q316 q317 q318 r319 al307 b320 c323 c324 y325;have c333:=q326.c 3 rfl;have c334:=q326.c 4 rfl;have c335:=q326.c 5 rfl;have c336:=q326.c 6 rfl;have c337:=q326.c 7 rfl;obtain⟨c338,c339,c340⟩:=q322.cs3
       go_wp2_with fail
       refine(HKa.out _ _ q328).mono ?_;rintro zz w341 ⟨rfl,bb342⟩;have q343:=q326.l bb342;have q344:=q327.l bb342;have r345:=r330.l bb342;have b346:=aa b331 bb342;have ba347:=aa ba329 bb342;clear q326 q327 q328 q322 r330 b331 ba329 bb342 HKa c333 c334 c335 c336 c337 c338 c339 c340
       go_wp2
       go_roundw
       case rel=>exact⟨i+1,by omega,by go_num,⟨b346,q343,q344,r345⟩,nonE_next hNo hN (by rw[h1.out];rfl)⟩
       case measure=>simp[intOf];omega
      ·rw[h1] at HKa
       cases h2:y2 i
       ·rw[h2] at HMa
        replace h1:Hid _:=h1;replace h2:Hid _:=h2;replace HKa:Hid _:=HKa;replace HMa:Hid _:=HMa;have al301:=af wr (.cells #[yi 1] 3);have q302:=ah wr [yi 1] 3;have q303:=qf.l al301;have q304:=qgFo.l al301;have b305:=aa bz al301;obtain⟨W308,hW307,q309,al306⟩:=cA (wr.alloc (.cells #[yi 1] 3)) (ydL false (.slice (some ⟨wr.heap.size,0,none⟩) 1 1) e2) 30;replace hW307:Hid _:=hW307;have hl310:w.heap.size≤(wr.alloc (.cells #[yi 1] 3)).heap.size:=b305.size;have hl311:=q303.lt;have hl312:=q304.lt;have hl313:=q302.lt;simp only[World.size_alloc] at q309 hl310 hl311 hl312 hl313;have c314:=q303.c 4 rfl;have q315:=q303.l al306;have q316:=q304.l al306;have q317:=q302.l al306;have b318:=aa b305 al306;have hsz319:(wr.alloc (.cells #[yi 1] 3)).heap.size=wr.heap.size+1:=by simp only[World.size_alloc]
        clear q303 q304 q302 b305 qf qgFo ry bz al301
        go_upto_region 28 with fail
        rw[hW307.out];clear c314 hW307;have c321:=q315.c 7 rfl;have bu:=ag W308 (wr.heap.size+1) 2 (yi e);have q320:au (W308.setCell ⟨wr.heap.size+1,2,none⟩ (yi e)) (wr.heap.size+1) 30 (ydL false (.slice (some ⟨wr.heap.size,0,none⟩) 1 1) e):=(q309.set 2 (yi e));have c322:=q309.c 2 rfl;have y323:=q309.f 2;have q324:=bu.loc q315 (by omega);have q325:=bu.loc q316 (by omega);have q326:=bu.loc q317 (by omega);have b327:=bu.below b318 (by omega);clear bu
        go_upto_region 30 with fail
        generalize W308.setCell ⟨wr.heap.size+1,2,none⟩ (yi e)=W328 at q324 q325 q326 q320 b327⊢;clear q309 q315 q316 q317 b318 al306 c321 c322 y323;have c329:=q324.c 3 rfl;have c330:=q324.c 4 rfl;have c331:=q324.c 5 rfl;have c332:=q324.c 6 rfl;have c333:=q324.c 7 rfl;obtain⟨c334,c335,c336⟩:=q320.cs3
        go_wp2_with fail
        refine(HKa.out _ _ q326).mono ?_;rintro zz w337 ⟨rfl,bb338⟩;have q339:=q325.l bb338;have q340:=q326.l bb338;have q341:=q320.l bb338;have b342:=aa b327 bb338;clear q324 q325 q326 q320 b327 bb338 HKa c329 c330 c331 c332 c333 c334 c335 c336;have c343:=q339.c 3 rfl;have c344:=q339.c 4 rfl;have c345:=q339.c 5 rfl;have c346:=q339.c 6 rfl;have c347:=q339.c 7 rfl;obtain⟨c348,c349,c350⟩:=q341.cs3
        go_wp2_with fail
        refine(HMa.out _ _ q340).mono ?_;rintro zz w351 ⟨rfl,bb352⟩;have b353:=aa b342 bb352;clear q339 q340 q341 b342 bb352 HMa c343 c344 c345 c346 c347 c348 c349 c350
        go_wp2
        go_ret
        exact⟨by simp,b353⟩
       ·rw[h2] at HMa
        replace h1:Hid _:=h1;replace h2:Hid _:=h2;replace HKa:Hid _:=HKa;replace HMa:Hid _:=HMa;have al301:=af wr (.cells #[yi 1] 3);have q302:=ah wr [yi 1] 3;have q303:=qf.l al301;have q304:=qgFo.l al301;have r305:=ry.l al301;have b306:=aa bz al301;obtain⟨W309,hW308,q310,al307⟩:=cA (wr.alloc (.cells #[yi 1] 3)) (ydL false (.slice (some ⟨wr.heap.size,0,none⟩) 1 1) e2) 30;replace hW308:Hid _:=hW308;have hl311:w.heap.size≤(wr.alloc (.cells #[yi 1] 3)).heap.size:=b306.size;have hl312:=q303.lt;have hl313:=q304.lt;have hl314:=q302.lt;simp only[World.size_alloc] at q310 hl311 hl312 hl313 hl314;have c315:=q303.c 4 rfl;have q316:=q303.l al307;have q317:=q304.l al307;have q318:=q302.l al307;have r319:=r305.l al307;have b320:=aa b306 al307;have hsz321:(wr.alloc (.cells #[yi 1] 3)).heap.size=wr.heap.size+1:=by simp only[World.size_alloc]
        clear q303 q304 q302 b306 qf qgFo ry bz al301
        go_upto_region 28 with fail
        rw[hW308.out];clear c315 hW308;have c323:=q316.c 7 rfl;have bu:=ag W309 (wr.heap.size+1) 2 (yi e);have q322:au (W309.setCell ⟨wr.heap.size+1,2,none⟩ (yi e)) (wr.heap.size+1) 30 (ydL false (.slice (some ⟨wr.heap.size,0,none⟩) 1 1) e):=(q310.set 2 (yi e));have c324:=q310.c 2 rfl;have y325:=q310.f 2;have q326:=bu.loc q316 (by omega);have q327:=bu.loc q317 (by omega);have q328:=bu.loc q318 (by omega);have ba329:=bu.below al307 (by omega);have r330:=r305.l ba329;have b331:=bu.below b320 (by omega);clear bu
        go_upto_region 30 with fail
        generalize W309.setCell ⟨wr.heap.size+1,2,none⟩ (yi e)=W332 at q326 q327 q328 q322 r330 b331 ba329⊢;clear q310 q316 q317 q318 r319 al307 b320 c323 c324 y325;have c333:=q326.c 3 rfl;have c334:=q326.c 4 rfl;have c335:=q326.c 5 rfl;have c336:=q326.c 6 rfl;have c337:=q326.c 7 rfl;obtain⟨c338,c339,c340⟩:=q322.cs3
        go_wp2_with fail
        refine(HKa.out _ _ q328).mono ?_;rintro zz w341 ⟨rfl,bb342⟩;have q343:=q326.l bb342;have q344:=q327.l bb342;have q345:=q328.l bb342;have q346:=q322.l bb342;have r347:=r330.l bb342;have b348:=aa b331 bb342;have ba349:=aa ba329 bb342;clear q326 q327 q328 q322 r330 b331 ba329 bb342 HKa c333 c334 c335 c336 c337 c338 c339 c340;have c350:=q344.c 3 rfl;have c351:=q344.c 4 rfl;have c352:=q344.c 5 rfl;have c353:=q344.c 6 rfl;have c354:=q344.c 7 rfl;obtain⟨c355,c356,c357⟩:=q346.cs3
        go_wp2_with fail
        refine(HMa.out _ _ q345).mono ?_;rintro zz w358 ⟨rfl,bb359⟩;have q360:=q343.l bb359;have q361:=q344.l bb359;have r362:=r347.l bb359;have b363:=aa b348 bb359;have ba364:=aa ba349 bb359;clear q343 q344 q345 q346 r347 b348 ba349 bb359 HMa c350 c351 c352 c353 c354 c355 c356 c357
        go_wp2
        go_roundw
        case rel=>exact⟨i+1,by omega,by go_num,⟨b363,q360,q361,r362⟩,nonE_next hNo hN (by rw[h1.out,h2.out];rfl)⟩
        case measure=>simp[intOf];omega
  ·obtain rfl:i=4:=by omega
   exact(hno.out hNo).elim
end Go.Proofs.YtddkchlamdhgcaaGreatDoor

/-
  Texts laid together: Gc3, Roo2.
-/
import Derived.Test.YtnhackdjplppjaaGreatDoorUb01
set_option maxRecDepth 100000
set_option maxHeartbeats 3200000
namespace Go.Proofs.YtnhackdjplppjaaGreatDoor
open _root_.Go.Proofs.Tryz
open Go.RowKit
theorem arithSqrts_err (e:Int)(n wy f1 e1:Int)(sa st:ByteArray)(w:World)(he:(e==0)=false)
  (HA:yH w 30 #[yi n,.string sa,yi wy] (.tuple #[.string st,yi f1,yi e1]))
  (HO: ∀pb w1,au w1 pb 9 [.string sa]→yC 18 #[yi n,yi wy,.slice (some ⟨pb,0,none⟩) 1 1] w1 (yR w1 (.tuple #[.slice none 0 0,yi e])))
  (HB:yH w 20 #[] (.bool true))
  (HI:yH w 21 #[yi n,.string st,yi f1,yi e1,yi e,yoV 0 false false (.slice none 0 0) 0,yi 0] (.bool true)):
  yC 8 #[yi n,.string sa,yi wy] w (yR w (.bool true)):=by
 replace HA:Hid _:=HA;replace HO:Hid _:=HO;replace HB:Hid _:=HB;replace HI:Hid _:=HI
 go_enter func8,ntmps8
 have b0:=Below.refl w.heap.size w
 go_wp2_with fail
 refine(HA.out _ b0).mono ?_;rintro zz w1 ⟨rfl,bb2⟩;have b3:=aa b0 bb2;clear b0 bb2 HA;have al4:=af w1 (.cells #[.string sa] 9);have q5:=ah w1 [.string sa] 9;have b6:=aa b3 al4
 go_wp2_with fail
 refine(HO.out _ _ q5).mono ?_;rintro zz w7 ⟨rfl,bb8⟩;have b9:=aa b6 bb8;clear q5 b6 bb8 HO b3 al4;obtain⟨W13,hW12,q11,al10⟩:=cA w7 (yoL 0 false false (.slice none 0 0) 0) 32;replace hW12:Hid _:=hW12;have hl14:w.heap.size≤w7.heap.size:=b9.size;have b15:=aa b9 al10;clear b9 al10
 go_upto_region 4 with fail
 rw[hW12.out];clear hW12
 go_wp2_with fail
 refine(HB.out _ b15).mono ?_;rintro zz w16 ⟨rfl,bb17⟩;have q18:=q11.l bb17;have b19:=aa b15 bb17;clear q11 b15 bb17 HB;obtain⟨c20,c21,c22,c23,c24⟩:=q18.cs5
 go_wp2_with fail
 refine(HI.out _ b19).mono ?_;rintro zz w25 ⟨rfl,bb26⟩;have b27:=aa b19 bb26;clear q18 b19 bb26 HI c20 c21 c22 c23 c24
 go_wp2
 go_ret
 exact⟨by simp,b27⟩
theorem arithSqrts_ok (cx c fl:Int)(gx g:Bool)(x t:ak)(n wy f1 e1:Int)(sa st:ByteArray)(w:World)
  (HA:yH w 30 #[yi n,.string sa,yi wy] (.tuple #[.string st,yi f1,yi e1]))
  (HO: ∀pb w1,au w1 pb 9 [.string sa]→yC 18 #[yi n,yi wy,.slice (some ⟨pb,0,none⟩) 1 1] w1 fun zz w'=> ∃gb cap xo xc,zz= .returned (.tuple #[.slice (some ⟨gb,0,none⟩) 1 cap,yi 0])∧w'.rangeAt gb 0 (yEL cx gx x xo xc)∧Rd w' .i64 (.slice xo (Dg.dg 65536 x.n).length xc) (Dg.dg 65536 x.n)∧yB w1 w')
  (HR: ∀xo xc w1,yB w w1→Rd w1 .i64 (.slice xo (Dg.dg 65536 x.n).length xc) (Dg.dg 65536 x.n)→yC 31 #[yi n,yEV cx gx x xo xc,yi wy] w1 (RVF w1 c g t fl))
  (HB:yH w 20 #[] (.bool true))
  (HI: ∀so sc w1,yB w w1→Rd w1 .i64 (.slice so (Dg.dg 65536 t.n).length sc) (Dg.dg 65536 t.n)→yC 21 #[yi n,.string st,yi f1,yi e1,yi 0,yEV c g t so sc,yi fl] w1 (yR w1 (.bool true))):
  yC 8 #[yi n,.string sa,yi wy] w (yR w (.bool true)):=by
 replace HA:Hid _:=HA;replace HO:Hid _:=HO;replace HR:Hid _:=HR;replace HB:Hid _:=HB;replace HI:Hid _:=HI
 go_enter func8,ntmps8
 have b0:=Below.refl w.heap.size w
 go_wp2_with fail
 refine(HA.out _ b0).mono ?_;rintro zz w1 ⟨rfl,bb2⟩;have b3:=aa b0 bb2;clear b0 bb2 HA;have al4:=af w1 (.cells #[.string sa] 9);have q5:=ah w1 [.string sa] 9;have b6:=aa b3 al4
 go_wp2_with fail
 refine(HO.out _ _ q5).mono ?_;rintro zz w7 ⟨gb,cap,xo,xc,rfl,h0,rx9,bb8⟩;have b10:=aa b6 bb8;clear q5 b6 bb8 HO b3 al4;obtain⟨W14,hW13,q12,al11⟩:=cA w7 (yoL 0 false false (.slice none 0 0) 0) 32;replace hW13:Hid _:=hW13;have hl15:w.heap.size≤w7.heap.size:=b10.size;have hl16:=World.block_lt_of_cell? _ _ (h0 0 _ rfl);have q17:=aC h0 al11;have r18:=rx9.l al11;have b19:=aa b10 al11;clear h0 rx9 b10 al11
 go_upto_region 4 with fail
 rw[hW13.out];clear hW13;have c20:=q17 0 _ rfl;have c21:=q17 1 _ rfl;have c22:=q17 2 _ rfl;have c23:=q17 3 _ rfl;have c24:=q17 4 _ rfl
 go_wp2_with fail
 refine(HR.out _ _ _ b19 r18).mono ?_;rintro zz w25 ⟨v127,rfl,r128,bb26⟩;have q29:=q12.l bb26;have b30:=aa b19 bb26;obtain⟨so,sc,hv⟩:=r128.shape;subst hv;clear q17 q12 r18 b19 bb26 HR c20 c21 c22 c23 c24;have bu:=((((ag w25 w7.heap.size 0 (yi c)).trans (ag _ w7.heap.size 1 (.bool g))).trans (ag _ w7.heap.size 2 (.bool t.s))).trans (ag _ w7.heap.size 3 (.slice so (Dg.dg 65536 t.n).length sc))).trans (ag _ w7.heap.size 4 (yi t.e));have q31:au (((((w25.setCell ⟨w7.heap.size,0,none⟩ (yi c)).setCell ⟨w7.heap.size,1,none⟩ (.bool g)).setCell ⟨w7.heap.size,2,none⟩ (.bool t.s)).setCell ⟨w7.heap.size,3,none⟩ (.slice so (Dg.dg 65536 t.n).length sc)).setCell ⟨w7.heap.size,4,none⟩ (yi t.e)) w7.heap.size 32 (yEL c g t so sc):=(((((q29.set 0 (yi c)).set 1 (.bool g)).set 2 (.bool t.s)).set 3 (.slice so (Dg.dg 65536 t.n).length sc)).set 4 (yi t.e));have c32:=q29.c 0 rfl;have y33:=q29.f 0;have c34:=q29.c 1 rfl;have y35:=q29.f 1;have c36:=q29.c 2 rfl;have y37:=q29.f 2;have c38:=q29.c 3 rfl;have y39:=q29.f 3;have c40:=q29.c 4 rfl;have y41:=q29.f 4;have r42:=bu.rd r128 (mu r128 q29);have b43:=bu.below b30 (by omega);clear bu
 go_upto_region 7 with fail
 generalize((((w25.setCell ⟨w7.heap.size,0,none⟩ (yi c)).setCell ⟨w7.heap.size,1,none⟩ (.bool g)).setCell ⟨w7.heap.size,2,none⟩ (.bool t.s)).setCell ⟨w7.heap.size,3,none⟩ (.slice so (Dg.dg 65536 t.n).length sc)).setCell ⟨w7.heap.size,4,none⟩ (yi t.e)=W44 at q31 r42 b43⊢;clear q29 r128 b30 c32 y33 c34 y35 c36 y37 c38 y39 c40 y41
 go_wp2_with fail
 refine(HB.out _ b43).mono ?_;rintro zz w45 ⟨rfl,bb46⟩;have q47:=q31.l bb46;have r48:=r42.l bb46;have b49:=aa b43 bb46;clear q31 r42 b43 bb46 HB;obtain⟨c50,c51,c52,c53,c54⟩:=q47.cs5
 go_wp2_with fail
 refine(HI.out _ _ _ b49 r48).mono ?_;rintro zz w55 ⟨rfl,bb56⟩;have b57:=aa b49 bb56;clear q47 r48 b49 bb56 HI c50 c51 c52 c53 c54
 go_wp2
 go_ret
 exact⟨by simp,b57⟩
theorem refSqrt_off (cx c fl:Int)(n wy:Int)(gx:Bool)(x:ak)(xo:Option Addr)(xc:Nat)(w:World)(HO: ∀pb w1,au w1 pb 32 (yEL cx gx x xo xc)→yC 58 #[yi n,.slice (some ⟨pb,0,none⟩) 1 1] w1 (yR w1 (.tuple #[yoV c false false (.slice none 0 0) 0,yi fl,.bool true]))):
  yC 31 #[yi n,yEV cx gx x xo xc,yi wy] w (RVF w c false ⟨false,0,0⟩ fl):=by
 replace HO:Hid _:=HO;obtain⟨W4,hW5,q1,q2,b3⟩:=iG w (yEL cx gx x xo xc) 32 (yoL 0 false false (.slice none 0 0) 0) 32;replace hW5:Hid _:=hW5
 go_enter func31,ntmps31
 go_upto_region 1 with fail
 rw[hW5.out];clear hW5;obtain⟨c6,c7,c8,c9,c10⟩:=q1.cs5;have al11:=af W4 (.cells (yEA cx gx x xo xc) 32);have q12:=ah W4 (yEL cx gx x xo xc) 32;have q13:=q2.l al11;have b14:=aa b3 al11
 go_wp2_with fail
 refine(HO.out _ _ q12).mono ?_;rintro zz w15 ⟨rfl,bb16⟩;have q17:=q13.l bb16;have b18:=aa b14 bb16;clear q13 q12 b14 bb16 HO c6 c7 c8 c9 c10 q1 q2 b3 al11;obtain⟨W22,hW21,q20,al19⟩:=cA w15 (yoL c false false (.slice none 0 0) 0) 32;replace hW21:Hid _:=hW21;have hl23:w.heap.size≤w15.heap.size:=b18.size;have hl24:=q17.lt;have q25:=q17.l al19;have b26:=aa b18 al19;clear q17 b18 al19
 go_upto_region 2 with fail
 rw[hW21.out];clear hW21;obtain⟨c27,c28,c29,c30,c31⟩:=q20.cs5;have hf:=dL (P:=Tryz.prog) q25 b26 (by omega) underlying32 rfl (by kernel_rfl) (yi c) (.bool false) (.bool false) (.slice none 0 0) (yi 0);have HH:Hid (_∧_):=⟨hf.1,hf.2.1⟩;obtain⟨⟨z0,z1,z2,z3,z4⟩,y0,y1,y2,y3,y4⟩:=dN q25;clear hf q25 q20 b26
 go_wp2
 obtain⟨hl,bR⟩:=HH.out;exact bodyPost_ret (aj results31 rfl rfl hl) rfl ⟨_,rfl,aN _ _,bR⟩
theorem refSqrt_zero (zg:Bool)(n wy:Int)(gx:Bool)(x:ak)(xo:Option Addr)(xc:Nat)(w:World)(HO: ∀pb w1,au w1 pb 32 (yEL 1 gx x xo xc)→yC 58 #[yi n,.slice (some ⟨pb,0,none⟩) 1 1] w1 (yR w1 (.tuple #[yoV 0 false false (.slice none 0 0) 0,yi 0,.bool false])))
  (HZ:yJ 38 #[yi n,.bool gx] (yoV 1 zg false (.slice none 0 0) 0)):
  yC 31 #[yi n,yEV 1 gx x xo xc,yi wy] w (RVF w 1 zg ⟨false,0,0⟩ 0):=by
 replace HO:Hid _:=HO;replace HZ:Hid _:=HZ;obtain⟨W4,hW5,q1,q2,b3⟩:=iG w (yEL 1 gx x xo xc) 32 (yoL 0 false false (.slice none 0 0) 0) 32;replace hW5:Hid _:=hW5
 go_enter func31,ntmps31
 go_upto_region 1 with fail
 rw[hW5.out];clear hW5;obtain⟨c6,c7,c8,c9,c10⟩:=q1.cs5;have al11:=af W4 (.cells (yEA 1 gx x xo xc) 32);have q12:=ah W4 (yEL 1 gx x xo xc) 32;have q13:=q1.l al11;have q14:=q2.l al11;have b15:=aa b3 al11
 go_wp2_with fail
 refine(HO.out _ _ q12).mono ?_;rintro zz w16 ⟨rfl,bb17⟩;have q18:=q13.l bb17;have q19:=q14.l bb17;have b20:=aa b15 bb17;clear q13 q14 q12 b15 bb17 HO c6 c7 c8 c9 c10 q1 q2 b3 al11;obtain⟨W24,hW23,q22,al21⟩:=cA w16 (yoL 0 false false (.slice none 0 0) 0) 32;replace hW23:Hid _:=hW23;have hl25:w.heap.size≤w16.heap.size:=b20.size;have hl26:=q19.lt;have q27:=q18.l al21;have q28:=q19.l al21;have b29:=aa b20 al21;clear q18 q19 b20 al21 q22
 go_upto_region 2 with fail
 rw[hW23.out];clear hW23;have c30:=q27.c 0 rfl;have c31:=q27.c 1 rfl
 go_wp2_with fail
 refine(HZ.out _).mono ?_;rintro zz w32 ⟨rfl,bb33⟩;have q34:=q28.l bb33;have b35:=aa b29 bb33;clear q27 q28 b29 bb33 HZ c30 c31;have hf:=dL (P:=Tryz.prog) q34 b35 (by omega) underlying32 rfl (by kernel_rfl) (yi 1) (.bool zg) (.bool false) (.slice none 0 0) (yi 0);have HH:Hid (_∧_):=⟨hf.1,hf.2.1⟩;obtain⟨⟨z0,z1,z2,z3,z4⟩,y0,y1,y2,y3,y4⟩:=dN q34;clear hf q34 b35
 go_wp2
 obtain⟨hl,bR⟩:=HH.out;exact bodyPost_ret (aj results31 rfl rfl hl) rfl ⟨_,rfl,aN _ _,bR⟩
theorem refSqrt_neg (cx c:Int)(n wy:Int)(x:ak)(xo:Option Addr)(xc:Nat)(w:World)(h1:(cx==1)=false)(HO: ∀pb w1,au w1 pb 32 (yEL cx true x xo xc)→yC 58 #[yi n,.slice (some ⟨pb,0,none⟩) 1 1] w1 (yR w1 (.tuple #[yoV 0 false false (.slice none 0 0) 0,yi 0,.bool false])))
  (HL: ∀w1,yC 59 #[yi n] w1 (RVF w1 c false ⟨false,0,0⟩ 16)):
  yC 31 #[yi n,yEV cx true x xo xc,yi wy] w (RVF w c false ⟨false,0,0⟩ 16):=by
 replace HO:Hid _:=HO;replace HL:Hid _:=HL;obtain⟨W4,hW5,q1,q2,b3⟩:=iG w (yEL cx true x xo xc) 32 (yoL 0 false false (.slice none 0 0) 0) 32;replace hW5:Hid _:=hW5
 go_enter func31,ntmps31
 go_upto_region 1 with fail
 rw[hW5.out];clear hW5;obtain⟨c6,c7,c8,c9,c10⟩:=q1.cs5;have al11:=af W4 (.cells (yEA cx true x xo xc) 32);have q12:=ah W4 (yEL cx true x xo xc) 32;have q13:=q1.l al11;have q14:=q2.l al11;have b15:=aa b3 al11
 go_wp2_with fail
 refine(HO.out _ _ q12).mono ?_;rintro zz w16 ⟨rfl,bb17⟩;have q18:=q13.l bb17;have q19:=q14.l bb17;have b20:=aa b15 bb17;clear q13 q14 q12 b15 bb17 HO c6 c7 c8 c9 c10 q1 q2 b3 al11;obtain⟨W24,hW23,q22,al21⟩:=cA w16 (yoL 0 false false (.slice none 0 0) 0) 32;replace hW23:Hid _:=hW23;have hl25:w.heap.size≤w16.heap.size:=b20.size;have hl26:=q19.lt;have q27:=q18.l al21;have q28:=q19.l al21;have b29:=aa b20 al21;clear q18 q19 b20 al21 q22
 go_upto_region 2 with fail
 rw[hW23.out];clear hW23;have c30:=q27.c 0 rfl;have c31:=q27.c 1 rfl
 go_wp2_with fail
 refine(HL.out _).mono ?_;rintro zz w32 ⟨v134,rfl,r135,bb33⟩;have q36:=q28.l bb33;have b37:=aa b29 bb33;obtain⟨so,sc,hv⟩:=r135.shape;subst hv;clear q27 q28 b29 bb33 HL c30 c31;have hf:=dL (P:=Tryz.prog) q36 b37 (by omega) underlying32 rfl (by kernel_rfl) (yi c) (.bool false) (.bool false) (.slice so (Dg.dg 65536 0).length sc) (yi 0);have HH:Hid (_∧_∧_):=⟨hf.1,hf.2.2.rd r135 (mu r135 q36),hf.2.1⟩;obtain⟨⟨z0,z1,z2,z3,z4⟩,y0,y1,y2,y3,y4⟩:=dN q36;clear hf q36 r135 b37
 go_wp2
 obtain⟨hl,rRs,bR⟩:=HH.out;exact bodyPost_ret (aj results31 rfl rfl hl) rfl ⟨_,rfl,rRs,bR⟩
theorem refSqrt_inf (n wy:Int)(x:ak)(xo:Option Addr)(xc:Nat)(w:World)(rx:Rd w .i64 (.slice xo (Dg.dg 65536 x.n).length xc) (Dg.dg 65536 x.n))(HO: ∀pb w1,au w1 pb 32 (yEL 3 false x xo xc)→yC 58 #[yi n,.slice (some ⟨pb,0,none⟩) 1 1] w1 (yR w1 (.tuple #[yoV 0 false false (.slice none 0 0) 0,yi 0,.bool false]))):
  yC 31 #[yi n,yEV 3 false x xo xc,yi wy] w (RVF w 3 false x 0):=by
 replace HO:Hid _:=HO;obtain⟨W4,hW5,q1,q2,b3⟩:=iG w (yEL 3 false x xo xc) 32 (yoL 0 false false (.slice none 0 0) 0) 32;replace hW5:Hid _:=hW5;have r6:=rx.l b3;clear rx
 go_enter func31,ntmps31
 go_upto_region 1 with fail
 rw[hW5.out];clear hW5;obtain⟨c7,c8,c9,c10,c11⟩:=q1.cs5;have al12:=af W4 (.cells (yEA 3 false x xo xc) 32);have q13:=ah W4 (yEL 3 false x xo xc) 32;have q14:=q1.l al12;have q15:=q2.l al12;have r16:=r6.l al12;have b17:=aa b3 al12
 go_wp2_with fail
 refine(HO.out _ _ q13).mono ?_;rintro zz w18 ⟨rfl,bb19⟩;have q20:=q14.l bb19;have q21:=q15.l bb19;have r22:=r16.l bb19;have b23:=aa b17 bb19;clear q14 q15 q13 r16 b17 bb19 HO c7 c8 c9 c10 c11 q1 q2 r6 b3 al12;obtain⟨W27,hW26,q25,al24⟩:=cA w18 (yoL 0 false false (.slice none 0 0) 0) 32;replace hW26:Hid _:=hW26;have hl28:w.heap.size≤w18.heap.size:=b23.size;have hl29:=q21.lt;have q30:=q20.l al24;have q31:=q21.l al24;have r32:=r22.l al24;have b33:=aa b23 al24;clear q20 q21 r22 b23 al24 q25
 go_upto_region 2 with fail
 rw[hW26.out];clear hW26;obtain⟨c34,c35,c36,c37,c38⟩:=q30.cs5;have hf:=dL (P:=Tryz.prog) q31 b33 (by omega) underlying32 rfl (by kernel_rfl) (yi 3) (.bool false) (.bool x.s) (.slice xo (Dg.dg 65536 x.n).length xc) (yi x.e);have HH:Hid (_∧_∧_):=⟨hf.1,hf.2.2.rd r32 (mu r32 q31),hf.2.1⟩;obtain⟨⟨z0,z1,z2,z3,z4⟩,y0,y1,y2,y3,y4⟩:=dN q31;clear hf q30 q31 r32 b33
 go_wp2
 obtain⟨hl,rRx,bR⟩:=HH.out;exact bodyPost_ret (aj results31 rfl rfl hl) rfl ⟨_,rfl,rRx,bR⟩
theorem refSqrt_num0 (cx c fl E0 sh qe fe cm:Int)(g:Bool)(M R D P Q:Nat)(t u:ak)(n wy:Int)(x:ak)(xo:Option Addr)(xc:Nat)(w:World)(rx:Rd w .i64 (.slice xo (Dg.dg 65536 x.n).length xc) (Dg.dg 65536 x.n))(h1:(cx==1)=false)(h3:(cx==3)=false)(hE:(IntKind.i64.wrap (x.e-300)=E0∧E0.tmod 2=0)∨ ∃F,IntKind.i64.wrap (x.e-300)=F∧ ¬F.tmod 2=0∧IntKind.i64.wrap (F-1)=E0)(hd:IntKind.i64.wrap (x.e-E0)=sh)(hq:IntKind.i64.wrap (E0.tdiv 2)=qe)(hf:IntKind.i64.wrap (qe-1)=fe)(hcm:(cm==0)=false)
  (HO: ∀pb w1,au w1 pb 32 (yEL cx false x xo xc)→yC 58 #[yi n,.slice (some ⟨pb,0,none⟩) 1 1] w1 (yR w1 (.tuple #[yoV 0 false false (.slice none 0 0) 0,yi 0,.bool false])))
  (HU: ∀w1,yB w w1→yC 74 #[.slice xo (Dg.dg 65536 x.n).length xc,yi sh] w1 (cG w1 M))
  (HR: ∀mo mc w1,yB w w1→Rd w1 .i64 (.slice mo (Dg.dg 65536 M).length mc) (Dg.dg 65536 M)→yC 75 #[.slice mo (Dg.dg 65536 M).length mc,yi 2] w1 (cG w1 R))
  (HT: ∀ro rc q w1,yB w w1→Rd w1 .i64 (.slice ro (Dg.dg 65536 R).length rc) (Dg.dg 65536 R)→au w1 q 3 [yi 2]→yC 76 #[.slice ro (Dg.dg 65536 R).length rc,.slice (some ⟨q,0,none⟩) 1 1] w1 (cG w1 D))
  (HS: ∀ro rc w1,yB w w1→Rd w1 .i64 (.slice ro (Dg.dg 65536 R).length rc) (Dg.dg 65536 R)→yC 76 #[.slice ro (Dg.dg 65536 R).length rc,.slice ro (Dg.dg 65536 R).length rc] w1 (cG w1 P))
  (HC: ∀po pc mo mc w1,yB w w1→Rd w1 .i64 (.slice po (Dg.dg 65536 P).length pc) (Dg.dg 65536 P)→Rd w1 .i64 (.slice mo (Dg.dg 65536 M).length mc) (Dg.dg 65536 M)→yC 77 #[.slice po (Dg.dg 65536 P).length pc,.slice mo (Dg.dg 65536 M).length mc] w1 (yR w1 (yi cm)))
  (HP: ∀d0 dc q w1,yB w w1→Rd w1 .i64 (.slice d0 (Dg.dg 65536 D).length dc) (Dg.dg 65536 D)→au w1 q 3 [yi 1]→yC 78 #[.slice d0 (Dg.dg 65536 D).length dc,.slice (some ⟨q,0,none⟩) 1 1] w1 (cG w1 Q))
  (HB: ∀eo ec w1,yB w w1→Rd w1 .i64 (.slice eo (Dg.dg 65536 Q).length ec) (Dg.dg 65536 Q)→yC 79 #[ydV false (.slice eo (Dg.dg 65536 Q).length ec) fe] w1 (dr w1 u))
  (HD: ∀uo uc w1,yB w w1→Rd w1 .i64 (.slice uo (Dg.dg 65536 u.n).length uc) (Dg.dg 65536 u.n)→yC 66 #[yi n,yMV u uo uc,yi wy] w1 (RVF w1 c g t fl)):
  yC 31 #[yi n,yEV cx false x xo xc,yi wy] w (RVF w c g t fl):=by
 rcases hE with⟨hE0,ho⟩| ⟨F,hE0,ho,hE1⟩
 all_goals
  replace HO:Hid _:=HO;replace HU:Hid _:=HU;replace HR:Hid _:=HR;replace HT:Hid _:=HT;replace HS:Hid _:=HS;replace HC:Hid _:=HC;replace HP:Hid _:=HP;replace HB:Hid _:=HB;replace HD:Hid _:=HD;obtain⟨W4,hW5,q1,q2,b3⟩:=iG w (yEL cx false x xo xc) 32 (yoL 0 false false (.slice none 0 0) 0) 32;replace hW5:Hid _:=hW5;have r6:=rx.l b3;clear rx
  go_enter func31,ntmps31
  go_upto_region 1 with fail
  rw[hW5.out];clear hW5;obtain⟨c7,c8,c9,c10,c11⟩:=q1.cs5;have al12:=af W4 (.cells (yEA cx false x xo xc) 32);have q13:=ah W4 (yEL cx false x xo xc) 32;have q14:=q1.l al12;have q15:=q2.l al12;have r16:=r6.l al12;have b17:=aa b3 al12
  go_wp2_with fail
  refine(HO.out _ _ q13).mono ?_;rintro zz w18 ⟨rfl,bb19⟩;have q20:=q14.l bb19;have q21:=q15.l bb19;have r22:=r16.l bb19;have b23:=aa b17 bb19;clear q14 q15 q13 r16 b17 bb19 HO c7 c8 c9 c10 c11 q1 q2 r6 b3 al12;obtain⟨W27,hW26,q25,al24⟩:=cA w18 (yoL 0 false false (.slice none 0 0) 0) 32;replace hW26:Hid _:=hW26;have hl28:w.heap.size≤w18.heap.size:=b23.size;have hl29:=q21.lt;have q30:=q20.l al24;have q31:=q21.l al24;have r32:=r22.l al24;have b33:=aa b23 al24;clear q20 q21 r22 b23 al24 q25
  go_upto_region 2 with fail
  rw[hW26.out];clear hW26;have c34:=q30.c 0 rfl;have c35:=q30.c 1 rfl;have c36:=q30.c 3 rfl;have c37:=q30.c 4 rfl
  go_wp2_with fail
  refine(HU.out _ b33).mono ?_;rintro zz w38 ⟨v140,rfl,r141,bb39⟩;have q42:=q31.l bb39;have r43:=r32.l bb39;have b44:=aa b33 bb39;obtain⟨mo,mc,hv⟩:=r141.shape;subst hv;clear q30 q31 r32 b33 bb39 HU c34 c35 c36 c37
  go_wp2_with fail
  refine(HR.out _ _ _ b44 r141).mono ?_;rintro zz w45 ⟨v147,rfl,r148,bb46⟩;have q49:=q42.l bb46;have r50:=r43.l bb46;have r51:=r141.l bb46;have b52:=aa b44 bb46;obtain⟨ro,rc,hv⟩:=r148.shape;subst hv;clear q42 r43 r141 b44 bb46 HR;have al53:=af w45 (.cells #[yi 2] 3);have q54:=ah w45 [yi 2] 3;have q55:=q49.l al53;have r56:=r50.l al53;have r57:=r51.l al53;have r58:=r148.l al53;have b59:=aa b52 al53
  go_wp2_with fail
  refine(HT.out _ _ _ _ b59 r58 q54).mono ?_;rintro zz w60 ⟨v162,rfl,r163,bb61⟩;have q64:=q55.l bb61;have r65:=r56.l bb61;have r66:=r57.l bb61;have r67:=r58.l bb61;have b68:=aa b59 bb61;obtain⟨ko,kc,hv⟩:=r163.shape;subst hv;clear q55 q54 r56 r57 r58 b59 bb61 HT q49 r50 r51 r148 b52 al53
  go_wp2_with fail
  refine(HS.out _ _ _ b68 r67).mono ?_;rintro zz w69 ⟨v171,rfl,r172,bb70⟩;have q73:=q64.l bb70;have r74:=r65.l bb70;have r75:=r66.l bb70;have r76:=r67.l bb70;have r77:=r163.l bb70;have b78:=aa b68 bb70;obtain⟨po,pc,hv⟩:=r172.shape;subst hv;clear q64 r65 r66 r67 r163 b68 bb70 HS
  go_wp2_with fail
  refine(HC.out _ _ _ _ _ b78 r172 r75).mono ?_;rintro zz w79 ⟨rfl,bb80⟩;have q81:=q73.l bb80;have r82:=r74.l bb80;have r83:=r75.l bb80;have r84:=r76.l bb80;have r85:=r77.l bb80;have r86:=r172.l bb80;have b87:=aa b78 bb80;clear q73 r74 r75 r76 r77 r172 b78 bb80 HC;have al88:=af w79 (.cells #[yi 1] 3);have q89:=ah w79 [yi 1] 3;have q90:=q81.l al88;have r91:=r82.l al88;have r92:=r83.l al88;have r93:=r84.l al88;have r94:=r85.l al88;have r95:=r86.l al88;have b96:=aa b87 al88
  go_wp2_with fail
  refine(HP.out _ _ _ _ b96 r94 q89).mono ?_;rintro zz w97 ⟨v199,rfl,r1100,bb98⟩;have q101:=q90.l bb98;have r102:=r91.l bb98;have r103:=r92.l bb98;have r104:=r93.l bb98;have r105:=r94.l bb98;have r106:=r95.l bb98;have b107:=aa b96 bb98;obtain⟨eo,ec,hv⟩:=r1100.shape;subst hv;clear q90 q89 r91 r92 r93 r94 r95 b96 bb98 HP q81 r82 r83 r84 r85 r86 b87 al88
  go_wp2_with fail
  refine(HB.out _ _ _ b107 r1100).mono ?_;rintro zz w108 ⟨v1110,rfl,r1111,bb109⟩;have q112:=q101.l bb109;have r113:=r102.l bb109;have r114:=r103.l bb109;have r115:=r104.l bb109;have r116:=r105.l bb109;have r117:=r106.l bb109;have r118:=r1100.l bb109;have b119:=aa b107 bb109;obtain⟨uo,uc,hv⟩:=r1111.shape;subst hv;clear q101 r102 r103 r104 r105 r106 r1100 b107 bb109 HB
  go_wp2_with fail
  refine(HD.out _ _ _ b119 r1111).mono ?_;rintro zz w120 ⟨v1122,rfl,r1123,bb121⟩;have q124:=q112.l bb121;have r125:=r113.l bb121;have r126:=r114.l bb121;have r127:=r115.l bb121;have r128:=r116.l bb121;have r129:=r117.l bb121;have r130:=r118.l bb121;have r131:=r1111.l bb121;have b132:=aa b119 bb121;obtain⟨so,sc,hv⟩:=r1123.shape;subst hv;clear q112 r113 r114 r115 r116 r117 r118 r1111 b119 bb121 HD;have hf:=dL (P:=Tryz.prog) q124 b132 (by omega) underlying32 rfl (by kernel_rfl) (yi c) (.bool g) (.bool t.s) (.slice so (Dg.dg 65536 t.n).length sc) (yi t.e);have HH:Hid (_∧_∧_):=⟨hf.1,hf.2.2.rd r1123 (mu r1123 q124),hf.2.1⟩;obtain⟨⟨z0,z1,z2,z3,z4⟩,y0,y1,y2,y3,y4⟩:=dN q124;clear hf q124 r125 r126 r127 r128 r129 r130 r131 r1123 b132
  go_wp2
  obtain⟨hl,rRs,bR⟩:=HH.out;exact bodyPost_ret (aj results31 rfl rfl hl) rfl ⟨_,rfl,rRs,bR⟩
theorem refSqrt_num1 (cx c fl E0 sh qe fe:Int)(g:Bool)(M R D P:Nat)(t u:ak)(n wy:Int)(x:ak)(xo:Option Addr)(xc:Nat)(w:World)(rx:Rd w .i64 (.slice xo (Dg.dg 65536 x.n).length xc) (Dg.dg 65536 x.n))(h1:(cx==1)=false)(h3:(cx==3)=false)(hE:(IntKind.i64.wrap (x.e-300)=E0∧E0.tmod 2=0)∨ ∃F,IntKind.i64.wrap (x.e-300)=F∧ ¬F.tmod 2=0∧IntKind.i64.wrap (F-1)=E0)(hd:IntKind.i64.wrap (x.e-E0)=sh)(hq:IntKind.i64.wrap (E0.tdiv 2)=qe)(hf:IntKind.i64.wrap (qe-1)=fe)
  (HO: ∀pb w1,au w1 pb 32 (yEL cx false x xo xc)→yC 58 #[yi n,.slice (some ⟨pb,0,none⟩) 1 1] w1 (yR w1 (.tuple #[yoV 0 false false (.slice none 0 0) 0,yi 0,.bool false])))
  (HU: ∀w1,yB w w1→yC 74 #[.slice xo (Dg.dg 65536 x.n).length xc,yi sh] w1 (cG w1 M))
  (HR: ∀mo mc w1,yB w w1→Rd w1 .i64 (.slice mo (Dg.dg 65536 M).length mc) (Dg.dg 65536 M)→yC 75 #[.slice mo (Dg.dg 65536 M).length mc,yi 2] w1 (cG w1 R))
  (HT: ∀ro rc q w1,yB w w1→Rd w1 .i64 (.slice ro (Dg.dg 65536 R).length rc) (Dg.dg 65536 R)→au w1 q 3 [yi 2]→yC 76 #[.slice ro (Dg.dg 65536 R).length rc,.slice (some ⟨q,0,none⟩) 1 1] w1 (cG w1 D))
  (HS: ∀ro rc w1,yB w w1→Rd w1 .i64 (.slice ro (Dg.dg 65536 R).length rc) (Dg.dg 65536 R)→yC 76 #[.slice ro (Dg.dg 65536 R).length rc,.slice ro (Dg.dg 65536 R).length rc] w1 (cG w1 P))
  (HC: ∀po pc mo mc w1,yB w w1→Rd w1 .i64 (.slice po (Dg.dg 65536 P).length pc) (Dg.dg 65536 P)→Rd w1 .i64 (.slice mo (Dg.dg 65536 M).length mc) (Dg.dg 65536 M)→yC 77 #[.slice po (Dg.dg 65536 P).length pc,.slice mo (Dg.dg 65536 M).length mc] w1 (yR w1 (yi 0)))
  (HB: ∀eo ec w1,yB w w1→Rd w1 .i64 (.slice eo (Dg.dg 65536 D).length ec) (Dg.dg 65536 D)→yC 79 #[ydV false (.slice eo (Dg.dg 65536 D).length ec) fe] w1 (dr w1 u))
  (HD: ∀uo uc w1,yB w w1→Rd w1 .i64 (.slice uo (Dg.dg 65536 u.n).length uc) (Dg.dg 65536 u.n)→yC 66 #[yi n,yMV u uo uc,yi wy] w1 (RVF w1 c g t fl)):
  yC 31 #[yi n,yEV cx false x xo xc,yi wy] w (RVF w c g t fl):=by
 rcases hE with⟨hE0,ho⟩| ⟨F,hE0,ho,hE1⟩
 all_goals
  replace HO:Hid _:=HO;replace HU:Hid _:=HU;replace HR:Hid _:=HR;replace HT:Hid _:=HT;replace HS:Hid _:=HS;replace HC:Hid _:=HC;replace HB:Hid _:=HB;replace HD:Hid _:=HD;obtain⟨W4,hW5,q1,q2,b3⟩:=iG w (yEL cx false x xo xc) 32 (yoL 0 false false (.slice none 0 0) 0) 32;replace hW5:Hid _:=hW5;have r6:=rx.l b3;clear rx
  go_enter func31,ntmps31
  go_upto_region 1 with fail
  rw[hW5.out];clear hW5;obtain⟨c7,c8,c9,c10,c11⟩:=q1.cs5;have al12:=af W4 (.cells (yEA cx false x xo xc) 32);have q13:=ah W4 (yEL cx false x xo xc) 32;have q14:=q1.l al12;have q15:=q2.l al12;have r16:=r6.l al12;have b17:=aa b3 al12
  go_wp2_with fail
  refine(HO.out _ _ q13).mono ?_;rintro zz w18 ⟨rfl,bb19⟩;have q20:=q14.l bb19;have q21:=q15.l bb19;have r22:=r16.l bb19;have b23:=aa b17 bb19;clear q14 q15 q13 r16 b17 bb19 HO c7 c8 c9 c10 c11 q1 q2 r6 b3 al12;obtain⟨W27,hW26,q25,al24⟩:=cA w18 (yoL 0 false false (.slice none 0 0) 0) 32;replace hW26:Hid _:=hW26;have hl28:w.heap.size≤w18.heap.size:=b23.size;have hl29:=q21.lt;have q30:=q20.l al24;have q31:=q21.l al24;have r32:=r22.l al24;have b33:=aa b23 al24;clear q20 q21 r22 b23 al24 q25
  go_upto_region 2 with fail
  rw[hW26.out];clear hW26;have c34:=q30.c 0 rfl;have c35:=q30.c 1 rfl;have c36:=q30.c 3 rfl;have c37:=q30.c 4 rfl
  go_wp2_with fail
  refine(HU.out _ b33).mono ?_;rintro zz w38 ⟨v140,rfl,r141,bb39⟩;have q42:=q31.l bb39;have r43:=r32.l bb39;have b44:=aa b33 bb39;obtain⟨mo,mc,hv⟩:=r141.shape;subst hv;clear q30 q31 r32 b33 bb39 HU c34 c35 c36 c37
  go_wp2_with fail
  refine(HR.out _ _ _ b44 r141).mono ?_;rintro zz w45 ⟨v147,rfl,r148,bb46⟩;have q49:=q42.l bb46;have r50:=r43.l bb46;have r51:=r141.l bb46;have b52:=aa b44 bb46;obtain⟨ro,rc,hv⟩:=r148.shape;subst hv;clear q42 r43 r141 b44 bb46 HR;have al53:=af w45 (.cells #[yi 2] 3);have q54:=ah w45 [yi 2] 3;have q55:=q49.l al53;have r56:=r50.l al53;have r57:=r51.l al53;have r58:=r148.l al53;have b59:=aa b52 al53
  go_wp2_with fail
  refine(HT.out _ _ _ _ b59 r58 q54).mono ?_;rintro zz w60 ⟨v162,rfl,r163,bb61⟩;have q64:=q55.l bb61;have r65:=r56.l bb61;have r66:=r57.l bb61;have r67:=r58.l bb61;have b68:=aa b59 bb61;obtain⟨eo,ec,hv⟩:=r163.shape;subst hv;clear q55 q54 r56 r57 r58 b59 bb61 HT q49 r50 r51 r148 b52 al53
  go_wp2_with fail
  refine(HS.out _ _ _ b68 r67).mono ?_;rintro zz w69 ⟨v171,rfl,r172,bb70⟩;have q73:=q64.l bb70;have r74:=r65.l bb70;have r75:=r66.l bb70;have r76:=r67.l bb70;have r77:=r163.l bb70;have b78:=aa b68 bb70;obtain⟨po,pc,hv⟩:=r172.shape;subst hv;clear q64 r65 r66 r67 r163 b68 bb70 HS
  go_wp2_with fail
  refine(HC.out _ _ _ _ _ b78 r172 r75).mono ?_;rintro zz w79 ⟨rfl,bb80⟩;have q81:=q73.l bb80;have r82:=r74.l bb80;have r83:=r75.l bb80;have r84:=r76.l bb80;have r85:=r77.l bb80;have r86:=r172.l bb80;have b87:=aa b78 bb80;clear q73 r74 r75 r76 r77 r172 b78 bb80 HC
  go_wp2_with fail
  refine(HB.out _ _ _ b87 r85).mono ?_;rintro zz w88 ⟨v190,rfl,r191,bb89⟩;have q92:=q81.l bb89;have r93:=r82.l bb89;have r94:=r83.l bb89;have r95:=r84.l bb89;have r96:=r85.l bb89;have r97:=r86.l bb89;have b98:=aa b87 bb89;obtain⟨uo,uc,hv⟩:=r191.shape;subst hv;clear q81 r82 r83 r84 r85 r86 b87 bb89 HB
  go_wp2_with fail
  refine(HD.out _ _ _ b98 r191).mono ?_;rintro zz w99 ⟨v1101,rfl,r1102,bb100⟩;have q103:=q92.l bb100;have r104:=r93.l bb100;have r105:=r94.l bb100;have r106:=r95.l bb100;have r107:=r96.l bb100;have r108:=r97.l bb100;have r109:=r191.l bb100;have b110:=aa b98 bb100;obtain⟨so,sc,hv⟩:=r1102.shape;subst hv;clear q92 r93 r94 r95 r96 r97 r191 b98 bb100 HD;have hf:=dL (P:=Tryz.prog) q103 b110 (by omega) underlying32 rfl (by kernel_rfl) (yi c) (.bool g) (.bool t.s) (.slice so (Dg.dg 65536 t.n).length sc) (yi t.e);have HH:Hid (_∧_∧_):=⟨hf.1,hf.2.2.rd r1102 (mu r1102 q103),hf.2.1⟩;obtain⟨⟨z0,z1,z2,z3,z4⟩,y0,y1,y2,y3,y4⟩:=dN q103;clear hf q103 r104 r105 r106 r107 r108 r109 r1102 b110
  go_wp2
  obtain⟨hl,rRs,bR⟩:=HH.out;exact bodyPost_ret (aj results31 rfl rfl hl) rfl ⟨_,rfl,rRs,bR⟩
theorem om {x L:Nat}(h:(Dg.dg 4294967296 x).length≤L):x<4294967296^L:=by
 have h1:=Dg.vl_lt 4294967296 _ (Dg.small_dg 4294967296 x (by omega));rw[Dg.vl_dg _ _ (by omega)] at h1;exact Nat.lt_of_lt_of_le h1 (Nat.pow_le_pow_right (by omega) h)
theorem abQ (x y L:Nat)(hx:(Dg.dg 4294967296 x).length≤L)(hy:(Dg.dg 4294967296 y).length≤L):(Dg.dg 4294967296 (x+y)).length≤L+1:=by
 have h1:=om hx;have h2:=om hy;refine Dg.dg_len_le 4294967296 _ (L+1) (by omega) ?_;rw[Nat.pow_succ];omega
theorem QP (va vr:Value)(a x m L:Nat)(w:World)(ha:Rd w .u32 va (Dg.dg 4294967296 a))(hr:Rd w .u32 vr (Dg.dg 4294967296 x))(hx:0<x)(hm1:1≤m)(hm2:m≤9)
  (hla:(Dg.dg 4294967296 a).length≤5000) (hL:x<4294967296^L) (hLl:L≤5000):
  yC 222 #[va,vr,yi ((m:Int)+1)] w (Num w (mQ a x m)):=by
 have hxl:(Dg.dg 4294967296 x).length≤L:=Dg.dg_len_le 4294967296 x L (by omega) hL;have hxm:0<x^m:=Nat.pow_pos hx;have HP:Hid (∀wr,yB w wr→yC 215 #[vr,yi m] wr (Num wr (x^m))):=fun wr b=>Iq vr x m L wr (hr.l b) hL (Nat.le_trans (Nat.mul_le_mul hLl hm2) (by omega)) (by omega) (by omega)
 have HO:Hid (∀v wr,yB w wr→Rd wr .u32 v (Dg.dg 4294967296 (x^m))→yC 178 #[va,v] wr (Two wr (a/x^m) (a % x^m))):=fun v wr b r=>by
  have:=A9 va v _ _ wr (ha.l b) r (Dg.small_dg _ _ (by omega)) (Dg.small_dg _ _ (by omega)) (Dg.norm_dg _ _ (by omega)) (Dg.norm_dg _ _ (by omega)) (by rw[Ne,Dg.dg_nil_iff _ _ (by omega)];omega) (by omega);rw[Dg.vl_dg _ _ (by omega),Dg.vl_dg _ _ (by omega)] at this;exact this
 have HT:Hid (∀v wr,yB w wr→Rd wr .u32 v [m]→yC 173 #[vr,v] wr (Num wr (x*m))):=fun v wr b r=>by
  have:=qC vr v _ _ wr (hr.l b) r (Dg.small_dg _ _ (by omega)) (Dg.small_cons.2 ⟨by omega,Dg.small_nil _ (by omega)⟩) (by omega) (by simp);rw[Dg.vl_dg _ _ (by omega),show Dg.vl 4294967296 [m]=m from by simp[Dg.vl]] at this
  exact this
 have l1:(Dg.dg 4294967296 (x*m)).length≤5001:=by
  refine Nat.le_trans (Dg.dg_len_le 4294967296 _ (L+1) (by omega) ?_) (by omega);rw[Nat.pow_succ];exact Nat.mul_lt_mul_of_lt_of_le hL (by omega) (by omega)
 have l2:(Dg.dg 4294967296 (a/x^m)).length≤5000:=by
  refine Nat.le_trans (Dg.dg_len_le 4294967296 _ (Dg.dg 4294967296 a).length (by omega) ?_) hla;refine Nat.lt_of_le_of_lt (Nat.div_le_self _ _) ?_;have:=Dg.vl_lt 4294967296 _ (Dg.small_dg 4294967296 a (by omega))
  rwa [Dg.vl_dg _ _ (by omega)] at this
 have HS:Hid (∀v1 v2 wr,Rd wr .u32 v1 (Dg.dg 4294967296 (x*m))→Rd wr .u32 v2 (Dg.dg 4294967296 (a/x^m))→yC 168 #[v1,v2] wr (Num wr (x*m+a/x^m))):=fun v1 v2 wr r1 r2=>by
  have:=rj v1 v2 _ _ wr r1 r2 (Dg.small_dg _ _ (by omega)) (Dg.small_dg _ _ (by omega)) (by omega) (by omega);rw[Dg.vl_dg _ _ (by omega),Dg.vl_dg _ _ (by omega)] at this;exact this
 have l3:(Dg.dg 4294967296 (x*m+a/x^m)).length≤6000:=by
  exact Nat.le_trans (abQ _ _ 5001 l1 (by omega)) (by omega)
 have hpos:0<x*m+a/x^m:=Nat.add_pos_left (Nat.mul_pos hx (by omega)) _;have l4:0< (Dg.dg 4294967296 (x*m+a/x^m)).length:=List.length_pos_iff.2 (by rw[Ne,Dg.dg_nil_iff _ _ (by omega)];omega);have HE:Hid ((x*m+a/x^m)/(m+1)=mQ a x m):=by unfold mQ;rw[Nat.mul_comm x m];rfl
 have HV:=Dg.vl_dg 4294967296 (x*m+a/x^m) (by omega);have HSM:=Dg.small_dg 4294967296 (x*m+a/x^m) (by omega);obtain⟨ao,ca,rfl⟩:=ha.shape;obtain⟨ro,cr,rfl⟩:=hr.shape;obtain⟨ma,hma⟩: ∃m,(Dg.dg 4294967296 a).length=m:=⟨_,rfl⟩;obtain⟨mr,hmr⟩: ∃m,(Dg.dg 4294967296 x).length=m:=⟨_,rfl⟩;obtain⟨S,hS⟩: ∃S,x*m+a/x^m=S:=⟨_,rfl⟩;obtain⟨ds,hds⟩: ∃ds,Dg.dg 4294967296 S=ds:=⟨_,rfl⟩;rw[hS] at HS l3 l4 HE HV HSM;rw[hds] at l3 l4 HV HSM;rw[hma] at HO⊢;rw[hmr] at HP HT⊢;have HDS:Hid (Dg.dg 4294967296 S=ds):=hds;have HV2:Hid (Dg.vl 4294967296 ds=S):=HV;have HSM2:Hid (Dg.Small 4294967296 ds):=HSM;clear ha hr hma hmr hla hL hLl hxl hxm l1 l2 hpos hS hds HV HSM
 go_enter func222,ntmps222
 go_wp2_with fail
 refine(HP.out w (Below.refl _ _)).mono ?_;rintro e w1 ⟨v1,rfl,o1,b1⟩
 go_wp2_with fail
 refine(HO.out v1 w1 b1 o1.rd).mono ?_;rintro e w2 ⟨v2,v3,rfl,o2,-,b2⟩;have b02:=aa b1 b2;have b3:yB w2 (w2.alloc (.cells #[.int .u32 (m:Int)] 141)):=(Below.refl _ _).alloc (Nat.le_refl _) _;have b03:=aa b02 b3;have o2r:=o2.rd.l b3;have od:=(zf w2 w2.heap.size 141 m (Nat.le_refl _)).rd;clear o1 o2 b1 b2 b3
 go_wp2_with fail
 refine(HT.out _ _ b03 od).mono ?_;rintro e w4 ⟨v4,rfl,o4,b4⟩;have b04:=aa b03 b4;have o2r:=o2r.l b4;clear od b4
 go_wp2_with fail
 refine(HS.out _ _ _ o4.rd o2r).mono ?_;rintro e w5 ⟨v5,rfl,o5,b5⟩;rw[HDS.out] at o5;have b05:=aa b04 b5;obtain⟨g,cap,rfl,hg1,hg2⟩:=World.ownsRow.form o5 l4;have o5:=o5.lower b04.size;clear o4 o2r
 go_wp2_with fail
 refine(uG g ds.length cap w.heap.size ds (m+1) w5 o5 HSM2.out (by omega) (by omega) (by omega)).mono ?_;rintro e w6 ⟨qs,rfl,o6,hql,hqs,hqv,gr⟩;rw[HV2.out,HE.out] at hqv;have b06:=b05.grown gr b05.size (fun k hk=>by cases hk;exact Nat.le_trans b04.size hg1)
 have r6:=o6.rd;clear o5 gr
 go_wp2_with fail
 refine(jD _ _ _ _ _ r6).mono ?_;rintro e w7 ⟨n7,rfl,hm7,rfl⟩;have t7:=jW 4294967296 (by omega) o6 hqs hm7;rw[hqv] at t7;clear r6 o6 hm7 hqs hql
 go_wp2
 go_ret
 exact⟨_,rfl,t7,b06⟩
end Go.Proofs.YtnhackdjplppjaaGreatDoor

/-
  Texts laid together: Gc3, Roo2, Roo3, Du3, Pa8, Dk3, Bl1, Bl6, Bm1, Bs1, Inv, BlN, BlM, Bm6, Bm7.
-/
import Derived.OrdersHeld
import Derived.Test.YtnhackdjplppjaaGreatDoorUd01
set_option maxRecDepth 100000
set_option maxHeartbeats 3200000
namespace Go.Proofs.YtnhackdjplppjaaGreatDoor
open _root_.Go.Proofs.Tryz
open Go.RowKit
theorem arithSqrts_err (e:Int)(n wy f1 e1:Int)(sa st:ByteArray)(w:World)(he:(e==0)=false)
  (HA:yH w 30 #[yi n,.string sa,yi wy] (.tuple #[.string st,yi f1,yi e1]))
  (HO: ∀pb w1,au w1 pb 9 [.string sa]→yC 18 #[yi n,yi wy,.slice (some ⟨pb,0,none⟩) 1 1] w1 (yR w1 (.tuple #[.slice none 0 0,yi e])))
  (HB:yH w 20 #[] (.bool true))
  (HI:yH w 21 #[yi n,.string st,yi f1,yi e1,yi e,yoV 0 false false (.slice none 0 0) 0,yi 0] (.bool true)):
  yC 8 #[yi n,.string sa,yi wy] w (yR w (.bool true)):=by
 replace HA:Hid _:=HA;replace HO:Hid _:=HO;replace HB:Hid _:=HB;replace HI:Hid _:=HI
 go_enter func8,ntmps8
 have b0:=Below.refl w.heap.size w
 go_wp2_with fail
 refine(HA.out _ b0).mono ?_;rintro zz w1 ⟨rfl,bb2⟩;have b3:=aa b0 bb2;clear b0 bb2 HA;have al4:=af w1 (.cells #[.string sa] 9);have q5:=ah w1 [.string sa] 9;have b6:=aa b3 al4
 go_wp2_with fail
 refine(HO.out _ _ q5).mono ?_;rintro zz w7 ⟨rfl,bb8⟩;have b9:=aa b6 bb8;clear q5 b6 bb8 HO b3 al4;obtain⟨W13,hW12,q11,al10⟩:=cA w7 (yoL 0 false false (.slice none 0 0) 0) 32;replace hW12:Hid _:=hW12;have hl14:w.heap.size≤w7.heap.size:=b9.size;have b15:=aa b9 al10;clear b9 al10
 go_upto_region 4 with fail
 rw[hW12.out];clear hW12
 go_wp2_with fail
 refine(HB.out _ b15).mono ?_;rintro zz w16 ⟨rfl,bb17⟩;have q18:=q11.l bb17;have b19:=aa b15 bb17;clear q11 b15 bb17 HB;obtain⟨c20,c21,c22,c23,c24⟩:=q18.cs5
 go_wp2_with fail
 refine(HI.out _ b19).mono ?_;rintro zz w25 ⟨rfl,bb26⟩;have b27:=aa b19 bb26;clear q18 b19 bb26 HI c20 c21 c22 c23 c24
 go_wp2
 go_ret
 exact⟨by simp,b27⟩
theorem arithSqrts_ok (cx c fl:Int)(gx g:Bool)(x t:ak)(n wy f1 e1:Int)(sa st:ByteArray)(w:World)
  (HA:yH w 30 #[yi n,.string sa,yi wy] (.tuple #[.string st,yi f1,yi e1]))
  (HO: ∀pb w1,au w1 pb 9 [.string sa]→yC 18 #[yi n,yi wy,.slice (some ⟨pb,0,none⟩) 1 1] w1 fun zz w'=> ∃gb cap xo xc,zz= .returned (.tuple #[.slice (some ⟨gb,0,none⟩) 1 cap,yi 0])∧w'.rangeAt gb 0 (yEL cx gx x xo xc)∧Rd w' .i64 (.slice xo (Dg.dg 65536 x.n).length xc) (Dg.dg 65536 x.n)∧yB w1 w')
  (HR: ∀xo xc w1,yB w w1→Rd w1 .i64 (.slice xo (Dg.dg 65536 x.n).length xc) (Dg.dg 65536 x.n)→yC 31 #[yi n,yEV cx gx x xo xc,yi wy] w1 (RVF w1 c g t fl))
  (HB:yH w 20 #[] (.bool true))
  (HI: ∀so sc w1,yB w w1→Rd w1 .i64 (.slice so (Dg.dg 65536 t.n).length sc) (Dg.dg 65536 t.n)→yC 21 #[yi n,.string st,yi f1,yi e1,yi 0,yEV c g t so sc,yi fl] w1 (yR w1 (.bool true))):
  yC 8 #[yi n,.string sa,yi wy] w (yR w (.bool true)):=by
 replace HA:Hid _:=HA;replace HO:Hid _:=HO;replace HR:Hid _:=HR;replace HB:Hid _:=HB;replace HI:Hid _:=HI
 go_enter func8,ntmps8
 have b0:=Below.refl w.heap.size w
 go_wp2_with fail
 refine(HA.out _ b0).mono ?_;rintro zz w1 ⟨rfl,bb2⟩;have b3:=aa b0 bb2;clear b0 bb2 HA;have al4:=af w1 (.cells #[.string sa] 9);have q5:=ah w1 [.string sa] 9;have b6:=aa b3 al4
 go_wp2_with fail
 refine(HO.out _ _ q5).mono ?_;rintro zz w7 ⟨gb,cap,xo,xc,rfl,h0,rx9,bb8⟩;have b10:=aa b6 bb8;clear q5 b6 bb8 HO b3 al4;obtain⟨W14,hW13,q12,al11⟩:=cA w7 (yoL 0 false false (.slice none 0 0) 0) 32;replace hW13:Hid _:=hW13;have hl15:w.heap.size≤w7.heap.size:=b10.size;have hl16:=World.block_lt_of_cell? _ _ (h0 0 _ rfl);have q17:=aC h0 al11;have r18:=rx9.l al11;have b19:=aa b10 al11;clear h0 rx9 b10 al11
 go_upto_region 4 with fail
 rw[hW13.out];clear hW13;have c20:=q17 0 _ rfl;have c21:=q17 1 _ rfl;have c22:=q17 2 _ rfl;have c23:=q17 3 _ rfl;have c24:=q17 4 _ rfl
 go_wp2_with fail
 refine(HR.out _ _ _ b19 r18).mono ?_;rintro zz w25 ⟨v127,rfl,r128,bb26⟩;have q29:=q12.l bb26;have b30:=aa b19 bb26;obtain⟨so,sc,hv⟩:=r128.shape;subst hv;clear q17 q12 r18 b19 bb26 HR c20 c21 c22 c23 c24;have bu:=((((ag w25 w7.heap.size 0 (yi c)).trans (ag _ w7.heap.size 1 (.bool g))).trans (ag _ w7.heap.size 2 (.bool t.s))).trans (ag _ w7.heap.size 3 (.slice so (Dg.dg 65536 t.n).length sc))).trans (ag _ w7.heap.size 4 (yi t.e));have q31:au (((((w25.setCell ⟨w7.heap.size,0,none⟩ (yi c)).setCell ⟨w7.heap.size,1,none⟩ (.bool g)).setCell ⟨w7.heap.size,2,none⟩ (.bool t.s)).setCell ⟨w7.heap.size,3,none⟩ (.slice so (Dg.dg 65536 t.n).length sc)).setCell ⟨w7.heap.size,4,none⟩ (yi t.e)) w7.heap.size 32 (yEL c g t so sc):=(((((q29.set 0 (yi c)).set 1 (.bool g)).set 2 (.bool t.s)).set 3 (.slice so (Dg.dg 65536 t.n).length sc)).set 4 (yi t.e));have c32:=q29.c 0 rfl;have y33:=q29.f 0;have c34:=q29.c 1 rfl;have y35:=q29.f 1;have c36:=q29.c 2 rfl;have y37:=q29.f 2;have c38:=q29.c 3 rfl;have y39:=q29.f 3;have c40:=q29.c 4 rfl;have y41:=q29.f 4;have r42:=bu.rd r128 (mu r128 q29);have b43:=bu.below b30 (by omega);clear bu
 go_upto_region 7 with fail
 generalize((((w25.setCell ⟨w7.heap.size,0,none⟩ (yi c)).setCell ⟨w7.heap.size,1,none⟩ (.bool g)).setCell ⟨w7.heap.size,2,none⟩ (.bool t.s)).setCell ⟨w7.heap.size,3,none⟩ (.slice so (Dg.dg 65536 t.n).length sc)).setCell ⟨w7.heap.size,4,none⟩ (yi t.e)=W44 at q31 r42 b43⊢;clear q29 r128 b30 c32 y33 c34 y35 c36 y37 c38 y39 c40 y41
 go_wp2_with fail
 refine(HB.out _ b43).mono ?_;rintro zz w45 ⟨rfl,bb46⟩;have q47:=q31.l bb46;have r48:=r42.l bb46;have b49:=aa b43 bb46;clear q31 r42 b43 bb46 HB;obtain⟨c50,c51,c52,c53,c54⟩:=q47.cs5
 go_wp2_with fail
 refine(HI.out _ _ _ b49 r48).mono ?_;rintro zz w55 ⟨rfl,bb56⟩;have b57:=aa b49 bb56;clear q47 r48 b49 bb56 HI c50 c51 c52 c53 c54
 go_wp2
 go_ret
 exact⟨by simp,b57⟩
theorem refSqrt_off (cx c fl:Int)(n wy:Int)(gx:Bool)(x:ak)(xo:Option Addr)(xc:Nat)(w:World)(HO: ∀pb w1,au w1 pb 32 (yEL cx gx x xo xc)→yC 58 #[yi n,.slice (some ⟨pb,0,none⟩) 1 1] w1 (yR w1 (.tuple #[yoV c false false (.slice none 0 0) 0,yi fl,.bool true]))):
  yC 31 #[yi n,yEV cx gx x xo xc,yi wy] w (RVF w c false ⟨false,0,0⟩ fl):=by
 replace HO:Hid _:=HO;obtain⟨W4,hW5,q1,q2,b3⟩:=iG w (yEL cx gx x xo xc) 32 (yoL 0 false false (.slice none 0 0) 0) 32;replace hW5:Hid _:=hW5
 go_enter func31,ntmps31
 go_upto_region 1 with fail
 rw[hW5.out];clear hW5;obtain⟨c6,c7,c8,c9,c10⟩:=q1.cs5;have al11:=af W4 (.cells (yEA cx gx x xo xc) 32);have q12:=ah W4 (yEL cx gx x xo xc) 32;have q13:=q2.l al11;have b14:=aa b3 al11
 go_wp2_with fail
 refine(HO.out _ _ q12).mono ?_;rintro zz w15 ⟨rfl,bb16⟩;have q17:=q13.l bb16;have b18:=aa b14 bb16;clear q13 q12 b14 bb16 HO c6 c7 c8 c9 c10 q1 q2 b3 al11;obtain⟨W22,hW21,q20,al19⟩:=cA w15 (yoL c false false (.slice none 0 0) 0) 32;replace hW21:Hid _:=hW21;have hl23:w.heap.size≤w15.heap.size:=b18.size;have hl24:=q17.lt;have q25:=q17.l al19;have b26:=aa b18 al19;clear q17 b18 al19
 go_upto_region 2 with fail
 rw[hW21.out];clear hW21;obtain⟨c27,c28,c29,c30,c31⟩:=q20.cs5;have hf:=dL (P:=Tryz.prog) q25 b26 (by omega) underlying32 rfl (by kernel_rfl) (yi c) (.bool false) (.bool false) (.slice none 0 0) (yi 0);have HH:Hid (_∧_):=⟨hf.1,hf.2.1⟩;obtain⟨⟨z0,z1,z2,z3,z4⟩,y0,y1,y2,y3,y4⟩:=dN q25;clear hf q25 q20 b26
 go_wp2
 obtain⟨hl,bR⟩:=HH.out;exact bodyPost_ret (aj results31 rfl rfl hl) rfl ⟨_,rfl,aN _ _,bR⟩
theorem refSqrt_zero (zg:Bool)(n wy:Int)(gx:Bool)(x:ak)(xo:Option Addr)(xc:Nat)(w:World)(HO: ∀pb w1,au w1 pb 32 (yEL 1 gx x xo xc)→yC 58 #[yi n,.slice (some ⟨pb,0,none⟩) 1 1] w1 (yR w1 (.tuple #[yoV 0 false false (.slice none 0 0) 0,yi 0,.bool false])))
  (HZ:yJ 38 #[yi n,.bool gx] (yoV 1 zg false (.slice none 0 0) 0)):
  yC 31 #[yi n,yEV 1 gx x xo xc,yi wy] w (RVF w 1 zg ⟨false,0,0⟩ 0):=by
 replace HO:Hid _:=HO;replace HZ:Hid _:=HZ;obtain⟨W4,hW5,q1,q2,b3⟩:=iG w (yEL 1 gx x xo xc) 32 (yoL 0 false false (.slice none 0 0) 0) 32;replace hW5:Hid _:=hW5
 go_enter func31,ntmps31
 go_upto_region 1 with fail
 rw[hW5.out];clear hW5;obtain⟨c6,c7,c8,c9,c10⟩:=q1.cs5;have al11:=af W4 (.cells (yEA 1 gx x xo xc) 32);have q12:=ah W4 (yEL 1 gx x xo xc) 32;have q13:=q1.l al11;have q14:=q2.l al11;have b15:=aa b3 al11
 go_wp2_with fail
 refine(HO.out _ _ q12).mono ?_;rintro zz w16 ⟨rfl,bb17⟩;have q18:=q13.l bb17;have q19:=q14.l bb17;have b20:=aa b15 bb17;clear q13 q14 q12 b15 bb17 HO c6 c7 c8 c9 c10 q1 q2 b3 al11;obtain⟨W24,hW23,q22,al21⟩:=cA w16 (yoL 0 false false (.slice none 0 0) 0) 32;replace hW23:Hid _:=hW23;have hl25:w.heap.size≤w16.heap.size:=b20.size;have hl26:=q19.lt;have q27:=q18.l al21;have q28:=q19.l al21;have b29:=aa b20 al21;clear q18 q19 b20 al21 q22
 go_upto_region 2 with fail
 rw[hW23.out];clear hW23;have c30:=q27.c 0 rfl;have c31:=q27.c 1 rfl
 go_wp2_with fail
 refine(HZ.out _).mono ?_;rintro zz w32 ⟨rfl,bb33⟩;have q34:=q28.l bb33;have b35:=aa b29 bb33;clear q27 q28 b29 bb33 HZ c30 c31;have hf:=dL (P:=Tryz.prog) q34 b35 (by omega) underlying32 rfl (by kernel_rfl) (yi 1) (.bool zg) (.bool false) (.slice none 0 0) (yi 0);have HH:Hid (_∧_):=⟨hf.1,hf.2.1⟩;obtain⟨⟨z0,z1,z2,z3,z4⟩,y0,y1,y2,y3,y4⟩:=dN q34;clear hf q34 b35
 go_wp2
 obtain⟨hl,bR⟩:=HH.out;exact bodyPost_ret (aj results31 rfl rfl hl) rfl ⟨_,rfl,aN _ _,bR⟩
theorem refSqrt_neg (cx c:Int)(n wy:Int)(x:ak)(xo:Option Addr)(xc:Nat)(w:World)(h1:(cx==1)=false)(HO: ∀pb w1,au w1 pb 32 (yEL cx true x xo xc)→yC 58 #[yi n,.slice (some ⟨pb,0,none⟩) 1 1] w1 (yR w1 (.tuple #[yoV 0 false false (.slice none 0 0) 0,yi 0,.bool false])))
  (HL: ∀w1,yC 59 #[yi n] w1 (RVF w1 c false ⟨false,0,0⟩ 16)):
  yC 31 #[yi n,yEV cx true x xo xc,yi wy] w (RVF w c false ⟨false,0,0⟩ 16):=by
 replace HO:Hid _:=HO;replace HL:Hid _:=HL;obtain⟨W4,hW5,q1,q2,b3⟩:=iG w (yEL cx true x xo xc) 32 (yoL 0 false false (.slice none 0 0) 0) 32;replace hW5:Hid _:=hW5
 go_enter func31,ntmps31
 go_upto_region 1 with fail
 rw[hW5.out];clear hW5;obtain⟨c6,c7,c8,c9,c10⟩:=q1.cs5;have al11:=af W4 (.cells (yEA cx true x xo xc) 32);have q12:=ah W4 (yEL cx true x xo xc) 32;have q13:=q1.l al11;have q14:=q2.l al11;have b15:=aa b3 al11
 go_wp2_with fail
 refine(HO.out _ _ q12).mono ?_;rintro zz w16 ⟨rfl,bb17⟩;have q18:=q13.l bb17;have q19:=q14.l bb17;have b20:=aa b15 bb17;clear q13 q14 q12 b15 bb17 HO c6 c7 c8 c9 c10 q1 q2 b3 al11;obtain⟨W24,hW23,q22,al21⟩:=cA w16 (yoL 0 false false (.slice none 0 0) 0) 32;replace hW23:Hid _:=hW23;have hl25:w.heap.size≤w16.heap.size:=b20.size;have hl26:=q19.lt;have q27:=q18.l al21;have q28:=q19.l al21;have b29:=aa b20 al21;clear q18 q19 b20 al21 q22
 go_upto_region 2 with fail
 rw[hW23.out];clear hW23;have c30:=q27.c 0 rfl;have c31:=q27.c 1 rfl
 go_wp2_with fail
 refine(HL.out _).mono ?_;rintro zz w32 ⟨v134,rfl,r135,bb33⟩;have q36:=q28.l bb33;have b37:=aa b29 bb33;obtain⟨so,sc,hv⟩:=r135.shape;subst hv;clear q27 q28 b29 bb33 HL c30 c31;have hf:=dL (P:=Tryz.prog) q36 b37 (by omega) underlying32 rfl (by kernel_rfl) (yi c) (.bool false) (.bool false) (.slice so (Dg.dg 65536 0).length sc) (yi 0);have HH:Hid (_∧_∧_):=⟨hf.1,hf.2.2.rd r135 (mu r135 q36),hf.2.1⟩;obtain⟨⟨z0,z1,z2,z3,z4⟩,y0,y1,y2,y3,y4⟩:=dN q36;clear hf q36 r135 b37
 go_wp2
 obtain⟨hl,rRs,bR⟩:=HH.out;exact bodyPost_ret (aj results31 rfl rfl hl) rfl ⟨_,rfl,rRs,bR⟩
theorem refSqrt_inf (n wy:Int)(x:ak)(xo:Option Addr)(xc:Nat)(w:World)(rx:Rd w .i64 (.slice xo (Dg.dg 65536 x.n).length xc) (Dg.dg 65536 x.n))(HO: ∀pb w1,au w1 pb 32 (yEL 3 false x xo xc)→yC 58 #[yi n,.slice (some ⟨pb,0,none⟩) 1 1] w1 (yR w1 (.tuple #[yoV 0 false false (.slice none 0 0) 0,yi 0,.bool false]))):
  yC 31 #[yi n,yEV 3 false x xo xc,yi wy] w (RVF w 3 false x 0):=by
 replace HO:Hid _:=HO;obtain⟨W4,hW5,q1,q2,b3⟩:=iG w (yEL 3 false x xo xc) 32 (yoL 0 false false (.slice none 0 0) 0) 32;replace hW5:Hid _:=hW5;have r6:=rx.l b3;clear rx
 go_enter func31,ntmps31
 go_upto_region 1 with fail
 rw[hW5.out];clear hW5;obtain⟨c7,c8,c9,c10,c11⟩:=q1.cs5;have al12:=af W4 (.cells (yEA 3 false x xo xc) 32);have q13:=ah W4 (yEL 3 false x xo xc) 32;have q14:=q1.l al12;have q15:=q2.l al12;have r16:=r6.l al12;have b17:=aa b3 al12
 go_wp2_with fail
 refine(HO.out _ _ q13).mono ?_;rintro zz w18 ⟨rfl,bb19⟩;have q20:=q14.l bb19;have q21:=q15.l bb19;have r22:=r16.l bb19;have b23:=aa b17 bb19;clear q14 q15 q13 r16 b17 bb19 HO c7 c8 c9 c10 c11 q1 q2 r6 b3 al12;obtain⟨W27,hW26,q25,al24⟩:=cA w18 (yoL 0 false false (.slice none 0 0) 0) 32;replace hW26:Hid _:=hW26;have hl28:w.heap.size≤w18.heap.size:=b23.size;have hl29:=q21.lt;have q30:=q20.l al24;have q31:=q21.l al24;have r32:=r22.l al24;have b33:=aa b23 al24;clear q20 q21 r22 b23 al24 q25
 go_upto_region 2 with fail
 rw[hW26.out];clear hW26;obtain⟨c34,c35,c36,c37,c38⟩:=q30.cs5;have hf:=dL (P:=Tryz.prog) q31 b33 (by omega) underlying32 rfl (by kernel_rfl) (yi 3) (.bool false) (.bool x.s) (.slice xo (Dg.dg 65536 x.n).length xc) (yi x.e);have HH:Hid (_∧_∧_):=⟨hf.1,hf.2.2.rd r32 (mu r32 q31),hf.2.1⟩;obtain⟨⟨z0,z1,z2,z3,z4⟩,y0,y1,y2,y3,y4⟩:=dN q31;clear hf q30 q31 r32 b33
 go_wp2
 obtain⟨hl,rRx,bR⟩:=HH.out;exact bodyPost_ret (aj results31 rfl rfl hl) rfl ⟨_,rfl,rRx,bR⟩
theorem refSqrt_num0 (cx c fl E0 sh qe fe cm:Int)(g:Bool)(M R D P Q:Nat)(t u:ak)(n wy:Int)(x:ak)(xo:Option Addr)(xc:Nat)(w:World)(rx:Rd w .i64 (.slice xo (Dg.dg 65536 x.n).length xc) (Dg.dg 65536 x.n))(h1:(cx==1)=false)(h3:(cx==3)=false)(hE:(IntKind.i64.wrap (x.e-300)=E0∧E0.tmod 2=0)∨ ∃F,IntKind.i64.wrap (x.e-300)=F∧ ¬F.tmod 2=0∧IntKind.i64.wrap (F-1)=E0)(hd:IntKind.i64.wrap (x.e-E0)=sh)(hq:IntKind.i64.wrap (E0.tdiv 2)=qe)(hf:IntKind.i64.wrap (qe-1)=fe)(hcm:(cm==0)=false)
  (HO: ∀pb w1,au w1 pb 32 (yEL cx false x xo xc)→yC 58 #[yi n,.slice (some ⟨pb,0,none⟩) 1 1] w1 (yR w1 (.tuple #[yoV 0 false false (.slice none 0 0) 0,yi 0,.bool false])))
  (HU: ∀w1,yB w w1→yC 74 #[.slice xo (Dg.dg 65536 x.n).length xc,yi sh] w1 (cG w1 M))
  (HR: ∀mo mc w1,yB w w1→Rd w1 .i64 (.slice mo (Dg.dg 65536 M).length mc) (Dg.dg 65536 M)→yC 75 #[.slice mo (Dg.dg 65536 M).length mc,yi 2] w1 (cG w1 R))
  (HT: ∀ro rc q w1,yB w w1→Rd w1 .i64 (.slice ro (Dg.dg 65536 R).length rc) (Dg.dg 65536 R)→au w1 q 3 [yi 2]→yC 76 #[.slice ro (Dg.dg 65536 R).length rc,.slice (some ⟨q,0,none⟩) 1 1] w1 (cG w1 D))
  (HS: ∀ro rc w1,yB w w1→Rd w1 .i64 (.slice ro (Dg.dg 65536 R).length rc) (Dg.dg 65536 R)→yC 76 #[.slice ro (Dg.dg 65536 R).length rc,.slice ro (Dg.dg 65536 R).length rc] w1 (cG w1 P))
  (HC: ∀po pc mo mc w1,yB w w1→Rd w1 .i64 (.slice po (Dg.dg 65536 P).length pc) (Dg.dg 65536 P)→Rd w1 .i64 (.slice mo (Dg.dg 65536 M).length mc) (Dg.dg 65536 M)→yC 77 #[.slice po (Dg.dg 65536 P).length pc,.slice mo (Dg.dg 65536 M).length mc] w1 (yR w1 (yi cm)))
  (HP: ∀d0 dc q w1,yB w w1→Rd w1 .i64 (.slice d0 (Dg.dg 65536 D).length dc) (Dg.dg 65536 D)→au w1 q 3 [yi 1]→yC 78 #[.slice d0 (Dg.dg 65536 D).length dc,.slice (some ⟨q,0,none⟩) 1 1] w1 (cG w1 Q))
  (HB: ∀eo ec w1,yB w w1→Rd w1 .i64 (.slice eo (Dg.dg 65536 Q).length ec) (Dg.dg 65536 Q)→yC 79 #[ydV false (.slice eo (Dg.dg 65536 Q).length ec) fe] w1 (dr w1 u))
  (HD: ∀uo uc w1,yB w w1→Rd w1 .i64 (.slice uo (Dg.dg 65536 u.n).length uc) (Dg.dg 65536 u.n)→yC 66 #[yi n,yMV u uo uc,yi wy] w1 (RVF w1 c g t fl)):
  yC 31 #[yi n,yEV cx false x xo xc,yi wy] w (RVF w c g t fl):=by
 rcases hE with⟨hE0,ho⟩| ⟨F,hE0,ho,hE1⟩
 all_goals
  replace HO:Hid _:=HO;replace HU:Hid _:=HU;replace HR:Hid _:=HR;replace HT:Hid _:=HT;replace HS:Hid _:=HS;replace HC:Hid _:=HC;replace HP:Hid _:=HP;replace HB:Hid _:=HB;replace HD:Hid _:=HD;obtain⟨W4,hW5,q1,q2,b3⟩:=iG w (yEL cx false x xo xc) 32 (yoL 0 false false (.slice none 0 0) 0) 32;replace hW5:Hid _:=hW5;have r6:=rx.l b3;clear rx
  go_enter func31,ntmps31
  go_upto_region 1 with fail
  rw[hW5.out];clear hW5;obtain⟨c7,c8,c9,c10,c11⟩:=q1.cs5;have al12:=af W4 (.cells (yEA cx false x xo xc) 32);have q13:=ah W4 (yEL cx false x xo xc) 32;have q14:=q1.l al12;have q15:=q2.l al12;have r16:=r6.l al12;have b17:=aa b3 al12
  go_wp2_with fail
  refine(HO.out _ _ q13).mono ?_;rintro zz w18 ⟨rfl,bb19⟩;have q20:=q14.l bb19;have q21:=q15.l bb19;have r22:=r16.l bb19;have b23:=aa b17 bb19;clear q14 q15 q13 r16 b17 bb19 HO c7 c8 c9 c10 c11 q1 q2 r6 b3 al12;obtain⟨W27,hW26,q25,al24⟩:=cA w18 (yoL 0 false false (.slice none 0 0) 0) 32;replace hW26:Hid _:=hW26;have hl28:w.heap.size≤w18.heap.size:=b23.size;have hl29:=q21.lt;have q30:=q20.l al24;have q31:=q21.l al24;have r32:=r22.l al24;have b33:=aa b23 al24;clear q20 q21 r22 b23 al24 q25
  go_upto_region 2 with fail
  rw[hW26.out];clear hW26;have c34:=q30.c 0 rfl;have c35:=q30.c 1 rfl;have c36:=q30.c 3 rfl;have c37:=q30.c 4 rfl
  go_wp2_with fail
  refine(HU.out _ b33).mono ?_;rintro zz w38 ⟨v140,rfl,r141,bb39⟩;have q42:=q31.l bb39;have r43:=r32.l bb39;have b44:=aa b33 bb39;obtain⟨mo,mc,hv⟩:=r141.shape;subst hv;clear q30 q31 r32 b33 bb39 HU c34 c35 c36 c37
  go_wp2_with fail
  refine(HR.out _ _ _ b44 r141).mono ?_;rintro zz w45 ⟨v147,rfl,r148,bb46⟩;have q49:=q42.l bb46;have r50:=r43.l bb46;have r51:=r141.l bb46;have b52:=aa b44 bb46;obtain⟨ro,rc,hv⟩:=r148.shape;subst hv;clear q42 r43 r141 b44 bb46 HR;have al53:=af w45 (.cells #[yi 2] 3);have q54:=ah w45 [yi 2] 3;have q55:=q49.l al53;have r56:=r50.l al53;have r57:=r51.l al53;have r58:=r148.l al53;have b59:=aa b52 al53
  go_wp2_with fail
  refine(HT.out _ _ _ _ b59 r58 q54).mono ?_;rintro zz w60 ⟨v162,rfl,r163,bb61⟩;have q64:=q55.l bb61;have r65:=r56.l bb61;have r66:=r57.l bb61;have r67:=r58.l bb61;have b68:=aa b59 bb61;obtain⟨ko,kc,hv⟩:=r163.shape;subst hv;clear q55 q54 r56 r57 r58 b59 bb61 HT q49 r50 r51 r148 b52 al53
  go_wp2_with fail
  refine(HS.out _ _ _ b68 r67).mono ?_;rintro zz w69 ⟨v171,rfl,r172,bb70⟩;have q73:=q64.l bb70;have r74:=r65.l bb70;have r75:=r66.l bb70;have r76:=r67.l bb70;have r77:=r163.l bb70;have b78:=aa b68 bb70;obtain⟨po,pc,hv⟩:=r172.shape;subst hv;clear q64 r65 r66 r67 r163 b68 bb70 HS
  go_wp2_with fail
  refine(HC.out _ _ _ _ _ b78 r172 r75).mono ?_;rintro zz w79 ⟨rfl,bb80⟩;have q81:=q73.l bb80;have r82:=r74.l bb80;have r83:=r75.l bb80;have r84:=r76.l bb80;have r85:=r77.l bb80;have r86:=r172.l bb80;have b87:=aa b78 bb80;clear q73 r74 r75 r76 r77 r172 b78 bb80 HC;have al88:=af w79 (.cells #[yi 1] 3);have q89:=ah w79 [yi 1] 3;have q90:=q81.l al88;have r91:=r82.l al88;have r92:=r83.l al88;have r93:=r84.l al88;have r94:=r85.l al88;have r95:=r86.l al88;have b96:=aa b87 al88
  go_wp2_with fail
  refine(HP.out _ _ _ _ b96 r94 q89).mono ?_;rintro zz w97 ⟨v199,rfl,r1100,bb98⟩;have q101:=q90.l bb98;have r102:=r91.l bb98;have r103:=r92.l bb98;have r104:=r93.l bb98;have r105:=r94.l bb98;have r106:=r95.l bb98;have b107:=aa b96 bb98;obtain⟨eo,ec,hv⟩:=r1100.shape;subst hv;clear q90 q89 r91 r92 r93 r94 r95 b96 bb98 HP q81 r82 r83 r84 r85 r86 b87 al88
  go_wp2_with fail
  refine(HB.out _ _ _ b107 r1100).mono ?_;rintro zz w108 ⟨v1110,rfl,r1111,bb109⟩;have q112:=q101.l bb109;have r113:=r102.l bb109;have r114:=r103.l bb109;have r115:=r104.l bb109;have r116:=r105.l bb109;have r117:=r106.l bb109;have r118:=r1100.l bb109;have b119:=aa b107 bb109;obtain⟨uo,uc,hv⟩:=r1111.shape;subst hv;clear q101 r102 r103 r104 r105 r106 r1100 b107 bb109 HB
  go_wp2_with fail
  refine(HD.out _ _ _ b119 r1111).mono ?_;rintro zz w120 ⟨v1122,rfl,r1123,bb121⟩;have q124:=q112.l bb121;have r125:=r113.l bb121;have r126:=r114.l bb121;have r127:=r115.l bb121;have r128:=r116.l bb121;have r129:=r117.l bb121;have r130:=r118.l bb121;have r131:=r1111.l bb121;have b132:=aa b119 bb121;obtain⟨so,sc,hv⟩:=r1123.shape;subst hv;clear q112 r113 r114 r115 r116 r117 r118 r1111 b119 bb121 HD;have hf:=dL (P:=Tryz.prog) q124 b132 (by omega) underlying32 rfl (by kernel_rfl) (yi c) (.bool g) (.bool t.s) (.slice so (Dg.dg 65536 t.n).length sc) (yi t.e);have HH:Hid (_∧_∧_):=⟨hf.1,hf.2.2.rd r1123 (mu r1123 q124),hf.2.1⟩;obtain⟨⟨z0,z1,z2,z3,z4⟩,y0,y1,y2,y3,y4⟩:=dN q124;clear hf q124 r125 r126 r127 r128 r129 r130 r131 r1123 b132
  go_wp2
  obtain⟨hl,rRs,bR⟩:=HH.out;exact bodyPost_ret (aj results31 rfl rfl hl) rfl ⟨_,rfl,rRs,bR⟩
theorem refSqrt_num1 (cx c fl E0 sh qe fe:Int)(g:Bool)(M R D P:Nat)(t u:ak)(n wy:Int)(x:ak)(xo:Option Addr)(xc:Nat)(w:World)(rx:Rd w .i64 (.slice xo (Dg.dg 65536 x.n).length xc) (Dg.dg 65536 x.n))(h1:(cx==1)=false)(h3:(cx==3)=false)(hE:(IntKind.i64.wrap (x.e-300)=E0∧E0.tmod 2=0)∨ ∃F,IntKind.i64.wrap (x.e-300)=F∧ ¬F.tmod 2=0∧IntKind.i64.wrap (F-1)=E0)(hd:IntKind.i64.wrap (x.e-E0)=sh)(hq:IntKind.i64.wrap (E0.tdiv 2)=qe)(hf:IntKind.i64.wrap (qe-1)=fe)
  (HO: ∀pb w1,au w1 pb 32 (yEL cx false x xo xc)→yC 58 #[yi n,.slice (some ⟨pb,0,none⟩) 1 1] w1 (yR w1 (.tuple #[yoV 0 false false (.slice none 0 0) 0,yi 0,.bool false])))
  (HU: ∀w1,yB w w1→yC 74 #[.slice xo (Dg.dg 65536 x.n).length xc,yi sh] w1 (cG w1 M))
  (HR: ∀mo mc w1,yB w w1→Rd w1 .i64 (.slice mo (Dg.dg 65536 M).length mc) (Dg.dg 65536 M)→yC 75 #[.slice mo (Dg.dg 65536 M).length mc,yi 2] w1 (cG w1 R))
  (HT: ∀ro rc q w1,yB w w1→Rd w1 .i64 (.slice ro (Dg.dg 65536 R).length rc) (Dg.dg 65536 R)→au w1 q 3 [yi 2]→yC 76 #[.slice ro (Dg.dg 65536 R).length rc,.slice (some ⟨q,0,none⟩) 1 1] w1 (cG w1 D))
  (HS: ∀ro rc w1,yB w w1→Rd w1 .i64 (.slice ro (Dg.dg 65536 R).length rc) (Dg.dg 65536 R)→yC 76 #[.slice ro (Dg.dg 65536 R).length rc,.slice ro (Dg.dg 65536 R).length rc] w1 (cG w1 P))
  (HC: ∀po pc mo mc w1,yB w w1→Rd w1 .i64 (.slice po (Dg.dg 65536 P).length pc) (Dg.dg 65536 P)→Rd w1 .i64 (.slice mo (Dg.dg 65536 M).length mc) (Dg.dg 65536 M)→yC 77 #[.slice po (Dg.dg 65536 P).length pc,.slice mo (Dg.dg 65536 M).length mc] w1 (yR w1 (yi 0)))
  (HB: ∀eo ec w1,yB w w1→Rd w1 .i64 (.slice eo (Dg.dg 65536 D).length ec) (Dg.dg 65536 D)→yC 79 #[ydV false (.slice eo (Dg.dg 65536 D).length ec) fe] w1 (dr w1 u))
  (HD: ∀uo uc w1,yB w w1→Rd w1 .i64 (.slice uo (Dg.dg 65536 u.n).length uc) (Dg.dg 65536 u.n)→yC 66 #[yi n,yMV u uo uc,yi wy] w1 (RVF w1 c g t fl)):
  yC 31 #[yi n,yEV cx false x xo xc,yi wy] w (RVF w c g t fl):=by
 rcases hE with⟨hE0,ho⟩| ⟨F,hE0,ho,hE1⟩
 all_goals
  replace HO:Hid _:=HO;replace HU:Hid _:=HU;replace HR:Hid _:=HR;replace HT:Hid _:=HT;replace HS:Hid _:=HS;replace HC:Hid _:=HC;replace HB:Hid _:=HB;replace HD:Hid _:=HD;obtain⟨W4,hW5,q1,q2,b3⟩:=iG w (yEL cx false x xo xc) 32 (yoL 0 false false (.slice none 0 0) 0) 32;replace hW5:Hid _:=hW5;have r6:=rx.l b3;clear rx
  go_enter func31,ntmps31
  go_upto_region 1 with fail
  rw[hW5.out];clear hW5;obtain⟨c7,c8,c9,c10,c11⟩:=q1.cs5;have al12:=af W4 (.cells (yEA cx false x xo xc) 32);have q13:=ah W4 (yEL cx false x xo xc) 32;have q14:=q1.l al12;have q15:=q2.l al12;have r16:=r6.l al12;have b17:=aa b3 al12
  go_wp2_with fail
  refine(HO.out _ _ q13).mono ?_;rintro zz w18 ⟨rfl,bb19⟩;have q20:=q14.l bb19;have q21:=q15.l bb19;have r22:=r16.l bb19;have b23:=aa b17 bb19;clear q14 q15 q13 r16 b17 bb19 HO c7 c8 c9 c10 c11 q1 q2 r6 b3 al12;obtain⟨W27,hW26,q25,al24⟩:=cA w18 (yoL 0 false false (.slice none 0 0) 0) 32;replace hW26:Hid _:=hW26;have hl28:w.heap.size≤w18.heap.size:=b23.size;have hl29:=q21.lt;have q30:=q20.l al24;have q31:=q21.l al24;have r32:=r22.l al24;have b33:=aa b23 al24;clear q20 q21 r22 b23 al24 q25
  go_upto_region 2 with fail
  rw[hW26.out];clear hW26;have c34:=q30.c 0 rfl;have c35:=q30.c 1 rfl;have c36:=q30.c 3 rfl;have c37:=q30.c 4 rfl
  go_wp2_with fail
  refine(HU.out _ b33).mono ?_;rintro zz w38 ⟨v140,rfl,r141,bb39⟩;have q42:=q31.l bb39;have r43:=r32.l bb39;have b44:=aa b33 bb39;obtain⟨mo,mc,hv⟩:=r141.shape;subst hv;clear q30 q31 r32 b33 bb39 HU c34 c35 c36 c37
  go_wp2_with fail
  refine(HR.out _ _ _ b44 r141).mono ?_;rintro zz w45 ⟨v147,rfl,r148,bb46⟩;have q49:=q42.l bb46;have r50:=r43.l bb46;have r51:=r141.l bb46;have b52:=aa b44 bb46;obtain⟨ro,rc,hv⟩:=r148.shape;subst hv;clear q42 r43 r141 b44 bb46 HR;have al53:=af w45 (.cells #[yi 2] 3);have q54:=ah w45 [yi 2] 3;have q55:=q49.l al53;have r56:=r50.l al53;have r57:=r51.l al53;have r58:=r148.l al53;have b59:=aa b52 al53
  go_wp2_with fail
  refine(HT.out _ _ _ _ b59 r58 q54).mono ?_;rintro zz w60 ⟨v162,rfl,r163,bb61⟩;have q64:=q55.l bb61;have r65:=r56.l bb61;have r66:=r57.l bb61;have r67:=r58.l bb61;have b68:=aa b59 bb61;obtain⟨eo,ec,hv⟩:=r163.shape;subst hv;clear q55 q54 r56 r57 r58 b59 bb61 HT q49 r50 r51 r148 b52 al53
  go_wp2_with fail
  refine(HS.out _ _ _ b68 r67).mono ?_;rintro zz w69 ⟨v171,rfl,r172,bb70⟩;have q73:=q64.l bb70;have r74:=r65.l bb70;have r75:=r66.l bb70;have r76:=r67.l bb70;have r77:=r163.l bb70;have b78:=aa b68 bb70;obtain⟨po,pc,hv⟩:=r172.shape;subst hv;clear q64 r65 r66 r67 r163 b68 bb70 HS
  go_wp2_with fail
  refine(HC.out _ _ _ _ _ b78 r172 r75).mono ?_;rintro zz w79 ⟨rfl,bb80⟩;have q81:=q73.l bb80;have r82:=r74.l bb80;have r83:=r75.l bb80;have r84:=r76.l bb80;have r85:=r77.l bb80;have r86:=r172.l bb80;have b87:=aa b78 bb80;clear q73 r74 r75 r76 r77 r172 b78 bb80 HC
  go_wp2_with fail
  refine(HB.out _ _ _ b87 r85).mono ?_;rintro zz w88 ⟨v190,rfl,r191,bb89⟩;have q92:=q81.l bb89;have r93:=r82.l bb89;have r94:=r83.l bb89;have r95:=r84.l bb89;have r96:=r85.l bb89;have r97:=r86.l bb89;have b98:=aa b87 bb89;obtain⟨uo,uc,hv⟩:=r191.shape;subst hv;clear q81 r82 r83 r84 r85 r86 b87 bb89 HB
  go_wp2_with fail
  refine(HD.out _ _ _ b98 r191).mono ?_;rintro zz w99 ⟨v1101,rfl,r1102,bb100⟩;have q103:=q92.l bb100;have r104:=r93.l bb100;have r105:=r94.l bb100;have r106:=r95.l bb100;have r107:=r96.l bb100;have r108:=r97.l bb100;have r109:=r191.l bb100;have b110:=aa b98 bb100;obtain⟨so,sc,hv⟩:=r1102.shape;subst hv;clear q92 r93 r94 r95 r96 r97 r191 b98 bb100 HD;have hf:=dL (P:=Tryz.prog) q103 b110 (by omega) underlying32 rfl (by kernel_rfl) (yi c) (.bool g) (.bool t.s) (.slice so (Dg.dg 65536 t.n).length sc) (yi t.e);have HH:Hid (_∧_∧_):=⟨hf.1,hf.2.2.rd r1102 (mu r1102 q103),hf.2.1⟩;obtain⟨⟨z0,z1,z2,z3,z4⟩,y0,y1,y2,y3,y4⟩:=dN q103;clear hf q103 r104 r105 r106 r107 r108 r109 r1102 b110
  go_wp2
  obtain⟨hl,rRs,bR⟩:=HH.out;exact bodyPost_ret (aj results31 rfl rfl hl) rfl ⟨_,rfl,rRs,bR⟩
theorem om {x L:Nat}(h:(Dg.dg 4294967296 x).length≤L):x<4294967296^L:=by
 have h1:=Dg.vl_lt 4294967296 _ (Dg.small_dg 4294967296 x (by omega));rw[Dg.vl_dg _ _ (by omega)] at h1;exact Nat.lt_of_lt_of_le h1 (Nat.pow_le_pow_right (by omega) h)
theorem abQ (x y L:Nat)(hx:(Dg.dg 4294967296 x).length≤L)(hy:(Dg.dg 4294967296 y).length≤L):(Dg.dg 4294967296 (x+y)).length≤L+1:=by
 have h1:=om hx;have h2:=om hy;refine Dg.dg_len_le 4294967296 _ (L+1) (by omega) ?_;rw[Nat.pow_succ];omega
theorem QP (va vr:Value)(a x m L:Nat)(w:World)(ha:Rd w .u32 va (Dg.dg 4294967296 a))(hr:Rd w .u32 vr (Dg.dg 4294967296 x))(hx:0<x)(hm1:1≤m)(hm2:m≤9)
  (hla:(Dg.dg 4294967296 a).length≤5000) (hL:x<4294967296^L) (hLl:L≤5000):
  yC 222 #[va,vr,yi ((m:Int)+1)] w (Num w (mQ a x m)):=by
 have hxl:(Dg.dg 4294967296 x).length≤L:=Dg.dg_len_le 4294967296 x L (by omega) hL;have hxm:0<x^m:=Nat.pow_pos hx;have HP:Hid (∀wr,yB w wr→yC 215 #[vr,yi m] wr (Num wr (x^m))):=fun wr b=>Iq vr x m L wr (hr.l b) hL (Nat.le_trans (Nat.mul_le_mul hLl hm2) (by omega)) (by omega) (by omega)
 have HO:Hid (∀v wr,yB w wr→Rd wr .u32 v (Dg.dg 4294967296 (x^m))→yC 178 #[va,v] wr (Two wr (a/x^m) (a % x^m))):=fun v wr b r=>by
  have:=A9 va v _ _ wr (ha.l b) r (Dg.small_dg _ _ (by omega)) (Dg.small_dg _ _ (by omega)) (Dg.norm_dg _ _ (by omega)) (Dg.norm_dg _ _ (by omega)) (by rw[Ne,Dg.dg_nil_iff _ _ (by omega)];omega) (by omega);rw[Dg.vl_dg _ _ (by omega),Dg.vl_dg _ _ (by omega)] at this;exact this
 have HT:Hid (∀v wr,yB w wr→Rd wr .u32 v [m]→yC 173 #[vr,v] wr (Num wr (x*m))):=fun v wr b r=>by
  have:=qC vr v _ _ wr (hr.l b) r (Dg.small_dg _ _ (by omega)) (Dg.small_cons.2 ⟨by omega,Dg.small_nil _ (by omega)⟩) (by omega) (by simp);rw[Dg.vl_dg _ _ (by omega),show Dg.vl 4294967296 [m]=m from by simp[Dg.vl]] at this
  exact this
 have l1:(Dg.dg 4294967296 (x*m)).length≤5001:=by
  refine Nat.le_trans (Dg.dg_len_le 4294967296 _ (L+1) (by omega) ?_) (by omega);rw[Nat.pow_succ];exact Nat.mul_lt_mul_of_lt_of_le hL (by omega) (by omega)
 have l2:(Dg.dg 4294967296 (a/x^m)).length≤5000:=by
  refine Nat.le_trans (Dg.dg_len_le 4294967296 _ (Dg.dg 4294967296 a).length (by omega) ?_) hla;refine Nat.lt_of_le_of_lt (Nat.div_le_self _ _) ?_;have:=Dg.vl_lt 4294967296 _ (Dg.small_dg 4294967296 a (by omega))
  rwa [Dg.vl_dg _ _ (by omega)] at this
 have HS:Hid (∀v1 v2 wr,Rd wr .u32 v1 (Dg.dg 4294967296 (x*m))→Rd wr .u32 v2 (Dg.dg 4294967296 (a/x^m))→yC 168 #[v1,v2] wr (Num wr (x*m+a/x^m))):=fun v1 v2 wr r1 r2=>by
  have:=rj v1 v2 _ _ wr r1 r2 (Dg.small_dg _ _ (by omega)) (Dg.small_dg _ _ (by omega)) (by omega) (by omega);rw[Dg.vl_dg _ _ (by omega),Dg.vl_dg _ _ (by omega)] at this;exact this
 have l3:(Dg.dg 4294967296 (x*m+a/x^m)).length≤6000:=by
  exact Nat.le_trans (abQ _ _ 5001 l1 (by omega)) (by omega)
 have hpos:0<x*m+a/x^m:=Nat.add_pos_left (Nat.mul_pos hx (by omega)) _;have l4:0< (Dg.dg 4294967296 (x*m+a/x^m)).length:=List.length_pos_iff.2 (by rw[Ne,Dg.dg_nil_iff _ _ (by omega)];omega);have HE:Hid ((x*m+a/x^m)/(m+1)=mQ a x m):=by unfold mQ;rw[Nat.mul_comm x m];rfl
 have HV:=Dg.vl_dg 4294967296 (x*m+a/x^m) (by omega);have HSM:=Dg.small_dg 4294967296 (x*m+a/x^m) (by omega);obtain⟨ao,ca,rfl⟩:=ha.shape;obtain⟨ro,cr,rfl⟩:=hr.shape;obtain⟨ma,hma⟩: ∃m,(Dg.dg 4294967296 a).length=m:=⟨_,rfl⟩;obtain⟨mr,hmr⟩: ∃m,(Dg.dg 4294967296 x).length=m:=⟨_,rfl⟩;obtain⟨S,hS⟩: ∃S,x*m+a/x^m=S:=⟨_,rfl⟩;obtain⟨ds,hds⟩: ∃ds,Dg.dg 4294967296 S=ds:=⟨_,rfl⟩;rw[hS] at HS l3 l4 HE HV HSM;rw[hds] at l3 l4 HV HSM;rw[hma] at HO⊢;rw[hmr] at HP HT⊢;have HDS:Hid (Dg.dg 4294967296 S=ds):=hds;have HV2:Hid (Dg.vl 4294967296 ds=S):=HV;have HSM2:Hid (Dg.Small 4294967296 ds):=HSM;clear ha hr hma hmr hla hL hLl hxl hxm l1 l2 hpos hS hds HV HSM
 go_enter func222,ntmps222
 go_wp2_with fail
 refine(HP.out w (Below.refl _ _)).mono ?_;rintro e w1 ⟨v1,rfl,o1,b1⟩
 go_wp2_with fail
 refine(HO.out v1 w1 b1 o1.rd).mono ?_;rintro e w2 ⟨v2,v3,rfl,o2,-,b2⟩;have b02:=aa b1 b2;have b3:yB w2 (w2.alloc (.cells #[.int .u32 (m:Int)] 141)):=(Below.refl _ _).alloc (Nat.le_refl _) _;have b03:=aa b02 b3;have o2r:=o2.rd.l b3;have od:=(zf w2 w2.heap.size 141 m (Nat.le_refl _)).rd;clear o1 o2 b1 b2 b3
 go_wp2_with fail
 refine(HT.out _ _ b03 od).mono ?_;rintro e w4 ⟨v4,rfl,o4,b4⟩;have b04:=aa b03 b4;have o2r:=o2r.l b4;clear od b4
 go_wp2_with fail
 refine(HS.out _ _ _ o4.rd o2r).mono ?_;rintro e w5 ⟨v5,rfl,o5,b5⟩;rw[HDS.out] at o5;have b05:=aa b04 b5;obtain⟨g,cap,rfl,hg1,hg2⟩:=World.ownsRow.form o5 l4;have o5:=o5.lower b04.size;clear o4 o2r
 go_wp2_with fail
 refine(uG g ds.length cap w.heap.size ds (m+1) w5 o5 HSM2.out (by omega) (by omega) (by omega)).mono ?_;rintro e w6 ⟨qs,rfl,o6,hql,hqs,hqv,gr⟩;rw[HV2.out,HE.out] at hqv;have b06:=b05.grown gr b05.size (fun k hk=>by cases hk;exact Nat.le_trans b04.size hg1)
 have r6:=o6.rd;clear o5 gr
 go_wp2_with fail
 refine(jD _ _ _ _ _ r6).mono ?_;rintro e w7 ⟨n7,rfl,hm7,rfl⟩;have t7:=jW 4294967296 (by omega) o6 hqs hm7;rw[hqv] at t7;clear r6 o6 hm7 hqs hql
 go_wp2
 go_ret
 exact⟨_,rfl,t7,b06⟩
def acJ (w:World)(a k:Nat)(e:Ending)(w':World):Prop:=
 ∃x v,e= .returned v∧fJ a k x∧Own w' w.heap.size 141 .u32 v (Dg.dg 4294967296 x)∧yB w w'
theorem RD (n:Nat):(2:Nat)^n<4294967296^ (n/32+1):=by
 have e:(4294967296:Nat)=2^32:=by decide
 rw[e,←Nat.pow_mul];exact Nat.pow_lt_pow_right (by omega) (by omega)
theorem adQ (b k:Nat)(hk:0<k):b≤(b+k-1)/k*k:=by
 have h1:=Nat.div_add_mod (b+k-1) k;have h2:=Nat.mod_lt (b+k-1) hk;rw[Nat.mul_comm] at h1;omega
theorem H9 {a L:Nat}(h:(Dg.dg 4294967296 a).length≤L):bitLen a≤32*L:=by
 refine bF a _ ?_;rw[Nat.pow_mul];exact om h
theorem Dm {a b:Int}(h:b≤a):(0:Int)≤dm a b:=by
 unfold dm;rw[if_neg (by omega)]
 split<;>omega
theorem Om (va:Value)(a k:Nat)(w:World)(ha:Rd w .u32 va (Dg.dg 4294967296 a))(hk1:1≤k)(hk2:k≤10)(hla:(Dg.dg 4294967296 a).length≤1300):
  yC 180 #[va,yi k] w (acJ w a k):=by
 have hcp:=Bz va _ w ha (by omega);have hnl:=Dg.dg_nil_iff 4294967296 a (by omega)
 by_cases hk:k=1
 ·subst hk
  obtain⟨ao,ca,rfl⟩:=ha.shape;obtain⟨ds,hds⟩: ∃ds,Dg.dg 4294967296 a=ds:=⟨_,rfl⟩;rw[hds] at hcp⊢;have HD:Hid (Dg.dg 4294967296 a=ds):=hds;clear ha hla hds hnl
  go_enter func180,ntmps180
  go_wp2_with fail
  refine hcp.mono ?_;rintro e w1 ⟨rfl,o1,b1⟩;clear hcp
  go_wp2
  go_ret
  exact⟨a,_,rfl,XE a,HD.out▸o1,b1⟩
 ·have hk3:((k:Int)==1)=false:=by simp;omega
  by_cases ha0:a=0
  ·subst ha0
   obtain⟨ao,ca,rfl⟩:=ha.shape;have hl0:(Dg.dg 4294967296 0).length=0:=rfl;rw[hl0] at hcp⊢;clear ha hla hnl hl0
   go_enter func180,ntmps180
   go_wp2_with fail
   refine hcp.mono ?_;rintro e w1 ⟨rfl,o1,b1⟩;clear hcp
   go_wp2
   go_ret
   exact⟨0,_,rfl,IE (by omega),o1,b1⟩
  ·obtain⟨m,rfl⟩: ∃m,k=m+1:=⟨k-1,by omega⟩
   have hbt:=fun wr (b:yB w wr)=>kE va _ wr (ha.l b) (Dg.small_dg _ _ (by omega)) (Dg.norm_dg _ _ (by omega)) (by omega)
   rw[Dg.vl_dg _ _ (by omega)] at hbt;have hb1:=(bitLen_spec a).1;have hb2:bitLen a≤32*1300:=H9 hla;obtain⟨bt,hbte⟩: ∃bt,bitLen a=bt:=⟨_,rfl⟩;rw[hbte] at hbt hb1 hb2;have hup:=adQ bt (m+1) (by omega);have hnle:(bt+(m+1)-1)/(m+1)≤50000:=Nat.le_trans (Nat.div_le_self _ _) (by omega);have hni:(((bt:Int)+((m:Int)+1)-1).tdiv ((m:Int)+1))=(((bt+(m+1)-1)/(m+1):Nat):Int):=by
    rw[Int.tdiv_eq_ediv_of_nonneg (by omega)];have:((bt:Int)+((m:Int)+1)-1)=((bt+(m+1)-1:Nat):Int):=by omega
    rw[this];exact(Int.natCast_ediv _ (m+1)).symm
   have hni2:(((bt:Int)+((m:Int)+1)-1)/((m:Int)+1))=(((bt+(m+1)-1)/(m+1):Nat):Int):=by
    have:((bt:Int)+((m:Int)+1)-1)=((bt+(m+1)-1:Nat):Int):=by omega
    rw[this];exact(Int.natCast_ediv _ (m+1)).symm
   obtain⟨n,hn⟩: ∃n,(bt+(m+1)-1)/(m+1)=n:=⟨_,rfl⟩;rw[hn] at hup hnle hni hni2;have HAB:Hid (C0 a (m+1) (2^n)):=C3 hb1 hup;have HX0:Hid ((2:Nat)^n<4294967296^ (n/32+1)):=RD n;have hL:n/32+1≤5000:=by omega
   obtain⟨L,hLe⟩: ∃L,n/32+1=L:=⟨_,rfl⟩;rw[hLe] at HX0 hL;have HR:Hid (∀v wr,Rd wr .u32 v [1]→yC 218 #[v,yi n] wr (Num wr (2^n))):=fun v wr r=>by
    have:=vO v [1] n (n/32) (n % 32) (2^ (n % 32)) wr r (Dg.small_cons.2 ⟨by omega,Dg.small_nil _ (by omega)⟩) (by simp) (by omega) (by omega) rfl (by omega) (by simp);rw[show Dg.vl 4294967296 [1]=1 from rfl,Nat.one_mul] at this
    exact this
   have HN:Hid (∀v x wr,yB w wr→Rd wr .u32 v (Dg.dg 4294967296 x)→0<x→x<4294967296^L→yC 222 #[va,v,yi ((m:Int)+1)] wr (Num wr (mQ a x m))):=fun v x wr b r hx hxl=>
    QP va v a x m L wr (ha.l b) r hx (by omega) (by omega) (by omega) hxl hL
   have HBT:Hid _:=hbt;obtain⟨ao,ca,rfl⟩:=ha.shape;have hm0: ¬(Dg.dg 4294967296 a).length=0:=by rw[List.length_eq_zero_iff,hnl];exact ha0
   obtain⟨ma,hma⟩: ∃m,(Dg.dg 4294967296 a).length=m:=⟨_,rfl⟩;rw[hma] at hm0 HN HBT⊢;have hml:((ma:Int)==0)=false:=by simp;exact hm0
   have HA0:Hid (0<a):=Nat.pos_of_ne_zero ha0;have b1:yB w (w.alloc (.cells #[.int .u32 ((1:Nat):Int)] 141)):=(Below.refl _ _).alloc (Nat.le_refl _) _;have od:=(zf w w.heap.size 141 1 (Nat.le_refl _)).rd;clear ha hcp hnl hla hma hbt hbte hn hLe hup hb1 ha0
   go_enter func180,ntmps180
   go_wp2_with fail
   refine(HBT.out _ b1).mono ?_;rintro e w1 ⟨rfl,rfl⟩;clear HBT
   go_wp2_with fail
   refine(HR.out _ _ od).mono ?_;rintro e w2 ⟨v2,rfl,o2,b2⟩;have b02:=aa b1 b2;have o2:=o2.lower b1.size;clear od b1 b2 HR
   go_wp2
   go_loopw [5] (fun rv wr=> ∃x,Own wr w.heap.size 141 .u32 rv (Dg.dg 4294967296 x)∧C0 a (m+1) x∧x<4294967296^L∧yB w wr) (fun rv wr=>Classical.epsilon fun n=>Rd wr .u32 rv (Dg.dg 4294967296 n))
   case atStart=>exact⟨2^n,o2,HAB.out,HX0.out,b02⟩
   case round=>
    clear o2 b02 HAB HX0;obtain⟨x,own,hab,hxl,bel⟩:=hrel;have hx:=ID hab HA0.out;have hst:=Ff (a:=a) (m:=m) hx;have hcm:=fun v wr (r:Rd wr .u32 v (Dg.dg 4294967296 (mQ a x m))) v' (r':Rd wr .u32 v' (Dg.dg 4294967296 x))=>jF v v' _ _ wr r r' (Dg.small_dg _ _ (by omega)) (Dg.small_dg _ _ (by omega)) (Dg.norm_dg _ _ (by omega)) (Dg.norm_dg _ _ (by omega))
    simp only[Dg.vl_dg _ _ (show 2≤4294967296 by omega)] at hcm
    have hnr:=HN.out _ x _ bel own.rd hx hxl;have HEN:Hid (x≤mQ a x m→fJ a (m+1) x):=fun h=>Ml hab hx h
    obtain⟨y,hy⟩: ∃y,mQ a x m=y:=⟨_,rfl⟩;rw[hy] at hnr hcm HEN hst;have HCM:Hid _:=hcm;clear hcm hy
    by_cases hlt:y<x
    ·go_wp2_with fail
     refine hnr.mono ?_;rintro e w3 ⟨v3,rfl,o3,b3⟩;have b03:=aa bel b3
     go_wp2_with fail
     refine(HCM.out _ _ o3.rd _ (own.l b3).rd).mono ?_;rintro e w4 ⟨rfl,b4⟩;rw[gX (by omega)];have b04:=aa b03 b4;have o4:=(o3.lower bel.size).l b4;have e1:=LY own.rd;have e2:=LY o4.rd
     go_wp2
     go_roundw
     case rel=>exact⟨y,o4,hst,Nat.lt_trans hlt hxl,b04⟩
     case measure=>rw[e1,e2];exact hlt
    ·go_wp2_with fail
     refine hnr.mono ?_;rintro e w3 ⟨v3,rfl,o3,b3⟩;have b03:=aa bel b3
     go_wp2_with fail
     refine(HCM.out _ _ o3.rd _ (own.l b3).rd).mono ?_;rintro e w4 ⟨rfl,b4⟩;have hge:=Dm (a:=(y:Int)) (b:=(x:Int)) (by omega);obtain⟨r,hr⟩: ∃r,dm (y:Int) (x:Int)=r:=⟨_,rfl⟩;rw[hr] at hge⊢;have b04:=aa b03 b4;have o4:=(own.l b3).l b4
     go_wp2
     go_ret
     exact⟨x,_,rfl,HEN.out (by omega),o4,b04⟩
def Fo (a k:Nat):Nat→Nat
 |0=>0
 |n+1=>if(n+1)^k≤a then n+1 else Fo a k n
def gG (a k:Nat):Nat:=Fo a k a
theorem MC {a k x:Nat}(h:fJ a k x): ∀m,x≤m→Fo a k m=x
 |0,hm=>by rw[Nat.le_zero.1 hm,Fo]
 |m+1,hm=>by
  rw[Fo]
  by_cases c:(m+1)^k≤a
  ·rw[if_pos c]
   rcases Nat.lt_or_ge x (m+1) with g|g
   ·have h1:(x+1)^k≤(m+1)^k:=Nat.pow_le_pow_left g k
    have h2:=h.2;omega
   ·omega
  ·rw[if_neg c]
   refine MC h m (Nat.le_of_not_lt fun g=>c ?_)
   obtain rfl:x=m+1:=by omega
   exact h.1
theorem tT {a k x:Nat}(h:fJ a k x):gG a k=x:=by
 refine MC h a (zh (Nat.pos_of_ne_zero fun c=> ?_) h)
 subst c;have h1:=h.1;have h2:=h.2;rw[Nat.pow_zero] at h1 h2;omega
def fu (t:ak)(B:Nat):Nat:=if(t.e-((2*B-bitLen t.n:Nat):Int)) % 2=0 then 2*B-bitLen t.n else 2*B-bitLen t.n+1
def bK (t:ak)(B:Nat):ak:=
 d8 false (gG (t.n*2^fu t B) 2) ((t.e-(fu t B:Int))/2) (decide (gG (t.n*2^fu t B) 2*gG (t.n*2^fu t B) 2<t.n*2^fu t B))
theorem Au (t:ak)(B:Nat):(t.e-(fu t B:Int)) % 2=0:=by
 unfold fu
 split
 ·assumption
 ·rename_i h
  omega
theorem IH (v:Value)(t:ak)(B:Nat)(w:World)(hv:Dv w v t)(hL:(Dg.dg 4294967296 t.n).length≤1299)(he1: -100000≤t.e)(he2:t.e≤100000)(hB:B≤10000)(hw:(Dg.dg 4294967296 (t.n*2^fu t B)).length≤1300):
  yC 131 #[v,yi B] w (jN w (bK t B)):=by
 obtain⟨v0,rfl,hr⟩:=hv;obtain⟨ts,n,e⟩:=t;have hev:=Au ⟨ts,n,e⟩ B;unfold bK;have hbl:=gf hL;have hsd:fu ⟨ts,n,e⟩ B=if(e-((2*B-bitLen n:Nat):Int)) % 2=0 then 2*B-bitLen n else 2*B-bitLen n+1:=rfl
 simp only at hr hL he1 he2 hw hev hbl⊢;have HBT:Hid (∀w1,yB w w1→yC 176 #[v0] w1 fun z w'=>z= .returned (yi (bitLen n:Nat))∧w'=w1):=fun w1 b1=>by
  have:=kE v0 _ w1 (hr.l b1) (Dg.small_dg _ _ (by omega)) (Dg.norm_dg _ _ (by omega)) (by omega)
  rwa [Dg.vl_dg _ _ (by omega)] at this
 obtain⟨L,hLe⟩: ∃L,bitLen n=L:=⟨_,rfl⟩;rw[hLe] at HBT hbl hsd;obtain⟨s0,hs0⟩: ∃s0,2*B-L=s0:=⟨_,rfl⟩;rw[hs0] at hsd;obtain⟨sh,hsh⟩: ∃sh,fu ⟨ts,n,e⟩ B=sh:=⟨_,rfl⟩;rw[hsh] at hsd hw hev⊢;have hshl:sh≤20001:=by rw[hsd];split<;>omega
 have HSF:Hid (∀w1,yB w w1→yC 177 #[v0,yi sh] w1 (Num w1 (n*2^sh))):=fun w1 b1=>by
  have:=eO v0 _ (sh:Int) w1 (hr.l b1) (Dg.small_dg _ _ (by omega)) (by omega) (by omega) (by omega);rw[Dg.vl_dg _ _ (by omega),CE _ _ (by omega),Int.toNat_natCast] at this;exact this
 obtain⟨N,hN⟩: ∃N,n*2^sh=N:=⟨_,rfl⟩;rw[hN] at HSF hw⊢;have HRO:Hid (∀v1 w1,Rd w1 .u32 v1 (Dg.dg 4294967296 N)→yC 180 #[v1,yi 2] w1 (acJ w1 N 2)):=fun v1 w1 r=>Om v1 N 2 w1 r (by omega) (by omega) hw
 have HXE:Hid (∀x,fJ N 2 x→gG N 2=x):=fun x h=>tT h
 have HLE:Hid (∀x,fJ N 2 x→x*x≤N∧(Dg.dg 4294967296 x).length≤1300):=fun x h=>⟨by have:=h.1;rwa [Nat.pow_two] at this,Nat.le_trans (aH 4294967296 _ N (by omega) (zh (by omega) h)) hw⟩
 obtain⟨R,hR⟩: ∃R,gG N 2=R:=⟨_,rfl⟩;rw[hR] at HXE⊢;obtain⟨ao,ca,rfl⟩:=hr.shape;obtain⟨m,hm⟩: ∃m,(Dg.dg 4294967296 n).length=m:=⟨_,rfl⟩;rw[hm] at HBT HSF⊢;have hmax:max (0:Int) (2*(B:Int)-(L:Int))=(s0:Int):=by omega
 have hq1:(e-(sh:Int)).tdiv 2=(e-(sh:Int))/2:=by
  obtain⟨k,hk⟩: ∃k:Int,e-(sh:Int)=2*k:=⟨(e-(sh:Int))/2,by omega⟩;rw[hk,Int.mul_tdiv_cancel_left k (by omega),Int.mul_ediv_cancel_left k (by omega)]
 have HTM:Hid (∀v1 w1,Rd w1 .u32 v1 (Dg.dg 4294967296 R)→(Dg.dg 4294967296 R).length≤1300→yC 173 #[v1,v1] w1 (Num w1 (R*R))):=fun v1 w1 r hl=>by
  have:=qC v1 v1 _ _ w1 r r (Dg.small_dg _ _ (by omega)) (Dg.small_dg _ _ (by omega)) (by omega) (by omega);rw[Dg.vl_dg _ _ (by omega)] at this;exact this
 have HCM:Hid (∀v1 v2 w1,Rd w1 .u32 v1 (Dg.dg 4294967296 (R*R))→Rd w1 .u32 v2 (Dg.dg 4294967296 N)→yC 169 #[v1,v2] w1 (yR w1 (yi (dm ((R*R:Nat):Int) N)))):=fun v1 v2 w1 h1 h2=>by
  have:=jF v1 v2 _ _ w1 h1 h2 (Dg.small_dg _ _ (by omega)) (Dg.small_dg _ _ (by omega)) (Dg.norm_dg _ _ (by omega)) (Dg.norm_dg _ _ (by omega))
  rwa [Dg.vl_dg _ _ (by omega),Dg.vl_dg _ _ (by omega)] at this
 obtain⟨g,hg⟩: ∃g,dm ((R*R:Nat):Int) (N:Int)=g:=⟨_,rfl⟩;have HG:Hid (R*R≤N→decide (R*R<N)=decide (g<0)):=fun hle=>by
  rw[←hg]
  rcases Nat.lt_or_ge (R*R) N with h|h
  ·rw[gX (Int.ofNat_lt.2 h)]
   simp[h]
  ·have he:R*R=N:=by omega
   rw[he,Bh];simp
 rw[hg] at HCM;have HEN:Hid (∀v1 lf w1,decide (R*R<N)=lf→(Dg.dg 4294967296 R).length≤1300→Rd w1 .u32 v1 (Dg.dg 4294967296 R)→yC 179 #[.bool false,v1,yi ((e-(sh:Int))/2),.bool lf] w1 (jN w1 (d8 false R ((e-(sh:Int))/2) (decide (R*R<N))))):=fun v1 lf w1 h hl r=>by
  rw[h];exact xG _ v1 R _ lf w1 r (by omega) (by omega) (by omega)
 obtain⟨⟨zs,zn,ze⟩,hz⟩: ∃r,d8 false R ((e-(sh:Int))/2) (decide (R*R<N))=r:=⟨_,rfl⟩;rw[hz] at HEN⊢;obtain⟨q,hq⟩: ∃q,(e-(sh:Int))/2=q:=⟨_,rfl⟩;rw[hq] at HEN hq1;have hw1:IntKind.i64.wrap (e-(sh:Int))=e-(sh:Int):=IntWalk.i64_in _ ⟨by omega,by omega⟩;have hw2:IntKind.i64.wrap q=q:=IntWalk.i64_in _ ⟨by omega,by omega⟩;have bA:=aa (af w (.cells (ydA ts (.slice ao m ca) e) 96)) (af _ (.cells (ydA false (.slice none 0 0) 0) 96));have l1:=(aA w (.bool ts) (.slice ao m ca) (yi e) 96).l (af _ (.cells (ydA false (.slice none 0 0) 0) 96));have l2:=aA (w.alloc (.cells (ydA ts (.slice ao m ca) e) 96)) (.bool false) (.slice none 0 0) (yi 0) 96;rw[World.size_alloc] at l2;have hs0l:s0≤20000:=by omega
 clear hr hN hR hm hz hg hw hL hLe hs0 hsh
 by_cases hpar:(e-(s0:Int)) % 2=0
 ·rw[if_pos hpar] at hsd
  subst hsd;have ht:(e-(sh:Int)).tmod 2=0:=by
   obtain⟨k,hk⟩: ∃k:Int,e-(sh:Int)=2*k:=⟨(e-(sh:Int))/2,by omega⟩;rw[hk];exact Int.mul_tmod_right 2 k
  clear hpar hev
  go_enter func131,ntmps131
  go_wp2_with fail
  refine(cN ts ao m ca e _).mono ?_;rintro z w1 ⟨rfl,b1⟩;replace l1:=l1.l b1;replace l2:=l2.l b1;replace bA:=aa bA b1;clear b1
  go_wp2_with fail
  refine(HBT.out _ bA).mono ?_;rintro z w2 ⟨rfl,rfl⟩;obtain⟨-,⟨c0,c1,c2⟩,-⟩:=id l1
  go_wp2_with fail
  refine(cN ts ao m ca e _).mono ?_;rintro z w3 ⟨rfl,b3⟩;replace l1:=l1.l b3;replace l2:=l2.l b3;replace bA:=aa bA b3;clear b3 c0 c1 c2
  go_wp2_with fail
  refine(HSF.out _ bA).mono ?_;rintro z w4 ⟨v4,rfl,o4,b4⟩;replace l1:=l1.l b4;replace l2:=l2.l b4;replace bA:=aa bA b4;have r4:=o4.rd;clear b4 o4
  go_wp2_with fail
  refine(HRO.out _ _ r4).mono ?_;rintro z w5 ⟨x,v5,rfl,hx,o5,b5⟩;have hxe:=HXE.out x hx;subst hxe;obtain⟨hle,hxl⟩:=HLE.out _ hx;have HLF:Hid _:=HG.out hle;replace l1:=l1.l b5;replace l2:=l2.l b5;replace bA:=aa bA b5;replace r4:=r4.l b5;have r5:=o5.rd;have bd:yB w5 w5.drew:=(Below.refl _ _).drew;replace l1:=l1.l bd;replace l2:=l2.l bd;replace bA:=aa bA bd;replace r4:=r4.l bd;replace r5:=r5.l bd;obtain⟨-,⟨c0,c1,c2⟩,-⟩:=id l1;clear b5 o5 hx bd HBT HSF HRO
  go_wp2_with fail
  go_region_held3 (fun wq=>wq.cell? ⟨w.heap.size,0,none⟩=some (.bool ts)∧wq.cell? ⟨w.heap.size,1,none⟩=some (.slice ao m ca)∧wq.cell? ⟨w.heap.size,2,none⟩=some (yi e)) (go_keep) (first
   | (go_at_call 173;refine(HTM.out _ _ r5 hxl).mono ?_;rintro z w6 ⟨v6,rfl,o6,b6⟩;have l16:=l1.l b6;have l26:=l2.l b6;have b06:=aa bA b6;have r46:=r4.l b6;have r56:=r5.l b6;have r6:=o6.rd;obtain⟨-,⟨p0,p1,p2⟩,-⟩:=id l16)
   | (go_at_call 169;refine(HCM.out _ _ w6 r6 r46).mono ?_;rintro z w7 ⟨rfl,b7⟩;have l17:=l16.l b7;have l27:=l26.l b7;have b07:=aa b06 b7;have r57:=r56.l b7;obtain⟨-,⟨q0,q1,q2⟩,-⟩:=id l17)
   | (go_at_call 179;refine(HEN.out _ _ w7 HLF.out hxl r57).mono ?_;rintro z w8 ⟨v8,rfl,o8,b8⟩;have l28:=l27.l b8;have b08:=aa b07 b8;have l18:=l17.l b8;obtain⟨so,sc,hvs⟩:=o8.rd.shape;subst hvs;obtain⟨-,⟨t0,t1,t2⟩,-⟩:=id l18;obtain⟨hl8,⟨d0,d1,d2⟩,f0,f1,f2⟩:=id l28))
  all_goals go_wp2
  obtain⟨-,⟨g0,g1,g2⟩,-⟩:=aD l28 (.bool zs) (.slice so (Dg.dg 4294967296 zn).length sc) (yi ze);have o9:=o8.apart3 (b:=w.heap.size+1) l27.1 (.bool zs) (.slice so (Dg.dg 4294967296 zn).length sc) (yi ze);have b9:=am b08 (show w.heap.size≤w.heap.size+1 by omega) (.bool zs) (.slice so (Dg.dg 4294967296 zn).length sc) (yi ze)
  refine bodyPost_ret (v:=(ydV zs (.slice so (Dg.dg 4294967296 zn).length sc) ze)) (by simp[results,results131,go_sem,g0,g1,g2]) rfl ?_;exact⟨_,rfl,o9.lower b07.size,b9⟩
 ·rw[if_neg hpar] at hsd
  subst hsd;have ht:((e-(s0:Int)).tmod 2==0)=false:=by
   simp;intro h;have:=Int.dvd_of_tmod_eq_zero h;omega
  clear hpar hev;have hw3:IntKind.i64.wrap (e-(s0:Int))=e-(s0:Int):=IntWalk.i64_in _ ⟨by omega,by omega⟩;have hcast:((s0+1:Nat):Int)=(s0:Int)+1:=by omega
  rw[hcast] at HSF hq1 hw1;clear hcast hq
  go_enter func131,ntmps131
  go_wp2_with fail
  refine(cN ts ao m ca e _).mono ?_;rintro z w1 ⟨rfl,b1⟩;replace l1:=l1.l b1;replace l2:=l2.l b1;replace bA:=aa bA b1;clear b1
  go_wp2_with fail
  refine(HBT.out _ bA).mono ?_;rintro z w2 ⟨rfl,rfl⟩;obtain⟨-,⟨c0,c1,c2⟩,-⟩:=id l1
  go_wp2_with fail
  refine(cN ts ao m ca e _).mono ?_;rintro z w3 ⟨rfl,b3⟩;replace l1:=l1.l b3;replace l2:=l2.l b3;replace bA:=aa bA b3;clear b3 c0 c1 c2
  go_wp2_with fail
  refine(HSF.out _ bA).mono ?_;rintro z w4 ⟨v4,rfl,o4,b4⟩;replace l1:=l1.l b4;replace l2:=l2.l b4;replace bA:=aa bA b4;have r4:=o4.rd;clear b4 o4
  go_wp2_with fail
  refine(HRO.out _ _ r4).mono ?_;rintro z w5 ⟨x,v5,rfl,hx,o5,b5⟩;have hxe:=HXE.out x hx;subst hxe;obtain⟨hle,hxl⟩:=HLE.out _ hx;have HLF:Hid _:=HG.out hle;replace l1:=l1.l b5;replace l2:=l2.l b5;replace bA:=aa bA b5;replace r4:=r4.l b5;have r5:=o5.rd;have bd:yB w5 w5.drew:=(Below.refl _ _).drew;replace l1:=l1.l bd;replace l2:=l2.l bd;replace bA:=aa bA bd;replace r4:=r4.l bd;replace r5:=r5.l bd;obtain⟨-,⟨c0,c1,c2⟩,-⟩:=id l1;clear b5 o5 hx bd HBT HSF HRO
  go_wp2_with fail
  go_region_held3 (fun wq=>wq.cell? ⟨w.heap.size,0,none⟩=some (.bool ts)∧wq.cell? ⟨w.heap.size,1,none⟩=some (.slice ao m ca)∧wq.cell? ⟨w.heap.size,2,none⟩=some (yi e)) (go_keep) (first
   | (go_at_call 173;refine(HTM.out _ _ r5 hxl).mono ?_;rintro z w6 ⟨v6,rfl,o6,b6⟩;have l16:=l1.l b6;have l26:=l2.l b6;have b06:=aa bA b6;have r46:=r4.l b6;have r56:=r5.l b6;have r6:=o6.rd;obtain⟨-,⟨p0,p1,p2⟩,-⟩:=id l16)
   | (go_at_call 169;refine(HCM.out _ _ w6 r6 r46).mono ?_;rintro z w7 ⟨rfl,b7⟩;have l17:=l16.l b7;have l27:=l26.l b7;have b07:=aa b06 b7;have r57:=r56.l b7;obtain⟨-,⟨q0,q1,q2⟩,-⟩:=id l17)
   | (go_at_call 179;refine(HEN.out _ _ w7 HLF.out hxl r57).mono ?_;rintro z w8 ⟨v8,rfl,o8,b8⟩;have l28:=l27.l b8;have b08:=aa b07 b8;have l18:=l17.l b8;obtain⟨so,sc,hvs⟩:=o8.rd.shape;subst hvs;obtain⟨-,⟨t0,t1,t2⟩,-⟩:=id l18;obtain⟨hl8,⟨d0,d1,d2⟩,f0,f1,f2⟩:=id l28))
  all_goals go_wp2
  obtain⟨-,⟨g0,g1,g2⟩,-⟩:=aD l28 (.bool zs) (.slice so (Dg.dg 4294967296 zn).length sc) (yi ze);have o9:=o8.apart3 (b:=w.heap.size+1) l27.1 (.bool zs) (.slice so (Dg.dg 4294967296 zn).length sc) (yi ze);have b9:=am b08 (show w.heap.size≤w.heap.size+1 by omega) (.bool zs) (.slice so (Dg.dg 4294967296 zn).length sc) (yi ze)
  refine bodyPost_ret (v:=(ydV zs (.slice so (Dg.dg 4294967296 zn).length sc) ze)) (by simp[results,results131,go_sem,g0,g1,g2]) rfl ?_;exact⟨_,rfl,o9.lower b07.size,b9⟩
def Dp (k:Nat)(cx:Int)(gx:Bool)(x:ak):Int×Bool×ak×Int:=
 if cx=1 then(1,gx,x,0) else if gx=true then noV k 16 else if cx=3 then(3,false,x,0) else nu (bK x 128) false
def Z6 (n:Int)(a:ByteArray):Int×Bool×ak×Int:=Dp n.toNat ((bM n a:Nat):Int) (dz n a) (opT n a)
theorem BV (x:ak):fu x 128≤257:=by unfold fu;split<;>omega
theorem Jp {x:ak}(hx:iZ x): ∃A,x.n*2^fu x 128<2^A∧A≤321:=by
 refine⟨64+fu x 128, ?_,by have:=BV x;omega⟩;rw[Nat.pow_add];exact Nat.mul_lt_mul_of_pos_right hx.1 (bG _)
theorem Lf {a x:Nat}(h:x*x≤a):x≤a:=by
 rcases Nat.eq_zero_or_pos x with h0|h0
 ·omega
 ·exact Nat.le_trans (Nat.le_mul_of_pos_left x h0) h
theorem OE (a:Nat): ∀m,Fo a 2 m≤a
 |0=>Nat.zero_le _
 |m+1=>by
  unfold Fo
  by_cases c:(m+1)^2≤a
  ·rw[if_pos c]
   rw[Nat.pow_two] at c;exact Lf c
  ·rw[if_neg c]
   exact OE a m
theorem Wc {x:ak}(hx:iZ x):sH (bK x 128):=by
 obtain⟨A,hA,hl⟩:=Jp hx;obtain⟨x1,x2,x3⟩:=hx;have hS:=BV x;have hr:gG (x.n*2^fu x 128) 2<2^A:=Nat.lt_of_le_of_lt (OE (x.n*2^fu x 128) (x.n*2^fu x 128)) hA;have h2:(bK x 128).n<2^ (A+1):=by
  show gG (x.n*2^fu x 128) 2*2+(if _ then 1 else 0)<2^ (A+1)
  rw[Nat.pow_succ]
  split<;>omega
 have h3:=bF _ _ h2;have he:(bK x 128).e=(x.e-(fu x 128:Int))/2-1:=rfl;exact⟨by omega,by omega⟩
theorem RL (k:Nat)(hk:1≤k∧k≤8)(wy cx:Int)(gx:Bool)(x:ak)(xo:Option Addr)(xc:Nat)(w:World)(rx:rdT w x xo xc)(sx:iZ x):
  yC 73 #[dsk k wy,opV cx gx x xo xc] w (RE w (Dp k cx gx x)):=by
 unfold Dp
 by_cases h1:cx=1
 ·subst h1
  rw[if_pos rfl];exact abo _ _ _ _ _ _ _ _ _ _ _ _ w rx
 rw[if_neg h1]
 cases gx
 ·rw[if_neg (by decide)]
  by_cases h3:cx=3
  ·subst h3
   rw[if_pos rfl];exact abp _ _ _ _ _ _ _ _ _ _ _ w rx
  ·rw[if_neg h3]
   have hL:=jq sx.1 (L:=1200) (by omega);exact UV _ _ _ _ _ _ _ _ _ _ _ _ _ _ _ _ w (ne1 h1) (ne3 h3) (fun w1 b=>IH _ x 128 w1 ⟨_,rfl,rx.l b⟩ (by omega) (by have:=sx.2;omega) (by have:=sx.2;omega) (by omega) (by obtain⟨A,hA,hl⟩:=Jp sx;exact jq hA (by omega))) (fun uo uc w1 h=>mT (bK x 128) false uo uc w1 h)
 ·rw[if_pos rfl]
  exact UT _ _ _ _ _ _ _ _ _ _ _ _ _ w (ne1 h1) (fun w1=>lV k hk wy 16 w1)
theorem RM {k:Nat}{cx:Int}{gx:Bool}{x:ak}(hn:sH (bK x 128))(h:(Dp k cx gx x).1=2):(Dp k cx gx x).2.2.1.n≠0∧sH (Dp k cx gx x).2.2.1:=by
 unfold Dp at h⊢
 by_cases h1:cx=1
 ·rw[if_pos h1] at h
  exact absurd h (show¬(1:Int)=2 by decide)
 rw[if_neg h1] at h⊢
 cases gx
 ·rw[if_neg (by decide)] at h⊢
  by_cases h3:cx=3
  ·rw[if_pos h3] at h
   exact absurd h (show¬(3:Int)=2 by decide)
  ·rw[if_neg h3] at h⊢
   exact xt hn h
 ·rw[if_pos rfl] at h
  exact(vN h).elim
theorem OG (n way:Int)(a:ByteArray)(w:World)(hT:Tab w):yC 30 #[yi n,.string a,yi way] w (mM (jV n way [a] (Z6 n a)) w):=by
 refine adf n way _ _ a _ w (fun pb w1 b1 hl=> ?_)
 refine nQ n way [a] _ _ pb w1 (by simp) (by simp) hl (enter_of func72 (by kernel_rfl) rfl) (hT.l b1) (fun k hk hn he hN=> ?_)
 subst hn;unfold Z6;rw[Int.toNat_natCast];obtain⟨sa,-,-⟩:=ir hk (eU he a (by simp));refine⟨fun h=>RM (Wc sa) h,fun g cap w2 b2 h=> ?_⟩
 obtain⟨xo,xc,r0,k0⟩:=h.each 0 a rfl;exact abq _ _ _ _ _ _ _ _ _ _ _ _ _ _ _ _ _ _ _ w2 r0 (fun w3 b3=>RL k hk way _ _ _ _ _ w3 (k0.l b3) sa)
theorem l8 {a L:Nat}(h:(Dg.dg 65536 a).length≤L):bitLen a≤16*L:=by
 refine bF a _ ?_;rw[Nat.pow_mul];have h1:=Dg.vl_lt 65536 _ (Dg.small_dg 65536 a (by omega));rw[Dg.vl_dg _ _ (by omega)] at h1;exact Nat.lt_of_lt_of_le h1 (Nat.pow_le_pow_right (by omega) h)
def mL (w:World)(b:Nat)(v0 v1 v2 v3 v4 v5:Value):Prop:=
 b<w.heap.size∧(w.cell? ⟨b,0,none⟩=some v0∧w.cell? ⟨b,1,none⟩=some v1∧w.cell? ⟨b,2,none⟩=some v2∧w.cell? ⟨b,3,none⟩=some v3∧w.cell? ⟨b,4,none⟩=some v4∧w.cell? ⟨b,5,none⟩=some v5)∧
  (w.frozen? ⟨b,0,none⟩=false∧w.frozen? ⟨b,1,none⟩=false∧w.frozen? ⟨b,2,none⟩=false∧w.frozen? ⟨b,3,none⟩=false∧w.frozen? ⟨b,4,none⟩=false∧w.frozen? ⟨b,5,none⟩=false)
theorem mL.l {w w':World}{b:Nat}{v0 v1 v2 v3 v4 v5:Value}(h:mL w b v0 v1 v2 v3 v4 v5)(hb:yB w w'):mL w' b v0 v1 v2 v3 v4 v5:=by
 obtain⟨hl,⟨c0,c1,c2,c3,c4,c5⟩,f0,f1,f2,f3,f4,f5⟩:=h;refine⟨Nat.lt_of_lt_of_le hl hb.size,⟨cell_later hb c0,cell_later hb c1,cell_later hb c2,cell_later hb c3,cell_later hb c4,cell_later hb c5⟩, ?_, ?_, ?_, ?_, ?_, ?_⟩
 all_goals rw[hb.frozen (by exact hl)];assumption
def ZB6 (w:World)(b:Nat):Prop:=b<w.heap.size∧ ∃ty,w.heap[b]? =some (.cells #[.bool false,.slice none 0 0,yi 0,.bool false,.slice none 0 0,yi 0] ty (0,0))
theorem ZB6.l {w w':World}{b:Nat}(h:ZB6 w b)(hb:yB w w'):ZB6 w' b:=by
 obtain⟨hl,ty,hh⟩:=h;exact⟨Nat.lt_of_lt_of_le hl hb.size,ty,(hb.block b hl).trans hh⟩
theorem ZB6.rd {w:World}{b:Nat}{v:Value}{zs:List Nat}(h:ZB6 w b)(hr:Rd w .i64 v zs)(hn:Dg.Norm zs)(x0 x1 x2 x3 x4 x5:Value):
  Rd ((((((w.setCell ⟨b,0,none⟩ x0).setCell ⟨b,1,none⟩ x1).setCell ⟨b,2,none⟩ x2).setCell ⟨b,3,none⟩ x3).setCell ⟨b,4,none⟩ x4).setCell ⟨b,5,none⟩ x5) .i64 v zs:=by
 obtain⟨hl,ty,hh⟩:=h;obtain⟨ao,cap,rfl,h1,h2,h3⟩:=hr;refine⟨ao,cap,rfl,h1,h2,fun hp=> ?_⟩
 obtain⟨c,off,rfl,hc⟩:=h3 hp;refine⟨c,off,rfl,fun i hi=> ?_⟩
 have hne:c≠b:=by
  intro e;subst e;have k1:=hc (zs.length-1) (by omega);have hz:=hn (List.length_pos_iff.1 hp);unfold World.cell? at k1;simp only[hh] at k1;obtain⟨o,ho⟩: ∃o,off+(zs.length-1)=o:=⟨_,rfl⟩;rw[ho] at k1;generalize zs.getD (zs.length-1) 0=d at*
  match o,k1 with
  |0,k1=>simp at k1
  |1,k1=>simp at k1
  |2,k1=>simp at k1;omega
  |3,k1=>simp at k1
  |4,k1=>simp at k1
  |5,k1=>simp at k1;omega
  |o+6,k1=>simp at k1
 rw[World.cell?_setCell_other (h:=by simp),World.cell?_setCell_other (h:=by simp),World.cell?_setCell_other (h:=by simp),World.cell?_setCell_other (h:=by simp),World.cell?_setCell_other (h:=by simp),World.cell?_setCell_other (h:=by simp)];exact hc i hi
def bJ (a b:ak):Int:=dJ (aG a (dV b))
def hiI (x:Nat→ak):Nat→Nat
 |0=>0
 |i+1=>if 0<bJ (x (i+1)) (x (hiI x i)) then i+1 else hiI x i
theorem mL.apart3 {w:World}{b c:Nat}{v0 v1 v2 v3 v4 v5:Value}(h:mL w b v0 v1 v2 v3 v4 v5)(hne:c≠b)(x0 x1 x2:Value):
  mL (((w.setCell ⟨c,0,none⟩ x0).setCell ⟨c,1,none⟩ x1).setCell ⟨c,2,none⟩ x2) b v0 v1 v2 v3 v4 v5:=by
 obtain⟨hl,⟨c0,c1,c2,c3,c4,c5⟩,f0,f1,f2,f3,f4,f5⟩:=h;refine⟨by simpa using hl,⟨?_, ?_, ?_, ?_, ?_, ?_⟩,by simpa using f0,by simpa using f1,by simpa using f2,by simpa using f3,by simpa using f4,by simpa using f5⟩
 all_goals (rw[World.cell?_setCell_other (h:=by simp),World.cell?_setCell_other (h:=by simp),World.cell?_setCell_other (h:=by simp)];assumption)
def left (listed:Array Bool):Nat:=(listed.toList.filter (fun b=> !b)).length
def Ag (W:World)(base:Nat)(v:Value):Prop:= ∃p,v= .pointer (some ⟨p,0,none⟩)∧base≤p∧Loc W p (.bool false) (.slice none 0 0) (yi 0)
theorem Ag.l {W W':World}{base:Nat}{v:Value}(h:Ag W base v)(hb:yB W W'):Ag W' base v:=by
 obtain⟨p,h1,h2,h3⟩:=h;exact⟨p,h1,h2,h3.l hb⟩
def BT (W:World)(base:Nat)(v:Value):Prop:= ∃p,v= .pointer (some ⟨p,0,none⟩)∧base≤p∧mL W p (.bool false) (.slice none 0 0) (yi 0) (.bool false) (.slice none 0 0) (yi 0)∧ZB6 W p
def V4 (W:World)(base:Nat)(v:Value):Prop:= ∃p,v= .pointer (some ⟨p,0,none⟩)∧base≤p∧Loc W p (.bool false) (.slice none 0 0) (yi 0)∧ZB W p
theorem BT.l {W W':World}{base:Nat}{v:Value}(h:BT W base v)(hb:yB W W'):BT W' base v:=by
 obtain⟨p,h1,h2,h3,h4⟩:=h;exact⟨p,h1,h2,h3.l hb,h4.l hb⟩
theorem V4.l {W W':World}{base:Nat}{v:Value}(h:V4 W base v)(hb:yB W W'):V4 W' base v:=by
 obtain⟨p,h1,h2,h3,h4⟩:=h;exact⟨p,h1,h2,h3.l hb,h4.l hb⟩
theorem ZB.off {w w':World}{q b:Nat}(h:ZB w q)(hg:w.grownBy w' (some b))(hne:q≠b):ZB w' q:=by
 obtain⟨hl,ty,hh⟩:=h;exact⟨Nat.lt_of_lt_of_le hl hg.size,ty,(hg.block q hl (by intro e;cases e;exact hne rfl)).trans hh⟩
theorem ZB6.off {w w':World}{q b:Nat}(h:ZB6 w q)(hg:w.grownBy w' (some b))(hne:q≠b):ZB6 w' q:=by
 obtain⟨hl,ty,hh⟩:=h;exact⟨Nat.lt_of_lt_of_le hl hg.size,ty,(hg.block q hl (by intro e;cases e;exact hne rfl)).trans hh⟩
def RB6 (W:World)(v:Value)(x y:ak):Prop:= ∃p q,v= .agg #[.bool x.s,p,yi x.e,.bool y.s,q,yi y.e]∧Rd W .i64 p (Dg.dg 65536 x.n)∧Rd W .i64 q (Dg.dg 65536 y.n)
theorem RB6.l {W W':World}{v:Value}{x y:ak}(h:RB6 W v x y)(hb:yB W W'):RB6 W' v x y:=by
 obtain⟨p,q,h1,h2,h3⟩:=h;exact⟨p,q,h1,h2.l hb,h3.l hb⟩
theorem Kk {x y:Nat}(h:x≤y):x*x≤y*y:=Nat.mul_le_mul h h
theorem DP {P Q:Nat}(h:fJ P 2 Q):Q*Q≤P∧P< (Q+1)*(Q+1):=by
 obtain⟨h1,h2⟩:=h;rw[Nat.pow_two] at h1 h2;exact⟨h1,h2⟩
theorem aa2 (a:Nat): ∃x,fJ a 2 x:=by
 have key: ∀n x:Nat,x*x≤a→a< (x+n)*(x+n)→ ∃x,fJ a 2 x:=fun n=>by
  induction n with
  |zero=>intro x h1 h2;simp only[Nat.add_zero] at h2;omega
  |succ n ih=>
   intro x h1 h2
   by_cases h:(x+1)*(x+1)≤a
   ·exact ih (x+1) h (by rw[show x+1+n=x+(n+1) by omega];exact h2)
   ·refine⟨x, ?_, ?_⟩
    ·rw[Nat.pow_two];exact h1
    ·rw[Nat.pow_two];omega
 refine key (a+1) 0 (by omega) ?_;simp only[Nat.zero_add];have:(a+1)*1≤(a+1)*(a+1):=Nat.mul_le_mul_left _ (by omega);omega
theorem qw (a:Nat):fJ a 2 (gG a 2):=by
 obtain⟨x,hx⟩:=aa2 a;rw[tT hx];exact hx
theorem Bc {P Q B:Nat}(h:fJ P 2 Q)(hB:1≤B)(hP:2^ (2*B-2)≤P):2^B≤2*Q:=by
 obtain⟨h1,h2⟩:=DP h;obtain⟨c,rfl⟩: ∃c,B=c+1:=⟨B-1,by omega⟩;rw[show 2*(c+1)-2=c+c by omega,Nat.pow_add] at hP
 rw[Nat.pow_succ];generalize 2^c=x at hP⊢
 rcases Nat.lt_or_ge Q x with h3|h3
 ·have:=Kk (x:=Q+1) (y:=x) h3
  omega
 ·omega
theorem tU {n k L:Nat}(h:n<2^k)(hk:k≤16*L):(Dg.dg 65536 n).length≤L:=by
 refine Dg.dg_len_le 65536 n L (by omega) (Nat.lt_of_lt_of_le h ?_);rw[show(65536:Nat)=2^16 from rfl,←Nat.pow_mul]
 exact Nat.pow_le_pow_right (by omega) hk
end Go.Proofs.YtnhackdjplppjaaGreatDoor

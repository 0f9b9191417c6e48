/-
  Texts laid together: Ar1, Tx10, Co4, Co5, Cr1, Ar8, Pa3, As9, Pa4, Tx11, Tx15.
-/
import Derived.Test.YtdhpndnncmagiaaGreatDoorMa27
import Derived.Test.YtdhpndnncmagiaaGreatDoorMa33
set_option maxRecDepth 100000
set_option maxHeartbeats 3200000
namespace Go.Proofs.YtdhpndnncmagiaaGreatDoor
open _root_.Go.Proofs.Tryz
open Go.RowKit
theorem FM (n er:Int)(her:er≠0)(w:World)
  (HG:yJ 39 #[yi n] (.tuple #[ygV 0 0 0 0 false,yi er])):
  yC 60 #[yi n] w (yR w (.tuple #[ykV 0 0 0 0 0 0 0 false,yi er])):=by
 replace HG:Hid _:=HG;have he:(er==0)=false:=by simpa using her
 have d0:=ah w (ykL 0 0 0 0 0 0 0 false) 83;have b0:=af w (.cells (ykA 0 0 0 0 0 0 0 false) 83);clear her
 go_enter func60,ntmps60
 go_wp2_with fail
 refine(HG.out _).mono ?_;rintro z w1 ⟨rfl,b1⟩;have bg:=af w1 (.cells (ygA 0 0 0 0 false) 49);have d1:=(d0.l b1).l bg;have b01:=aa (aa b0 b1) bg
 go_upto_region 3 with fail
 generalize w1.alloc (.cells (ygA 0 0 0 0 false) 49)=W1 at d1 b01⊢;have cR:au ((((((((W1.setCell ⟨w.heap.size,0,none⟩ (yi 0)).setCell ⟨w.heap.size,1,none⟩ (yi 0)).setCell ⟨w.heap.size,2,none⟩ (yi 0)).setCell ⟨w.heap.size,3,none⟩ (yi 0)).setCell ⟨w.heap.size,4,none⟩ (yi 0)).setCell ⟨w.heap.size,5,none⟩ (yi 0)).setCell ⟨w.heap.size,6,none⟩ (yi 0)).setCell ⟨w.heap.size,7,none⟩ (.bool false)) w.heap.size 83 (ykL 0 0 0 0 0 0 0 false):=((((((((d1.set 0 (yi 0)).set 1 (yi 0)).set 2 (yi 0)).set 3 (yi 0)).set 4 (yi 0)).set 5 (yi 0)).set 6 (yi 0)).set 7 (.bool false));have bR:=((((((((ag W1 w.heap.size 0 (yi 0)).trans (ag _ w.heap.size 1 (yi 0))).trans (ag _ w.heap.size 2 (yi 0))).trans (ag _ w.heap.size 3 (yi 0))).trans (ag _ w.heap.size 4 (yi 0))).trans (ag _ w.heap.size 5 (yi 0))).trans (ag _ w.heap.size 6 (yi 0))).trans (ag _ w.heap.size 7 (.bool false))).below b01 (Nat.le_refl _);have hl:=run_loadVar_mid (P:=Tryz.prog) _ w.heap.size 0 83 (ykL 0 0 0 0 0 0 0 false) _ cR.range underlying83 rfl (by kernel_rfl);have HH:Hid (_∧_):=⟨hl,bR⟩;obtain⟨x0,x1,x2,x3,x4,x5,x6,x7⟩:=d1.cs8;have f0:=d1.f 0;have f1:=d1.f 1;have f2:=d1.f 2;have f3:=d1.f 3;have f4:=d1.f 4;have f5:=d1.f 5;have f6:=d1.f 6;have f7:=d1.f 7;clear hl bR cR d1 b01 d0 b0 b1 bg HG
 go_wp2
 obtain⟨hl,bR⟩:=HH.out;exact bodyPost_ret (aj results60 rfl rfl hl) rfl ⟨rfl,bR⟩
theorem tPrint_err (er:Int)(n k c p:Int)(g:Bool)(M:Nat)(x:ak)(s:ByteArray)(w:World)(he: ¬er=0)
  (HR: ∀w1,yB w w1→yC 23 #[yi n,.string s] w1 (Ys w1 c g M p x er)):
  yC 10 #[yi n,.string s,yi k] w (yR w (.tuple #[.string ⟨#[]⟩,yi er])):=by
 replace HR:Hid _:=HR
 go_enter func10,ntmps10
 have b0:=Below.refl w.heap.size w
 go_wp2_with fail
 refine(HR.out _ b0).mono ?_;rintro zz w1 ⟨v1x3,v2x4,rfl,r1x5,r2x6,-,bb2⟩;have b7:=aa b0 bb2;obtain⟨vo,vc,hv⟩:=r1x5.shape;subst hv;obtain⟨xo,xc,hv⟩:=r2x6.shape;subst hv;clear b0 bb2 HR;obtain⟨W10,hW9,q11,q12,al8⟩:=iG w1 (yvL c g (yT vo M vc) p) 57 (yDL x xo xc) 59;replace hW9:Hid _:=hW9;have hl13:w.heap.size≤w1.heap.size:=b7.size;have b14:=aa b7 al8;clear r1x5 r2x6 b7 al8 q11 q12
 go_upto_region 2 with fail
 rw[hW9.out];clear hW9
 go_wp2
 go_ret2
 exact⟨rfl,b14⟩
theorem tPrint_low (n k c p:Int)(g:Bool)(M:Nat)(x:ak)(s:ByteArray)(w:World)(h1:k<1)
  (HR: ∀w1,yB w w1→yC 23 #[yi n,.string s] w1 (Ys w1 c g M p x 0)):
  yC 10 #[yi n,.string s,yi k] w (yR w (.tuple #[.string ⟨#[]⟩,yi 3])):=by
 replace HR:Hid _:=HR
 go_enter func10,ntmps10
 have b0:=Below.refl w.heap.size w
 go_wp2_with fail
 refine(HR.out _ b0).mono ?_;rintro zz w1 ⟨v1x3,v2x4,rfl,r1x5,r2x6,-,bb2⟩;have b7:=aa b0 bb2;obtain⟨vo,vc,hv⟩:=r1x5.shape;subst hv;obtain⟨xo,xc,hv⟩:=r2x6.shape;subst hv;clear b0 bb2 HR;obtain⟨W10,hW9,q11,q12,al8⟩:=iG w1 (yvL c g (yT vo M vc) p) 57 (yDL x xo xc) 59;replace hW9:Hid _:=hW9;have hl13:w.heap.size≤w1.heap.size:=b7.size;have b14:=aa b7 al8;clear r1x5 r2x6 b7 al8 q11 q12
 go_upto_region 2 with fail
 rw[hW9.out];clear hW9
 go_wp2
 go_ret2
 exact⟨rfl,b14⟩
theorem tPrint_high (n k c p:Int)(g:Bool)(M:Nat)(x:ak)(s:ByteArray)(w:World)(h1: ¬k<1)(h2:60<k)
  (HR: ∀w1,yB w w1→yC 23 #[yi n,.string s] w1 (Ys w1 c g M p x 0)):
  yC 10 #[yi n,.string s,yi k] w (yR w (.tuple #[.string ⟨#[]⟩,yi 3])):=by
 replace HR:Hid _:=HR
 go_enter func10,ntmps10
 have b0:=Below.refl w.heap.size w
 go_wp2_with fail
 refine(HR.out _ b0).mono ?_;rintro zz w1 ⟨v1x3,v2x4,rfl,r1x5,r2x6,-,bb2⟩;have b7:=aa b0 bb2;obtain⟨vo,vc,hv⟩:=r1x5.shape;subst hv;obtain⟨xo,xc,hv⟩:=r2x6.shape;subst hv;clear b0 bb2 HR;obtain⟨W10,hW9,q11,q12,al8⟩:=iG w1 (yvL c g (yT vo M vc) p) 57 (yDL x xo xc) 59;replace hW9:Hid _:=hW9;have hl13:w.heap.size≤w1.heap.size:=b7.size;have b14:=aa b7 al8;clear r1x5 r2x6 b7 al8 q11 q12
 go_upto_region 2 with fail
 rw[hW9.out];clear hW9
 go_wp2
 go_ret2
 exact⟨rfl,b14⟩
theorem tPrint_word (wd:ByteArray)(n k c p:Int)(g:Bool)(M:Nat)(x:ak)(s:ByteArray)(w:World)(h1: ¬k<1)(h2: ¬60<k)
  (HR: ∀w1,yB w w1→yC 23 #[yi n,.string s] w1 (Ys w1 c g M p x 0))
  (HW: ∀vo vc w1,yC 24 #[yvV c g (yT vo M vc) p] w1 (yR w1 (.tuple #[.string wd,.bool true]))):
  yC 10 #[yi n,.string s,yi k] w (yR w (.tuple #[.string wd,yi 0])):=by
 replace HR:Hid _:=HR;replace HW:Hid _:=HW
 go_enter func10,ntmps10
 have b0:=Below.refl w.heap.size w
 go_wp2_with fail
 refine(HR.out _ b0).mono ?_;rintro zz w1 ⟨v1x3,v2x4,rfl,r1x5,r2x6,-,bb2⟩;have b7:=aa b0 bb2;obtain⟨vo,vc,hv⟩:=r1x5.shape;subst hv;obtain⟨xo,xc,hv⟩:=r2x6.shape;subst hv;clear b0 bb2 HR;obtain⟨W10,hW9,q11,q12,al8⟩:=iG w1 (yvL c g (yT vo M vc) p) 57 (yDL x xo xc) 59;replace hW9:Hid _:=hW9;have hl13:w.heap.size≤w1.heap.size:=b7.size;have b14:=aa b7 al8;clear r1x5 r2x6 b7 al8 q12
 go_upto_region 2 with fail
 rw[hW9.out];clear hW9;obtain⟨c15,c16,c17,c18⟩:=q11.cs4
 go_wp2_with fail
 refine(HW.out _ _ _).mono ?_;rintro zz w19 ⟨rfl,bb20⟩;have b21:=aa b14 bb20;clear q11 b14 bb20 HW c15 c16 c17 c18
 go_wp2
 go_ret2
 exact⟨rfl,b21⟩
theorem tPrint_num (wd pr:ByteArray)(dg:Bool)(hv:Nat)(cn pw:Int)(n k c p:Int)(g:Bool)(M:Nat)(x:ak)(s:ByteArray)(w:World)(h1: ¬k<1)(h2: ¬60<k)
  (HR: ∀w1,yB w w1→yC 23 #[yi n,.string s] w1 (Ys w1 c g M p x 0))
  (HW: ∀vo vc w1,yC 24 #[yvV c g (yT vo M vc) p] w1 (yR w1 (.tuple #[.string wd,.bool false])))
  (HD: ∀xo xc w1,yB w w1→Rd w1 .u32 (yT xo x.n xc) (Dg.dg 4294967296 x.n)→yC 25 #[yDV x xo xc] w1 (DcR w1 dg hv cn pw))
  (HP: ∀ho hc w1,yB w w1→Rd w1 .u32 (yT ho hv hc) (Dg.dg 4294967296 hv)→yC 26 #[.agg #[.bool dg,yT ho hv hc,yi cn,yi pw],yi k] w1 (yR w1 (.string pr))):
  yC 10 #[yi n,.string s,yi k] w (yR w (.tuple #[.string pr,yi 0])):=by
 replace HR:Hid _:=HR;replace HW:Hid _:=HW;replace HD:Hid _:=HD;replace HP:Hid _:=HP
 go_enter func10,ntmps10
 have b0:=Below.refl w.heap.size w
 go_wp2_with fail
 refine(HR.out _ b0).mono ?_;rintro zz w1 ⟨v1x3,v2x4,rfl,r1x5,r2x6,-,bb2⟩;have b7:=aa b0 bb2;obtain⟨vo,vc,hv⟩:=r1x5.shape;subst hv;obtain⟨xo,xc,hv⟩:=r2x6.shape;subst hv;clear b0 bb2 HR;obtain⟨W10,hW9,q11,q12,al8⟩:=iG w1 (yvL c g (yT vo M vc) p) 57 (yDL x xo xc) 59;replace hW9:Hid _:=hW9;have hl13:w.heap.size≤w1.heap.size:=b7.size;have r14:=r2x6.l al8;have b15:=aa b7 al8;clear r1x5 r2x6 b7 al8
 go_upto_region 2 with fail
 rw[hW9.out];clear hW9;obtain⟨c16,c17,c18,c19⟩:=q11.cs4
 go_wp2_with fail
 refine(HW.out _ _ _).mono ?_;rintro zz w20 ⟨rfl,bb21⟩;have q22:=q12.l bb21;have r23:=r14.l bb21;have b24:=aa b15 bb21;clear q11 q12 r14 b15 bb21 HW c16 c17 c18 c19;obtain⟨c25,c26,c27⟩:=q22.cs3
 go_wp2_with fail
 refine(HD.out _ _ _ b24 r23).mono ?_;rintro zz w28 ⟨v1x30,rfl,r1x31,bb29⟩;have b32:=aa b24 bb29;obtain⟨ho,hc,hv⟩:=r1x31.shape;subst hv;clear q22 r23 b24 bb29 HD c25 c26 c27
 go_wp2_with fail
 refine(HP.out _ _ _ b32 r1x31).mono ?_;rintro zz w33 ⟨rfl,bb34⟩;have b35:=aa b32 bb34;clear r1x31 b32 bb34 HP
 go_wp2
 go_ret2
 exact⟨rfl,b35⟩
theorem tShort_err (er:Int)(n c p:Int)(g:Bool)(M:Nat)(x:ak)(s:ByteArray)(w:World)(he: ¬er=0)
  (HR: ∀w1,yB w w1→yC 23 #[yi n,.string s] w1 (Ys w1 c g M p x er)):
  yC 27 #[yi n,.string s] w (yR w (.tuple #[.string ⟨#[]⟩,yi er])):=by
 replace HR:Hid _:=HR
 go_enter func27,ntmps27
 have b0:=Below.refl w.heap.size w
 go_wp2_with fail
 refine(HR.out _ b0).mono ?_;rintro zz w1 ⟨v1x3,v2x4,rfl,r1x5,r2x6,-,bb2⟩;have b7:=aa b0 bb2;obtain⟨vo,vc,hv⟩:=r1x5.shape;subst hv;obtain⟨xo,xc,hv⟩:=r2x6.shape;subst hv;clear b0 bb2 HR;obtain⟨W10,hW9,q11,q12,al8⟩:=iG w1 (yvL c g (yT vo M vc) p) 57 (yDL x xo xc) 59;replace hW9:Hid _:=hW9;have hl13:w.heap.size≤w1.heap.size:=b7.size;have b14:=aa b7 al8;clear r1x5 r2x6 b7 al8 q11 q12
 go_upto_region 2 with fail
 rw[hW9.out];clear hW9
 go_wp2
 go_ret2
 exact⟨rfl,b14⟩
theorem tShort_word (wd:ByteArray)(n c p:Int)(g:Bool)(M:Nat)(x:ak)(s:ByteArray)(w:World)
  (HR: ∀w1,yB w w1→yC 23 #[yi n,.string s] w1 (Ys w1 c g M p x 0))
  (HW: ∀vo vc w1,yC 24 #[yvV c g (yT vo M vc) p] w1 (yR w1 (.tuple #[.string wd,.bool true]))):
  yC 27 #[yi n,.string s] w (yR w (.tuple #[.string wd,yi 0])):=by
 replace HR:Hid _:=HR;replace HW:Hid _:=HW
 go_enter func27,ntmps27
 have b0:=Below.refl w.heap.size w
 go_wp2_with fail
 refine(HR.out _ b0).mono ?_;rintro zz w1 ⟨v1x3,v2x4,rfl,r1x5,r2x6,-,bb2⟩;have b7:=aa b0 bb2;obtain⟨vo,vc,hv⟩:=r1x5.shape;subst hv;obtain⟨xo,xc,hv⟩:=r2x6.shape;subst hv;clear b0 bb2 HR;obtain⟨W10,hW9,q11,q12,al8⟩:=iG w1 (yvL c g (yT vo M vc) p) 57 (yDL x xo xc) 59;replace hW9:Hid _:=hW9;have hl13:w.heap.size≤w1.heap.size:=b7.size;have b14:=aa b7 al8;clear r1x5 r2x6 b7 al8 q12
 go_upto_region 2 with fail
 rw[hW9.out];clear hW9;obtain⟨c15,c16,c17,c18⟩:=q11.cs4
 go_wp2_with fail
 refine(HW.out _ _ _).mono ?_;rintro zz w19 ⟨rfl,bb20⟩;have b21:=aa b14 bb20;clear q11 b14 bb20 HW c15 c16 c17 c18
 go_wp2
 go_ret2
 exact⟨rfl,b21⟩
theorem tShort_enc (er:Int)(wd md:ByteArray)(n c p:Int)(g:Bool)(M:Nat)(x:ak)(s:ByteArray)(w:World)(he: ¬er=0)
  (HR: ∀w1,yB w w1→yC 23 #[yi n,.string s] w1 (Ys w1 c g M p x 0))
  (HW: ∀vo vc w1,yC 24 #[yvV c g (yT vo M vc) p] w1 (yR w1 (.tuple #[.string wd,.bool false])))
  (HE: ∀vo vc w1,yB w w1→Rd w1 .u32 (yT vo M vc) (Dg.dg 4294967296 M)→yC 54 #[yi n,yvV c g (yT vo M vc) p] w1 (yR w1 (.tuple #[.string md,yi er]))):
  yC 27 #[yi n,.string s] w (yR w (.tuple #[.string ⟨#[]⟩,yi er])):=by
 replace HR:Hid _:=HR;replace HW:Hid _:=HW;replace HE:Hid _:=HE
 go_enter func27,ntmps27
 have b0:=Below.refl w.heap.size w
 go_wp2_with fail
 refine(HR.out _ b0).mono ?_;rintro zz w1 ⟨v1x3,v2x4,rfl,r1x5,r2x6,-,bb2⟩;have b7:=aa b0 bb2;obtain⟨vo,vc,hv⟩:=r1x5.shape;subst hv;obtain⟨xo,xc,hv⟩:=r2x6.shape;subst hv;clear b0 bb2 HR;obtain⟨W10,hW9,q11,q12,al8⟩:=iG w1 (yvL c g (yT vo M vc) p) 57 (yDL x xo xc) 59;replace hW9:Hid _:=hW9;have hl13:w.heap.size≤w1.heap.size:=b7.size;have r14:=r1x5.l al8;have b15:=aa b7 al8;clear r1x5 r2x6 b7 al8 q12
 go_upto_region 2 with fail
 rw[hW9.out];clear hW9;obtain⟨c16,c17,c18,c19⟩:=q11.cs4
 go_wp2_with fail
 refine(HW.out _ _ _).mono ?_;rintro zz w20 ⟨rfl,bb21⟩;have q22:=q11.l bb21;have r23:=r14.l bb21;have b24:=aa b15 bb21;clear q11 r14 b15 bb21 HW c16 c17 c18 c19;obtain⟨c25,c26,c27,c28⟩:=q22.cs4
 go_wp2_with fail
 refine(HE.out _ _ _ b24 r23).mono ?_;rintro zz w29 ⟨rfl,bb30⟩;have b31:=aa b24 bb30;clear q22 r23 b24 bb30 HE c25 c26 c27 c28
 go_wp2
 go_ret2
 exact⟨rfl,b31⟩
abbrev SN:=cgrid_1_mg.1
abbrev SO:=cgrid_1_mg.2.1
abbrev SP:=cgrid_1_mg.2.2.1
abbrev SQ:=cgrid_1_mg.2.2.2.1
abbrev SR:=cgrid_1_mg.2.2.2.2.1
abbrev SS:=cgrid_1_mg.2.2.2.2.2.1
abbrev ST:=cgrid_1_mg.2.2.2.2.2.2.1
abbrev SU:=cgrid_1_mg.2.2.2.2.2.2.2
theorem Ly (w:World):yC 21 #[yi 1] w (yR w (.tuple #[yhV 4 8 23 2 24 (-149) 104 true 1,.bool true])):=by
 have HT:Hid (yJ 38 #[yi 4,yi 8,yi 23,yi 24,yi (-149),yi 104,yi 1] (yhV 4 8 23 2 24 (-149) 104 true 1)):=fun w1=>nD _ _ _ _ _ _ _ w1
 have l0:=ah w (yhL 0 0 0 0 0 0 0 false 0) 51;have b0:=af w (.cells (yhA 0 0 0 0 0 0 0 false 0) 51)
 go_enter func21,ntmps21
 go_wp2_with fail
 refine(HT.out _).mono ?_;rintro z w2 ⟨rfl,b2⟩;have l2:=l0.l b2;have cR:au (((((((((w2.setCell ⟨w.heap.size,0,none⟩ (yi 4)).setCell ⟨w.heap.size,1,none⟩ (yi 8)).setCell ⟨w.heap.size,2,none⟩ (yi 23)).setCell ⟨w.heap.size,3,none⟩ (yi 2)).setCell ⟨w.heap.size,4,none⟩ (yi 24)).setCell ⟨w.heap.size,5,none⟩ (yi (-149))).setCell ⟨w.heap.size,6,none⟩ (yi 104)).setCell ⟨w.heap.size,7,none⟩ (.bool true)).setCell ⟨w.heap.size,8,none⟩ (yi 1)) w.heap.size 51 (yhL 4 8 23 2 24 (-149) 104 true 1):=(((((((((l2.set 0 (yi 4)).set 1 (yi 8)).set 2 (yi 23)).set 3 (yi 2)).set 4 (yi 24)).set 5 (yi (-149))).set 6 (yi 104)).set 7 (.bool true)).set 8 (yi 1));have bR:=(((((((((ag w2 w.heap.size 0 (yi 4)).trans (ag _ w.heap.size 1 (yi 8))).trans (ag _ w.heap.size 2 (yi 23))).trans (ag _ w.heap.size 3 (yi 2))).trans (ag _ w.heap.size 4 (yi 24))).trans (ag _ w.heap.size 5 (yi (-149)))).trans (ag _ w.heap.size 6 (yi 104))).trans (ag _ w.heap.size 7 (.bool true))).trans (ag _ w.heap.size 8 (yi 1))).below (aa b0 b2) (Nat.le_refl _);have hl:=run_loadVar_mid (P:=Tryz.prog) _ w.heap.size 0 51 (yhL 4 8 23 2 24 (-149) 104 true 1) _ cR.range underlying51 rfl (by kernel_rfl);have HH:Hid (_∧_):=⟨hl,bR⟩;have x0:=l2.c 0 rfl;have f0:=l2.f 0;have x1:=l2.c 1 rfl;have f1:=l2.f 1;have x2:=l2.c 2 rfl;have f2:=l2.f 2;have x3:=l2.c 3 rfl;have f3:=l2.f 3;have x4:=l2.c 4 rfl;have f4:=l2.f 4;have x5:=l2.c 5 rfl;have f5:=l2.f 5;have x6:=l2.c 6 rfl;have f6:=l2.f 6;have x7:=l2.c 7 rfl;have f7:=l2.f 7;have x8:=l2.c 8 rfl;have f8:=l2.f 8;clear hl bR cR l0 l2 b0 b2 HT
 go_wp2
 obtain⟨hl,bR⟩:=HH.out;exact bodyPost_ret (aj results21 rfl rfl hl) rfl ⟨rfl,bR⟩
theorem Lz (w:World):yC 21 #[yi 2] w (yR w (.tuple #[yhV 8 11 52 2 53 (-1074) 971 true 1,.bool true])):=by
 have HT:Hid (yJ 38 #[yi 8,yi 11,yi 52,yi 53,yi (-1074),yi 971,yi 1] (yhV 8 11 52 2 53 (-1074) 971 true 1)):=fun w1=>nD _ _ _ _ _ _ _ w1
 have l0:=ah w (yhL 0 0 0 0 0 0 0 false 0) 51;have b0:=af w (.cells (yhA 0 0 0 0 0 0 0 false 0) 51)
 go_enter func21,ntmps21
 go_wp2_with fail
 refine(HT.out _).mono ?_;rintro z w2 ⟨rfl,b2⟩;have l2:=l0.l b2;have cR:au (((((((((w2.setCell ⟨w.heap.size,0,none⟩ (yi 8)).setCell ⟨w.heap.size,1,none⟩ (yi 11)).setCell ⟨w.heap.size,2,none⟩ (yi 52)).setCell ⟨w.heap.size,3,none⟩ (yi 2)).setCell ⟨w.heap.size,4,none⟩ (yi 53)).setCell ⟨w.heap.size,5,none⟩ (yi (-1074))).setCell ⟨w.heap.size,6,none⟩ (yi 971)).setCell ⟨w.heap.size,7,none⟩ (.bool true)).setCell ⟨w.heap.size,8,none⟩ (yi 1)) w.heap.size 51 (yhL 8 11 52 2 53 (-1074) 971 true 1):=(((((((((l2.set 0 (yi 8)).set 1 (yi 11)).set 2 (yi 52)).set 3 (yi 2)).set 4 (yi 53)).set 5 (yi (-1074))).set 6 (yi 971)).set 7 (.bool true)).set 8 (yi 1));have bR:=(((((((((ag w2 w.heap.size 0 (yi 8)).trans (ag _ w.heap.size 1 (yi 11))).trans (ag _ w.heap.size 2 (yi 52))).trans (ag _ w.heap.size 3 (yi 2))).trans (ag _ w.heap.size 4 (yi 53))).trans (ag _ w.heap.size 5 (yi (-1074)))).trans (ag _ w.heap.size 6 (yi 971))).trans (ag _ w.heap.size 7 (.bool true))).trans (ag _ w.heap.size 8 (yi 1))).below (aa b0 b2) (Nat.le_refl _);have hl:=run_loadVar_mid (P:=Tryz.prog) _ w.heap.size 0 51 (yhL 8 11 52 2 53 (-1074) 971 true 1) _ cR.range underlying51 rfl (by kernel_rfl);have HH:Hid (_∧_):=⟨hl,bR⟩;have x0:=l2.c 0 rfl;have f0:=l2.f 0;have x1:=l2.c 1 rfl;have f1:=l2.f 1;have x2:=l2.c 2 rfl;have f2:=l2.f 2;have x3:=l2.c 3 rfl;have f3:=l2.f 3;have x4:=l2.c 4 rfl;have f4:=l2.f 4;have x5:=l2.c 5 rfl;have f5:=l2.f 5;have x6:=l2.c 6 rfl;have f6:=l2.f 6;have x7:=l2.c 7 rfl;have f7:=l2.f 7;have x8:=l2.c 8 rfl;have f8:=l2.f 8;clear hl bR cR l0 l2 b0 b2 HT
 go_wp2
 obtain⟨hl,bR⟩:=HH.out;exact bodyPost_ret (aj results21 rfl rfl hl) rfl ⟨rfl,bR⟩
theorem LA (w:World):yC 21 #[yi 3] w (yR w (.tuple #[yhV 10 15 64 2 64 (-16445) 16320 true 1,.bool true])):=by
 have HT:Hid (yJ 38 #[yi 10,yi 15,yi 64,yi 64,yi (-16445),yi 16320,yi 1] (yhV 10 15 64 2 64 (-16445) 16320 true 1)):=fun w1=>nD _ _ _ _ _ _ _ w1
 have l0:=ah w (yhL 0 0 0 0 0 0 0 false 0) 51;have b0:=af w (.cells (yhA 0 0 0 0 0 0 0 false 0) 51)
 go_enter func21,ntmps21
 go_wp2_with fail
 refine(HT.out _).mono ?_;rintro z w2 ⟨rfl,b2⟩;have l2:=l0.l b2;have cR:au (((((((((w2.setCell ⟨w.heap.size,0,none⟩ (yi 10)).setCell ⟨w.heap.size,1,none⟩ (yi 15)).setCell ⟨w.heap.size,2,none⟩ (yi 64)).setCell ⟨w.heap.size,3,none⟩ (yi 2)).setCell ⟨w.heap.size,4,none⟩ (yi 64)).setCell ⟨w.heap.size,5,none⟩ (yi (-16445))).setCell ⟨w.heap.size,6,none⟩ (yi 16320)).setCell ⟨w.heap.size,7,none⟩ (.bool true)).setCell ⟨w.heap.size,8,none⟩ (yi 1)) w.heap.size 51 (yhL 10 15 64 2 64 (-16445) 16320 true 1):=(((((((((l2.set 0 (yi 10)).set 1 (yi 15)).set 2 (yi 64)).set 3 (yi 2)).set 4 (yi 64)).set 5 (yi (-16445))).set 6 (yi 16320)).set 7 (.bool true)).set 8 (yi 1));have bR:=(((((((((ag w2 w.heap.size 0 (yi 10)).trans (ag _ w.heap.size 1 (yi 15))).trans (ag _ w.heap.size 2 (yi 64))).trans (ag _ w.heap.size 3 (yi 2))).trans (ag _ w.heap.size 4 (yi 64))).trans (ag _ w.heap.size 5 (yi (-16445)))).trans (ag _ w.heap.size 6 (yi 16320))).trans (ag _ w.heap.size 7 (.bool true))).trans (ag _ w.heap.size 8 (yi 1))).below (aa b0 b2) (Nat.le_refl _);have hl:=run_loadVar_mid (P:=Tryz.prog) _ w.heap.size 0 51 (yhL 10 15 64 2 64 (-16445) 16320 true 1) _ cR.range underlying51 rfl (by kernel_rfl);have HH:Hid (_∧_):=⟨hl,bR⟩;have x0:=l2.c 0 rfl;have f0:=l2.f 0;have x1:=l2.c 1 rfl;have f1:=l2.f 1;have x2:=l2.c 2 rfl;have f2:=l2.f 2;have x3:=l2.c 3 rfl;have f3:=l2.f 3;have x4:=l2.c 4 rfl;have f4:=l2.f 4;have x5:=l2.c 5 rfl;have f5:=l2.f 5;have x6:=l2.c 6 rfl;have f6:=l2.f 6;have x7:=l2.c 7 rfl;have f7:=l2.f 7;have x8:=l2.c 8 rfl;have f8:=l2.f 8;clear hl bR cR l0 l2 b0 b2 HT
 go_wp2
 obtain⟨hl,bR⟩:=HH.out;exact bodyPost_ret (aj results21 rfl rfl hl) rfl ⟨rfl,bR⟩
theorem LE (w:World):yC 21 #[yi 6] w (yR w (.tuple #[yhV 4 8 23 2 24 (-151) 103 false 3,.bool true])):=by
 have HT:Hid (yJ 38 #[yi 4,yi 8,yi 23,yi 24,yi (-151),yi 103,yi 3] (yhV 4 8 23 2 24 (-151) 103 false 3)):=fun w1=>nD _ _ _ _ _ _ _ w1
 have l0:=ah w (yhL 0 0 0 0 0 0 0 false 0) 51;have b0:=af w (.cells (yhA 0 0 0 0 0 0 0 false 0) 51)
 go_enter func21,ntmps21
 go_wp2_with fail
 refine(HT.out _).mono ?_;rintro z w2 ⟨rfl,b2⟩;have l2:=l0.l b2;have cR:au (((((((((w2.setCell ⟨w.heap.size,0,none⟩ (yi 4)).setCell ⟨w.heap.size,1,none⟩ (yi 8)).setCell ⟨w.heap.size,2,none⟩ (yi 23)).setCell ⟨w.heap.size,3,none⟩ (yi 2)).setCell ⟨w.heap.size,4,none⟩ (yi 24)).setCell ⟨w.heap.size,5,none⟩ (yi (-151))).setCell ⟨w.heap.size,6,none⟩ (yi 103)).setCell ⟨w.heap.size,7,none⟩ (.bool false)).setCell ⟨w.heap.size,8,none⟩ (yi 3)) w.heap.size 51 (yhL 4 8 23 2 24 (-151) 103 false 3):=(((((((((l2.set 0 (yi 4)).set 1 (yi 8)).set 2 (yi 23)).set 3 (yi 2)).set 4 (yi 24)).set 5 (yi (-151))).set 6 (yi 103)).set 7 (.bool false)).set 8 (yi 3));have bR:=(((((((((ag w2 w.heap.size 0 (yi 4)).trans (ag _ w.heap.size 1 (yi 8))).trans (ag _ w.heap.size 2 (yi 23))).trans (ag _ w.heap.size 3 (yi 2))).trans (ag _ w.heap.size 4 (yi 24))).trans (ag _ w.heap.size 5 (yi (-151)))).trans (ag _ w.heap.size 6 (yi 103))).trans (ag _ w.heap.size 7 (.bool false))).trans (ag _ w.heap.size 8 (yi 3))).below (aa b0 b2) (Nat.le_refl _);have hl:=run_loadVar_mid (P:=Tryz.prog) _ w.heap.size 0 51 (yhL 4 8 23 2 24 (-151) 103 false 3) _ cR.range underlying51 rfl (by kernel_rfl);have HH:Hid (_∧_):=⟨hl,bR⟩;have x0:=l2.c 0 rfl;have f0:=l2.f 0;have x1:=l2.c 1 rfl;have f1:=l2.f 1;have x2:=l2.c 2 rfl;have f2:=l2.f 2;have x3:=l2.c 3 rfl;have f3:=l2.f 3;have x4:=l2.c 4 rfl;have f4:=l2.f 4;have x5:=l2.c 5 rfl;have f5:=l2.f 5;have x6:=l2.c 6 rfl;have f6:=l2.f 6;have x7:=l2.c 7 rfl;have f7:=l2.f 7;have x8:=l2.c 8 rfl;have f8:=l2.f 8;clear hl bR cR l0 l2 b0 b2 HT
 go_wp2
 obtain⟨hl,bR⟩:=HH.out;exact bodyPost_ret (aj results21 rfl rfl hl) rfl ⟨rfl,bR⟩
theorem LF (w:World):yC 21 #[yi 7] w (yR w (.tuple #[yhV 8 8 55 2 56 (-183) 71 false 3,.bool true])):=by
 have HT:Hid (yJ 38 #[yi 8,yi 8,yi 55,yi 56,yi (-183),yi 71,yi 3] (yhV 8 8 55 2 56 (-183) 71 false 3)):=fun w1=>nD _ _ _ _ _ _ _ w1
 have l0:=ah w (yhL 0 0 0 0 0 0 0 false 0) 51;have b0:=af w (.cells (yhA 0 0 0 0 0 0 0 false 0) 51)
 go_enter func21,ntmps21
 go_wp2_with fail
 refine(HT.out _).mono ?_;rintro z w2 ⟨rfl,b2⟩;have l2:=l0.l b2;have cR:au (((((((((w2.setCell ⟨w.heap.size,0,none⟩ (yi 8)).setCell ⟨w.heap.size,1,none⟩ (yi 8)).setCell ⟨w.heap.size,2,none⟩ (yi 55)).setCell ⟨w.heap.size,3,none⟩ (yi 2)).setCell ⟨w.heap.size,4,none⟩ (yi 56)).setCell ⟨w.heap.size,5,none⟩ (yi (-183))).setCell ⟨w.heap.size,6,none⟩ (yi 71)).setCell ⟨w.heap.size,7,none⟩ (.bool false)).setCell ⟨w.heap.size,8,none⟩ (yi 3)) w.heap.size 51 (yhL 8 8 55 2 56 (-183) 71 false 3):=(((((((((l2.set 0 (yi 8)).set 1 (yi 8)).set 2 (yi 55)).set 3 (yi 2)).set 4 (yi 56)).set 5 (yi (-183))).set 6 (yi 71)).set 7 (.bool false)).set 8 (yi 3));have bR:=(((((((((ag w2 w.heap.size 0 (yi 8)).trans (ag _ w.heap.size 1 (yi 8))).trans (ag _ w.heap.size 2 (yi 55))).trans (ag _ w.heap.size 3 (yi 2))).trans (ag _ w.heap.size 4 (yi 56))).trans (ag _ w.heap.size 5 (yi (-183)))).trans (ag _ w.heap.size 6 (yi 71))).trans (ag _ w.heap.size 7 (.bool false))).trans (ag _ w.heap.size 8 (yi 3))).below (aa b0 b2) (Nat.le_refl _);have hl:=run_loadVar_mid (P:=Tryz.prog) _ w.heap.size 0 51 (yhL 8 8 55 2 56 (-183) 71 false 3) _ cR.range underlying51 rfl (by kernel_rfl);have HH:Hid (_∧_):=⟨hl,bR⟩;have x0:=l2.c 0 rfl;have f0:=l2.f 0;have x1:=l2.c 1 rfl;have f1:=l2.f 1;have x2:=l2.c 2 rfl;have f2:=l2.f 2;have x3:=l2.c 3 rfl;have f3:=l2.f 3;have x4:=l2.c 4 rfl;have f4:=l2.f 4;have x5:=l2.c 5 rfl;have f5:=l2.f 5;have x6:=l2.c 6 rfl;have f6:=l2.f 6;have x7:=l2.c 7 rfl;have f7:=l2.f 7;have x8:=l2.c 8 rfl;have f8:=l2.f 8;clear hl bR cR l0 l2 b0 b2 HT
 go_wp2
 obtain⟨hl,bR⟩:=HH.out;exact bodyPost_ret (aj results21 rfl rfl hl) rfl ⟨rfl,bR⟩
theorem LH (w:World):yC 21 #[yi 8] w (yR w (.tuple #[yhV 8 11 52 2 53 (-1076) 970 false 3,.bool true])):=by
 have HT:Hid (yJ 38 #[yi 8,yi 11,yi 52,yi 53,yi (-1076),yi 970,yi 3] (yhV 8 11 52 2 53 (-1076) 970 false 3)):=fun w1=>nD _ _ _ _ _ _ _ w1
 have l0:=ah w (yhL 0 0 0 0 0 0 0 false 0) 51;have b0:=af w (.cells (yhA 0 0 0 0 0 0 0 false 0) 51)
 go_enter func21,ntmps21
 go_wp2_with fail
 refine(HT.out _).mono ?_;rintro z w2 ⟨rfl,b2⟩;have l2:=l0.l b2;have cR:au (((((((((w2.setCell ⟨w.heap.size,0,none⟩ (yi 8)).setCell ⟨w.heap.size,1,none⟩ (yi 11)).setCell ⟨w.heap.size,2,none⟩ (yi 52)).setCell ⟨w.heap.size,3,none⟩ (yi 2)).setCell ⟨w.heap.size,4,none⟩ (yi 53)).setCell ⟨w.heap.size,5,none⟩ (yi (-1076))).setCell ⟨w.heap.size,6,none⟩ (yi 970)).setCell ⟨w.heap.size,7,none⟩ (.bool false)).setCell ⟨w.heap.size,8,none⟩ (yi 3)) w.heap.size 51 (yhL 8 11 52 2 53 (-1076) 970 false 3):=(((((((((l2.set 0 (yi 8)).set 1 (yi 11)).set 2 (yi 52)).set 3 (yi 2)).set 4 (yi 53)).set 5 (yi (-1076))).set 6 (yi 970)).set 7 (.bool false)).set 8 (yi 3));have bR:=(((((((((ag w2 w.heap.size 0 (yi 8)).trans (ag _ w.heap.size 1 (yi 11))).trans (ag _ w.heap.size 2 (yi 52))).trans (ag _ w.heap.size 3 (yi 2))).trans (ag _ w.heap.size 4 (yi 53))).trans (ag _ w.heap.size 5 (yi (-1076)))).trans (ag _ w.heap.size 6 (yi 970))).trans (ag _ w.heap.size 7 (.bool false))).trans (ag _ w.heap.size 8 (yi 3))).below (aa b0 b2) (Nat.le_refl _);have hl:=run_loadVar_mid (P:=Tryz.prog) _ w.heap.size 0 51 (yhL 8 11 52 2 53 (-1076) 970 false 3) _ cR.range underlying51 rfl (by kernel_rfl);have HH:Hid (_∧_):=⟨hl,bR⟩;have x0:=l2.c 0 rfl;have f0:=l2.f 0;have x1:=l2.c 1 rfl;have f1:=l2.f 1;have x2:=l2.c 2 rfl;have f2:=l2.f 2;have x3:=l2.c 3 rfl;have f3:=l2.f 3;have x4:=l2.c 4 rfl;have f4:=l2.f 4;have x5:=l2.c 5 rfl;have f5:=l2.f 5;have x6:=l2.c 6 rfl;have f6:=l2.f 6;have x7:=l2.c 7 rfl;have f7:=l2.f 7;have x8:=l2.c 8 rfl;have f8:=l2.f 8;clear hl bR cR l0 l2 b0 b2 HT
 go_wp2
 obtain⟨hl,bR⟩:=HH.out;exact bodyPost_ret (aj results21 rfl rfl hl) rfl ⟨rfl,bR⟩
theorem qU (k:Nat)(hk:1≤k∧k≤8)(w:World):yC 21 #[yi k] w (yR w (.tuple #[.agg (afl k).toArray,.bool true])):=by
 rcases bO hk with rfl|rfl|rfl|rfl|rfl|rfl|rfl|rfl
 ·exact Ly w
 ·exact Lz w
 ·exact LA w
 ·exact LC w
 ·exact LD w
 ·exact LE w
 ·exact LF w
 ·exact LH w
theorem vj (k:Nat)(hk:1≤k∧k≤8)(w:World):yC 39 #[yi k] w (yR w (.tuple #[ygV (rdN k) (dgN k) (lsI k) (gsI k) (decide (k≤3)),yi 0])):=by
 rcases bO hk with rfl|rfl|rfl|rfl|rfl|rfl|rfl|rfl
 ·exact SN w
 ·exact SO w
 ·exact SP w
 ·exact SQ w
 ·exact SR w
 ·exact SS w
 ·exact ST w
 ·exact SU w
def noV (k:Nat)(fl:Int):Int×Bool×ak×Int:=(AZ (dK k),false,⟨false,0,0⟩,fl)
def vY (k:Nat)(wy cx:Int)(gx:Bool)(x:ak)(cy:Int)(gy:Bool)(y:ak):Int×Bool×ak×Int:=
 if cx=3∧cy=3∧gx≠gy then noV k 16 else if cx=3 then(3,gx,x,0) else if cy=3 then(3,gy,y,0) else nu (aG x y) (if gx=gy then gx else decide (wy=5))
def mK (k:Nat)(cx:Int)(gx:Bool)(x:ak)(cy:Int)(gy:Bool)(y:ak):Int×Bool×ak×Int:=
 if cx=3∧cy=1∨cx=1∧cy=3 then noV k 16 else if cx=3∨cy=3 then(3,gx != gy,⟨false,0,0⟩,0) else nu (aK x y) (gx != gy)
theorem lV (k:Nat)(hk:1≤k∧k≤8)(wy fl:Int)(w:World):yC 67 #[dsk k wy,yi fl] w (yR w (.tuple #[yoV (AZ (dK k)) false false yN 0,yi fl])):=
 Pb _ _ _ _ _ _ _ _ _ _ w (fun w1=>A5 _ (qt hk) w1)
theorem IR:eE [2] [1] 0 2 24 (-149) 104 1=0∧df [2] [1] 0 2 24 (-149) 104 true false 1=⟨false,8388608,-22,true,false,false⟩:=by
 refine⟨?_, ?_⟩<;>kernel_rfl
theorem vN {k:Nat}{fl:Int}(h:(noV k fl).1=2):False:=by
 have:AZ (dK k)=2:=h;unfold AZ at this
 split at this
 ·omega
 ·split at this<;>omega
def wdS (c:Int)(g:Bool):ByteArray:=if g=true then(wdV c).2.1 else(wdV c).1
theorem wordOf_any (c p:Int)(g:Bool)(vo:Option Addr)(vl vc:Nat)(w:World):yC 24 #[yvV c g (.slice vo vl vc) p] w (yR w (.tuple #[.string (wdS c g),.bool (wdV c).2.2])):=by
 unfold wdS
 cases g
 ·rw[if_neg (by decide)]
  exact tword_f c p vo vl vc _ _ _ w (fun w1=>twords_any w1) (fun wq mr hm=>look_any c wq mr hm)
 ·rw[if_pos rfl]
  exact tword_t c p vo vl vc _ _ _ w (fun w1=>twords_any w1) (fun wq mr hm=>look_any c wq mr hm)
theorem dc_all {x:ak}(hx:x.n<2^64)(e1: -16500≤x.e)(e2:x.e≤16500)(h0:x.n≠0):dcH x<2*10^dcC x∧dcC x≤37000∧60≤dcC x∧ -100000≤dcP x∧dcP x≤100000:=by
 obtain⟨⟨g1,g2⟩,-,hC⟩:=dc_in hx e1 e2 h0;have hW:dcW x<10^dcC x:=decS_big;have hm:=dc_many hx e1 e2 h0;have h60:60≤dcC x:=by
  rcases Nat.lt_or_ge (dcC x) 60 with c|c
  ·exact absurd (Nat.lt_of_lt_of_le hW (Nat.pow_le_pow_right (by omega) (Nat.le_of_lt c))) (Nat.not_lt_of_le hm)
  ·exact c
 refine⟨?_,by omega,h60, ?_, ?_⟩
 ·unfold dcH
  split<;>omega
 ·unfold dcP
  omega
 ·unfold dcP
  omega
theorem word_no {c:Nat}(h1:1≤c)(h2:c≤5)(h:(wdV c).2.2=false):c=2:=by
 obtain rfl|rfl|rfl|rfl|rfl:c=1∨c=2∨c=3∨c=4∨c=5:=by omega
 all_goals first
  |rfl
  |exact absurd h (by decide)
def ptV (n:Int)(s:ByteArray)(k:Int):ByteArray×Int:=
 if dF n s≠0 then(⟨#[]⟩,dF n s) else if k<1∨60<k then(⟨#[]⟩,3) else
  if(wdV ((bM n s:Nat):Int)).2.2=true then(wdS ((bM n s:Nat):Int) (dz n s),0) else(ptS n s k.toNat,0)
theorem num_of {n:Int}{s:ByteArray}(hp:dF n s=0)(hw:(wdV ((bM n s:Nat):Int)).2.2=false):(opT n s).n<2^64∧ -16500≤(opT n s).e∧(opT n s).e≤16500∧(opT n s).n≠0:=by
 have hf:dK n≠0:=fun hf=>by
  unfold dF at hp;rw[if_pos hf] at hp;omega
 obtain⟨k1,k2,k3⟩:=fF hf;obtain⟨k,rfl⟩: ∃i:Nat,n=(i:Int):=⟨n.toNat,k3.symm⟩;rw[Int.toNat_natCast] at k1 k2;obtain⟨c1,c2⟩:=zl hp;obtain⟨⟨s1,s2,s3⟩,-,n2⟩:=ir ⟨k1,k2⟩ hp;exact⟨s1,s2,s3,n2 (word_no c1 c2 hw)⟩
def shE (n:Int)(s:ByteArray):Int:=gI n ((bM n s:Nat):Int) (dz n s) (Dg.dg 4294967296 (gJ n s)) (iF n s)
end Go.Proofs.YtdhpndnncmagiaaGreatDoor

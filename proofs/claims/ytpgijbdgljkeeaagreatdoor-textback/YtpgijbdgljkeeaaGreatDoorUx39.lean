/-
  Texts laid together: Tx4, Co18, Ar1, Tx10, Gh7, As4, As8, BlM, Tx11, Tx15.
-/
import Derived.Test.YtpgijbdgljkeeaaGreatDoorUx34
import Derived.Test.YtpgijbdgljkeeaaGreatDoorUx35
set_option maxRecDepth 100000
set_option maxHeartbeats 3200000
namespace Go.Proofs.YtpgijbdgljkeeaaGreatDoor
open _root_.Go.Proofs.Tryz
open Go.RowKit
theorem tRatio_err (er:Int)(ng:Bool)(ds:ByteArray)(p:Int)(tx:ByteArray)(w:World)(he: ¬er=0)
  (HN:yH w 30 #[.string tx] (.tuple #[.agg #[.bool ng,.string ds,yi p],yi er])):
  yC 9 #[.string tx] w (yR w (.tuple #[yrV false yN yN 0,yi er])):=by
 replace HN:Hid _:=HN;obtain⟨W3,hW4,q1,b2⟩:=cA w (yrL false yN yN 0) 25;replace hW4:Hid _:=hW4
 go_enter func9,ntmps9
 go_upto_region 1 with fail
 rw[hW4.out];clear hW4
 go_wp2_with fail
 refine(HN.out _ b2).mono ?_;rintro zz w5 ⟨rfl,bb6⟩;have q7:=q1.l bb6;have b8:=aa b2 bb6;clear q1 b2 bb6 HN;obtain⟨W11,hW10,q12,al9⟩:=cA w5 [.bool ng,.string ds,yi p] 74;replace hW10:Hid _:=hW10;have hl13:w.heap.size≤w5.heap.size:=b8.size;have hl14:=q7.lt;have q15:=q7.l al9;have b16:=aa b8 al9;clear q7 b8 al9 q12
 go_upto_region 2 with fail
 rw[hW10.out];clear hW10;have hf:=afz (P:=Tryz.prog) q15 b16 (by omega) underlying25 rfl (by kernel_rfl) (.bool false) yN yN (yi 0);have HH:Hid (_∧_):=⟨hf.1,hf.2.1⟩;obtain⟨⟨z0,z1,z2,z3⟩,y0,y1,y2,y3⟩:=afB q15;clear hf q15 b16
 go_wp2
 obtain⟨hl,bR⟩:=HH.out;exact bodyPost_ret (aj results9 rfl rfl hl) rfl ⟨rfl,bR⟩
theorem tRatio_ok (qn:Bool)(a b:Nat)(ex:Int)(ng:Bool)(ds:ByteArray)(p:Int)(tx:ByteArray)(w:World)
  (HN:yH w 30 #[.string tx] (.tuple #[.agg #[.bool ng,.string ds,yi p],yi 0]))
  (HQ: ∀w1,yB w w1→yC 31 #[.agg #[.bool ng,.string ds,yi p]] w1 (RtR w1 qn a b ex)):
  yC 9 #[.string tx] w (RtE w qn a b ex 0):=by
 replace HN:Hid _:=HN;replace HQ:Hid _:=HQ;obtain⟨W3,hW4,q1,b2⟩:=cA w (yrL false yN yN 0) 25;replace hW4:Hid _:=hW4
 go_enter func9,ntmps9
 go_upto_region 1 with fail
 rw[hW4.out];clear hW4
 go_wp2_with fail
 refine(HN.out _ b2).mono ?_;rintro zz w5 ⟨rfl,bb6⟩;have q7:=q1.l bb6;have b8:=aa b2 bb6;clear q1 b2 bb6 HN;obtain⟨W11,hW10,q12,al9⟩:=cA w5 [.bool ng,.string ds,yi p] 74;replace hW10:Hid _:=hW10;have hl13:w.heap.size≤w5.heap.size:=b8.size;have hl14:=q7.lt;have q15:=q7.l al9;have b16:=aa b8 al9;clear q7 b8 al9
 go_upto_region 2 with fail
 rw[hW10.out];clear hW10;obtain⟨c17,c18,c19⟩:=q12.cs3
 go_wp2_with fail
 refine(HQ.out _ b16).mono ?_;rintro zz w20 ⟨v1x22,v2x23,rfl,r1x24,r2x25,bb21⟩;have q26:=q15.l bb21;have b27:=aa b16 bb21;obtain⟨ao,ac,hv⟩:=r1x24.shape;subst hv;obtain⟨bo,bc,hv⟩:=r2x25.shape;subst hv;clear q15 q12 b16 bb21 HQ c17 c18 c19;have hf:=afz (P:=Tryz.prog) q26 b27 (by omega) underlying25 rfl (by kernel_rfl) (.bool qn) (yT ao a ac) (yT bo b bc) (yi ex);have HH:Hid (_∧_∧_∧_):=⟨hf.1,hf.2.2.rd r1x24 (aX r1x24 q26 (by simp)),hf.2.2.rd r2x25 (aX r2x25 q26 (by simp)),hf.2.1⟩;obtain⟨⟨z0,z1,z2,z3⟩,y0,y1,y2,y3⟩:=afB q26;clear hf q26 r1x24 r2x25 b27
 go_wp2
 obtain⟨hl,rRa,rRb,bR⟩:=HH.out;exact bodyPost_ret (aj results9 rfl rfl hl) rfl ⟨_,_,rfl,rRa,rRb,bR⟩
theorem tparse_err (f n way er:Int)(tx:ByteArray)(w:World)(hf:(f==0)=false)(he: ¬er=0)
  (HF:yJ 38 #[yi n] (yi f))
  (HE:yH w 9 #[.string tx] (.tuple #[yrV false yN yN 0,yi er])):
  yC 13 #[yi n,.string tx,yi way] w (yR w (.tuple #[.string ⟨#[]⟩,yi 0,yi er])):=by
 replace HF:Hid _:=HF;replace HE:Hid _:=HE
 go_enter func13,ntmps13
 have b0:=Below.refl w.heap.size w
 go_wp2_with fail
 refine(HF.out _).mono ?_;rintro zz w1 ⟨rfl,bb2⟩;have b3:=aa b0 bb2;clear b0 bb2 HF
 go_wp2_with fail
 refine(HE.out _ b3).mono ?_;rintro zz w4 ⟨rfl,bb5⟩;have b6:=aa b3 bb5;clear b3 bb5 HE;obtain⟨W9,hW8,q10,al7⟩:=cA w4 (yrL false yN yN 0) 25;replace hW8:Hid _:=hW8;have hl11:w.heap.size≤w4.heap.size:=b6.size;have b12:=aa b6 al7;clear b6 al7 q10
 go_upto_region 4 with fail
 rw[hW8.out];clear hW8
 go_wp2
 go_ret3
 exact⟨rfl,b12⟩
theorem tparse_ok (f n way fl er ex:Int)(qn:Bool)(a b:Nat)(tx st:ByteArray)(w:World)(hf:(f==0)=false)
  (HF:yJ 38 #[yi n] (yi f))
  (HE: ∀w1,yB w w1→yC 9 #[.string tx] w1 (RtE w1 qn a b ex 0))
  (HA: ∀ao ac bo bc w1,yB w w1→Rd w1 .u32 (yT ao a ac) (Dg.dg 4294967296 a)→Rd w1 .u32 (yT bo b bc) (Dg.dg 4294967296 b)→yC 39 #[yi n,yrV qn (yT ao a ac) (yT bo b bc) ex,yi way] w1 (yR w1 (.tuple #[.string st,yi fl,yi er]))):
  yC 13 #[yi n,.string tx,yi way] w (yR w (.tuple #[.string st,yi fl,yi er])):=by
 replace HF:Hid _:=HF;replace HE:Hid _:=HE;replace HA:Hid _:=HA
 go_enter func13,ntmps13
 have b0:=Below.refl w.heap.size w
 go_wp2_with fail
 refine(HF.out _).mono ?_;rintro zz w1 ⟨rfl,bb2⟩;have b3:=aa b0 bb2;clear b0 bb2 HF
 go_wp2_with fail
 refine(HE.out _ b3).mono ?_;rintro zz w4 ⟨v1x6,v2x7,rfl,r1x8,r2x9,bb5⟩;have b10:=aa b3 bb5;obtain⟨ao,ac,hv⟩:=r1x8.shape;subst hv;obtain⟨bo,bc,hv⟩:=r2x9.shape;subst hv;clear b3 bb5 HE;obtain⟨W13,hW12,q14,al11⟩:=cA w4 (yrL qn (yT ao a ac) (yT bo b bc) ex) 25;replace hW12:Hid _:=hW12;have hl15:w.heap.size≤w4.heap.size:=b10.size;have r16:=r1x8.l al11;have r17:=r2x9.l al11;have b18:=aa b10 al11;clear r1x8 r2x9 b10 al11
 go_upto_region 4 with fail
 rw[hW12.out];clear hW12;obtain⟨c19,c20,c21,c22⟩:=q14.cs4
 go_wp2_with fail
 refine(HA.out _ _ _ _ _ b18 r16 r17).mono ?_;rintro zz w23 ⟨rfl,bb24⟩;have b25:=aa b18 bb24;clear q14 r16 r17 b18 bb24 HA c19 c20 c21 c22
 go_wp2
 go_ret3
 exact⟨rfl,b25⟩
theorem Xt (n:Int)(R sz ex:Nat)(D L G fam:Int)(gr:Bool)(F:Nat)(ng:Bool)(e f:Nat)(c:Int)(gg:Bool)(m:Nat)(p:Int)(s:ByteArray)(w:World)
  (HR:yJ 63 #[yi n,.string s] (.tuple #[ylV R D L G gr sz ex fam F,yfV ng e f,yi 0]))
  (HV: ∀w1,yC 64 #[ylV R D L G gr sz ex fam F,yfV ng e f] w1 (iT w1 c gg m p)):
  yC 26 #[yi n,.string s] w (eP w c gg m p 0):=by
 have hsf:=cD;have HR':Hid _:=HR;have HV':Hid _:=HV;have v0:=ah w (yvL 0 false yN 0) 66;have b0:=af w (.cells (yvA 0 false yN 0) 66);clear HR HV
 go_enter func26,ntmps26
 go_wp2_with fail
 refine(HR'.out _).mono ?_;rintro z w1 ⟨rfl,b1⟩;have bl:=af w1 (.cells (ylA R D L G gr sz ex fam F) 124);have bf:=af (w1.alloc (.cells (ylA R D L G gr sz ex fam F) 124)) (.cells (yfA ng e f) 127);have v2:=((v0.l b1).l bl).l bf;have b2:=aa (aa (aa b0 b1) bl) bf
 go_wp2_with fail
 refine(HV'.out _).mono ?_;rintro z w3 ⟨v,rfl,r3,b3⟩;obtain⟨vo,vc,hv⟩:=r3.shape;subst hv;have v3:=v2.l b3;have b03:=aa b2 b3;have ov:=cq r3 (Dg.norm_dg _ _ (by omega)) v3 (fun x hx n hn=>by simp at hx;rcases hx with rfl|rfl|rfl|rfl<;>simp)
 have bu:=(((ag w3 w.heap.size 0 (yi c)).trans (ag _ w.heap.size 1 (.bool gg))).trans (ag _ w.heap.size 2 (yT vo m vc))).trans (ag _ w.heap.size 3 (yi p));have cR:au ((((w3.setCell ⟨w.heap.size,0,none⟩ (yi c)).setCell ⟨w.heap.size,1,none⟩ (.bool gg)).setCell ⟨w.heap.size,2,none⟩ (yT vo m vc)).setCell ⟨w.heap.size,3,none⟩ (yi p)) w.heap.size 66 (yvL c gg (yT vo m vc) p):=((((v3.set 0 (yi c)).set 1 (.bool gg)).set 2 (yT vo m vc)).set 3 (yi p));have bR:=bu.below b03 (Nat.le_refl _);have rR:=bu.rd r3 ov;have hl:=run_loadVar_mid (P:=Tryz.prog) _ w.heap.size 0 66 (yvL c gg (yT vo m vc) p) _ cR.range underlying66 rfl (by kernel_rfl);have HH:Hid (_∧_∧_):=⟨hl,rR,bR⟩;obtain⟨x0,x1,x2,x3⟩:=v3.cs4;have j0:=v3.f 0;have j1:=v3.f 1;have j2:=v3.f 2;have j3:=v3.f 3;clear hl bR rR cR bu ov v3 b03 r3 b3 v2 b2 bl bf b1 v0 b0
 go_wp2
 obtain⟨hl,rR,bR⟩:=HH.out;exact bodyPost_ret (aj results26 rfl rfl hl) rfl ⟨_,rfl,rR,bR⟩
theorem Pk (n:Int)(er:Int)(her:er≠0)(s:ByteArray)(w:World)
  (HR:yJ 63 #[yi n,.string s] (.tuple #[yzV 0 0 0 0 false 0 0 0,yfV false 0 0,yi er])):
  yC 26 #[yi n,.string s] w (eP w 0 false 0 0 er):=by
 have hsn:=gn;have HR':Hid _:=HR;have v0:=ah w (yvL 0 false yN 0) 66;have b0:=af w (.cells (yvA 0 false yN 0) 66);have he:(er==0)=false:=by simpa using her
 clear HR her
 go_enter func26,ntmps26
 go_wp2_with fail
 refine(HR'.out _).mono ?_;rintro z w1 ⟨rfl,b1⟩;have bl:=af w1 (.cells (yzA 0 0 0 0 false 0 0 0) 124);have bf:=af (w1.alloc (.cells (yzA 0 0 0 0 false 0 0 0) 124)) (.cells (yfA false 0 0) 127);have v2:=((v0.l b1).l bl).l bf;have b2:=aa (aa (aa b0 b1) bl) bf;have bu:=(((ag ((w1.alloc (.cells (yzA 0 0 0 0 false 0 0 0) 124)).alloc (.cells (yfA false 0 0) 127)) w.heap.size 0 (yi 0)).trans (ag _ w.heap.size 1 (.bool false))).trans (ag _ w.heap.size 2 yN)).trans (ag _ w.heap.size 3 (yi 0));have cR:au ((((((w1.alloc (.cells (yzA 0 0 0 0 false 0 0 0) 124)).alloc (.cells (yfA false 0 0) 127)).setCell ⟨w.heap.size,0,none⟩ (yi 0)).setCell ⟨w.heap.size,1,none⟩ (.bool false)).setCell ⟨w.heap.size,2,none⟩ yN).setCell ⟨w.heap.size,3,none⟩ (yi 0)) w.heap.size 66 (yvL 0 false yN 0):=((((v2.set 0 (yi 0)).set 1 (.bool false)).set 2 yN).set 3 (yi 0));have bR:=bu.below b2 (Nat.le_refl _);have hl:=run_loadVar_mid (P:=Tryz.prog) _ w.heap.size 0 66 (yvL 0 false yN 0) _ cR.range underlying66 rfl (by kernel_rfl);have HH:Hid (_∧_):=⟨hl,bR⟩;have hnA:w1.heap.size≠w.heap.size:=Nat.ne_of_gt (v0.l b1).lt;have hnB:w1.heap.size+1≠w.heap.size:=by have:=(v0.l b1).lt;omega
 obtain⟨x0,x1,x2,x3⟩:=v2.cs4;have j0:=v2.f 0;have j1:=v2.f 1;have j2:=v2.f 2;have j3:=v2.f 3;clear hl bR cR bu v2 b2 bl bf b1 v0 b0
 go_wp2
 obtain⟨hl,bR⟩:=HH.out;exact bodyPost_ret (aj results26 rfl rfl hl) rfl ⟨_,rfl,aN _ _,bR⟩
theorem IY (R D L G c p er:Int)(gr ng:Bool)(ao:Option Addr)(la ca:Nat)(t:ak)(w:World)
  (HN: ∀w1,yB w w1→yC 133 #[ypV ng (.slice ao la ca) p false false false,ygV R D L G gr] w1 (gR w1 (t,er))):
  yC 93 #[yvV c ng (.slice ao la ca) p,ygV R D L G gr] w (acy w t):=by
 replace HN:Hid _:=HN;have bv:=af w (.cells (yvA c ng (.slice ao la ca) p) 66);have bg:=af (w.alloc (.cells (yvA c ng (.slice ao la ca) p) 66)) (.cells (ygA R D L G gr) 40);have bx:=af ((w.alloc (.cells (yvA c ng (.slice ao la ca) p) 66)).alloc (.cells (ygA R D L G gr) 40)) (.cells (ydA false yN 0) 95);have v0:=((ah w (yvL c ng (.slice ao la ca) p) 66).l bg).l bx;have g0:=(ah (w.alloc (.cells (yvA c ng (.slice ao la ca) p) 66)) (ygL R D L G gr) 40).l bx;have x0:=ah ((w.alloc (.cells (yvA c ng (.slice ao la ca) p) 66)).alloc (.cells (ygA R D L G gr) 40)) (ydL false yN 0) 95;have b0:=aa (aa bv bg) bx;rw[World.size_alloc] at g0;rw[World.size_alloc,World.size_alloc] at x0;clear bv bg bx
 go_enter func93,ntmps93
 go_upto_region 1 with fail
 generalize((w.alloc (.cells (yvA c ng (.slice ao la ca) p) 66)).alloc (.cells (ygA R D L G gr) 40)).alloc (.cells (ydA false yN 0) 95)=W0 at v0 g0 x0 b0⊢;obtain⟨a0,a1,a2,a3⟩:=v0.cs4;obtain⟨y0,y1,y2,y3,y4⟩:=g0.cs5
 go_wp2_with fail
 refine(HN.out _ b0).mono ?_;rintro z w1 ⟨sv,rfl,o1,b1⟩;obtain⟨so,sc,hv⟩:=o1.rd.shape;subst hv;have r1:=o1.rd;have fa:Far w.heap.size (yT so t.n sc):=fun a n c hv=>Nat.le_trans b0.size (JH o1 a n c hv)
 simp only at r1⊢;clear o1 HN a0 a1 a2 a3 y0 y1 y2 y3 y4 v0 g0;have bl:=af w1 (.cells (yDA t so sc) 95);have q1:=ah w1 (yDL t so sc) 95;have r2:=r1.l bl;have x2:=(x0.l b1).l bl;have b02:=aa (aa b0 b1) bl;have hlt:w.heap.size+1+1<w1.heap.size:=(x0.l b1).lt
 go_upto_region 2 with fail
 generalize w1.alloc (.cells (yDA t so sc) 95)=W1 at q1 r2 x2 b02⊢;generalize w1.heap.size=PQ at q1 hlt⊢;have cR:au (((W1.setCell ⟨w.heap.size+1+1,0,none⟩ (.bool t.s)).setCell ⟨w.heap.size+1+1,1,none⟩ (yT so t.n sc)).setCell ⟨w.heap.size+1+1,2,none⟩ (yi t.e)) (w.heap.size+1+1) 95 (yDL t so sc):=(((x2.set 0 (.bool t.s)).set 1 (yT so t.n sc)).set 2 (yi t.e));have bu:=((ag W1 (w.heap.size+1+1) 0 (.bool t.s)).trans (ag _ (w.heap.size+1+1) 1 (yT so t.n sc))).trans (ag _ (w.heap.size+1+1) 2 (yi t.e));have bR:=bu.below b02 (by omega);have rR:=bu.rd r2 (aX r2 x2 (by simp));have hl:=run_loadVar_mid (P:=Tryz.prog) _ (w.heap.size+1+1) 0 95 (yDL t so sc) _ cR.range underlying95 rfl (by kernel_rfl);have HH:Hid (_∧_∧_):=⟨hl,rR,bR⟩;obtain⟨u0,u1,u2⟩:=x2.cs3;have f0:=x2.f 0;have f1:=x2.f 1;have f2:=x2.f 2;obtain⟨y0,y1,y2⟩:=q1.cs3;clear hl bR rR bu cR b02 r2 r1 b1 bl b0 x0 x2 q1
 go_wp2
 obtain⟨hl,rR,bR⟩:=HH.out;exact bodyPost_ret (br results93 rfl hl) rfl ⟨_,rfl,rR,fa,bR⟩
theorem tPrint_err (er:Int)(n k c p:Int)(g:Bool)(M:Nat)(x:ak)(s:ByteArray)(w:World)(he: ¬er=0)
  (HR: ∀w1,yB w w1→yC 44 #[yi n,.string s] w1 (Ys w1 c g M p x er)):
  yC 19 #[yi n,.string s,yi k] w (yR w (.tuple #[.string ⟨#[]⟩,yi er])):=by
 replace HR:Hid _:=HR
 go_enter func19,ntmps19
 have b0:=Below.refl w.heap.size w
 go_wp2_with fail
 refine(HR.out _ b0).mono ?_;rintro zz w1 ⟨v1x3,v2x4,rfl,r1x5,r2x6,-,bb2⟩;have b7:=aa b0 bb2;obtain⟨vo,vc,hv⟩:=r1x5.shape;subst hv;obtain⟨xo,xc,hv⟩:=r2x6.shape;subst hv;clear b0 bb2 HR;obtain⟨W10,hW9,q11,q12,al8⟩:=iG w1 (yvL c g (yT vo M vc) p) 66 (yDL x xo xc) 95;replace hW9:Hid _:=hW9;have hl13:w.heap.size≤w1.heap.size:=b7.size;have b14:=aa b7 al8;clear r1x5 r2x6 b7 al8 q11 q12
 go_upto_region 2 with fail
 rw[hW9.out];clear hW9
 go_wp2
 go_ret2
 exact⟨rfl,b14⟩
theorem tPrint_low (n k c p:Int)(g:Bool)(M:Nat)(x:ak)(s:ByteArray)(w:World)(h1:k<1)
  (HR: ∀w1,yB w w1→yC 44 #[yi n,.string s] w1 (Ys w1 c g M p x 0)):
  yC 19 #[yi n,.string s,yi k] w (yR w (.tuple #[.string ⟨#[]⟩,yi 3])):=by
 replace HR:Hid _:=HR
 go_enter func19,ntmps19
 have b0:=Below.refl w.heap.size w
 go_wp2_with fail
 refine(HR.out _ b0).mono ?_;rintro zz w1 ⟨v1x3,v2x4,rfl,r1x5,r2x6,-,bb2⟩;have b7:=aa b0 bb2;obtain⟨vo,vc,hv⟩:=r1x5.shape;subst hv;obtain⟨xo,xc,hv⟩:=r2x6.shape;subst hv;clear b0 bb2 HR;obtain⟨W10,hW9,q11,q12,al8⟩:=iG w1 (yvL c g (yT vo M vc) p) 66 (yDL x xo xc) 95;replace hW9:Hid _:=hW9;have hl13:w.heap.size≤w1.heap.size:=b7.size;have b14:=aa b7 al8;clear r1x5 r2x6 b7 al8 q11 q12
 go_upto_region 2 with fail
 rw[hW9.out];clear hW9
 go_wp2
 go_ret2
 exact⟨rfl,b14⟩
theorem tPrint_high (n k c p:Int)(g:Bool)(M:Nat)(x:ak)(s:ByteArray)(w:World)(h1: ¬k<1)(h2:60<k)
  (HR: ∀w1,yB w w1→yC 44 #[yi n,.string s] w1 (Ys w1 c g M p x 0)):
  yC 19 #[yi n,.string s,yi k] w (yR w (.tuple #[.string ⟨#[]⟩,yi 3])):=by
 replace HR:Hid _:=HR
 go_enter func19,ntmps19
 have b0:=Below.refl w.heap.size w
 go_wp2_with fail
 refine(HR.out _ b0).mono ?_;rintro zz w1 ⟨v1x3,v2x4,rfl,r1x5,r2x6,-,bb2⟩;have b7:=aa b0 bb2;obtain⟨vo,vc,hv⟩:=r1x5.shape;subst hv;obtain⟨xo,xc,hv⟩:=r2x6.shape;subst hv;clear b0 bb2 HR;obtain⟨W10,hW9,q11,q12,al8⟩:=iG w1 (yvL c g (yT vo M vc) p) 66 (yDL x xo xc) 95;replace hW9:Hid _:=hW9;have hl13:w.heap.size≤w1.heap.size:=b7.size;have b14:=aa b7 al8;clear r1x5 r2x6 b7 al8 q11 q12
 go_upto_region 2 with fail
 rw[hW9.out];clear hW9
 go_wp2
 go_ret2
 exact⟨rfl,b14⟩
theorem tPrint_word (wd:ByteArray)(n k c p:Int)(g:Bool)(M:Nat)(x:ak)(s:ByteArray)(w:World)(h1: ¬k<1)(h2: ¬60<k)
  (HR: ∀w1,yB w w1→yC 44 #[yi n,.string s] w1 (Ys w1 c g M p x 0))
  (HW: ∀vo vc w1,yC 45 #[yvV c g (yT vo M vc) p] w1 (yR w1 (.tuple #[.string wd,.bool true]))):
  yC 19 #[yi n,.string s,yi k] w (yR w (.tuple #[.string wd,yi 0])):=by
 replace HR:Hid _:=HR;replace HW:Hid _:=HW
 go_enter func19,ntmps19
 have b0:=Below.refl w.heap.size w
 go_wp2_with fail
 refine(HR.out _ b0).mono ?_;rintro zz w1 ⟨v1x3,v2x4,rfl,r1x5,r2x6,-,bb2⟩;have b7:=aa b0 bb2;obtain⟨vo,vc,hv⟩:=r1x5.shape;subst hv;obtain⟨xo,xc,hv⟩:=r2x6.shape;subst hv;clear b0 bb2 HR;obtain⟨W10,hW9,q11,q12,al8⟩:=iG w1 (yvL c g (yT vo M vc) p) 66 (yDL x xo xc) 95;replace hW9:Hid _:=hW9;have hl13:w.heap.size≤w1.heap.size:=b7.size;have b14:=aa b7 al8;clear r1x5 r2x6 b7 al8 q12
 go_upto_region 2 with fail
 rw[hW9.out];clear hW9;obtain⟨c15,c16,c17,c18⟩:=q11.cs4
 go_wp2_with fail
 refine(HW.out _ _ _).mono ?_;rintro zz w19 ⟨rfl,bb20⟩;have b21:=aa b14 bb20;clear q11 b14 bb20 HW c15 c16 c17 c18
 go_wp2
 go_ret2
 exact⟨rfl,b21⟩
theorem tPrint_num (wd pr:ByteArray)(dg:Bool)(hv:Nat)(cn pw:Int)(n k c p:Int)(g:Bool)(M:Nat)(x:ak)(s:ByteArray)(w:World)(h1: ¬k<1)(h2: ¬60<k)
  (HR: ∀w1,yB w w1→yC 44 #[yi n,.string s] w1 (Ys w1 c g M p x 0))
  (HW: ∀vo vc w1,yC 45 #[yvV c g (yT vo M vc) p] w1 (yR w1 (.tuple #[.string wd,.bool false])))
  (HD: ∀xo xc w1,yB w w1→Rd w1 .u32 (yT xo x.n xc) (Dg.dg 4294967296 x.n)→yC 46 #[yDV x xo xc] w1 (DcR w1 dg hv cn pw))
  (HP: ∀ho hc w1,yB w w1→Rd w1 .u32 (yT ho hv hc) (Dg.dg 4294967296 hv)→yC 47 #[.agg #[.bool dg,yT ho hv hc,yi cn,yi pw],yi k] w1 (yR w1 (.string pr))):
  yC 19 #[yi n,.string s,yi k] w (yR w (.tuple #[.string pr,yi 0])):=by
 replace HR:Hid _:=HR;replace HW:Hid _:=HW;replace HD:Hid _:=HD;replace HP:Hid _:=HP
 go_enter func19,ntmps19
 have b0:=Below.refl w.heap.size w
 go_wp2_with fail
 refine(HR.out _ b0).mono ?_;rintro zz w1 ⟨v1x3,v2x4,rfl,r1x5,r2x6,-,bb2⟩;have b7:=aa b0 bb2;obtain⟨vo,vc,hv⟩:=r1x5.shape;subst hv;obtain⟨xo,xc,hv⟩:=r2x6.shape;subst hv;clear b0 bb2 HR;obtain⟨W10,hW9,q11,q12,al8⟩:=iG w1 (yvL c g (yT vo M vc) p) 66 (yDL x xo xc) 95;replace hW9:Hid _:=hW9;have hl13:w.heap.size≤w1.heap.size:=b7.size;have r14:=r2x6.l al8;have b15:=aa b7 al8;clear r1x5 r2x6 b7 al8
 go_upto_region 2 with fail
 rw[hW9.out];clear hW9;obtain⟨c16,c17,c18,c19⟩:=q11.cs4
 go_wp2_with fail
 refine(HW.out _ _ _).mono ?_;rintro zz w20 ⟨rfl,bb21⟩;have q22:=q12.l bb21;have r23:=r14.l bb21;have b24:=aa b15 bb21;clear q11 q12 r14 b15 bb21 HW c16 c17 c18 c19;obtain⟨c25,c26,c27⟩:=q22.cs3
 go_wp2_with fail
 refine(HD.out _ _ _ b24 r23).mono ?_;rintro zz w28 ⟨v1x30,rfl,r1x31,bb29⟩;have b32:=aa b24 bb29;obtain⟨ho,hc,hv⟩:=r1x31.shape;subst hv;clear q22 r23 b24 bb29 HD c25 c26 c27
 go_wp2_with fail
 refine(HP.out _ _ _ b32 r1x31).mono ?_;rintro zz w33 ⟨rfl,bb34⟩;have b35:=aa b32 bb34;clear r1x31 b32 bb34 HP
 go_wp2
 go_ret2
 exact⟨rfl,b35⟩
theorem tShort_err (er:Int)(n c p:Int)(g:Bool)(M:Nat)(x:ak)(s:ByteArray)(w:World)(he: ¬er=0)
  (HR: ∀w1,yB w w1→yC 44 #[yi n,.string s] w1 (Ys w1 c g M p x er)):
  yC 23 #[yi n,.string s] w (yR w (.tuple #[.string ⟨#[]⟩,yi er])):=by
 replace HR:Hid _:=HR
 go_enter func23,ntmps23
 have b0:=Below.refl w.heap.size w
 go_wp2_with fail
 refine(HR.out _ b0).mono ?_;rintro zz w1 ⟨v1x3,v2x4,rfl,r1x5,r2x6,-,bb2⟩;have b7:=aa b0 bb2;obtain⟨vo,vc,hv⟩:=r1x5.shape;subst hv;obtain⟨xo,xc,hv⟩:=r2x6.shape;subst hv;clear b0 bb2 HR;obtain⟨W10,hW9,q11,q12,al8⟩:=iG w1 (yvL c g (yT vo M vc) p) 66 (yDL x xo xc) 95;replace hW9:Hid _:=hW9;have hl13:w.heap.size≤w1.heap.size:=b7.size;have b14:=aa b7 al8;clear r1x5 r2x6 b7 al8 q11 q12
 go_upto_region 2 with fail
 rw[hW9.out];clear hW9
 go_wp2
 go_ret2
 exact⟨rfl,b14⟩
theorem tShort_word (wd:ByteArray)(n c p:Int)(g:Bool)(M:Nat)(x:ak)(s:ByteArray)(w:World)
  (HR: ∀w1,yB w w1→yC 44 #[yi n,.string s] w1 (Ys w1 c g M p x 0))
  (HW: ∀vo vc w1,yC 45 #[yvV c g (yT vo M vc) p] w1 (yR w1 (.tuple #[.string wd,.bool true]))):
  yC 23 #[yi n,.string s] w (yR w (.tuple #[.string wd,yi 0])):=by
 replace HR:Hid _:=HR;replace HW:Hid _:=HW
 go_enter func23,ntmps23
 have b0:=Below.refl w.heap.size w
 go_wp2_with fail
 refine(HR.out _ b0).mono ?_;rintro zz w1 ⟨v1x3,v2x4,rfl,r1x5,r2x6,-,bb2⟩;have b7:=aa b0 bb2;obtain⟨vo,vc,hv⟩:=r1x5.shape;subst hv;obtain⟨xo,xc,hv⟩:=r2x6.shape;subst hv;clear b0 bb2 HR;obtain⟨W10,hW9,q11,q12,al8⟩:=iG w1 (yvL c g (yT vo M vc) p) 66 (yDL x xo xc) 95;replace hW9:Hid _:=hW9;have hl13:w.heap.size≤w1.heap.size:=b7.size;have b14:=aa b7 al8;clear r1x5 r2x6 b7 al8 q12
 go_upto_region 2 with fail
 rw[hW9.out];clear hW9;obtain⟨c15,c16,c17,c18⟩:=q11.cs4
 go_wp2_with fail
 refine(HW.out _ _ _).mono ?_;rintro zz w19 ⟨rfl,bb20⟩;have b21:=aa b14 bb20;clear q11 b14 bb20 HW c15 c16 c17 c18
 go_wp2
 go_ret2
 exact⟨rfl,b21⟩
theorem tShort_enc (er:Int)(wd md:ByteArray)(n c p:Int)(g:Bool)(M:Nat)(x:ak)(s:ByteArray)(w:World)(he: ¬er=0)
  (HR: ∀w1,yB w w1→yC 44 #[yi n,.string s] w1 (Ys w1 c g M p x 0))
  (HW: ∀vo vc w1,yC 45 #[yvV c g (yT vo M vc) p] w1 (yR w1 (.tuple #[.string wd,.bool false])))
  (HE: ∀vo vc w1,yB w w1→Rd w1 .u32 (yT vo M vc) (Dg.dg 4294967296 M)→yC 58 #[yi n,yvV c g (yT vo M vc) p] w1 (yR w1 (.tuple #[.string md,yi er]))):
  yC 23 #[yi n,.string s] w (yR w (.tuple #[.string ⟨#[]⟩,yi er])):=by
 replace HR:Hid _:=HR;replace HW:Hid _:=HW;replace HE:Hid _:=HE
 go_enter func23,ntmps23
 have b0:=Below.refl w.heap.size w
 go_wp2_with fail
 refine(HR.out _ b0).mono ?_;rintro zz w1 ⟨v1x3,v2x4,rfl,r1x5,r2x6,-,bb2⟩;have b7:=aa b0 bb2;obtain⟨vo,vc,hv⟩:=r1x5.shape;subst hv;obtain⟨xo,xc,hv⟩:=r2x6.shape;subst hv;clear b0 bb2 HR;obtain⟨W10,hW9,q11,q12,al8⟩:=iG w1 (yvL c g (yT vo M vc) p) 66 (yDL x xo xc) 95;replace hW9:Hid _:=hW9;have hl13:w.heap.size≤w1.heap.size:=b7.size;have r14:=r1x5.l al8;have b15:=aa b7 al8;clear r1x5 r2x6 b7 al8 q12
 go_upto_region 2 with fail
 rw[hW9.out];clear hW9;obtain⟨c16,c17,c18,c19⟩:=q11.cs4
 go_wp2_with fail
 refine(HW.out _ _ _).mono ?_;rintro zz w20 ⟨rfl,bb21⟩;have q22:=q11.l bb21;have r23:=r14.l bb21;have b24:=aa b15 bb21;clear q11 r14 b15 bb21 HW c16 c17 c18 c19;obtain⟨c25,c26,c27,c28⟩:=q22.cs4
 go_wp2_with fail
 refine(HE.out _ _ _ b24 r23).mono ?_;rintro zz w29 ⟨rfl,bb30⟩;have b31:=aa b24 bb30;clear q22 r23 b24 bb30 HE c25 c26 c27 c28
 go_wp2
 go_ret2
 exact⟨rfl,b31⟩
theorem qR (R D L G:Int)(gr s:Bool)(ao:Option Addr)(ca:Nat)(xs:List Nat)(e:Int)(w:World)(hr:Rd w .u32 (.slice ao xs.length ca) xs)(sa:Dg.Small 4294967296 xs)(hT:Tab w):
  yC 146 #[ydV s (.slice ao xs.length ca) e,ygV R D L G gr] w (yR w (.tuple #[.bool (um xs e R D L G gr),yi (onC (aS xs e) (bk R D L G))])):=
 aa8 R D L G gr s ao _ ca e _ _ _ _ w (fun w1 b=>Ja R D L G gr s ao ca xs e w1 (hr.l b) sa (hT.l b))
theorem OU (n wy fam R D L G pw:Int)(gr ng ex:Bool)(ao:Option Addr)(la ca:Nat)(w:World)(hlt:pw<L):
  yC 83 #[ykV n wy fam R D L G gr,ypV ng (.slice ao la ca) pw ex false true] w (B6 w 1 false 0 0 3):=by
 have a1:=af w (.cells (ykA n wy fam R D L G gr) 147);have a2:=af (w.alloc (.cells (ykA n wy fam R D L G gr) 147)) (.cells (ypA ng (.slice ao la ca) pw ex false true) 151);have a3:=af ((w.alloc (.cells (ykA n wy fam R D L G gr) 147)).alloc (.cells (ypA ng (.slice ao la ca) pw ex false true) 151)) (.cells (yvA 0 false yN 0) 66);have d0:=((ah w (ykL n wy fam R D L G gr) 147).l a2).l a3;have p0:=(ah (w.alloc (.cells (ykA n wy fam R D L G gr) 147)) (ypL ng (.slice ao la ca) pw ex false true) 151).l a3;have v0:=ah ((w.alloc (.cells (ykA n wy fam R D L G gr) 147)).alloc (.cells (ypA ng (.slice ao la ca) pw ex false true) 151)) (yvL 0 false yN 0) 66;rw[World.size_alloc] at p0;rw[World.size_alloc,World.size_alloc] at v0;have b0:=aa (aa a1 a2) a3;clear a1 a2 a3
 go_enter func83,ntmps83
 go_upto_block 0 with fail
 generalize((w.alloc (.cells (ykA n wy fam R D L G gr) 147)).alloc (.cells (ypA ng (.slice ao la ca) pw ex false true) 151)).alloc (.cells (yvA 0 false yN 0) 66)=W0 at d0 p0 v0 b0⊢;obtain⟨x0,x1,x2,x3,x4,x5⟩:=p0.cs6;have y5:=d0.c 5 rfl;have cR:au ((((W0.setCell ⟨w.heap.size+1+1,0,none⟩ (yi 1)).setCell ⟨w.heap.size+1+1,1,none⟩ (.bool false)).setCell ⟨w.heap.size+1+1,2,none⟩ yN).setCell ⟨w.heap.size+1+1,3,none⟩ (yi 0)) (w.heap.size+1+1) 66 (yvL 1 false yN 0):=((((v0.set 0 (yi 1)).set 1 (.bool false)).set 2 yN).set 3 (yi 0));have bu:=(((ag W0 (w.heap.size+1+1) 0 (yi 1)).trans (ag _ (w.heap.size+1+1) 1 (.bool false))).trans (ag _ (w.heap.size+1+1) 2 yN)).trans (ag _ (w.heap.size+1+1) 3 (yi 0));have bR:=bu.below b0 (by omega);have hl:=run_loadVar_mid (P:=Tryz.prog) _ (w.heap.size+1+1) 0 66 (yvL 1 false yN 0) _ cR.range underlying66 rfl (by kernel_rfl);have HH:Hid (_∧_):=⟨hl,bR⟩;obtain⟨z0,z1,z2,z3⟩:=v0.cs4;have fz0:=v0.f 0;have fz1:=v0.f 1;have fz2:=v0.f 2;have fz3:=v0.f 3;clear hl bR bu cR;clear v0 b0 d0 p0
 go_wp2
 obtain⟨hl,bR⟩:=HH.out;exact bodyPost_ret (aj results83 rfl rfl hl) rfl ⟨_,rfl,aN _ _,bR⟩
theorem sF.off {w w':World}{n:Int}{ps:List ByteArray}{g cap b:Nat}{ty:TypeId}{vs:List Value}(h:sF w n ps g cap)(bu:But b w w')(hl:au w b ty vs)(hu: ∀x∈vs,∀k:Int,x≠ .int .u32 k)(hg:g≠b):sF w' n ps g cap:=
 ⟨h.fit,h.most,fun i p hp=>by
  obtain⟨so,sc,h1,h2⟩:=h.each i p hp;exact⟨so,sc,fun j v hj=>by rw[bu.c (by exact hg)];exact h1 j v hj,bu.rd h2 (aX h2 hl hu)⟩⟩
theorem ZB6.off {w w':World}{q b:Nat}(h:ZB6 w q)(hg:w.grownBy w' (some b))(hne:q≠b):ZB6 w' q:=by
 obtain⟨hl,ty,hh⟩:=h;exact⟨Nat.lt_of_lt_of_le hl hg.size,ty,(hg.block q hl (by intro e;cases e;exact hne rfl)).trans hh⟩
def wdS (c:Int)(g:Bool):ByteArray:=if g=true then(wdV c).2.1 else(wdV c).1
theorem wordOf_any (c p:Int)(g:Bool)(vo:Option Addr)(vl vc:Nat)(w:World):yC 45 #[yvV c g (.slice vo vl vc) p] w (yR w (.tuple #[.string (wdS c g),.bool (wdV c).2.2])):=by
 unfold wdS
 cases g
 ·rw[if_neg (by decide)]
  exact tword_f c p vo vl vc _ _ _ w (fun w1=>twords_any w1) (fun wq mr hm=>look_any c wq mr hm)
 ·rw[if_pos rfl]
  exact tword_t c p vo vl vc _ _ _ w (fun w1=>twords_any w1) (fun wq mr hm=>look_any c wq mr hm)
theorem word_no {c:Nat}(h1:1≤c)(h2:c≤5)(h:(wdV c).2.2=false):c=2:=by
 obtain rfl|rfl|rfl|rfl|rfl:c=1∨c=2∨c=3∨c=4∨c=5:=by omega
 all_goals first
  |rfl
  |exact absurd h (by decide)
def ptV (n:Int)(s:ByteArray)(k:Int):ByteArray×Int:=
 if dF n s≠0 then(⟨#[]⟩,dF n s) else if k<1∨60<k then(⟨#[]⟩,3) else
  if(wdV ((bM n s:Nat):Int)).2.2=true then(wdS ((bM n s:Nat):Int) (dz n s),0) else(ptS n s k.toNat,0)
theorem num_of {n:Int}{s:ByteArray}(hp:dF n s=0)(hw:(wdV ((bM n s:Nat):Int)).2.2=false):(opT n s).n<2^64∧ -16500≤(opT n s).e∧(opT n s).e≤16500∧(opT n s).n≠0:=by
 have hf:dK n≠0:=fun hf=>by
  unfold dF at hp;rw[if_pos hf] at hp;omega
 obtain⟨k1,k2,k3⟩:=fF hf;obtain⟨k,rfl⟩: ∃i:Nat,n=(i:Int):=⟨n.toNat,k3.symm⟩;rw[Int.toNat_natCast] at k1 k2;obtain⟨c1,c2⟩:=zl hp;obtain⟨⟨s1,s2,s3⟩,-,n2⟩:=ir ⟨k1,k2⟩ hp;exact⟨s1,s2,s3,n2 (word_no c1 c2 hw)⟩
end Go.Proofs.YtpgijbdgljkeeaaGreatDoor

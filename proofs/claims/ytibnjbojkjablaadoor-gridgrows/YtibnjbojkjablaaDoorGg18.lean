/-
  Texts laid together: Gg9, Gg10.
-/
import Derived.Test.YtibnjbojkjablaaDoorGg17
set_option maxRecDepth 100000
set_option maxHeartbeats 12800000
namespace Go.Proofs.YtibnjbojkjablaaDoor
open Go.RowKit
theorem Pa (qs:Bool)(ao:Option Addr)(la ca:Nat)(bo:Option Addr)(lb cb:Nat)(E:Int)(rs:Bool)(no:Option Addr)(nl nc:Nat)(mo:Option Addr)(ml mc:Nat)(F R D L G:Int)(gr:Bool)(way:Int)(oka okb:Bool)(xs:Bool)(xn:Nat)(xe:Int)(ys:Bool)(yn:Nat)(ye:Int)(N1 M1 N2 M2:Nat)(A1 A2 A3 A4:ak)(ps:Bool)(pn:Nat)(pe:Int)(us:Bool)(un:Nat)(ue c more:Int)(w:World)
  (HBG:yJ 4 #[] (.bool true))
  (HRA: ∀w1,yB w w1→yC 5 #[yrV qs (.slice ao la ca) (.slice bo lb cb) E,ygV R D L G gr,yi way] w1 (tH w1 ⟨xs,xn,xe⟩ oka))
  (HRB: ∀w1,yB w w1→yC 5 #[yrV rs (.slice no nl nc) (.slice mo ml mc) F,ygV R D L G gr,yi way] w1 (tH w1 ⟨ys,yn,ye⟩ okb))
  (HO1:oka=true→ ∀w1,yB w w1→yC 8 #[.slice ao la ca] w1 (cG w1 N1))
  (HO2:okb=true→ ∀w1,yB w w1→yC 8 #[.slice mo ml mc] w1 (cG w1 M2))
  (HO3:okb=true→ ∀w1,yB w w1→yC 8 #[.slice no nl nc] w1 (cG w1 N2))
  (HO4:oka=true→ ∀w1,yB w w1→yC 8 #[.slice bo lb cb] w1 (cG w1 M1))
  (HB1:oka=true→ ∀o k w1,Rd w1 .i64 (.slice o (Dg.dg 65536 N1).length k) (Dg.dg 65536 N1)→yC 7 #[ydV qs (.slice o (Dg.dg 65536 N1).length k) E] w1 (dr w1 A1))
  (HB2:okb=true→ ∀o k w1,Rd w1 .i64 (.slice o (Dg.dg 65536 M2).length k) (Dg.dg 65536 M2)→yC 7 #[ydV false (.slice o (Dg.dg 65536 M2).length k) 0] w1 (dr w1 A2))
  (HB3:okb=true→ ∀o k w1,Rd w1 .i64 (.slice o (Dg.dg 65536 N2).length k) (Dg.dg 65536 N2)→yC 7 #[ydV rs (.slice o (Dg.dg 65536 N2).length k) F] w1 (dr w1 A3))
  (HB4:oka=true→ ∀o k w1,Rd w1 .i64 (.slice o (Dg.dg 65536 M1).length k) (Dg.dg 65536 M1)→yC 7 #[ydV false (.slice o (Dg.dg 65536 M1).length k) 0] w1 (dr w1 A4))
  (HT:oka=true→okb=true→ ∀o k o' k' w1,Rd w1 .i64 (.slice o (Dg.dg 65536 A1.n).length k) (Dg.dg 65536 A1.n)→Rd w1 .i64 (.slice o' (Dg.dg 65536 A2.n).length k') (Dg.dg 65536 A2.n)→yC 6 #[ydV A1.s (.slice o (Dg.dg 65536 A1.n).length k) A1.e,ydV A2.s (.slice o' (Dg.dg 65536 A2.n).length k') A2.e] w1 (dr w1 ⟨ps,pn,pe⟩))
  (HU:oka=true→okb=true→ ∀o k o' k' w1,Rd w1 .i64 (.slice o (Dg.dg 65536 A3.n).length k) (Dg.dg 65536 A3.n)→Rd w1 .i64 (.slice o' (Dg.dg 65536 A4.n).length k') (Dg.dg 65536 A4.n)→yC 6 #[ydV A3.s (.slice o (Dg.dg 65536 A3.n).length k) A3.e,ydV A4.s (.slice o' (Dg.dg 65536 A4.n).length k') A4.e] w1 (dr w1 ⟨us,un,ue⟩))
  (HC:oka=true→okb=true→ ∀o k o' k' w1,Rd w1 .u32 (.slice o (Dg.dg 4294967296 xn).length k) (Dg.dg 4294967296 xn)→Rd w1 .u32 (.slice o' (Dg.dg 4294967296 yn).length k') (Dg.dg 4294967296 yn)→yC 9 #[ydV xs (.slice o (Dg.dg 4294967296 xn).length k) xe,ydV ys (.slice o' (Dg.dg 4294967296 yn).length k') ye] w1 (yR w1 (.tuple #[yi c,yi 0])))
  (HM:oka=true→okb=true→ ∀o k o' k' w1,Rd w1 .i64 (.slice o (Dg.dg 65536 pn).length k) (Dg.dg 65536 pn)→Rd w1 .i64 (.slice o' (Dg.dg 65536 un).length k') (Dg.dg 65536 un)→yC 10 #[ydV ps (.slice o (Dg.dg 65536 pn).length k) pe,ydV us (.slice o' (Dg.dg 65536 un).length k') ue] w1 (yR w1 (yi more)))
  (HE:oka=true→okb=true→(more<0∧c≤0)∨(0<more∧0≤c)∨(more=0∧c=0)):
  yC 3 #[yrV qs (.slice ao la ca) (.slice bo lb cb) E,yrV rs (.slice no nl nc) (.slice mo ml mc) F,ygV R D L G gr,yi way] w (yR w (.bool true)):=by
 replace HBG:Hid _:=HBG;replace HRA:Hid _:=HRA;replace HRB:Hid _:=HRB;replace HO1:Hid _:=HO1;replace HO2:Hid _:=HO2;replace HO3:Hid _:=HO3;replace HO4:Hid _:=HO4;replace HB1:Hid _:=HB1;replace HB2:Hid _:=HB2;replace HB3:Hid _:=HB3;replace HB4:Hid _:=HB4;replace HT:Hid _:=HT;replace HU:Hid _:=HU;replace HC:Hid _:=HC;replace HM:Hid _:=HM;replace HE:Hid _:=HE;have b1:=aa (aa (af w (.cells (yrA qs (.slice ao la ca) (.slice bo lb cb) E) 25)) (af _ (.cells (yrA rs (.slice no nl nc) (.slice mo ml mc) F) 25))) (af _ (.cells (ygA R D L G gr) 27));have q1:=((ah w (yrL qs (.slice ao la ca) (.slice bo lb cb) E) 25).l (af _ (.cells (yrA rs (.slice no nl nc) (.slice mo ml mc) F) 25))).l (af _ (.cells (ygA R D L G gr) 27));have r1:=(ah (w.alloc (.cells (yrA qs (.slice ao la ca) (.slice bo lb cb) E) 25)) (yrL rs (.slice no nl nc) (.slice mo ml mc) F) 25).l (af _ (.cells (ygA R D L G gr) 27));have g1:=ah ((w.alloc (.cells (yrA qs (.slice ao la ca) (.slice bo lb cb) E) 25)).alloc (.cells (yrA rs (.slice no nl nc) (.slice mo ml mc) F) 25)) (ygL R D L G gr) 27;simp only[World.size_alloc] at r1 g1
 go_enter Tryd.func3,Tryd.ntmps3
 go_wp2_with fail
 refine(HBG.out _).mono ?_;rintro z w2 ⟨rfl,bb2⟩;have q_2:=q1.l bb2;have r_2:=r1.l bb2;have g_2:=g1.l bb2;have b0_2:=aa b1 bb2;clear q1 r1 g1 b1 bb2;obtain⟨x0,x1,x2,x3⟩:=q_2.cs4;obtain⟨y0,y1,y2,y3,y4⟩:=g_2.cs5
 go_wp2_with fail
 refine(HRA.out _ b0_2).mono ?_;rintro z w3 ⟨vw3,rfl,ow3,bbw3⟩;obtain⟨xo,xc,hvw3⟩:=ow3.rd.shape;subst hvw3;have rw3:=ow3.rd;simp only at rw3⊢;clear ow3 x0 x1 x2 x3 y0 y1 y2 y3 y4;have q_3:=q_2.l bbw3;have r_3:=r_2.l bbw3;have g_3:=g_2.l bbw3;have b0_3:=aa b0_2 bbw3;clear q_2 r_2 g_2 b0_2 bbw3;have alw3:=af w3 (.cells (ydA xs (.slice xo (Dg.dg 4294967296 xn).length xc) xe) 30);have nw3:=ah w3 (ydL xs (.slice xo (Dg.dg 4294967296 xn).length xc) xe) 30;have q_4:=q_3.l alw3;have r_4:=r_3.l alw3;have g_4:=g_3.l alw3;have rx_4:=rw3.l alw3;have b0_4:=aa b0_3 alw3;clear q_3 r_3 g_3 rw3 b0_3 alw3
 go_upto_region 4 with fail
 generalize w3.alloc (.cells (ydA xs (.slice xo (Dg.dg 4294967296 xn).length xc) xe) 30)=W3 at q_4 r_4 g_4 rx_4 nw3 b0_4⊢;generalize w3.heap.size=PX at nw3⊢;obtain⟨x0,x1,x2,x3⟩:=r_4.cs4;obtain⟨y0,y1,y2,y3,y4⟩:=g_4.cs5
 go_wp2_with fail
 refine(HRB.out _ b0_4).mono ?_;rintro z w4 ⟨vw4,rfl,ow4,bbw4⟩;obtain⟨yo,yc,hvw4⟩:=ow4.rd.shape;subst hvw4;have rw4:=ow4.rd;simp only at rw4⊢;clear ow4 x0 x1 x2 x3 y0 y1 y2 y3 y4;have q_5:=q_4.l bbw4;have r_5:=r_4.l bbw4;have g_5:=g_4.l bbw4;have rx_5:=rx_4.l bbw4;have nx_5:=nw3.l bbw4;have b0_5:=aa b0_4 bbw4;clear q_4 r_4 g_4 rx_4 nw3 b0_4 bbw4;have alw4:=af w4 (.cells (ydA ys (.slice yo (Dg.dg 4294967296 yn).length yc) ye) 30);have nw4:=ah w4 (ydL ys (.slice yo (Dg.dg 4294967296 yn).length yc) ye) 30;have q_6:=q_5.l alw4;have r_6:=r_5.l alw4;have g_6:=g_5.l alw4;have rx_6:=rx_5.l alw4;have nx_6:=nx_5.l alw4;have ry_6:=rw4.l alw4;have b0_6:=aa b0_5 alw4;clear q_5 r_5 g_5 rx_5 nx_5 rw4 b0_5 alw4
 go_upto_region 5 with fail
 generalize w4.alloc (.cells (ydA ys (.slice yo (Dg.dg 4294967296 yn).length yc) ye) 30)=W4 at q_6 r_6 g_6 rx_6 nx_6 ry_6 nw4 b0_6⊢;generalize w4.heap.size=PY at nw4⊢
 cases oka
 ·go_wp2
  go_ret
  exact⟨rfl,b0_6⟩
 cases okb
 ·go_wp2
  go_ret
  exact⟨rfl,b0_6⟩
 replace HO1:Hid _:=HO1.out rfl;replace HO2:Hid _:=HO2.out rfl;replace HO3:Hid _:=HO3.out rfl;replace HO4:Hid _:=HO4.out rfl;replace HB1:Hid _:=HB1.out rfl;replace HB2:Hid _:=HB2.out rfl;replace HB3:Hid _:=HB3.out rfl;replace HB4:Hid _:=HB4.out rfl;replace HT:Hid _:=HT.out rfl rfl;replace HU:Hid _:=HU.out rfl rfl;replace HC:Hid _:=HC.out rfl rfl;replace HM:Hid _:=HM.out rfl rfl;replace HE:Hid _:=HE.out rfl rfl;have F0:fG qs ao la ca bo lb cb E rs no nl nc mo ml mc F xs xo xn xc xe ys yo yn yc ye PX PY w W4:=⟨q_6,r_6,nx_6,nw4,rx_6,ry_6,b0_6⟩;clear q_6 r_6 g_6 rx_6 nx_6 ry_6 nw4 b0_6 HBG HRA HRB
 go_upto_region 7 with fail
 have F1:fG qs ao la ca bo lb cb E rs no nl nc mo ml mc F xs xo xn xc xe ys yo yn yc ye PX PY w W4.drew:=F0.l ((Below.refl _ _).drew);have F2:fG qs ao la ca bo lb cb E rs no nl nc mo ml mc F xs xo xn xc xe ys yo yn yc ye PX PY w (W4.alloc (.cells (ydA false (.slice none 0 0) 0) 35)).drew:=(F0.new (.cells (ydA false (.slice none 0 0) 0) 35)).l ((Below.refl _ _).drew);have D2:pF w (W4.alloc (.cells (ydA false (.slice none 0 0) 0) 35)).drew W4.heap.size:=(uA (fG.below F0)).l ((Below.refl _ _).drew);obtain⟨⟨e0,e1,e2⟩,e3⟩:=F1.cellsA;obtain⟨⟨f0,f1,f2⟩,f3⟩:=F2.cellsA;have nn0:W4.heap.size≠w.heap.size:=Nat.ne_of_gt F0.1.lt;have nn1:W4.heap.size≠w.heap.size+1:=Nat.ne_of_gt F0.2.1.lt
 go_cut [13] (fun s13 wy=>ZW qs ao la ca bo lb cb E rs no nl nc mo ml mc F xs xo xn xc xe ys yo yn yc ye PX PY w s13 ps pn pe wy)
 case first=>
  go_wp2_with fail
  go_region_held3 (fun wq=>(wq.cell? ⟨w.heap.size,0,none⟩=some (.bool qs)∧wq.cell? ⟨w.heap.size,1,none⟩=some (.slice ao la ca)∧wq.cell? ⟨w.heap.size,3,none⟩=some (yi E))∧wq.cell? ⟨w.heap.size+1,2,none⟩=some (.slice mo ml mc)) (go_keep) (first
   | (go_at_call 8;(with_reducible (refine(HO1.out _ (fG.below (by first|assumption|exact fG.new (by assumption) _))).mono ?_));rintro z wq ⟨v,rfl,rv,bb⟩;obtain⟨o1,k1,hv⟩:=rv.shape;subst hv;have Fq:=fG.l (by first|assumption|exact fG.new (by assumption) _) bb;obtain⟨⟨c0,c1,c2⟩,c3⟩:=Fq.cellsA;have mm0:wq.heap.size≠w.heap.size:=Nat.ne_of_gt Fq.1.lt;have mm1:wq.heap.size≠w.heap.size+1:=Nat.ne_of_gt Fq.2.1.lt;have Fz:=fG.new Fq (.cells (ydA false (.slice none 0 0) 0) 35);obtain⟨⟨z0,z1,z2⟩,z3⟩:=Fz.cellsA;(first| (have hrow:Rd wq .i64 _ (Dg.dg 65536 M2):=Rd.l (by first|assumption|exact Rd.l (by assumption) (af _ _)) bb)|skip);(first| (have hrow:Rd wq .i64 _ (Dg.dg 65536 A2.n):=Rd.l (by first|assumption|exact Rd.l (by assumption) (af _ _)) bb)|skip);(first| (have hnew:pF w wq _:=pF.l (by assumption) bb;obtain⟨n0,n1,n2⟩:=hnew.1.cs3;have g0:=hnew.1.f 0;have g1:=hnew.1.f 1;have g2:=hnew.1.f 2)| (have hnew:pF w wq _:=pF.l (uA (fG.below (by assumption))) bb;obtain⟨n0,n1,n2⟩:=hnew.1.cs3;have g0:=hnew.1.f 0;have g1:=hnew.1.f 1;have g2:=hnew.1.f 2)|skip))
   | (go_at_call 8;(with_reducible (refine(HO2.out _ (fG.below (by first|assumption|exact fG.new (by assumption) _))).mono ?_));rintro z wq ⟨v,rfl,rv,bb⟩;obtain⟨o2,k2,hv⟩:=rv.shape;subst hv;have Fq:=fG.l (by first|assumption|exact fG.new (by assumption) _) bb;obtain⟨⟨c0,c1,c2⟩,c3⟩:=Fq.cellsA;have mm0:wq.heap.size≠w.heap.size:=Nat.ne_of_gt Fq.1.lt;have mm1:wq.heap.size≠w.heap.size+1:=Nat.ne_of_gt Fq.2.1.lt;have Fz:=fG.new Fq (.cells (ydA false (.slice none 0 0) 0) 35);obtain⟨⟨z0,z1,z2⟩,z3⟩:=Fz.cellsA;(first| (have hrow:Rd wq .i64 _ (Dg.dg 65536 N1):=Rd.l (by first|assumption|exact Rd.l (by assumption) (af _ _)) bb)|skip);(first| (have hrow:Rd wq .i64 _ (Dg.dg 65536 A1.n):=Rd.l (by first|assumption|exact Rd.l (by assumption) (af _ _)) bb)|skip);(first| (have hnew:pF w wq _:=pF.l (by assumption) bb;obtain⟨n0,n1,n2⟩:=hnew.1.cs3;have g0:=hnew.1.f 0;have g1:=hnew.1.f 1;have g2:=hnew.1.f 2)| (have hnew:pF w wq _:=pF.l (uA (fG.below (by assumption))) bb;obtain⟨n0,n1,n2⟩:=hnew.1.cs3;have g0:=hnew.1.f 0;have g1:=hnew.1.f 1;have g2:=hnew.1.f 2)|skip))
   | (go_at_call 7;(with_reducible (refine(HB1.out _ _ _ (by first|assumption|exact Rd.l (by assumption) (af _ _))).mono ?_));rintro z wq ⟨v,rfl,rv,bb⟩;obtain⟨o3,k3,hv⟩:=rv.shape;subst hv;have Fq:=fG.l (by first|assumption|exact fG.new (by assumption) _) bb;obtain⟨⟨c0,c1,c2⟩,c3⟩:=Fq.cellsA;have mm0:wq.heap.size≠w.heap.size:=Nat.ne_of_gt Fq.1.lt;have mm1:wq.heap.size≠w.heap.size+1:=Nat.ne_of_gt Fq.2.1.lt;have Fz:=fG.new Fq (.cells (ydA false (.slice none 0 0) 0) 35);obtain⟨⟨z0,z1,z2⟩,z3⟩:=Fz.cellsA;(first| (have hrow:Rd wq .i64 _ (Dg.dg 65536 M2):=Rd.l (by first|assumption|exact Rd.l (by assumption) (af _ _)) bb)|skip);(first| (have hrow:Rd wq .i64 _ (Dg.dg 65536 A2.n):=Rd.l (by first|assumption|exact Rd.l (by assumption) (af _ _)) bb)|skip);(first| (have hnew:pF w wq _:=pF.l (by assumption) bb;obtain⟨n0,n1,n2⟩:=hnew.1.cs3;have g0:=hnew.1.f 0;have g1:=hnew.1.f 1;have g2:=hnew.1.f 2)| (have hnew:pF w wq _:=pF.l (uA (fG.below (by assumption))) bb;obtain⟨n0,n1,n2⟩:=hnew.1.cs3;have g0:=hnew.1.f 0;have g1:=hnew.1.f 1;have g2:=hnew.1.f 2)|skip))
   | (go_at_call 7;(with_reducible (refine(HB2.out _ _ _ (by first|assumption|exact Rd.l (by assumption) (af _ _))).mono ?_));rintro z wq ⟨v,rfl,rv,bb⟩;obtain⟨o4,k4,hv⟩:=rv.shape;subst hv;have Fq:=fG.l (by first|assumption|exact fG.new (by assumption) _) bb;obtain⟨⟨c0,c1,c2⟩,c3⟩:=Fq.cellsA;have mm0:wq.heap.size≠w.heap.size:=Nat.ne_of_gt Fq.1.lt;have mm1:wq.heap.size≠w.heap.size+1:=Nat.ne_of_gt Fq.2.1.lt;have Fz:=fG.new Fq (.cells (ydA false (.slice none 0 0) 0) 35);obtain⟨⟨z0,z1,z2⟩,z3⟩:=Fz.cellsA;(first| (have hrow:Rd wq .i64 _ (Dg.dg 65536 N1):=Rd.l (by first|assumption|exact Rd.l (by assumption) (af _ _)) bb)|skip);(first| (have hrow:Rd wq .i64 _ (Dg.dg 65536 A1.n):=Rd.l (by first|assumption|exact Rd.l (by assumption) (af _ _)) bb)|skip);(first| (have hnew:pF w wq _:=pF.l (by assumption) bb;obtain⟨n0,n1,n2⟩:=hnew.1.cs3;have g0:=hnew.1.f 0;have g1:=hnew.1.f 1;have g2:=hnew.1.f 2)| (have hnew:pF w wq _:=pF.l (uA (fG.below (by assumption))) bb;obtain⟨n0,n1,n2⟩:=hnew.1.cs3;have g0:=hnew.1.f 0;have g1:=hnew.1.f 1;have g2:=hnew.1.f 2)|skip))
   | (go_at_call 6;(with_reducible (refine(HT.out _ _ _ _ _ (by first|assumption|exact Rd.l (by assumption) (af _ _)) (by first|assumption|exact Rd.l (by assumption) (af _ _))).mono ?_));rintro z wq ⟨v,rfl,rv,bb⟩;obtain⟨o5,k5,hv⟩:=rv.shape;subst hv;have Fq:=fG.l (by first|assumption|exact fG.new (by assumption) _) bb;obtain⟨⟨c0,c1,c2⟩,c3⟩:=Fq.cellsA;have mm0:wq.heap.size≠w.heap.size:=Nat.ne_of_gt Fq.1.lt;have mm1:wq.heap.size≠w.heap.size+1:=Nat.ne_of_gt Fq.2.1.lt;have Fz:=fG.new Fq (.cells (ydA false (.slice none 0 0) 0) 35);obtain⟨⟨z0,z1,z2⟩,z3⟩:=Fz.cellsA;(first| (have hnew:pF w wq _:=pF.l (by assumption) bb;obtain⟨n0,n1,n2⟩:=hnew.1.cs3;have g0:=hnew.1.f 0;have g1:=hnew.1.f 1;have g2:=hnew.1.f 2)| (have hnew:pF w wq _:=pF.l (uA (fG.below (by assumption))) bb;obtain⟨n0,n1,n2⟩:=hnew.1.cs3;have g0:=hnew.1.f 0;have g1:=hnew.1.f 1;have g2:=hnew.1.f 2)|skip)))
  all_goals (go_wp2_with fail)
  all_goals (first| (go_meet;exact ZX (by assumption) (by assumption))| (go_meet;exact Ov (by assumption) (by assumption) (by assumption)))
 case rest=>
  clear F1 F2 D2 e0 e1 e2 e3 f0 f1 f2 f3 nn0 nn1;obtain⟨F9,pb,vo,vc,rfl,lp,rp⟩:=hcut;clear F0 HO1 HO2 HB1 HB2 HT;have F0:fV qs ao la ca bo lb cb E rs no nl nc mo ml mc F xs xo xn xc xe ys yo yn yc ye PX PY pb ps vo pn vc pe wc.heap.size w wc:=⟨F9,lp,rp,lp.lt,F9.below.size,Nat.le_refl _⟩;clear F9 lp rp
  go_upto_region 8 with fail
  have F1:fV qs ao la ca bo lb cb E rs no nl nc mo ml mc F xs xo xn xc xe ys yo yn yc ye PX PY pb ps vo pn vc pe wc.heap.size w wc.drew:=F0.l ((Below.refl _ _).drew);have F2:fV qs ao la ca bo lb cb E rs no nl nc mo ml mc F xs xo xn xc xe ys yo yn yc ye PX PY pb ps vo pn vc pe wc.heap.size w (wc.alloc (.cells (ydA false (.slice none 0 0) 0) 35)).drew:=(F0.new (.cells (ydA false (.slice none 0 0) 0) 35)).l ((Below.refl _ _).drew);have D2:ph wc.heap.size (wc.alloc (.cells (ydA false (.slice none 0 0) 0) 35)).drew wc.heap.size:=(tV (fV.size F0)).l ((Below.refl _ _).drew);obtain⟨⟨e0,e1,e2⟩,e3⟩:=F1.1.cellsB;obtain⟨⟨f0,f1,f2⟩,f3⟩:=F2.1.cellsB;have nn0:wc.heap.size≠w.heap.size:=Nat.ne_of_gt F0.1.1.lt;have nn1:wc.heap.size≠w.heap.size+1:=Nat.ne_of_gt F0.1.2.1.lt
  go_cut [14] (fun s14 wz=>X5 qs ao la ca bo lb cb E rs no nl nc mo ml mc F xs xo xn xc xe ys yo yn yc ye PX PY pb ps vo pn vc pe wc.heap.size w s14 us un ue wz)
  case first=>
   go_wp2_with fail
   go_region_held3 (fun wq=>(wq.cell? ⟨w.heap.size+1,0,none⟩=some (.bool rs)∧wq.cell? ⟨w.heap.size+1,1,none⟩=some (.slice no nl nc)∧wq.cell? ⟨w.heap.size+1,3,none⟩=some (yi F))∧wq.cell? ⟨w.heap.size,2,none⟩=some (.slice bo lb cb)) (go_keep) (first
    | (go_at_call 8;(with_reducible (refine(HO3.out _ (fV.below (by first|assumption|exact fV.new (by assumption) _))).mono ?_));rintro z wq ⟨v,rfl,rv,bb⟩;obtain⟨o1,k1,hv⟩:=rv.shape;subst hv;have Fq:=fV.l (by first|assumption|exact fV.new (by assumption) _) bb;obtain⟨⟨c0,c1,c2⟩,c3⟩:=Fq.1.cellsB;have mm0:wq.heap.size≠w.heap.size:=Nat.ne_of_gt Fq.1.1.lt;have mm1:wq.heap.size≠w.heap.size+1:=Nat.ne_of_gt Fq.1.2.1.lt;have Fz:=fV.new Fq (.cells (ydA false (.slice none 0 0) 0) 35);obtain⟨⟨z0,z1,z2⟩,z3⟩:=Fz.1.cellsB;(first| (have hrow:Rd wq .i64 _ (Dg.dg 65536 M1):=Rd.l (by first|assumption|exact Rd.l (by assumption) (af _ _)) bb)|skip);(first| (have hrow:Rd wq .i64 _ (Dg.dg 65536 A4.n):=Rd.l (by first|assumption|exact Rd.l (by assumption) (af _ _)) bb)|skip);(first| (have hnew:ph wc.heap.size wq _:=ph.l (by assumption) bb;obtain⟨n0,n1,n2⟩:=hnew.1.cs3;have g0:=hnew.1.f 0;have g1:=hnew.1.f 1;have g2:=hnew.1.f 2)| (have hnew:ph wc.heap.size wq _:=ph.l (tV (fV.size (by assumption))) bb;obtain⟨n0,n1,n2⟩:=hnew.1.cs3;have g0:=hnew.1.f 0;have g1:=hnew.1.f 1;have g2:=hnew.1.f 2)|skip))
    | (go_at_call 8;(with_reducible (refine(HO4.out _ (fV.below (by first|assumption|exact fV.new (by assumption) _))).mono ?_));rintro z wq ⟨v,rfl,rv,bb⟩;obtain⟨o2,k2,hv⟩:=rv.shape;subst hv;have Fq:=fV.l (by first|assumption|exact fV.new (by assumption) _) bb;obtain⟨⟨c0,c1,c2⟩,c3⟩:=Fq.1.cellsB;have mm0:wq.heap.size≠w.heap.size:=Nat.ne_of_gt Fq.1.1.lt;have mm1:wq.heap.size≠w.heap.size+1:=Nat.ne_of_gt Fq.1.2.1.lt;have Fz:=fV.new Fq (.cells (ydA false (.slice none 0 0) 0) 35);obtain⟨⟨z0,z1,z2⟩,z3⟩:=Fz.1.cellsB;(first| (have hrow:Rd wq .i64 _ (Dg.dg 65536 N2):=Rd.l (by first|assumption|exact Rd.l (by assumption) (af _ _)) bb)|skip);(first| (have hrow:Rd wq .i64 _ (Dg.dg 65536 A3.n):=Rd.l (by first|assumption|exact Rd.l (by assumption) (af _ _)) bb)|skip);(first| (have hnew:ph wc.heap.size wq _:=ph.l (by assumption) bb;obtain⟨n0,n1,n2⟩:=hnew.1.cs3;have g0:=hnew.1.f 0;have g1:=hnew.1.f 1;have g2:=hnew.1.f 2)| (have hnew:ph wc.heap.size wq _:=ph.l (tV (fV.size (by assumption))) bb;obtain⟨n0,n1,n2⟩:=hnew.1.cs3;have g0:=hnew.1.f 0;have g1:=hnew.1.f 1;have g2:=hnew.1.f 2)|skip))
    | (go_at_call 7;(with_reducible (refine(HB3.out _ _ _ (by first|assumption|exact Rd.l (by assumption) (af _ _))).mono ?_));rintro z wq ⟨v,rfl,rv,bb⟩;obtain⟨o3,k3,hv⟩:=rv.shape;subst hv;have Fq:=fV.l (by first|assumption|exact fV.new (by assumption) _) bb;obtain⟨⟨c0,c1,c2⟩,c3⟩:=Fq.1.cellsB;have mm0:wq.heap.size≠w.heap.size:=Nat.ne_of_gt Fq.1.1.lt;have mm1:wq.heap.size≠w.heap.size+1:=Nat.ne_of_gt Fq.1.2.1.lt;have Fz:=fV.new Fq (.cells (ydA false (.slice none 0 0) 0) 35);obtain⟨⟨z0,z1,z2⟩,z3⟩:=Fz.1.cellsB;(first| (have hrow:Rd wq .i64 _ (Dg.dg 65536 M1):=Rd.l (by first|assumption|exact Rd.l (by assumption) (af _ _)) bb)|skip);(first| (have hrow:Rd wq .i64 _ (Dg.dg 65536 A4.n):=Rd.l (by first|assumption|exact Rd.l (by assumption) (af _ _)) bb)|skip);(first| (have hnew:ph wc.heap.size wq _:=ph.l (by assumption) bb;obtain⟨n0,n1,n2⟩:=hnew.1.cs3;have g0:=hnew.1.f 0;have g1:=hnew.1.f 1;have g2:=hnew.1.f 2)| (have hnew:ph wc.heap.size wq _:=ph.l (tV (fV.size (by assumption))) bb;obtain⟨n0,n1,n2⟩:=hnew.1.cs3;have g0:=hnew.1.f 0;have g1:=hnew.1.f 1;have g2:=hnew.1.f 2)|skip))
    | (go_at_call 7;(with_reducible (refine(HB4.out _ _ _ (by first|assumption|exact Rd.l (by assumption) (af _ _))).mono ?_));rintro z wq ⟨v,rfl,rv,bb⟩;obtain⟨o4,k4,hv⟩:=rv.shape;subst hv;have Fq:=fV.l (by first|assumption|exact fV.new (by assumption) _) bb;obtain⟨⟨c0,c1,c2⟩,c3⟩:=Fq.1.cellsB;have mm0:wq.heap.size≠w.heap.size:=Nat.ne_of_gt Fq.1.1.lt;have mm1:wq.heap.size≠w.heap.size+1:=Nat.ne_of_gt Fq.1.2.1.lt;have Fz:=fV.new Fq (.cells (ydA false (.slice none 0 0) 0) 35);obtain⟨⟨z0,z1,z2⟩,z3⟩:=Fz.1.cellsB;(first| (have hrow:Rd wq .i64 _ (Dg.dg 65536 N2):=Rd.l (by first|assumption|exact Rd.l (by assumption) (af _ _)) bb)|skip);(first| (have hrow:Rd wq .i64 _ (Dg.dg 65536 A3.n):=Rd.l (by first|assumption|exact Rd.l (by assumption) (af _ _)) bb)|skip);(first| (have hnew:ph wc.heap.size wq _:=ph.l (by assumption) bb;obtain⟨n0,n1,n2⟩:=hnew.1.cs3;have g0:=hnew.1.f 0;have g1:=hnew.1.f 1;have g2:=hnew.1.f 2)| (have hnew:ph wc.heap.size wq _:=ph.l (tV (fV.size (by assumption))) bb;obtain⟨n0,n1,n2⟩:=hnew.1.cs3;have g0:=hnew.1.f 0;have g1:=hnew.1.f 1;have g2:=hnew.1.f 2)|skip))
    | (go_at_call 6;(with_reducible (refine(HU.out _ _ _ _ _ (by first|assumption|exact Rd.l (by assumption) (af _ _)) (by first|assumption|exact Rd.l (by assumption) (af _ _))).mono ?_));rintro z wq ⟨v,rfl,rv,bb⟩;obtain⟨o5,k5,hv⟩:=rv.shape;subst hv;have Fq:=fV.l (by first|assumption|exact fV.new (by assumption) _) bb;obtain⟨⟨c0,c1,c2⟩,c3⟩:=Fq.1.cellsB;have mm0:wq.heap.size≠w.heap.size:=Nat.ne_of_gt Fq.1.1.lt;have mm1:wq.heap.size≠w.heap.size+1:=Nat.ne_of_gt Fq.1.2.1.lt;have Fz:=fV.new Fq (.cells (ydA false (.slice none 0 0) 0) 35);obtain⟨⟨z0,z1,z2⟩,z3⟩:=Fz.1.cellsB;(first| (have hnew:ph wc.heap.size wq _:=ph.l (by assumption) bb;obtain⟨n0,n1,n2⟩:=hnew.1.cs3;have g0:=hnew.1.f 0;have g1:=hnew.1.f 1;have g2:=hnew.1.f 2)| (have hnew:ph wc.heap.size wq _:=ph.l (tV (fV.size (by assumption))) bb;obtain⟨n0,n1,n2⟩:=hnew.1.cs3;have g0:=hnew.1.f 0;have g1:=hnew.1.f 1;have g2:=hnew.1.f 2)|skip)))
   all_goals (go_wp2_with fail)
   all_goals (first| (go_meet;exact Uo (by assumption) (by assumption))| (go_meet;exact Uq (by assumption) (by assumption) (by assumption)))
  case rest=>
   clear F1 F2 D2 e0 e1 e2 e3 f0 f1 f2 f3 nn0 nn1;obtain⟨⟨⟨-,-,lx,ly,rx,ry,bz⟩,lp,rp,-,-,-⟩,qb,uo,uc,rfl,lq,rq⟩:=hcut;clear F0 HO3 HO4 HB3 HB4 HU;obtain⟨x0,x1,x2⟩:=lx.cs3;obtain⟨y0,y1,y2⟩:=ly.cs3
   go_wp2_with fail
   refine(HC.out _ _ _ _ _ rx ry).mono ?_;rintro z wc ⟨rfl,bbc⟩;clear x0 x1 x2 y0 y1 y2;have x_51:=lx.l bbc;have y_51:=ly.l bbc;have rx_51:=rx.l bbc;have ry_51:=ry.l bbc;have p_51:=lp.l bbc;have rp_51:=rp.l bbc;have q_51:=lq.l bbc;have rq_51:=rq.l bbc;have b0_51:=aa bz bbc;clear lx ly rx ry lp rp lq rq bz bbc;obtain⟨x0,x1,x2⟩:=p_51.cs3;obtain⟨y0,y1,y2⟩:=q_51.cs3
   go_wp2_with fail
   refine(HM.out _ _ _ _ _ rp_51 rq_51).mono ?_;rintro z wd ⟨rfl,bbd⟩;clear x0 x1 x2 y0 y1 y2;have x_52:=x_51.l bbd;have y_52:=y_51.l bbd;have rx_52:=rx_51.l bbd;have ry_52:=ry_51.l bbd;have p_52:=p_51.l bbd;have rp_52:=rp_51.l bbd;have q_52:=q_51.l bbd;have rq_52:=rq_51.l bbd;have b0_52:=aa b0_51 bbd;clear x_51 y_51 rx_51 ry_51 p_51 rp_51 q_51 rq_51 b0_51 bbd;have HX:=HE.out;clear HE HC HM
   rcases HX with⟨h1,h2⟩| ⟨h1,h2⟩| ⟨rfl,rfl⟩
   ·have h3: ¬0<more:=by omega
    have h4:more≠0:=by omega
    go_wp2
    go_ret
    exact⟨by simp,b0_52⟩
   ·have h3: ¬more<0:=by omega
    have h4:more≠0:=by omega
    go_wp2
    go_ret
    exact⟨by simp,b0_52⟩
   ·go_wp2
    go_ret
    exact⟨by simp,b0_52⟩
theorem Jr {xs vs:List Nat}(sa:Dg.Small 4294967296 xs)(sv:Dg.Small 4294967296 vs)(l1:xs.length≤1200)(l2:vs.length≤1200):(Dg.dg 4294967296 (Dg.vl 4294967296 xs*Dg.vl 4294967296 vs)).length≤2400:=by
 refine Nat.le_trans (Dg.dg_len_le 4294967296 _ (xs.length+vs.length) (by omega) ?_) (by omega);rw[Nat.pow_add];exact Nat.mul_lt_mul'' (Dg.vl_lt _ _ sa) (Dg.vl_lt _ _ sv)
theorem GW {n:Nat}(h:(Dg.dg 4294967296 n).length≤2400)(s:Bool){E:Int}(e1: -20000≤E)(e2:E≤20000):
  (Dg.dg 65536 (bare ⟨s,n,E⟩).n).length≤30000∧ -200000≤(bare ⟨s,n,E⟩).e∧(bare ⟨s,n,E⟩).e≤200000:=by
 have h3:=gZ n 2400 h;have h4:=im n 2400 h;unfold bare
 split
 ·exact⟨by show([]:List Nat).length≤30000;simp,by simp,by simp⟩
 ·refine⟨Nat.le_trans (aH 65536 _ n (by omega) (Nat.div_le_self _ _)) (by omega), ?_, ?_⟩
  ·simp only;omega
  ·simp only;omega
theorem OJ (s:Bool)(n m:Nat)(E:Int):bare (aK (bare ⟨s,n,E⟩) (bare ⟨false,m,0⟩))=bare ⟨s,n*m,E⟩:=by
 rw[←nR];unfold aK;simp
theorem Js {xs ys:List Nat}{E R D L G:Int}{gr qs:Bool}{way:Int}(sa:Dg.Small 4294967296 xs)(sb:Dg.Small 4294967296 ys)(h:dR xs ys E R D L G gr qs way=false):
  xs.length≤1200∧ys.length≤1200∧ -20000≤E∧E≤20000∧aS (Dg.dg 4294967296 (iu xs ys E R D L G gr qs way).n) (iu xs ys E R D L G gr qs way).e=0:=by
 obtain⟨h1,-,-⟩:=kN h;obtain⟨c1,-,-⟩:=mh h1;obtain⟨a1,a2,-,a3,a4⟩:=gO c1;refine⟨(aF a1).2,(aF a2).2,a3,a4, ?_⟩;obtain⟨g0,hi⟩:=Er sa sb h;unfold iu;rw[if_neg (by rw[h];decide)];exact kZ g0 hi
theorem xJ {xs:List Nat}(sa:Dg.Small 4294967296 xs)(l:xs.length≤1200):(Dg.dg 4294967296 (Dg.vl 4294967296 xs)).length≤1200:=
 Nat.le_trans (Dg.dg_len_le 4294967296 _ _ (by omega) (Dg.vl_lt _ _ sa)) l
theorem GX (qs:Bool)(ao:Option Addr)(ca:Nat)(xs:List Nat)(bo:Option Addr)(cb:Nat)(ys:List Nat)(E:Int)(rs:Bool)(no:Option Addr)(nc:Nat)(us:List Nat)(mo:Option Addr)(mc:Nat)(vs:List Nat)(F R D L G:Int)(gr:Bool)(way:Int)(w:World)
  (ha:Rd w .u32 (.slice ao xs.length ca) xs) (sa:Dg.Small 4294967296 xs) (hb:Rd w .u32 (.slice bo ys.length cb) ys) (sb:Dg.Small 4294967296 ys) (hu:Rd w .u32 (.slice no us.length nc) us) (su:Dg.Small 4294967296 us) (hv:Rd w .u32 (.slice mo vs.length mc) vs) (sv:Dg.Small 4294967296 vs) (hT:Tab w):
  yC 3 #[yrV qs (.slice ao xs.length ca) (.slice bo ys.length cb) E,yrV rs (.slice no us.length nc) (.slice mo vs.length mc) F,ygV R D L G gr,yi way] w (yR w (.bool true)):=by
 obtain⟨⟨zs,zn,ze⟩,hz⟩: ∃t,iu xs ys E R D L G gr qs way=t:=⟨_,rfl⟩;obtain⟨⟨ts,tn,te⟩,ht⟩: ∃t,iu us vs F R D L G gr rs way=t:=⟨_,rfl⟩;obtain⟨⟨p0,p1,p2⟩,hp⟩: ∃t,bare ⟨qs,Dg.vl 4294967296 xs*Dg.vl 4294967296 vs,E⟩=t:=⟨_,rfl⟩;obtain⟨⟨q0,q1,q2⟩,hq⟩: ∃t,bare ⟨rs,Dg.vl 4294967296 us*Dg.vl 4294967296 ys,F⟩=t:=⟨_,rfl⟩;have f1:(!dR xs ys E R D L G gr qs way)=true→xs.length≤1200∧ys.length≤1200∧ -20000≤E∧E≤20000∧aS (Dg.dg 4294967296 zn) ze=0:=fun h=>by
  have:=Js sa sb (show dR xs ys E R D L G gr qs way=false by simpa using h)
  rw[hz] at this;exact this
 have f2:(!dR us vs F R D L G gr rs way)=true→us.length≤1200∧vs.length≤1200∧ -20000≤F∧F≤20000∧aS (Dg.dg 4294967296 tn) te=0:=fun h=>by
  have:=Js su sv (show dR us vs F R D L G gr rs way=false by simpa using h)
  rw[ht] at this;exact this
 refine Pa qs ao _ ca bo _ cb E rs no _ nc mo _ mc F R D L G gr way (!dR xs ys E R D L G gr qs way) (!dR us vs F R D L G gr rs way) zs zn ze ts tn te (Dg.vl 4294967296 xs) (Dg.vl 4294967296 ys) (Dg.vl 4294967296 us) (Dg.vl 4294967296 vs)
  (bare ⟨qs,Dg.vl 4294967296 xs,E⟩) (bare ⟨false,Dg.vl 4294967296 vs,0⟩) (bare ⟨rs,Dg.vl 4294967296 us,F⟩) (bare ⟨false,Dg.vl 4294967296 ys,0⟩) p0 p1 p2 q0 q1 q2
  (dJ (aG ⟨zs,zn,ze⟩ (dV ⟨ts,tn,te⟩))) (dJ (aG ⟨qs,Dg.vl 4294967296 xs*Dg.vl 4294967296 vs,E⟩ (dV ⟨rs,Dg.vl 4294967296 us*Dg.vl 4294967296 ys,F⟩))) w jb ?_ ?_ ?_ ?_ ?_ ?_ ?_ ?_ ?_ ?_ ?_ ?_ ?_ ?_ ?_
 ·intro w1 b
  rw[←hz];exact oU qs ao ca xs bo cb ys E R D L G gr way w1 (ha.l b) (hb.l b) sa sb (hT.l b)
 ·intro w1 b
  rw[←ht];exact oU rs no nc us mo mc vs F R D L G gr way w1 (hu.l b) (hv.l b) su sv (hT.l b)
 ·intro h w1 b
  have:=f1 h;exact fQ _ xs w1 (ha.l b) sa (by omega)
 ·intro h w1 b
  have:=f2 h;exact fQ _ vs w1 (hv.l b) sv (by omega)
 ·intro h w1 b
  have:=f2 h;exact fQ _ us w1 (hu.l b) su (by omega)
 ·intro h w1 b
  have:=f1 h;exact fQ _ ys w1 (hb.l b) sb (by omega)
 ·intro h o k w1 r
  obtain⟨l1,l2,e1,e2,-⟩:=f1 h;have:=im _ _ (xJ sa l1);exact iJ _ ⟨qs,Dg.vl 4294967296 xs,E⟩ w1 ⟨_,rfl,r⟩ (by simp only;omega) (by simp only;omega) (by simp only;omega)
 ·intro h o k w1 r
  obtain⟨l1,l2,e1,e2,-⟩:=f2 h;have:=im _ _ (xJ sv l2);exact iJ _ ⟨false,Dg.vl 4294967296 vs,0⟩ w1 ⟨_,rfl,r⟩ (by simp only;omega) (by simp only;omega) (by simp only;omega)
 ·intro h o k w1 r
  obtain⟨l1,l2,e1,e2,-⟩:=f2 h;have:=im _ _ (xJ su l1);exact iJ _ ⟨rs,Dg.vl 4294967296 us,F⟩ w1 ⟨_,rfl,r⟩ (by simp only;omega) (by simp only;omega) (by simp only;omega)
 ·intro h o k w1 r
  obtain⟨l1,l2,e1,e2,-⟩:=f1 h;have:=im _ _ (xJ sb l2);exact iJ _ ⟨false,Dg.vl 4294967296 ys,0⟩ w1 ⟨_,rfl,r⟩ (by simp only;omega) (by simp only;omega) (by simp only;omega)
 ·intro h h' o k o' k' w1 r1 r2
  obtain⟨l1,l2,e1,e2,-⟩:=f1 h;obtain⟨m1,m2,d1,d2,-⟩:=f2 h';obtain⟨x1,x2,x3⟩:=eT (t:=⟨qs,Dg.vl 4294967296 xs,E⟩) (xJ sa l1) e1 e2;obtain⟨y1,y2,y3⟩:=eT (t:=⟨false,Dg.vl 4294967296 vs,0⟩) (xJ sv m2) (by simp) (by simp);have:=jh _ _ _ _ w1 ⟨_,rfl,r1⟩ ⟨_,rfl,r2⟩ (by omega) (by omega) (by omega) (by omega) (by omega) (by omega);rw[OJ,hp] at this;exact this
 ·intro h h' o k o' k' w1 r1 r2
  obtain⟨l1,l2,e1,e2,-⟩:=f1 h;obtain⟨m1,m2,d1,d2,-⟩:=f2 h';obtain⟨x1,x2,x3⟩:=eT (t:=⟨rs,Dg.vl 4294967296 us,F⟩) (xJ su m1) d1 d2;obtain⟨y1,y2,y3⟩:=eT (t:=⟨false,Dg.vl 4294967296 ys,0⟩) (xJ sb l2) (by simp) (by simp);have:=jh _ _ _ _ w1 ⟨_,rfl,r1⟩ ⟨_,rfl,r2⟩ (by omega) (by omega) (by omega) (by omega) (by omega) (by omega);rw[OJ,hq] at this;exact this
 ·intro h h' o k o' k' w1 r1 r2
  obtain⟨-,-,-,-,k1⟩:=f1 h;obtain⟨-,-,-,-,k2⟩:=f2 h';have k3:dQ (Dg.dg 4294967296 zn) ze (Dg.dg 4294967296 tn) te=0:=(if_pos k1).trans k2;have:=lT zs o k _ ze ts o' k' _ te w1 r1 r2 (Dg.small_dg _ _ (by omega)) (Dg.small_dg _ _ (by omega));rw[k3,Dg.vl_dg _ _ (by omega),Dg.vl_dg _ _ (by omega),show∀a b,xw 0 a b=dJ (aG a (dV b)) from fun a b=>if_pos rfl] at this
  exact this
 ·intro h h' o k o' k' w1 r1 r2
  obtain⟨l1,l2,e1,e2,-⟩:=f1 h;obtain⟨m1,m2,d1,d2,-⟩:=f2 h';obtain⟨x1,x2,x3⟩:=GW (Jr sa sv l1 m2) qs e1 e2;obtain⟨y1,y2,y3⟩:=GW (Jr su sb m1 l2) rs d1 d2;have hs:=lP ⟨qs,Dg.vl 4294967296 xs*Dg.vl 4294967296 vs,E⟩ ⟨rs,Dg.vl 4294967296 us*Dg.vl 4294967296 ys,F⟩;rw[hp] at x1 x2 x3 hs;rw[hq] at y1 y2 y3 hs;rw[←hs];exact gQ _ _ ⟨p0,p1,p2⟩ ⟨q0,q1,q2⟩ w1 ⟨_,rfl,r1⟩ ⟨_,rfl,r2⟩ x1 y1 x2 x3 y2 y3
 ·intro h h'
  obtain⟨g1,g2,g3⟩:=Wh sa sb su sv (show dR xs ys E R D L G gr qs way=false by simpa using h) (show dR us vs F R D L G gr rs way=false by simpa using h') rfl rfl
  rw[hz,ht] at g1 g2 g3;generalize dJ (aG ⟨qs,Dg.vl 4294967296 xs*Dg.vl 4294967296 vs,E⟩ (dV ⟨rs,Dg.vl 4294967296 us*Dg.vl 4294967296 ys,F⟩))=more at g1 g2 g3⊢
  rcases Int.lt_trichotomy more 0 with h0|h0|h0
  ·exact .inl ⟨h0,g1 h0⟩
  ·exact .inr (.inr ⟨h0,g3 h0⟩)
  ·exact .inr (.inl ⟨h0,g2 h0⟩)
end Go.Proofs.YtibnjbojkjablaaDoor

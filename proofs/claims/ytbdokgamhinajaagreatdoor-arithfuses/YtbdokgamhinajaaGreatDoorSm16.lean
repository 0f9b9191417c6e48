/-
  Texts laid together: Gh1, Gh2, Gh3, Gr13, Gh4, Gh5.
-/
import Derived.Test.YtbdokgamhinajaaGreatDoorSm15
set_option maxRecDepth 100000
set_option maxHeartbeats 6400000
namespace Go.Proofs.YtbdokgamhinajaaGreatDoor
open _root_.Go.Proofs.Tryz
open Go.RowKit
def D7 (w:World)(h:Bool)(d:Nat)(k:Int)(e:Ending)(w':World):Prop:=
 ∃u,e= .returned (.tuple #[.agg #[u,yi k],.bool h])∧Own w' w.heap.size 148 .u32 u (Dg.dg 4294967296 d)∧yB w w'
theorem G0 (b:Bool)(x:Option Addr)(y z:Nat)(e:Int)(W:World):(Instr.field 74 (ydV b (.slice x y z) e) 0).run Tryz.prog W= .ok (ydV b (.slice x y z) e) W:=by kernel_rfl
theorem Ju (b:Bool)(x:Option Addr)(y z:Nat)(e:Int)(W:World):(Instr.field 72 (ydV b (.slice x y z) e) 2).run Tryz.prog W= .ok (yi e) W:=by kernel_rfl
theorem RT (R D L G:Int)(gr s:Bool)(ao:Option Addr)(la ca:Nat)(e:Int)(w:World)
  (HSG:yH w 104 #[ydV s (.slice ao la ca) e] (yi 0)):
  yC 198 #[ygV R D L G gr,ydV s (.slice ao la ca) e] w (D7 w true 0 L):=by
 replace HSG:Hid _:=HSG;have b1:=aa (aa (af w (.cells (ygA R D L G gr) 140)) (af _ (.cells (ydA s (.slice ao la ca) e) 74))) (af _ (.cells #[yN,yi 0] 182));have g1:=((ah w (ygL R D L G gr) 140).l (af _ (.cells (ydA s (.slice ao la ca) e) 74))).l (af _ (.cells #[yN,yi 0] 182));have q1:=(ah (w.alloc (.cells (ygA R D L G gr) 140)) (ydL s (.slice ao la ca) e) 74).l (af _ (.cells #[yN,yi 0] 182));have c1:=ah ((w.alloc (.cells (ygA R D L G gr) 140)).alloc (.cells (ydA s (.slice ao la ca) e) 74)) [yN,yi 0] 182;simp only[World.size_alloc] at q1 c1;obtain⟨y0,y1,y2⟩:=q1.cs3
 go_enter func198,ntmps198
 go_wp2_with fail
 refine(HSG.out _ b1).mono ?_;rintro z w2 ⟨rfl,bb2⟩;clear y0 y1 y2;have g_2:=g1.l bb2;have q_2:=q1.l bb2;have c_2:=c1.l bb2;have b0_2:=aa b1 bb2;clear g1 q1 c1 b1 bb2;have x2:=g_2.c 2 rfl;have d0:=c_2.c 0 rfl;have f0:=c_2.f 0;have d1:=c_2.c 1 rfl;have f1:=c_2.f 1
 go_wp2
 have bu:But (w.heap.size+1+1) w2 ((w2.setCell ⟨w.heap.size+1+1,0,none⟩ yN).setCell ⟨w.heap.size+1+1,1,none⟩ (yi L)):=(ag w2 (w.heap.size+1+1) 0 yN).trans (ag _ (w.heap.size+1+1) 1 (yi L));have cX:au ((w2.setCell ⟨w.heap.size+1+1,0,none⟩ yN).setCell ⟨w.heap.size+1+1,1,none⟩ (yi L)) (w.heap.size+1+1) 182 [yN,yi L]:=(c_2.set 0 yN).set 1 (yi L);have bX:=bu.below b0_2 (show w.heap.size≤w.heap.size+1+1 by omega)
 obtain⟨s0,s1⟩:=cX.cs2;refine bodyPost_ret (v:= .tuple #[.agg #[yN,yi L],.bool true]) (by simp[results,results198,go_sem,s0,s1]) rfl ?_;exact⟨_,rfl,aQ _ _ _ _,bX⟩
theorem adT (R D L G:Int)(gr s:Bool)(ao:Option Addr)(la ca:Nat)(e sg bl pw K wd:Int)(bs:Bool)(bn:Nat)(be:Int)(un bb hb:Bool)(rd:Nat)(rk:Int)(w:World)
  (hsg:(sg==0)=false) (W1:IntKind.i64.wrap (bl-1)=bl-1) (W2:IntKind.i64.wrap (bl-1+e)=bl-1+e) (W3:IntKind.i64.wrap (wd*K)=wd*K) (W4:IntKind.i64.wrap (e-wd*K)=e-wd*K)
  (hun:un=decide (pw<L)) (hbb:(un&&gr)=bb) (HP1:bb=true→K=L) (HP2:bb=false→K=pw)
  (HH1:hb=true→ ¬K<L∧ ¬G<K∧ ¬be<wd*K) (HH2:hb=false→K<L∨(¬K<L∧G<K)∨(¬K<L∧ ¬G<K∧be<wd*K)) (HR1:hb=true→rk=K) (HR2:hb=false→rd=0∧rk=0)
  (HSG:yH w 104 #[ydV s (.slice ao la ca) e] (yi sg))
  (HDI:yJ 115 #[ydV s (.slice ao la ca) e] (.slice ao la ca))
  (HBI:yH w 138 #[.slice ao la ca] (yi bl))
  (HPW:yJ 126 #[ygV R D L G gr,yi (bl-1+e)] (yi pw))
  (HWD:yJ 129 #[ygV R D L G gr] (yi wd))
  (HBA: ∀w1,yB w w1→yC 201 #[ydV s (.slice ao la ca) e] w1 (jN w1 ⟨bs,bn,be⟩))
  (HSH:hb=true→ ∀w1,yB w w1→yC 130 #[.slice ao la ca,yi (e-wd*K)] w1 (Num w1 rd)):
  yC 198 #[ygV R D L G gr,ydV s (.slice ao la ca) e] w (D7 w hb rd rk):=by
 replace HP1:Hid _:=HP1;replace HP2:Hid _:=HP2;replace HH1:Hid _:=HH1;replace HH2:Hid _:=HH2;replace HR1:Hid _:=HR1;replace HR2:Hid _:=HR2;replace HSG:Hid _:=HSG;replace HDI:Hid _:=HDI;replace HBI:Hid _:=HBI;replace HPW:Hid _:=HPW;replace HWD:Hid _:=HWD;replace HBA:Hid _:=HBA;replace HSH:Hid _:=HSH;have HUN:Hid _:=hun;have HBB:Hid _:=hbb;clear hun hbb;have b1:=aa (aa (af w (.cells (ygA R D L G gr) 140)) (af _ (.cells (ydA s (.slice ao la ca) e) 74))) (af _ (.cells #[yN,yi 0] 182));have g1:=((ah w (ygL R D L G gr) 140).l (af _ (.cells (ydA s (.slice ao la ca) e) 74))).l (af _ (.cells #[yN,yi 0] 182));have q1:=(ah (w.alloc (.cells (ygA R D L G gr) 140)) (ydL s (.slice ao la ca) e) 74).l (af _ (.cells #[yN,yi 0] 182));have c1:=ah ((w.alloc (.cells (ygA R D L G gr) 140)).alloc (.cells (ydA s (.slice ao la ca) e) 74)) [yN,yi 0] 182;simp only[World.size_alloc] at q1 c1;obtain⟨y0,y1,y2⟩:=q1.cs3
 go_enter func198,ntmps198
 go_wp2_with fail
 refine(HSG.out _ b1).mono ?_;rintro z w2 ⟨rfl,bb2⟩;clear y0 y1 y2;have g_2:=g1.l bb2;have q_2:=q1.l bb2;have c_2:=c1.l bb2;have b0_2:=aa b1 bb2;clear g1 q1 c1 b1 bb2;have bd_2:yB w2 w2.drew:=(Below.refl _ _).drew;have g_3:=g_2.l bd_2;have q_3:=q_2.l bd_2;have c_3:=c_2.l bd_2;have b0_3:=aa b0_2 bd_2;clear g_2 q_2 c_2 b0_2 bd_2;obtain⟨x0,x1,x2,x3,x4⟩:=g_3.cs5;obtain⟨y0,y1,y2⟩:=q_3.cs3
 go_wp2_with fail
 go_region_held3 (fun wq=>(wq.cell? ⟨w.heap.size,0,none⟩=some (yi R)∧wq.cell? ⟨w.heap.size,1,none⟩=some (yi D)∧wq.cell? ⟨w.heap.size,2,none⟩=some (yi L)∧wq.cell? ⟨w.heap.size,3,none⟩=some (yi G)∧wq.cell? ⟨w.heap.size,4,none⟩=some (.bool gr))∧wq.cell? ⟨w.heap.size+1,0,none⟩=some (.bool s)∧wq.cell? ⟨w.heap.size+1,1,none⟩=some (.slice ao la ca)∧wq.cell? ⟨w.heap.size+1,2,none⟩=some (yi e)) (go_keep) (first
  | (go_at_call 115;have hgd:=b0_3;clear hgd;refine(HDI.out _).mono ?_;rintro z wa ⟨rfl,bb_wa⟩;have b0_wa:=aa b0_3 bb_wa;have g_wa:=g_3.l bb_wa;have q_wa:=q_3.l bb_wa;have c_wa:=c_3.l bb_wa;obtain⟨xwa0,xwa1,xwa2,xwa3,xwa4⟩:=g_wa.cs5;obtain⟨ywa0,ywa1,ywa2⟩:=q_wa.cs3;clear b0_3)
  | (go_at_call 138;have hgd:=b0_wa;clear hgd;refine(HBI.out _ b0_wa).mono ?_;rintro z wb ⟨rfl,bb_wb⟩;have b0_wb:=aa b0_wa bb_wb;have g_wb:=g_wa.l bb_wb;have q_wb:=q_wa.l bb_wb;have c_wb:=c_wa.l bb_wb;obtain⟨xwb0,xwb1,xwb2,xwb3,xwb4⟩:=g_wb.cs5;obtain⟨ywb0,ywb1,ywb2⟩:=q_wb.cs3;clear b0_wa)
  | (go_at_call 126;have hgd:=b0_wb;clear hgd;refine(HPW.out _).mono ?_;rintro z wc ⟨rfl,bb_wc⟩;have b0_wc:=aa b0_wb bb_wc;have g_wc:=g_wb.l bb_wc;have q_wc:=q_wb.l bb_wc;have c_wc:=c_wb.l bb_wc;obtain⟨xwc0,xwc1,xwc2,xwc3,xwc4⟩:=g_wc.cs5;obtain⟨ywc0,ywc1,ywc2⟩:=q_wc.cs3;clear b0_wb))
 go_goals
 clear x0 x1 x2 x3 x4 y0 y1 y2 xwa0 xwa1 xwa2 xwa3 xwa4 xwb0 xwb1 xwb2 xwb3 xwb4 xwc0 xwc1 xwc2 xwc3 xwc4 ywa0 ywa1 ywa2 ywb0 ywb1 ywb2 ywc0 ywc1 ywc2;have x2:=g_wc.c 2 rfl;have x4:=g_wc.c 4 rfl;have hlt:decide (pw<L)=un:=HUN.out.symm
 go_upto_region 4 with fail
 skip
 go_cut [34] (fun s34 wx=>s34= .bool bb∧wx=wc)
 case first=>
  cases un
  ·go_wp2_with fail
   go_meet
   exact⟨by rw[←HBB.out];rfl,rfl⟩
  ·go_wp2_with fail
   go_meet
   exact⟨by rw[←HBB.out];rfl,rfl⟩
 case rest=>
  obtain⟨rfl,hw34⟩:=hcut;subst hw34
  go_upto_if 34 with fail
  go_cut [6] (fun s6 wx=>s6=yi K∧wx=wc)
  case first=>
   cases bb
   ·have eK:Hid (K=pw):=HP2.out rfl
    go_wp2_with fail
    go_meet
    exact⟨by rw[eK.out],rfl⟩
   ·have eK:Hid (K=L):=HP1.out rfl
    go_wp2_with fail
    go_meet
    exact⟨by rw[eK.out],rfl⟩
  case rest=>
   obtain⟨rfl,hw6⟩:=hcut;subst hw6;clear x2 x4 hlt HP1 HP2;obtain⟨x0,x1,x2,x3,x4⟩:=g_wc.cs5
   go_wp2_with fail
   refine(HWD.out _).mono ?_;rintro z w5 ⟨rfl,bb5⟩;clear x0 x1 x2 x3 x4;have g_11:=g_wc.l bb5;have q_11:=q_wc.l bb5;have c_11:=c_wc.l bb5;have b0_11:=aa b0_wc bb5;clear g_wc q_wc c_wc b0_wc bb5;obtain⟨x0,x1,x2,x3,x4⟩:=g_11.cs5;obtain⟨y0,y1,y2⟩:=q_11.cs3
   cases hb
   ·obtain⟨rfl,rfl⟩:=HR2.out rfl
    have hx:=HH2.out rfl;clear HH1 HH2 HR1 HR2 HSH
    rcases hx with hx| ⟨hx1,hx⟩| ⟨hx1,hx2,hx⟩
    ·skip
     have d0:=c_11.c 0 rfl;have f0:=c_11.f 0;have d1:=c_11.c 1 rfl;have f1:=c_11.f 1
     go_wp2
     have bu:But (w.heap.size+1+1) w5 ((w5.setCell ⟨w.heap.size+1+1,0,none⟩ yN).setCell ⟨w.heap.size+1+1,1,none⟩ (yi 0)):=(ag w5 (w.heap.size+1+1) 0 yN).trans (ag _ (w.heap.size+1+1) 1 (yi 0));have cX:au ((w5.setCell ⟨w.heap.size+1+1,0,none⟩ yN).setCell ⟨w.heap.size+1+1,1,none⟩ (yi 0)) (w.heap.size+1+1) 182 [yN,yi 0]:=(c_11.set 0 yN).set 1 (yi 0);have bX:=bu.below b0_11 (show w.heap.size≤w.heap.size+1+1 by omega)
     obtain⟨s0,s1⟩:=cX.cs2;refine bodyPost_ret (v:= .tuple #[.agg #[yN,yi 0],.bool false]) (by simp[results,results198,go_sem,s0,s1]) rfl ?_;exact⟨_,rfl,aQ _ _ _ _,bX⟩
    ·have e1:decide (K<L)=false:=decide_eq_false (by omega)
     have d0:=c_11.c 0 rfl;have f0:=c_11.f 0;have d1:=c_11.c 1 rfl;have f1:=c_11.f 1
     go_wp2
     have bu:But (w.heap.size+1+1) w5 ((w5.setCell ⟨w.heap.size+1+1,0,none⟩ yN).setCell ⟨w.heap.size+1+1,1,none⟩ (yi 0)):=(ag w5 (w.heap.size+1+1) 0 yN).trans (ag _ (w.heap.size+1+1) 1 (yi 0));have cX:au ((w5.setCell ⟨w.heap.size+1+1,0,none⟩ yN).setCell ⟨w.heap.size+1+1,1,none⟩ (yi 0)) (w.heap.size+1+1) 182 [yN,yi 0]:=(c_11.set 0 yN).set 1 (yi 0);have bX:=bu.below b0_11 (show w.heap.size≤w.heap.size+1+1 by omega)
     obtain⟨s0,s1⟩:=cX.cs2;refine bodyPost_ret (v:= .tuple #[.agg #[yN,yi 0],.bool false]) (by simp[results,results198,go_sem,s0,s1]) rfl ?_;exact⟨_,rfl,aQ _ _ _ _,bX⟩
    ·have e1:decide (K<L)=false:=decide_eq_false (by omega)
     have e2:decide (G<K)=false:=decide_eq_false (by omega)
     go_wp2_with fail
     refine(HBA.out _ b0_11).mono ?_;rintro z w6 ⟨vb,rfl,ob6,bb6⟩;obtain⟨vo6,vc6,hvb6⟩:=ob6.rd.shape;subst hvb6;clear ob6;have hfd:=fun W=>G0 bs vo6 (Dg.dg 4294967296 bn).length vc6 be W
     have hfe:=fun W=>Ju bs vo6 (Dg.dg 4294967296 bn).length vc6 be W
     clear x0 x1 x2 x3 x4 y0 y1 y2;have g_12:=g_11.l bb6;have q_12:=q_11.l bb6;have c_12:=c_11.l bb6;have b0_12:=aa b0_11 bb6;clear g_11 q_11 c_11 b0_11 bb6;have d0:=c_12.c 0 rfl;have f0:=c_12.f 0;have d1:=c_12.c 1 rfl;have f1:=c_12.f 1
     go_wp2
     have bu:But (w.heap.size+1+1) w6 ((w6.setCell ⟨w.heap.size+1+1,0,none⟩ yN).setCell ⟨w.heap.size+1+1,1,none⟩ (yi 0)):=(ag w6 (w.heap.size+1+1) 0 yN).trans (ag _ (w.heap.size+1+1) 1 (yi 0));have cX:au ((w6.setCell ⟨w.heap.size+1+1,0,none⟩ yN).setCell ⟨w.heap.size+1+1,1,none⟩ (yi 0)) (w.heap.size+1+1) 182 [yN,yi 0]:=(c_12.set 0 yN).set 1 (yi 0);have bX:=bu.below b0_12 (show w.heap.size≤w.heap.size+1+1 by omega)
     obtain⟨s0,s1⟩:=cX.cs2;refine bodyPost_ret (v:= .tuple #[.agg #[yN,yi 0],.bool false]) (by simp[results,results198,go_sem,s0,s1]) rfl ?_;exact⟨_,rfl,aQ _ _ _ _,bX⟩
   ·obtain⟨h1,h2,h3⟩:=HH1.out rfl
    have hrk:=HR1.out rfl;have HS1:Hid _:=HSH.out rfl;clear HH1 HH2 HR1 HR2 HSH;subst hrk;have e1:decide (rk<L)=false:=decide_eq_false (by omega);have e2:decide (G<rk)=false:=decide_eq_false (by omega);have e3:decide (be<wd*rk)=false:=decide_eq_false (by omega)
    go_wp2_with fail
    refine(HBA.out _ b0_11).mono ?_;rintro z w6 ⟨vb,rfl,ob6,bb6⟩;obtain⟨vo6,vc6,hvb6⟩:=ob6.rd.shape;subst hvb6;clear ob6;have hfd:=fun W=>G0 bs vo6 (Dg.dg 4294967296 bn).length vc6 be W
    have hfe:=fun W=>Ju bs vo6 (Dg.dg 4294967296 bn).length vc6 be W
    clear x0 x1 x2 x3 x4 y0 y1 y2;have g_12:=g_11.l bb6;have q_12:=q_11.l bb6;have c_12:=c_11.l bb6;have b0_12:=aa b0_11 bb6;clear g_11 q_11 c_11 b0_11 bb6;have bd_12:yB w6 w6.drew:=(Below.refl _ _).drew;have g_13:=g_12.l bd_12;have q_13:=q_12.l bd_12;have c_13:=c_12.l bd_12;have b0_13:=aa b0_12 bd_12;clear g_12 q_12 c_12 b0_12 bd_12;obtain⟨y0,y1,y2⟩:=q_13.cs3;have nA:w.heap.size+1+1≠w.heap.size+1:=by omega
    go_wp2_with fail
    go_region_held3 (fun wq=>wq.cell? ⟨w.heap.size+1,0,none⟩=some (.bool s)∧wq.cell? ⟨w.heap.size+1,1,none⟩=some (.slice ao la ca)∧wq.cell? ⟨w.heap.size+1,2,none⟩=some (yi e)) (go_keep) (first
     | (go_at_call 115;have hgd:=b0_13;clear hgd;refine(HDI.out _).mono ?_;rintro z wf ⟨rfl,bb_wf⟩;have b0_wf:=aa b0_13 bb_wf;have g_wf:=g_13.l bb_wf;have q_wf:=q_13.l bb_wf;have c_wf:=c_13.l bb_wf;obtain⟨ywf0,ywf1,ywf2⟩:=q_wf.cs3;clear b0_13)
     | (go_at_call 130;have hgd:=b0_wf;clear hgd;refine(HS1.out _ b0_wf).mono ?_;rintro z wg ⟨vs,rfl,os,bb_wg⟩;have b0_wg:=aa b0_wf bb_wg;have g_wg:=g_wf.l bb_wg;have q_wg:=q_wf.l bb_wg;have c_wg:=c_wf.l bb_wg;obtain⟨ywg0,ywg1,ywg2⟩:=q_wg.cs3;obtain⟨so,sc,hvs⟩:=os.rd.shape;subst hvs;obtain⟨d0,d1⟩:=c_wg.cs2;have f0:=c_wg.f 0;have f1:=c_wg.f 1;have oL:=os.lower b0_wf.size;clear b0_wf))
    go_goals
    clear d0 d1 f0 f1;have d0:=c_wg.c 0 rfl;have f0:=c_wg.f 0;have d1:=c_wg.c 1 rfl;have f1:=c_wg.f 1
    go_wp2
    have bu:But (w.heap.size+1+1) wg ((wg.setCell ⟨w.heap.size+1+1,0,none⟩ (yT so rd sc)).setCell ⟨w.heap.size+1+1,1,none⟩ (yi rk)):=(ag wg (w.heap.size+1+1) 0 (yT so rd sc)).trans (ag _ (w.heap.size+1+1) 1 (yi rk));have cX:au ((wg.setCell ⟨w.heap.size+1+1,0,none⟩ (yT so rd sc)).setCell ⟨w.heap.size+1+1,1,none⟩ (yi rk)) (w.heap.size+1+1) 182 [yT so rd sc,yi rk]:=(c_wg.set 0 (yT so rd sc)).set 1 (yi rk);have bX:=bu.below b0_wg (show w.heap.size≤w.heap.size+1+1 by omega)
    have oX:=bu.own oL c_wg (by decide);obtain⟨s0,s1⟩:=cX.cs2;refine bodyPost_ret (v:= .tuple #[.agg #[yT so rd sc,yi rk],.bool true]) (by simp[results,results198,go_sem,s0,s1]) rfl ?_;exact⟨_,rfl,oX,bX⟩
def nm (R D L:Int)(gr:Bool)(n:Nat)(e:Int):Nat:=shN n (e-(ai R:Int)*cP R D L gr n e)
def fD (R D L G:Int)(gr:Bool)(n:Nat)(e:Int):Nat:=if n=0 then 0 else if dA R D L G gr n e=true then nm R D L gr n e else 0
def fK (R D L G:Int)(gr:Bool)(n:Nat)(e:Int):Int:=if n=0 then L else if dA R D L G gr n e=true then cP R D L gr n e else 0
theorem Og {R D L G:Int}{gr:Bool}{n:Nat}{e:Int}(hg:bk R D L G=0)(hb:bitLen n≤40000)(e1: -100000≤e)(e2:e≤100000):
  -341000≤cP R D L gr n e∧cP R D L gr n e≤341000∧ -341000≤(ai R:Int)*cP R D L gr n e∧(ai R:Int)*cP R D L gr n e≤341000:=by
 obtain⟨hR,d1,d2,l1,l2,-,-,-,-⟩:=cB hg;have hp:=Bp (R:=R) (D:=D) (t:=(bitLen n:Int)-1+e) d1 d2 (by omega) (by omega);unfold cP
 split
 ·unfold ai
  split<;>simp<;>omega
 ·exact hp
theorem GK {R D L G:Int}{gr:Bool}{n:Nat}{e:Int}(h0:n≠0):dA R D L G gr n e=true↔L≤cP R D L gr n e∧cP R D L gr n e≤G∧(ai R:Int)*cP R D L gr n e≤e+(tz n:Int):=by
 unfold dA;rw[decide_eq_true_iff]
 constructor
 ·rintro(h|h)
  ·exact absurd h h0
  ·exact h
 ·exact .inr
theorem VU (R D L G:Int)(gr s:Bool)(ao:Option Addr)(ca n:Nat)(e:Int)(w:World)(hg:bk R D L G=0)(hr:Rd w .u32 (.slice ao (Dg.dg 4294967296 n).length ca) (Dg.dg 4294967296 n))(hl:(Dg.dg 4294967296 n).length≤1200)(e1: -20000≤e)(e2:e≤20000)(hT:Tab w):
  Calls Tryz.prog 198 #[.agg #[.int .i64 R,.int .i64 D,.int .i64 L,.int .i64 G,.bool gr],.agg #[.bool s,.slice ao (Dg.dg 4294967296 n).length ca,.int .i64 e]] w (D7 w (dA R D L G gr n e) (fD R D L G gr n e) (fK R D L G gr n e)):=by
 have hdv:Dv w (.agg #[.bool s,.slice ao (Dg.dg 4294967296 n).length ca,.int .i64 e]) ⟨s,n,e⟩:=⟨_,rfl,hr⟩;obtain⟨hR,d1,d2,l1,l2,g1,g2,lg,l16⟩:=cB hg
 by_cases h0:n=0
 ·have hh:dA R D L G gr n e=true:=decide_eq_true (.inl h0)
  rw[hh,show fD R D L G gr n e=0 from if_pos h0,show fK R D L G gr n e=L from if_pos h0]
  refine RT R D L G gr s ao _ ca e w (fun w1 b=> ?_)
  have:=qB _ _ w1 (hdv.l b)
  rwa [show dJ ⟨s,n,e⟩=0 from if_pos h0] at this
 ·have hbn:bitLen n≤32*1200:=oP hl
  have htz:=gZ n 1200 hl;obtain⟨k1,k2,k3,k4⟩:=Og (gr:=gr) (n:=n) (e:=e) hg (by omega) (by omega) (by omega);have hbe:(bare ⟨s,n,e⟩).e=e+(tz n:Int):=(gN (t:=⟨s,n,e⟩) h0).2.1;obtain⟨⟨bs,bn,be⟩,hbt⟩: ∃b,bare ⟨s,n,e⟩=b:=⟨_,rfl⟩;rw[hbt] at hbe;simp only at hbe;have hi:=GK (R:=R) (D:=D) (L:=L) (G:=G) (gr:=gr) (e:=e) h0;refine adT R D L G gr s ao _ ca e (dJ ⟨s,n,e⟩) (bitLen n) (aT R D ((bitLen n:Int)-1+e)) (cP R D L gr n e) (ai R) bs bn be (decide (aT R D ((bitLen n:Int)-1+e)<L)) (decide (aT R D ((bitLen n:Int)-1+e)<L)&&gr) (dA R D L G gr n e) (fD R D L G gr n e) (fK R D L G gr n e) w ?_ ?_ ?_ ?_ ?_ rfl rfl ?_ ?_ ?_ ?_ ?_ ?_ ?_ ?_ ?_ ?_ ?_ ?_ ?_
  ·have:dJ ⟨s,n,e⟩≠0:=by
    unfold dJ;rw[if_neg h0]
    split<;>decide
   simpa using this
  ·exact IntWalk.i64_in _ ⟨by omega,by omega⟩
  ·exact IntWalk.i64_in _ ⟨by omega,by omega⟩
  ·exact IntWalk.i64_in _ ⟨by omega,by omega⟩
  ·exact IntWalk.i64_in _ ⟨by omega,by omega⟩
  ·intro h
   exact if_pos h
  ·intro h
   exact if_neg (by rw[h];decide)
  ·intro h
   have:=hi.1 h;omega
  ·intro h
   have: ¬(L≤cP R D L gr n e∧cP R D L gr n e≤G∧(ai R:Int)*cP R D L gr n e≤e+(tz n:Int)):=fun c=>by
    rw[hi.2 c] at h
    cases h
   omega
  ·intro h
   exact(if_neg h0).trans (if_pos h)
  ·intro h
   have h2: ¬dA R D L G gr n e=true:=by rw[h];decide
   exact⟨(if_neg h0).trans (if_neg h2),(if_neg h0).trans (if_neg h2)⟩
  ·intro w1 b
   exact qB _ _ w1 (hdv.l b)
  ·intro w1
   exact cN s ao _ ca e w1
  ·intro w1 b
   have:=kE _ _ w1 (hr.l b) (Dg.small_dg _ _ (by omega)) (Dg.norm_dg _ _ (by omega)) (by omega);rw[Dg.vl_dg _ _ (by omega)] at this;refine this.mono ?_;rintro z w' ⟨rfl,rfl⟩;exact⟨rfl,Below.refl _ _⟩
  ·intro w1
   exact FE R D L G gr _ w1 d1 d2 (by omega) (by omega)
  ·intro w1
   have:=tY R D L G gr w1
   rwa [jf] at this
  ·intro w1 b
   have:=II _ ⟨s,n,e⟩ w1 (hdv.l b) (by simp only;omega) ⟨by simp only;omega,by simp only;omega⟩ (hT.l b) (by simp only;omega)
   rwa [hbt] at this
  ·intro h w1 b
   have:=eO _ _ (e-(ai R:Int)*cP R D L gr n e) w1 (hr.l b) (Dg.small_dg _ _ (by omega)) (by omega) (by omega) (by omega);rw[Dg.vl_dg _ _ (by omega)] at this;rw[show fD R D L G gr n e=shN n (e-(ai R:Int)*cP R D L gr n e) from(if_neg h0).trans (if_pos h)]
   exact this
def DM (w:World)(h:Bool)(d:Nat)(k c:Int)(e:Ending)(w':World):Prop:=
 ∃u,e= .returned (.tuple #[.agg #[u,yi k],.bool h,yi c])∧Own w' w.heap.size 148 .u32 u (Dg.dg 4294967296 d)∧yB w w'
def Xn (w:World)(s9 s10:Value)(hd:Bool)(rd:Nat)(rk:Int)(wx:World):Prop:=
 ∃pb so sc,s9= .pointer (some ⟨pb,0,none⟩)∧s10= .bool hd∧w.heap.size+1+1≠pb∧w.heap.size≤pb∧au wx pb 182 [yT so rd sc,yi rk]∧Own wx w.heap.size 148 .u32 (yT so rd sc) (Dg.dg 4294967296 rd)∧au wx (w.heap.size+1+1) 182 [yN,yi 0]∧yB w wx
theorem TI {w wb:World}{hd:Bool}{rd:Nat}{rk:Int}{so:Option Addr}{sc:Nat}(hc:au wb (w.heap.size+1+1) 182 [yN,yi 0])(ho:Own wb w.heap.size 148 .u32 (yT so rd sc) (Dg.dg 4294967296 rd))(hb:yB w wb):
  Xn w (.pointer (some ⟨wb.heap.size,0,none⟩)) (.bool hd) hd rd rk (wb.alloc (.cells #[yT so rd sc,yi rk] 182)):=by
 have ba:=af wb (.cells #[yT so rd sc,yi rk] 182);have:=hc.lt;exact⟨_,so,sc,rfl,rfl,by omega,by omega,ah wb [yT so rd sc,yi rk] 182,ho.l ba,hc.l ba,aa hb ba⟩
theorem Is {w wb:World}{hd:Bool}{rd:Nat}{rk:Int}{so:Option Addr}{sc nb:Nat}(hc:au wb (w.heap.size+1+1) 182 [yN,yi 0])(hn:au wb nb 182 [yN,yi 0])(ho:Own wb w.heap.size 148 .u32 (yT so rd sc) (Dg.dg 4294967296 rd))(hb:yB w wb)(h1:w.heap.size+1+1≠nb)(h2:w.heap.size≤nb):
  Xn w (.pointer (some ⟨nb,0,none⟩)) (.bool hd) hd rd rk ((wb.setCell ⟨nb,0,none⟩ (yT so rd sc)).setCell ⟨nb,1,none⟩ (yi rk)):=by
 have bu:=(ag wb nb 0 (yT so rd sc)).trans (ag _ nb 1 (yi rk));exact⟨nb,so,sc,rfl,rfl,h1,h2,(hn.set 0 _).set 1 _,bu.own ho hn (by decide),bu.loc hc h1,bu.below hb h2⟩
theorem acT (R D L G:Int)(gr s:Bool)(ao:Option Addr)(la ca:Nat)(e dc gc c:Int)(hd:Bool)(rd:Nat)(rk:Int)(w:World)
  (HA: ¬dc=0→hd=false∧rd=0∧rk=0∧c=dc) (HB:dc=0→ ¬gc=0→hd=false∧rd=0∧rk=0∧c=gc) (HC:dc=0→gc=0→c=0)
  (HD:yH w 197 #[ydV s (.slice ao la ca) e] (yi dc))
  (HG:yJ 120 #[ygV R D L G gr] (yi gc))
  (HO:yJ 98 #[ydV s (.slice ao la ca) e] (ydV s (.slice ao la ca) e))
  (HF:dc=0→gc=0→ ∀w1,yB w w1→yC 198 #[ygV R D L G gr,ydV s (.slice ao la ca) e] w1 (D7 w1 hd rd rk)):
  yC 177 #[ydV s (.slice ao la ca) e,ygV R D L G gr] w (DM w hd rd rk c):=by
 replace HA:Hid _:=HA;replace HB:Hid _:=HB;replace HC:Hid _:=HC;replace HD:Hid _:=HD;replace HG:Hid _:=HG;replace HO:Hid _:=HO;replace HF:Hid _:=HF;have b1:=aa (aa (af w (.cells (ydA s (.slice ao la ca) e) 72)) (af _ (.cells (ygA R D L G gr) 48))) (af _ (.cells #[yN,yi 0] 182));have q1:=((ah w (ydL s (.slice ao la ca) e) 72).l (af _ (.cells (ygA R D L G gr) 48))).l (af _ (.cells #[yN,yi 0] 182));have g1:=(ah (w.alloc (.cells (ydA s (.slice ao la ca) e) 72)) (ygL R D L G gr) 48).l (af _ (.cells #[yN,yi 0] 182));have c1:=ah ((w.alloc (.cells (ydA s (.slice ao la ca) e) 72)).alloc (.cells (ygA R D L G gr) 48)) [yN,yi 0] 182;simp only[World.size_alloc] at g1 c1
 by_cases hdc:dc=0
 ·have HB1:Hid _:=HB.out hdc
  have HC1:Hid _:=HC.out hdc;have HF1:Hid _:=HF.out hdc;clear HA HB HC HF;subst hdc
  by_cases hgc:gc=0
  ·have hc:=HC1.out hgc
   have HF2:Hid _:=HF1.out hgc;clear HB1 HC1 HF1;subst hgc hc;obtain⟨y0,y1,y2⟩:=q1.cs3
   go_enter func177,ntmps177
   go_wp2_with fail
   refine(HD.out _ b1).mono ?_;rintro z w2 ⟨rfl,bb2⟩;clear y0 y1 y2;have g_2:=g1.l bb2;have q_2:=q1.l bb2;have c_2:=c1.l bb2;have b0_2:=aa b1 bb2;clear g1 q1 c1 b1 bb2;obtain⟨x0,x1,x2,x3,x4⟩:=g_2.cs5
   go_wp2_with fail
   refine(HG.out _).mono ?_;rintro z w3 ⟨rfl,bb3⟩;have g_3:=g_2.l bb3;have q_3:=q_2.l bb3;have c_3:=c_2.l bb3;have b0_3:=aa b0_2 bb3;clear g_2 q_2 c_2 b0_2 bb3;clear x0 x1 x2 x3 x4;have hR3:w.heap.size+1+1<w3.heap.size:=c_3.lt;have be:yB w3 (w3.alloc (.cells #[yN,yi 0] 182)).drew:=(af w3 (.cells #[yN,yi 0] 182)).drew;have g_e:=g_3.l be;have q_e:=q_3.l be;have c_e:=c_3.l be;have n_e:=(ah w3 [yN,yi 0] 182).drew;have b_e:=aa b0_3 be;have bd_3:yB w3 w3.drew:=(Below.refl _ _).drew;have g_4:=g_3.l bd_3;have q_4:=q_3.l bd_3;have c_4:=c_3.l bd_3;have b0_4:=aa b0_3 bd_3;clear g_3 q_3 c_3 b0_3 bd_3;obtain⟨x0,x1,x2,x3,x4⟩:=g_4.cs5;obtain⟨y0,y1,y2⟩:=q_4.cs3;have nn0:w3.heap.size≠w.heap.size+1:=by omega
   have nn1:w3.heap.size≠w.heap.size:=by omega
   obtain⟨xe0,xe1,xe2,xe3,xe4⟩:=g_e.cs5;obtain⟨ye0,ye1,ye2⟩:=q_e.cs3
   go_upto_region 7 with fail
   go_cut [9,10] (fun s9 s10 wx=>Xn w s9 s10 hd rd rk wx)
   case first=>
    go_wp2_with fail
    go_region_held3 (fun wq=>(wq.cell? ⟨w.heap.size+1,0,none⟩=some (yi R)∧wq.cell? ⟨w.heap.size+1,1,none⟩=some (yi D)∧wq.cell? ⟨w.heap.size+1,2,none⟩=some (yi L)∧wq.cell? ⟨w.heap.size+1,3,none⟩=some (yi G)∧wq.cell? ⟨w.heap.size+1,4,none⟩=some (.bool gr))∧wq.cell? ⟨w.heap.size,0,none⟩=some (.bool s)∧wq.cell? ⟨w.heap.size,1,none⟩=some (.slice ao la ca)∧wq.cell? ⟨w.heap.size,2,none⟩=some (yi e)) (go_keep) (first
     | (go_at_call 98;refine(HO.out _).mono ?_;rintro z wa ⟨rfl,ba⟩;have g_wa:=g_4.l ba;have q_wa:=q_4.l ba;have c_wa:=c_4.l ba;have b_wa:=aa b0_4 ba;obtain⟨xwa0,xwa1,xwa2,xwa3,xwa4⟩:=g_wa.cs5;obtain⟨ywa0,ywa1,ywa2⟩:=q_wa.cs3;have m0_wa:=World.new_ne wa _ xwa0;have m1_wa:=World.new_ne wa _ ywa0;have zab:=af wa (.cells #[yN,yi 0] 182);have zag:=g_wa.l zab;have zaq:=q_wa.l zab;obtain⟨zax0,zax1,zax2,zax3,zax4⟩:=zag.cs5;obtain⟨zay0,zay1,zay2⟩:=zaq.cs3)
     | (go_at_call 98;refine(HO.out _).mono ?_;rintro z wa ⟨rfl,ba⟩;have g_wa:=g_e.l ba;have q_wa:=q_e.l ba;have c_wa:=c_e.l ba;have n_wa:=n_e.l ba;have b_wa:=aa b_e ba;obtain⟨xwa0,xwa1,xwa2,xwa3,xwa4⟩:=g_wa.cs5;obtain⟨ywa0,ywa1,ywa2⟩:=q_wa.cs3;have m0_wa:=World.new_ne wa _ xwa0;have m1_wa:=World.new_ne wa _ ywa0)
     | (go_at_call 198;have n_x:=n_wa;clear n_x;refine(HF2.out _ b_wa).mono ?_;rintro z wb ⟨u,rfl,ou,bb⟩;have oL:=ou.lower b_wa.size;have g_wb:=g_wa.l bb;have q_wb:=q_wa.l bb;have c_wb:=c_wa.l bb;have n_wb:=n_wa.l bb;have b_wb:=aa b_wa bb;obtain⟨so,sc,hu⟩:=ou.rd.shape;subst hu;obtain⟨xwb0,xwb1,xwb2,xwb3,xwb4⟩:=g_wb.cs5;obtain⟨ywb0,ywb1,ywb2⟩:=q_wb.cs3;have m0_wb:=World.new_ne wb _ xwb0;have m1_wb:=World.new_ne wb _ ywb0;obtain⟨d0,d1⟩:=n_wb.cs2;have f0:=n_wb.f 0;have f1:=n_wb.f 1)
     | (go_at_call 198;refine(HF2.out _ b_wa).mono ?_;rintro z wb ⟨u,rfl,ou,bb⟩;have oL:=ou.lower b_wa.size;have g_wb:=g_wa.l bb;have q_wb:=q_wa.l bb;have c_wb:=c_wa.l bb;have b_wb:=aa b_wa bb;obtain⟨so,sc,hu⟩:=ou.rd.shape;subst hu;obtain⟨xwb0,xwb1,xwb2,xwb3,xwb4⟩:=g_wb.cs5;obtain⟨ywb0,ywb1,ywb2⟩:=q_wb.cs3;have m0_wb:=World.new_ne wb _ xwb0;have m1_wb:=World.new_ne wb _ ywb0;have zbb:=af wb (.cells #[yN,yi 0] 182);have zbg:=g_wb.l zbb;have zbq:=q_wb.l zbb;obtain⟨zbx0,zbx1,zbx2,zbx3,zbx4⟩:=zbg.cs5;obtain⟨zby0,zby1,zby2⟩:=zbq.cs3;have zcb:=af wb (.cells #[yT so rd sc,yi rk] 182);have zcg:=g_wb.l zcb;have zcq:=q_wb.l zcb;obtain⟨zcx0,zcx1,zcx2,zcx3,zcx4⟩:=zcg.cs5;obtain⟨zcy0,zcy1,zcy2⟩:=zcq.cs3)
     | (go_at_call 198;have bn:=af wa (.cells #[yN,yi 0] 182);refine(HF2.out _ (aa b_wa bn)).mono ?_;rintro z wb ⟨u,rfl,ou,bb⟩;have oL:=ou.lower (aa b_wa bn).size;have hRa:w.heap.size+1+1<wa.heap.size:=c_wa.lt;have kk0:wa.heap.size≠w.heap.size+1:=(by omega);have kk1:wa.heap.size≠w.heap.size:=(by omega);have g_wb:=(g_wa.l bn).l bb;have q_wb:=(q_wa.l bn).l bb;have c_wb:=(c_wa.l bn).l bb;have n_wb:=(ah wa [yN,yi 0] 182).l bb;have b_wb:=aa (aa b_wa bn) bb;obtain⟨so,sc,hu⟩:=ou.rd.shape;subst hu;obtain⟨xwb0,xwb1,xwb2,xwb3,xwb4⟩:=g_wb.cs5;obtain⟨ywb0,ywb1,ywb2⟩:=q_wb.cs3;have m0_wb:=World.new_ne wb _ xwb0;have m1_wb:=World.new_ne wb _ ywb0;obtain⟨d0,d1⟩:=n_wb.cs2;have f0:=n_wb.f 0;have f1:=n_wb.f 1))
    all_goals (go_wp2_with fail)
    all_goals (first
     | (go_meet;exact TI c_wb oL b_wb)
     | (go_meet;exact Is c_wb n_wb oL b_wb (by omega) (by omega))
     | (go_meet;exact Is c_wb n_wb oL b_wb (by omega) (by omega)))
   case rest=>
    obtain⟨pb,so,sc,rfl,rfl,hpb,hpw,n9,o9,c9,b9⟩:=hcut;clear g_4 q_4 c_4 b0_4 g_e q_e c_e n_e b_e be nn0 nn1 x0 x1 x2 x3 x4 y0 y1 y2 xe0 xe1 xe2 xe3 xe4 ye0 ye1 ye2;obtain⟨p0,p1⟩:=n9.cs2;have d0:=c9.c 0 rfl;have f0:=c9.f 0;have d1:=c9.c 1 rfl;have f1:=c9.f 1
    go_wp2
    have bu:But (w.heap.size+1+1) wc ((wc.setCell ⟨w.heap.size+1+1,0,none⟩ (yT so rd sc)).setCell ⟨w.heap.size+1+1,1,none⟩ (yi rk)):=(ag wc (w.heap.size+1+1) 0 (yT so rd sc)).trans (ag _ (w.heap.size+1+1) 1 (yi rk));have cX:au ((wc.setCell ⟨w.heap.size+1+1,0,none⟩ (yT so rd sc)).setCell ⟨w.heap.size+1+1,1,none⟩ (yi rk)) (w.heap.size+1+1) 182 [yT so rd sc,yi rk]:=(c9.set 0 (yT so rd sc)).set 1 (yi rk);have bX:=bu.below b9 (show w.heap.size≤w.heap.size+1+1 by omega)
    have oX:=bu.own o9 c9 (by decide);obtain⟨s0,s1⟩:=cX.cs2;refine bodyPost_ret (v:= .tuple #[.agg #[yT so rd sc,yi rk],.bool hd,yi 0]) (by simp[results,results177,go_sem,s0,s1]) rfl ?_;exact⟨_,rfl,oX,bX⟩
  ·obtain⟨h1,h2,h3,h4⟩:=HB1.out hgc
   clear HB1 HC1 HF1;have hgf:(gc==0)=false:=by simp[hgc]
   subst h1 h2 h3 h4;obtain⟨y0,y1,y2⟩:=q1.cs3
   go_enter func177,ntmps177
   go_wp2_with fail
   refine(HD.out _ b1).mono ?_;rintro z w2 ⟨rfl,bb2⟩;clear y0 y1 y2;have g_2:=g1.l bb2;have q_2:=q1.l bb2;have c_2:=c1.l bb2;have b0_2:=aa b1 bb2;clear g1 q1 c1 b1 bb2;obtain⟨x0,x1,x2,x3,x4⟩:=g_2.cs5
   go_wp2_with fail
   refine(HG.out _).mono ?_;rintro z w3 ⟨rfl,bb3⟩;have g_3:=g_2.l bb3;have q_3:=q_2.l bb3;have c_3:=c_2.l bb3;have b0_3:=aa b0_2 bb3;clear g_2 q_2 c_2 b0_2 bb3;clear x0 x1 x2 x3 x4;have d0:=c_3.c 0 rfl;have f0:=c_3.f 0;have d1:=c_3.c 1 rfl;have f1:=c_3.f 1
   go_wp2
   have bu:But (w.heap.size+1+1) w3 ((w3.setCell ⟨w.heap.size+1+1,0,none⟩ yN).setCell ⟨w.heap.size+1+1,1,none⟩ (yi 0)):=(ag w3 (w.heap.size+1+1) 0 yN).trans (ag _ (w.heap.size+1+1) 1 (yi 0));have cX:au ((w3.setCell ⟨w.heap.size+1+1,0,none⟩ yN).setCell ⟨w.heap.size+1+1,1,none⟩ (yi 0)) (w.heap.size+1+1) 182 [yN,yi 0]:=(c_3.set 0 yN).set 1 (yi 0);have bX:=bu.below b0_3 (show w.heap.size≤w.heap.size+1+1 by omega)
   obtain⟨s0,s1⟩:=cX.cs2;refine bodyPost_ret (v:= .tuple #[.agg #[yN,yi 0],.bool false,yi c]) (by simp[results,results177,go_sem,s0,s1]) rfl ?_;exact⟨_,rfl,aQ _ _ _ _,bX⟩
 ·obtain⟨h1,h2,h3,h4⟩:=HA.out hdc
  clear HA HB HC HF;have hdf:(dc==0)=false:=by simp[hdc]
  subst h1 h2 h3 h4;obtain⟨y0,y1,y2⟩:=q1.cs3
  go_enter func177,ntmps177
  go_wp2_with fail
  refine(HD.out _ b1).mono ?_;rintro z w2 ⟨rfl,bb2⟩;clear y0 y1 y2;have g_2:=g1.l bb2;have q_2:=q1.l bb2;have c_2:=c1.l bb2;have b0_2:=aa b1 bb2;clear g1 q1 c1 b1 bb2;have d0:=c_2.c 0 rfl;have f0:=c_2.f 0;have d1:=c_2.c 1 rfl;have f1:=c_2.f 1
  go_wp2
  have bu:But (w.heap.size+1+1) w2 ((w2.setCell ⟨w.heap.size+1+1,0,none⟩ yN).setCell ⟨w.heap.size+1+1,1,none⟩ (yi 0)):=(ag w2 (w.heap.size+1+1) 0 yN).trans (ag _ (w.heap.size+1+1) 1 (yi 0));have cX:au ((w2.setCell ⟨w.heap.size+1+1,0,none⟩ yN).setCell ⟨w.heap.size+1+1,1,none⟩ (yi 0)) (w.heap.size+1+1) 182 [yN,yi 0]:=(c_2.set 0 yN).set 1 (yi 0);have bX:=bu.below b0_2 (show w.heap.size≤w.heap.size+1+1 by omega)
  obtain⟨s0,s1⟩:=cX.cs2;refine bodyPost_ret (v:= .tuple #[.agg #[yN,yi 0],.bool false,yi c]) (by simp[results,results177,go_sem,s0,s1]) rfl ?_;exact⟨_,rfl,aQ _ _ _ _,bX⟩
theorem nh (R D L G:Int)(gr:Bool)(w:World):
  yC 68 #[ygV R D L G gr] w (yR w (yi (xg R))):=by
 have bA:=af w (.cells (ygA R D L G gr) 48);unfold xg
 by_cases h:R=16
 ·rw[if_pos h]
  subst h
  go_enter func68,ntmps68
  go_wp2
  go_ret
  exact⟨rfl,bA⟩
 ·rw[if_neg h]
  have e:(R==16)=false:=by simp;exact h
  go_enter func68,ntmps68
  go_wp2
  go_ret
  exact⟨rfl,bA⟩
theorem KW (neg odd:Bool)(half:Int)(w:World):
  yC 93 #[yi 1,.bool neg,.bool odd,yi half] w fun z w'=>z= .returned (.bool (gY 1 half odd neg))∧w'=w:=by
 unfold gY
 by_cases h:0<half
 ·go_enter func93,ntmps93
  go_wp2
  go_ret
  simp
 ·by_cases h0:half=0
  ·subst h0
   cases odd
   ·go_enter func93,ntmps93
    go_wp2
    go_ret
    simp
   ·go_enter func93,ntmps93
    go_wp2
    go_ret
    simp
  ·have e:(half==0)=false:=by simp;exact h0
   go_enter func93,ntmps93
   go_wp2
   go_ret
   simp;omega
theorem KX (neg odd:Bool)(half:Int)(w:World):
  yC 93 #[yi 2,.bool neg,.bool odd,yi half] w fun z w'=>z= .returned (.bool (gY 2 half odd neg))∧w'=w:=by
 unfold gY
 go_enter func93,ntmps93
 go_wp2
 go_ret
 simp
theorem KY (neg odd:Bool)(half:Int)(w:World):
  yC 93 #[yi 3,.bool neg,.bool odd,yi half] w fun z w'=>z= .returned (.bool (gY 3 half odd neg))∧w'=w:=by
 unfold gY
 go_enter func93,ntmps93
 go_wp2
 go_ret
 simp
theorem KZ (neg odd:Bool)(half:Int)(w:World):
  yC 93 #[yi 4,.bool neg,.bool odd,yi half] w fun z w'=>z= .returned (.bool (gY 4 half odd neg))∧w'=w:=by
 unfold gY
 go_enter func93,ntmps93
 go_wp2
 go_ret
 simp
theorem K3 (neg odd:Bool)(half:Int)(w:World):
  yC 93 #[yi 5,.bool neg,.bool odd,yi half] w fun z w'=>z= .returned (.bool (gY 5 half odd neg))∧w'=w:=by
 unfold gY
 go_enter func93,ntmps93
 go_wp2
 go_ret
 simp
theorem Od {way:Int}(hw:iC way=true)(neg odd:Bool)(half:Int)(w:World):
  yC 93 #[yi way,.bool neg,.bool odd,yi half] w fun z w'=>z= .returned (.bool (gY way half odd neg))∧w'=w:=by
 rcases zi hw with rfl|rfl|rfl|rfl|rfl
 ·exact KW neg odd half w
 ·exact KX neg odd half w
 ·exact KY neg odd half w
 ·exact KZ neg odd half w
 ·exact K3 neg odd half w
def onC (dc gc:Int):Int:=if dc=0 then gc else dc
def um (xs:List Nat)(e R D L G:Int)(gr:Bool):Bool:=if onC (aS xs e) (bk R D L G)=0 then dA R D L G gr (Dg.vl 4294967296 xs) e else false
def Zo (xs:List Nat)(e R D L G:Int)(gr:Bool):Nat:=if onC (aS xs e) (bk R D L G)=0 then fD R D L G gr (Dg.vl 4294967296 xs) e else 0
def Zp (xs:List Nat)(e R D L G:Int)(gr:Bool):Int:=if onC (aS xs e) (bk R D L G)=0 then fK R D L G gr (Dg.vl 4294967296 xs) e else 0
theorem Ja (R D L G:Int)(gr s:Bool)(ao:Option Addr)(ca:Nat)(xs:List Nat)(e:Int)(w:World)(hr:Rd w .u32 (.slice ao xs.length ca) xs)(sa:Dg.Small 4294967296 xs)(hT:Tab w):
  yC 177 #[ydV s (.slice ao xs.length ca) e,ygV R D L G gr] w (DM w (um xs e R D L G gr) (Zo xs e R D L G gr) (Zp xs e R D L G gr) (onC (aS xs e) (bk R D L G))):=by
 have herr: ¬onC (aS xs e) (bk R D L G)=0→um xs e R D L G gr=false∧Zo xs e R D L G gr=0∧Zp xs e R D L G gr=0:=fun h=>⟨if_neg h,if_neg h,if_neg h⟩
 refine acT R D L G gr s ao _ ca e (aS xs e) (bk R D L G) _ _ _ _ w ?_ ?_ ?_ ?_ ?_ ?_ ?_
 ·intro h
  have h1:onC (aS xs e) (bk R D L G)=aS xs e:=if_neg h;obtain⟨a,b,c⟩:=herr (by rw[h1];exact h);exact⟨a,b,c,h1⟩
 ·intro h h2
  have h1:onC (aS xs e) (bk R D L G)=bk R D L G:=if_pos h;obtain⟨a,b,c⟩:=herr (by rw[h1];exact h2);exact⟨a,b,c,h1⟩
 ·intro h h2
  exact(if_pos h).trans h2
 ·intro w1 b
  exact nS s ao ca xs e w1 (hr.l b)
 ·intro w1
  exact vE R D L G gr w1
 ·intro w1
  exact iK s ao _ ca e w1
 ·intro h h2 w1 b
  have h1:onC (aS xs e) (bk R D L G)=0:=(if_pos h).trans h2;rw[show um xs e R D L G gr=_ from if_pos h1,show Zo xs e R D L G gr=_ from if_pos h1,show Zp xs e R D L G gr=_ from if_pos h1]
  obtain⟨c1,e1,e2⟩:=bL h;obtain⟨n1,l1⟩:=aF c1;have ex:Dg.dg 4294967296 (Dg.vl 4294967296 xs)=xs:=Dg.dg_vl _ (by omega) _ sa n1;have:=VU R D L G gr s ao ca (Dg.vl 4294967296 xs) e w1 h2 (by rw[ex];exact hr.l b) (by rw[ex];exact l1) e1 e2 (hT.l b)
  rwa [ex] at this
theorem BE {a L:Nat}(h:(Dg.dg 65536 a).length≤L):bitLen a≤16*L:=by
 refine bF a _ ?_;rw[Nat.pow_mul];have h1:=Dg.vl_lt 65536 _ (Dg.small_dg 65536 a (by omega));rw[Dg.vl_dg _ _ (by omega)] at h1;exact Nat.lt_of_lt_of_le h1 (Nat.pow_le_pow_right (by omega) h)
theorem Gh (R D e:Int)(bl:Nat)(h: -79000≤e+bl):(e+(bl:Int)-1+80000).tdiv (ai R)-(80000:Int).tdiv (ai R)-D+1=aT R D (e+(bl:Int)-1):=by
 rw[Int.tdiv_eq_ediv_of_nonneg (by omega),Int.tdiv_eq_ediv_of_nonneg (by omega)];unfold aT ai
 split<;>simp<;>omega
end Go.Proofs.YtbdokgamhinajaaGreatDoor

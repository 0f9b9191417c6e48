/-
  Texts laid together: Gh1.
-/
import Derived.Test.YtnhackdjplppjaaGreatDoorSp15
set_option maxRecDepth 100000
namespace Go.Proofs.YtnhackdjplppjaaGreatDoor
open Go.RowKit
def FindRes (w:World) (h:Bool) (d:Nat) (k:Int) (e:Ending) (w':World):Prop:=
 ∃u,e= .returned (.tuple #[.agg #[u,yi k],.bool h])∧Own w' w.heap.size 141 .u32 u (Dg.dg 4294967296 d)∧Below w.heap.size w w'
theorem field_dyad (b:Bool) (x:Option Addr) (y z:Nat) (e:Int) (W:World):(Instr.field 96 (ydV b (.slice x y z) e) 0).run Tryz.prog W= .ok (ydV b (.slice x y z) e) W:=by kernel_rfl
theorem field_exp (b:Bool) (x:Option Addr) (y z:Nat) (e:Int) (W:World):(Instr.field 82 (ydV b (.slice x y z) e) 2).run Tryz.prog W= .ok (yi e) W:=by kernel_rfl
set_option maxHeartbeats 1600000 in
theorem mfind_zero (R D L G:Int) (gr s:Bool) (ao:Option Addr) (la ca:Nat) (e:Int) (w:World)
  (HSG: ∀w1,Below w.heap.size w w1→Calls Tryz.prog 166 #[ydV s (.slice ao la ca) e] w1 fun z w'=>z= .returned (yi 0)∧Below w1.heap.size w1 w'):
  Calls Tryz.prog 163 #[ygV R D L G gr,ydV s (.slice ao la ca) e] w (FindRes w true 0 L):=by
 replace HSG:Hid _:=HSG;have b1:=below_trans (below_trans (below_alloc w (.cells (ygL R D L G gr).toArray 159)) (below_alloc _ (.cells (ydL s (.slice ao la ca) e).toArray 96))) (below_alloc _ (.cells #[.slice none 0 0,yi 0] 163));have g1:=((locE_new w (ygL R D L G gr) 159).later (below_alloc _ (.cells (ydL s (.slice ao la ca) e).toArray 96))).later (below_alloc _ (.cells #[.slice none 0 0,yi 0] 163));have q1:=(locE_new (w.alloc (.cells (ygL R D L G gr).toArray 159)) (ydL s (.slice ao la ca) e) 96).later (below_alloc _ (.cells #[.slice none 0 0,yi 0] 163));have c1:=locE_new ((w.alloc (.cells (ygL R D L G gr).toArray 159)).alloc (.cells (ydL s (.slice ao la ca) e).toArray 96)) [.slice none 0 0,yi 0] 163;simp only[World.size_alloc] at q1 c1;obtain⟨y0,y1,y2⟩:=q1.cs3
 go_enter Tryz.func163,Tryz.ntmps163
 go_wp2_with fail
 refine(HSG.out _ b1).mono ?_;rintro z w2 ⟨rfl,bb2⟩;clear y0 y1 y2;have g_2:=g1.later bb2;have q_2:=q1.later bb2;have c_2:=c1.later bb2;have b0_2:=below_trans b1 bb2;clear g1 q1 c1 b1 bb2;have x2:=g_2.cell 2 rfl;have d0:=c_2.cell 0 rfl;have f0:=c_2.free 0;have d1:=c_2.cell 1 rfl;have f1:=c_2.free 1
 go_wp2
 have bu:But (w.heap.size+1+1) w2 ((w2.setCell ⟨w.heap.size+1+1,0,none⟩ (.slice none 0 0)).setCell ⟨w.heap.size+1+1,1,none⟩ (yi L)):=(but_set w2 (w.heap.size+1+1) 0 (.slice none 0 0)).trans (but_set _ (w.heap.size+1+1) 1 (yi L));have cX:LocE ((w2.setCell ⟨w.heap.size+1+1,0,none⟩ (.slice none 0 0)).setCell ⟨w.heap.size+1+1,1,none⟩ (yi L)) (w.heap.size+1+1) 163 [.slice none 0 0,yi L]:=(c_2.set 0 (.slice none 0 0)).set 1 (yi L);have bX:=bu.below b0_2 (show w.heap.size≤w.heap.size+1+1 by omega)
 obtain⟨s0,s1⟩:=cX.cs2;refine bodyPost_ret (v:= .tuple #[.agg #[.slice none 0 0,yi L],.bool true]) (by simp[results,Tryz.results163,go_sem,s0,s1]) rfl ?_;exact⟨_,rfl,own_nil _ _ _ _,bX⟩
set_option maxHeartbeats 6400000 in
theorem mfindW (R D L G:Int) (gr s:Bool) (ao:Option Addr) (la ca:Nat) (e sg bl pw K wd:Int) (bs:Bool) (bn:Nat) (be:Int) (un bb hb:Bool) (rd:Nat) (rk:Int) (w:World)
  (hsg:(sg==0)=false) (W1:IntKind.i64.wrap (bl-1)=bl-1) (W2:IntKind.i64.wrap (bl-1+e)=bl-1+e) (W3:IntKind.i64.wrap (wd*K)=wd*K) (W4:IntKind.i64.wrap (e-wd*K)=e-wd*K)
  (hun:un=decide (pw<L)) (hbb:(un&&gr)=bb) (HP1:bb=true→K=L) (HP2:bb=false→K=pw)
  (HH1:hb=true→ ¬K<L∧ ¬G<K∧ ¬be<wd*K) (HH2:hb=false→K<L∨(¬K<L∧G<K)∨(¬K<L∧ ¬G<K∧be<wd*K)) (HR1:hb=true→rk=K) (HR2:hb=false→rd=0∧rk=0)
  (HSG: ∀w1,Below w.heap.size w w1→Calls Tryz.prog 166 #[ydV s (.slice ao la ca) e] w1 fun z w'=>z= .returned (yi sg)∧Below w1.heap.size w1 w')
  (HDI: ∀w1,Calls Tryz.prog 172 #[ydV s (.slice ao la ca) e] w1 fun z w'=>z= .returned (.slice ao la ca)∧Below w1.heap.size w1 w')
  (HBI: ∀w1,Below w.heap.size w w1→Calls Tryz.prog 176 #[.slice ao la ca] w1 fun z w'=>z= .returned (yi bl)∧Below w1.heap.size w1 w')
  (HPW: ∀w1,Calls Tryz.prog 188 #[ygV R D L G gr,yi (bl-1+e)] w1 fun z w'=>z= .returned (yi pw)∧Below w1.heap.size w1 w')
  (HWD: ∀w1,Calls Tryz.prog 160 #[ygV R D L G gr] w1 fun z w'=>z= .returned (yi wd)∧Below w1.heap.size w1 w')
  (HBA: ∀w1,Below w.heap.size w w1→Calls Tryz.prog 161 #[ydV s (.slice ao la ca) e] w1 (DRes w1 ⟨bs,bn,be⟩))
  (HSH:hb=true→ ∀w1,Below w.heap.size w w1→Calls Tryz.prog 177 #[.slice ao la ca,yi (e-wd*K)] w1 (Num w1 rd)):
  Calls Tryz.prog 163 #[ygV R D L G gr,ydV s (.slice ao la ca) e] w (FindRes w hb rd rk):=by
 replace HP1:Hid _:=HP1;replace HP2:Hid _:=HP2;replace HH1:Hid _:=HH1;replace HH2:Hid _:=HH2;replace HR1:Hid _:=HR1;replace HR2:Hid _:=HR2;replace HSG:Hid _:=HSG;replace HDI:Hid _:=HDI;replace HBI:Hid _:=HBI;replace HPW:Hid _:=HPW;replace HWD:Hid _:=HWD;replace HBA:Hid _:=HBA;replace HSH:Hid _:=HSH;have HUN:Hid _:=hun;have HBB:Hid _:=hbb;clear hun hbb;have b1:=below_trans (below_trans (below_alloc w (.cells (ygL R D L G gr).toArray 159)) (below_alloc _ (.cells (ydL s (.slice ao la ca) e).toArray 96))) (below_alloc _ (.cells #[.slice none 0 0,yi 0] 163));have g1:=((locE_new w (ygL R D L G gr) 159).later (below_alloc _ (.cells (ydL s (.slice ao la ca) e).toArray 96))).later (below_alloc _ (.cells #[.slice none 0 0,yi 0] 163));have q1:=(locE_new (w.alloc (.cells (ygL R D L G gr).toArray 159)) (ydL s (.slice ao la ca) e) 96).later (below_alloc _ (.cells #[.slice none 0 0,yi 0] 163));have c1:=locE_new ((w.alloc (.cells (ygL R D L G gr).toArray 159)).alloc (.cells (ydL s (.slice ao la ca) e).toArray 96)) [.slice none 0 0,yi 0] 163;simp only[World.size_alloc] at q1 c1;obtain⟨y0,y1,y2⟩:=q1.cs3
 go_enter Tryz.func163,Tryz.ntmps163
 go_wp2_with fail
 refine(HSG.out _ b1).mono ?_;rintro z w2 ⟨rfl,bb2⟩;clear y0 y1 y2;have g_2:=g1.later bb2;have q_2:=q1.later bb2;have c_2:=c1.later bb2;have b0_2:=below_trans b1 bb2;clear g1 q1 c1 b1 bb2;have bd_2:Below w2.heap.size w2 w2.drew:=(Below.refl _ _).drew;have g_3:=g_2.later bd_2;have q_3:=q_2.later bd_2;have c_3:=c_2.later bd_2;have b0_3:=below_trans b0_2 bd_2;clear g_2 q_2 c_2 b0_2 bd_2;obtain⟨x0,x1,x2,x3,x4⟩:=g_3.cs5;obtain⟨y0,y1,y2⟩:=q_3.cs3
 go_wp2_with fail
 go_region_held3 (fun wq=>(wq.cell? ⟨w.heap.size,0,none⟩=some (yi R)∧wq.cell? ⟨w.heap.size,1,none⟩=some (yi D)∧wq.cell? ⟨w.heap.size,2,none⟩=some (yi L)∧wq.cell? ⟨w.heap.size,3,none⟩=some (yi G)∧wq.cell? ⟨w.heap.size,4,none⟩=some (.bool gr))∧wq.cell? ⟨w.heap.size+1,0,none⟩=some (.bool s)∧wq.cell? ⟨w.heap.size+1,1,none⟩=some (.slice ao la ca)∧wq.cell? ⟨w.heap.size+1,2,none⟩=some (yi e)) (go_keep) (first
  | (go_at_call 172;have hgd:=b0_3;clear hgd;refine(HDI.out _).mono ?_;rintro z wa ⟨rfl,bb_wa⟩;have b0_wa:=below_trans b0_3 bb_wa;have g_wa:=g_3.later bb_wa;have q_wa:=q_3.later bb_wa;have c_wa:=c_3.later bb_wa;obtain⟨xwa0,xwa1,xwa2,xwa3,xwa4⟩:=g_wa.cs5;obtain⟨ywa0,ywa1,ywa2⟩:=q_wa.cs3;clear b0_3)
  | (go_at_call 176;have hgd:=b0_wa;clear hgd;refine(HBI.out _ b0_wa).mono ?_;rintro z wb ⟨rfl,bb_wb⟩;have b0_wb:=below_trans b0_wa bb_wb;have g_wb:=g_wa.later bb_wb;have q_wb:=q_wa.later bb_wb;have c_wb:=c_wa.later bb_wb;obtain⟨xwb0,xwb1,xwb2,xwb3,xwb4⟩:=g_wb.cs5;obtain⟨ywb0,ywb1,ywb2⟩:=q_wb.cs3;clear b0_wa)
  | (go_at_call 188;have hgd:=b0_wb;clear hgd;refine(HPW.out _).mono ?_;rintro z wc ⟨rfl,bb_wc⟩;have b0_wc:=below_trans b0_wb bb_wc;have g_wc:=g_wb.later bb_wc;have q_wc:=q_wb.later bb_wc;have c_wc:=c_wb.later bb_wc;obtain⟨xwc0,xwc1,xwc2,xwc3,xwc4⟩:=g_wc.cs5;obtain⟨ywc0,ywc1,ywc2⟩:=q_wc.cs3;clear b0_wb))
 go_goals
 clear x0 x1 x2 x3 x4 y0 y1 y2 xwa0 xwa1 xwa2 xwa3 xwa4 xwb0 xwb1 xwb2 xwb3 xwb4 xwc0 xwc1 xwc2 xwc3 xwc4 ywa0 ywa1 ywa2 ywb0 ywb1 ywb2 ywc0 ywc1 ywc2;have x2:=g_wc.cell 2 rfl;have x4:=g_wc.cell 4 rfl;have hlt:decide (pw<L)=un:=HUN.out.symm
 go_upto_region 4 with fail
 skip
 go_cut [34] (fun s34 wx=>s34= .bool bb∧wx=wc)
 case first=>
  cases un
  ·go_wp2_with fail
   go_meet
   exact⟨by rw[←HBB.out];rfl,rfl⟩
  ·go_wp2_with fail
   go_meet
   exact⟨by rw[←HBB.out];rfl,rfl⟩
 case rest=>
  obtain⟨rfl,hw34⟩:=hcut;subst hw34
  go_upto_if 34 with fail
  go_cut [6] (fun s6 wx=>s6=yi K∧wx=wc)
  case first=>
   cases bb
   ·have eK:Hid (K=pw):=HP2.out rfl
    go_wp2_with fail
    go_meet
    exact⟨by rw[eK.out],rfl⟩
   ·have eK:Hid (K=L):=HP1.out rfl
    go_wp2_with fail
    go_meet
    exact⟨by rw[eK.out],rfl⟩
  case rest=>
   obtain⟨rfl,hw6⟩:=hcut;subst hw6;clear x2 x4 hlt HP1 HP2;obtain⟨x0,x1,x2,x3,x4⟩:=g_wc.cs5
   go_wp2_with fail
   refine(HWD.out _).mono ?_;rintro z w5 ⟨rfl,bb5⟩;clear x0 x1 x2 x3 x4;have g_11:=g_wc.later bb5;have q_11:=q_wc.later bb5;have c_11:=c_wc.later bb5;have b0_11:=below_trans b0_wc bb5;clear g_wc q_wc c_wc b0_wc bb5;obtain⟨x0,x1,x2,x3,x4⟩:=g_11.cs5;obtain⟨y0,y1,y2⟩:=q_11.cs3
   cases hb
   ·obtain⟨rfl,rfl⟩:=HR2.out rfl
    have hx:=HH2.out rfl;clear HH1 HH2 HR1 HR2 HSH
    rcases hx with hx| ⟨hx1,hx⟩| ⟨hx1,hx2,hx⟩
    ·skip
     have d0:=c_11.cell 0 rfl;have f0:=c_11.free 0;have d1:=c_11.cell 1 rfl;have f1:=c_11.free 1
     go_wp2
     have bu:But (w.heap.size+1+1) w5 ((w5.setCell ⟨w.heap.size+1+1,0,none⟩ (.slice none 0 0)).setCell ⟨w.heap.size+1+1,1,none⟩ (yi 0)):=(but_set w5 (w.heap.size+1+1) 0 (.slice none 0 0)).trans (but_set _ (w.heap.size+1+1) 1 (yi 0));have cX:LocE ((w5.setCell ⟨w.heap.size+1+1,0,none⟩ (.slice none 0 0)).setCell ⟨w.heap.size+1+1,1,none⟩ (yi 0)) (w.heap.size+1+1) 163 [.slice none 0 0,yi 0]:=(c_11.set 0 (.slice none 0 0)).set 1 (yi 0);have bX:=bu.below b0_11 (show w.heap.size≤w.heap.size+1+1 by omega)
     obtain⟨s0,s1⟩:=cX.cs2;refine bodyPost_ret (v:= .tuple #[.agg #[.slice none 0 0,yi 0],.bool false]) (by simp[results,Tryz.results163,go_sem,s0,s1]) rfl ?_;exact⟨_,rfl,own_nil _ _ _ _,bX⟩
    ·have e1:decide (K<L)=false:=decide_eq_false (by omega)
     have d0:=c_11.cell 0 rfl;have f0:=c_11.free 0;have d1:=c_11.cell 1 rfl;have f1:=c_11.free 1
     go_wp2
     have bu:But (w.heap.size+1+1) w5 ((w5.setCell ⟨w.heap.size+1+1,0,none⟩ (.slice none 0 0)).setCell ⟨w.heap.size+1+1,1,none⟩ (yi 0)):=(but_set w5 (w.heap.size+1+1) 0 (.slice none 0 0)).trans (but_set _ (w.heap.size+1+1) 1 (yi 0));have cX:LocE ((w5.setCell ⟨w.heap.size+1+1,0,none⟩ (.slice none 0 0)).setCell ⟨w.heap.size+1+1,1,none⟩ (yi 0)) (w.heap.size+1+1) 163 [.slice none 0 0,yi 0]:=(c_11.set 0 (.slice none 0 0)).set 1 (yi 0);have bX:=bu.below b0_11 (show w.heap.size≤w.heap.size+1+1 by omega)
     obtain⟨s0,s1⟩:=cX.cs2;refine bodyPost_ret (v:= .tuple #[.agg #[.slice none 0 0,yi 0],.bool false]) (by simp[results,Tryz.results163,go_sem,s0,s1]) rfl ?_;exact⟨_,rfl,own_nil _ _ _ _,bX⟩
    ·have e1:decide (K<L)=false:=decide_eq_false (by omega)
     have e2:decide (G<K)=false:=decide_eq_false (by omega)
     go_wp2_with fail
     refine(HBA.out _ b0_11).mono ?_;rintro z w6 ⟨vb,rfl,ob6,bb6⟩;obtain⟨vo6,vc6,hvb6⟩:=ob6.rd.shape;subst hvb6;clear ob6;have hfd:=fun W=>field_dyad bs vo6 (Dg.dg 4294967296 bn).length vc6 be W
     have hfe:=fun W=>field_exp bs vo6 (Dg.dg 4294967296 bn).length vc6 be W
     clear x0 x1 x2 x3 x4 y0 y1 y2;have g_12:=g_11.later bb6;have q_12:=q_11.later bb6;have c_12:=c_11.later bb6;have b0_12:=below_trans b0_11 bb6;clear g_11 q_11 c_11 b0_11 bb6;have d0:=c_12.cell 0 rfl;have f0:=c_12.free 0;have d1:=c_12.cell 1 rfl;have f1:=c_12.free 1
     go_wp2
     have bu:But (w.heap.size+1+1) w6 ((w6.setCell ⟨w.heap.size+1+1,0,none⟩ (.slice none 0 0)).setCell ⟨w.heap.size+1+1,1,none⟩ (yi 0)):=(but_set w6 (w.heap.size+1+1) 0 (.slice none 0 0)).trans (but_set _ (w.heap.size+1+1) 1 (yi 0));have cX:LocE ((w6.setCell ⟨w.heap.size+1+1,0,none⟩ (.slice none 0 0)).setCell ⟨w.heap.size+1+1,1,none⟩ (yi 0)) (w.heap.size+1+1) 163 [.slice none 0 0,yi 0]:=(c_12.set 0 (.slice none 0 0)).set 1 (yi 0);have bX:=bu.below b0_12 (show w.heap.size≤w.heap.size+1+1 by omega)
     obtain⟨s0,s1⟩:=cX.cs2;refine bodyPost_ret (v:= .tuple #[.agg #[.slice none 0 0,yi 0],.bool false]) (by simp[results,Tryz.results163,go_sem,s0,s1]) rfl ?_;exact⟨_,rfl,own_nil _ _ _ _,bX⟩
   ·obtain⟨h1,h2,h3⟩:=HH1.out rfl
    have hrk:=HR1.out rfl;have HS1:Hid _:=HSH.out rfl;clear HH1 HH2 HR1 HR2 HSH;subst hrk;have e1:decide (rk<L)=false:=decide_eq_false (by omega);have e2:decide (G<rk)=false:=decide_eq_false (by omega);have e3:decide (be<wd*rk)=false:=decide_eq_false (by omega)
    go_wp2_with fail
    refine(HBA.out _ b0_11).mono ?_;rintro z w6 ⟨vb,rfl,ob6,bb6⟩;obtain⟨vo6,vc6,hvb6⟩:=ob6.rd.shape;subst hvb6;clear ob6;have hfd:=fun W=>field_dyad bs vo6 (Dg.dg 4294967296 bn).length vc6 be W
    have hfe:=fun W=>field_exp bs vo6 (Dg.dg 4294967296 bn).length vc6 be W
    clear x0 x1 x2 x3 x4 y0 y1 y2;have g_12:=g_11.later bb6;have q_12:=q_11.later bb6;have c_12:=c_11.later bb6;have b0_12:=below_trans b0_11 bb6;clear g_11 q_11 c_11 b0_11 bb6;have bd_12:Below w6.heap.size w6 w6.drew:=(Below.refl _ _).drew;have g_13:=g_12.later bd_12;have q_13:=q_12.later bd_12;have c_13:=c_12.later bd_12;have b0_13:=below_trans b0_12 bd_12;clear g_12 q_12 c_12 b0_12 bd_12;obtain⟨y0,y1,y2⟩:=q_13.cs3;have nA:w.heap.size+1+1≠w.heap.size+1:=by omega
    go_wp2_with fail
    go_region_held3 (fun wq=>wq.cell? ⟨w.heap.size+1,0,none⟩=some (.bool s)∧wq.cell? ⟨w.heap.size+1,1,none⟩=some (.slice ao la ca)∧wq.cell? ⟨w.heap.size+1,2,none⟩=some (yi e)) (go_keep) (first
     | (go_at_call 172;have hgd:=b0_13;clear hgd;refine(HDI.out _).mono ?_;rintro z wf ⟨rfl,bb_wf⟩;have b0_wf:=below_trans b0_13 bb_wf;have g_wf:=g_13.later bb_wf;have q_wf:=q_13.later bb_wf;have c_wf:=c_13.later bb_wf;obtain⟨ywf0,ywf1,ywf2⟩:=q_wf.cs3;clear b0_13)
     | (go_at_call 177;have hgd:=b0_wf;clear hgd;refine(HS1.out _ b0_wf).mono ?_;rintro z wg ⟨vs,rfl,os,bb_wg⟩;have b0_wg:=below_trans b0_wf bb_wg;have g_wg:=g_wf.later bb_wg;have q_wg:=q_wf.later bb_wg;have c_wg:=c_wf.later bb_wg;obtain⟨ywg0,ywg1,ywg2⟩:=q_wg.cs3;obtain⟨so,sc,hvs⟩:=os.rd.shape;subst hvs;obtain⟨d0,d1⟩:=c_wg.cs2;have f0:=c_wg.free 0;have f1:=c_wg.free 1;have oL:=os.lower b0_wf.size;clear b0_wf))
    go_goals
    clear d0 d1 f0 f1;have d0:=c_wg.cell 0 rfl;have f0:=c_wg.free 0;have d1:=c_wg.cell 1 rfl;have f1:=c_wg.free 1
    go_wp2
    have bu:But (w.heap.size+1+1) wg ((wg.setCell ⟨w.heap.size+1+1,0,none⟩ (.slice so (Dg.dg 4294967296 rd).length sc)).setCell ⟨w.heap.size+1+1,1,none⟩ (yi rk)):=(but_set wg (w.heap.size+1+1) 0 (.slice so (Dg.dg 4294967296 rd).length sc)).trans (but_set _ (w.heap.size+1+1) 1 (yi rk));have cX:LocE ((wg.setCell ⟨w.heap.size+1+1,0,none⟩ (.slice so (Dg.dg 4294967296 rd).length sc)).setCell ⟨w.heap.size+1+1,1,none⟩ (yi rk)) (w.heap.size+1+1) 163 [.slice so (Dg.dg 4294967296 rd).length sc,yi rk]:=(c_wg.set 0 (.slice so (Dg.dg 4294967296 rd).length sc)).set 1 (yi rk);have bX:=bu.below b0_wg (show w.heap.size≤w.heap.size+1+1 by omega)
    have oX:=bu.own oL c_wg (by decide);obtain⟨s0,s1⟩:=cX.cs2;refine bodyPost_ret (v:= .tuple #[.agg #[.slice so (Dg.dg 4294967296 rd).length sc,yi rk],.bool true]) (by simp[results,Tryz.results163,go_sem,s0,s1]) rfl ?_;exact⟨_,rfl,oX,bX⟩
end Go.Proofs.YtnhackdjplppjaaGreatDoor

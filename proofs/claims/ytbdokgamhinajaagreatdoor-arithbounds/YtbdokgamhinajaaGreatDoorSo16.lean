/-
  Texts laid together: Gr6, Gr7, Roo1, As1, Dy5, Dy6.
-/
import Derived.Test.YtbdokgamhinajaaGreatDoorSo14
set_option maxRecDepth 100000
set_option maxHeartbeats 4000000
namespace Go.Proofs.YtbdokgamhinajaaGreatDoor
open _root_.Go.Proofs.Tryz
open Go.RowKit
def sq (w:World)(c:Int)(t:fz)(e:Ending)(w':World):Prop:=
 ∃v,e= .returned (.tuple #[ypV t.s v t.p t.ex t.ov t.un,yi c])∧Own w' w.heap.size 148 .u32 v (Dg.dg 4294967296 t.d)∧yB w w'
def oI:fz:=⟨false,0,0,false,false,false⟩
theorem GD {P:Program}(w:World)(d:Nat){t:TypeId}{ps rs:Array TypeId}{vd:Bool}(h:P.underlying t=some (.func ps rs vd))(f:Fn)(a b:Array Value):(Op.equalIn (d+1) t (.func f a b) .nilFunc).run P w= .ok false w:=by
 simp[Op.equalIn,run_underlying h]
theorem DE {P:Program}(w:World)(d:Nat){t:TypeId}{ps rs:Array TypeId}{vd:Bool}(h:P.underlying t=some (.func ps rs vd)):(Op.equalIn (d+1) t .nilFunc .nilFunc).run P w= .ok true w:=by
 simp[Op.equalIn,run_underlying h]
theorem Rq {P:Program}(w:World){t:TypeId}{ps rs:Array TypeId}{vd:Bool}(h:P.underlying t=some (.func ps rs vd))(f:Fn)(a b:Array Value):(binOp .eql t (.func f a b) .nilFunc).run P w= .ok (.bool false) w:=by
 simp only[binOp];simp[Op.equal,Op.maxDepth,GD w 9999 h f a b]
theorem Oa {P:Program}(w:World){t:TypeId}{ps rs:Array TypeId}{vd:Bool}(h:P.underlying t=some (.func ps rs vd)):(binOp .eql t .nilFunc .nilFunc).run P w= .ok (.bool true) w:=by
 simp only[binOp];simp[Op.equal,Op.maxDepth,DE w 9999 h]
theorem Ob (R D L G:Int)(gr:Bool)(qs:Bool)(no:Option Addr)(nl nc:Nat)(eo:Option Addr)(el ec:Nat)(E way:Int)(c:Int)(fv:Value)(fn:FuncId)(isf z:Bool)(PT:fz)(ac:Int)(at_:fz)(w:World)
  (hfv:isf=true→fv= .func (.func fn) #[] #[]) (hfn:isf=false→fv= .nilFunc) (hz:((nl:Int)==0)=z)
  (HB: ¬c=0→ac=c∧at_=oI) (HK:c=0→isf=false→ac=6∧at_=oI) (HZ:c=0→isf=true→z=true→ac=0∧at_=⟨false,0,0,true,false,false⟩) (HG:c=0→isf=true→z=false→ac=0∧at_=PT)
  (HW:yH w 85 #[yrV qs (.slice no nl nc) (.slice eo el ec) E,ygV R D L G gr] (yi c))
  (HL: ∀w1 r,w1.heap[r]? =some (.map Yd 5)→(Instr.lookup 137 (.map (some r)) (yi way) false).run Tryz.prog w1= .ok fv w1)
  (HR:c=0→isf=true→z=false→ ∀w1,yB w w1→yC 87 #[ygV R D L G gr,yrV qs (.slice no nl nc) (.slice eo el ec) E,.func (.func fn) #[] #[]] w1 (Fk w1 PT)):
  yC 44 #[yrV qs (.slice no nl nc) (.slice eo el ec) E,ygV R D L G gr,yi way] w (sq w ac at_):=by
 replace HB:Hid _:=HB;replace HK:Hid _:=HK;replace HZ:Hid _:=HZ;replace HG:Hid _:=HG;replace HW:Hid _:=HW;replace HL:Hid _:=HL;replace HR:Hid _:=HR;replace hfv:Hid _:=hfv;replace hfn:Hid _:=hfn;have HWY:Hid _:=Ye;have b1:=aa (aa (af w (.cells (yrA qs (.slice no nl nc) (.slice eo el ec) E) 45)) (af _ (.cells (ygA R D L G gr) 48))) (af _ (.cells (ypA false yN 0 false false false) 95));have q1:=((ah w (yrL qs (.slice no nl nc) (.slice eo el ec) E) 45).l (af _ (.cells (ygA R D L G gr) 48))).l (af _ (.cells (ypA false yN 0 false false false) 95));have g1:=(ah (w.alloc (.cells (yrA qs (.slice no nl nc) (.slice eo el ec) E) 45)) (ygL R D L G gr) 48).l (af _ (.cells (ypA false yN 0 false false false) 95));have c1:=ah ((w.alloc (.cells (yrA qs (.slice no nl nc) (.slice eo el ec) E) 45)).alloc (.cells (ygA R D L G gr) 48)) (ypL false yN 0 false false false) 95;simp only[World.size_alloc] at g1 c1;obtain⟨x0,x1,x2,x3⟩:=q1.cs4;obtain⟨y0,y1,y2,y3,y4⟩:=g1.cs5;have en:=fun w1=>Oa (P:=Tryz.prog) w1 underlying136
 have ef:=fun w1=>Rq (P:=Tryz.prog) w1 underlying136 (.func fn) #[] #[]
 go_enter func44,ntmps44
 go_wp2_with fail
 refine(HW.out _ b1).mono ?_;rintro z wa ⟨rfl,bb2⟩;have q_2:=q1.l bb2;have g_2:=g1.l bb2;have c_2:=c1.l bb2;have b0_2:=aa b1 bb2;clear q1 g1 c1 b1 bb2;clear x0 x1 x2 x3 y0 y1 y2 y3 y4
 by_cases hc:c=0
 ·have HK2:Hid _:=HK.out hc
  have HZ2:Hid _:=HZ.out hc;have HG2:Hid _:=HG.out hc;have HR2:Hid _:=HR.out hc;clear HB HK HZ HG HR;subst hc
  go_wp2_with fail
  refine(HWY.out _).mono ?_;rintro z wb ⟨rfl,hm,bb3⟩;have q_3:=q_2.l bb3;have g_3:=g_2.l bb3;have c_3:=c_2.l bb3;have b0_3:=aa b0_2 bb3;clear q_2 g_2 c_2 b0_2 bb3;have hl:=HL.out wb _ hm;clear hm
  cases isf
  ·have hf:=hfn.out rfl
   have HF:Hid _:=HK2.out rfl;clear HK2 HZ2 HG2 HR2 hfn hfv;subst hf;have s0:=c_3.c 0 rfl;have f0:=c_3.f 0;have s1:=c_3.c 1 rfl;have f1:=c_3.f 1;have s2:=c_3.c 2 rfl;have f2:=c_3.f 2;have s3:=c_3.c 3 rfl;have f3:=c_3.f 3;have s4:=c_3.c 4 rfl;have f4:=c_3.f 4;have s5:=c_3.c 5 rfl;have f5:=c_3.f 5
   go_wp2
   have bu:But (w.heap.size+1+1) wb ((((((wb.setCell ⟨w.heap.size+1+1,0,none⟩ (.bool false)).setCell ⟨w.heap.size+1+1,1,none⟩ yN).setCell ⟨w.heap.size+1+1,2,none⟩ (yi 0)).setCell ⟨w.heap.size+1+1,3,none⟩ (.bool false)).setCell ⟨w.heap.size+1+1,4,none⟩ (.bool false)).setCell ⟨w.heap.size+1+1,5,none⟩ (.bool false)):=(((((ag wb (w.heap.size+1+1) 0 (.bool false)).trans (ag _ (w.heap.size+1+1) 1 yN)).trans (ag _ (w.heap.size+1+1) 2 (yi 0))).trans (ag _ (w.heap.size+1+1) 3 (.bool false))).trans (ag _ (w.heap.size+1+1) 4 (.bool false))).trans (ag _ (w.heap.size+1+1) 5 (.bool false));have cR:au ((((((wb.setCell ⟨w.heap.size+1+1,0,none⟩ (.bool false)).setCell ⟨w.heap.size+1+1,1,none⟩ yN).setCell ⟨w.heap.size+1+1,2,none⟩ (yi 0)).setCell ⟨w.heap.size+1+1,3,none⟩ (.bool false)).setCell ⟨w.heap.size+1+1,4,none⟩ (.bool false)).setCell ⟨w.heap.size+1+1,5,none⟩ (.bool false)) (w.heap.size+1+1) 95 (ypL false yN 0 false false false):=(((((c_3.set 0 (.bool false)).set 1 yN).set 2 (yi 0)).set 3 (.bool false)).set 4 (.bool false)).set 5 (.bool false);have bR:=bu.below b0_3 (show w.heap.size≤w.heap.size+1+1 by omega)
   clear bu s0 s1 s2 s3 s4 s5 f0 f1 f2 f3 f4 f5 q_3 g_3 c_3;generalize((((((wb.setCell ⟨w.heap.size+1+1,0,none⟩ (.bool false)).setCell ⟨w.heap.size+1+1,1,none⟩ yN).setCell ⟨w.heap.size+1+1,2,none⟩ (yi 0)).setCell ⟨w.heap.size+1+1,3,none⟩ (.bool false)).setCell ⟨w.heap.size+1+1,4,none⟩ (.bool false)).setCell ⟨w.heap.size+1+1,5,none⟩ (.bool false))=WR at cR bR⊢;obtain⟨s0,s1,s2,s3,s4,s5⟩:=cR.cs6;rw[HF.out.1,HF.out.2]
   show bodyPost _ _ _ .ret _ _
   refine bodyPost_ret (v:= .tuple #[ypV false yN 0 false false false,yi 6]) (by simp[results,results44,go_sem,s0,s1,s2,s3,s4,s5]) rfl ?_;exact⟨_,rfl,aQ _ _ _ _,bR⟩
  ·have hf:=hfv.out rfl
   have HZ3:Hid _:=HZ2.out rfl;have HG3:Hid _:=HG2.out rfl;have HR3:Hid _:=HR2.out rfl;clear HK2 HZ2 HG2 HR2 hfn hfv;subst hf;have x1:=q_3.c 1 rfl
   cases z
   ·have HF:Hid _:=HG3.out rfl
    have HRF:Hid _:=HR3.out rfl;clear HZ3 HG3 HR3;have x0:=q_3.c 0 rfl;have x2:=q_3.c 2 rfl;have x3:=q_3.c 3 rfl;obtain⟨y0,y1,y2,y3,y4⟩:=g_3.cs5;have hwb:=b0_3.size
    go_wp2_with fail
    refine(HRF.out _ b0_3).mono ?_;rintro z wc ⟨v,rfl,ou,bb4⟩;have q_4:=q_3.l bb4;have g_4:=g_3.l bb4;have c_4:=c_3.l bb4;have b0_4:=aa b0_3 bb4;clear q_3 g_3 c_3 b0_3 bb4;clear x0 x1 x2 x3 y0 y1 y2 y3 y4;obtain⟨uo,uk,hv⟩:=ou.rd.shape;subst hv;obtain⟨lu,hlu⟩: ∃x,(Dg.dg 4294967296 PT.d).length=x:=⟨_,rfl⟩;rw[hlu] at ou;rw[hlu];clear hlu;have s0:=c_4.c 0 rfl;have f0:=c_4.f 0;have s1:=c_4.c 1 rfl;have f1:=c_4.f 1;have s2:=c_4.c 2 rfl;have f2:=c_4.f 2;have s3:=c_4.c 3 rfl;have f3:=c_4.f 3;have s4:=c_4.c 4 rfl;have f4:=c_4.f 4;have s5:=c_4.c 5 rfl;have f5:=c_4.f 5
    go_wp2
    have bu:But (w.heap.size+1+1) wc ((((((wc.setCell ⟨w.heap.size+1+1,0,none⟩ (.bool PT.s)).setCell ⟨w.heap.size+1+1,1,none⟩ (.slice uo lu uk)).setCell ⟨w.heap.size+1+1,2,none⟩ (yi PT.p)).setCell ⟨w.heap.size+1+1,3,none⟩ (.bool PT.ex)).setCell ⟨w.heap.size+1+1,4,none⟩ (.bool PT.ov)).setCell ⟨w.heap.size+1+1,5,none⟩ (.bool PT.un)):=(((((ag wc (w.heap.size+1+1) 0 (.bool PT.s)).trans (ag _ (w.heap.size+1+1) 1 (.slice uo lu uk))).trans (ag _ (w.heap.size+1+1) 2 (yi PT.p))).trans (ag _ (w.heap.size+1+1) 3 (.bool PT.ex))).trans (ag _ (w.heap.size+1+1) 4 (.bool PT.ov))).trans (ag _ (w.heap.size+1+1) 5 (.bool PT.un));have cR:au ((((((wc.setCell ⟨w.heap.size+1+1,0,none⟩ (.bool PT.s)).setCell ⟨w.heap.size+1+1,1,none⟩ (.slice uo lu uk)).setCell ⟨w.heap.size+1+1,2,none⟩ (yi PT.p)).setCell ⟨w.heap.size+1+1,3,none⟩ (.bool PT.ex)).setCell ⟨w.heap.size+1+1,4,none⟩ (.bool PT.ov)).setCell ⟨w.heap.size+1+1,5,none⟩ (.bool PT.un)) (w.heap.size+1+1) 95 (ypL PT.s (.slice uo lu uk) PT.p PT.ex PT.ov PT.un):=(((((c_4.set 0 (.bool PT.s)).set 1 (.slice uo lu uk)).set 2 (yi PT.p)).set 3 (.bool PT.ex)).set 4 (.bool PT.ov)).set 5 (.bool PT.un);have bR:=bu.below b0_4 (show w.heap.size≤w.heap.size+1+1 by omega)
    have oR:=bu.own (ou.lower hwb) c_4 (by decide);clear bu s0 s1 s2 s3 s4 s5 f0 f1 f2 f3 f4 f5 q_4 g_4 c_4;generalize((((((wc.setCell ⟨w.heap.size+1+1,0,none⟩ (.bool PT.s)).setCell ⟨w.heap.size+1+1,1,none⟩ (.slice uo lu uk)).setCell ⟨w.heap.size+1+1,2,none⟩ (yi PT.p)).setCell ⟨w.heap.size+1+1,3,none⟩ (.bool PT.ex)).setCell ⟨w.heap.size+1+1,4,none⟩ (.bool PT.ov)).setCell ⟨w.heap.size+1+1,5,none⟩ (.bool PT.un))=WR at cR bR oR⊢;obtain⟨s0,s1,s2,s3,s4,s5⟩:=cR.cs6;rw[HF.out.1,HF.out.2]
    show bodyPost _ _ _ .ret _ _
    refine bodyPost_ret (v:= .tuple #[ypV PT.s (.slice uo lu uk) PT.p PT.ex PT.ov PT.un,yi 0]) (by simp[results,results44,go_sem,s0,s1,s2,s3,s4,s5]) rfl ?_;exact⟨_,rfl,oR,bR⟩
   ·have HF:Hid _:=HZ3.out rfl
    clear HZ3 HG3 HR3;have s0:=c_3.c 0 rfl;have f0:=c_3.f 0;have s1:=c_3.c 1 rfl;have f1:=c_3.f 1;have s2:=c_3.c 2 rfl;have f2:=c_3.f 2;have s3:=c_3.c 3 rfl;have f3:=c_3.f 3;have s4:=c_3.c 4 rfl;have f4:=c_3.f 4;have s5:=c_3.c 5 rfl;have f5:=c_3.f 5
    go_wp2
    have bu:But (w.heap.size+1+1) wb ((((((wb.setCell ⟨w.heap.size+1+1,0,none⟩ (.bool false)).setCell ⟨w.heap.size+1+1,1,none⟩ yN).setCell ⟨w.heap.size+1+1,2,none⟩ (yi 0)).setCell ⟨w.heap.size+1+1,3,none⟩ (.bool true)).setCell ⟨w.heap.size+1+1,4,none⟩ (.bool false)).setCell ⟨w.heap.size+1+1,5,none⟩ (.bool false)):=(((((ag wb (w.heap.size+1+1) 0 (.bool false)).trans (ag _ (w.heap.size+1+1) 1 yN)).trans (ag _ (w.heap.size+1+1) 2 (yi 0))).trans (ag _ (w.heap.size+1+1) 3 (.bool true))).trans (ag _ (w.heap.size+1+1) 4 (.bool false))).trans (ag _ (w.heap.size+1+1) 5 (.bool false));have cR:au ((((((wb.setCell ⟨w.heap.size+1+1,0,none⟩ (.bool false)).setCell ⟨w.heap.size+1+1,1,none⟩ yN).setCell ⟨w.heap.size+1+1,2,none⟩ (yi 0)).setCell ⟨w.heap.size+1+1,3,none⟩ (.bool true)).setCell ⟨w.heap.size+1+1,4,none⟩ (.bool false)).setCell ⟨w.heap.size+1+1,5,none⟩ (.bool false)) (w.heap.size+1+1) 95 (ypL false yN 0 true false false):=(((((c_3.set 0 (.bool false)).set 1 yN).set 2 (yi 0)).set 3 (.bool true)).set 4 (.bool false)).set 5 (.bool false);have bR:=bu.below b0_3 (show w.heap.size≤w.heap.size+1+1 by omega)
    clear bu s0 s1 s2 s3 s4 s5 f0 f1 f2 f3 f4 f5 q_3 g_3 c_3;generalize((((((wb.setCell ⟨w.heap.size+1+1,0,none⟩ (.bool false)).setCell ⟨w.heap.size+1+1,1,none⟩ yN).setCell ⟨w.heap.size+1+1,2,none⟩ (yi 0)).setCell ⟨w.heap.size+1+1,3,none⟩ (.bool true)).setCell ⟨w.heap.size+1+1,4,none⟩ (.bool false)).setCell ⟨w.heap.size+1+1,5,none⟩ (.bool false))=WR at cR bR⊢;obtain⟨s0,s1,s2,s3,s4,s5⟩:=cR.cs6;rw[HF.out.1,HF.out.2]
    show bodyPost _ _ _ .ret _ _
    refine bodyPost_ret (v:= .tuple #[ypV false yN 0 true false false,yi 0]) (by simp[results,results44,go_sem,s0,s1,s2,s3,s4,s5]) rfl ?_;exact⟨_,rfl,aQ _ _ _ _,bR⟩
 ·have hcf:(c==0)=false:=by simp;exact hc
  have HF:Hid _:=HB.out hc;clear hc HB HK HZ HG HR;have s0:=c_2.c 0 rfl;have f0:=c_2.f 0;have s1:=c_2.c 1 rfl;have f1:=c_2.f 1;have s2:=c_2.c 2 rfl;have f2:=c_2.f 2;have s3:=c_2.c 3 rfl;have f3:=c_2.f 3;have s4:=c_2.c 4 rfl;have f4:=c_2.f 4;have s5:=c_2.c 5 rfl;have f5:=c_2.f 5
  go_wp2
  have bu:But (w.heap.size+1+1) wa ((((((wa.setCell ⟨w.heap.size+1+1,0,none⟩ (.bool false)).setCell ⟨w.heap.size+1+1,1,none⟩ yN).setCell ⟨w.heap.size+1+1,2,none⟩ (yi 0)).setCell ⟨w.heap.size+1+1,3,none⟩ (.bool false)).setCell ⟨w.heap.size+1+1,4,none⟩ (.bool false)).setCell ⟨w.heap.size+1+1,5,none⟩ (.bool false)):=(((((ag wa (w.heap.size+1+1) 0 (.bool false)).trans (ag _ (w.heap.size+1+1) 1 yN)).trans (ag _ (w.heap.size+1+1) 2 (yi 0))).trans (ag _ (w.heap.size+1+1) 3 (.bool false))).trans (ag _ (w.heap.size+1+1) 4 (.bool false))).trans (ag _ (w.heap.size+1+1) 5 (.bool false));have cR:au ((((((wa.setCell ⟨w.heap.size+1+1,0,none⟩ (.bool false)).setCell ⟨w.heap.size+1+1,1,none⟩ yN).setCell ⟨w.heap.size+1+1,2,none⟩ (yi 0)).setCell ⟨w.heap.size+1+1,3,none⟩ (.bool false)).setCell ⟨w.heap.size+1+1,4,none⟩ (.bool false)).setCell ⟨w.heap.size+1+1,5,none⟩ (.bool false)) (w.heap.size+1+1) 95 (ypL false yN 0 false false false):=(((((c_2.set 0 (.bool false)).set 1 yN).set 2 (yi 0)).set 3 (.bool false)).set 4 (.bool false)).set 5 (.bool false);have bR:=bu.below b0_2 (show w.heap.size≤w.heap.size+1+1 by omega)
  clear bu s0 s1 s2 s3 s4 s5 f0 f1 f2 f3 f4 f5 q_2 g_2 c_2;generalize((((((wa.setCell ⟨w.heap.size+1+1,0,none⟩ (.bool false)).setCell ⟨w.heap.size+1+1,1,none⟩ yN).setCell ⟨w.heap.size+1+1,2,none⟩ (yi 0)).setCell ⟨w.heap.size+1+1,3,none⟩ (.bool false)).setCell ⟨w.heap.size+1+1,4,none⟩ (.bool false)).setCell ⟨w.heap.size+1+1,5,none⟩ (.bool false))=WR at cR bR⊢;obtain⟨s0,s1,s2,s3,s4,s5⟩:=cR.cs6;rw[HF.out.1,HF.out.2]
  show bodyPost _ _ _ .ret _ _
  refine bodyPost_ret (v:= .tuple #[ypV false yN 0 false false false,yi c]) (by simp[results,results44,go_sem,s0,s1,s2,s3,s4,s5]) rfl ?_;exact⟨_,rfl,aQ _ _ _ _,bR⟩
def T4 (way:Int):FuncId:=if way=1 then 121 else if way=2 then 122 else if way=3 then 123 else if way=4 then 124 else 125
def iC (way:Int):Bool:=decide (1≤way∧way≤5)
def ac0 (way:Int):Value:=if iC way=true then .func (.func (T4 way)) #[] #[] else .nilFunc
theorem zi {way:Int}(h:iC way=true):way=1∨way=2∨way=3∨way=4∨way=5:=by
 have:=of_decide_eq_true h;omega
theorem XI (x y:Int):Instr.sameNow (.int .i64) (yi x) (yi y)=some (decide (x=y)):=by
 simp[Instr.sameNow]
 by_cases h:x=y<;>simp[h]
theorem PI (way:Int)(w1:World)(r:Nat)(hm:w1.heap[r]? =some (.map Yd 5)):(Instr.lookup 137 (.map (some r)) (yi way) false).run Tryz.prog w1= .ok (ac0 way) w1:=by
 by_cases h:iC way=true
 ·rcases zi h with rfl|rfl|rfl|rfl|rfl
  ·exact pj underlying137 underlying3 hm 1 rfl
  ·exact pj underlying137 underlying3 hm 2 rfl
  ·exact pj underlying137 underlying3 hm 3 rfl
  ·exact pj underlying137 underlying3 hm 4 rfl
  ·exact pj underlying137 underlying3 hm 5 rfl
 ·have hn: ¬(1≤way∧way≤5):=fun c=>h (decide_eq_true c)
  unfold ac0;rw[if_neg h];refine Yc underlying137 underlying3 hm way ?_ ?_
  ·kernel_rfl
  ·simp[Yd,Instr.findNow,XI,show¬way=1 by omega,show¬way=2 by omega,show¬way=3 by omega,show¬way=4 by omega,show¬way=5 by omega]
theorem PK {way:Int}(h:iC way=true)(half:Int)(odd neg:Bool)(w1:World):yC (T4 way) #[.agg #[yi half,.bool odd,.bool neg]] w1 (yR w1 (.bool (gY way half odd neg))):=by
 rcases zi h with rfl|rfl|rfl|rfl|rfl
 ·exact Yf half odd neg w1
 ·exact Yg half odd neg w1
 ·exact Yh half odd neg w1
 ·exact Yi half odd neg w1
 ·exact Yj half odd neg w1
theorem enter_of {P:Program}{f:FuncId}{fn:Func}{c:Code}(hf:P.funcs[f]? =some fn)(hname:(fn.name== "runtime.NumGoroutine")=false)(hb:fn.body=some c)(args:Array Value)(w:World):Sem.run P (callFunc f args) w= .ok (.enter f args) w:=by
 have hn: ¬fn.name= "runtime.NumGoroutine" :=by simpa using hname
 simp[callFunc,hf,hn,hb]
theorem PO {way:Int}(h:iC way=true)(args:Array Value)(W:World):Sem.run Tryz.prog (callFunc (T4 way) args) W= .ok (.enter (T4 way) args) W:=by
 rcases zi h with rfl|rfl|rfl|rfl|rfl
 ·exact enter_of func121 (by kernel_rfl) rfl args W
 ·exact enter_of func122 (by kernel_rfl) rfl args W
 ·exact enter_of func123 (by kernel_rfl) rfl args W
 ·exact enter_of func124 (by kernel_rfl) rfl args W
 ·exact enter_of func125 (by kernel_rfl) rfl args W
def eE (xs ys:List Nat)(E R D L G way:Int):Int:=
 if jg (eA xs ys E) (bk R D L G)=0 then(if iC way=true then 0 else 6) else jg (eA xs ys E) (bk R D L G)
def df (xs ys:List Nat)(E R D L G:Int)(gr qs:Bool)(way:Int):fz:=
 if eE xs ys E R D L G way=0 then(if xs.length=0 then⟨false,0,0,true,false,false⟩ else cI R D L G gr qs (Dg.vl 4294967296 xs) (Dg.vl 4294967296 ys) E way) else oI
theorem C4 {c d:Int}(h:jg c d=0):c=0∧d=0:=by
 unfold jg at h
 split at h
 ·exact⟨by assumption,h⟩
 ·exact absurd h (by assumption)
theorem gO {xs ys:List Nat}{E:Int}(h:eA xs ys E=0):chk xs=0∧chk ys=0∧0<ys.length∧ -20000≤E∧E≤20000:=by
 unfold eA at h
 by_cases h1:chk xs=0
 ·rw[if_pos h1] at h
  by_cases h2:chk ys=0
  ·rw[if_pos h2] at h
   by_cases h3:ys.length=0∨eJ 20000 E=true
   ·rw[if_pos h3] at h
    cases h
   ·have h4: ¬eJ 20000 E=true:=fun c=>h3 (Or.inr c)
    unfold eJ at h4;simp at h4;refine⟨h1,h2, ?_,by omega,by omega⟩;have: ¬ys.length=0:=fun c=>h3 (Or.inl c)
    omega
  ·rw[if_neg h2] at h
   exact absurd h h2
 ·rw[if_neg h1] at h
  exact absurd h h1
theorem jM (qs:Bool)(ao:Option Addr)(ca:Nat)(xs:List Nat)(bo:Option Addr)(cb:Nat)(ys:List Nat)(E R D L G:Int)(gr:Bool)(way:Int)(w:World)(ha:Rd w .u32 (.slice ao xs.length ca) xs)(hb:Rd w .u32 (.slice bo ys.length cb) ys)(sa:Dg.Small 4294967296 xs)(sb:Dg.Small 4294967296 ys):
  yC 44 #[yrV qs (.slice ao xs.length ca) (.slice bo ys.length cb) E,ygV R D L G gr,yi way] w (sq w (eE xs ys E R D L G way) (df xs ys E R D L G gr qs way)):=by
 refine Ob R D L G gr qs ao xs.length ca bo ys.length cb E way (jg (eA xs ys E) (bk R D L G)) (ac0 way) (T4 way) (iC way) ((xs.length:Int)==0) (cI R D L G gr qs (Dg.vl 4294967296 xs) (Dg.vl 4294967296 ys) E way) _ _ w ?_ ?_ rfl ?_ ?_ ?_ ?_ ?_ ?_ ?_
 ·intro h
  exact if_pos h
 ·intro h
  exact if_neg (by rw[h];decide)
 ·intro h
  have e:eE xs ys E R D L G way=jg (eA xs ys E) (bk R D L G):=if_neg h;exact⟨e,by unfold df;rw[e,if_neg h]⟩
 ·intro h hw
  have e:eE xs ys E R D L G way=6:=(if_pos h).trans (if_neg (by rw[hw];decide));exact⟨e,by unfold df;rw[e];rfl⟩
 ·intro h hw hz
  have e:eE xs ys E R D L G way=0:=(if_pos h).trans (if_pos hw);have hx:xs.length=0:=by simpa using hz
  exact⟨e,by unfold df;rw[e,if_pos rfl,if_pos hx]⟩
 ·intro h hw hz
  have e:eE xs ys E R D L G way=0:=(if_pos h).trans (if_pos hw);have hx: ¬xs.length=0:=by simpa using hz
  exact⟨e,by unfold df;rw[e,if_pos rfl,if_neg hx]⟩
 ·intro w1 b
  exact Qe qs ao ca xs bo cb ys E R D L G gr w1 (ha.l b) (hb.l b)
 ·intro w1 r hm
  exact PI way w1 r hm
 ·intro h hw hz w1 b
  obtain⟨h1,h2⟩:=C4 h;obtain⟨c1,c2,hl,e1,e2⟩:=gO h1;obtain⟨nx,lx⟩:=aF c1;obtain⟨ny,ly⟩:=aF c2;have ex:Dg.dg 4294967296 (Dg.vl 4294967296 xs)=xs:=Dg.dg_vl _ (by omega) _ sa nx;have ey:Dg.dg 4294967296 (Dg.vl 4294967296 ys)=ys:=Dg.dg_vl _ (by omega) _ sb ny;have hM:0<Dg.vl 4294967296 ys:=by
   refine Nat.pos_of_ne_zero fun c=> ?_
   rw[c] at ey;rw[←ey] at hl;exact absurd hl (by decide)
  have:=Qh R D L G gr qs ao ca bo cb (Dg.vl 4294967296 xs) (Dg.vl 4294967296 ys) E way (T4 way) w1 h2 (by rw[ex];exact ha.l b) (by rw[ey];exact hb.l b) (by rw[ex];omega) (by rw[ey];omega) hM e1 e2 (PO hw) (PK hw)
  rwa [ex,ey] at this
theorem aaT {n L j:Nat}(h:n<4294967296^L):(Dg.dg 4294967296 (n^j)).length≤L*j+1:=by
 refine Dg.dg_len_le 4294967296 _ _ (by omega) ?_;rw[Nat.pow_succ,Nat.pow_mul];have h1:n^j≤(4294967296^L)^j:=Nat.pow_le_pow_left (by omega) j;have h2:0< (4294967296^L)^j:=Nat.pow_pos (Nat.pow_pos (by omega));omega
theorem TH (x:Int)(w:World)(h0:0≤x)(h1:x≤4294967295):
  yC 200 #[.int .u64 x] w fun e w'=>e= .returned (yi (bitLen x.toNat:Nat))∧w'=w:=by
 go_enter func200,ntmps200
 go_wp2
 all_goals try (exfalso;have hz:=Lib.len8tab_size;omega)
 all_goals (go_ret;refine⟨congrArg Ending.returned (congrArg (Value.int IntKind.i64) ?_),rfl⟩)
 all_goals simp only[X4]
 ·exact qz 24 _ x.toNat (by have:=bitLen_shift x.toNat 24 (by omega);rw[this];congr 2;omega) (by omega)
 ·exact qz 16 _ x.toNat (by have:=bitLen_shift x.toNat 16 (by omega);rw[this];congr 2;omega) (by omega)
 ·exact qz 8 _ x.toNat (by have:=bitLen_shift x.toNat 8 (by omega);rw[this];congr 2;omega) (by omega)
 ·have hb:=bitLen_le8 x.toNat (by omega)
  have e1:=IntWalk.wrap64_in ((bitLen x.toNat:Nat):Int) ⟨by omega,by omega⟩;rw[e1,e1]
theorem LZ (k:Nat)(w:World)(h:k≤4294967295):
  yC 184 #[.int .u64 k] w fun e w'=>e= .returned (yi (bitLen k:Nat))∧w'=w:=by
 have h64:=TH k w (by omega) (by omega);rw[Int.toNat_natCast] at h64;have H:Hid _:=h64;clear h64
 go_enter func184,ntmps184
 go_wp2_with fail
 refine Calls.mono H.out ?_;rintro e w' ⟨rfl,rfl⟩
 go_wp2
 go_ret
 exact⟨rfl,rfl⟩
theorem aaU (k i:Nat):k/2^i=k/2^ (i+1)+k/2^ (i+1)+k/2^i % 2:=by
 rw[Nat.pow_succ,←Nat.div_div_eq_div_mul];omega
def aex (w:World)(n k bl:Nat)(pv iv:Value)(wr:World):Prop:=
 ∃j:Nat,j≤bl∧iv=yi ((j:Int)-1)∧Own wr w.heap.size 148 .u32 pv (Dg.dg 4294967296 (n^ (k/2^j)))∧yB w wr
theorem Iq (va:Value)(n k L:Nat)(w:World)(ha:Rd w .u32 va (Dg.dg 4294967296 n))(hL:n<4294967296^L)(hLk:L*k≤400000)(hLl:L≤400000)(hk:k≤1000000):
  yC 161 #[va,yi k] w (Num w (n^k)):=by
 have HA:Hid (Rd w .u32 va (Dg.dg 4294967296 n)):=ha;have hnl:(Dg.dg 4294967296 n).length≤L:=Dg.dg_len_le 4294967296 n L (by omega) hL;have HL: ∀j,j≤k→(Dg.dg 4294967296 (n^j)).length≤400001:=fun j hj=>by
  have hp:=aaT (j:=j) hL;have hlj:L*j≤L*k:=Nat.mul_le_mul (Nat.le_refl _) hj;omega
 have HT:Hid (∀j v wr,j≤k→yB w wr→Rd wr .u32 v (Dg.dg 4294967296 (n^j))→yC 116 #[v,va] wr (Num wr (n^ (j+1)))):=fun j v wr hj b r=>by
  have:=qC v va _ _ wr r (ha.l b) (Dg.small_dg _ _ (by omega)) (Dg.small_dg _ _ (by omega)) (by have:=HL j hj;omega) (by omega);rw[Dg.vl_dg _ _ (by omega),Dg.vl_dg _ _ (by omega),←Nat.pow_succ] at this;exact this
 have HS:Hid (∀j v wr,j≤k→Rd wr .u32 v (Dg.dg 4294967296 (n^j))→yC 116 #[v,v] wr (Num wr (n^ (j+j)))):=fun j v wr hj r=>by
  have:=qC v v _ _ wr r r (Dg.small_dg _ _ (by omega)) (Dg.small_dg _ _ (by omega)) (by have:=HL j hj;omega) (by have:=HL j hj;omega);rw[Dg.vl_dg _ _ (by omega),←Nat.pow_add] at this;exact this
 have HB:Hid (∀wr,yC 184 #[.int .u64 k] wr fun e w'=>e= .returned (yi (bitLen k:Nat))∧w'=wr):=fun wr=>LZ k wr (by omega)
 have hbl:bitLen k≤20:=bF k 20 (by omega);have hz:k/2^bitLen k=0:=Nat.div_eq_of_lt (bitLen_spec k).1;have o1:=zf w w.heap.size 148 1 (Nat.le_refl _);have b1:yB w (w.alloc (.cells #[.int .u32 ((1:Nat):Int)] 148)):=(Below.refl _ _).alloc (Nat.le_refl _) _;obtain⟨ao,ca,rfl⟩:=ha.shape;obtain⟨ma,hma⟩: ∃m,(Dg.dg 4294967296 n).length=m:=⟨_,rfl⟩;rw[hma] at HT HA⊢;clear ha hma hnl HL;obtain⟨bl,hbe⟩: ∃b,bitLen k=b:=⟨_,rfl⟩;rw[hbe] at HB hbl hz;clear hbe
 go_enter func161,ntmps161
 go_wp2_with fail
 refine(HB.out _).mono ?_;rintro e w' ⟨rfl,rfl⟩
 go_wp2
 have L0:aex w n k bl (.slice (some ⟨w.heap.size,0,none⟩) 1 1) (yi ((bl:Int)-1)) (w.alloc (.cells #[.int .u32 ((1:Nat):Int)] 148)):=⟨bl,Nat.le_refl _,rfl,by rw[hz];exact o1,b1⟩
 go_loopw [5,6] (aex w n k bl) (fun _ iv _=>(intOf iv+1).toNat)
 case atStart=>exact L0
 case round=>
  clear L0 o1 b1;obtain⟨j,hj,rfl,own,bel⟩:=hrel
  rcases Nat.eq_zero_or_pos j with h0|h0
  ·subst h0
   go_wp2
   go_ret
   refine⟨_,rfl, ?_,bel⟩;rw[show k/2^0=k by simp] at own
   exact own
  ·obtain⟨i,rfl⟩: ∃i,j=i+1:=⟨j-1,by omega⟩
   have hle:k/2^ (i+1)≤k:=Nat.div_le_self _ _;have hh:=aaU k i;have e1:((i+1:Nat):Int)-1=(i:Int):=by omega
   rw[e1]
   go_wp2_with fail
   refine(HS.out _ _ _ hle own.rd).mono ?_;rintro z w2 ⟨v2,rfl,o2,b2⟩;have b02:=aa bel b2;have o2:=o2.lower bel.size;clear own b2;have hq:((k:Int)/2^i).tmod 2=((k/2^i % 2:Nat):Int):=by
    have h1:(k:Int)/2^i=((k/2^i:Nat):Int):=by rw[Int.natCast_ediv,Int.natCast_pow];rfl
    rw[h1,Int.ofNat_tmod];rfl
   by_cases hodd:k/2^i % 2=1
   ·have hc:(((k:Int)/2^i).tmod 2==1)=true:=by rw[hq,hodd];rfl
    have hx:k/2^ (i+1)+k/2^ (i+1)≤k:=by have:=Nat.div_le_self k (2^i);omega
    have hy:k/2^ (i+1)+k/2^ (i+1)+1=k/2^i:=by omega
    have H2:Hid _:=HT.out _ v2 w2 hx b02 o2.rd;rw[hy] at H2;clear hq hh hodd
    go_wp2_with fail
    refine Calls.mono H2.out ?_;rintro z w3 ⟨v3,rfl,o3,b3⟩;have o3:=o3.lower b02.size;have b03:=aa b02 b3
    go_wp2
    go_roundw
    case rel=>exact⟨i,by omega,rfl,o3,b03⟩
    case measure=>simp[intOf]
   ·have hc:(((k:Int)/2^i).tmod 2==1)=false:=by
     rw[hq];have:k/2^i % 2=0:=by omega
     rw[this];rfl
    have hy:k/2^ (i+1)+k/2^ (i+1)=k/2^i:=by omega
    rw[hy] at o2;clear hq hh hodd
    go_wp2
    go_roundw
    case rel=>exact⟨i,by omega,rfl,o2,b02⟩
    case measure=>simp[intOf]
open Go.RowKit Go.ChangeMaps Go.MapKept
def Xo:Array MapEntry:= #[⟨yi 1,yi 4,0⟩,⟨yi 2,yi 1,1⟩,⟨yi 3,yi 5,2⟩]
theorem JQ (w:World):yC 145 #[] w fun z w'=>z= .returned (.map (some w.heap.size))∧w'.heap[w.heap.size]? =some (.map Xo 3)∧yB w w':=by
 have ht:=underlying193;have hk:=underlying67;have hb0:(w.alloc (.map #[] 0)).heap[w.heap.size]? =some (.map #[] 0):=heap_alloc_new _ _;have b0:=af w (.map #[] 0);have e0:=run_makeMap (P:=Tryz.prog) 193 w;obtain⟨W1,e1,hb1,b1⟩:=sS ht hk hb0 (Nat.le_refl _) b0 1 (yi 4) rfl;obtain⟨W2,e2,hb2,b2⟩:=sS ht hk hb1 (Nat.le_refl _) b1 2 (yi 1) rfl;obtain⟨W3,e3,hb3,b3⟩:=sS ht hk hb2 (Nat.le_refl _) b2 3 (yi 5) rfl;have HB:Hid (W3.heap[w.heap.size]? =some (.map Xo 3)):=hb3;clear hb1 hb2 hb3 b1 b2 ht hk hb0
 go_enter func145,ntmps145
 go_wp2
 go_ret
 exact⟨rfl,HB.out,b3⟩
def AZ (f:Int):Int:=if f=1 then 4 else if f=2 then 1 else 5
theorem A5 (f:Int)(hf:f=1∨f=2∨f=3)(w:World):yC 103 #[yi f] w (yR w (yi (AZ f))):=by
 have HN:Hid _:=JQ;have HL:Hid (∀W r,W.heap[r]? =some (.map Xo 3)→(Instr.lookup 193 (.map (some r)) (yi f) false).run Tryz.prog W= .ok (yi (AZ f)) W):=fun W r hm=>by
  rcases hf with rfl|rfl|rfl
  ·exact pj underlying193 underlying67 hm 1 (i:=0) rfl
  ·exact pj underlying193 underlying67 hm 2 (i:=1) rfl
  ·exact pj underlying193 underlying67 hm 3 (i:=2) rfl
 generalize AZ f=c at*;clear hf
 go_enter func103,ntmps103
 go_wp2_with fail
 refine(HN.out _).mono ?_;rintro z w1 ⟨rfl,hm,b1⟩;have hl:=HL.out w1 _ hm;clear hm HL HN
 go_wp2
 go_ret
 exact⟨rfl,b1⟩
theorem Pb (n wy fam R D L G c fl:Int)(gr:Bool)(w:World)
  (HN:yJ 103 #[yi fam] (yi c)):
  yC 59 #[ykV n wy fam R D L G gr,yi fl] w (yR w (.tuple #[yoV c false false yN 0,yi fl])):=by
 replace HN:Hid _:=HN;have ad:=af w (.cells (ykA n wy fam R D L G gr) 69);have ao:=af (w.alloc (.cells (ykA n wy fam R D L G gr) 69)) (.cells (yoA 0 false false yN 0) 76);have d0:=(ah w (ykL n wy fam R D L G gr) 69).l ao;have o0:=ah (w.alloc (.cells (ykA n wy fam R D L G gr) 69)) (yoL 0 false false yN 0) 76;rw[World.size_alloc] at o0;have b0:=aa ad ao;clear ad ao
 go_enter func59,ntmps59
 go_upto_region 1 with fail
 generalize(w.alloc (.cells (ykA n wy fam R D L G gr) 69)).alloc (.cells (yoA 0 false false yN 0) 76)=W0 at d0 o0 b0⊢;have y2:=d0.c 2 rfl
 go_wp2_with fail
 refine(HN.out _).mono ?_;rintro z w1 ⟨rfl,b1⟩;have o1:=o0.l b1;have b01:=aa b0 b1;clear y2 d0 o0 b0 b1 HN;have cR:au (((((w1.setCell ⟨w.heap.size+1,0,none⟩ (yi c)).setCell ⟨w.heap.size+1,1,none⟩ (.bool false)).setCell ⟨w.heap.size+1,2,none⟩ (.bool false)).setCell ⟨w.heap.size+1,3,none⟩ yN).setCell ⟨w.heap.size+1,4,none⟩ (yi 0)) (w.heap.size+1) 76 (yoL c false false yN 0):=(((((o1.set 0 (yi c)).set 1 (.bool false)).set 2 (.bool false)).set 3 yN).set 4 (yi 0));have bu:=((((ag w1 (w.heap.size+1) 0 (yi c)).trans (ag _ (w.heap.size+1) 1 (.bool false))).trans (ag _ (w.heap.size+1) 2 (.bool false))).trans (ag _ (w.heap.size+1) 3 yN)).trans (ag _ (w.heap.size+1) 4 (yi 0));have bR:=bu.below b01 (by omega);have hl:=run_loadVar_mid (P:=Tryz.prog) _ (w.heap.size+1) 0 76 (yoL c false false yN 0) _ cR.range underlying76 rfl (by kernel_rfl);have HH:Hid (_∧_):=⟨hl,bR⟩;obtain⟨z0,z1,z2,z3,z4⟩:=o1.cs5;have fz0:=o1.f 0;have fz1:=o1.f 1;have fz2:=o1.f 2;have fz3:=o1.f 3;have fz4:=o1.f 4;clear hl bR bu cR;clear o1 b01
 go_wp2
 obtain⟨hl,bR⟩:=HH.out;exact bodyPost_ret (aj results59 rfl rfl hl) rfl ⟨rfl,bR⟩
def aaV (wy:Int)(ng:Bool):Bool:=if wy=1∨wy=2 then true else if wy=4 then !ng else(ng&&decide (wy=5))
theorem CT (n wy fam R D L G:Int)(gr ng:Bool)(hw:1≤wy∧wy≤5)(w:World):yC 135 #[ykV n wy fam R D L G gr,.bool ng] w (yR w (.bool (aaV wy ng))):=by
 have h5:wy=1∨wy=2∨wy=3∨wy=4∨wy=5:=by omega
 have b0:=af w (.cells (ykA n wy fam R D L G gr) 69);clear hw
 rcases h5 with rfl|rfl|rfl|rfl|rfl
 all_goals
  cases ng
  all_goals
   go_enter func135,ntmps135
   go_wp2
   go_ret
   exact⟨rfl,b0⟩
theorem It (n wy fam R D L G c p fl er:Int)(gr ng:Bool)(ao:Option Addr)(la ca:Nat)(st:ByteArray)(w:World)
  (HE:yH w 88 #[yi n,yvV c ng (.slice ao la ca) p] (.tuple #[.string st,yi er])):
  yC 45 #[ykV n wy fam R D L G gr,yvV c ng (.slice ao la ca) p,yi fl] w (yR w (if er=0 then .tuple #[.string st,yi fl,yi 0] else .tuple #[.string ⟨#[]⟩,yi 0,yi er])):=by
 replace HE:Hid _:=HE;have ad:=af w (.cells (ykA n wy fam R D L G gr) 69);have av:=af (w.alloc (.cells (ykA n wy fam R D L G gr) 69)) (.cells (yvA c ng (.slice ao la ca) p) 100);have d0:=(ah w (ykL n wy fam R D L G gr) 69).l av;have v0:=ah (w.alloc (.cells (ykA n wy fam R D L G gr) 69)) (yvL c ng (.slice ao la ca) p) 100;rw[World.size_alloc] at v0;have b0:=aa ad av;clear ad av
 by_cases he:er=0
 ·rw[if_pos he]
  subst he
  go_enter func45,ntmps45
  go_upto_region 1 with fail
  generalize(w.alloc (.cells (ykA n wy fam R D L G gr) 69)).alloc (.cells (yvA c ng (.slice ao la ca) p) 100)=W0 at d0 v0 b0⊢;have y0:=d0.c 0 rfl;obtain⟨x0,x1,x2,x3⟩:=v0.cs4
  go_wp2_with fail
  refine(HE.out _ b0).mono ?_;rintro z w1 ⟨rfl,b1⟩;have b01:=aa b0 b1
  go_wp2
  go_ret3
  exact⟨rfl,b01⟩
 ·rw[if_neg he]
  have hef:(er==0)=false:=by simpa using he
  go_enter func45,ntmps45
  go_upto_region 1 with fail
  generalize(w.alloc (.cells (ykA n wy fam R D L G gr) 69)).alloc (.cells (yvA c ng (.slice ao la ca) p) 100)=W0 at d0 v0 b0⊢;have y0:=d0.c 0 rfl;obtain⟨x0,x1,x2,x3⟩:=v0.cs4
  go_wp2_with fail
  refine(HE.out _ b0).mono ?_;rintro z w1 ⟨rfl,b1⟩;have b01:=aa b0 b1;clear he
  go_wp2
  go_ret3
  exact⟨rfl,b01⟩
def aS (xs:List Nat)(e:Int):Int:=if chk xs=0 then(if e< -20000∨20000<e then 3 else 0) else chk xs
theorem nS (s:Bool)(ao:Option Addr)(ca:Nat)(xs:List Nat)(e:Int)(w:World)(hr:Rd w .u32 (.slice ao xs.length ca) xs):
  yC 197 #[ydV s (.slice ao xs.length ca) e] w (yR w (yi (aS xs e))):=by
 have bA:=af w (.cells (ydA s (.slice ao xs.length ca) e) 72);have hk:=jC _ xs _ (hr.l bA);unfold aS;obtain⟨c,hc⟩: ∃c,chk xs=c:=⟨_,rfl⟩;rw[hc] at hk⊢;clear hc hr
 by_cases h:c=0
 ·subst h
  rw[if_pos rfl]
  by_cases h1:e< -20000
  ·rw[if_pos (Or.inl h1)]
   go_enter func197,ntmps197
   go_wp2_with fail
   refine hk.mono ?_;rintro z w' ⟨rfl,rfl⟩;clear hk
   go_wp2
   go_ret
   exact⟨rfl,bA⟩
  ·by_cases h2:20000<e
   ·rw[if_pos (Or.inr h2)]
    go_enter func197,ntmps197
    go_wp2_with fail
    refine hk.mono ?_;rintro z w' ⟨rfl,rfl⟩;clear hk
    go_wp2
    go_ret
    exact⟨rfl,bA⟩
   ·rw[if_neg (by omega)]
    go_enter func197,ntmps197
    go_wp2_with fail
    refine hk.mono ?_;rintro z w' ⟨rfl,rfl⟩;clear hk
    go_wp2
    go_ret
    exact⟨rfl,bA⟩
 ·rw[if_neg h]
  go_enter func197,ntmps197
  go_wp2_with fail
  refine hk.mono ?_;rintro z w' ⟨rfl,rfl⟩;clear hk
  go_wp2
  go_ret
  exact⟨rfl,bA⟩
theorem gZ (n L:Nat)(h:(Dg.dg 4294967296 n).length≤L):tz n≤32*L:=by
 by_cases h0:n=0
 ·subst h0;exact Nat.zero_le _
 ·obtain⟨m,hm⟩:=fO h0
  have h1:=Dg.vl_lt 4294967296 (Dg.dg 4294967296 n) (Dg.small_dg _ _ (by omega));rw[Dg.vl_dg _ _ (by omega)] at h1;have h2:4294967296^ (Dg.dg 4294967296 n).length≤4294967296^L:=Nat.pow_le_pow_right (by omega) h;have h3:(4294967296:Nat)^L=2^ (32*L):=by rw[Nat.pow_mul]
  have h4:2^tz n*1≤2^tz n*(2*m+1):=Nat.mul_le_mul_left _ (by omega);rw[←hm,Nat.mul_one] at h4;have h5:2^tz n<2^ (32*L):=by rw[←h3];omega
  exact Nat.le_of_lt ((Nat.pow_lt_pow_iff_right (by omega)).1 h5)
def cC (c:Int)(t:ak):ak×Int:=if c=0 then bU t else(⟨false,0,0⟩,c)
theorem bL {xs:List Nat}{e:Int}(h:aS xs e=0):chk xs=0∧ -20000≤e∧e≤20000:=by
 unfold aS at h
 by_cases h1:chk xs=0
 ·rw[if_pos h1] at h
  by_cases h2:e< -20000∨20000<e
  ·rw[if_pos h2] at h;omega
  ·exact⟨h1,by omega,by omega⟩
 ·rw[if_neg h1] at h;exact absurd h h1
theorem ju (w:World)(a0 a1 a2 b0 b1 b2 c0 c1 c2:Value)(ta tb tc:TypeId):
  Loc (((w.alloc (.cells #[a0,a1,a2] ta)).alloc (.cells #[b0,b1,b2] tb)).alloc (.cells #[c0,c1,c2] tc)) w.heap.size a0 a1 a2∧
  Loc (((w.alloc (.cells #[a0,a1,a2] ta)).alloc (.cells #[b0,b1,b2] tb)).alloc (.cells #[c0,c1,c2] tc)) (w.heap.size+1) b0 b1 b2∧
  Loc (((w.alloc (.cells #[a0,a1,a2] ta)).alloc (.cells #[b0,b1,b2] tb)).alloc (.cells #[c0,c1,c2] tc)) (w.heap.size+1+1) c0 c1 c2∧
  yB w (((w.alloc (.cells #[a0,a1,a2] ta)).alloc (.cells #[b0,b1,b2] tb)).alloc (.cells #[c0,c1,c2] tc))∧
  (((w.alloc (.cells #[a0,a1,a2] ta)).alloc (.cells #[b0,b1,b2] tb)).alloc (.cells #[c0,c1,c2] tc)).heap.size=w.heap.size+1+1+1:=by
 have la:=aA w a0 a1 a2 ta;have lb:=aA (w.alloc (.cells #[a0,a1,a2] ta)) b0 b1 b2 tb;have lc:=aA ((w.alloc (.cells #[a0,a1,a2] ta)).alloc (.cells #[b0,b1,b2] tb)) c0 c1 c2 tc;have bB:=af (w.alloc (.cells #[a0,a1,a2] ta)) (.cells #[b0,b1,b2] tb);have bC:=af ((w.alloc (.cells #[a0,a1,a2] ta)).alloc (.cells #[b0,b1,b2] tb)) (.cells #[c0,c1,c2] tc);refine⟨(la.l bB).l bC, ?_, ?_,aa (aa (af w _) bB) bC,by simp[World.size_alloc]⟩
 ·have:=lb.l bC
  rwa [World.size_alloc] at this
 ·rwa [World.size_alloc,World.size_alloc] at lc
end Go.Proofs.YtbdokgamhinajaaGreatDoor

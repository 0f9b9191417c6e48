/-
  Texts laid together: Gr6, Gr7, Ce10.
-/
import Derived.Test.YtnhackdjplppjaaGreatDoorSh19
import Derived.Test.YtnhackdjplppjaaGreatDoorSh20
import Derived.Test.YtnhackdjplppjaaGreatDoorSh22
set_option maxRecDepth 100000
set_option maxHeartbeats 3200000
namespace Go.Proofs.YtnhackdjplppjaaGreatDoor
open _root_.Go.Proofs.Tryz
open Go.RowKit
def sq (w:World)(c:Int)(t:fz)(e:Ending)(w':World):Prop:=
 ∃v,e= .returned (.tuple #[ypV t.s v t.p t.ex t.ov t.un,yi c])∧Own w' w.heap.size 141 .u32 v (Dg.dg 4294967296 t.d)∧yB w w'
def oI:fz:=⟨false,0,0,false,false,false⟩
theorem GD {P:Program}(w:World)(d:Nat){t:TypeId}{ps rs:Array TypeId}{vd:Bool}(h:P.underlying t=some (.func ps rs vd))(f:Fn)(a b:Array Value):(Op.equalIn (d+1) t (.func f a b) .nilFunc).run P w= .ok false w:=by
 simp[Op.equalIn,run_underlying h]
theorem DE {P:Program}(w:World)(d:Nat){t:TypeId}{ps rs:Array TypeId}{vd:Bool}(h:P.underlying t=some (.func ps rs vd)):(Op.equalIn (d+1) t .nilFunc .nilFunc).run P w= .ok true w:=by
 simp[Op.equalIn,run_underlying h]
theorem Rq {P:Program}(w:World){t:TypeId}{ps rs:Array TypeId}{vd:Bool}(h:P.underlying t=some (.func ps rs vd))(f:Fn)(a b:Array Value):(binOp .eql t (.func f a b) .nilFunc).run P w= .ok (.bool false) w:=by
 simp only[binOp];simp[Op.equal,Op.maxDepth,GD w 9999 h f a b]
theorem Oa {P:Program}(w:World){t:TypeId}{ps rs:Array TypeId}{vd:Bool}(h:P.underlying t=some (.func ps rs vd)):(binOp .eql t .nilFunc .nilFunc).run P w= .ok (.bool true) w:=by
 simp only[binOp];simp[Op.equal,Op.maxDepth,DE w 9999 h]
theorem Ob (R D L G:Int)(gr:Bool)(qs:Bool)(no:Option Addr)(nl nc:Nat)(eo:Option Addr)(el ec:Nat)(E way:Int)(c:Int)(fv:Value)(fn:FuncId)(isf z:Bool)(PT:fz)(ac:Int)(at_:fz)(w:World)
  (hfv:isf=true→fv= .func (.func fn) #[] #[]) (hfn:isf=false→fv= .nilFunc) (hz:((nl:Int)==0)=z)
  (HB: ¬c=0→ac=c∧at_=oI) (HK:c=0→isf=false→ac=6∧at_=oI) (HZ:c=0→isf=true→z=true→ac=0∧at_=⟨false,0,0,true,false,false⟩) (HG:c=0→isf=true→z=false→ac=0∧at_=PT)
  (HW:yH w 142 #[yrV qs (.slice no nl nc) (.slice eo el ec) E,ygV R D L G gr] (yi c))
  (HL: ∀w1 r,w1.heap[r]? =some (.map Yd 5)→(Instr.lookup 197 (.map (some r)) (yi way) false).run Tryz.prog w1= .ok fv w1)
  (HR:c=0→isf=true→z=false→ ∀w1,yB w w1→yC 144 #[ygV R D L G gr,yrV qs (.slice no nl nc) (.slice eo el ec) E,.func (.func fn) #[] #[]] w1 (Fk w1 PT)):
  yC 86 #[yrV qs (.slice no nl nc) (.slice eo el ec) E,ygV R D L G gr,yi way] w (sq w ac at_):=by
 replace HB:Hid _:=HB;replace HK:Hid _:=HK;replace HZ:Hid _:=HZ;replace HG:Hid _:=HG;replace HW:Hid _:=HW;replace HL:Hid _:=HL;replace HR:Hid _:=HR;replace hfv:Hid _:=hfv;replace hfn:Hid _:=hfn;have HWY:Hid _:=Ye;have b1:=aa (aa (af w (.cells (yrA qs (.slice no nl nc) (.slice eo el ec) E) 53)) (af _ (.cells (ygA R D L G gr) 56))) (af _ (.cells (ypA false (.slice none 0 0) 0 false false false) 86));have q1:=((ah w (yrL qs (.slice no nl nc) (.slice eo el ec) E) 53).l (af _ (.cells (ygA R D L G gr) 56))).l (af _ (.cells (ypA false (.slice none 0 0) 0 false false false) 86));have g1:=(ah (w.alloc (.cells (yrA qs (.slice no nl nc) (.slice eo el ec) E) 53)) (ygL R D L G gr) 56).l (af _ (.cells (ypA false (.slice none 0 0) 0 false false false) 86));have c1:=ah ((w.alloc (.cells (yrA qs (.slice no nl nc) (.slice eo el ec) E) 53)).alloc (.cells (ygA R D L G gr) 56)) (ypL false (.slice none 0 0) 0 false false false) 86;simp only[World.size_alloc] at g1 c1;obtain⟨x0,x1,x2,x3⟩:=q1.cs4;obtain⟨y0,y1,y2,y3,y4⟩:=g1.cs5;have en:=fun w1=>Oa (P:=Tryz.prog) w1 underlying196
 have ef:=fun w1=>Rq (P:=Tryz.prog) w1 underlying196 (.func fn) #[] #[]
 go_enter func86,ntmps86
 go_wp2_with fail
 refine(HW.out _ b1).mono ?_;rintro z wa ⟨rfl,bb2⟩;have q_2:=q1.l bb2;have g_2:=g1.l bb2;have c_2:=c1.l bb2;have b0_2:=aa b1 bb2;clear q1 g1 c1 b1 bb2;clear x0 x1 x2 x3 y0 y1 y2 y3 y4
 by_cases hc:c=0
 ·have HK2:Hid _:=HK.out hc
  have HZ2:Hid _:=HZ.out hc;have HG2:Hid _:=HG.out hc;have HR2:Hid _:=HR.out hc;clear HB HK HZ HG HR;subst hc
  go_wp2_with fail
  refine(HWY.out _).mono ?_;rintro z wb ⟨rfl,hm,bb3⟩;have q_3:=q_2.l bb3;have g_3:=g_2.l bb3;have c_3:=c_2.l bb3;have b0_3:=aa b0_2 bb3;clear q_2 g_2 c_2 b0_2 bb3;have hl:=HL.out wb _ hm;clear hm
  cases isf
  ·have hf:=hfn.out rfl
   have HF:Hid _:=HK2.out rfl;clear HK2 HZ2 HG2 HR2 hfn hfv;subst hf;have s0:=c_3.c 0 rfl;have f0:=c_3.f 0;have s1:=c_3.c 1 rfl;have f1:=c_3.f 1;have s2:=c_3.c 2 rfl;have f2:=c_3.f 2;have s3:=c_3.c 3 rfl;have f3:=c_3.f 3;have s4:=c_3.c 4 rfl;have f4:=c_3.f 4;have s5:=c_3.c 5 rfl;have f5:=c_3.f 5
   go_wp2
   have bu:But (w.heap.size+1+1) wb ((((((wb.setCell ⟨w.heap.size+1+1,0,none⟩ (.bool false)).setCell ⟨w.heap.size+1+1,1,none⟩ (.slice none 0 0)).setCell ⟨w.heap.size+1+1,2,none⟩ (yi 0)).setCell ⟨w.heap.size+1+1,3,none⟩ (.bool false)).setCell ⟨w.heap.size+1+1,4,none⟩ (.bool false)).setCell ⟨w.heap.size+1+1,5,none⟩ (.bool false)):=(((((ag wb (w.heap.size+1+1) 0 (.bool false)).trans (ag _ (w.heap.size+1+1) 1 (.slice none 0 0))).trans (ag _ (w.heap.size+1+1) 2 (yi 0))).trans (ag _ (w.heap.size+1+1) 3 (.bool false))).trans (ag _ (w.heap.size+1+1) 4 (.bool false))).trans (ag _ (w.heap.size+1+1) 5 (.bool false));have cR:au ((((((wb.setCell ⟨w.heap.size+1+1,0,none⟩ (.bool false)).setCell ⟨w.heap.size+1+1,1,none⟩ (.slice none 0 0)).setCell ⟨w.heap.size+1+1,2,none⟩ (yi 0)).setCell ⟨w.heap.size+1+1,3,none⟩ (.bool false)).setCell ⟨w.heap.size+1+1,4,none⟩ (.bool false)).setCell ⟨w.heap.size+1+1,5,none⟩ (.bool false)) (w.heap.size+1+1) 86 (ypL false (.slice none 0 0) 0 false false false):=(((((c_3.set 0 (.bool false)).set 1 (.slice none 0 0)).set 2 (yi 0)).set 3 (.bool false)).set 4 (.bool false)).set 5 (.bool false);have bR:=bu.below b0_3 (show w.heap.size≤w.heap.size+1+1 by omega)
   clear bu s0 s1 s2 s3 s4 s5 f0 f1 f2 f3 f4 f5 q_3 g_3 c_3;generalize((((((wb.setCell ⟨w.heap.size+1+1,0,none⟩ (.bool false)).setCell ⟨w.heap.size+1+1,1,none⟩ (.slice none 0 0)).setCell ⟨w.heap.size+1+1,2,none⟩ (yi 0)).setCell ⟨w.heap.size+1+1,3,none⟩ (.bool false)).setCell ⟨w.heap.size+1+1,4,none⟩ (.bool false)).setCell ⟨w.heap.size+1+1,5,none⟩ (.bool false))=WR at cR bR⊢;obtain⟨s0,s1,s2,s3,s4,s5⟩:=cR.cs6;rw[HF.out.1,HF.out.2]
   show bodyPost _ _ _ .ret _ _
   refine bodyPost_ret (v:= .tuple #[ypV false (.slice none 0 0) 0 false false false,yi 6]) (by simp[results,results86,go_sem,s0,s1,s2,s3,s4,s5]) rfl ?_;exact⟨_,rfl,aQ _ _ _ _,bR⟩
  ·have hf:=hfv.out rfl
   have HZ3:Hid _:=HZ2.out rfl;have HG3:Hid _:=HG2.out rfl;have HR3:Hid _:=HR2.out rfl;clear HK2 HZ2 HG2 HR2 hfn hfv;subst hf;have x1:=q_3.c 1 rfl
   cases z
   ·have HF:Hid _:=HG3.out rfl
    have HRF:Hid _:=HR3.out rfl;clear HZ3 HG3 HR3;have x0:=q_3.c 0 rfl;have x2:=q_3.c 2 rfl;have x3:=q_3.c 3 rfl;obtain⟨y0,y1,y2,y3,y4⟩:=g_3.cs5;have hwb:=b0_3.size
    go_wp2_with fail
    refine(HRF.out _ b0_3).mono ?_;rintro z wc ⟨v,rfl,ou,bb4⟩;have q_4:=q_3.l bb4;have g_4:=g_3.l bb4;have c_4:=c_3.l bb4;have b0_4:=aa b0_3 bb4;clear q_3 g_3 c_3 b0_3 bb4;clear x0 x1 x2 x3 y0 y1 y2 y3 y4;obtain⟨uo,uk,hv⟩:=ou.rd.shape;subst hv;obtain⟨lu,hlu⟩: ∃x,(Dg.dg 4294967296 PT.d).length=x:=⟨_,rfl⟩;rw[hlu] at ou;rw[hlu];clear hlu;have s0:=c_4.c 0 rfl;have f0:=c_4.f 0;have s1:=c_4.c 1 rfl;have f1:=c_4.f 1;have s2:=c_4.c 2 rfl;have f2:=c_4.f 2;have s3:=c_4.c 3 rfl;have f3:=c_4.f 3;have s4:=c_4.c 4 rfl;have f4:=c_4.f 4;have s5:=c_4.c 5 rfl;have f5:=c_4.f 5
    go_wp2
    have bu:But (w.heap.size+1+1) wc ((((((wc.setCell ⟨w.heap.size+1+1,0,none⟩ (.bool PT.s)).setCell ⟨w.heap.size+1+1,1,none⟩ (.slice uo lu uk)).setCell ⟨w.heap.size+1+1,2,none⟩ (yi PT.p)).setCell ⟨w.heap.size+1+1,3,none⟩ (.bool PT.ex)).setCell ⟨w.heap.size+1+1,4,none⟩ (.bool PT.ov)).setCell ⟨w.heap.size+1+1,5,none⟩ (.bool PT.un)):=(((((ag wc (w.heap.size+1+1) 0 (.bool PT.s)).trans (ag _ (w.heap.size+1+1) 1 (.slice uo lu uk))).trans (ag _ (w.heap.size+1+1) 2 (yi PT.p))).trans (ag _ (w.heap.size+1+1) 3 (.bool PT.ex))).trans (ag _ (w.heap.size+1+1) 4 (.bool PT.ov))).trans (ag _ (w.heap.size+1+1) 5 (.bool PT.un));have cR:au ((((((wc.setCell ⟨w.heap.size+1+1,0,none⟩ (.bool PT.s)).setCell ⟨w.heap.size+1+1,1,none⟩ (.slice uo lu uk)).setCell ⟨w.heap.size+1+1,2,none⟩ (yi PT.p)).setCell ⟨w.heap.size+1+1,3,none⟩ (.bool PT.ex)).setCell ⟨w.heap.size+1+1,4,none⟩ (.bool PT.ov)).setCell ⟨w.heap.size+1+1,5,none⟩ (.bool PT.un)) (w.heap.size+1+1) 86 (ypL PT.s (.slice uo lu uk) PT.p PT.ex PT.ov PT.un):=(((((c_4.set 0 (.bool PT.s)).set 1 (.slice uo lu uk)).set 2 (yi PT.p)).set 3 (.bool PT.ex)).set 4 (.bool PT.ov)).set 5 (.bool PT.un);have bR:=bu.below b0_4 (show w.heap.size≤w.heap.size+1+1 by omega)
    have oR:=bu.own (ou.lower hwb) c_4 (by decide);clear bu s0 s1 s2 s3 s4 s5 f0 f1 f2 f3 f4 f5 q_4 g_4 c_4;generalize((((((wc.setCell ⟨w.heap.size+1+1,0,none⟩ (.bool PT.s)).setCell ⟨w.heap.size+1+1,1,none⟩ (.slice uo lu uk)).setCell ⟨w.heap.size+1+1,2,none⟩ (yi PT.p)).setCell ⟨w.heap.size+1+1,3,none⟩ (.bool PT.ex)).setCell ⟨w.heap.size+1+1,4,none⟩ (.bool PT.ov)).setCell ⟨w.heap.size+1+1,5,none⟩ (.bool PT.un))=WR at cR bR oR⊢;obtain⟨s0,s1,s2,s3,s4,s5⟩:=cR.cs6;rw[HF.out.1,HF.out.2]
    show bodyPost _ _ _ .ret _ _
    refine bodyPost_ret (v:= .tuple #[ypV PT.s (.slice uo lu uk) PT.p PT.ex PT.ov PT.un,yi 0]) (by simp[results,results86,go_sem,s0,s1,s2,s3,s4,s5]) rfl ?_;exact⟨_,rfl,oR,bR⟩
   ·have HF:Hid _:=HZ3.out rfl
    clear HZ3 HG3 HR3;have s0:=c_3.c 0 rfl;have f0:=c_3.f 0;have s1:=c_3.c 1 rfl;have f1:=c_3.f 1;have s2:=c_3.c 2 rfl;have f2:=c_3.f 2;have s3:=c_3.c 3 rfl;have f3:=c_3.f 3;have s4:=c_3.c 4 rfl;have f4:=c_3.f 4;have s5:=c_3.c 5 rfl;have f5:=c_3.f 5
    go_wp2
    have bu:But (w.heap.size+1+1) wb ((((((wb.setCell ⟨w.heap.size+1+1,0,none⟩ (.bool false)).setCell ⟨w.heap.size+1+1,1,none⟩ (.slice none 0 0)).setCell ⟨w.heap.size+1+1,2,none⟩ (yi 0)).setCell ⟨w.heap.size+1+1,3,none⟩ (.bool true)).setCell ⟨w.heap.size+1+1,4,none⟩ (.bool false)).setCell ⟨w.heap.size+1+1,5,none⟩ (.bool false)):=(((((ag wb (w.heap.size+1+1) 0 (.bool false)).trans (ag _ (w.heap.size+1+1) 1 (.slice none 0 0))).trans (ag _ (w.heap.size+1+1) 2 (yi 0))).trans (ag _ (w.heap.size+1+1) 3 (.bool true))).trans (ag _ (w.heap.size+1+1) 4 (.bool false))).trans (ag _ (w.heap.size+1+1) 5 (.bool false));have cR:au ((((((wb.setCell ⟨w.heap.size+1+1,0,none⟩ (.bool false)).setCell ⟨w.heap.size+1+1,1,none⟩ (.slice none 0 0)).setCell ⟨w.heap.size+1+1,2,none⟩ (yi 0)).setCell ⟨w.heap.size+1+1,3,none⟩ (.bool true)).setCell ⟨w.heap.size+1+1,4,none⟩ (.bool false)).setCell ⟨w.heap.size+1+1,5,none⟩ (.bool false)) (w.heap.size+1+1) 86 (ypL false (.slice none 0 0) 0 true false false):=(((((c_3.set 0 (.bool false)).set 1 (.slice none 0 0)).set 2 (yi 0)).set 3 (.bool true)).set 4 (.bool false)).set 5 (.bool false);have bR:=bu.below b0_3 (show w.heap.size≤w.heap.size+1+1 by omega)
    clear bu s0 s1 s2 s3 s4 s5 f0 f1 f2 f3 f4 f5 q_3 g_3 c_3;generalize((((((wb.setCell ⟨w.heap.size+1+1,0,none⟩ (.bool false)).setCell ⟨w.heap.size+1+1,1,none⟩ (.slice none 0 0)).setCell ⟨w.heap.size+1+1,2,none⟩ (yi 0)).setCell ⟨w.heap.size+1+1,3,none⟩ (.bool true)).setCell ⟨w.heap.size+1+1,4,none⟩ (.bool false)).setCell ⟨w.heap.size+1+1,5,none⟩ (.bool false))=WR at cR bR⊢;obtain⟨s0,s1,s2,s3,s4,s5⟩:=cR.cs6;rw[HF.out.1,HF.out.2]
    show bodyPost _ _ _ .ret _ _
    refine bodyPost_ret (v:= .tuple #[ypV false (.slice none 0 0) 0 true false false,yi 0]) (by simp[results,results86,go_sem,s0,s1,s2,s3,s4,s5]) rfl ?_;exact⟨_,rfl,aQ _ _ _ _,bR⟩
 ·have hcf:(c==0)=false:=by simp;exact hc
  have HF:Hid _:=HB.out hc;clear hc HB HK HZ HG HR;have s0:=c_2.c 0 rfl;have f0:=c_2.f 0;have s1:=c_2.c 1 rfl;have f1:=c_2.f 1;have s2:=c_2.c 2 rfl;have f2:=c_2.f 2;have s3:=c_2.c 3 rfl;have f3:=c_2.f 3;have s4:=c_2.c 4 rfl;have f4:=c_2.f 4;have s5:=c_2.c 5 rfl;have f5:=c_2.f 5
  go_wp2
  have bu:But (w.heap.size+1+1) wa ((((((wa.setCell ⟨w.heap.size+1+1,0,none⟩ (.bool false)).setCell ⟨w.heap.size+1+1,1,none⟩ (.slice none 0 0)).setCell ⟨w.heap.size+1+1,2,none⟩ (yi 0)).setCell ⟨w.heap.size+1+1,3,none⟩ (.bool false)).setCell ⟨w.heap.size+1+1,4,none⟩ (.bool false)).setCell ⟨w.heap.size+1+1,5,none⟩ (.bool false)):=(((((ag wa (w.heap.size+1+1) 0 (.bool false)).trans (ag _ (w.heap.size+1+1) 1 (.slice none 0 0))).trans (ag _ (w.heap.size+1+1) 2 (yi 0))).trans (ag _ (w.heap.size+1+1) 3 (.bool false))).trans (ag _ (w.heap.size+1+1) 4 (.bool false))).trans (ag _ (w.heap.size+1+1) 5 (.bool false));have cR:au ((((((wa.setCell ⟨w.heap.size+1+1,0,none⟩ (.bool false)).setCell ⟨w.heap.size+1+1,1,none⟩ (.slice none 0 0)).setCell ⟨w.heap.size+1+1,2,none⟩ (yi 0)).setCell ⟨w.heap.size+1+1,3,none⟩ (.bool false)).setCell ⟨w.heap.size+1+1,4,none⟩ (.bool false)).setCell ⟨w.heap.size+1+1,5,none⟩ (.bool false)) (w.heap.size+1+1) 86 (ypL false (.slice none 0 0) 0 false false false):=(((((c_2.set 0 (.bool false)).set 1 (.slice none 0 0)).set 2 (yi 0)).set 3 (.bool false)).set 4 (.bool false)).set 5 (.bool false);have bR:=bu.below b0_2 (show w.heap.size≤w.heap.size+1+1 by omega)
  clear bu s0 s1 s2 s3 s4 s5 f0 f1 f2 f3 f4 f5 q_2 g_2 c_2;generalize((((((wa.setCell ⟨w.heap.size+1+1,0,none⟩ (.bool false)).setCell ⟨w.heap.size+1+1,1,none⟩ (.slice none 0 0)).setCell ⟨w.heap.size+1+1,2,none⟩ (yi 0)).setCell ⟨w.heap.size+1+1,3,none⟩ (.bool false)).setCell ⟨w.heap.size+1+1,4,none⟩ (.bool false)).setCell ⟨w.heap.size+1+1,5,none⟩ (.bool false))=WR at cR bR⊢;obtain⟨s0,s1,s2,s3,s4,s5⟩:=cR.cs6;rw[HF.out.1,HF.out.2]
  show bodyPost _ _ _ .ret _ _
  refine bodyPost_ret (v:= .tuple #[ypV false (.slice none 0 0) 0 false false false,yi c]) (by simp[results,results86,go_sem,s0,s1,s2,s3,s4,s5]) rfl ?_;exact⟨_,rfl,aQ _ _ _ _,bR⟩
def T4 (way:Int):FuncId:=if way=1 then 183 else if way=2 then 184 else if way=3 then 185 else if way=4 then 186 else 187
def iC (way:Int):Bool:=decide (1≤way∧way≤5)
def ac0 (way:Int):Value:=if iC way=true then .func (.func (T4 way)) #[] #[] else .nilFunc
theorem zi {way:Int}(h:iC way=true):way=1∨way=2∨way=3∨way=4∨way=5:=by
 have:=of_decide_eq_true h;omega
theorem XI (x y:Int):Instr.sameNow (.int .i64) (yi x) (yi y)=some (decide (x=y)):=by
 simp[Instr.sameNow]
 by_cases h:x=y<;>simp[h]
theorem PI (way:Int)(w1:World)(r:Nat)(hm:w1.heap[r]? =some (.map Yd 5)):(Instr.lookup 197 (.map (some r)) (yi way) false).run Tryz.prog w1= .ok (ac0 way) w1:=by
 by_cases h:iC way=true
 ·rcases zi h with rfl|rfl|rfl|rfl|rfl
  ·exact pj underlying197 underlying3 hm 1 rfl
  ·exact pj underlying197 underlying3 hm 2 rfl
  ·exact pj underlying197 underlying3 hm 3 rfl
  ·exact pj underlying197 underlying3 hm 4 rfl
  ·exact pj underlying197 underlying3 hm 5 rfl
 ·have hn: ¬(1≤way∧way≤5):=fun c=>h (decide_eq_true c)
  unfold ac0;rw[if_neg h];refine Yc underlying197 underlying3 hm way ?_ ?_
  ·kernel_rfl
  ·simp[Yd,Instr.findNow,XI,show¬way=1 by omega,show¬way=2 by omega,show¬way=3 by omega,show¬way=4 by omega,show¬way=5 by omega]
theorem PK {way:Int}(h:iC way=true)(half:Int)(odd neg:Bool)(w1:World):yC (T4 way) #[.agg #[yi half,.bool odd,.bool neg]] w1 (yR w1 (.bool (gY way half odd neg))):=by
 rcases zi h with rfl|rfl|rfl|rfl|rfl
 ·exact Yf half odd neg w1
 ·exact Yg half odd neg w1
 ·exact Yh half odd neg w1
 ·exact Yi half odd neg w1
 ·exact Yj half odd neg w1
theorem enter_of {P:Program}{f:FuncId}{fn:Func}{c:Code}(hf:P.funcs[f]? =some fn)(hname:(fn.name== "runtime.NumGoroutine")=false)(hb:fn.body=some c)(args:Array Value)(w:World):Sem.run P (callFunc f args) w= .ok (.enter f args) w:=by
 have hn: ¬fn.name= "runtime.NumGoroutine" :=by simpa using hname
 simp[callFunc,hf,hn,hb]
theorem PO {way:Int}(h:iC way=true)(args:Array Value)(W:World):Sem.run Tryz.prog (callFunc (T4 way) args) W= .ok (.enter (T4 way) args) W:=by
 rcases zi h with rfl|rfl|rfl|rfl|rfl
 ·exact enter_of func183 (by kernel_rfl) rfl args W
 ·exact enter_of func184 (by kernel_rfl) rfl args W
 ·exact enter_of func185 (by kernel_rfl) rfl args W
 ·exact enter_of func186 (by kernel_rfl) rfl args W
 ·exact enter_of func187 (by kernel_rfl) rfl args W
def eE (xs ys:List Nat)(E R D L G way:Int):Int:=
 if jg (eA xs ys E) (bk R D L G)=0 then(if iC way=true then 0 else 6) else jg (eA xs ys E) (bk R D L G)
def df (xs ys:List Nat)(E R D L G:Int)(gr qs:Bool)(way:Int):fz:=
 if eE xs ys E R D L G way=0 then(if xs.length=0 then⟨false,0,0,true,false,false⟩ else cI R D L G gr qs (Dg.vl 4294967296 xs) (Dg.vl 4294967296 ys) E way) else oI
theorem C4 {c d:Int}(h:jg c d=0):c=0∧d=0:=by
 unfold jg at h
 split at h
 ·exact⟨by assumption,h⟩
 ·exact absurd h (by assumption)
theorem gO {xs ys:List Nat}{E:Int}(h:eA xs ys E=0):chk xs=0∧chk ys=0∧0<ys.length∧ -20000≤E∧E≤20000:=by
 unfold eA at h
 by_cases h1:chk xs=0
 ·rw[if_pos h1] at h
  by_cases h2:chk ys=0
  ·rw[if_pos h2] at h
   by_cases h3:ys.length=0∨eJ 20000 E=true
   ·rw[if_pos h3] at h
    cases h
   ·have h4: ¬eJ 20000 E=true:=fun c=>h3 (Or.inr c)
    unfold eJ at h4;simp at h4;refine⟨h1,h2, ?_,by omega,by omega⟩;have: ¬ys.length=0:=fun c=>h3 (Or.inl c)
    omega
  ·rw[if_neg h2] at h
   exact absurd h h2
 ·rw[if_neg h1] at h
  exact absurd h h1
theorem jM (qs:Bool)(ao:Option Addr)(ca:Nat)(xs:List Nat)(bo:Option Addr)(cb:Nat)(ys:List Nat)(E R D L G:Int)(gr:Bool)(way:Int)(w:World)(ha:Rd w .u32 (.slice ao xs.length ca) xs)(hb:Rd w .u32 (.slice bo ys.length cb) ys)(sa:Dg.Small 4294967296 xs)(sb:Dg.Small 4294967296 ys):
  yC 86 #[yrV qs (.slice ao xs.length ca) (.slice bo ys.length cb) E,ygV R D L G gr,yi way] w (sq w (eE xs ys E R D L G way) (df xs ys E R D L G gr qs way)):=by
 refine Ob R D L G gr qs ao xs.length ca bo ys.length cb E way (jg (eA xs ys E) (bk R D L G)) (ac0 way) (T4 way) (iC way) ((xs.length:Int)==0) (cI R D L G gr qs (Dg.vl 4294967296 xs) (Dg.vl 4294967296 ys) E way) _ _ w ?_ ?_ rfl ?_ ?_ ?_ ?_ ?_ ?_ ?_
 ·intro h
  exact if_pos h
 ·intro h
  exact if_neg (by rw[h];decide)
 ·intro h
  have e:eE xs ys E R D L G way=jg (eA xs ys E) (bk R D L G):=if_neg h;exact⟨e,by unfold df;rw[e,if_neg h]⟩
 ·intro h hw
  have e:eE xs ys E R D L G way=6:=(if_pos h).trans (if_neg (by rw[hw];decide));exact⟨e,by unfold df;rw[e];rfl⟩
 ·intro h hw hz
  have e:eE xs ys E R D L G way=0:=(if_pos h).trans (if_pos hw);have hx:xs.length=0:=by simpa using hz
  exact⟨e,by unfold df;rw[e,if_pos rfl,if_pos hx]⟩
 ·intro h hw hz
  have e:eE xs ys E R D L G way=0:=(if_pos h).trans (if_pos hw);have hx: ¬xs.length=0:=by simpa using hz
  exact⟨e,by unfold df;rw[e,if_pos rfl,if_neg hx]⟩
 ·intro w1 b
  exact Qe qs ao ca xs bo cb ys E R D L G gr w1 (ha.l b) (hb.l b)
 ·intro w1 r hm
  exact PI way w1 r hm
 ·intro h hw hz w1 b
  obtain⟨h1,h2⟩:=C4 h;obtain⟨c1,c2,hl,e1,e2⟩:=gO h1;obtain⟨nx,lx⟩:=aF c1;obtain⟨ny,ly⟩:=aF c2;have ex:Dg.dg 4294967296 (Dg.vl 4294967296 xs)=xs:=Dg.dg_vl _ (by omega) _ sa nx;have ey:Dg.dg 4294967296 (Dg.vl 4294967296 ys)=ys:=Dg.dg_vl _ (by omega) _ sb ny;have hM:0<Dg.vl 4294967296 ys:=by
   refine Nat.pos_of_ne_zero fun c=> ?_
   rw[c] at ey;rw[←ey] at hl;exact absurd hl (by decide)
  have:=Qh R D L G gr qs ao ca bo cb (Dg.vl 4294967296 xs) (Dg.vl 4294967296 ys) E way (T4 way) w1 h2 (by rw[ex];exact ha.l b) (by rw[ey];exact hb.l b) (by rw[ex];omega) (by rw[ey];omega) hM e1 e2 (PO hw) (PK hw)
  rwa [ex,ey] at this
theorem xD {w:World}{q:Nat}(h:w.cell? ⟨q,0,none⟩=some (.int .u32 1)):Rd w .u32 (.slice (some ⟨q,0,none⟩) 1 1) [1]:=
 ⟨_,1,rfl,Nat.le_refl _,by unfold maxLen;omega,fun _=>⟨q,0,rfl,fun i hi=>by
  obtain rfl:i=0:=by simpa using hi
  exact h⟩⟩
theorem fI (a:ak):(bare a).n=0↔a.n=0:=by
 by_cases h:a.n=0
 ·unfold bare
  rw[if_pos h];exact⟨fun _=>h,fun _=>rfl⟩
 ·unfold bare
  rw[if_neg h];obtain⟨m,hm⟩:=fO h;have:=lI hm;exact⟨fun h2=>by simp only at h2;omega,fun h2=>absurd h2 h⟩
theorem Re {k:Nat}(hk:1≤k∧k≤8):gW k<18446744073709551616:=by
 rcases bO hk with rfl|rfl|rfl|rfl|rfl|rfl|rfl|rfl<;>decide
def heE (R L:Int)(ld:Nat)(t:fz):Nat:=(t.p-L).toNat+if R=2∧t.d&&& ld≠0 then 1 else 0
theorem ZC (R D L G fam:Int)(gr:Bool)(sz ex:Nat)(F ld:Nat)(s:Bool)(ao:Option Addr)(ca:Nat)(xs:List Nat)(E:Int)(w:World)(WB:Bool→Nat→Nat→ByteArray)
  (hr:Rd w .u32 (.slice ao xs.length ca) xs) (sa:Dg.Small 4294967296 xs) (hd:aS xs E=0) (h0:Dg.vl 4294967296 xs≠0) (hg:bk R D L G=0) (h1:1≤D) (hLG:L≤G) (hD:ai R*D.toNat≤64) (hGL:G-L<60000) (hRc:R=2∨R=16) (hld:ld<18446744073709551616)
  (hh:dA R D L G gr (Dg.vl 4294967296 xs) E=true)
  (HL:yJ 198 #[ylV R D L G gr (sz:Int) (ex:Int) fam F] (.int .u64 (ld:Int)))
  (HW: ∀ng e f w1,e<65536→f<18446744073709551616→yC 158 #[ylV R D L G gr (sz:Int) (ex:Int) fam F,yfV ng ((e:Nat):Int) ((f:Nat):Int)] w1 (yR w1 (.string (WB ng e f)))):
  yC 155 #[ylV R D L G gr (sz:Int) (ex:Int) fam F,ydV s (.slice ao xs.length ca) E] w (yR w (.tuple #[.string (WB (cI R D L G gr s (Dg.vl 4294967296 xs) 1 E 3).s (heE R L ld (cI R D L G gr s (Dg.vl 4294967296 xs) 1 E 3)) (cI R D L G gr s (Dg.vl 4294967296 xs) 1 E 3).d),yi 0])):=by
 obtain⟨c1,e1,e2⟩:=bL hd;have hlen:xs.length≠0:=fun h=>h0 (by rw[List.eq_nil_of_length_eq_zero h];rfl)
 have hC:eE xs [1] E R D L G 3=0:=by
  have hq:eA xs [1] E=0:=by
   unfold eA;rw[if_pos c1,if_pos (show chk [1]=0 by decide),if_neg]
   rintro(h|h)
   ·simp at h
   ·unfold eJ at h
    simp at h;omega
  have hw:jg (eA xs [1] E) (bk R D L G)=0:=by unfold jg;rw[if_pos hq];exact hg
  unfold eE;rw[if_pos hw,if_pos (by decide)]
 have hP:df xs [1] E R D L G gr s 3=cI R D L G gr s (Dg.vl 4294967296 xs) 1 E 3:=by
  unfold df;rw[if_pos hC,if_neg hlen];rfl
 obtain⟨hov,hun,hbare⟩:=mC (s:=s) (way:=3) h1 hLG h0 hh;have hsp:=nW h1 hLG h0 (by omega:(1:Nat)≠0) hov hun;have hR:=fun q w1 (b:yB w w1) (hc:w1.cell? ⟨q,0,none⟩=some (.int .u32 1))=>jM s ao ca xs (some ⟨q,0,none⟩) 1 [1] E R D L G gr 3 w1 (hr.l b) (xD hc) sa (fun i=>by
  match i with
  |0=>decide
  |i+1=>simp)
 rw[hC,hP] at hR;obtain⟨t,ht⟩: ∃t,cI R D L G gr s (Dg.vl 4294967296 xs) 1 E 3=t:=⟨_,rfl⟩;rw[ht] at hsp hbare hR⊢;have hd0:t.d≠0:=fun h=>by
  have hz:=congrArg ak.n hbare;have a1:=(fI ⟨t.s,t.d,(ai R:Int)*t.p⟩).2 h;rw[hz] at a1;exact h0 ((fI ⟨s,Dg.vl 4294967296 xs,E⟩).1 a1)
 obtain⟨-,hp1,hp2,hdl,-⟩:=hsp.resolve_left (fun h=>hd0 h.1)
 have hd64:t.d<18446744073709551616:=by
  have:(2:Nat)^ (ai R*D.toNat)≤2^64:=Nat.pow_le_pow_right (by omega) hD;omega
 clear ht hov hun hbare hsp hC hP hh;obtain⟨e,he⟩: ∃e:Nat,t.p-L=(e:Int):=⟨(t.p-L).toNat,by omega⟩;have hel:e<60000:=by omega
 have hew:IntKind.i64.wrap (t.p-L)=(e:Int):=by rw[he];exact IntWalk.i64_in _ ⟨by omega,by omega⟩
 have hzl:(Dg.dg 4294967296 t.d).length≤2:=Dg.dg_len_le 4294967296 t.d 2 (by omega) hd64;have hzp:0< (Dg.dg 4294967296 t.d).length:=List.length_pos_iff.2 (by rw[Ne,Dg.dg_nil_iff 4294967296 t.d (by omega)];exact hd0);have HWd: ∀po pc w1,Rd w1 .u32 (.slice po (Dg.dg 4294967296 t.d).length pc) (Dg.dg 4294967296 t.d)→ ∀w2,yB w1 w2→yC 226 #[.slice po (Dg.dg 4294967296 t.d).length pc] w2 fun z w'=>z= .returned (.int .u64 (t.d:Int))∧w2=w':=fun po pc w1 h w2 b=>by
  have:=XF _ _ w2 (h.l b) (Dg.small_dg 4294967296 t.d (by omega)) hzl;rw[Dg.vl_dg 4294967296 t.d (by omega)] at this;exact this.mono (fun _ _ h=>⟨h.1,h.2.symm⟩)
 have hen:(t.p-L).toNat=e:=by omega
 unfold heE;rw[hen];have HR2: ∀q w1,yB w w1→w1.cell? ⟨q,0,none⟩=some (.int .u32 1)→yC 86 #[yrV s (.slice ao xs.length ca) (.slice (some ⟨q,0,none⟩) 1 1) E,ygV R D L G gr,yi 3] w1 fun z w'=> ∃po pc,z= .returned (.tuple #[ypV t.s (.slice po (Dg.dg 4294967296 t.d).length pc) t.p t.ex t.ov t.un,yi 0])∧Rd w' .u32 (.slice po (Dg.dg 4294967296 t.d).length pc) (Dg.dg 4294967296 t.d)∧yB w1 w':=fun q w1 b hc=>(hR q w1 b hc).mono (fun z w' h=>by
  obtain⟨v,rfl,own,b2⟩:=h;obtain⟨po,pc,hv⟩:=own.rd.shape;subst hv;exact⟨po,pc,rfl,own.rd,b2⟩)
 rcases hRc with rfl|rfl
 ·by_cases hb:t.d&&& ld=0
  ·rw[if_neg (fun h=>h.2 hb),Nat.add_zero]
   exact CC _ D L G fam gr sz ex F s ao xs.length ca E w (Dg.dg 4294967296 t.d) _ t.s t.ex t.ov t.un t.p 0 HR2 t.s e t.d (fun po pc w1 _ h=>KG D L G fam gr sz ex F t.s t.ex t.ov t.un po _ pc t.p e t.d w1 hew (by omega) (HWd po pc w1 h) ld 0 (by rw[u64_and_nat t.d ld hd64 hld,hb];rfl) rfl HL) _ (fun w1=>HW t.s e t.d w1 (by omega) hd64) rfl hzp
  ·rw[if_pos ⟨rfl,hb⟩]
   have hF: ∀po pc w1,yB w w1→Rd w1 .u32 (.slice po (Dg.dg 4294967296 t.d).length pc) (Dg.dg 4294967296 t.d)→_:=fun po pc w1 _ h=>KF D L G fam gr sz ex F t.s t.ex t.ov t.un po _ pc t.p e t.d w1 hew (by omega) (HWd po pc w1 h) ld ((t.d&&& ld:Nat):Int) (u64_and_nat t.d ld hd64 hld) (by omega) HL
   exact CC _ D L G fam gr sz ex F s ao xs.length ca E w (Dg.dg 4294967296 t.d) _ t.s t.ex t.ov t.un t.p 0 HR2 t.s (e+1) t.d hF _ (fun w1=>HW t.s (e+1) t.d w1 (by omega) hd64) rfl hzp
 ·rw[if_neg (fun h=>by have:=h.1;omega),Nat.add_zero]
  exact CC _ D L G fam gr sz ex F s ao xs.length ca E w (Dg.dg 4294967296 t.d) _ t.s t.ex t.ov t.un t.p 0 HR2 t.s e t.d (fun po pc w1 _ h=>KE D L G fam gr sz ex F t.s t.ex t.ov t.un po _ pc t.p e t.d w1 hew (by omega) (HWd po pc w1 h)) _ (fun w1=>HW t.s e t.d w1 (by omega) hd64) rfl hzp
def gsI:Nat→Int
 |1=>104|2=>971|3=>16320|4=>57|5=>49|6=>103|7=>71|8=>970|_=>0
def plT (k:Nat)(s:Bool)(n:Nat)(E:Int):fz:=cI (rdN k:Int) (dgN k:Int) (lsI k) (gsI k) (decide (k≤3)) s n 1 E 3
theorem xE (k:Nat)(hk:1≤k∧k≤8)(s:Bool)(ao:Option Addr)(ca:Nat)(xs:List Nat)(E:Int)(w:World)(hr:Rd w .u32 (.slice ao xs.length ca) xs)(sa:Dg.Small 4294967296 xs)(hd:aS xs E=0)(h0:Dg.vl 4294967296 xs≠0)
  (hh:dA (rdN k:Int) (dgN k:Int) (lsI k) (gsI k) (decide (k≤3)) (Dg.vl 4294967296 xs) E=true):
  yC 155 #[.agg (tS k).toArray,ydV s (.slice ao xs.length ca) E] w (yR w (.tuple #[.string (cF (kU k (plT k s (Dg.vl 4294967296 xs) E).s (heE (rdN k:Int) (lsI k) (gW k) (plT k s (Dg.vl 4294967296 xs) E)) (plT k s (Dg.vl 4294967296 xs) E).d)),yi 0])):=by
 have HL:=fun w1=>xX k hk w1
 have HW:=fun ng e f w1 (he:e<65536) (hf:f<18446744073709551616)=>Aq k hk ng e f w1 he hf
 have hl:=Re hk;unfold plT
 rcases bO hk with rfl|rfl|rfl|rfl|rfl|rfl|rfl|rfl
 all_goals exact ZC _ _ _ _ _ _ _ _ _ _ s ao ca xs E w (fun ng e f=>cF (kU _ ng e f)) hr sa hd h0 (by decide) (by decide) (by decide) (by decide) (by decide) (by decide) hl hh HL HW
end Go.Proofs.YtnhackdjplppjaaGreatDoor

/-
  Texts laid together: Gr6, Gr7, Dr1, Dy5, Dy6, Dy7, Dy9, Dl3, Dt1, Dk1, Gm2.
-/
import Derived.Test.YtnhackdjplppjaaGreatDoorSp14
set_option maxRecDepth 100000
namespace Go.Proofs.YtnhackdjplppjaaGreatDoor
open Go.RowKit
def PlaceAns (w:World) (c:Int) (t:PlaceT) (e:Ending) (w':World):Prop:=
 ∃v,e= .returned (.tuple #[ypV t.s v t.p t.ex t.ov t.un,yi c])∧Own w' w.heap.size 141 .u32 v (Dg.dg 4294967296 t.d)∧Below w.heap.size w w'
def noPlace:PlaceT:=⟨false,0,0,false,false,false⟩
theorem equalIn_fn_nil {P:Program} (w:World) (d:Nat) {t:TypeId} {ps rs:Array TypeId} {vd:Bool} (h:P.underlying t=some (.func ps rs vd)) (f:Fn) (a b:Array Value):(Op.equalIn (d+1) t (.func f a b) .nilFunc).run P w= .ok false w:=by
 simp[Op.equalIn,run_underlying h]
theorem equalIn_nil_nil {P:Program} (w:World) (d:Nat) {t:TypeId} {ps rs:Array TypeId} {vd:Bool} (h:P.underlying t=some (.func ps rs vd)):(Op.equalIn (d+1) t .nilFunc .nilFunc).run P w= .ok true w:=by
 simp[Op.equalIn,run_underlying h]
theorem eql_fn_nil {P:Program} (w:World) {t:TypeId} {ps rs:Array TypeId} {vd:Bool} (h:P.underlying t=some (.func ps rs vd)) (f:Fn) (a b:Array Value):(binOp .eql t (.func f a b) .nilFunc).run P w= .ok (.bool false) w:=by
 simp only[binOp];simp[Op.equal,Op.maxDepth,equalIn_fn_nil w 9999 h f a b]
theorem eql_nil_nil {P:Program} (w:World) {t:TypeId} {ps rs:Array TypeId} {vd:Bool} (h:P.underlying t=some (.func ps rs vd)):(binOp .eql t .nilFunc .nilFunc).run P w= .ok (.bool true) w:=by
 simp only[binOp];simp[Op.equal,Op.maxDepth,equalIn_nil_nil w 9999 h]
set_option maxHeartbeats 3200000 in
theorem gRoundW_any (R D L G:Int) (gr:Bool) (qs:Bool) (no:Option Addr) (nl nc:Nat) (eo:Option Addr) (el ec:Nat) (E way:Int) (c:Int) (fv:Value) (fn:FuncId) (isf z:Bool) (PT:PlaceT) (ac:Int) (at_:PlaceT) (w:World)
  (hfv:isf=true→fv= .func (.func fn) #[] #[]) (hfn:isf=false→fv= .nilFunc) (hz:((nl:Int)==0)=z)
  (HB: ¬c=0→ac=c∧at_=noPlace) (HK:c=0→isf=false→ac=6∧at_=noPlace) (HZ:c=0→isf=true→z=true→ac=0∧at_=⟨false,0,0,true,false,false⟩) (HG:c=0→isf=true→z=false→ac=0∧at_=PT)
  (HW: ∀w1,Below w.heap.size w w1→Calls Tryz.prog 142 #[yrV qs (.slice no nl nc) (.slice eo el ec) E,ygV R D L G gr] w1 fun z w'=>z= .returned (yi c)∧Below w1.heap.size w1 w')
  (HL: ∀w1 r,w1.heap[r]? =some (.map wayE 5)→(Instr.lookup 197 (.map (some r)) (yi way) false).run Tryz.prog w1= .ok fv w1)
  (HR:c=0→isf=true→z=false→ ∀w1,Below w.heap.size w w1→Calls Tryz.prog 144 #[ygV R D L G gr,yrV qs (.slice no nl nc) (.slice eo el ec) E,.func (.func fn) #[] #[]] w1 (PlaceRes w1 PT)):
  Calls Tryz.prog 86 #[yrV qs (.slice no nl nc) (.slice eo el ec) E,ygV R D L G gr,yi way] w (PlaceAns w ac at_):=by
 replace HB:Hid _:=HB;replace HK:Hid _:=HK;replace HZ:Hid _:=HZ;replace HG:Hid _:=HG;replace HW:Hid _:=HW;replace HL:Hid _:=HL;replace HR:Hid _:=HR;replace hfv:Hid _:=hfv;replace hfn:Hid _:=hfn;have HWY:Hid _:=ways_any;have b1:=below_trans (below_trans (below_alloc w (.cells (yrL qs (.slice no nl nc) (.slice eo el ec) E).toArray 53)) (below_alloc _ (.cells (ygL R D L G gr).toArray 56))) (below_alloc _ (.cells (ypL false (.slice none 0 0) 0 false false false).toArray 86));have q1:=((locE_new w (yrL qs (.slice no nl nc) (.slice eo el ec) E) 53).later (below_alloc _ (.cells (ygL R D L G gr).toArray 56))).later (below_alloc _ (.cells (ypL false (.slice none 0 0) 0 false false false).toArray 86));have g1:=(locE_new (w.alloc (.cells (yrL qs (.slice no nl nc) (.slice eo el ec) E).toArray 53)) (ygL R D L G gr) 56).later (below_alloc _ (.cells (ypL false (.slice none 0 0) 0 false false false).toArray 86));have c1:=locE_new ((w.alloc (.cells (yrL qs (.slice no nl nc) (.slice eo el ec) E).toArray 53)).alloc (.cells (ygL R D L G gr).toArray 56)) (ypL false (.slice none 0 0) 0 false false false) 86;simp only[World.size_alloc] at g1 c1;obtain⟨x0,x1,x2,x3⟩:=q1.cs4;obtain⟨y0,y1,y2,y3,y4⟩:=g1.cs5;have en:=fun w1=>eql_nil_nil (P:=Tryz.prog) w1 Tryz.underlying196
 have ef:=fun w1=>eql_fn_nil (P:=Tryz.prog) w1 Tryz.underlying196 (.func fn) #[] #[]
 go_enter Tryz.func86,Tryz.ntmps86
 go_wp2_with fail
 refine(HW.out _ b1).mono ?_;rintro z wa ⟨rfl,bb2⟩;have q_2:=q1.later bb2;have g_2:=g1.later bb2;have c_2:=c1.later bb2;have b0_2:=below_trans b1 bb2;clear q1 g1 c1 b1 bb2;clear x0 x1 x2 x3 y0 y1 y2 y3 y4
 by_cases hc:c=0
 ·have HK2:Hid _:=HK.out hc
  have HZ2:Hid _:=HZ.out hc;have HG2:Hid _:=HG.out hc;have HR2:Hid _:=HR.out hc;clear HB HK HZ HG HR;subst hc
  go_wp2_with fail
  refine(HWY.out _).mono ?_;rintro z wb ⟨rfl,hm,bb3⟩;have q_3:=q_2.later bb3;have g_3:=g_2.later bb3;have c_3:=c_2.later bb3;have b0_3:=below_trans b0_2 bb3;clear q_2 g_2 c_2 b0_2 bb3;have hl:=HL.out wb _ hm;clear hm
  cases isf
  ·have hf:=hfn.out rfl
   have HF:Hid _:=HK2.out rfl;clear HK2 HZ2 HG2 HR2 hfn hfv;subst hf;have s0:=c_3.cell 0 rfl;have f0:=c_3.free 0;have s1:=c_3.cell 1 rfl;have f1:=c_3.free 1;have s2:=c_3.cell 2 rfl;have f2:=c_3.free 2;have s3:=c_3.cell 3 rfl;have f3:=c_3.free 3;have s4:=c_3.cell 4 rfl;have f4:=c_3.free 4;have s5:=c_3.cell 5 rfl;have f5:=c_3.free 5
   go_wp2
   have bu:But (w.heap.size+1+1) wb ((((((wb.setCell ⟨w.heap.size+1+1,0,none⟩ (.bool false)).setCell ⟨w.heap.size+1+1,1,none⟩ (.slice none 0 0)).setCell ⟨w.heap.size+1+1,2,none⟩ (yi 0)).setCell ⟨w.heap.size+1+1,3,none⟩ (.bool false)).setCell ⟨w.heap.size+1+1,4,none⟩ (.bool false)).setCell ⟨w.heap.size+1+1,5,none⟩ (.bool false)):=(((((but_set wb (w.heap.size+1+1) 0 (.bool false)).trans (but_set _ (w.heap.size+1+1) 1 (.slice none 0 0))).trans (but_set _ (w.heap.size+1+1) 2 (yi 0))).trans (but_set _ (w.heap.size+1+1) 3 (.bool false))).trans (but_set _ (w.heap.size+1+1) 4 (.bool false))).trans (but_set _ (w.heap.size+1+1) 5 (.bool false));have cR:LocE ((((((wb.setCell ⟨w.heap.size+1+1,0,none⟩ (.bool false)).setCell ⟨w.heap.size+1+1,1,none⟩ (.slice none 0 0)).setCell ⟨w.heap.size+1+1,2,none⟩ (yi 0)).setCell ⟨w.heap.size+1+1,3,none⟩ (.bool false)).setCell ⟨w.heap.size+1+1,4,none⟩ (.bool false)).setCell ⟨w.heap.size+1+1,5,none⟩ (.bool false)) (w.heap.size+1+1) 86 (ypL false (.slice none 0 0) 0 false false false):=(((((c_3.set 0 (.bool false)).set 1 (.slice none 0 0)).set 2 (yi 0)).set 3 (.bool false)).set 4 (.bool false)).set 5 (.bool false);have bR:=bu.below b0_3 (show w.heap.size≤w.heap.size+1+1 by omega)
   clear bu s0 s1 s2 s3 s4 s5 f0 f1 f2 f3 f4 f5 q_3 g_3 c_3;generalize((((((wb.setCell ⟨w.heap.size+1+1,0,none⟩ (.bool false)).setCell ⟨w.heap.size+1+1,1,none⟩ (.slice none 0 0)).setCell ⟨w.heap.size+1+1,2,none⟩ (yi 0)).setCell ⟨w.heap.size+1+1,3,none⟩ (.bool false)).setCell ⟨w.heap.size+1+1,4,none⟩ (.bool false)).setCell ⟨w.heap.size+1+1,5,none⟩ (.bool false))=WR at cR bR⊢;obtain⟨s0,s1,s2,s3,s4,s5⟩:=cR.cs6;rw[HF.out.1,HF.out.2]
   show bodyPost _ _ _ .ret _ _
   refine bodyPost_ret (v:= .tuple #[ypV false (.slice none 0 0) 0 false false false,yi 6]) (by simp[results,Tryz.results86,go_sem,s0,s1,s2,s3,s4,s5]) rfl ?_;exact⟨_,rfl,own_nil _ _ _ _,bR⟩
  ·have hf:=hfv.out rfl
   have HZ3:Hid _:=HZ2.out rfl;have HG3:Hid _:=HG2.out rfl;have HR3:Hid _:=HR2.out rfl;clear HK2 HZ2 HG2 HR2 hfn hfv;subst hf;have x1:=q_3.cell 1 rfl
   cases z
   ·have HF:Hid _:=HG3.out rfl
    have HRF:Hid _:=HR3.out rfl;clear HZ3 HG3 HR3;have x0:=q_3.cell 0 rfl;have x2:=q_3.cell 2 rfl;have x3:=q_3.cell 3 rfl;obtain⟨y0,y1,y2,y3,y4⟩:=g_3.cs5;have hwb:=b0_3.size
    go_wp2_with fail
    refine(HRF.out _ b0_3).mono ?_;rintro z wc ⟨v,rfl,ou,bb4⟩;have q_4:=q_3.later bb4;have g_4:=g_3.later bb4;have c_4:=c_3.later bb4;have b0_4:=below_trans b0_3 bb4;clear q_3 g_3 c_3 b0_3 bb4;clear x0 x1 x2 x3 y0 y1 y2 y3 y4;obtain⟨uo,uk,hv⟩:=ou.rd.shape;subst hv;obtain⟨lu,hlu⟩: ∃x,(Dg.dg 4294967296 PT.d).length=x:=⟨_,rfl⟩;rw[hlu] at ou;rw[hlu];clear hlu;have s0:=c_4.cell 0 rfl;have f0:=c_4.free 0;have s1:=c_4.cell 1 rfl;have f1:=c_4.free 1;have s2:=c_4.cell 2 rfl;have f2:=c_4.free 2;have s3:=c_4.cell 3 rfl;have f3:=c_4.free 3;have s4:=c_4.cell 4 rfl;have f4:=c_4.free 4;have s5:=c_4.cell 5 rfl;have f5:=c_4.free 5
    go_wp2
    have bu:But (w.heap.size+1+1) wc ((((((wc.setCell ⟨w.heap.size+1+1,0,none⟩ (.bool PT.s)).setCell ⟨w.heap.size+1+1,1,none⟩ (.slice uo lu uk)).setCell ⟨w.heap.size+1+1,2,none⟩ (yi PT.p)).setCell ⟨w.heap.size+1+1,3,none⟩ (.bool PT.ex)).setCell ⟨w.heap.size+1+1,4,none⟩ (.bool PT.ov)).setCell ⟨w.heap.size+1+1,5,none⟩ (.bool PT.un)):=(((((but_set wc (w.heap.size+1+1) 0 (.bool PT.s)).trans (but_set _ (w.heap.size+1+1) 1 (.slice uo lu uk))).trans (but_set _ (w.heap.size+1+1) 2 (yi PT.p))).trans (but_set _ (w.heap.size+1+1) 3 (.bool PT.ex))).trans (but_set _ (w.heap.size+1+1) 4 (.bool PT.ov))).trans (but_set _ (w.heap.size+1+1) 5 (.bool PT.un));have cR:LocE ((((((wc.setCell ⟨w.heap.size+1+1,0,none⟩ (.bool PT.s)).setCell ⟨w.heap.size+1+1,1,none⟩ (.slice uo lu uk)).setCell ⟨w.heap.size+1+1,2,none⟩ (yi PT.p)).setCell ⟨w.heap.size+1+1,3,none⟩ (.bool PT.ex)).setCell ⟨w.heap.size+1+1,4,none⟩ (.bool PT.ov)).setCell ⟨w.heap.size+1+1,5,none⟩ (.bool PT.un)) (w.heap.size+1+1) 86 (ypL PT.s (.slice uo lu uk) PT.p PT.ex PT.ov PT.un):=(((((c_4.set 0 (.bool PT.s)).set 1 (.slice uo lu uk)).set 2 (yi PT.p)).set 3 (.bool PT.ex)).set 4 (.bool PT.ov)).set 5 (.bool PT.un);have bR:=bu.below b0_4 (show w.heap.size≤w.heap.size+1+1 by omega)
    have oR:=bu.own (ou.lower hwb) c_4 (by decide);clear bu s0 s1 s2 s3 s4 s5 f0 f1 f2 f3 f4 f5 q_4 g_4 c_4;generalize((((((wc.setCell ⟨w.heap.size+1+1,0,none⟩ (.bool PT.s)).setCell ⟨w.heap.size+1+1,1,none⟩ (.slice uo lu uk)).setCell ⟨w.heap.size+1+1,2,none⟩ (yi PT.p)).setCell ⟨w.heap.size+1+1,3,none⟩ (.bool PT.ex)).setCell ⟨w.heap.size+1+1,4,none⟩ (.bool PT.ov)).setCell ⟨w.heap.size+1+1,5,none⟩ (.bool PT.un))=WR at cR bR oR⊢;obtain⟨s0,s1,s2,s3,s4,s5⟩:=cR.cs6;rw[HF.out.1,HF.out.2]
    show bodyPost _ _ _ .ret _ _
    refine bodyPost_ret (v:= .tuple #[ypV PT.s (.slice uo lu uk) PT.p PT.ex PT.ov PT.un,yi 0]) (by simp[results,Tryz.results86,go_sem,s0,s1,s2,s3,s4,s5]) rfl ?_;exact⟨_,rfl,oR,bR⟩
   ·have HF:Hid _:=HZ3.out rfl
    clear HZ3 HG3 HR3;have s0:=c_3.cell 0 rfl;have f0:=c_3.free 0;have s1:=c_3.cell 1 rfl;have f1:=c_3.free 1;have s2:=c_3.cell 2 rfl;have f2:=c_3.free 2;have s3:=c_3.cell 3 rfl;have f3:=c_3.free 3;have s4:=c_3.cell 4 rfl;have f4:=c_3.free 4;have s5:=c_3.cell 5 rfl;have f5:=c_3.free 5
    go_wp2
    have bu:But (w.heap.size+1+1) wb ((((((wb.setCell ⟨w.heap.size+1+1,0,none⟩ (.bool false)).setCell ⟨w.heap.size+1+1,1,none⟩ (.slice none 0 0)).setCell ⟨w.heap.size+1+1,2,none⟩ (yi 0)).setCell ⟨w.heap.size+1+1,3,none⟩ (.bool true)).setCell ⟨w.heap.size+1+1,4,none⟩ (.bool false)).setCell ⟨w.heap.size+1+1,5,none⟩ (.bool false)):=(((((but_set wb (w.heap.size+1+1) 0 (.bool false)).trans (but_set _ (w.heap.size+1+1) 1 (.slice none 0 0))).trans (but_set _ (w.heap.size+1+1) 2 (yi 0))).trans (but_set _ (w.heap.size+1+1) 3 (.bool true))).trans (but_set _ (w.heap.size+1+1) 4 (.bool false))).trans (but_set _ (w.heap.size+1+1) 5 (.bool false));have cR:LocE ((((((wb.setCell ⟨w.heap.size+1+1,0,none⟩ (.bool false)).setCell ⟨w.heap.size+1+1,1,none⟩ (.slice none 0 0)).setCell ⟨w.heap.size+1+1,2,none⟩ (yi 0)).setCell ⟨w.heap.size+1+1,3,none⟩ (.bool true)).setCell ⟨w.heap.size+1+1,4,none⟩ (.bool false)).setCell ⟨w.heap.size+1+1,5,none⟩ (.bool false)) (w.heap.size+1+1) 86 (ypL false (.slice none 0 0) 0 true false false):=(((((c_3.set 0 (.bool false)).set 1 (.slice none 0 0)).set 2 (yi 0)).set 3 (.bool true)).set 4 (.bool false)).set 5 (.bool false);have bR:=bu.below b0_3 (show w.heap.size≤w.heap.size+1+1 by omega)
    clear bu s0 s1 s2 s3 s4 s5 f0 f1 f2 f3 f4 f5 q_3 g_3 c_3;generalize((((((wb.setCell ⟨w.heap.size+1+1,0,none⟩ (.bool false)).setCell ⟨w.heap.size+1+1,1,none⟩ (.slice none 0 0)).setCell ⟨w.heap.size+1+1,2,none⟩ (yi 0)).setCell ⟨w.heap.size+1+1,3,none⟩ (.bool true)).setCell ⟨w.heap.size+1+1,4,none⟩ (.bool false)).setCell ⟨w.heap.size+1+1,5,none⟩ (.bool false))=WR at cR bR⊢;obtain⟨s0,s1,s2,s3,s4,s5⟩:=cR.cs6;rw[HF.out.1,HF.out.2]
    show bodyPost _ _ _ .ret _ _
    refine bodyPost_ret (v:= .tuple #[ypV false (.slice none 0 0) 0 true false false,yi 0]) (by simp[results,Tryz.results86,go_sem,s0,s1,s2,s3,s4,s5]) rfl ?_;exact⟨_,rfl,own_nil _ _ _ _,bR⟩
 ·have hcf:(c==0)=false:=by simp;exact hc
  have HF:Hid _:=HB.out hc;clear hc HB HK HZ HG HR;have s0:=c_2.cell 0 rfl;have f0:=c_2.free 0;have s1:=c_2.cell 1 rfl;have f1:=c_2.free 1;have s2:=c_2.cell 2 rfl;have f2:=c_2.free 2;have s3:=c_2.cell 3 rfl;have f3:=c_2.free 3;have s4:=c_2.cell 4 rfl;have f4:=c_2.free 4;have s5:=c_2.cell 5 rfl;have f5:=c_2.free 5
  go_wp2
  have bu:But (w.heap.size+1+1) wa ((((((wa.setCell ⟨w.heap.size+1+1,0,none⟩ (.bool false)).setCell ⟨w.heap.size+1+1,1,none⟩ (.slice none 0 0)).setCell ⟨w.heap.size+1+1,2,none⟩ (yi 0)).setCell ⟨w.heap.size+1+1,3,none⟩ (.bool false)).setCell ⟨w.heap.size+1+1,4,none⟩ (.bool false)).setCell ⟨w.heap.size+1+1,5,none⟩ (.bool false)):=(((((but_set wa (w.heap.size+1+1) 0 (.bool false)).trans (but_set _ (w.heap.size+1+1) 1 (.slice none 0 0))).trans (but_set _ (w.heap.size+1+1) 2 (yi 0))).trans (but_set _ (w.heap.size+1+1) 3 (.bool false))).trans (but_set _ (w.heap.size+1+1) 4 (.bool false))).trans (but_set _ (w.heap.size+1+1) 5 (.bool false));have cR:LocE ((((((wa.setCell ⟨w.heap.size+1+1,0,none⟩ (.bool false)).setCell ⟨w.heap.size+1+1,1,none⟩ (.slice none 0 0)).setCell ⟨w.heap.size+1+1,2,none⟩ (yi 0)).setCell ⟨w.heap.size+1+1,3,none⟩ (.bool false)).setCell ⟨w.heap.size+1+1,4,none⟩ (.bool false)).setCell ⟨w.heap.size+1+1,5,none⟩ (.bool false)) (w.heap.size+1+1) 86 (ypL false (.slice none 0 0) 0 false false false):=(((((c_2.set 0 (.bool false)).set 1 (.slice none 0 0)).set 2 (yi 0)).set 3 (.bool false)).set 4 (.bool false)).set 5 (.bool false);have bR:=bu.below b0_2 (show w.heap.size≤w.heap.size+1+1 by omega)
  clear bu s0 s1 s2 s3 s4 s5 f0 f1 f2 f3 f4 f5 q_2 g_2 c_2;generalize((((((wa.setCell ⟨w.heap.size+1+1,0,none⟩ (.bool false)).setCell ⟨w.heap.size+1+1,1,none⟩ (.slice none 0 0)).setCell ⟨w.heap.size+1+1,2,none⟩ (yi 0)).setCell ⟨w.heap.size+1+1,3,none⟩ (.bool false)).setCell ⟨w.heap.size+1+1,4,none⟩ (.bool false)).setCell ⟨w.heap.size+1+1,5,none⟩ (.bool false))=WR at cR bR⊢;obtain⟨s0,s1,s2,s3,s4,s5⟩:=cR.cs6;rw[HF.out.1,HF.out.2]
  show bodyPost _ _ _ .ret _ _
  refine bodyPost_ret (v:= .tuple #[ypV false (.slice none 0 0) 0 false false false,yi c]) (by simp[results,Tryz.results86,go_sem,s0,s1,s2,s3,s4,s5]) rfl ?_;exact⟨_,rfl,own_nil _ _ _ _,bR⟩
end Go.Proofs.YtnhackdjplppjaaGreatDoor
namespace Go.Proofs.YtnhackdjplppjaaGreatDoor
open Go.RowKit
def wayF (way:Int):FuncId:=if way=1 then 183 else if way=2 then 184 else if way=3 then 185 else if way=4 then 186 else 187
def isWay (way:Int):Bool:=decide (1≤way∧way≤5)
def wayV (way:Int):Value:=if isWay way=true then .func (.func (wayF way)) #[] #[] else .nilFunc
theorem way_cases {way:Int} (h:isWay way=true):way=1∨way=2∨way=3∨way=4∨way=5:=by
 have:=of_decide_eq_true h;omega
theorem same_int (x y:Int):Instr.sameNow (.int .i64) (yi x) (yi y)=some (decide (x=y)):=by
 simp[Instr.sameNow]
 by_cases h:x=y<;>simp[h]
theorem way_lookup (way:Int) (w1:World) (r:Nat) (hm:w1.heap[r]? =some (.map wayE 5)):(Instr.lookup 197 (.map (some r)) (yi way) false).run Tryz.prog w1= .ok (wayV way) w1:=by
 by_cases h:isWay way=true
 ·rcases way_cases h with rfl|rfl|rfl|rfl|rfl
  ·exact find_run Tryz.underlying197 Tryz.underlying3 hm 1 rfl
  ·exact find_run Tryz.underlying197 Tryz.underlying3 hm 2 rfl
  ·exact find_run Tryz.underlying197 Tryz.underlying3 hm 3 rfl
  ·exact find_run Tryz.underlying197 Tryz.underlying3 hm 4 rfl
  ·exact find_run Tryz.underlying197 Tryz.underlying3 hm 5 rfl
 ·have hn: ¬(1≤way∧way≤5):=fun c=>h (decide_eq_true c)
  unfold wayV;rw[if_neg h];refine miss_run Tryz.underlying197 Tryz.underlying3 hm way ?_ ?_
  ·kernel_rfl
  ·simp[wayE,Instr.findNow,same_int,show¬way=1 by omega,show¬way=2 by omega,show¬way=3 by omega,show¬way=4 by omega,show¬way=5 by omega]
theorem wayF_calls {way:Int} (h:isWay way=true) (half:Int) (odd neg:Bool) (w1:World):Calls Tryz.prog (wayF way) #[.agg #[yi half,.bool odd,.bool neg]] w1 fun z w'=>z= .returned (.bool (awayB way half odd neg))∧Below w1.heap.size w1 w':=by
 rcases way_cases h with rfl|rfl|rfl|rfl|rfl
 ·exact way1_any half odd neg w1
 ·exact way2_any half odd neg w1
 ·exact way3_any half odd neg w1
 ·exact way4_any half odd neg w1
 ·exact way5_any half odd neg w1
theorem enter_of {P:Program} {f:FuncId} {fn:Func} {c:Code} (hf:P.funcs[f]? =some fn) (hname:(fn.name== "runtime.NumGoroutine")=false) (hb:fn.body=some c) (args:Array Value) (w:World):Sem.run P (callFunc f args) w= .ok (.enter f args) w:=by
 have hn: ¬fn.name= "runtime.NumGoroutine" :=by simpa using hname
 simp[callFunc,hf,hn,hb]
theorem wayF_enter {way:Int} (h:isWay way=true) (args:Array Value) (W:World):Sem.run Tryz.prog (callFunc (wayF way) args) W= .ok (.enter (wayF way) args) W:=by
 rcases way_cases h with rfl|rfl|rfl|rfl|rfl
 ·exact enter_of Tryz.func183 (by kernel_rfl) rfl args W
 ·exact enter_of Tryz.func184 (by kernel_rfl) rfl args W
 ·exact enter_of Tryz.func185 (by kernel_rfl) rfl args W
 ·exact enter_of Tryz.func186 (by kernel_rfl) rfl args W
 ·exact enter_of Tryz.func187 (by kernel_rfl) rfl args W
def roundC (xs ys:List Nat) (E R D L G way:Int):Int:=
 if wrongG (ratioC xs ys E) (gridC R D L G)=0 then(if isWay way=true then 0 else 6) else wrongG (ratioC xs ys E) (gridC R D L G)
def roundP (xs ys:List Nat) (E R D L G:Int) (gr qs:Bool) (way:Int):PlaceT:=
 if roundC xs ys E R D L G way=0 then(if xs.length=0 then⟨false,0,0,true,false,false⟩ else roundT R D L G gr qs (Dg.vl 4294967296 xs) (Dg.vl 4294967296 ys) E way) else noPlace
theorem wrongG_zero {c d:Int} (h:wrongG c d=0):c=0∧d=0:=by
 unfold wrongG at h
 split at h
 ·exact⟨by assumption,h⟩
 ·exact absurd h (by assumption)
theorem ratioC_zero {xs ys:List Nat} {E:Int} (h:ratioC xs ys E=0):chk xs=0∧chk ys=0∧0<ys.length∧ -20000≤E∧E≤20000:=by
 unfold ratioC at h
 by_cases h1:chk xs=0
 ·rw[if_pos h1] at h
  by_cases h2:chk ys=0
  ·rw[if_pos h2] at h
   by_cases h3:ys.length=0∨farB 20000 E=true
   ·rw[if_pos h3] at h
    cases h
   ·have h4: ¬farB 20000 E=true:=fun c=>h3 (Or.inr c)
    unfold farB at h4;simp at h4;refine⟨h1,h2, ?_,by omega,by omega⟩;have: ¬ys.length=0:=fun c=>h3 (Or.inl c)
    omega
  ·rw[if_neg h2] at h
   exact absurd h h2
 ·rw[if_neg h1] at h
  exact absurd h h1
theorem gRound_any (qs:Bool) (ao:Option Addr) (ca:Nat) (xs:List Nat) (bo:Option Addr) (cb:Nat) (ys:List Nat) (E R D L G:Int) (gr:Bool) (way:Int) (w:World) (ha:Rd w .u32 (.slice ao xs.length ca) xs) (hb:Rd w .u32 (.slice bo ys.length cb) ys) (sa:Dg.Small 4294967296 xs) (sb:Dg.Small 4294967296 ys):
  Calls Tryz.prog 86 #[yrV qs (.slice ao xs.length ca) (.slice bo ys.length cb) E,ygV R D L G gr,yi way] w (PlaceAns w (roundC xs ys E R D L G way) (roundP xs ys E R D L G gr qs way)):=by
 refine gRoundW_any R D L G gr qs ao xs.length ca bo ys.length cb E way (wrongG (ratioC xs ys E) (gridC R D L G)) (wayV way) (wayF way) (isWay way) ((xs.length:Int)==0) (roundT R D L G gr qs (Dg.vl 4294967296 xs) (Dg.vl 4294967296 ys) E way) _ _ w ?_ ?_ rfl ?_ ?_ ?_ ?_ ?_ ?_ ?_
 ·intro h
  exact if_pos h
 ·intro h
  exact if_neg (by rw[h];decide)
 ·intro h
  have e:roundC xs ys E R D L G way=wrongG (ratioC xs ys E) (gridC R D L G):=if_neg h;exact⟨e,by unfold roundP;rw[e,if_neg h]⟩
 ·intro h hw
  have e:roundC xs ys E R D L G way=6:=(if_pos h).trans (if_neg (by rw[hw];decide));exact⟨e,by unfold roundP;rw[e];rfl⟩
 ·intro h hw hz
  have e:roundC xs ys E R D L G way=0:=(if_pos h).trans (if_pos hw);have hx:xs.length=0:=by simpa using hz
  exact⟨e,by unfold roundP;rw[e,if_pos rfl,if_pos hx]⟩
 ·intro h hw hz
  have e:roundC xs ys E R D L G way=0:=(if_pos h).trans (if_pos hw);have hx: ¬xs.length=0:=by simpa using hz
  exact⟨e,by unfold roundP;rw[e,if_pos rfl,if_neg hx]⟩
 ·intro w1 b
  exact gwrong_any qs ao ca xs bo cb ys E R D L G gr w1 (ha.later b) (hb.later b)
 ·intro w1 r hm
  exact way_lookup way w1 r hm
 ·intro h hw hz w1 b
  obtain⟨h1,h2⟩:=wrongG_zero h;obtain⟨c1,c2,hl,e1,e2⟩:=ratioC_zero h1;obtain⟨nx,lx⟩:=chk_zero c1;obtain⟨ny,ly⟩:=chk_zero c2;have ex:Dg.dg 4294967296 (Dg.vl 4294967296 xs)=xs:=Dg.dg_vl _ (by omega) _ sa nx;have ey:Dg.dg 4294967296 (Dg.vl 4294967296 ys)=ys:=Dg.dg_vl _ (by omega) _ sb ny;have hM:0<Dg.vl 4294967296 ys:=by
   refine Nat.pos_of_ne_zero fun c=> ?_
   rw[c] at ey;rw[←ey] at hl;exact absurd hl (by decide)
  have:=ground_any R D L G gr qs ao ca bo cb (Dg.vl 4294967296 xs) (Dg.vl 4294967296 ys) E way (wayF way) w1 h2 (by rw[ex];exact ha.later b) (by rw[ey];exact hb.later b) (by rw[ex];omega) (by rw[ey];omega) hM e1 e2 (wayF_enter hw) (wayF_calls hw)
  rwa [ex,ey] at this
end Go.Proofs.YtnhackdjplppjaaGreatDoor
namespace Go.Proofs.YtnhackdjplppjaaGreatDoor
open Go.RowKit
def Rv (w:World) (v:Value) (t:Trip):Prop:= ∃s,v=(ydV t.s s t.e)∧Rd w .i64 s (Dg.dg 65536 t.n)
theorem Rv.later {w w':World} {v:Value} {t:Trip} (h:Rv w v t) (hb:Below w.heap.size w w'):Rv w' v t:=by
 obtain⟨s,hv,hr⟩:=h;exact⟨s,hv,hr.later hb⟩
def ZB (w:World) (b:Nat):Prop:=b<w.heap.size∧ ∃ty,w.heap[b]? =some (.cells (ydL false (.slice none 0 0) 0).toArray ty (0,0))
theorem ZB.later {w w':World} {b:Nat} (h:ZB w b) (hb:Below w.heap.size w w'):ZB w' b:=by
 obtain⟨hl,ty,hh⟩:=h;exact⟨Nat.lt_of_lt_of_le hl hb.size,ty,(hb.block b hl).trans hh⟩
theorem ZB.rd {w:World} {b:Nat} {v:Value} {zs:List Nat} (h:ZB w b) (hr:Rd w .i64 v zs) (hn:Dg.Norm zs) (x0 x1 x2:Value):
  Rd (((w.setCell ⟨b,0,none⟩ x0).setCell ⟨b,1,none⟩ x1).setCell ⟨b,2,none⟩ x2) .i64 v zs:=by
 obtain⟨hl,ty,hh⟩:=h;obtain⟨ao,cap,rfl,h1,h2,h3⟩:=hr;refine⟨ao,cap,rfl,h1,h2,fun hp=> ?_⟩
 obtain⟨c,off,rfl,hc⟩:=h3 hp;refine⟨c,off,rfl,fun i hi=> ?_⟩
 have hne:c≠b:=by
  intro e;subst e;have k1:=hc (zs.length-1) (by omega);have hz:=hn (List.length_pos_iff.1 hp);unfold World.cell? at k1;simp only[hh] at k1;obtain⟨o,ho⟩: ∃o,off+(zs.length-1)=o:=⟨_,rfl⟩;rw[ho] at k1;generalize zs.getD (zs.length-1) 0=d at*
  match o,k1 with
  |0,k1=>simp at k1
  |1,k1=>simp at k1
  |2,k1=>simp at k1;omega
  |o+3,k1=>simp at k1
 rw[World.cell?_setCell_other (h:=by simp),World.cell?_setCell_other (h:=by simp),World.cell?_setCell_other (h:=by simp)];exact hc i hi
end Go.Proofs.YtnhackdjplppjaaGreatDoor
namespace Go.Proofs.YtnhackdjplppjaaGreatDoor
open Go.RowKit
def dchk (xs:List Nat) (e:Int):Int:=if chk xs=0 then(if e< -20000∨20000<e then 3 else 0) else chk xs
theorem dcheck_any (s:Bool) (ao:Option Addr) (ca:Nat) (xs:List Nat) (e:Int) (w:World) (hr:Rd w .u32 (.slice ao xs.length ca) xs):
  Calls Tryz.prog 162 #[ydV s (.slice ao xs.length ca) e] w fun z w'=>z= .returned (yi (dchk xs e))∧Below w.heap.size w w':=by
 have bA:=below_alloc w (.cells (ydL s (.slice ao xs.length ca) e).toArray 82);have hk:=check_any _ xs _ (hr.later bA);unfold dchk;obtain⟨c,hc⟩: ∃c,chk xs=c:=⟨_,rfl⟩;rw[hc] at hk⊢;clear hc hr
 by_cases h:c=0
 ·subst h
  rw[if_pos rfl]
  by_cases h1:e< -20000
  ·rw[if_pos (Or.inl h1)]
   go_enter Tryz.func162,Tryz.ntmps162
   go_wp2_with fail
   refine hk.mono ?_;rintro z w' ⟨rfl,rfl⟩;clear hk
   go_wp2
   go_ret
   exact⟨rfl,bA⟩
  ·by_cases h2:20000<e
   ·rw[if_pos (Or.inr h2)]
    go_enter Tryz.func162,Tryz.ntmps162
    go_wp2_with fail
    refine hk.mono ?_;rintro z w' ⟨rfl,rfl⟩;clear hk
    go_wp2
    go_ret
    exact⟨rfl,bA⟩
   ·rw[if_neg (by omega)]
    go_enter Tryz.func162,Tryz.ntmps162
    go_wp2_with fail
    refine hk.mono ?_;rintro z w' ⟨rfl,rfl⟩;clear hk
    go_wp2
    go_ret
    exact⟨rfl,bA⟩
 ·rw[if_neg h]
  go_enter Tryz.func162,Tryz.ntmps162
  go_wp2_with fail
  refine hk.mono ?_;rintro z w' ⟨rfl,rfl⟩;clear hk
  go_wp2
  go_ret
  exact⟨rfl,bA⟩
end Go.Proofs.YtnhackdjplppjaaGreatDoor
namespace Go.Proofs.YtnhackdjplppjaaGreatDoor
open Go.RowKit
theorem tz_fits (n L:Nat) (h:(Dg.dg 4294967296 n).length≤L):tz n≤32*L:=by
 by_cases h0:n=0
 ·subst h0;exact Nat.zero_le _
 ·obtain⟨m,hm⟩:=tz_spec h0
  have h1:=Dg.vl_lt 4294967296 (Dg.dg 4294967296 n) (Dg.small_dg _ _ (by omega));rw[Dg.vl_dg _ _ (by omega)] at h1;have h2:4294967296^ (Dg.dg 4294967296 n).length≤4294967296^L:=Nat.pow_le_pow_right (by omega) h;have h3:(4294967296:Nat)^L=2^ (32*L):=by rw[Nat.pow_mul]
  have h4:2^tz n*1≤2^tz n*(2*m+1):=Nat.mul_le_mul_left _ (by omega);rw[←hm,Nat.mul_one] at h4;have h5:2^tz n<2^ (32*L):=by rw[←h3];omega
  exact Nat.le_of_lt ((Nat.pow_lt_pow_iff_right (by omega)).1 h5)
def dbothR (c:Int) (t:Trip):Trip×Int:=if c=0 then shortT t else(⟨false,0,0⟩,c)
theorem dchk_zero {xs:List Nat} {e:Int} (h:dchk xs e=0):chk xs=0∧ -20000≤e∧e≤20000:=by
 unfold dchk at h
 by_cases h1:chk xs=0
 ·rw[if_pos h1] at h
  by_cases h2:e< -20000∨20000<e
  ·rw[if_pos h2] at h;omega
  ·exact⟨h1,by omega,by omega⟩
 ·rw[if_neg h1] at h;exact absurd h h1
theorem locals3 (w:World) (a0 a1 a2 b0 b1 b2 c0 c1 c2:Value) (ta tb tc:TypeId):
  Loc (((w.alloc (.cells #[a0,a1,a2] ta)).alloc (.cells #[b0,b1,b2] tb)).alloc (.cells #[c0,c1,c2] tc)) w.heap.size a0 a1 a2∧
  Loc (((w.alloc (.cells #[a0,a1,a2] ta)).alloc (.cells #[b0,b1,b2] tb)).alloc (.cells #[c0,c1,c2] tc)) (w.heap.size+1) b0 b1 b2∧
  Loc (((w.alloc (.cells #[a0,a1,a2] ta)).alloc (.cells #[b0,b1,b2] tb)).alloc (.cells #[c0,c1,c2] tc)) (w.heap.size+1+1) c0 c1 c2∧
  Below w.heap.size w (((w.alloc (.cells #[a0,a1,a2] ta)).alloc (.cells #[b0,b1,b2] tb)).alloc (.cells #[c0,c1,c2] tc))∧
  (((w.alloc (.cells #[a0,a1,a2] ta)).alloc (.cells #[b0,b1,b2] tb)).alloc (.cells #[c0,c1,c2] tc)).heap.size=w.heap.size+1+1+1:=by
 have la:=loc_new w a0 a1 a2 ta;have lb:=loc_new (w.alloc (.cells #[a0,a1,a2] ta)) b0 b1 b2 tb;have lc:=loc_new ((w.alloc (.cells #[a0,a1,a2] ta)).alloc (.cells #[b0,b1,b2] tb)) c0 c1 c2 tc;have bB:=below_alloc (w.alloc (.cells #[a0,a1,a2] ta)) (.cells #[b0,b1,b2] tb);have bC:=below_alloc ((w.alloc (.cells #[a0,a1,a2] ta)).alloc (.cells #[b0,b1,b2] tb)) (.cells #[c0,c1,c2] tc);refine⟨(la.later bB).later bC, ?_, ?_,below_trans (below_trans (below_alloc w _) bB) bC,by simp[World.size_alloc]⟩
 ·have:=lb.later bC
  rwa [World.size_alloc] at this
 ·rwa [World.size_alloc,World.size_alloc] at lc
end Go.Proofs.YtnhackdjplppjaaGreatDoor
namespace Go.Proofs.YtnhackdjplppjaaGreatDoor
open Go.RowKit
theorem dv_of {w:World} {s:Bool} {ao:Option Addr} {ca:Nat} {xs:List Nat} {e:Int} (hr:Rd w .u32 (.slice ao xs.length ca) xs) (sa:Dg.Small 4294967296 xs) (hn:Dg.Norm xs):
  Dv w (ydV s (.slice ao xs.length ca) e) ⟨s,Dg.vl 4294967296 xs,e⟩:=by
 have h:=Dg.eq_dg 4294967296 (by omega) xs _ sa hn rfl;refine⟨_,rfl, ?_⟩;simp only;rw[←h];exact hr
set_option maxHeartbeats 1600000 in
theorem dtimes_any (v u:Value) (a b:Trip) (w:World) (hv:Dv w v a) (hu:Dv w u b) (hLa:(Dg.dg 4294967296 a.n).length≤100000) (hLb:(Dg.dg 4294967296 b.n).length≤100000)
  (ha1: -100000≤a.e) (ha2:a.e≤100000) (hb1: -100000≤b.e) (hb2:b.e≤100000):
  Calls Tryz.prog 126 #[v,u] w (DRes w (timesT a b)):=by
 obtain⟨s0,rfl,ra⟩:=hv;obtain⟨ao,ca,rfl⟩:=ra.shape;obtain⟨s1,rfl,rb⟩:=hu;obtain⟨bo,cb,rfl⟩:=rb.shape;obtain⟨sa,an,ae⟩:=a;obtain⟨sb,bn,be⟩:=b;simp only at ra rb hLa hLb ha1 ha2 hb1 hb2⊢;have HTI:Hid (∀w1,Below w.heap.size w w1→Calls Tryz.prog 173 #[.slice ao (Dg.dg 4294967296 an).length ca,.slice bo (Dg.dg 4294967296 bn).length cb] w1 (Num w1 (an*bn))):=fun w1 b1=>by
  have:=times_any _ _ _ _ w1 (ra.later b1) (rb.later b1) (Dg.small_dg _ _ (by omega)) (Dg.small_dg _ _ (by omega)) (by omega) (by omega);rw[Dg.vl_dg _ _ (by omega),Dg.vl_dg _ _ (by omega)] at this;exact this
 unfold timesT;simp only;obtain⟨X,hX⟩: ∃X,an*bn=X:=⟨_,rfl⟩;obtain⟨ma,hma⟩: ∃m,(Dg.dg 4294967296 an).length=m:=⟨_,rfl⟩;obtain⟨mb,hmb⟩: ∃m,(Dg.dg 4294967296 bn).length=m:=⟨_,rfl⟩;rw[hX,hma,hmb] at HTI;rw[hX,hma,hmb];clear hX hma hmb ra rb hLa hLb;obtain⟨la,lb,lc,b01,sW⟩:=locals3 w (.bool sa) (.slice ao ma ca) (yi ae) (.bool sb) (.slice bo mb cb) (yi be) (.bool false) (.slice none 0 0) (yi 0) 96 96 96;clear sW;obtain⟨W,hW⟩: ∃W,(((w.alloc (.cells (ydL sa (.slice ao ma ca) ae).toArray 96)).alloc (.cells (ydL sb (.slice bo mb cb) be).toArray 96)).alloc (.cells (ydL false (.slice none 0 0) 0).toArray 96))=W:=⟨_,rfl⟩;rw[hW] at la lb lc b01;have bd:Below W.heap.size W W.drew:=(Below.refl _ _).drew;have la:=la.later bd;have lb:=lb.later bd;have lc:=lc.later bd;have b02:=below_trans b01 bd;rw[←hW] at la lb lc b02;clear bd b01 hW;obtain⟨-,⟨ca0,ca1,ca2⟩,-⟩:=id la;obtain⟨-,⟨cb0,cb1,cb2⟩,-⟩:=id lb;have ne3:w.heap.size+1+1≠w.heap.size:=by omega
 have ne4:w.heap.size≠w.heap.size+1+1:=by omega
 have e4:IntKind.i64.wrap (ae+be)=ae+be:=IntWalk.i64_in _ ⟨by omega,by omega⟩
 go_enter Tryz.func126,Tryz.ntmps126
 go_wp2_with fail
 go_region_held3 (fun wq=>(wq.cell? ⟨w.heap.size,0,none⟩=some (.bool sa)∧wq.cell? ⟨w.heap.size,1,none⟩=some (.slice ao ma ca)∧wq.cell? ⟨w.heap.size,2,none⟩=some (yi ae))∧wq.cell? ⟨w.heap.size+1,0,none⟩=some (.bool sb)∧wq.cell? ⟨w.heap.size+1,1,none⟩=some (.slice bo mb cb)∧wq.cell? ⟨w.heap.size+1,2,none⟩=some (yi be)) (go_keep) (first
  | (go_at_call 172;refine(digits_any sa ao ma ca ae _).mono ?_;rintro z w3 ⟨rfl,b3⟩;have la3:=la.later b3;have lb3:=lb.later b3;have lc3:=lc.later b3;have b03:=below_trans b02 b3;obtain⟨-,⟨p0,p1,p2⟩,-⟩:=id la3;obtain⟨-,⟨p3,p4,p5⟩,-⟩:=id lb3;clear b02)
  | (go_at_call 172;refine(digits_any sb bo mb cb be w3).mono ?_;rintro z w4 ⟨rfl,b4⟩;have la4:=la3.later b4;have lb4:=lb3.later b4;have lc4:=lc3.later b4;have b04:=below_trans b03 b4;obtain⟨-,⟨q0,q1,q2⟩,-⟩:=id la4;obtain⟨-,⟨q3,q4,q5⟩,-⟩:=id lb4)
  | (go_at_call 173;refine(HTI.out w4 b04).mono ?_;rintro z w5 ⟨vs,rfl,o5,b5⟩;have la5:=la4.later b5;have lb5:=lb4.later b5;have lc5:=lc4.later b5;have b05:=below_trans b04 b5;obtain⟨-,⟨t0,t1,t2⟩,-⟩:=id la5;obtain⟨-,⟨t3,t4,t5⟩,-⟩:=id lb5;obtain⟨so,sc,hvs⟩:=o5.rd.shape;subst hvs)
  | (go_at_call 159;refine(new_any (sa != sb) so _ sc _ w5).mono ?_;rintro z w6 ⟨rfl,b6⟩;have la6:=la5.later b6;have lb6:=lb5.later b6;have lc6:=lc5.later b6;have b06:=below_trans b05 b6;obtain⟨-,⟨u0,u1,u2⟩,-⟩:=id la6;obtain⟨-,⟨u3,u4,u5⟩,-⟩:=id lb6;obtain⟨hl6,⟨d0,d1,d2⟩,f0,f1,f2⟩:=id lc6))
 all_goals go_wp2
 obtain⟨-,⟨g0,g1,g2⟩,-⟩:=loc_set lc6 (.bool (sa != sb)) (.slice so (Dg.dg 4294967296 X).length sc) (yi (ae+be));have o7:=(o5.later b6).apart3 (b:=w.heap.size+1+1) lc4.1 (.bool (sa != sb)) (.slice so (Dg.dg 4294967296 X).length sc) (yi (ae+be));have b8:=below_set3 b06 (show w.heap.size≤w.heap.size+1+1 by omega) (.bool (sa != sb)) (.slice so (Dg.dg 4294967296 X).length sc) (yi (ae+be))
 refine bodyPost_ret (v:=(ydV (sa != sb) (.slice so (Dg.dg 4294967296 X).length sc) (ae+be))) (by simp[results,Tryz.results126,go_sem,g0,g1,g2]) rfl ?_;exact⟨_,rfl,o7.lower b04.size,b8⟩
end Go.Proofs.YtnhackdjplppjaaGreatDoor
namespace Go.Proofs.YtnhackdjplppjaaGreatDoor
open Go.RowKit
def signT (t:Trip):Int:=if t.n=0 then 0 else if t.s then-1 else 1
theorem dsign_any (v:Value) (t:Trip) (w:World) (hv:Dv w v t):Calls Tryz.prog 166 #[v] w fun z w'=>z= .returned (yi (signT t))∧Below w.heap.size w w':=by
 obtain⟨s0,rfl,hr⟩:=hv;obtain⟨ao,ca,rfl⟩:=hr.shape;obtain⟨ts,n,e⟩:=t;have hnl:=Dg.dg_nil_iff 4294967296 n (by omega);simp only at hr⊢;unfold signT;simp only;obtain⟨m,hm⟩: ∃m,(Dg.dg 4294967296 n).length=m:=⟨_,rfl⟩;have hz:m=0↔n=0:=by rw[←hm,List.length_eq_zero_iff];exact hnl
 rw[hm];have bA:=below_alloc w (.cells (ydL ts (.slice ao m ca) e).toArray 96);clear hm hr hnl
 by_cases h:n=0
 ·rw[if_pos h]
  have hm0:=hz.2 h;subst hm0;clear hz h
  go_enter Tryz.func166,Tryz.ntmps166
  go_wp2
  go_ret
  exact⟨rfl,bA⟩
 ·rw[if_neg h]
  have hm0:((m:Int)==0)=false:=by
   have: ¬m=0:=fun e=>h (hz.1 e)
   simp;exact this
  clear hz h
  cases ts
  ·go_enter Tryz.func166,Tryz.ntmps166
   go_wp2
   go_ret
   exact⟨rfl,bA⟩
  ·go_enter Tryz.func166,Tryz.ntmps166
   go_wp2
   go_ret
   exact⟨rfl,bA⟩
theorem dopp_any (s:Bool) (ao:Option Addr) (la ca:Nat) (e:Int) (w:World):
  Calls Tryz.prog 223 #[ydV s (.slice ao la ca) e] w fun z w'=>z= .returned (ydV (!s) (.slice ao la ca) e)∧Below w.heap.size w w':=by
 go_enter Tryz.func223,Tryz.ntmps223
 go_wp2
 go_returns
 exact⟨rfl,((Below.refl _ _).alloc (Nat.le_refl _) _).alloc (by simp[World.size_alloc]) _⟩
set_option maxHeartbeats 1600000 in
theorem dminus_any (v u:Value) (a b:Trip) (w:World) (hv:Dv w v a) (hu:Dv w u b) (hLa:(Dg.dg 4294967296 a.n).length≤100000) (hLb:(Dg.dg 4294967296 b.n).length≤100000)
  (ha1: -100000≤a.e) (ha2:a.e≤100000) (hb1: -100000≤b.e) (hb2:b.e≤100000):
  Calls Tryz.prog 182 #[v,u] w (DRes w (plusT a (negT b))):=by
 obtain⟨s0,rfl,ra⟩:=hv;obtain⟨ao,ca,rfl⟩:=ra.shape;obtain⟨s1,rfl,rb⟩:=hu;obtain⟨bo,cb,rfl⟩:=rb.shape;obtain⟨sa,an,ae⟩:=a;obtain⟨sb,bn,be⟩:=b;simp only at ra rb hLa hLb ha1 ha2 hb1 hb2⊢;have HP:Hid (∀w1,Below w.heap.size w w1→Calls Tryz.prog 111 #[ydV sa (.slice ao (Dg.dg 4294967296 an).length ca) ae,ydV (!sb) (.slice bo (Dg.dg 4294967296 bn).length cb) be] w1 (DRes w1 (plusT ⟨sa,an,ae⟩ (negT ⟨sb,bn,be⟩)))):=fun w1 b1=>
  dplus_any _ _ ⟨sa,an,ae⟩ (negT ⟨sb,bn,be⟩) w1 ⟨_,rfl,ra.later b1⟩ ⟨_,rfl,rb.later b1⟩ hLa hLb ha1 ha2 hb1 hb2
 obtain⟨ma,hma⟩: ∃m,(Dg.dg 4294967296 an).length=m:=⟨_,rfl⟩;obtain⟨mb,hmb⟩: ∃m,(Dg.dg 4294967296 bn).length=m:=⟨_,rfl⟩;rw[hma,hmb] at HP⊢;obtain⟨⟨rs,rn,re⟩,hrr⟩: ∃r,plusT ⟨sa,an,ae⟩ (negT ⟨sb,bn,be⟩)=r:=⟨_,rfl⟩;rw[hrr] at HP⊢;clear hma hmb hrr ra rb hLa hLb;obtain⟨la,lb,lc,b01,-⟩:=locals3 w (.bool sa) (.slice ao ma ca) (yi ae) (.bool sb) (.slice bo mb cb) (yi be) (.bool false) (.slice none 0 0) (yi 0) 96 96 96;obtain⟨W,hW⟩: ∃W,(((w.alloc (.cells (ydL sa (.slice ao ma ca) ae).toArray 96)).alloc (.cells (ydL sb (.slice bo mb cb) be).toArray 96)).alloc (.cells (ydL false (.slice none 0 0) 0).toArray 96))=W:=⟨_,rfl⟩;rw[hW] at la lb lc b01;have bd:Below W.heap.size W W.drew:=(Below.refl _ _).drew;replace la:=la.later bd;replace lb:=lb.later bd;replace lc:=lc.later bd;have b02:=below_trans b01 bd;rw[←hW] at la lb lc b02;clear bd b01 hW;obtain⟨-,⟨ca0,ca1,ca2⟩,-⟩:=id la;obtain⟨-,⟨cb0,cb1,cb2⟩,-⟩:=id lb;have ne3:w.heap.size+1+1≠w.heap.size:=by omega
 have ne4:w.heap.size≠w.heap.size+1+1:=by omega
 go_enter Tryz.func182,Tryz.ntmps182
 go_wp2_with fail
 go_region_held3 (fun wq=>(wq.cell? ⟨w.heap.size,0,none⟩=some (.bool sa)∧wq.cell? ⟨w.heap.size,1,none⟩=some (.slice ao ma ca)∧wq.cell? ⟨w.heap.size,2,none⟩=some (yi ae))∧wq.cell? ⟨w.heap.size+1,0,none⟩=some (.bool sb)∧wq.cell? ⟨w.heap.size+1,1,none⟩=some (.slice bo mb cb)∧wq.cell? ⟨w.heap.size+1,2,none⟩=some (yi be)) (go_keep) (first
  | (go_at_call 223;refine(dopp_any sb bo mb cb be _).mono ?_;rintro z w5 ⟨rfl,b5⟩;have la5:=la.later b5;have lb5:=lb.later b5;have lc5:=lc.later b5;have b05:=below_trans b02 b5;obtain⟨-,⟨t0,t1,t2⟩,-⟩:=id la5;obtain⟨-,⟨t3,t4,t5⟩,-⟩:=id lb5)
  | (go_at_call 111;refine(HP.out w5 b05).mono ?_;rintro z w6 ⟨vr,rfl,o6,b6⟩;have la6:=la5.later b6;have lb6:=lb5.later b6;have lc6:=lc5.later b6;have b06:=below_trans b05 b6;obtain⟨-,⟨u0,u1,u2⟩,-⟩:=id la6;obtain⟨-,⟨u3,u4,u5⟩,-⟩:=id lb6;obtain⟨so,sc,hvt⟩:=o6.rd.shape;subst hvt;obtain⟨hl6,⟨d0,d1,d2⟩,f0,f1,f2⟩:=id lc6))
 all_goals go_wp2
 have hlt:=lc5.1;obtain⟨-,⟨g0,g1,g2⟩,-⟩:=loc_set lc6 (.bool rs) (.slice so (Dg.dg 4294967296 rn).length sc) (yi re);have b8:=below_set3 b06 (show w.heap.size≤w.heap.size+1+1 by omega) (.bool rs) (.slice so (Dg.dg 4294967296 rn).length sc) (yi re)
 refine bodyPost_ret (v:=(ydV rs (.slice so (Dg.dg 4294967296 rn).length sc) re)) (by simp[results,Tryz.results182,go_sem,g0,g1,g2]) rfl ?_;exact⟨_,rfl,(o6.apart3 hlt _ _ _).lower (by have:=b05.size;omega),b8⟩
set_option maxHeartbeats 800000 in
theorem dcompareL_any (v u:Value) (a b:Trip) (w:World) (hv:Dv w v a) (hu:Dv w u b) (hLa:(Dg.dg 4294967296 a.n).length≤100000) (hLb:(Dg.dg 4294967296 b.n).length≤100000)
  (ha1: -100000≤a.e) (ha2:a.e≤100000) (hb1: -100000≤b.e) (hb2:b.e≤100000):
  Calls Tryz.prog 141 #[v,u] w fun z w'=>z= .returned (yi (signT (plusT a (negT b))))∧Below w.heap.size w w':=by
 have HM:Hid (∀w1,Below w.heap.size w w1→Calls Tryz.prog 182 #[v,u] w1 (DRes w1 (plusT a (negT b)))):=fun w1 b1=>dminus_any v u a b w1 (hv.later b1) (hu.later b1) hLa hLb ha1 ha2 hb1 hb2
 obtain⟨s0,rfl,ra⟩:=hv;obtain⟨ao,ca,rfl⟩:=ra.shape;obtain⟨s1,rfl,rb⟩:=hu;obtain⟨bo,cb,rfl⟩:=rb.shape;obtain⟨T,hT⟩: ∃T,plusT a (negT b)=T:=⟨_,rfl⟩;rw[hT] at HM⊢;obtain⟨ma,hma⟩: ∃m,(Dg.dg 4294967296 a.n).length=m:=⟨_,rfl⟩;obtain⟨mb,hmb⟩: ∃m,(Dg.dg 4294967296 b.n).length=m:=⟨_,rfl⟩;rw[hma,hmb] at HM⊢;clear hT hma hmb ra rb;have bA:=below_trans (below_alloc w (.cells (ydL a.s (.slice ao ma ca) a.e).toArray 96)) (below_alloc _ (.cells (ydL b.s (.slice bo mb cb) b.e).toArray 96))
 go_enter Tryz.func141,Tryz.ntmps141
 go_wp2_with fail
 refine(HM.out _ bA).mono ?_;rintro z w1 ⟨vr,rfl,o1,b1⟩;have b01:=below_trans bA b1
 go_wp2_with fail
 refine(dsign_any _ T w1 ⟨_,rfl,o1.rd⟩).mono ?_;rintro z w2 ⟨rfl,b2⟩;have b02:=below_trans b01 b2
 go_wp2
 go_ret
 exact⟨rfl,b02⟩
end Go.Proofs.YtnhackdjplppjaaGreatDoor
namespace Go.Proofs.YtnhackdjplppjaaGreatDoor
open Go.RowKit
theorem bare_n_le (t:Trip):(bare t).n≤t.n:=by
 unfold bare
 split
 ·exact Nat.zero_le _
 ·exact Nat.div_le_self _ _
end Go.Proofs.YtnhackdjplppjaaGreatDoor
namespace Go.Proofs.YtnhackdjplppjaaGreatDoor
theorem dchk_of {n:Nat} {e:Int} (h:(Dg.dg 4294967296 n).length≤1200) (h1: -20000≤e) (h2:e≤20000):dchk (Dg.dg 4294967296 n) e=0:=by
 unfold dchk;rw[chk_of (Dg.norm_dg _ _ (by omega)) h,if_pos rfl,if_neg (by omega)]
end Go.Proofs.YtnhackdjplppjaaGreatDoor
namespace Go.Proofs.YtnhackdjplppjaaGreatDoor
open Go.RowKit
theorem bitLen_shl (q k:Nat) (h:q≠0):bitLen (2^k*q)=k+bitLen q:=by
 have hd:2^k*q/2^k=q:=Nat.mul_div_cancel_left q (Nat.pow_pos (by omega));have:=bitLen_shift (2^k*q) k (by rw[hd];exact h)
 rwa [hd] at this
theorem bitLen_of_len2 {a L:Nat} (h:(Dg.dg 4294967296 a).length≤L):bitLen a≤32*L:=by
 refine bitLen_le_of a _ ?_;rw[Nat.pow_mul];have h1:=Dg.vl_lt 4294967296 _ (Dg.small_dg 4294967296 a (by omega));rw[Dg.vl_dg _ _ (by omega)] at h1;exact Nat.lt_of_lt_of_le h1 (Nat.pow_le_pow_right (by omega) h)
end Go.Proofs.YtnhackdjplppjaaGreatDoor
namespace Go.Proofs.YtnhackdjplppjaaGreatDoor
open Go.RowKit
def spotK (R D L:Int) (gr:Bool) (n:Nat) (e:Int):Int:=
 if(decide (powerR R D ((bitLen n:Int)-1+e)<L)&&gr)=true then L else powerR R D ((bitLen n:Int)-1+e)
def heldB (R D L G:Int) (gr:Bool) (n:Nat) (e:Int):Bool:=
 decide (n=0∨(L≤spotK R D L gr n e∧spotK R D L gr n e≤G∧(widthN R:Int)*spotK R D L gr n e≤e+(tz n:Int)))
def inR (R D L G:Int) (gr:Bool) (m:Nat) (e:Int):Bool:=
 decide (m=0∨((widthN R:Int)*L≤e∧e+(bitLen m:Int)≤(widthN R:Int)*(G+D)∧(gr=true∨L≤powerR R D (e+(bitLen m:Int)-1))∧(widthN R:Int)*max L (powerR R D (e+(bitLen m:Int)-1))≤e))
theorem bare_top {t:Trip} (h:t.n≠0):(bare t).n≠0∧(bare t).e=t.e+(tz t.n:Int)∧(bare t).e+(bitLen (bare t).n:Int)=t.e+(bitLen t.n:Int):=by
 obtain⟨m,hm⟩:=tz_spec h;have e:(bare t).n=2*m+1∧(bare t).e=t.e+(tz t.n:Int):=by
  unfold bare;rw[if_neg h];exact⟨div_tz hm,rfl⟩
 have hb:bitLen t.n=tz t.n+bitLen (2*m+1):=by
  have:=bitLen_shl (2*m+1) (tz t.n) (by omega)
  rwa [←hm] at this
 refine⟨by omega,e.2, ?_⟩;rw[e.1,e.2,hb];omega
theorem held_in {R D L G:Int} (gr:Bool) (t:Trip) (hLG:L≤G):inR R D L G gr (bare t).n (bare t).e=heldB R D L G gr t.n t.e:=by
 unfold inR heldB;refine decide_eq_decide.2 ?_
 by_cases h:t.n=0
 ·have:(bare t).n=0:=by unfold bare;rw[if_pos h]
  simp only[h,this,true_or]
 ·obtain⟨h1,h2,h3⟩:=bare_top h
  rw[h3];simp only[h1,h,false_or,h2];unfold spotK;rw[show t.e+(bitLen t.n:Int)-1=(bitLen t.n:Int)-1+t.e by omega]
  obtain⟨p,hp⟩: ∃p,(bitLen t.n:Int)-1+t.e=p:=⟨_,rfl⟩;rw[show t.e+(bitLen t.n:Int)=p+1 by omega,hp]
  clear h1 h2 h3 h;obtain⟨z,hz⟩: ∃z,t.e+(tz t.n:Int)=z:=⟨_,rfl⟩;rw[hz];have hw:powerR R D p=p/(widthN R:Int)-(D-1):=rfl;obtain⟨k,hk⟩: ∃k,powerR R D p=k:=⟨_,rfl⟩;rw[hk] at hw⊢;clear hp hz hk;unfold widthN at*
  cases gr<;>by_cases h16:R=16<;>simp only[h16,if_true,if_false] at hw⊢ <;>by_cases hl:k<L<;>simp[hl]<;>omega
end Go.Proofs.YtnhackdjplppjaaGreatDoor

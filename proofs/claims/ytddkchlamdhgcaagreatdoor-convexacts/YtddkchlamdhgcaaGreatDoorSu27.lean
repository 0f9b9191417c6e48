/-
  Texts laid together: Gr1, Gr5, Gm1, Gr6, Gr7, Gr13, Gn1, Gk2, Gq7.
-/
import Derived.Test.YtddkchlamdhgcaaGreatDoorSu18
import Derived.Test.YtddkchlamdhgcaaGreatDoorSu22
set_option maxRecDepth 100000
set_option maxHeartbeats 3200000
namespace Go.Proofs.YtddkchlamdhgcaaGreatDoor
open _root_.Go.Proofs.Tryz
open Go.RowKit
theorem Qe (qs:Bool)(ao:Option Addr)(ca:Nat)(xs:List Nat)(bo:Option Addr)(cb:Nat)(ys:List Nat)(E R D L G:Int)(gr:Bool)(w:World)(ha:Rd w .u32 (.slice ao xs.length ca) xs)(hb:Rd w .u32 (.slice bo ys.length cb) ys):
  yC 62 #[yrV qs (.slice ao xs.length ca) (.slice bo ys.length cb) E,ygV R D L G gr] w (yR w (yi (jg (eA xs ys E) (bk R D L G)))):=by
 rw[Uu];exact MY qs ao ca xs.length bo cb ys.length E R D L G gr _ _ _ _ w (fun w1 b1=>jC _ _ w1 (ha.l b1)) (fun w1 b1=>jC _ _ w1 (hb.l b1)) (fun w1=>nK E 20000 w1 (by omega) (by omega)) (fun w1=>vE R D L G gr w1)
def rf (R D L:Int)(gr qs:Bool)(N M:Nat)(E way:Int):Bool:=
 gY way (dm ((gF R D L gr N M E*2:Nat):Int) ((dX M (shP R D L gr N M E):Nat):Int)) (decide (cH R D L gr N M E % 2=1)) qs
def fM (R D L:Int)(gr qs:Bool)(N M:Nat)(E way:Int):Nat:=
 if decide (gF R D L gr N M E=0)=false∧rf R D L gr qs N M E way=true then cH R D L gr N M E+1 else cH R D L gr N M E
def cI (R D L G:Int)(gr qs:Bool)(N M:Nat)(E way:Int):fz:=
 if fM R D L gr qs N M E way=0 then⟨qs,0,0,decide (gF R D L gr N M E=0),false,decide (aT R D (dY N M E)<L)⟩
 else⟨qs,io R D (fM R D L gr qs N M E way),gD R D (fM R D L gr qs N M E way) (dj R D L gr N M E),decide (gF R D L gr N M E=0),decide (G<gD R D (fM R D L gr qs N M E way) (dj R D L gr N M E)),decide (aT R D (dY N M E)<L)⟩
theorem uh (R D L:Int)(gr:Bool)(N M:Nat)(E:Int)(h1:1≤D)(hN:N≠0)(hM:M≠0)(p:Int):io R D (cH R D L gr N M E)=cH R D L gr N M E∧gD R D (cH R D L gr N M E) p=p:=by
 have h:=rP R D L gr N M E h1 hN hM;unfold io gD;rw[if_neg (by omega),if_neg (by omega)];exact⟨rfl,rfl⟩
theorem CD (R D:Int)(d:Nat):io R D d=0↔d=0:=by
 unfold io;have h1:=bG (ai R*D.toNat);have h2:=bG (ai R*(D-1).toNat)
 split<;>omega
theorem KL (R D L:Int)(gr qs:Bool)(N M:Nat)(E way:Int):cH R D L gr N M E≤fM R D L gr qs N M E way:=by
 unfold fM
 split<;>omega
theorem kJ {R D L G:Int}(gr qs:Bool)(N M:Nat)(E way:Int)(h1:1≤D)(hLG:L≤G)(hN:N≠0)(hM:M≠0):
  cI R D L G gr qs N M E way=⟨qs,io R D (fM R D L gr qs N M E way),if io R D (fM R D L gr qs N M E way)=0 then 0 else gD R D (fM R D L gr qs N M E way) (dj R D L gr N M E),decide (gF R D L gr N M E=0),decide (G<gD R D (fM R D L gr qs N M E way) (dj R D L gr N M E)),decide (aT R D (dY N M E)<L)⟩:=by
 unfold cI
 by_cases h0:fM R D L gr qs N M E way=0
 ·have hw:cH R D L gr N M E=0:=by
   have:=KL R D L gr qs N M E way;omega
  have hc:dj R D L gr N M E=L:=by
   refine Decidable.byContradiction fun c=> ?_
   have e:dj R D L gr N M E=aT R D (dY N M E):=by
    unfold dj at c⊢
    split at c
    ·exact absurd rfl c
    ·rw[if_neg (by assumption)]
   have:=Vf R D L gr N M E h1 hN hM e;omega
  have hd:=uh R D L gr N M E h1 hN hM (dj R D L gr N M E);rw[if_pos h0,h0,if_pos ((CD R D 0).2 rfl),(CD R D 0).2 rfl];rw[hw] at hd;rw[hd.2,hc,decide_eq_false (show¬G<L by omega)]
 ·rw[if_neg h0,if_neg (fun c=>h0 ((CD R D _).1 c))]
theorem Ob (R D L G:Int)(gr:Bool)(qs:Bool)(no:Option Addr)(nl nc:Nat)(eo:Option Addr)(el ec:Nat)(E way:Int)(c:Int)(fv:Value)(fn:FuncId)(isf z:Bool)(PT:fz)(ac:Int)(at_:fz)(w:World)
  (hfv:isf=true→fv= .func (.func fn) #[] #[]) (hfn:isf=false→fv= .nilFunc) (hz:((nl:Int)==0)=z)
  (HB: ¬c=0→ac=c∧at_=oI) (HK:c=0→isf=false→ac=6∧at_=oI) (HZ:c=0→isf=true→z=true→ac=0∧at_=⟨false,0,0,true,false,false⟩) (HG:c=0→isf=true→z=false→ac=0∧at_=PT)
  (HW:yH w 62 #[yrV qs (.slice no nl nc) (.slice eo el ec) E,ygV R D L G gr] (yi c))
  (HL: ∀w1 r,w1.heap[r]? =some (.map Yd 5)→(Instr.lookup 130 (.map (some r)) (yi way) false).run Tryz.prog w1= .ok fv w1)
  (HR:c=0→isf=true→z=false→ ∀w1,yB w w1→yC 64 #[ygV R D L G gr,yrV qs (.slice no nl nc) (.slice eo el ec) E,.func (.func fn) #[] #[]] w1 (Fk w1 PT)):
  yC 31 #[yrV qs (.slice no nl nc) (.slice eo el ec) E,ygV R D L G gr,yi way] w (sq w ac at_):=by
 replace HB:Hid _:=HB;replace HK:Hid _:=HK;replace HZ:Hid _:=HZ;replace HG:Hid _:=HG;replace HW:Hid _:=HW;replace HL:Hid _:=HL;replace HR:Hid _:=HR;replace hfv:Hid _:=hfv;replace hfn:Hid _:=hfn;have HWY:Hid _:=Ye;have b1:=aa (aa (af w (.cells (yrA qs (.slice no nl nc) (.slice eo el ec) E) 84)) (af _ (.cells (ygA R D L G gr) 40))) (af _ (.cells (ypA false yN 0 false false false) 80));have q1:=((ah w (yrL qs (.slice no nl nc) (.slice eo el ec) E) 84).l (af _ (.cells (ygA R D L G gr) 40))).l (af _ (.cells (ypA false yN 0 false false false) 80));have g1:=(ah (w.alloc (.cells (yrA qs (.slice no nl nc) (.slice eo el ec) E) 84)) (ygL R D L G gr) 40).l (af _ (.cells (ypA false yN 0 false false false) 80));have c1:=ah ((w.alloc (.cells (yrA qs (.slice no nl nc) (.slice eo el ec) E) 84)).alloc (.cells (ygA R D L G gr) 40)) (ypL false yN 0 false false false) 80;simp only[World.size_alloc] at g1 c1;obtain⟨x0,x1,x2,x3⟩:=q1.cs4;obtain⟨y0,y1,y2,y3,y4⟩:=g1.cs5;have en:=fun w1=>Oa (P:=Tryz.prog) w1 underlying129
 have ef:=fun w1=>Rq (P:=Tryz.prog) w1 underlying129 (.func fn) #[] #[]
 go_enter func31,ntmps31
 go_wp2_with fail
 refine(HW.out _ b1).mono ?_;rintro z wa ⟨rfl,bb2⟩;have q_2:=q1.l bb2;have g_2:=g1.l bb2;have c_2:=c1.l bb2;have b0_2:=aa b1 bb2;clear q1 g1 c1 b1 bb2;clear x0 x1 x2 x3 y0 y1 y2 y3 y4
 by_cases hc:c=0
 ·have HK2:Hid _:=HK.out hc
  have HZ2:Hid _:=HZ.out hc;have HG2:Hid _:=HG.out hc;have HR2:Hid _:=HR.out hc;clear HB HK HZ HG HR;subst hc
  go_wp2_with fail
  refine(HWY.out _).mono ?_;rintro z wb ⟨rfl,hm,bb3⟩;have q_3:=q_2.l bb3;have g_3:=g_2.l bb3;have c_3:=c_2.l bb3;have b0_3:=aa b0_2 bb3;clear q_2 g_2 c_2 b0_2 bb3;have hl:=HL.out wb _ hm;clear hm
  cases isf
  ·have hf:=hfn.out rfl
   have HF:Hid _:=HK2.out rfl;clear HK2 HZ2 HG2 HR2 hfn hfv;subst hf;have s0:=c_3.c 0 rfl;have f0:=c_3.f 0;have s1:=c_3.c 1 rfl;have f1:=c_3.f 1;have s2:=c_3.c 2 rfl;have f2:=c_3.f 2;have s3:=c_3.c 3 rfl;have f3:=c_3.f 3;have s4:=c_3.c 4 rfl;have f4:=c_3.f 4;have s5:=c_3.c 5 rfl;have f5:=c_3.f 5
   go_wp2
   have bu:But (w.heap.size+1+1) wb ((((((wb.setCell ⟨w.heap.size+1+1,0,none⟩ (.bool false)).setCell ⟨w.heap.size+1+1,1,none⟩ yN).setCell ⟨w.heap.size+1+1,2,none⟩ (yi 0)).setCell ⟨w.heap.size+1+1,3,none⟩ (.bool false)).setCell ⟨w.heap.size+1+1,4,none⟩ (.bool false)).setCell ⟨w.heap.size+1+1,5,none⟩ (.bool false)):=(((((ag wb (w.heap.size+1+1) 0 (.bool false)).trans (ag _ (w.heap.size+1+1) 1 yN)).trans (ag _ (w.heap.size+1+1) 2 (yi 0))).trans (ag _ (w.heap.size+1+1) 3 (.bool false))).trans (ag _ (w.heap.size+1+1) 4 (.bool false))).trans (ag _ (w.heap.size+1+1) 5 (.bool false));have cR:au ((((((wb.setCell ⟨w.heap.size+1+1,0,none⟩ (.bool false)).setCell ⟨w.heap.size+1+1,1,none⟩ yN).setCell ⟨w.heap.size+1+1,2,none⟩ (yi 0)).setCell ⟨w.heap.size+1+1,3,none⟩ (.bool false)).setCell ⟨w.heap.size+1+1,4,none⟩ (.bool false)).setCell ⟨w.heap.size+1+1,5,none⟩ (.bool false)) (w.heap.size+1+1) 80 (ypL false yN 0 false false false):=(((((c_3.set 0 (.bool false)).set 1 yN).set 2 (yi 0)).set 3 (.bool false)).set 4 (.bool false)).set 5 (.bool false);have bR:=bu.below b0_3 (show w.heap.size≤w.heap.size+1+1 by omega)
   clear bu s0 s1 s2 s3 s4 s5 f0 f1 f2 f3 f4 f5 q_3 g_3 c_3;generalize((((((wb.setCell ⟨w.heap.size+1+1,0,none⟩ (.bool false)).setCell ⟨w.heap.size+1+1,1,none⟩ yN).setCell ⟨w.heap.size+1+1,2,none⟩ (yi 0)).setCell ⟨w.heap.size+1+1,3,none⟩ (.bool false)).setCell ⟨w.heap.size+1+1,4,none⟩ (.bool false)).setCell ⟨w.heap.size+1+1,5,none⟩ (.bool false))=WR at cR bR⊢;obtain⟨s0,s1,s2,s3,s4,s5⟩:=cR.cs6;rw[HF.out.1,HF.out.2]
   show bodyPost _ _ _ .ret _ _
   refine bodyPost_ret (v:= .tuple #[ypV false yN 0 false false false,yi 6]) (by simp[results,results31,go_sem,s0,s1,s2,s3,s4,s5]) rfl ?_;exact⟨_,rfl,aQ _ _ _ _,bR⟩
  ·have hf:=hfv.out rfl
   have HZ3:Hid _:=HZ2.out rfl;have HG3:Hid _:=HG2.out rfl;have HR3:Hid _:=HR2.out rfl;clear HK2 HZ2 HG2 HR2 hfn hfv;subst hf;have x1:=q_3.c 1 rfl
   cases z
   ·have HF:Hid _:=HG3.out rfl
    have HRF:Hid _:=HR3.out rfl;clear HZ3 HG3 HR3;have x0:=q_3.c 0 rfl;have x2:=q_3.c 2 rfl;have x3:=q_3.c 3 rfl;obtain⟨y0,y1,y2,y3,y4⟩:=g_3.cs5;have hwb:=b0_3.size
    go_wp2_with fail
    refine(HRF.out _ b0_3).mono ?_;rintro z wc ⟨v,rfl,ou,bb4⟩;have q_4:=q_3.l bb4;have g_4:=g_3.l bb4;have c_4:=c_3.l bb4;have b0_4:=aa b0_3 bb4;clear q_3 g_3 c_3 b0_3 bb4;clear x0 x1 x2 x3 y0 y1 y2 y3 y4;obtain⟨uo,uk,hv⟩:=ou.rd.shape;subst hv;obtain⟨lu,hlu⟩: ∃x,(Dg.dg 4294967296 PT.d).length=x:=⟨_,rfl⟩;rw[hlu] at ou;rw[hlu];clear hlu;have s0:=c_4.c 0 rfl;have f0:=c_4.f 0;have s1:=c_4.c 1 rfl;have f1:=c_4.f 1;have s2:=c_4.c 2 rfl;have f2:=c_4.f 2;have s3:=c_4.c 3 rfl;have f3:=c_4.f 3;have s4:=c_4.c 4 rfl;have f4:=c_4.f 4;have s5:=c_4.c 5 rfl;have f5:=c_4.f 5
    go_wp2
    have bu:But (w.heap.size+1+1) wc ((((((wc.setCell ⟨w.heap.size+1+1,0,none⟩ (.bool PT.s)).setCell ⟨w.heap.size+1+1,1,none⟩ (.slice uo lu uk)).setCell ⟨w.heap.size+1+1,2,none⟩ (yi PT.p)).setCell ⟨w.heap.size+1+1,3,none⟩ (.bool PT.ex)).setCell ⟨w.heap.size+1+1,4,none⟩ (.bool PT.ov)).setCell ⟨w.heap.size+1+1,5,none⟩ (.bool PT.un)):=(((((ag wc (w.heap.size+1+1) 0 (.bool PT.s)).trans (ag _ (w.heap.size+1+1) 1 (.slice uo lu uk))).trans (ag _ (w.heap.size+1+1) 2 (yi PT.p))).trans (ag _ (w.heap.size+1+1) 3 (.bool PT.ex))).trans (ag _ (w.heap.size+1+1) 4 (.bool PT.ov))).trans (ag _ (w.heap.size+1+1) 5 (.bool PT.un));have cR:au ((((((wc.setCell ⟨w.heap.size+1+1,0,none⟩ (.bool PT.s)).setCell ⟨w.heap.size+1+1,1,none⟩ (.slice uo lu uk)).setCell ⟨w.heap.size+1+1,2,none⟩ (yi PT.p)).setCell ⟨w.heap.size+1+1,3,none⟩ (.bool PT.ex)).setCell ⟨w.heap.size+1+1,4,none⟩ (.bool PT.ov)).setCell ⟨w.heap.size+1+1,5,none⟩ (.bool PT.un)) (w.heap.size+1+1) 80 (ypL PT.s (.slice uo lu uk) PT.p PT.ex PT.ov PT.un):=(((((c_4.set 0 (.bool PT.s)).set 1 (.slice uo lu uk)).set 2 (yi PT.p)).set 3 (.bool PT.ex)).set 4 (.bool PT.ov)).set 5 (.bool PT.un);have bR:=bu.below b0_4 (show w.heap.size≤w.heap.size+1+1 by omega)
    have oR:=bu.own (ou.lower hwb) c_4 (by decide);clear bu s0 s1 s2 s3 s4 s5 f0 f1 f2 f3 f4 f5 q_4 g_4 c_4;generalize((((((wc.setCell ⟨w.heap.size+1+1,0,none⟩ (.bool PT.s)).setCell ⟨w.heap.size+1+1,1,none⟩ (.slice uo lu uk)).setCell ⟨w.heap.size+1+1,2,none⟩ (yi PT.p)).setCell ⟨w.heap.size+1+1,3,none⟩ (.bool PT.ex)).setCell ⟨w.heap.size+1+1,4,none⟩ (.bool PT.ov)).setCell ⟨w.heap.size+1+1,5,none⟩ (.bool PT.un))=WR at cR bR oR⊢;obtain⟨s0,s1,s2,s3,s4,s5⟩:=cR.cs6;rw[HF.out.1,HF.out.2]
    show bodyPost _ _ _ .ret _ _
    refine bodyPost_ret (v:= .tuple #[ypV PT.s (.slice uo lu uk) PT.p PT.ex PT.ov PT.un,yi 0]) (by simp[results,results31,go_sem,s0,s1,s2,s3,s4,s5]) rfl ?_;exact⟨_,rfl,oR,bR⟩
   ·have HF:Hid _:=HZ3.out rfl
    clear HZ3 HG3 HR3;have s0:=c_3.c 0 rfl;have f0:=c_3.f 0;have s1:=c_3.c 1 rfl;have f1:=c_3.f 1;have s2:=c_3.c 2 rfl;have f2:=c_3.f 2;have s3:=c_3.c 3 rfl;have f3:=c_3.f 3;have s4:=c_3.c 4 rfl;have f4:=c_3.f 4;have s5:=c_3.c 5 rfl;have f5:=c_3.f 5
    go_wp2
    have bu:But (w.heap.size+1+1) wb ((((((wb.setCell ⟨w.heap.size+1+1,0,none⟩ (.bool false)).setCell ⟨w.heap.size+1+1,1,none⟩ yN).setCell ⟨w.heap.size+1+1,2,none⟩ (yi 0)).setCell ⟨w.heap.size+1+1,3,none⟩ (.bool true)).setCell ⟨w.heap.size+1+1,4,none⟩ (.bool false)).setCell ⟨w.heap.size+1+1,5,none⟩ (.bool false)):=(((((ag wb (w.heap.size+1+1) 0 (.bool false)).trans (ag _ (w.heap.size+1+1) 1 yN)).trans (ag _ (w.heap.size+1+1) 2 (yi 0))).trans (ag _ (w.heap.size+1+1) 3 (.bool true))).trans (ag _ (w.heap.size+1+1) 4 (.bool false))).trans (ag _ (w.heap.size+1+1) 5 (.bool false));have cR:au ((((((wb.setCell ⟨w.heap.size+1+1,0,none⟩ (.bool false)).setCell ⟨w.heap.size+1+1,1,none⟩ yN).setCell ⟨w.heap.size+1+1,2,none⟩ (yi 0)).setCell ⟨w.heap.size+1+1,3,none⟩ (.bool true)).setCell ⟨w.heap.size+1+1,4,none⟩ (.bool false)).setCell ⟨w.heap.size+1+1,5,none⟩ (.bool false)) (w.heap.size+1+1) 80 (ypL false yN 0 true false false):=(((((c_3.set 0 (.bool false)).set 1 yN).set 2 (yi 0)).set 3 (.bool true)).set 4 (.bool false)).set 5 (.bool false);have bR:=bu.below b0_3 (show w.heap.size≤w.heap.size+1+1 by omega)
    clear bu s0 s1 s2 s3 s4 s5 f0 f1 f2 f3 f4 f5 q_3 g_3 c_3;generalize((((((wb.setCell ⟨w.heap.size+1+1,0,none⟩ (.bool false)).setCell ⟨w.heap.size+1+1,1,none⟩ yN).setCell ⟨w.heap.size+1+1,2,none⟩ (yi 0)).setCell ⟨w.heap.size+1+1,3,none⟩ (.bool true)).setCell ⟨w.heap.size+1+1,4,none⟩ (.bool false)).setCell ⟨w.heap.size+1+1,5,none⟩ (.bool false))=WR at cR bR⊢;obtain⟨s0,s1,s2,s3,s4,s5⟩:=cR.cs6;rw[HF.out.1,HF.out.2]
    show bodyPost _ _ _ .ret _ _
    refine bodyPost_ret (v:= .tuple #[ypV false yN 0 true false false,yi 0]) (by simp[results,results31,go_sem,s0,s1,s2,s3,s4,s5]) rfl ?_;exact⟨_,rfl,aQ _ _ _ _,bR⟩
 ·have hcf:(c==0)=false:=by simp;exact hc
  have HF:Hid _:=HB.out hc;clear hc HB HK HZ HG HR;have s0:=c_2.c 0 rfl;have f0:=c_2.f 0;have s1:=c_2.c 1 rfl;have f1:=c_2.f 1;have s2:=c_2.c 2 rfl;have f2:=c_2.f 2;have s3:=c_2.c 3 rfl;have f3:=c_2.f 3;have s4:=c_2.c 4 rfl;have f4:=c_2.f 4;have s5:=c_2.c 5 rfl;have f5:=c_2.f 5
  go_wp2
  have bu:But (w.heap.size+1+1) wa ((((((wa.setCell ⟨w.heap.size+1+1,0,none⟩ (.bool false)).setCell ⟨w.heap.size+1+1,1,none⟩ yN).setCell ⟨w.heap.size+1+1,2,none⟩ (yi 0)).setCell ⟨w.heap.size+1+1,3,none⟩ (.bool false)).setCell ⟨w.heap.size+1+1,4,none⟩ (.bool false)).setCell ⟨w.heap.size+1+1,5,none⟩ (.bool false)):=(((((ag wa (w.heap.size+1+1) 0 (.bool false)).trans (ag _ (w.heap.size+1+1) 1 yN)).trans (ag _ (w.heap.size+1+1) 2 (yi 0))).trans (ag _ (w.heap.size+1+1) 3 (.bool false))).trans (ag _ (w.heap.size+1+1) 4 (.bool false))).trans (ag _ (w.heap.size+1+1) 5 (.bool false));have cR:au ((((((wa.setCell ⟨w.heap.size+1+1,0,none⟩ (.bool false)).setCell ⟨w.heap.size+1+1,1,none⟩ yN).setCell ⟨w.heap.size+1+1,2,none⟩ (yi 0)).setCell ⟨w.heap.size+1+1,3,none⟩ (.bool false)).setCell ⟨w.heap.size+1+1,4,none⟩ (.bool false)).setCell ⟨w.heap.size+1+1,5,none⟩ (.bool false)) (w.heap.size+1+1) 80 (ypL false yN 0 false false false):=(((((c_2.set 0 (.bool false)).set 1 yN).set 2 (yi 0)).set 3 (.bool false)).set 4 (.bool false)).set 5 (.bool false);have bR:=bu.below b0_2 (show w.heap.size≤w.heap.size+1+1 by omega)
  clear bu s0 s1 s2 s3 s4 s5 f0 f1 f2 f3 f4 f5 q_2 g_2 c_2;generalize((((((wa.setCell ⟨w.heap.size+1+1,0,none⟩ (.bool false)).setCell ⟨w.heap.size+1+1,1,none⟩ yN).setCell ⟨w.heap.size+1+1,2,none⟩ (yi 0)).setCell ⟨w.heap.size+1+1,3,none⟩ (.bool false)).setCell ⟨w.heap.size+1+1,4,none⟩ (.bool false)).setCell ⟨w.heap.size+1+1,5,none⟩ (.bool false))=WR at cR bR⊢;obtain⟨s0,s1,s2,s3,s4,s5⟩:=cR.cs6;rw[HF.out.1,HF.out.2]
  show bodyPost _ _ _ .ret _ _
  refine bodyPost_ret (v:= .tuple #[ypV false yN 0 false false false,yi c]) (by simp[results,results31,go_sem,s0,s1,s2,s3,s4,s5]) rfl ?_;exact⟨_,rfl,aQ _ _ _ _,bR⟩
theorem PI (way:Int)(w1:World)(r:Nat)(hm:w1.heap[r]? =some (.map Yd 5)):(Instr.lookup 130 (.map (some r)) (yi way) false).run Tryz.prog w1= .ok (ac0 way) w1:=by
 by_cases h:iC way=true
 ·rcases zi h with rfl|rfl|rfl|rfl|rfl
  ·exact pj underlying130 underlying3 hm 1 rfl
  ·exact pj underlying130 underlying3 hm 2 rfl
  ·exact pj underlying130 underlying3 hm 3 rfl
  ·exact pj underlying130 underlying3 hm 4 rfl
  ·exact pj underlying130 underlying3 hm 5 rfl
 ·have hn: ¬(1≤way∧way≤5):=fun c=>h (decide_eq_true c)
  unfold ac0;rw[if_neg h];refine Yc underlying130 underlying3 hm way ?_ ?_
  ·kernel_rfl
  ·simp[Yd,Instr.findNow,XI,show¬way=1 by omega,show¬way=2 by omega,show¬way=3 by omega,show¬way=4 by omega,show¬way=5 by omega]
theorem PK {way:Int}(h:iC way=true)(half:Int)(odd neg:Bool)(w1:World):yC (T4 way) #[.agg #[yi half,.bool odd,.bool neg]] w1 (yR w1 (.bool (gY way half odd neg))):=by
 rcases zi h with rfl|rfl|rfl|rfl|rfl
 ·exact Yf half odd neg w1
 ·exact Yg half odd neg w1
 ·exact Yh half odd neg w1
 ·exact Yi half odd neg w1
 ·exact Yj half odd neg w1
def df (xs ys:List Nat)(E R D L G:Int)(gr qs:Bool)(way:Int):fz:=
 if eE xs ys E R D L G way=0 then(if xs.length=0 then⟨false,0,0,true,false,false⟩ else cI R D L G gr qs (Dg.vl 4294967296 xs) (Dg.vl 4294967296 ys) E way) else oI
theorem KW (neg odd:Bool)(half:Int)(w:World):
  yC 37 #[yi 1,.bool neg,.bool odd,yi half] w fun z w'=>z= .returned (.bool (gY 1 half odd neg))∧w'=w:=by
 unfold gY
 by_cases h:0<half
 ·go_enter func37,ntmps37
  go_wp2
  go_ret
  simp
 ·by_cases h0:half=0
  ·subst h0
   cases odd
   ·go_enter func37,ntmps37
    go_wp2
    go_ret
    simp
   ·go_enter func37,ntmps37
    go_wp2
    go_ret
    simp
  ·have e:(half==0)=false:=by simp;exact h0
   go_enter func37,ntmps37
   go_wp2
   go_ret
   simp;omega
theorem KX (neg odd:Bool)(half:Int)(w:World):
  yC 37 #[yi 2,.bool neg,.bool odd,yi half] w fun z w'=>z= .returned (.bool (gY 2 half odd neg))∧w'=w:=by
 unfold gY
 go_enter func37,ntmps37
 go_wp2
 go_ret
 simp
theorem KY (neg odd:Bool)(half:Int)(w:World):
  yC 37 #[yi 3,.bool neg,.bool odd,yi half] w fun z w'=>z= .returned (.bool (gY 3 half odd neg))∧w'=w:=by
 unfold gY
 go_enter func37,ntmps37
 go_wp2
 go_ret
 simp
theorem KZ (neg odd:Bool)(half:Int)(w:World):
  yC 37 #[yi 4,.bool neg,.bool odd,yi half] w fun z w'=>z= .returned (.bool (gY 4 half odd neg))∧w'=w:=by
 unfold gY
 go_enter func37,ntmps37
 go_wp2
 go_ret
 simp
theorem K3 (neg odd:Bool)(half:Int)(w:World):
  yC 37 #[yi 5,.bool neg,.bool odd,yi half] w fun z w'=>z= .returned (.bool (gY 5 half odd neg))∧w'=w:=by
 unfold gY
 go_enter func37,ntmps37
 go_wp2
 go_ret
 simp
theorem Od {way:Int}(hw:iC way=true)(neg odd:Bool)(half:Int)(w:World):
  yC 37 #[yi way,.bool neg,.bool odd,yi half] w fun z w'=>z= .returned (.bool (gY way half odd neg))∧w'=w:=by
 rcases zi hw with rfl|rfl|rfl|rfl|rfl
 ·exact KW neg odd half w
 ·exact KX neg odd half w
 ·exact KY neg odd half w
 ·exact KZ neg odd half w
 ·exact K3 neg odd half w
theorem Zr (R D L G:Int)(gr s:Bool)(ao:Option Addr)(la ca:Nat)(p:Int)(x1 x2 x3:Bool)(wd nc gc c:Int)(far rs:Bool)(rn:Nat)(re:Int)(w:World)
  (HA: ¬nc=0→rs=false∧rn=0∧re=0∧c=nc) (HB:nc=0→ ¬gc=0→rs=false∧rn=0∧re=0∧c=gc) (HC:nc=0→gc=0→far=true→rs=false∧rn=0∧re=0∧c=3)
  (HN:yH w 58 #[.slice ao la ca] (yi nc))
  (HG:yJ 89 #[ygV R D L G gr] (yi gc))
  (HF: ∀w1,yC 88 #[yi p,yi 20000] w1 fun z w'=>z= .returned (.bool far)∧w'=w1)
  (HM:nc=0→gc=0→far=false→yJ 142 #[ygV R D L G gr,.bool s,.agg #[.slice ao la ca,yi p]] (ydV s (.slice ao la ca) (wd*p)))
  (HS:nc=0→gc=0→far=false→ ∀w1,yB w w1→yC 143 #[ydV s (.slice ao la ca) (wd*p)] w1 (gR w1 (⟨rs,rn,re⟩,c))):
  yC 121 #[ypV s (.slice ao la ca) p x1 x2 x3,ygV R D L G gr] w (gR w (⟨rs,rn,re⟩,c)):=by
 replace HA:Hid _:=HA;replace HB:Hid _:=HB;replace HC:Hid _:=HC;replace HN:Hid _:=HN;replace HG:Hid _:=HG;replace HF:Hid _:=HF;replace HM:Hid _:=HM;replace HS:Hid _:=HS;have b1:=aa (aa (af w (.cells (ypA s (.slice ao la ca) p x1 x2 x3) 80)) (af _ (.cells (ygA R D L G gr) 40))) (af _ (.cells (ydA false yN 0) 76));have q1:=((ah w (ypL s (.slice ao la ca) p x1 x2 x3) 80).l (af _ (.cells (ygA R D L G gr) 40))).l (af _ (.cells (ydA false yN 0) 76));have g1:=(ah (w.alloc (.cells (ypA s (.slice ao la ca) p x1 x2 x3) 80)) (ygL R D L G gr) 40).l (af _ (.cells (ydA false yN 0) 76));have c1:=ah ((w.alloc (.cells (ypA s (.slice ao la ca) p x1 x2 x3) 80)).alloc (.cells (ygA R D L G gr) 40)) (ydL false yN 0) 76;simp only[World.size_alloc] at g1 c1
 by_cases hn:nc=0
 ·have HB1:Hid _:=HB.out hn
  have HC1:Hid _:=HC.out hn;have HM1:Hid _:=HM.out hn;have HS1:Hid _:=HS.out hn;clear HA HB HC HM HS;subst hn
  by_cases hg:gc=0
  ·have HC2:Hid _:=HC1.out hg
   have HM2:Hid _:=HM1.out hg;have HS2:Hid _:=HS1.out hg;clear HB1 HC1 HM1 HS1;subst hg
   cases far
   ·have HM3:Hid _:=HM2.out rfl
    have HS3:Hid _:=HS2.out rfl;clear HC2 HM2 HS2;have y1:=q1.c 1 rfl
    go_enter func121,ntmps121
    go_wp2_with fail
    refine(HN.out _ b1).mono ?_;rintro z w2 ⟨rfl,bb2⟩;clear y1;have q_2:=q1.l bb2;have g_2:=g1.l bb2;have c_2:=c1.l bb2;have b0_2:=aa b1 bb2;clear q1 g1 c1 b1 bb2;obtain⟨x0,x1,x2,x3,x4⟩:=g_2.cs5
    go_wp2_with fail
    refine(HG.out _).mono ?_;rintro z w3 ⟨rfl,bb3⟩;have q_3:=q_2.l bb3;have g_3:=g_2.l bb3;have c_3:=c_2.l bb3;have b0_3:=aa b0_2 bb3;clear q_2 g_2 c_2 b0_2 bb3;clear x0 x1 x2 x3 x4;obtain⟨y0,y1,y2⟩:=q_3.cs3;obtain⟨x0,x1,x2,x3,x4⟩:=g_3.cs5
    go_wp2_with fail
    refine(HF.out _).mono ?_;rintro z w4 ⟨rfl,rfl⟩
    go_wp2_with fail
    refine(HM3.out _).mono ?_;rintro z w5 ⟨rfl,bb5⟩;clear x0 x1 x2 x3 x4 y0 y1 y2;have q_4:=q_3.l bb5;have g_4:=g_3.l bb5;have c_4:=c_3.l bb5;have b0_4:=aa b0_3 bb5;clear q_3 g_3 c_3 b0_3 bb5;have hlt:w.heap.size+1+1<w5.heap.size:=c_4.lt
    go_wp2_with fail
    refine(HS3.out _ b0_4).mono ?_;rintro z w6 ⟨vr,rfl,o6,bb5⟩;have q_5:=q_4.l bb5;have g_5:=g_4.l bb5;have c_5:=c_4.l bb5;have b0_5:=aa b0_4 bb5;clear q_4 g_4 c_4 b0_4 bb5;obtain⟨so,sc,hvr⟩:=o6.rd.shape;subst hvr;have d0:=c_5.c 0 rfl;have f0:=c_5.f 0;have d1:=c_5.c 1 rfl;have f1:=c_5.f 1;have d2:=c_5.c 2 rfl;have f2:=c_5.f 2
    go_wp2
    have bu:But (w.heap.size+1+1) w6 (((w6.setCell ⟨w.heap.size+1+1,0,none⟩ (.bool rs)).setCell ⟨w.heap.size+1+1,1,none⟩ (yT so rn sc)).setCell ⟨w.heap.size+1+1,2,none⟩ (yi re)):=((ag w6 (w.heap.size+1+1) 0 (.bool rs)).trans (ag _ (w.heap.size+1+1) 1 (yT so rn sc))).trans (ag _ (w.heap.size+1+1) 2 (yi re));have cX:au (((w6.setCell ⟨w.heap.size+1+1,0,none⟩ (.bool rs)).setCell ⟨w.heap.size+1+1,1,none⟩ (yT so rn sc)).setCell ⟨w.heap.size+1+1,2,none⟩ (yi re)) (w.heap.size+1+1) 76 (ydL rs (yT so rn sc) re):=((c_5.set 0 (.bool rs)).set 1 (yT so rn sc)).set 2 (yi re);have bX:=bu.below b0_5 (show w.heap.size≤w.heap.size+1+1 by omega)
    have oX:=bu.own o6 c_5 (by decide);obtain⟨s0,s1,s2⟩:=cX.cs3;refine bodyPost_ret (v:= .tuple #[ydV rs (yT so rn sc) re,yi c]) (by simp[results,results121,go_sem,s0,s1,s2]) rfl ?_;exact⟨_,rfl,oX.lower (by omega),bX⟩
   ·obtain⟨h1,h2,h3,h4⟩:=HC2.out rfl
    clear HC2 HM2 HS2;subst h1 h2 h3 h4;have y1:=q1.c 1 rfl
    go_enter func121,ntmps121
    go_wp2_with fail
    refine(HN.out _ b1).mono ?_;rintro z w2 ⟨rfl,bb2⟩;clear y1;have q_2:=q1.l bb2;have g_2:=g1.l bb2;have c_2:=c1.l bb2;have b0_2:=aa b1 bb2;clear q1 g1 c1 b1 bb2;obtain⟨x0,x1,x2,x3,x4⟩:=g_2.cs5
    go_wp2_with fail
    refine(HG.out _).mono ?_;rintro z w3 ⟨rfl,bb3⟩;have q_3:=q_2.l bb3;have g_3:=g_2.l bb3;have c_3:=c_2.l bb3;have b0_3:=aa b0_2 bb3;clear q_2 g_2 c_2 b0_2 bb3;clear x0 x1 x2 x3 x4;have y2:=q_3.c 2 rfl
    go_wp2_with fail
    refine(HF.out _).mono ?_;rintro z w4 ⟨rfl,rfl⟩;clear y2;have d0:=c_3.c 0 rfl;have f0:=c_3.f 0;have d1:=c_3.c 1 rfl;have f1:=c_3.f 1;have d2:=c_3.c 2 rfl;have f2:=c_3.f 2
    go_wp2
    have bu:But (w.heap.size+1+1) w4 (((w4.setCell ⟨w.heap.size+1+1,0,none⟩ (.bool false)).setCell ⟨w.heap.size+1+1,1,none⟩ yN).setCell ⟨w.heap.size+1+1,2,none⟩ (yi 0)):=((ag w4 (w.heap.size+1+1) 0 (.bool false)).trans (ag _ (w.heap.size+1+1) 1 yN)).trans (ag _ (w.heap.size+1+1) 2 (yi 0));have cX:au (((w4.setCell ⟨w.heap.size+1+1,0,none⟩ (.bool false)).setCell ⟨w.heap.size+1+1,1,none⟩ yN).setCell ⟨w.heap.size+1+1,2,none⟩ (yi 0)) (w.heap.size+1+1) 76 (ydL false yN 0):=((c_3.set 0 (.bool false)).set 1 yN).set 2 (yi 0);have bX:=bu.below b0_3 (show w.heap.size≤w.heap.size+1+1 by omega)
    obtain⟨s0,s1,s2⟩:=cX.cs3;refine bodyPost_ret (v:= .tuple #[ydV false yN 0,yi 3]) (by simp[results,results121,go_sem,s0,s1,s2]) rfl ?_;exact⟨_,rfl,aQ _ _ _ _,bX⟩
  ·obtain⟨h1,h2,h3,h4⟩:=HB1.out hg
   clear HB1 HC1 HM1 HS1;have hgf:(gc==0)=false:=by simp[hg]
   subst h1 h2 h3 h4;have y1:=q1.c 1 rfl
   go_enter func121,ntmps121
   go_wp2_with fail
   refine(HN.out _ b1).mono ?_;rintro z w2 ⟨rfl,bb2⟩;clear y1;have q_2:=q1.l bb2;have g_2:=g1.l bb2;have c_2:=c1.l bb2;have b0_2:=aa b1 bb2;clear q1 g1 c1 b1 bb2;obtain⟨x0,x1,x2,x3,x4⟩:=g_2.cs5
   go_wp2_with fail
   refine(HG.out _).mono ?_;rintro z w3 ⟨rfl,bb3⟩;have q_3:=q_2.l bb3;have g_3:=g_2.l bb3;have c_3:=c_2.l bb3;have b0_3:=aa b0_2 bb3;clear q_2 g_2 c_2 b0_2 bb3;clear x0 x1 x2 x3 x4;have d0:=c_3.c 0 rfl;have f0:=c_3.f 0;have d1:=c_3.c 1 rfl;have f1:=c_3.f 1;have d2:=c_3.c 2 rfl;have f2:=c_3.f 2
   go_wp2
   have bu:But (w.heap.size+1+1) w3 (((w3.setCell ⟨w.heap.size+1+1,0,none⟩ (.bool false)).setCell ⟨w.heap.size+1+1,1,none⟩ yN).setCell ⟨w.heap.size+1+1,2,none⟩ (yi 0)):=((ag w3 (w.heap.size+1+1) 0 (.bool false)).trans (ag _ (w.heap.size+1+1) 1 yN)).trans (ag _ (w.heap.size+1+1) 2 (yi 0));have cX:au (((w3.setCell ⟨w.heap.size+1+1,0,none⟩ (.bool false)).setCell ⟨w.heap.size+1+1,1,none⟩ yN).setCell ⟨w.heap.size+1+1,2,none⟩ (yi 0)) (w.heap.size+1+1) 76 (ydL false yN 0):=((c_3.set 0 (.bool false)).set 1 yN).set 2 (yi 0);have bX:=bu.below b0_3 (show w.heap.size≤w.heap.size+1+1 by omega)
   obtain⟨s0,s1,s2⟩:=cX.cs3;refine bodyPost_ret (v:= .tuple #[ydV false yN 0,yi c]) (by simp[results,results121,go_sem,s0,s1,s2]) rfl ?_;exact⟨_,rfl,aQ _ _ _ _,bX⟩
 ·obtain⟨h1,h2,h3,h4⟩:=HA.out hn
  clear HA HB HC HM HS;have hnf:(nc==0)=false:=by simp[hn]
  subst h1 h2 h3 h4;have y1:=q1.c 1 rfl
  go_enter func121,ntmps121
  go_wp2_with fail
  refine(HN.out _ b1).mono ?_;rintro z w2 ⟨rfl,bb2⟩;clear y1;have q_2:=q1.l bb2;have g_2:=g1.l bb2;have c_2:=c1.l bb2;have b0_2:=aa b1 bb2;clear q1 g1 c1 b1 bb2;have d0:=c_2.c 0 rfl;have f0:=c_2.f 0;have d1:=c_2.c 1 rfl;have f1:=c_2.f 1;have d2:=c_2.c 2 rfl;have f2:=c_2.f 2
  go_wp2
  have bu:But (w.heap.size+1+1) w2 (((w2.setCell ⟨w.heap.size+1+1,0,none⟩ (.bool false)).setCell ⟨w.heap.size+1+1,1,none⟩ yN).setCell ⟨w.heap.size+1+1,2,none⟩ (yi 0)):=((ag w2 (w.heap.size+1+1) 0 (.bool false)).trans (ag _ (w.heap.size+1+1) 1 yN)).trans (ag _ (w.heap.size+1+1) 2 (yi 0));have cX:au (((w2.setCell ⟨w.heap.size+1+1,0,none⟩ (.bool false)).setCell ⟨w.heap.size+1+1,1,none⟩ yN).setCell ⟨w.heap.size+1+1,2,none⟩ (yi 0)) (w.heap.size+1+1) 76 (ydL false yN 0):=((c_2.set 0 (.bool false)).set 1 yN).set 2 (yi 0);have bX:=bu.below b0_2 (show w.heap.size≤w.heap.size+1+1 by omega)
  obtain⟨s0,s1,s2⟩:=cX.cs3;refine bodyPost_ret (v:= .tuple #[ydV false yN 0,yi c]) (by simp[results,results121,go_sem,s0,s1,s2]) rfl ?_;exact⟨_,rfl,aQ _ _ _ _,bX⟩
theorem nW {R D L G:Int}{gr qs:Bool}{N M:Nat}{E way:Int}(h1:1≤D)(hLG:L≤G)(hN:N≠0)(hM:M≠0)(ho:(cI R D L G gr qs N M E way).ov=false)(hu:(cI R D L G gr qs N M E way).un=false∨gr=true):
  ((cI R D L G gr qs N M E way).d=0∧(cI R D L G gr qs N M E way).p=0)∨((cI R D L G gr qs N M E way).d≠0∧L≤(cI R D L G gr qs N M E way).p∧(cI R D L G gr qs N M E way).p≤G∧(cI R D L G gr qs N M E way).d<2^ (ai R*D.toNat)∧(2^ (ai R*(D-1).toNat)≤(cI R D L G gr qs N M E way).d∨(gr=true∧(cI R D L G gr qs N M E way).p=L))):=by
 rw[kJ gr qs N M E way h1 hLG hN hM] at ho hu⊢;simp only at ho hu⊢;have hov:=of_decide_eq_false ho
 by_cases hz:io R D (fM R D L gr qs N M E way)=0
 ·exact .inl ⟨hz,if_pos hz⟩
 ·refine .inr ⟨hz, ?_⟩
  rw[if_neg hz];have hwl:=rP R D L gr N M E h1 hN hM;have hge:=KL R D L gr qs N M E way;have hle:fM R D L gr qs N M E way≤cH R D L gr N M E+1:=by
   unfold fM
   split<;>omega
  have hpw:2^ (ai R*(D-1).toNat)<2^ (ai R*D.toNat):=by
   refine Nat.pow_lt_pow_right (by omega) ?_;exact Nat.mul_lt_mul_of_pos_left (by omega) (by have:=eN R;omega)
  have hcut:L≤dj R D L gr N M E∧(dj R D L gr N M E=aT R D (dY N M E)∨(gr=true∧dj R D L gr N M E=L)):=by
   unfold dj
   by_cases hc:(decide (aT R D (dY N M E)<L)&&gr)=true
   ·rw[if_pos hc]
    exact⟨Int.le_refl _,.inr ⟨(Bool.and_eq_true_iff.1 hc).2,rfl⟩⟩
   ·rw[if_neg hc]
    refine⟨?_,.inl rfl⟩
    rcases hu with hu|hu
    ·have:=of_decide_eq_false hu
     omega
    ·rw[hu,Bool.and_true] at hc
     have: ¬aT R D (dY N M E)<L:=fun c=>hc (decide_eq_true c)
     omega
  unfold io gD at*
  by_cases hq:fM R D L gr qs N M E way=2^ (ai R*D.toNat)
  ·rw[if_pos hq] at hov⊢
   rw[if_pos hq];exact⟨by omega,by omega,hpw,.inl (Nat.le_refl _)⟩
  ·rw[if_neg hq] at hov⊢
   rw[if_neg hq];refine⟨hcut.1,by omega,by omega, ?_⟩
   rcases hcut.2 with h|h
   ·refine .inl (Nat.le_trans ?_ hge)
    have:=mt (xx R D (aT R D (dY N M E)) N M E h1 hN hM).1 (Int.lt_irrefl _);rw[pP] at this;unfold cH shP;rw[h];omega
   ·exact .inr h
theorem KS {R D L:Int}{gr qs:Bool}{N M:Nat}{E way:Int}(h1:decide (gF R D L gr N M E=0)=false)(h2:rf R D L gr qs N M E way=true):fM R D L gr qs N M E way=cH R D L gr N M E+1:=if_pos ⟨h1,h2⟩
theorem ZF {R D L:Int}{gr qs:Bool}{N M:Nat}{E way:Int}(h:decide (gF R D L gr N M E=0)=true∨rf R D L gr qs N M E way=false):fM R D L gr qs N M E way=cH R D L gr N M E:=by
 refine if_neg ?_;rintro⟨h1,h2⟩
 rcases h with h|h
 ·rw[h1] at h
  cases h
 ·rw[h2] at h
  cases h
end Go.Proofs.YtddkchlamdhgcaaGreatDoor

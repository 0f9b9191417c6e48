/-
  Texts laid together: Read2, Co12, Co20, Gr6, Ar1, Ref8.
-/
import Derived.Test.YtlgkfdcmokchgaaGreatDoorUt11
import Derived.Test.YtlgkfdcmokchgaaGreatDoorUt18
import Derived.Test.YtlgkfdcmokchgaaGreatDoorUt20
set_option maxRecDepth 100000
set_option maxHeartbeats 6400000
namespace Go.Proofs.YtlgkfdcmokchgaaGreatDoor
open _root_.Go.Proofs.Tryz
open Go.RowKit
theorem Xf (va:Value)(m sc mo:Nat)(w0 w:World)(ho:Own w w0.heap.size 54 .u32 va (Dg.dg 4294967296 m))(hb:yB w0 w)(hsc:1≤sc)(hsc2:sc<4294967296)(hmo:mo<4294967296)(hl:(Dg.dg 4294967296 m).length≤1000000):
  yC 68 #[va,.int .u32 sc,.int .u32 mo] w fun e w'=> ∃v',e= .returned v'∧Own w' w0.heap.size 54 .u32 v' (Dg.dg 4294967296 (m*sc+mo))∧yB w0 w':=by
 obtain⟨i0,hi,hz0,hz1,hz2⟩:=info_parts Tryz.infoU32;obtain⟨zs,hzs⟩: ∃zs,Dg.dg 4294967296 m=zs:=⟨_,rfl⟩;have hsm:Dg.Small 4294967296 zs:=by rw[←hzs];exact Dg.small_dg _ _ (by omega)
 rw[hzs] at ho hl;have HZ:Hid _:=hzs.symm;have hen:=fun cur c (h:LI zs cur sc mo zs.length c)=>Xe h hzs.symm hsc (by omega)
 have HEN:Hid _:=hen;clear hzs hen;obtain⟨ao,ca,rfl⟩:=ho.rd.shape
 go_enter func68,ntmps68
 go_wp2
 go_loopw [7,14] (fun cv kv wr=> ∃(k c:Nat) (cur:List Nat),k≤zs.length∧kv=yi k∧cv= .int .u64 c∧Own wr w0.heap.size 54 .u32 (.slice ao zs.length ca) cur∧LI zs cur sc mo k c∧yB w0 wr) (fun _ kv _=>zs.length-(intOf kv).toNat)
 case atStart=>exact⟨0,mo,zs,Nat.zero_le _,rfl,rfl,ho,⟨rfl,hsm,hmo,fun _ _=>rfl,by simp[Dg.vl]⟩,hb⟩
 case round=>
  clear ho hb;obtain⟨k,c,cur,hk,rfl,rfl,own,hI,bel⟩:=hrel;have hcl:=hI.1;have hc32:=hI.2.2.1
  by_cases hlt:k<zs.length
  ·obtain⟨g,cap,hv,hg1,hg2⟩:=own.shapeOf (by intro e;rw[e] at hcl;simp at hcl;omega)
   simp only[Value.slice.injEq] at hv;obtain⟨rfl,-,rfl⟩:=hv;have hx:=own.c k (by omega);have hf:=own.f k;rw[hI.2.2.2.1 k (Nat.le_refl _)] at hx;have hxl:=hsm k;obtain⟨x,ex⟩: ∃x,zs.getD k 0=x:=⟨_,rfl⟩;rw[ex] at hx hxl;have hst:=Tr hI hlt ex hxl hsc2;have hxy:=uf hxl hsc2;have hxyI:(x:Int)*(sc:Int)≤18446744065119617025:=by rw[←Int.natCast_mul];omega
   have hxy0:0≤(x:Int)*(sc:Int):=by rw[←Int.natCast_mul];omega
   clear ex hcl
   go_wp2
   go_roundw
   case rel=>
    rw[Sd,Se];exact⟨k+1,_,_,by omega,by go_num,rfl,own.store k _,hst,bel.setCell hg1 _⟩
   case measure=>simp[intOf];omega
  ·have hke:k=zs.length:=by omega
   subst hke;have hen:=HEN.out cur c hI;have hcur:cur.length≤1000000:=by omega
   have hbs:=bel.size
   by_cases hc0:c=0
   ·subst hc0
    rw[if_pos rfl] at hen;have own2:=own;rw[hen] at own2;clear hen hcl
    go_wp2
    go_ret
    exact⟨_,rfl,own2,bel⟩
   ·rw[if_neg hc0] at hen
    have HE:Hid _:=hen;have hcp:(0:Int)< (c:Int):=by omega
    clear hen hcl
    go_wp2_with (at_builtin;refine wpList_append_own _ rfl _ _ 57 rfl w0.heap.size 54 i0 (.int .u32 0) 1 4 underlying57 hi hz0 hz1 hz2 rfl (by decide) _ _ _ rfl (World.ownsRow.alloc own _) ⟨wr.heap.size,0,none⟩ 1 1 [.int .u32 c] rfl rfl ?c1 ?c2 ?c3 ?c4 ?c5 ?_)
    case c1=>exact cell_one_new _ _ _
    case c2=>intro u hu;simp at hu;subst hu;rfl
    case c3=>unfold maxLen;omega
    case c4=>omega
    case c5=>simp;omega
    intro v' w3 hown' hgrow _;have R:=Ts bel own hown' hgrow;clear hown' hgrow own;rw[HE.out] at R
    go_wp2
    go_ret
    exact⟨_,rfl,R.1,R.2⟩
theorem Zd (D L G sz ex fam ld o:Int)(gr ng:Bool)(F e f:Nat)(w:World)(h1:((e:Int)==0)=false)(ho:bits .or .u64 f ld=o)
  (hw1:IntKind.i64.wrap (L+(e:Int))=L+(e:Int)) (hw2:IntKind.i64.wrap (L+(e:Int)-1)=L+(e:Int)-1)
  (HL:yJ 145 #[ylV 2 D L G gr sz ex fam F] (.int .u64 ld)):
  yC 99 #[ylV 2 D L G gr sz ex fam F,yfV ng e f] w (yR w (.tuple #[.int .u64 o,yi (L+(e:Int)-1)])):=by
 replace HL:Hid _:=HL;have hsf:=cD;have l0:=(ah w (ylL 2 D L G gr sz ex fam F) 110).l (af _ (.cells (yfA ng e f) 112));have m0:=ah (w.alloc (.cells (ylA 2 D L G gr sz ex fam F) 110)) (yfL ng e f) 112;have b0:=aa (af w (.cells (ylA 2 D L G gr sz ex fam F) 110)) (af _ (.cells (yfA ng e f) 112));rw[World.size_alloc] at m0;obtain⟨x0,x1,x2,x3,x4,x5,x6,x7,x8⟩:=l0.cs9;obtain⟨u0,u1,u2⟩:=m0.cs3
 go_enter func99,ntmps99
 go_wp2_with fail
 go_region_held3 (fun wq=>(wq.cell? ⟨w.heap.size,0,none⟩=some (yi 2)∧wq.cell? ⟨w.heap.size,1,none⟩=some (yi D)∧wq.cell? ⟨w.heap.size,2,none⟩=some (yi L)∧wq.cell? ⟨w.heap.size,3,none⟩=some (yi G)∧wq.cell? ⟨w.heap.size,4,none⟩=some (.bool gr)∧wq.cell? ⟨w.heap.size,5,none⟩=some (yi sz)∧wq.cell? ⟨w.heap.size,6,none⟩=some (yi ex)∧wq.cell? ⟨w.heap.size,7,none⟩=some (yi fam)∧wq.cell? ⟨w.heap.size,8,none⟩=some (.func (.func F) #[] #[]))∧(wq.cell? ⟨w.heap.size+1,0,none⟩=some (.bool ng)∧wq.cell? ⟨w.heap.size+1,1,none⟩=some (yi e)∧wq.cell? ⟨w.heap.size+1,2,none⟩=some (.int .u64 f))) (go_keep) (first
  | (go_at_call 145;refine(HL.out _).mono ?_;rintro z w2 ⟨rfl,b2⟩;have l2:=l0.drew.l b2;have m2:=m0.drew.l b2;have b02:=aa b0.drew b2;obtain⟨y0,y1,y2,y3,y4,y5,y6,y7,y8⟩:=l2.cs9;obtain⟨v0,v1,v2⟩:=m2.cs3))
 all_goals go_wp2
 all_goals go_ret2
 all_goals exact⟨by first|rfl|simp[Act.put],b02⟩
theorem MN (R D L G:Int)(gr:Bool)(sz ex:Nat)(F:Nat)(w:World)(on wr:Nat)
  (Hones:yJ 165 #[ylV R D L G gr sz ex 1 F] (yi on))
  (Hwritten:yJ 166 #[ylV R D L G gr sz ex 1 F] (.int .u64 wr)):yC 130 #[ylV R D L G gr sz ex 1 F,yi 3] w (yR w (.tuple #[yfV false on wr,.bool true])):=by
 have hsf:=cD;have bf:=af (w.alloc (.cells (ylA R D L G gr sz ex 1 F) 110)) (.cells (yfA false 0 0) 112);have l0:=(ah w (ylL R D L G gr sz ex 1 F) 110).l bf;have m0:=ah (w.alloc (.cells (ylA R D L G gr sz ex 1 F) 110)) (yfL false 0 0) 112;have b0:=aa (af w (.cells (ylA R D L G gr sz ex 1 F) 110)) bf;rw[World.size_alloc] at m0;clear bf;obtain⟨x0,x1,x2,x3,x4,x5,x6,x7,x8⟩:=l0.cs9;obtain⟨u0,u1,u2⟩:=m0.cs3;have j0:=m0.f 0;have j1:=m0.f 1;have j2:=m0.f 2;have Hones':Hid _:=Hones;have Hwritten':Hid _:=Hwritten;have CX:XU w (ylL R D L G gr sz ex 1 F) _:=⟨l0.drew,m0.drew,b0.drew⟩;clear l0 m0 b0 Hones Hwritten
 go_enter func130,ntmps130
 go_wp2_with fail
 go_region_held3 (fun wq=>wq.cell? ⟨w.heap.size,0,none⟩=some (yi R)∧wq.cell? ⟨w.heap.size,1,none⟩=some (yi D)∧wq.cell? ⟨w.heap.size,2,none⟩=some (yi L)∧wq.cell? ⟨w.heap.size,3,none⟩=some (yi G)∧wq.cell? ⟨w.heap.size,4,none⟩=some (.bool gr)∧wq.cell? ⟨w.heap.size,5,none⟩=some (yi sz)∧wq.cell? ⟨w.heap.size,6,none⟩=some (yi ex)∧wq.cell? ⟨w.heap.size,7,none⟩=some (yi 1)∧wq.cell? ⟨w.heap.size,8,none⟩=some (.func (.func F) #[] #[])) (go_keep) (first
  | (go_at_call 165;refine(Hones'.out _).mono ?_;rintro z wones ⟨rfl,bb⟩;have CY:=CX.l bb;clear CX;have CX:=CY;clear CY bb;obtain⟨lq,mq,-⟩:=id CX;obtain⟨x0,x1,x2,x3,x4,x5,x6,x7,x8⟩:=lq.cs9;obtain⟨u0,u1,u2⟩:=mq.cs3;have j0:=mq.f 0;have j1:=mq.f 1;have j2:=mq.f 2;clear lq mq)
  | (go_at_call 166;refine(Hwritten'.out _).mono ?_;rintro z wwritten ⟨rfl,bb⟩;have CY:=CX.l bb;clear CX;have CX:=CY;clear CY bb;obtain⟨lq,mq,-⟩:=id CX;obtain⟨x0,x1,x2,x3,x4,x5,x6,x7,x8⟩:=lq.cs9;obtain⟨u0,u1,u2⟩:=mq.cs3;have j0:=mq.f 0;have j1:=mq.f 1;have j2:=mq.f 2;clear lq mq))
 have mz:=CX.m;have bz:=CX.b;have bu:=((ag wwritten (w.heap.size+1) 0 (.bool false)).trans (ag _ (w.heap.size+1) 1 (yi on))).trans (ag _ (w.heap.size+1) 2 (.int .u64 wr));have cR:au (((wwritten.setCell ⟨w.heap.size+1,0,none⟩ (.bool false)).setCell ⟨w.heap.size+1,1,none⟩ (yi on)).setCell ⟨w.heap.size+1,2,none⟩ (.int .u64 wr)) (w.heap.size+1) 112 (yfL false on wr):=(((mz.set 0 (.bool false)).set 1 (yi on)).set 2 (.int .u64 wr));have bR:=bu.below bz (by omega);have hl:=run_loadVar_mid (P:=Tryz.prog) _ (w.heap.size+1) 0 112 (yfL false on wr) _ cR.range underlying112 rfl (by kernel_rfl);have HH:Hid (_∧_):=⟨hl,bR⟩;clear hl bR cR bu;clear mz bz CX
 go_wp2
 obtain⟨hl,bR⟩:=HH.out;exact bodyPost_ret (aj results130 rfl rfl hl) rfl ⟨rfl,bR⟩
theorem Ob (R D L G:Int)(gr:Bool)(qs:Bool)(no:Option Addr)(nl nc:Nat)(eo:Option Addr)(el ec:Nat)(E way:Int)(c:Int)(fv:Value)(fn:FuncId)(isf z:Bool)(PT:fz)(ac:Int)(at_:fz)(w:World)
  (hfv:isf=true→fv= .func (.func fn) #[] #[]) (hfn:isf=false→fv= .nilFunc) (hz:((nl:Int)==0)=z)
  (HB: ¬c=0→ac=c∧at_=oI) (HK:c=0→isf=false→ac=6∧at_=oI) (HZ:c=0→isf=true→z=true→ac=0∧at_=⟨false,0,0,true,false,false⟩) (HG:c=0→isf=true→z=false→ac=0∧at_=PT)
  (HW:yH w 75 #[yrV qs (.slice no nl nc) (.slice eo el ec) E,ygV R D L G gr] (yi c))
  (HL: ∀w1 r,w1.heap[r]? =some (.map Yd 5)→(Instr.lookup 142 (.map (some r)) (yi way) false).run Tryz.prog w1= .ok fv w1)
  (HR:c=0→isf=true→z=false→ ∀w1,yB w w1→yC 77 #[ygV R D L G gr,yrV qs (.slice no nl nc) (.slice eo el ec) E,.func (.func fn) #[] #[]] w1 (Fk w1 PT)):
  yC 39 #[yrV qs (.slice no nl nc) (.slice eo el ec) E,ygV R D L G gr,yi way] w (sq w ac at_):=by
 replace HB:Hid _:=HB;replace HK:Hid _:=HK;replace HZ:Hid _:=HZ;replace HG:Hid _:=HG;replace HW:Hid _:=HW;replace HL:Hid _:=HL;replace HR:Hid _:=HR;replace hfv:Hid _:=hfv;replace hfn:Hid _:=hfn;have HWY:Hid _:=Ye;have b1:=aa (aa (af w (.cells (yrA qs (.slice no nl nc) (.slice eo el ec) E) 60)) (af _ (.cells (ygA R D L G gr) 82))) (af _ (.cells (ypA false yN 0 false false false) 84));have q1:=((ah w (yrL qs (.slice no nl nc) (.slice eo el ec) E) 60).l (af _ (.cells (ygA R D L G gr) 82))).l (af _ (.cells (ypA false yN 0 false false false) 84));have g1:=(ah (w.alloc (.cells (yrA qs (.slice no nl nc) (.slice eo el ec) E) 60)) (ygL R D L G gr) 82).l (af _ (.cells (ypA false yN 0 false false false) 84));have c1:=ah ((w.alloc (.cells (yrA qs (.slice no nl nc) (.slice eo el ec) E) 60)).alloc (.cells (ygA R D L G gr) 82)) (ypL false yN 0 false false false) 84;simp only[World.size_alloc] at g1 c1;obtain⟨x0,x1,x2,x3⟩:=q1.cs4;obtain⟨y0,y1,y2,y3,y4⟩:=g1.cs5;have en:=fun w1=>Oa (P:=Tryz.prog) w1 underlying141
 have ef:=fun w1=>Rq (P:=Tryz.prog) w1 underlying141 (.func fn) #[] #[]
 go_enter func39,ntmps39
 go_wp2_with fail
 refine(HW.out _ b1).mono ?_;rintro z wa ⟨rfl,bb2⟩;have q_2:=q1.l bb2;have g_2:=g1.l bb2;have c_2:=c1.l bb2;have b0_2:=aa b1 bb2;clear q1 g1 c1 b1 bb2;clear x0 x1 x2 x3 y0 y1 y2 y3 y4
 by_cases hc:c=0
 ·have HK2:Hid _:=HK.out hc
  have HZ2:Hid _:=HZ.out hc;have HG2:Hid _:=HG.out hc;have HR2:Hid _:=HR.out hc;clear HB HK HZ HG HR;subst hc
  go_wp2_with fail
  refine(HWY.out _).mono ?_;rintro z wb ⟨rfl,hm,bb3⟩;have q_3:=q_2.l bb3;have g_3:=g_2.l bb3;have c_3:=c_2.l bb3;have b0_3:=aa b0_2 bb3;clear q_2 g_2 c_2 b0_2 bb3;have hl:=HL.out wb _ hm;clear hm
  cases isf
  ·have hf:=hfn.out rfl
   have HF:Hid _:=HK2.out rfl;clear HK2 HZ2 HG2 HR2 hfn hfv;subst hf;have s0:=c_3.c 0 rfl;have f0:=c_3.f 0;have s1:=c_3.c 1 rfl;have f1:=c_3.f 1;have s2:=c_3.c 2 rfl;have f2:=c_3.f 2;have s3:=c_3.c 3 rfl;have f3:=c_3.f 3;have s4:=c_3.c 4 rfl;have f4:=c_3.f 4;have s5:=c_3.c 5 rfl;have f5:=c_3.f 5
   go_wp2
   have bu:But (w.heap.size+1+1) wb ((((((wb.setCell ⟨w.heap.size+1+1,0,none⟩ (.bool false)).setCell ⟨w.heap.size+1+1,1,none⟩ yN).setCell ⟨w.heap.size+1+1,2,none⟩ (yi 0)).setCell ⟨w.heap.size+1+1,3,none⟩ (.bool false)).setCell ⟨w.heap.size+1+1,4,none⟩ (.bool false)).setCell ⟨w.heap.size+1+1,5,none⟩ (.bool false)):=(((((ag wb (w.heap.size+1+1) 0 (.bool false)).trans (ag _ (w.heap.size+1+1) 1 yN)).trans (ag _ (w.heap.size+1+1) 2 (yi 0))).trans (ag _ (w.heap.size+1+1) 3 (.bool false))).trans (ag _ (w.heap.size+1+1) 4 (.bool false))).trans (ag _ (w.heap.size+1+1) 5 (.bool false));have cR:au ((((((wb.setCell ⟨w.heap.size+1+1,0,none⟩ (.bool false)).setCell ⟨w.heap.size+1+1,1,none⟩ yN).setCell ⟨w.heap.size+1+1,2,none⟩ (yi 0)).setCell ⟨w.heap.size+1+1,3,none⟩ (.bool false)).setCell ⟨w.heap.size+1+1,4,none⟩ (.bool false)).setCell ⟨w.heap.size+1+1,5,none⟩ (.bool false)) (w.heap.size+1+1) 84 (ypL false yN 0 false false false):=(((((c_3.set 0 (.bool false)).set 1 yN).set 2 (yi 0)).set 3 (.bool false)).set 4 (.bool false)).set 5 (.bool false);have bR:=bu.below b0_3 (show w.heap.size≤w.heap.size+1+1 by omega)
   clear bu s0 s1 s2 s3 s4 s5 f0 f1 f2 f3 f4 f5 q_3 g_3 c_3;generalize((((((wb.setCell ⟨w.heap.size+1+1,0,none⟩ (.bool false)).setCell ⟨w.heap.size+1+1,1,none⟩ yN).setCell ⟨w.heap.size+1+1,2,none⟩ (yi 0)).setCell ⟨w.heap.size+1+1,3,none⟩ (.bool false)).setCell ⟨w.heap.size+1+1,4,none⟩ (.bool false)).setCell ⟨w.heap.size+1+1,5,none⟩ (.bool false))=WR at cR bR⊢;obtain⟨s0,s1,s2,s3,s4,s5⟩:=cR.cs6;rw[HF.out.1,HF.out.2]
   show bodyPost _ _ _ .ret _ _
   refine bodyPost_ret (v:= .tuple #[ypV false yN 0 false false false,yi 6]) (by simp[results,results39,go_sem,s0,s1,s2,s3,s4,s5]) rfl ?_;exact⟨_,rfl,aQ _ _ _ _,bR⟩
  ·have hf:=hfv.out rfl
   have HZ3:Hid _:=HZ2.out rfl;have HG3:Hid _:=HG2.out rfl;have HR3:Hid _:=HR2.out rfl;clear HK2 HZ2 HG2 HR2 hfn hfv;subst hf;have x1:=q_3.c 1 rfl
   cases z
   ·have HF:Hid _:=HG3.out rfl
    have HRF:Hid _:=HR3.out rfl;clear HZ3 HG3 HR3;have x0:=q_3.c 0 rfl;have x2:=q_3.c 2 rfl;have x3:=q_3.c 3 rfl;obtain⟨y0,y1,y2,y3,y4⟩:=g_3.cs5;have hwb:=b0_3.size
    go_wp2_with fail
    refine(HRF.out _ b0_3).mono ?_;rintro z wc ⟨v,rfl,ou,bb4⟩;have q_4:=q_3.l bb4;have g_4:=g_3.l bb4;have c_4:=c_3.l bb4;have b0_4:=aa b0_3 bb4;clear q_3 g_3 c_3 b0_3 bb4;clear x0 x1 x2 x3 y0 y1 y2 y3 y4;obtain⟨uo,uk,hv⟩:=ou.rd.shape;subst hv;obtain⟨lu,hlu⟩: ∃x,(Dg.dg 4294967296 PT.d).length=x:=⟨_,rfl⟩;rw[hlu] at ou;rw[hlu];clear hlu;have s0:=c_4.c 0 rfl;have f0:=c_4.f 0;have s1:=c_4.c 1 rfl;have f1:=c_4.f 1;have s2:=c_4.c 2 rfl;have f2:=c_4.f 2;have s3:=c_4.c 3 rfl;have f3:=c_4.f 3;have s4:=c_4.c 4 rfl;have f4:=c_4.f 4;have s5:=c_4.c 5 rfl;have f5:=c_4.f 5
    go_wp2
    have bu:But (w.heap.size+1+1) wc ((((((wc.setCell ⟨w.heap.size+1+1,0,none⟩ (.bool PT.s)).setCell ⟨w.heap.size+1+1,1,none⟩ (.slice uo lu uk)).setCell ⟨w.heap.size+1+1,2,none⟩ (yi PT.p)).setCell ⟨w.heap.size+1+1,3,none⟩ (.bool PT.ex)).setCell ⟨w.heap.size+1+1,4,none⟩ (.bool PT.ov)).setCell ⟨w.heap.size+1+1,5,none⟩ (.bool PT.un)):=(((((ag wc (w.heap.size+1+1) 0 (.bool PT.s)).trans (ag _ (w.heap.size+1+1) 1 (.slice uo lu uk))).trans (ag _ (w.heap.size+1+1) 2 (yi PT.p))).trans (ag _ (w.heap.size+1+1) 3 (.bool PT.ex))).trans (ag _ (w.heap.size+1+1) 4 (.bool PT.ov))).trans (ag _ (w.heap.size+1+1) 5 (.bool PT.un));have cR:au ((((((wc.setCell ⟨w.heap.size+1+1,0,none⟩ (.bool PT.s)).setCell ⟨w.heap.size+1+1,1,none⟩ (.slice uo lu uk)).setCell ⟨w.heap.size+1+1,2,none⟩ (yi PT.p)).setCell ⟨w.heap.size+1+1,3,none⟩ (.bool PT.ex)).setCell ⟨w.heap.size+1+1,4,none⟩ (.bool PT.ov)).setCell ⟨w.heap.size+1+1,5,none⟩ (.bool PT.un)) (w.heap.size+1+1) 84 (ypL PT.s (.slice uo lu uk) PT.p PT.ex PT.ov PT.un):=(((((c_4.set 0 (.bool PT.s)).set 1 (.slice uo lu uk)).set 2 (yi PT.p)).set 3 (.bool PT.ex)).set 4 (.bool PT.ov)).set 5 (.bool PT.un);have bR:=bu.below b0_4 (show w.heap.size≤w.heap.size+1+1 by omega)
    have oR:=bu.own (ou.lower hwb) c_4 (by decide);clear bu s0 s1 s2 s3 s4 s5 f0 f1 f2 f3 f4 f5 q_4 g_4 c_4;generalize((((((wc.setCell ⟨w.heap.size+1+1,0,none⟩ (.bool PT.s)).setCell ⟨w.heap.size+1+1,1,none⟩ (.slice uo lu uk)).setCell ⟨w.heap.size+1+1,2,none⟩ (yi PT.p)).setCell ⟨w.heap.size+1+1,3,none⟩ (.bool PT.ex)).setCell ⟨w.heap.size+1+1,4,none⟩ (.bool PT.ov)).setCell ⟨w.heap.size+1+1,5,none⟩ (.bool PT.un))=WR at cR bR oR⊢;obtain⟨s0,s1,s2,s3,s4,s5⟩:=cR.cs6;rw[HF.out.1,HF.out.2]
    show bodyPost _ _ _ .ret _ _
    refine bodyPost_ret (v:= .tuple #[ypV PT.s (.slice uo lu uk) PT.p PT.ex PT.ov PT.un,yi 0]) (by simp[results,results39,go_sem,s0,s1,s2,s3,s4,s5]) rfl ?_;exact⟨_,rfl,oR,bR⟩
   ·have HF:Hid _:=HZ3.out rfl
    clear HZ3 HG3 HR3;have s0:=c_3.c 0 rfl;have f0:=c_3.f 0;have s1:=c_3.c 1 rfl;have f1:=c_3.f 1;have s2:=c_3.c 2 rfl;have f2:=c_3.f 2;have s3:=c_3.c 3 rfl;have f3:=c_3.f 3;have s4:=c_3.c 4 rfl;have f4:=c_3.f 4;have s5:=c_3.c 5 rfl;have f5:=c_3.f 5
    go_wp2
    have bu:But (w.heap.size+1+1) wb ((((((wb.setCell ⟨w.heap.size+1+1,0,none⟩ (.bool false)).setCell ⟨w.heap.size+1+1,1,none⟩ yN).setCell ⟨w.heap.size+1+1,2,none⟩ (yi 0)).setCell ⟨w.heap.size+1+1,3,none⟩ (.bool true)).setCell ⟨w.heap.size+1+1,4,none⟩ (.bool false)).setCell ⟨w.heap.size+1+1,5,none⟩ (.bool false)):=(((((ag wb (w.heap.size+1+1) 0 (.bool false)).trans (ag _ (w.heap.size+1+1) 1 yN)).trans (ag _ (w.heap.size+1+1) 2 (yi 0))).trans (ag _ (w.heap.size+1+1) 3 (.bool true))).trans (ag _ (w.heap.size+1+1) 4 (.bool false))).trans (ag _ (w.heap.size+1+1) 5 (.bool false));have cR:au ((((((wb.setCell ⟨w.heap.size+1+1,0,none⟩ (.bool false)).setCell ⟨w.heap.size+1+1,1,none⟩ yN).setCell ⟨w.heap.size+1+1,2,none⟩ (yi 0)).setCell ⟨w.heap.size+1+1,3,none⟩ (.bool true)).setCell ⟨w.heap.size+1+1,4,none⟩ (.bool false)).setCell ⟨w.heap.size+1+1,5,none⟩ (.bool false)) (w.heap.size+1+1) 84 (ypL false yN 0 true false false):=(((((c_3.set 0 (.bool false)).set 1 yN).set 2 (yi 0)).set 3 (.bool true)).set 4 (.bool false)).set 5 (.bool false);have bR:=bu.below b0_3 (show w.heap.size≤w.heap.size+1+1 by omega)
    clear bu s0 s1 s2 s3 s4 s5 f0 f1 f2 f3 f4 f5 q_3 g_3 c_3;generalize((((((wb.setCell ⟨w.heap.size+1+1,0,none⟩ (.bool false)).setCell ⟨w.heap.size+1+1,1,none⟩ yN).setCell ⟨w.heap.size+1+1,2,none⟩ (yi 0)).setCell ⟨w.heap.size+1+1,3,none⟩ (.bool true)).setCell ⟨w.heap.size+1+1,4,none⟩ (.bool false)).setCell ⟨w.heap.size+1+1,5,none⟩ (.bool false))=WR at cR bR⊢;obtain⟨s0,s1,s2,s3,s4,s5⟩:=cR.cs6;rw[HF.out.1,HF.out.2]
    show bodyPost _ _ _ .ret _ _
    refine bodyPost_ret (v:= .tuple #[ypV false yN 0 true false false,yi 0]) (by simp[results,results39,go_sem,s0,s1,s2,s3,s4,s5]) rfl ?_;exact⟨_,rfl,aQ _ _ _ _,bR⟩
 ·have hcf:(c==0)=false:=by simp;exact hc
  have HF:Hid _:=HB.out hc;clear hc HB HK HZ HG HR;have s0:=c_2.c 0 rfl;have f0:=c_2.f 0;have s1:=c_2.c 1 rfl;have f1:=c_2.f 1;have s2:=c_2.c 2 rfl;have f2:=c_2.f 2;have s3:=c_2.c 3 rfl;have f3:=c_2.f 3;have s4:=c_2.c 4 rfl;have f4:=c_2.f 4;have s5:=c_2.c 5 rfl;have f5:=c_2.f 5
  go_wp2
  have bu:But (w.heap.size+1+1) wa ((((((wa.setCell ⟨w.heap.size+1+1,0,none⟩ (.bool false)).setCell ⟨w.heap.size+1+1,1,none⟩ yN).setCell ⟨w.heap.size+1+1,2,none⟩ (yi 0)).setCell ⟨w.heap.size+1+1,3,none⟩ (.bool false)).setCell ⟨w.heap.size+1+1,4,none⟩ (.bool false)).setCell ⟨w.heap.size+1+1,5,none⟩ (.bool false)):=(((((ag wa (w.heap.size+1+1) 0 (.bool false)).trans (ag _ (w.heap.size+1+1) 1 yN)).trans (ag _ (w.heap.size+1+1) 2 (yi 0))).trans (ag _ (w.heap.size+1+1) 3 (.bool false))).trans (ag _ (w.heap.size+1+1) 4 (.bool false))).trans (ag _ (w.heap.size+1+1) 5 (.bool false));have cR:au ((((((wa.setCell ⟨w.heap.size+1+1,0,none⟩ (.bool false)).setCell ⟨w.heap.size+1+1,1,none⟩ yN).setCell ⟨w.heap.size+1+1,2,none⟩ (yi 0)).setCell ⟨w.heap.size+1+1,3,none⟩ (.bool false)).setCell ⟨w.heap.size+1+1,4,none⟩ (.bool false)).setCell ⟨w.heap.size+1+1,5,none⟩ (.bool false)) (w.heap.size+1+1) 84 (ypL false yN 0 false false false):=(((((c_2.set 0 (.bool false)).set 1 yN).set 2 (yi 0)).set 3 (.bool false)).set 4 (.bool false)).set 5 (.bool false);have bR:=bu.below b0_2 (show w.heap.size≤w.heap.size+1+1 by omega)
  clear bu s0 s1 s2 s3 s4 s5 f0 f1 f2 f3 f4 f5 q_2 g_2 c_2;generalize((((((wa.setCell ⟨w.heap.size+1+1,0,none⟩ (.bool false)).setCell ⟨w.heap.size+1+1,1,none⟩ yN).setCell ⟨w.heap.size+1+1,2,none⟩ (yi 0)).setCell ⟨w.heap.size+1+1,3,none⟩ (.bool false)).setCell ⟨w.heap.size+1+1,4,none⟩ (.bool false)).setCell ⟨w.heap.size+1+1,5,none⟩ (.bool false))=WR at cR bR⊢;obtain⟨s0,s1,s2,s3,s4,s5⟩:=cR.cs6;rw[HF.out.1,HF.out.2]
  show bodyPost _ _ _ .ret _ _
  refine bodyPost_ret (v:= .tuple #[ypV false yN 0 false false false,yi c]) (by simp[results,results39,go_sem,s0,s1,s2,s3,s4,s5]) rfl ?_;exact⟨_,rfl,aQ _ _ _ _,bR⟩
theorem abe (n R D L G c p:Int)(gr ng:Bool)(m:Nat)(t:ak)(s:ByteArray)(w:World)
  (HG:yJ 42 #[yi n] (.tuple #[ygV R D L G gr,yi 0]))
  (HD: ∀w1,yC 20 #[yi n,.string s] w1 (eP w1 c ng m p 0))
  (HN: ∀vo vc w1,yB w w1→Rd w1 .u32 (yT vo m vc) (Dg.dg 4294967296 m)→yC 84 #[yvV c ng (yT vo m vc) p,ygV R D L G gr] w1 (acy w1 t)):
  yC 45 #[yi n,.string s] w (Ys w c ng m p t 0):=by
 replace HG:Hid _:=HG;replace HD:Hid _:=HD;replace HN:Hid _:=HN;have bv:=af w (.cells (yvA 0 false yN 0) 48);have bx:=af (w.alloc (.cells (yvA 0 false yN 0) 48)) (.cells (ydA false yN 0) 78);have v0:=(ah w (yvL 0 false yN 0) 48).l bx;have x0:=ah (w.alloc (.cells (yvA 0 false yN 0) 48)) (ydL false yN 0) 78;have b0:=aa bv bx;rw[World.size_alloc] at x0;clear bv bx
 go_enter func45,ntmps45
 go_upto_region 1 with fail
 generalize(w.alloc (.cells (yvA 0 false yN 0) 48)).alloc (.cells (ydA false yN 0) 78)=W0 at v0 x0 b0⊢
 go_wp2_with fail
 refine(HG.out _).mono ?_;rintro z w1 ⟨rfl,b1⟩;have bg:=af w1 (.cells (ygA R D L G gr) 82);have g1:=ah w1 (ygL R D L G gr) 82;have v1:=(v0.l b1).l bg;have x1:=(x0.l b1).l bg;have b01:=aa (aa b0 b1) bg;have hlG:w.heap.size+1<w1.heap.size:=(x0.l b1).lt
 go_upto_region 4 with fail
 generalize w1.alloc (.cells (ygA R D L G gr) 82)=WG at g1 v1 x1 b01⊢;generalize w1.heap.size=PG at g1 hlG⊢;clear v0 x0 b0 b1 bg HG
 go_wp2_with fail
 refine(HD.out _).mono ?_;rintro z w2 ⟨vv,rfl,r2,b2⟩;obtain⟨vo,vc,hv⟩:=r2.shape;subst hv;have bl:=af w2 (.cells (yvA c ng (yT vo m vc) p) 48);have q2:=ah w2 (yvL c ng (yT vo m vc) p) 48;have g2:=(g1.l b2).l bl;have v2:=(v1.l b2).l bl;have x2:=(x1.l b2).l bl;have rr:=r2.l bl;have b02:=aa (aa b01 b2) bl;have hlQ:PG<w2.heap.size:=(g1.l b2).lt
 go_upto_region 7 with fail
 generalize w2.alloc (.cells (yvA c ng (yT vo m vc) p) 48)=W2 at q2 g2 v2 x2 rr b02⊢;generalize w2.heap.size=PQ at q2 hlQ⊢;clear v1 x1 g1 b01 b2 bl r2 HD;have qd:=q2.drew;have gd:=g2.drew;have vd:=v2.drew;have xd:=x2.drew;have rd:=Rd.l rr ((Below.refl _ _).drew);have n1:w.heap.size≠PG:=by omega
 have n2:w.heap.size+1≠PG:=by omega
 have n3:w.heap.size≠PQ:=by omega
 have n4:w.heap.size+1≠PQ:=by omega
 have bd:=b02.drew;obtain⟨a0,a1,a2,a3⟩:=q2.cs4;obtain⟨y0,y1,y2,y3,y4⟩:=g2.cs5
 go_region_held3 (fun wq=>(wq.cell? ⟨PQ,0,none⟩=some (yi c)∧wq.cell? ⟨PQ,1,none⟩=some (.bool ng)∧wq.cell? ⟨PQ,2,none⟩=some (yT vo m vc)∧wq.cell? ⟨PQ,3,none⟩=some (yi p))∧(wq.cell? ⟨PG,0,none⟩=some (yi R)∧wq.cell? ⟨PG,1,none⟩=some (yi D)∧wq.cell? ⟨PG,2,none⟩=some (yi L)∧wq.cell? ⟨PG,3,none⟩=some (yi G)∧wq.cell? ⟨PG,4,none⟩=some (.bool gr))) (go_keep) (first
  | (go_at_call 84;refine(HN.out _ _ _ bd rd).mono ?_;rintro z w3 ⟨sv,rfl,r4,fx,b3⟩;obtain⟨so,sc,hs⟩:=r4.shape;subst hs;have q3:=qd.l b3;have g3:=gd.l b3;have v3:=vd.l b3;have x3:=xd.l b3;have r3:=rd.l b3;have b03:=aa bd b3;obtain⟨c0,c1,c2,c3⟩:=q3.cs4;obtain⟨d0,d1,d2,d3,d4⟩:=g3.cs5;obtain⟨e0,e1,e2,e3⟩:=v3.cs4;obtain⟨k0,k1,k2⟩:=x3.cs3;have f0:=v3.f 0;have f1:=v3.f 1;have f2:=v3.f 2;have f3:=v3.f 3;have g0:=x3.f 0;have g1:=x3.f 1;have g2:=x3.f 2))
 all_goals
  have cV:au (((((((w3.setCell ⟨w.heap.size,0,none⟩ (yi c)).setCell ⟨w.heap.size,1,none⟩ (.bool ng)).setCell ⟨w.heap.size,2,none⟩ (yT vo m vc)).setCell ⟨w.heap.size,3,none⟩ (yi p)).setCell ⟨w.heap.size+1,0,none⟩ (.bool t.s)).setCell ⟨w.heap.size+1,1,none⟩ (yT so t.n sc)).setCell ⟨w.heap.size+1,2,none⟩ (yi t.e)) w.heap.size 48 (yvL c ng (yT vo m vc) p):=(((((((v3.set 0 (yi c)).set 1 (.bool ng)).set 2 (yT vo m vc)).set 3 (yi p)).off (show w.heap.size+1≠w.heap.size by omega) 0 (.bool t.s)).off (show w.heap.size+1≠w.heap.size by omega) 1 (yT so t.n sc)).off (show w.heap.size+1≠w.heap.size by omega) 2 (yi t.e))
  have cX:au (((((((w3.setCell ⟨w.heap.size,0,none⟩ (yi c)).setCell ⟨w.heap.size,1,none⟩ (.bool ng)).setCell ⟨w.heap.size,2,none⟩ (yT vo m vc)).setCell ⟨w.heap.size,3,none⟩ (yi p)).setCell ⟨w.heap.size+1,0,none⟩ (.bool t.s)).setCell ⟨w.heap.size+1,1,none⟩ (yT so t.n sc)).setCell ⟨w.heap.size+1,2,none⟩ (yi t.e)) (w.heap.size+1) 78 (yDL t so sc):=(((((((x3.off (show w.heap.size≠w.heap.size+1 by omega) 0 (yi c)).off (show w.heap.size≠w.heap.size+1 by omega) 1 (.bool ng)).off (show w.heap.size≠w.heap.size+1 by omega) 2 (yT vo m vc)).off (show w.heap.size≠w.heap.size+1 by omega) 3 (yi p)).set 0 (.bool t.s)).set 1 (yT so t.n sc)).set 2 (yi t.e))
  have cX0:=((((x3.off (show w.heap.size≠w.heap.size+1 by omega) 0 (yi c)).off (show w.heap.size≠w.heap.size+1 by omega) 1 (.bool ng)).off (show w.heap.size≠w.heap.size+1 by omega) 2 (yT vo m vc)).off (show w.heap.size≠w.heap.size+1 by omega) 3 (yi p))
  have bu1:=(((ag w3 w.heap.size 0 (yi c)).trans (ag _ w.heap.size 1 (.bool ng))).trans (ag _ w.heap.size 2 (yT vo m vc))).trans (ag _ w.heap.size 3 (yi p));have bu2:=((ag ((((w3.setCell ⟨w.heap.size,0,none⟩ (yi c)).setCell ⟨w.heap.size,1,none⟩ (.bool ng)).setCell ⟨w.heap.size,2,none⟩ (yT vo m vc)).setCell ⟨w.heap.size,3,none⟩ (yi p)) (w.heap.size+1) 0 (.bool t.s)).trans (ag _ (w.heap.size+1) 1 (yT so t.n sc))).trans (ag _ (w.heap.size+1) 2 (yi t.e));have bR:=bu2.below (bu1.below b03 (Nat.le_refl _)) (by omega);have rV1:=bu1.rd r3 (aX r3 v3 (by simp));have rV:=bu2.rd rV1 (aX rV1 cX0 (by simp));have rX1:=bu1.rd r4 (aX r4 v3 (by simp));have rX:=bu2.rd rX1 (aX rX1 cX0 (by simp));have hl1:=run_loadVar_mid (P:=Tryz.prog) _ w.heap.size 0 48 (yvL c ng (yT vo m vc) p) _ cV.range underlying48 rfl (by kernel_rfl);have hl2:=run_loadVar_mid (P:=Tryz.prog) _ (w.heap.size+1) 0 78 (yDL t so sc) _ cX.range underlying78 rfl (by kernel_rfl);have HH:Hid (_∧_∧_∧_∧_):=⟨hl1,hl2,rV,rX,bR⟩;clear hl1 hl2 bR bu1 bu2 cV cX cX0 rV rV1 rX rX1;clear v3 x3 r3 r4 b03 q3 g3
  go_wp2
  obtain⟨hl1,hl2,rV,rX,bR⟩:=HH.out;exact bodyPost_ret (kg results45 rfl rfl rfl hl1 hl2) rfl ⟨_,_,rfl,rV,rX,(fun a n c hv=>Nat.le_trans bd.size (fx a n c hv)),bR⟩
theorem Kc (va:Value)(n L:Nat)(w:World)(ha:Rd w .i64 va (Dg.dg 65536 n))(hL:(Dg.dg 65536 n).length≤L)(hLl:L≤100000):
  yC 9 #[va] w (yR w (.string (oW n))):=by
 have hnl:n<65536^L:=by
  have:=Dg.vl_lt 65536 (Dg.dg 65536 n) (Dg.small_dg _ _ (by omega));rw[Dg.vl_dg _ _ (by omega)] at this;exact Nat.lt_of_lt_of_le this (Nat.pow_le_pow_right (by omega) hL)
 have HNL:Hid (n<65536^L):=hnl;clear hnl;obtain⟨ao,ca,rfl⟩:=ha.shape
 go_enter func9,ntmps9
 go_wp2
 go_loopg [0,3] n (fun m av sv wr=>afk w L n m av sv wr)
 case atStart=>exact⟨[],_,ha,rfl,rfl,⟨Dg.small_nil _ (by omega),by simp[Dg.vl]⟩,by simp,hL,Below.refl _ _⟩
 case round=>
  obtain⟨ds,S,hr,rfl,hS,hO,hdl,hml,bel⟩:=hrel;obtain⟨ao2,ca2,rfl⟩:=hr.shape;have a1:yB wr (wr.alloc (.cells #[yi 10000] 3)):=(Below.refl _ _).alloc (Nat.le_refl _) _;have r1:=cE (w:=wr) (k:= .i64) (e:=3) [10000] #[yi 10000] rfl (by unfold maxLen;simp);have hin:=IU _ _ _ 10000 _ (hr.l a1) r1 (Dg.small_dg _ _ (by omega)) (by omega) (by omega) (by omega);rw[Dg.vl_dg _ _ (by omega)] at hin;simp only[show[10000].length=1 from rfl] at hin
  have hJ:=Pu hO;have hg4:gk % 10000<10000:=Nat.mod_lt _ (by omega);have hone:=Cv (gk % 10000) (by omega);have b1:=aa bel a1;have hSs:S.size=ds.length:=by rw[hS.out,strOf_size8,jL]
  clear r1
  go_wp2_with fail
  refine hin.mono ?_;rintro e w1 ⟨vq,vr,rfl,rq,rr,k1⟩;have b2:=aa b1 k1;clear hin;obtain⟨qo,qc,rfl⟩:=rq.shape;obtain⟨ro,rc,rfl⟩:=rr.shape;have hqn:(Dg.dg 65536 (gk/10000)).length≤L:=Nat.le_trans (aH _ _ _ (by omega) (Nat.div_le_self _ _)) hml;have hqz:=Dg.dg_nil_iff 65536 (gk/10000) (by omega);have hgd: ∀w2,yB w1 w2→gk % 10000≠0→(Dg.dg 65536 (gk % 10000)).length=1∧ ∃b off,ro=some ⟨b,off,none⟩∧w2.cell? ⟨b,off,none⟩=some (yi ((gk % 10000:Nat):Int)):=fun w2 k2 h0=>by
   rw[if_neg h0] at hone;obtain⟨-,-,hc⟩:=iQ rr;rw[hone] at hc⊢;obtain⟨b,off,e,hcell⟩:=hc (by simp);exact⟨rfl,b,off,e,cell_later k2 (by simpa using hcell 0 (by simp))⟩
  have hgz:gk % 10000=0→(Dg.dg 65536 (gk % 10000)).length=0:=fun h0=>by rw[h0];rfl
  obtain⟨g,hg⟩: ∃g,gk % 10000=g:=⟨_,rfl⟩;obtain⟨rl,hrl⟩: ∃rl,(Dg.dg 65536 (gk % 10000)).length=rl:=⟨_,rfl⟩;rw[hrl] at hgd hgz⊢;rw[hg] at hgd hgz hJ hg4;obtain⟨ql,hql⟩: ∃ql,(Dg.dg 65536 (gk/10000)).length=ql:=⟨_,rfl⟩;have HQ:Hid ((Dg.dg 65536 (gk/10000)).length=ql):=hql;have hq0:ql=0↔gk/10000=0:=by
   rw[←hql,←hqz];exact List.length_eq_zero_iff
  rw[hql] at rq hqn⊢;have hqlen:Rd w1 .i64 (.slice qo ql qc) (Dg.dg 65536 (gk/10000)):=rq;have HQ0:Hid (ql=0↔gk/10000=0):=hq0;have HSS:Hid (S.size=ds.length):=hSs;have hslen:S.size≤16*L:=by omega
  clear hone hqz hrl hg hql rr hr hq0 hSs hO a1 bel b1 rq;have fact:g=0∧rl=0∨rl=1∧ ∃b off,ro=some ⟨b,off,none⟩∧w1.cell? ⟨b,off,none⟩=some (yi ((g:Nat):Int)):=by
   by_cases h0:g=0
   ·exact .inl ⟨h0,hgz h0⟩
   ·obtain⟨h1,b,off,e,hc⟩:=hgd w1 (Below.refl _ _) h0
    exact .inr ⟨h1,b,off,e,hc⟩
  clear hgd hgz;have start:acY w w1 n (gk/10000) ds.length (.string S) (yi ((g:Nat):Int)) (yi ((0:Nat):Int)) w1:=⟨ds,S,0,g,rfl,rfl,by omega,by omega,hg4,rfl,hS,by rw[HSS.out];omega,hJ,b2,Below.refl _ _⟩
  rcases fact with⟨h0,hrl⟩| ⟨hrl,b,off,hro,hc⟩
  ·subst h0 hrl
   go_wp2
   go_loopw [3,6,7] (fun sv gv jv wr=>acY w w1 n (gk/10000) ds.length sv gv jv wr) (fun _ _ jv _=>(4-intOf jv).toNat)
   case atStart=>exact start
   case round=>
    clear start hJ b2;obtain⟨es,T,j,g2,rfl,rfl,hj4,hes,hg2,rfl,hT,hTs,hJ2,bel,bq⟩:=hrel;have HTS:Hid (T.size=ds.length+j):=hTs;have HES:Hid (es.length=ds.length+j):=hes;have hTl:T.size≤16*L+4:=by have:=HSS.out;omega
    clear hTs hes
    by_cases hj:j<4
    ·have own1:=So wr 0 5 g2 (Nat.zero_le _)
     have hcv:=lQ 63 9 underlying63 underlying5 underlying9 own1;have hsz1:(cF [48+g2 % 10]).size≤1:=by rw[strOf_size8];simp
     have hcs:cF [48+g2 % 10]++T=cF (txt (es++[g2 % 10])):=by rw[hT.out,EY,Md]
     have hcz:(cF [48+g2 % 10]++T).size=ds.length+(j+1):=by rw[hcs,strOf_size8,jL];have:=HES.out;simp;omega
     obtain⟨C,hC⟩: ∃C,cF [48+g2 % 10]=C:=⟨_,rfl⟩;rw[hC] at hcv hsz1 hcs hcz;have HCS:Hid (C++T=cF (txt (es++[g2 % 10]))):=hcs;have HCZ:Hid ((C++T).size=ds.length+(j+1)):=hcz;have b4:=bq.alloc bq.size (.cells #[.int .u8 (48+(g2:Int) % 10)] 5);have b3:=bel.alloc bel.size (.cells #[.int .u8 (48+(g2:Int) % 10)] 5);clear hC hcs hcz own1
     go_wp2
     go_roundw
     case rel=>exact⟨es++[g2 % 10],C++T,j+1,g2/10,by go_num,by go_num,by omega,by have:=HES.out;simp;omega,by omega,rfl,HCS.out,HCZ.out,IA hJ2 hj,b3,b4⟩
     case measure=>simp[intOf];omega
    ·have hj':j=4:=by omega
     subst hj';have hO2:=Mf hJ2
     by_cases hq:ql=0
     ·subst hq
      have hm0:gk/10000=0:=HQ0.out.1 rfl;rw[hm0] at hO2;obtain⟨E,hE⟩: ∃E,T.size=E:=⟨_,rfl⟩;have HE:Hid (es.length=E):=by show _=_;rw[←hE,HES.out,HTS.out]
      have hE4:4≤E:=by rw[←hE,HTS.out];omega
      have hfin: ∀k,k+1≤es.length→(∀i,i<k→es.getD (es.length-1-i) 0=0)→(k+1=es.length∨es.getD (es.length-1-k) 0≠0)→T.extract k T.size=oW n:=fun k h1 h2 h3=>by
       rw[hT.out,EZ];exact IB hO2 h1 h2 h3
      rw[hE] at hfin hTl;have hix: ∀k,k<es.length→ ∀w,(Instr.index 9 (.string T) (yi (k:Int))).run Tryz.prog w= .ok (.int .u8 ((48+es.getD (es.length-1-k) 0:Nat):Int)) w:=fun k hk w=>by
       have hks:k<T.size:=by rw[hE,←HE.out];exact hk
       rw[run_index_string w 9 T .i64 (k:Int) underlying9,dif_pos ⟨by omega,by omega⟩]
       congr 3
       have hts:k< (cF (txt es)).size:=by rw[strOf_size8,jL];exact hk
       have e1:(T[(k:Int).toNat]'(by omega)).toNat=((cF (txt es))[k]'hts).toNat:=by
        have:=hT.out;subst this;rfl
       rw[e1,Cj _ _ hts (fun j=> ?_),tQ es k hk]
       by_cases hjl:j<es.length
       ·rw[tQ es j hjl];have:=hO2.1 (es.length-1-j);omega
       ·rw[Dg.getD_of_le _ _ (by rw[jL];omega)];omega
      have HIX:Hid _:=hix;have HFIN:Hid _:=hfin;have hds:=hO2.1;clear hix hfin hJ2 hm0
      go_wp2
      go_loop [8] (fun iv=> ∃k:Nat,k+1≤E∧iv=yi k∧Hid (∀i,i<k→es.getD (es.length-1-i) 0=0)) (fun iv=>E-(intOf iv).toNat)
      case atStart=>exact⟨0,by omega,rfl,fun i hi=>by omega⟩
      case round=>
       obtain⟨k,hk,rfl,hz⟩:=hrel
       by_cases hl:k+1<E
       ·have hi1:=HIX.out k (by rw[HE.out];omega)
        have hd10:=hds (es.length-1-k);obtain⟨d,hd⟩: ∃d,es.getD (es.length-1-k) 0=d:=⟨_,rfl⟩;rw[hd] at hi1 hd10;have Hd:Hid (es.getD (es.length-1-k) 0=d):=hd;clear hd
        by_cases hd0:d=0
        ·subst hd0
         go_wp2
         go_round
         case rel=>exact⟨k+1,by omega,by go_num,fun i hi=>by
          by_cases e:i=k
          ·rw[e];exact Hd.out
          ·exact hz i (by omega)⟩
         case measure=>simp[intOf];omega
        ·have hne:((48+(d:Int))==48)=false:=by simp;omega
         have HF:Hid (T.extract k E=oW n):=HFIN.out k (by rw[HE.out];omega) hz (.inr (by rw[Hd.out];exact hd0))
         go_wp2
         go_ret
         exact⟨by rw[←HF.out];rfl,bel⟩
       ·have hke:k+1=E:=by omega
        have HF:Hid (T.extract k E=oW n):=HFIN.out k (by rw[HE.out];omega) hz (.inl (by rw[HE.out];exact hke));have hl2: ¬((k:Int)< (E:Int)-1):=by omega
        clear hke
        go_wp2
        go_ret
        exact⟨by rw[←HF.out];rfl,bel⟩
     ·have hqb:((ql:Int)==0)=false:=by simp;exact hq
      have hm0:gk/10000≠0:=fun e=>hq (HQ0.out.2 e)
      have hel:es.length≤16*L:=by
       have h1:10^es.length≤10^es.length*(gk/10000):=Nat.le_mul_of_pos_right _ (by omega);have h2:=hO2.2;have h3:2^es.length≤10^es.length:=Nat.pow_le_pow_left (by omega) _;have h4:(65536:Nat)^L=2^ (16*L):=by rw[Nat.pow_mul]
       have h5:=HNL.out;rw[h4] at h5;have:=(Nat.pow_lt_pow_iff_right (by omega:1<2)).1 (Nat.lt_of_le_of_lt (Nat.le_trans h3 (Nat.le_trans h1 (by omega))) h5);omega
      have hbw:Rd wr .i64 (.slice qo ql qc) (Dg.dg 65536 (gk/10000)):=hqlen.l bq;clear hqb
      go_wp2
      go_roundg (gk/10000)
      case measure=>exact Nat.div_lt_self (by omega) (by omega)
      case rel=>exact⟨es,T,hbw,rfl,hT,hO2,hel,by rw[HQ.out];exact hqn,bel⟩
  ·subst hrl hro
   go_wp2
   go_loopw [3,6,7] (fun sv gv jv wr=>acY w w1 n (gk/10000) ds.length sv gv jv wr) (fun _ _ jv _=>(4-intOf jv).toNat)
   case atStart=>exact start
   case round=>
    clear start hJ b2;obtain⟨es,T,j,g2,rfl,rfl,hj4,hes,hg2,rfl,hT,hTs,hJ2,bel,bq⟩:=hrel;have HTS:Hid (T.size=ds.length+j):=hTs;have HES:Hid (es.length=ds.length+j):=hes;have hTl:T.size≤16*L+4:=by have:=HSS.out;omega
    clear hTs hes
    by_cases hj:j<4
    ·have own1:=So wr 0 5 g2 (Nat.zero_le _)
     have hcv:=lQ 63 9 underlying63 underlying5 underlying9 own1;have hsz1:(cF [48+g2 % 10]).size≤1:=by rw[strOf_size8];simp
     have hcs:cF [48+g2 % 10]++T=cF (txt (es++[g2 % 10])):=by rw[hT.out,EY,Md]
     have hcz:(cF [48+g2 % 10]++T).size=ds.length+(j+1):=by rw[hcs,strOf_size8,jL];have:=HES.out;simp;omega
     obtain⟨C,hC⟩: ∃C,cF [48+g2 % 10]=C:=⟨_,rfl⟩;rw[hC] at hcv hsz1 hcs hcz;have HCS:Hid (C++T=cF (txt (es++[g2 % 10]))):=hcs;have HCZ:Hid ((C++T).size=ds.length+(j+1)):=hcz;have b4:=bq.alloc bq.size (.cells #[.int .u8 (48+(g2:Int) % 10)] 5);have b3:=bel.alloc bel.size (.cells #[.int .u8 (48+(g2:Int) % 10)] 5);clear hC hcs hcz own1
     go_wp2
     go_roundw
     case rel=>exact⟨es++[g2 % 10],C++T,j+1,g2/10,by go_num,by go_num,by omega,by have:=HES.out;simp;omega,by omega,rfl,HCS.out,HCZ.out,IA hJ2 hj,b3,b4⟩
     case measure=>simp[intOf];omega
    ·have hj':j=4:=by omega
     subst hj';have hO2:=Mf hJ2
     by_cases hq:ql=0
     ·subst hq
      have hm0:gk/10000=0:=HQ0.out.1 rfl;rw[hm0] at hO2;obtain⟨E,hE⟩: ∃E,T.size=E:=⟨_,rfl⟩;have HE:Hid (es.length=E):=by show _=_;rw[←hE,HES.out,HTS.out]
      have hE4:4≤E:=by rw[←hE,HTS.out];omega
      have hfin: ∀k,k+1≤es.length→(∀i,i<k→es.getD (es.length-1-i) 0=0)→(k+1=es.length∨es.getD (es.length-1-k) 0≠0)→T.extract k T.size=oW n:=fun k h1 h2 h3=>by
       rw[hT.out,EZ];exact IB hO2 h1 h2 h3
      rw[hE] at hfin hTl;have hix: ∀k,k<es.length→ ∀w,(Instr.index 9 (.string T) (yi (k:Int))).run Tryz.prog w= .ok (.int .u8 ((48+es.getD (es.length-1-k) 0:Nat):Int)) w:=fun k hk w=>by
       have hks:k<T.size:=by rw[hE,←HE.out];exact hk
       rw[run_index_string w 9 T .i64 (k:Int) underlying9,dif_pos ⟨by omega,by omega⟩]
       congr 3
       have hts:k< (cF (txt es)).size:=by rw[strOf_size8,jL];exact hk
       have e1:(T[(k:Int).toNat]'(by omega)).toNat=((cF (txt es))[k]'hts).toNat:=by
        have:=hT.out;subst this;rfl
       rw[e1,Cj _ _ hts (fun j=> ?_),tQ es k hk]
       by_cases hjl:j<es.length
       ·rw[tQ es j hjl];have:=hO2.1 (es.length-1-j);omega
       ·rw[Dg.getD_of_le _ _ (by rw[jL];omega)];omega
      have HIX:Hid _:=hix;have HFIN:Hid _:=hfin;have hds:=hO2.1;clear hix hfin hJ2 hm0
      go_wp2
      go_loop [8] (fun iv=> ∃k:Nat,k+1≤E∧iv=yi k∧Hid (∀i,i<k→es.getD (es.length-1-i) 0=0)) (fun iv=>E-(intOf iv).toNat)
      case atStart=>exact⟨0,by omega,rfl,fun i hi=>by omega⟩
      case round=>
       obtain⟨k,hk,rfl,hz⟩:=hrel
       by_cases hl:k+1<E
       ·have hi1:=HIX.out k (by rw[HE.out];omega)
        have hd10:=hds (es.length-1-k);obtain⟨d,hd⟩: ∃d,es.getD (es.length-1-k) 0=d:=⟨_,rfl⟩;rw[hd] at hi1 hd10;have Hd:Hid (es.getD (es.length-1-k) 0=d):=hd;clear hd
        by_cases hd0:d=0
        ·subst hd0
         go_wp2
         go_round
         case rel=>exact⟨k+1,by omega,by go_num,fun i hi=>by
          by_cases e:i=k
          ·rw[e];exact Hd.out
          ·exact hz i (by omega)⟩
         case measure=>simp[intOf];omega
        ·have hne:((48+(d:Int))==48)=false:=by simp;omega
         have HF:Hid (T.extract k E=oW n):=HFIN.out k (by rw[HE.out];omega) hz (.inr (by rw[Hd.out];exact hd0))
         go_wp2
         go_ret
         exact⟨by rw[←HF.out];rfl,bel⟩
       ·have hke:k+1=E:=by omega
        have HF:Hid (T.extract k E=oW n):=HFIN.out k (by rw[HE.out];omega) hz (.inl (by rw[HE.out];exact hke));have hl2: ¬((k:Int)< (E:Int)-1):=by omega
        clear hke
        go_wp2
        go_ret
        exact⟨by rw[←HF.out];rfl,bel⟩
     ·have hqb:((ql:Int)==0)=false:=by simp;exact hq
      have hm0:gk/10000≠0:=fun e=>hq (HQ0.out.2 e)
      have hel:es.length≤16*L:=by
       have h1:10^es.length≤10^es.length*(gk/10000):=Nat.le_mul_of_pos_right _ (by omega);have h2:=hO2.2;have h3:2^es.length≤10^es.length:=Nat.pow_le_pow_left (by omega) _;have h4:(65536:Nat)^L=2^ (16*L):=by rw[Nat.pow_mul]
       have h5:=HNL.out;rw[h4] at h5;have:=(Nat.pow_lt_pow_iff_right (by omega:1<2)).1 (Nat.lt_of_le_of_lt (Nat.le_trans h3 (Nat.le_trans h1 (by omega))) h5);omega
      have hbw:Rd wr .i64 (.slice qo ql qc) (Dg.dg 65536 (gk/10000)):=hqlen.l bq;clear hqb
      go_wp2
      go_roundg (gk/10000)
      case measure=>exact Nat.div_lt_self (by omega) (by omega)
      case rel=>exact⟨es,T,hbw,rfl,hT,hO2,hel,by rw[HQ.out];exact hqn,bel⟩
end Go.Proofs.YtlgkfdcmokchgaaGreatDoor

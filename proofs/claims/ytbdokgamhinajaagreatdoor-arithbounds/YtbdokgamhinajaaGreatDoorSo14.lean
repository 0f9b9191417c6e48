/-
  Texts laid together: Gr4, Gr5, Gm1, Ref7, Fro.
-/
import Derived.Deep.DeepCutAuto
import Derived.Deep.RegionWith
import Derived.Test.YtbdokgamhinajaaGreatDoorSo13
set_option maxRecDepth 100000
set_option maxHeartbeats 6400000
namespace Go.Proofs.YtbdokgamhinajaaGreatDoor
open _root_.Go.Proofs.Tryz
open Go.RowKit
structure fz where
 s:Bool
 d:Nat
 p:Int
 ex:Bool
 ov:Bool
 un:Bool
def Fk (w:World)(t:fz)(e:Ending)(w':World):Prop:=
 ∃v,e= .returned (ypV t.s v t.p t.ex t.ov t.un)∧Own w' w.heap.size 148 .u32 v (Dg.dg 4294967296 t.d)∧yB w w'
theorem wV (r:Nat):(((Dg.dg 4294967296 r).length:Int)==0)=decide (r=0):=by
 have h:=Dg.dg_nil_iff 4294967296 r (by omega)
 by_cases h0:r=0
 ·rw[h.2 h0]
  simp[h0]
 ·have e:(((Dg.dg 4294967296 r).length:Int)==0)=false:=by
   simp;exact fun e=>h0 (h.1 e)
  rw[e];simp[h0]
theorem Bf {ex aw:Bool}(h: ¬(ex=false∧aw=true)):(ex=true∨aw=false)∧(!ex&&aw)=false:=by
 cases ex<;>cases aw<;>simp at h⊢
theorem Mt (R D L G:Int)(gr:Bool)(qs:Bool)(no:Option Addr)(nl nc:Nat)(eo:Option Addr)(el ec:Nat)(E:Int)(fn:FuncId)(T pw pw2 wd:Int)(q r dn:Nat)(half:Int)(odd aw un ex bb:Bool)(d cd:Nat)(cp:Int)(PT:fz)(w:World)
  (hun:un=decide (pw<L)) (hex:ex=decide (r=0)) (hbb:(un&&gr)=bb) (HP1:bb=true→pw2=L) (HP2:bb=false→pw2=pw)
  (W1:IntKind.i64.wrap (wd*pw2)=wd*pw2) (W2:IntKind.i64.wrap (E-wd*pw2)=E-wd*pw2)
  (HD1:ex=false→aw=true→d=q+1) (HD2:ex=true∨aw=false→d=q)
  (HZ:d=0→PT=⟨qs,0,0,ex,false,un⟩) (HNZ: ¬d=0→PT=⟨qs,cd,cp,ex,decide (G<cp),un⟩)
  (HE: ∀args W,Sem.run Tryz.prog (callFunc fn args) W= .ok (.enter fn args) W)
  (HT:yH w 127 #[yrV qs (.slice no nl nc) (.slice eo el ec) E] (yi T))
  (HPW:yJ 126 #[ygV R D L G gr,yi T] (yi pw))
  (HWD:yJ 129 #[ygV R D L G gr] (yi wd))
  (HPA: ∀w1,yB w w1→yC 128 #[yrV qs (.slice no nl nc) (.slice eo el ec) E,yi (E-wd*pw2)] w1 (WH w1 q r dn))
  (HSH: ∀v w1,Rd w1 .u32 v (Dg.dg 4294967296 r)→yC 130 #[v,yi 1] w1 (Num w1 (r*2)))
  (HCM: ∀v u w1,Rd w1 .u32 v (Dg.dg 4294967296 (r*2))→Rd w1 .u32 u (Dg.dg 4294967296 dn)→yC 108 #[v,u] w1 (yR w1 (yi half)))
  (HOD: ∀v w1,Rd w1 .u32 v (Dg.dg 4294967296 q)→yC 131 #[v] w1 fun z w'=>z= .returned (.bool odd)∧w'=w1)
  (HAW:yJ fn #[.agg #[yi half,.bool odd,.bool qs]] (.bool aw))
  (HPL: ∀v u w1,Rd w1 .u32 v (Dg.dg 4294967296 q)→Rd w1 .u32 u [1]→yC 107 #[v,u] w1 (Num w1 (q+1)))
  (HCA: ∀v base w1,Own w1 base 148 .u32 v (Dg.dg 4294967296 d)→base≤w1.heap.size→yC 132 #[ygV R D L G gr,.agg #[v,yi pw2]] w1 fun z w'=> ∃u,z= .returned (.agg #[u,yi cp])∧Own w' base 148 .u32 u (Dg.dg 4294967296 cd)∧yB w1 w'):
  yC 87 #[ygV R D L G gr,yrV qs (.slice no nl nc) (.slice eo el ec) E,.func (.func fn) #[] #[]] w (Fk w PT):=by
 replace HP1:Hid _:=HP1;replace HP2:Hid _:=HP2;replace HD1:Hid _:=HD1;replace HD2:Hid _:=HD2;replace HZ:Hid _:=HZ;replace HNZ:Hid _:=HNZ;replace HT:Hid _:=HT;replace HPW:Hid _:=HPW;replace HWD:Hid _:=HWD;replace HPA:Hid _:=HPA;replace HSH:Hid _:=HSH;replace HCM:Hid _:=HCM;replace HOD:Hid _:=HOD;replace HAW:Hid _:=HAW;replace HPL:Hid _:=HPL;replace HCA:Hid _:=HCA;have HUN:Hid _:=hun;have HEX:Hid _:=hex;have HBB:Hid _:=hbb;clear hbb;have b1:=aa (aa (af w (.cells (ygA R D L G gr) 140)) (af _ (.cells (yrA qs (.slice no nl nc) (.slice eo el ec) E) 45))) (af _ (.cells (ypA false yN 0 false false false) 95));have g1:=((ah w (ygL R D L G gr) 140).l (af _ (.cells (yrA qs (.slice no nl nc) (.slice eo el ec) E) 45))).l (af _ (.cells (ypA false yN 0 false false false) 95));have q1:=(ah (w.alloc (.cells (ygA R D L G gr) 140)) (yrL qs (.slice no nl nc) (.slice eo el ec) E) 45).l (af _ (.cells (ypA false yN 0 false false false) 95));have c1:=ah ((w.alloc (.cells (ygA R D L G gr) 140)).alloc (.cells (yrA qs (.slice no nl nc) (.slice eo el ec) E) 45)) (ypL false yN 0 false false false) 95;simp only[World.size_alloc] at q1 c1;have g_2:=g1.l ((Below.refl _ _).drew);have q_2:=q1.l ((Below.refl _ _).drew);have c_2:=c1.l ((Below.refl _ _).drew);have b0_2:=aa b1 ((Below.refl _ _).drew);clear g1 q1 c1 b1;obtain⟨x0,x1,x2,x3,x4⟩:=g_2.cs5;obtain⟨y0,y1,y2,y3⟩:=q_2.cs4
 go_enter func87,ntmps87
 go_wp2_with fail
 go_region_held3 (fun wq=>(wq.cell? ⟨w.heap.size,0,none⟩=some (yi R)∧wq.cell? ⟨w.heap.size,1,none⟩=some (yi D)∧wq.cell? ⟨w.heap.size,2,none⟩=some (yi L)∧wq.cell? ⟨w.heap.size,3,none⟩=some (yi G)∧wq.cell? ⟨w.heap.size,4,none⟩=some (.bool gr))∧wq.cell? ⟨w.heap.size+1,0,none⟩=some (.bool qs)∧wq.cell? ⟨w.heap.size+1,1,none⟩=some (.slice no nl nc)∧wq.cell? ⟨w.heap.size+1,2,none⟩=some (.slice eo el ec)∧wq.cell? ⟨w.heap.size+1,3,none⟩=some (yi E)) (go_keep) (first
  | (go_at_call 127;have hgd:=b0_2;clear hgd;refine(HT.out _ b0_2).mono ?_;rintro z wa ⟨rfl,bb_wa⟩;have b0_wa:=aa b0_2 bb_wa;have g_wa:=g_2.l bb_wa;have q_wa:=q_2.l bb_wa;have c_wa:=c_2.l bb_wa;obtain⟨xa0,xa1,xa2,xa3,xa4⟩:=g_wa.cs5;obtain⟨ya0,ya1,ya2,ya3⟩:=q_wa.cs4;clear b0_2)
  | (go_at_call 126;have hgd:=b0_wa;clear hgd;refine(HPW.out _).mono ?_;rintro z wb ⟨rfl,bb_wb⟩;have b0_wb:=aa b0_wa bb_wb;have g_wb:=g_wa.l bb_wb;have q_wb:=q_wa.l bb_wb;have c_wb:=c_wa.l bb_wb;obtain⟨xb0,xb1,xb2,xb3,xb4⟩:=g_wb.cs5;obtain⟨yb0,yb1,yb2,yb3⟩:=q_wb.cs4;clear b0_wa))
 clear x0 x1 x2 x3 x4 xa0 xa1 xa2 xa3 xa4 xb0 xb1 xb2 xb3 xb4 y0 y1 y2 y3 ya0 ya1 ya2 ya3 yb0 yb1 yb2 yb3;have ap:=af wb (.cells (ypA qs yN 0 false false un) 95);have p3:=ah wb (ypL qs yN 0 false false un) 95;have hPb:w.heap.size+1+1<wb.heap.size:=c_wb.lt;have g_4:=g_wb.l ap;have q_4:=q_wb.l ap;have c_4:=c_wb.l ap;have b0_4:=aa b0_wb ap;clear g_wb q_wb c_wb b0_wb ap
 skip
 skip
 have x2:=g_4.c 2 rfl;have x4:=g_4.c 4 rfl;have y0:=q_4.c 0 rfl;have hlt:decide (pw<L)=un:=HUN.out.symm;clear hun hex
 go_goals
 go_upto_region 3 with fail
 generalize hW4:wb.alloc (.cells (ypA qs yN 0 false false un) 95)=W4 at g_4 q_4 c_4 p3 b0_4 x2 x4 y0⊢;generalize wb.heap.size=PB at p3 hPb⊢;clear hW4;have z5:=p3.c 5 rfl
 go_cut [31] (fun s31 wx=>s31= .bool bb∧wx=W4)
 case first=>
  cases un
  ·go_wp2_with fail
   go_meet
   exact⟨by rw[←HBB.out];rfl,rfl⟩
  ·go_wp2_with fail
   go_meet
   exact⟨by rw[←HBB.out];rfl,rfl⟩
 case rest=>
  obtain⟨rfl,rfl⟩:=hcut
  go_upto_if 31 with fail
  go_cut [7] (fun s7 wx=>s7=yi pw2∧wx=wc)
  case first=>
   cases bb
   ·have e:Hid (pw2=pw):=HP2.out rfl
    go_wp2_with fail
    go_meet
    exact⟨by rw[e.out],rfl⟩
   ·have e:Hid (pw2=L):=HP1.out rfl
    go_wp2_with fail
    go_meet
    exact⟨by rw[e.out],rfl⟩
  case rest=>
   obtain⟨rfl,rfl⟩:=hcut;clear x2 x4 y0 z5 hlt HP1 HP2;have bd_4:yB wc wc.drew:=(Below.refl _ _).drew;have g_5:=g_4.l bd_4;have q_5:=q_4.l bd_4;have c_5:=c_4.l bd_4;have p_5:=p3.l bd_4;have b0_5:=aa b0_4 bd_4;clear g_4 q_4 c_4 p3 b0_4 bd_4;obtain⟨x0,x1,x2,x3,x4⟩:=g_5.cs5;obtain⟨y0,y1,y2,y3⟩:=q_5.cs4
   go_wp2_with fail
   go_region_held3 (fun wq=>(wq.cell? ⟨w.heap.size,0,none⟩=some (yi R)∧wq.cell? ⟨w.heap.size,1,none⟩=some (yi D)∧wq.cell? ⟨w.heap.size,2,none⟩=some (yi L)∧wq.cell? ⟨w.heap.size,3,none⟩=some (yi G)∧wq.cell? ⟨w.heap.size,4,none⟩=some (.bool gr))∧wq.cell? ⟨w.heap.size+1,0,none⟩=some (.bool qs)∧wq.cell? ⟨w.heap.size+1,1,none⟩=some (.slice no nl nc)∧wq.cell? ⟨w.heap.size+1,2,none⟩=some (.slice eo el ec)∧wq.cell? ⟨w.heap.size+1,3,none⟩=some (yi E)) (go_keep) (first
    | (go_at_call 129;have hgd:=b0_5;clear hgd;refine(HWD.out _).mono ?_;rintro z wd1 ⟨rfl,bb_wd1⟩;have b0_wd1:=aa b0_5 bb_wd1;have g_wd1:=g_5.l bb_wd1;have q_wd1:=q_5.l bb_wd1;have c_wd1:=c_5.l bb_wd1;have p_wd1:=p_5.l bb_wd1;obtain⟨xa0,xa1,xa2,xa3,xa4⟩:=g_wd1.cs5;obtain⟨ya0,ya1,ya2,ya3⟩:=q_wd1.cs4;clear b0_5)
    | (go_at_call 128;have hgd:=b0_wd1;clear hgd;refine(HPA.out _ b0_wd1).mono ?_;rintro z we ⟨v9,v10,v11,rfl,o9,o10,r11,bb_we⟩;have b0_we:=aa b0_wd1 bb_we;have g_we:=g_wd1.l bb_we;have q_we:=q_wd1.l bb_we;have c_we:=c_wd1.l bb_we;have p_we:=p_wd1.l bb_we;obtain⟨xb0,xb1,xb2,xb3,xb4⟩:=g_we.cs5;obtain⟨yb0,yb1,yb2,yb3⟩:=q_we.cs4;have ob9:=o9.lower b0_wd1.size;have ob10:=o10.lower b0_wd1.size;clear b0_wd1))
   clear x0 x1 x2 x3 x4 xa0 xa1 xa2 xa3 xa4 xb0 xb1 xb2 xb3 xb4 y0 y1 y2 y3 ya0 ya1 ya2 ya3 yb0 yb1 yb2 yb3 o9 o10 W1 W2 HWD HPA;obtain⟨ro,rk,h10⟩:=ob10.rd.shape;subst h10;obtain⟨qo,qk,h9⟩:=ob9.rd.shape;subst h9;obtain⟨lr,hlr⟩: ∃l,(Dg.dg 4294967296 r).length=l:=⟨_,rfl⟩;have hl0:((lr:Int)==0)=ex:=by rw[HEX.out,←hlr];exact wV r
   obtain⟨lq,hlq⟩: ∃l,(Dg.dg 4294967296 q).length=l:=⟨_,rfl⟩;rw[hlr] at ob10⊢;rw[hlq] at ob9⊢;have y3:=p_we.c 3 rfl;have f3:=p_we.f 3
   go_goals
   go_upto_region 7 with fail
   have hPx: ∀x∈((ypL qs yN 0 false false un):List Value),∀n:Int,x≠ .int .u32 n:=by simp
   have p7:au (we.setCell ⟨PB,3,none⟩ (.bool ex)) PB 95 (ypL qs yN 0 ex false un):=p_we.set 3 (.bool ex);have hAP:PB≠w.heap.size:=by omega
   have hBP:PB≠w.heap.size+1:=by omega
   have hCP:PB≠w.heap.size+1+1:=by omega
   have hPl:w.heap.size≤PB:=by omega
   have g7:=g_we.off (c:=PB) hAP 3 (.bool ex);have q7:=q_we.off (c:=PB) hBP 3 (.bool ex);have c7:=c_we.off (c:=PB) hCP 3 (.bool ex);have o7:=ob9.setE p_we (by decide) 3 (.bool ex);have r7:=ob10.setE p_we (by decide) 3 (.bool ex);have e7:=r11.set (aX r11 p_we hPx) 3 (.bool ex);have b7:=b0_we.setCell (p:=⟨PB,3,none⟩) hPl (.bool ex);clear g_we q_we c_we p_we ob9 ob10 r11 b0_we y3 f3 hPx g_2 q_2 c_2 g_wa q_wa c_wa bb_wa bb_wb g_5 q_5 c_5 p_5 g_wd1 q_wd1 c_wd1 p_wd1 bb_wd1 bb_we;replace hl0:Hid _:=hl0;clear hlr hlq;generalize(we.setCell ⟨PB,3,none⟩ (.bool ex))=W7 at p7 g7 q7 c7 o7 r7 e7 b7⊢;have z3:=p7.c 3 rfl;have z0:=q7.c 0 rfl;have z3d:=p7.drew.c 3 rfl;have z0d:=q7.drew.c 0 rfl
   go_cut [67] (fun s67 wx=>s67= .bool (!ex&&aw)∧yB W7 wx)
   case first=>
    cases ex
    ·have bd7:yB W7 W7.drew:=(Below.refl _ _).drew
     go_wp2_with fail
     go_region_held3 (fun wq=>wq.cell? ⟨PB,3,none⟩=some (.bool false)∧wq.cell? ⟨w.heap.size+1,0,none⟩=some (.bool qs)) (go_keep) (first
      | (go_at_call 130;have hgd:=bd7;clear hgd;refine(HSH.out _ _ (r7.l bd7).rd).mono ?_;rintro z x1 ⟨v1,rfl,o1,bb_x1⟩;have b0_x1:=aa bd7 bb_x1;have q_x1:=(q7.l bd7).l bb_x1;have p_x1:=(p7.l bd7).l bb_x1;have o_x1:=(o7.l bd7).l bb_x1;have r_x1:=(r7.l bd7).l bb_x1;have e_x1:=(e7.l bd7).l bb_x1;have i1:=p_x1.c 3 rfl;have i2:=q_x1.c 0 rfl;clear bd7)
      | (go_at_call 108;have hgd:=b0_x1;clear hgd;refine(HCM.out _ _ _ o1.rd e_x1).mono ?_;rintro z x2 ⟨rfl,bb_x2⟩;have b0_x2:=aa b0_x1 bb_x2;have q_x2:=q_x1.l bb_x2;have p_x2:=p_x1.l bb_x2;have o_x2:=o_x1.l bb_x2;have r_x2:=r_x1.l bb_x2;have e_x2:=e_x1.l bb_x2;have i3:=p_x2.c 3 rfl;have i4:=q_x2.c 0 rfl;clear b0_x1)
      | (go_at_call 131;have hgd:=b0_x2;clear hgd;refine(HOD.out _ _ o_x2.rd).mono ?_;rintro z x3 ⟨rfl,rfl⟩;have b0_x3:=b0_x2;clear b0_x2)
      | ((with_reducible (refine(HAW.out _).mono ?_));rintro z x4 ⟨rfl,bb4⟩;have b0_x4:=aa b0_x3 bb4;have i5:=(p_x2.l bb4).c 3 rfl;have i6:=(q_x2.l bb4).c 0 rfl))
     go_goals
     go_wp2_with fail
     go_meet
     exact⟨rfl,b0_x4⟩
    ·have bd7:yB W7 W7.drew:=(Below.refl _ _).drew
     go_wp2_with fail
     go_quiet (fail)
     go_goals
     go_wp2_with fail
     go_meet
     exact⟨rfl,aL (Below.refl _ _) nq⟩
   case rest=>
    obtain⟨rfl,bw7⟩:=hcut;clear z3 z0 z3d z0d;have g_9:=g7.l bw7;have q_9:=q7.l bw7;have c_9:=c7.l bw7;have p_9:=p7.l bw7;have o_9:=o7.l bw7;have r_9:=r7.l bw7;have e_9:=e7.l bw7;have b0_9:=aa b7 bw7;clear g7 q7 c7 p7 o7 r7 e7 b7 bw7
    go_upto_if 67 with fail
    skip
    go_cut [9] (fun s9 wx=>Own wx w.heap.size 148 .u32 s9 (Dg.dg 4294967296 d)∧yB wc wx)
    case first=>
     have a1:=af wc (.cells #[.int .u32 ((1:Nat):Int)] 148);have r1:=cE (w:=wc) (k:= .u32) (e:=148) [1] #[.int .u32 ((1:Nat):Int)] rfl (by unfold maxLen;simp)
     by_cases hb:ex=false∧aw=true
     ·obtain⟨rfl,rfl⟩:=hb
      have hd1:=HD1.out rfl rfl
      go_wp2_with fail
      refine(HPL.out _ _ _ (o_9.rd.l a1) r1).mono ?_;rintro z wx ⟨vx,rfl,ox,bx⟩
      go_wp2_with fail
      go_meet
      exact⟨by rw[hd1];exact ox.lower (Nat.le_trans b0_9.size a1.size),aa a1 bx⟩
     ·have hd2:=HD2.out (Bf hb).1
      have hf:(!ex&&aw)=false:=(Bf hb).2;rw[hf]
      go_wp2_with fail
      go_meet
      exact⟨by rw[hd2];exact o_9,Below.refl _ _⟩
    case rest=>
     obtain⟨od,bwd⟩:=hcut;have g_10:=g_9.l bwd;have q_10:=q_9.l bwd;have c_10:=c_9.l bwd;have p_10:=p_9.l bwd;have b0_10:=aa b0_9 bwd;clear g_9 q_9 c_9 p_9 b0_9 bwd;obtain⟨so,sk,hs9⟩:=od.rd.shape;subst hs9;have hld:=wV d;obtain⟨ld,hle⟩: ∃l,(Dg.dg 4294967296 d).length=l:=⟨_,rfl⟩;rw[hle] at hld od⊢
     by_cases hd0:d=0
     ·have hl9:ld=0:=by rw[←hle,hd0];rfl
      have HD0:Hid (d=0):=hd0;clear hd0 hld hle od;subst hl9;have rg9:=p_10.range;have th9:=c_10.there 6 rfl;have cR:=c_10.sets (ypL qs yN 0 ex false un) rfl;have buR:=de (w.heap.size+1+1) (ypL qs yN 0 ex false un) 0 wc;have bR:=buR.below b0_10 (show w.heap.size≤w.heap.size+1+1 by omega)
      go_upto_region 10 with fail
      refine wp_region_lit ?_;refine wpList_load_mid rfl 95 (.tmp 8) rfl PB 0 rfl (ypL qs yN 0 ex false un) _ rg9 underlying95 rfl (by kernel_rfl) ?_;refine wpList_store_mid rfl 95 (.tmp 6) (.tmp 74) rfl (w.heap.size+1+1) 0 (ypA qs yN 0 ex false un) rfl rfl th9 (by kernel_rfl) (by simp[Value.oneCell']) ?_;refine wpList_nil ?_;clear rg9 th9 buR p_10 c_10;change Exit.then _ _ _ _ (World.setCells wc (w.heap.size+1+1) 0 (ypL qs yN 0 ex false un));generalize World.setCells wc (w.heap.size+1+1) 0 (ypL qs yN 0 ex false un)=WR at cR bR⊢
      go_goals
      rename_i KK hKK
      refine hKK _ _ (wp_ret ?_);clear hKK;obtain⟨s0,s1,s2,s3,s4,s5⟩:=cR.cs6;refine bodyPost_ret (v:=(ypV qs yN 0 ex false un)) (by simp[results,results87,go_sem,s0,s1,s2,s3,s4,s5]) rfl ?_;rw[HZ.out HD0.out];exact⟨_,rfl,aQ _ _ _ _,bR⟩
     ·have hz:((ld:Int)==0)=false:=by rw[hld];simp[hd0]
      have HDN:Hid (¬d=0):=hd0;clear hd0 hld;obtain⟨x0,x1,x2,x3,x4⟩:=g_10.cs5
      go_wp2_with fail
      refine(HCA.out _ _ _ (hle▸od) (b0_10.size)).mono ?_;rintro z wg ⟨u,rfl,ou,bb11⟩;have g_11:=g_10.l bb11;have q_11:=q_10.l bb11;have c_11:=c_10.l bb11;have p_11:=p_10.l bb11;have o_11:=od.l bb11;have b0_11:=aa b0_10 bb11;clear g_10 q_10 c_10 p_10 od b0_10 bb11;clear x0 x1 x2 x3 x4;obtain⟨uo,uk,hs9⟩:=ou.rd.shape;subst hs9;have asp:=af wg (.cells #[yT uo cd uk,yi cp] 182);have s9:=ah wg [yT uo cd uk,yi cp] 182;have hSB:PB<wg.heap.size:=p_11.lt;have g_12:=g_11.l asp;have q_12:=q_11.l asp;have c_12:=c_11.l asp;have p_12:=p_11.l asp;have o_12:=ou.l asp;have b0_12:=aa b0_11 asp;clear g_11 q_11 c_11 p_11 ou b0_11 asp
      go_upto_region 12 with fail
      generalize wg.alloc (.cells #[yT uo cd uk,yi cp] 182)=W9 at g_12 q_12 c_12 p_12 o_12 s9 b0_12⊢;generalize wg.heap.size=SB at s9 hSB⊢;have x3:=g_12.c 3 rfl;obtain⟨y0,y1⟩:=s9.cs2;have v1:=p_12.c 1 rfl;have f1:=p_12.f 1;have v2:=p_12.c 2 rfl;have f2:=p_12.f 2;have v4:=p_12.c 4 rfl;have f4:=p_12.f 4;have nPG:PB≠w.heap.size:=hAP;have nPS:PB≠SB:=by omega
      go_wp2_with fail
      have bu:But PB W9 (((W9.setCell ⟨PB,1,none⟩ (yT uo cd uk)).setCell ⟨PB,2,none⟩ (yi cp)).setCell ⟨PB,4,none⟩ (.bool (decide (G<cp)))):=((ag W9 PB 1 (yT uo cd uk)).trans (ag _ PB 2 (yi cp))).trans (ag _ PB 4 (.bool (decide (G<cp))));have pX:au (((W9.setCell ⟨PB,1,none⟩ (yT uo cd uk)).setCell ⟨PB,2,none⟩ (yi cp)).setCell ⟨PB,4,none⟩ (.bool (decide (G<cp)))) PB 95 (ypL qs (yT uo cd uk) cp ex (decide (G<cp)) un):=((p_12.set 1 (yT uo cd uk)).set 2 (yi cp)).set 4 (.bool (decide (G<cp)));have cX:=bu.loc c_12 hCP.symm;have oX:=bu.own o_12 p_12 (by decide);have bX:=bu.below b0_12 hPl
      go_region
      clear g_12 q_12 c_12 p_12 o_12 s9 b0_12 x3 y0 y1 v1 v2 v4 f1 f2 f4 bu;generalize(((W9.setCell ⟨PB,1,none⟩ (yT uo cd uk)).setCell ⟨PB,2,none⟩ (yi cp)).setCell ⟨PB,4,none⟩ (.bool (decide (G<cp))))=WX at pX cX oX bX⊢;have bd_12:yB WX WX.drew:=(Below.refl _ _).drew;have p_13:=pX.l bd_12;have c_13:=cX.l bd_12;have o_13:=oX.l bd_12;have b0_13:=aa bX bd_12;clear pX cX oX bX bd_12
      go_goals
      have rg9:=p_13.range;have th9:=c_13.there 6 rfl;have cR:=c_13.sets (ypL qs (yT uo cd uk) cp ex (decide (G<cp)) un) rfl;have buR:=de (w.heap.size+1+1) (ypL qs (yT uo cd uk) cp ex (decide (G<cp)) un) 0 WX.drew;have bR:=buR.below b0_13 (show w.heap.size≤w.heap.size+1+1 by omega)
      have oR:=buR.own o_13 c_13 (by decide)
      go_upto_region 13 with fail
      refine wp_region_lit ?_;refine wpList_load_mid rfl 95 (.tmp 8) rfl PB 0 rfl (ypL qs (yT uo cd uk) cp ex (decide (G<cp)) un) _ rg9 underlying95 rfl (by kernel_rfl) ?_;refine wpList_store_mid rfl 95 (.tmp 6) (.tmp 93) rfl (w.heap.size+1+1) 0 (ypA qs (yT uo cd uk) cp ex (decide (G<cp)) un) rfl rfl th9 (by kernel_rfl) (by simp[Value.oneCell']) ?_;refine wpList_nil ?_;clear rg9 th9 buR p_13 c_13;change Exit.then _ _ _ _ (World.setCells WX.drew (w.heap.size+1+1) 0 (ypL qs (yT uo cd uk) cp ex (decide (G<cp)) un));generalize World.setCells WX.drew (w.heap.size+1+1) 0 (ypL qs (yT uo cd uk) cp ex (decide (G<cp)) un)=WR at cR bR oR⊢
      go_goals
      rename_i KK hKK
      refine hKK _ _ (wp_ret ?_);clear hKK;obtain⟨s0,s1,s2,s3,s4,s5⟩:=cR.cs6;refine bodyPost_ret (v:=(ypV qs (yT uo cd uk) cp ex (decide (G<cp)) un)) (by simp[results,results87,go_sem,s0,s1,s2,s3,s4,s5]) rfl ?_;rw[HNZ.out HDN.out];exact⟨_,rfl,oR,bR⟩
def dj (R D L:Int)(gr:Bool)(N M:Nat)(E:Int):Int:=
 if(decide (aT R D (dY N M E)<L)&&gr)=true then L else aT R D (dY N M E)
def shP (R D L:Int)(gr:Bool)(N M:Nat)(E:Int):Int:=E-(ai R:Int)*dj R D L gr N M E
def cH (R D L:Int)(gr:Bool)(N M:Nat)(E:Int):Nat:=eZ N (shP R D L gr N M E)/dX M (shP R D L gr N M E)
def gF (R D L:Int)(gr:Bool)(N M:Nat)(E:Int):Nat:=eZ N (shP R D L gr N M E) % dX M (shP R D L gr N M E)
def rf (R D L:Int)(gr qs:Bool)(N M:Nat)(E way:Int):Bool:=
 gY way (dm ((gF R D L gr N M E*2:Nat):Int) ((dX M (shP R D L gr N M E):Nat):Int)) (decide (cH R D L gr N M E % 2=1)) qs
def fM (R D L:Int)(gr qs:Bool)(N M:Nat)(E way:Int):Nat:=
 if decide (gF R D L gr N M E=0)=false∧rf R D L gr qs N M E way=true then cH R D L gr N M E+1 else cH R D L gr N M E
def cI (R D L G:Int)(gr qs:Bool)(N M:Nat)(E way:Int):fz:=
 if fM R D L gr qs N M E way=0 then⟨qs,0,0,decide (gF R D L gr N M E=0),false,decide (aT R D (dY N M E)<L)⟩
 else⟨qs,io R D (fM R D L gr qs N M E way),gD R D (fM R D L gr qs N M E way) (dj R D L gr N M E),decide (gF R D L gr N M E=0),decide (G<gD R D (fM R D L gr qs N M E way) (dj R D L gr N M E)),decide (aT R D (dY N M E)<L)⟩
theorem FJ (N M:Nat)(E:Int)(hla:(Dg.dg 4294967296 N).length≤10000)(hlb:(Dg.dg 4294967296 M).length≤10000)(e1: -20000≤E)(e2:E≤20000): -340001≤dY N M E∧dY N M E≤340001:=by
 have h1:bitLen N≤32*10000:=oP hla;have h2:bitLen M≤32*10000:=oP hlb;unfold dY
 split<;>omega
theorem Bp {R D t:Int}(h1:1≤D)(h2:D≤120)(t1: -340001≤t)(t2:t≤340001): -341000≤aT R D t∧aT R D t≤341000∧ -341000≤(ai R:Int)*aT R D t∧(ai R:Int)*aT R D t≤341000:=by
 unfold aT ai
 split<;>omega
theorem Qg {R D L G:Int}{gr:Bool}{N M:Nat}{E:Int}(hg:bk R D L G=0)(hla:(Dg.dg 4294967296 N).length≤10000)(hlb:(Dg.dg 4294967296 M).length≤10000)(e1: -20000≤E)(e2:E≤20000): -341000≤dj R D L gr N M E∧dj R D L gr N M E≤341000∧ -341000≤(ai R:Int)*dj R D L gr N M E∧(ai R:Int)*dj R D L gr N M E≤341000:=by
 obtain⟨hR,d1,d2,l1,l2,-,-,-,-⟩:=cB hg;obtain⟨t1,t2⟩:=FJ N M E hla hlb e1 e2;have hp:=Bp (R:=R) d1 d2 t1 t2;unfold dj
 split
 ·have hw:=eN R
  unfold ai
  split<;>omega
 ·exact hp
theorem M4 (x:Int)(h1: -1000000≤x)(h2:x≤1000000):IntKind.i64.wrap x=x:=by
 exact IntWalk.i64_in _ ⟨by omega,by omega⟩
theorem Qh (R D L G:Int)(gr qs:Bool)(ao:Option Addr)(ca:Nat)(bo:Option Addr)(cb:Nat)(N M:Nat)(E way:Int)(fn:FuncId)(w:World)(hg:bk R D L G=0)
  (ha:Rd w .u32 (.slice ao (Dg.dg 4294967296 N).length ca) (Dg.dg 4294967296 N)) (hb:Rd w .u32 (.slice bo (Dg.dg 4294967296 M).length cb) (Dg.dg 4294967296 M)) (hla:(Dg.dg 4294967296 N).length≤10000) (hlb:(Dg.dg 4294967296 M).length≤10000) (hM:0<M) (e1: -20000≤E) (e2:E≤20000)
  (HE: ∀args W,Sem.run Tryz.prog (callFunc fn args) W= .ok (.enter fn args) W)
  (HAW: ∀half odd neg w1,Calls Tryz.prog fn #[.agg #[.int .i64 half,.bool odd,.bool neg]] w1 fun z w'=>z= .returned (.bool (gY way half odd neg))∧Below w1.heap.size w1 w'):
  Calls Tryz.prog 87 #[.agg #[.int .i64 R,.int .i64 D,.int .i64 L,.int .i64 G,.bool gr],.agg #[.bool qs,.slice ao (Dg.dg 4294967296 N).length ca,.slice bo (Dg.dg 4294967296 M).length cb,.int .i64 E],.func (.func fn) #[] #[]] w (Fk w (cI R D L G gr qs N M E way)):=by
 obtain⟨hR,d1,d2,l1,l2,g1,g2,lg,l16⟩:=cB hg;obtain⟨t1,t2⟩:=FJ N M E hla hlb e1 e2;obtain⟨c1,c2,c3,c4⟩:=Qg (gr:=gr) hg hla hlb e1 e2;have hM0:0<dX M (shP R D L gr N M E):=by unfold dX;split<;>first|exact Nat.mul_pos hM (Nat.pow_pos (by omega))|exact hM
 have n1: -500000≤shP R D L gr N M E:=by unfold shP;omega
 have n2:shP R D L gr N M E≤500000:=by unfold shP;omega
 have hNl:(Dg.dg 4294967296 (eZ N (shP R D L gr N M E))).length≤25626:=by
  unfold eZ
  split
  ·omega
  ·exact Nat.le_trans (Eg N _ 10000 15626 hla (by omega)) (by omega)
 have hMl:(Dg.dg 4294967296 (dX M (shP R D L gr N M E))).length≤25626:=by
  unfold dX
  split
  ·exact Nat.le_trans (Eg M _ 10000 15626 hlb (by omega)) (by omega)
  ·omega
 have hq:(Dg.dg 4294967296 (cH R D L gr N M E)).length≤25626:=Nat.le_trans (aH _ _ _ (by omega) (Nat.div_le_self _ _)) hNl;have hr:(Dg.dg 4294967296 (gF R D L gr N M E)).length≤25626:=Nat.le_trans (aH _ _ _ (by omega) (Nat.le_of_lt (Nat.mod_lt _ hM0))) hMl;refine Mt R D L G gr qs ao _ ca bo _ cb E fn (dY N M E) (aT R D (dY N M E)) (dj R D L gr N M E) (ai R) (cH R D L gr N M E) (gF R D L gr N M E) (dX M (shP R D L gr N M E)) (dm ((gF R D L gr N M E*2:Nat):Int) ((dX M (shP R D L gr N M E):Nat):Int)) (decide (cH R D L gr N M E % 2=1)) (rf R D L gr qs N M E way) (decide (aT R D (dY N M E)<L)) (decide (gF R D L gr N M E=0)) (decide (aT R D (dY N M E)<L)&&gr) (fM R D L gr qs N M E way) (io R D (fM R D L gr qs N M E way)) (gD R D (fM R D L gr qs N M E way) (dj R D L gr N M E)) (cI R D L G gr qs N M E way) w rfl rfl rfl ?_ ?_ ?_ ?_ ?_ ?_ ?_ ?_ HE ?_ ?_ ?_ ?_ ?_ ?_ ?_ ?_ ?_ ?_
 ·intro h
  exact if_pos h
 ·intro h
  exact if_neg (by rw[h];decide)
 ·exact M4 _ (by omega) (by omega)
 ·exact M4 _ (by omega) (by omega)
 ·intro h1 h2
  exact if_pos ⟨h1,h2⟩
 ·intro h
  refine if_neg ?_;rintro⟨h1,h2⟩
  rcases h with h|h
  ·rw[h1] at h
   cases h
  ·rw[h2] at h
   cases h
 ·intro h
  exact if_pos h
 ·intro h
  exact if_neg h
 ·intro w1 b
  exact WO qs ao ca bo cb N M E w1 (ha.l b) (hb.l b) hla hlb hM (by omega) (by omega)
 ·intro w1
  exact FE R D L G gr _ w1 d1 d2 (by omega) (by omega)
 ·intro w1
  have:=tY R D L G gr w1
  rwa [jf] at this
 ·intro w1 b
  exact Eh qs ao ca bo cb N M E (shP R D L gr N M E) w1 (ha.l b) (hb.l b) (by omega) (by omega) hM n1 n2
 ·intro v w1 h
  have:=eO v _ 1 w1 h (Dg.small_dg _ _ (by omega)) (by omega) (by omega) (by omega);rw[Dg.vl_dg _ _ (by omega)] at this;exact this
 ·intro v u w1 h1 h2
  have:=jF v u _ _ w1 h1 h2 (Dg.small_dg _ _ (by omega)) (Dg.small_dg _ _ (by omega)) (Dg.norm_dg _ _ (by omega)) (Dg.norm_dg _ _ (by omega))
  rwa [Dg.vl_dg _ _ (by omega),Dg.vl_dg _ _ (by omega)] at this
 ·intro v w1 h
  exact aaI v _ w1 h
 ·intro w1
  exact HAW _ _ _ w1
 ·intro v u w1 h1 h2
  have:=rj v u _ _ w1 h1 h2 (Dg.small_dg _ _ (by omega)) (Dg.small_cons.2 ⟨by omega,Dg.small_nil _ (by omega)⟩) (by omega) (by simp)
  rwa [Dg.vl_dg _ _ (by omega),show Dg.vl 4294967296 [1]=1 from rfl] at this
 ·intro v base w1 ho hbs
  exact Br R D L G gr v _ _ base w1 ho hbs d1 d2 (by omega) (by omega)
theorem fw (N:Nat)(n:Int):eZ N n=N*2^n.toNat:=by
 unfold eZ
 split
 ·rw[show n.toNat=0 by omega,Nat.pow_zero,Nat.mul_one]
 ·rfl
theorem eM (M:Nat)(n:Int):dX M n=M*2^ (-n).toNat:=by
 unfold dX
 split
 ·rfl
 ·rw[show(-n).toNat=0 by omega,Nat.pow_zero,Nat.mul_one]
theorem bG (k:Nat):0<2^k:=Nat.pow_pos (by omega)
theorem DS {N M a b a' b':Nat}(h:M*2^b≤N*2^a)(hk:b'+a≤b+a'):M*2^b'≤N*2^a':=by
 refine Nat.le_of_mul_le_mul_right (c:=2^a) ?_ (bG a)
 calc M*2^b'*2^a=M*2^ (b'+a):=by rw[Nat.mul_assoc,←Nat.pow_add]
  _≤M*2^ (b+a'):=Nat.mul_le_mul_left _ (Nat.pow_le_pow_right (by omega) hk)
  _=M*2^b*2^a':=by rw[Nat.mul_assoc,←Nat.pow_add]
  _≤N*2^a*2^a':=Nat.mul_le_mul_right _ h
  _=N*2^a'*2^a:=by rw[Nat.mul_right_comm]
theorem qD (N M:Nat)(E:Int):dY N M E=E+dY N M 0:=by
 unfold dY;omega
theorem BC (N M a b:Nat)(hN:N≠0)(hM:M≠0):M*2^b≤N*2^a↔(b:Int)≤dY N M 0+a:=by
 obtain⟨n1,n2,n3⟩:=uB N hN;obtain⟨m1,m2,m3⟩:=uB M hM;obtain⟨ln,hln⟩: ∃ln,bitLen N=ln:=⟨_,rfl⟩;obtain⟨lm,hlm⟩: ∃lm,bitLen M=lm:=⟨_,rfl⟩;have ht:dY N M 0=0+(((ln:Int)-(lm:Int))-(if eZ N (-((ln:Int)-(lm:Int)))/dX M (-((ln:Int)-(lm:Int)))=0 then 1 else 0)):=by
  unfold dY;rw[hln,hlm]
 rw[hln] at n1 n2 n3;rw[hlm] at m1 m2 m3;have low:M*2^ (ln-1)≤N*2^lm:=by
  rw[Nat.mul_comm];exact Nat.mul_le_mul n2 (Nat.le_of_lt m3)
 have high: ¬M*2^ln≤N*2^ (lm-1):=by
  have h1:N*2^ (lm-1)<2^ln*2^ (lm-1):=Nat.mul_lt_mul_of_pos_right n3 (bG _);have h2:2^ln*2^ (lm-1)≤M*2^ln:=by
   rw[Nat.mul_comm (2^ln)];exact Nat.mul_le_mul_right _ m2
  omega
 have hq:eZ N (-((ln:Int)-(lm:Int)))/dX M (-((ln:Int)-(lm:Int)))=0↔ ¬M*2^ (ln-lm)≤N*2^ (lm-ln):=by
  rw[fw,eM,show(-((ln:Int)-(lm:Int))).toNat=lm-ln by omega,show(-(-((ln:Int)-(lm:Int)))).toNat=ln-lm by omega,Nat.div_eq_zero_iff]
  have:=Nat.mul_pos (Nat.pos_of_ne_zero hM) (bG (ln-lm));omega
 by_cases hz:eZ N (-((ln:Int)-(lm:Int)))/dX M (-((ln:Int)-(lm:Int)))=0
 ·rw[if_pos hz] at ht
  have h0:=hq.1 hz
  constructor
  ·intro h
   refine Decidable.byContradiction fun c=>h0 (DS h ?_)
   omega
  ·intro h
   exact DS low (by omega)
 ·rw[if_neg hz] at ht
  have h0:M*2^ (ln-lm)≤N*2^ (lm-ln):=Decidable.byContradiction fun c=>hz (hq.2 c)
  constructor
  ·intro h
   refine Decidable.byContradiction fun c=>high (DS h ?_)
   omega
  ·intro h
   exact DS h0 (by omega)
theorem BD (N M:Nat)(n:Int)(j:Nat)(hN:N≠0)(hM:M≠0):2^j≤eZ N n/dX M n↔(j:Int)≤dY N M 0+n:=by
 rw[fw,eM,Nat.le_div_iff_mul_le (Nat.mul_pos (Nat.pos_of_ne_zero hM) (bG _)),←Nat.mul_assoc,Nat.mul_comm (2^j),Nat.mul_assoc,←Nat.pow_add,BC N M _ _ hN hM];omega
theorem pP (d m:Nat):bitLen d<m+1↔ ¬2^m≤d:=by
 constructor
 ·intro h c
  have hd:d≠0:=by
   have:=bG m;omega
  obtain⟨-,-,h3⟩:=uB d hd;have:(2:Nat)^bitLen d≤2^m:=Nat.pow_le_pow_right (by omega) (by omega);omega
 ·intro h
  have:=bF d m (by omega);omega
theorem xx (R D k:Int)(N M:Nat)(E:Int)(h1:1≤D)(hN:N≠0)(hM:M≠0):
  bitLen (eZ N (E-(ai R:Int)*k)/dX M (E-(ai R:Int)*k))<ai R*(D-1).toNat+1↔aT R D (dY N M E)<k:=by
 rw[pP,BD N M _ _ hN hM,qD N M E];unfold aT;obtain⟨t,ht⟩: ∃t,dY N M 0=t:=⟨_,rfl⟩;rw[ht];unfold ai
 split<;>simp<;>omega
theorem rP (R D L:Int)(gr:Bool)(N M:Nat)(E:Int)(h1:1≤D)(hN:N≠0)(hM:M≠0):cH R D L gr N M E<2^ (ai R*D.toNat):=by
 refine Nat.lt_of_not_le fun c=> ?_
 unfold cH shP at c;rw[BD N M _ _ hN hM] at c;have hc:aT R D (dY N M E)≤dj R D L gr N M E:=by
  unfold dj
  by_cases h:(decide (aT R D (dY N M E)<L)&&gr)=true
  ·rw[if_pos h]
   have:=of_decide_eq_true (Bool.and_eq_true_iff.1 h).1;omega
  ·rw[if_neg h]
   exact Int.le_refl _
 obtain⟨k,hk⟩: ∃k,dj R D L gr N M E=k:=⟨_,rfl⟩;rw[hk] at c hc;rw[qD] at hc;obtain⟨t,ht⟩: ∃t,dY N M 0=t:=⟨_,rfl⟩;rw[ht] at c hc;unfold aT ai at hc;unfold ai at c
 split at c<;>simp_all<;>omega
theorem Vf (R D L:Int)(gr:Bool)(N M:Nat)(E:Int)(h1:1≤D)(hN:N≠0)(hM:M≠0)(h:dj R D L gr N M E=aT R D (dY N M E)):0<cH R D L gr N M E:=by
 have h2: ¬bitLen (cH R D L gr N M E)<ai R*(D-1).toNat+1:=by
  unfold cH shP;rw[h,xx R D _ N M E h1 hN hM];omega
 have:cH R D L gr N M E≠0:=by
  intro c;rw[c] at h2;simp at h2;rw[gP] at h2;omega
 omega
theorem uh (R D L:Int)(gr:Bool)(N M:Nat)(E:Int)(h1:1≤D)(hN:N≠0)(hM:M≠0)(p:Int):io R D (cH R D L gr N M E)=cH R D L gr N M E∧gD R D (cH R D L gr N M E) p=p:=by
 have h:=rP R D L gr N M E h1 hN hM;unfold io gD;rw[if_neg (by omega),if_neg (by omega)];exact⟨rfl,rfl⟩
theorem CD (R D:Int)(d:Nat):io R D d=0↔d=0:=by
 unfold io;have h1:=bG (ai R*D.toNat);have h2:=bG (ai R*(D-1).toNat)
 split<;>omega
theorem KL (R D L:Int)(gr qs:Bool)(N M:Nat)(E way:Int):cH R D L gr N M E≤fM R D L gr qs N M E way:=by
 unfold fM
 split<;>omega
theorem kJ {R D L G:Int}(gr qs:Bool)(N M:Nat)(E way:Int)(h1:1≤D)(hLG:L≤G)(hN:N≠0)(hM:M≠0):
  cI R D L G gr qs N M E way=⟨qs,io R D (fM R D L gr qs N M E way),if io R D (fM R D L gr qs N M E way)=0 then 0 else gD R D (fM R D L gr qs N M E way) (dj R D L gr N M E),decide (gF R D L gr N M E=0),decide (G<gD R D (fM R D L gr qs N M E way) (dj R D L gr N M E)),decide (aT R D (dY N M E)<L)⟩:=by
 unfold cI
 by_cases h0:fM R D L gr qs N M E way=0
 ·have hw:cH R D L gr N M E=0:=by
   have:=KL R D L gr qs N M E way;omega
  have hc:dj R D L gr N M E=L:=by
   refine Decidable.byContradiction fun c=> ?_
   have e:dj R D L gr N M E=aT R D (dY N M E):=by
    unfold dj at c⊢
    split at c
    ·exact absurd rfl c
    ·rw[if_neg (by assumption)]
   have:=Vf R D L gr N M E h1 hN hM e;omega
  have hd:=uh R D L gr N M E h1 hN hM (dj R D L gr N M E);rw[if_pos h0,h0,if_pos ((CD R D 0).2 rfl),(CD R D 0).2 rfl];rw[hw] at hd;rw[hd.2,hc,decide_eq_false (show¬G<L by omega)]
 ·rw[if_neg h0,if_neg (fun c=>h0 ((CD R D _).1 c))]
def X9 (xs cur:List Nat)(d k r:Nat):Prop:=
 cur.length=xs.length∧Dg.Small 65536 cur∧r<d∧Dg.vl 65536 (xs.drop k)=Dg.vl 65536 (cur.drop k)*d+r
theorem Qp {xs cur:List Nat}{d k r t:Nat}(h:X9 xs cur d (k+1) r)(hk:k<xs.length)(ht:t=65536*r+xs.getD k 0)(hd:0<d)(hq:t/d<65536):
  X9 xs (cur.set k (t/d)) d k (t % d):=by
 obtain⟨h1,h2,h3,h5⟩:=h;refine⟨by simpa using h1,Dg.small_set h2 _ _ hq,Nat.mod_lt _ hd, ?_⟩;rw[AU xs k hk,AU (cur.set k (t/d)) k (by simpa using(by omega:k<cur.length)),Dg.getD_set _ _ _ _ (by omega),if_pos rfl,List.drop_set_of_lt (by omega)];simp only[Dg.vl];rw[h5];have:=Nat.div_add_mod t d;rw[Nat.add_mul,Nat.mul_comm (t/d) d,Nat.mul_assoc,Nat.mul_add];omega
theorem M8 {t d r x:Nat}(h1:r<d)(h2:x<65536)(ht:t=65536*r+x):t/d<65536:=by
 rw[Nat.div_lt_iff_lt_mul (by omega)];have:(r+1)*65536≤d*65536:=Nat.mul_le_mul_right _ h1;rw[Nat.mul_comm 65536 d];omega
theorem Cv (d:Nat)(h:d<65536):Dg.dg 65536 d=if d=0 then[] else[d]:=by
 by_cases e:d=0
 ·subst e;rfl
 ·rw[if_neg e]
  exact(Dg.eq_dg 65536 (by omega) [d] d (Dg.small_cons.2 ⟨h,Dg.small_nil _ (by omega)⟩) (by intro _;simpa using e) (by simp[Dg.vl])).symm
theorem IU (va:Value)(xs:List Nat)(vb:Value)(d:Nat)(w:World)(ha:Rd w .i64 va xs)(hb:Rd w .i64 vb [d])(sa:Dg.Small 65536 xs)(hla:xs.length≤1000000)(hd0:0<d)(hd:d<65536):
  yC 114 #[va,vb] w fun e w'=> ∃vq vr,e= .returned (.tuple #[vq,vr])∧Rd w' .i64 vq (Dg.dg 65536 (Dg.vl 65536 xs/d))∧Rd w' .i64 vr (Dg.dg 65536 (Dg.vl 65536 xs % d))∧yB w w':=by
 obtain⟨i0,hi,hz0,hz1,hz2⟩:=info_parts Tryz.infoI64;obtain⟨ao,ca,rfl,-,-,hca⟩:=ha;obtain⟨bo,cb,rfl,-,-,hcb⟩:=hb;obtain⟨bb,boff,rfl,hcellb⟩:=hcb (by simp);have hcb0:=hcellb 0 (by simp);simp only[List.getD_cons_zero,Nat.add_zero] at hcb0;have hlen1:([d]:List Nat).length=1:=rfl;rw[hlen1];clear hcellb hcb hlen1
 go_enter func114,ntmps114
 go_wp2_with (at_make;refine wpList_make_full _ rfl _ _ 28 rfl w.heap.size 3 i0 (yi 0) 1 underlying28 hi hz0 hz1 _ _ _ _ xs.length rfl rfl (by omega) (by omega) ?b2 ?b3 (Nat.le_refl _) ?_)
 case b2=>rw[hz2];omega
 case b3=>unfold maxLen;omega
 intro w0 hown0 hgrow0;have own0:=gL hown0;have bel0:yB w w0:=(Below.refl _ _).grown hgrow0 (Nat.le_refl _) (fun k h=>by cases h)
 clear hown0 hgrow0
 go_wp2
 go_loopw [7,8] (fun rv iv wr=> ∃(k r:Nat) (cur:List Nat),k≤xs.length∧iv=yi ((k:Int)-1)∧rv=yi r∧Own wr w.heap.size 3 .i64 (.slice (some ⟨w.heap.size,0,none⟩) xs.length xs.length) cur∧X9 xs cur d k r∧yB w wr)
  (fun _ iv _=>(intOf iv+1).toNat)
 case atStart=>exact⟨xs.length,0,_,Nat.le_refl _,rfl,rfl,own0,⟨by simp,Dg.small_replicate _ _ (by omega),hd0,by simp[Dg.vl]⟩,bel0⟩
 case round=>
  clear own0 bel0;obtain⟨k,r,cur,hk,rfl,rfl,own,hI,bel⟩:=hrel;have hlen:=hI.1;have hr:=hI.2.2.1
  by_cases hk0:k=0
  ·subst hk0
   obtain⟨h1,h2,h3,h5⟩:=hI;simp only[List.drop_zero] at h5;have e1:Dg.vl 65536 xs/d=Dg.vl 65536 cur:=by
    rw[h5,Nat.mul_comm,Nat.mul_add_div hd0,Nat.div_eq_of_lt h3];omega
   have e2:Dg.vl 65536 xs % d=r:=by
    rw[h5,Nat.mul_comm,Nat.mul_add_mod,Nat.mod_eq_of_lt h3]
   have HE1:Hid (Dg.vl 65536 xs/d=Dg.vl 65536 cur):=e1;have HE2:Hid (Dg.vl 65536 xs % d=r):=e2;have hcl:cur.length≤1000000:=by omega
   clear h5 e1 e2 hlen h1
   go_wp2_with fail
   refine(i9 _ _ _ cur _ own.rd).mono ?_;rintro e w' ⟨m,rfl,hm,rfl⟩;have rq:=xh own h2 hm (by omega);have a1:Below w'.heap.size w' (w'.alloc (.cells #[yi r] 3)):=(Below.refl _ _).alloc (Nat.le_refl _) _;have r1:=cE (w:=w') (k:= .i64) (e:=3) [r] #[yi r] rfl (by unfold maxLen;simp)
   go_wp2_with fail
   refine(i9 _ _ _ [r] _ r1).mono ?_;rintro e w2 ⟨m2,rfl,hm2,rfl⟩;have hml:=hm2.1;simp only[List.length_cons,List.length_nil] at hml;have rr:=uE (cap':=m2) 65536 (by omega) r1 (Dg.small_cons.2 ⟨by omega,Dg.small_nil _ (by omega)⟩) hm2 (Nat.le_refl _) (by unfold maxLen;omega);have ev:Dg.vl 65536 [r]=r:=by simp[Dg.vl]
   rw[ev] at rr;have rq2:=rq.l a1;have bel2:=aa bel a1;clear hm hm2 r1 ev
   go_wp2
   go_ret2
   exact⟨_,_,rfl,by rw[HE1.out];exact rq2,by rw[HE2.out];exact rr,bel2⟩
  ·obtain⟨m,rfl⟩: ∃m,k=m+1:=⟨k-1,by omega⟩
   obtain⟨b,off,rfl,hcell⟩:=hca (by omega);have hx:=cell_later bel (hcell m (by omega));have hbb:=cell_later bel hcb0;have hxl:=sa m;have hq:=own.c m (by omega);have hf:=own.f m;obtain⟨x,ex⟩: ∃x,xs.getD m 0=x:=⟨_,rfl⟩;rw[ex] at hx hxl;have hql:=M8 (t:=65536*r+x) hr hxl rfl;have hst:=Qp hI (by omega) (by rw[ex]) hd0 hql;have hrl:(65536*r+x) % d<d:=Nat.mod_lt _ hd0;obtain⟨t,ht⟩: ∃t,65536*r+x=t:=⟨_,rfl⟩;have htl:t<4294967296:=by omega
   rw[ht] at hst hql hrl;have htI:65536*(r:Int)+(x:Int)=(t:Int):=by omega
   obtain⟨q1,hq1⟩: ∃q1,t/d=q1:=⟨_,rfl⟩;obtain⟨m1,hm1⟩: ∃m1,t % d=m1:=⟨_,rfl⟩;have e1:(t:Int).tdiv d=(q1:Int):=by rw[Int.tdiv_eq_ediv_of_nonneg (by omega),←hq1];exact(Int.natCast_ediv t d).symm
   have e2:(t:Int).tmod d=(m1:Int):=by rw[Int.tmod_eq_emod_of_nonneg (by omega),←hm1];exact(Int.natCast_emod t d).symm
   have e3:(t:Int)/(d:Int)=(q1:Int):=by rw[←hq1];exact(Int.natCast_ediv t d).symm
   have e4:(t:Int) % (d:Int)=(m1:Int):=by rw[←hm1];exact(Int.natCast_emod t d).symm
   rw[hq1] at hst hql;rw[hm1] at hst hrl;have e5:IntKind.i64.wrap (q1:Int)=(q1:Int):=IntWalk.i64_in _ ⟨by omega,by omega⟩;have hdne:((d:Int)==0)=false:=by simp;omega
   clear ex hcell hca hI hq1 hm1 ht hlen
   go_wp2
   go_region
   all_goals go_wp2
   all_goals go_roundw
   case rel=>exact⟨m,_,_,by omega,by go_num,rfl,Own.l (own.store m _) (Below.drew (Below.refl _ _)),hst,(bel.setCell (by exact Nat.le_refl _) _).drew⟩
   case measure=>simp[intOf]
theorem Bj (d:Nat)(w:World)(hd:d<65536):yC 78 #[yi d] w (cG w d):=by
 obtain⟨i0,hi,hz0,hz1,hz2⟩:=info_parts Tryz.infoI64;have hone:=Cv d hd
 by_cases h:d=0
 ·subst h
  go_enter func78,ntmps78
  go_wp2
  refine wp_loop_rounds 1 ?_;rw[rounds_succ]
  go_wp2
  go_ret
  exact⟨_,rfl,(aQ _ 0 0 _).rd,Below.refl _ _⟩
 ·rw[if_neg h] at hone
  have HO:Hid (Dg.dg 65536 d=[d]):=hone;have e1:(d:Int) % 65536=(d:Int):=by omega
  have e2:(d:Int)/65536=0:=by omega
  have hpos:(0:Int)< (d:Int):=by omega
  clear hone
  go_enter func78,ntmps78
  go_wp2
  refine wp_loop_rounds 2 ?_;rw[rounds_succ]
  go_wp2_with (at_builtin;refine wpList_append_own _ rfl _ _ 28 rfl w.heap.size 3 i0 (yi 0) 1 8 underlying28 hi hz0 hz1 hz2 rfl (by decide) _ _ _ rfl (World.ownsRow.alloc (World.ownsRow_nil w w.heap.size 3 1) _) ⟨w.heap.size,0,none⟩ 1 1 [yi d] rfl rfl ?c1 ?c2 ?c3 ?c4 ?c5 ?_)
  case c1=>exact cell_one_new _ _ _
  case c2=>intro u hu;simp at hu;subst hu;rfl
  case c3=>unfold maxLen;omega
  case c4=>omega
  case c5=>simp
  intro v' w3 hown' hgrow _;have R:=iW (Below.refl w.heap.size w) (aQ w w.heap.size 3 .i64) hown' hgrow;clear hown' hgrow;rw[List.nil_append,←HO.out] at R
  go_wp2
  rw[rounds_succ]
  go_wp2
  go_ret
  exact⟨_,rfl,R.1.rd,R.2⟩
end Go.Proofs.YtbdokgamhinajaaGreatDoor

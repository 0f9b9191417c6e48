/-
  Texts laid together: Gr4.
-/
import Derived.Test.YtpgijbdgljkeeaaGreatDoorUx12
import Derived.Test.YtpgijbdgljkeeaaGreatDoorUx14
import Derived.Test.YtpgijbdgljkeeaaGreatDoorUx15
set_option maxRecDepth 100000
set_option maxHeartbeats 6400000
namespace Go.Proofs.YtpgijbdgljkeeaaGreatDoor
open _root_.Go.Proofs.Tryz
open Go.RowKit
theorem Mt (R D L G:Int)(gr:Bool)(qs:Bool)(no:Option Addr)(nl nc:Nat)(eo:Option Addr)(el ec:Nat)(E:Int)(fn:FuncId)(T pw pw2 wd:Int)(q r dn:Nat)(half:Int)(odd aw un ex bb:Bool)(d cd:Nat)(cp:Int)(PT:fz)(w:World)
  (hun:un=decide (pw<L)) (hex:ex=decide (r=0)) (hbb:(un&&gr)=bb) (HP1:bb=true→pw2=L) (HP2:bb=false→pw2=pw)
  (W1:IntKind.i64.wrap (wd*pw2)=wd*pw2) (W2:IntKind.i64.wrap (E-wd*pw2)=E-wd*pw2)
  (HD1:ex=false→aw=true→d=q+1) (HD2:ex=true∨aw=false→d=q)
  (HZ:d=0→PT=⟨qs,0,0,ex,false,un⟩) (HNZ: ¬d=0→PT=⟨qs,cd,cp,ex,decide (G<cp),un⟩)
  (HE: ∀args W,Sem.run Tryz.prog (callFunc fn args) W= .ok (.enter fn args) W)
  (HT:yH w 168 #[yrV qs (.slice no nl nc) (.slice eo el ec) E] (yi T))
  (HPW:yJ 167 #[ygV R D L G gr,yi T] (yi pw))
  (HWD:yJ 170 #[ygV R D L G gr] (yi wd))
  (HPA: ∀w1,yB w w1→yC 169 #[yrV qs (.slice no nl nc) (.slice eo el ec) E,yi (E-wd*pw2)] w1 (WH w1 q r dn))
  (HSH: ∀v w1,Rd w1 .u32 v (Dg.dg 4294967296 r)→yC 75 #[v,yi 1] w1 (Num w1 (r*2)))
  (HCM: ∀v u w1,Rd w1 .u32 v (Dg.dg 4294967296 (r*2))→Rd w1 .u32 u (Dg.dg 4294967296 dn)→yC 102 #[v,u] w1 (yR w1 (yi half)))
  (HOD: ∀v w1,Rd w1 .u32 v (Dg.dg 4294967296 q)→yC 103 #[v] w1 fun z w'=>z= .returned (.bool odd)∧w'=w1)
  (HAW:yJ fn #[.agg #[yi half,.bool odd,.bool qs]] (.bool aw))
  (HPL: ∀v u w1,Rd w1 .u32 v (Dg.dg 4294967296 q)→Rd w1 .u32 u [1]→yC 99 #[v,u] w1 (Num w1 (q+1)))
  (HCA: ∀v base w1,Own w1 base 138 .u32 v (Dg.dg 4294967296 d)→base≤w1.heap.size→yC 171 #[ygV R D L G gr,.agg #[v,yi pw2]] w1 fun z w'=> ∃u,z= .returned (.agg #[u,yi cp])∧Own w' base 138 .u32 u (Dg.dg 4294967296 cd)∧yB w1 w'):
  yC 131 #[ygV R D L G gr,yrV qs (.slice no nl nc) (.slice eo el ec) E,.func (.func fn) #[] #[]] w (Fk w PT):=by
 replace HP1:Hid _:=HP1;replace HP2:Hid _:=HP2;replace HD1:Hid _:=HD1;replace HD2:Hid _:=HD2;replace HZ:Hid _:=HZ;replace HNZ:Hid _:=HNZ;replace HT:Hid _:=HT;replace HPW:Hid _:=HPW;replace HWD:Hid _:=HWD;replace HPA:Hid _:=HPA;replace HSH:Hid _:=HSH;replace HCM:Hid _:=HCM;replace HOD:Hid _:=HOD;replace HAW:Hid _:=HAW;replace HPL:Hid _:=HPL;replace HCA:Hid _:=HCA;have HUN:Hid _:=hun;have HEX:Hid _:=hex;have HBB:Hid _:=hbb;clear hbb;have b1:=aa (aa (af w (.cells (ygA R D L G gr) 202)) (af _ (.cells (yrA qs (.slice no nl nc) (.slice eo el ec) E) 25))) (af _ (.cells (ypA false yN 0 false false false) 151));have g1:=((ah w (ygL R D L G gr) 202).l (af _ (.cells (yrA qs (.slice no nl nc) (.slice eo el ec) E) 25))).l (af _ (.cells (ypA false yN 0 false false false) 151));have q1:=(ah (w.alloc (.cells (ygA R D L G gr) 202)) (yrL qs (.slice no nl nc) (.slice eo el ec) E) 25).l (af _ (.cells (ypA false yN 0 false false false) 151));have c1:=ah ((w.alloc (.cells (ygA R D L G gr) 202)).alloc (.cells (yrA qs (.slice no nl nc) (.slice eo el ec) E) 25)) (ypL false yN 0 false false false) 151;simp only[World.size_alloc] at q1 c1;have g_2:=g1.l ((Below.refl _ _).drew);have q_2:=q1.l ((Below.refl _ _).drew);have c_2:=c1.l ((Below.refl _ _).drew);have b0_2:=aa b1 ((Below.refl _ _).drew);clear g1 q1 c1 b1;obtain⟨x0,x1,x2,x3,x4⟩:=g_2.cs5;obtain⟨y0,y1,y2,y3⟩:=q_2.cs4
 go_enter func131,ntmps131
 go_wp2_with fail
 go_region_held3 (fun wq=>(wq.cell? ⟨w.heap.size,0,none⟩=some (yi R)∧wq.cell? ⟨w.heap.size,1,none⟩=some (yi D)∧wq.cell? ⟨w.heap.size,2,none⟩=some (yi L)∧wq.cell? ⟨w.heap.size,3,none⟩=some (yi G)∧wq.cell? ⟨w.heap.size,4,none⟩=some (.bool gr))∧wq.cell? ⟨w.heap.size+1,0,none⟩=some (.bool qs)∧wq.cell? ⟨w.heap.size+1,1,none⟩=some (.slice no nl nc)∧wq.cell? ⟨w.heap.size+1,2,none⟩=some (.slice eo el ec)∧wq.cell? ⟨w.heap.size+1,3,none⟩=some (yi E)) (go_keep) (first
  | (go_at_call 168;have hgd:=b0_2;clear hgd;refine(HT.out _ b0_2).mono ?_;rintro z wa ⟨rfl,bb_wa⟩;have b0_wa:=aa b0_2 bb_wa;have g_wa:=g_2.l bb_wa;have q_wa:=q_2.l bb_wa;have c_wa:=c_2.l bb_wa;obtain⟨xa0,xa1,xa2,xa3,xa4⟩:=g_wa.cs5;obtain⟨ya0,ya1,ya2,ya3⟩:=q_wa.cs4;clear b0_2)
  | (go_at_call 167;have hgd:=b0_wa;clear hgd;refine(HPW.out _).mono ?_;rintro z wb ⟨rfl,bb_wb⟩;have b0_wb:=aa b0_wa bb_wb;have g_wb:=g_wa.l bb_wb;have q_wb:=q_wa.l bb_wb;have c_wb:=c_wa.l bb_wb;obtain⟨xb0,xb1,xb2,xb3,xb4⟩:=g_wb.cs5;obtain⟨yb0,yb1,yb2,yb3⟩:=q_wb.cs4;clear b0_wa))
 clear x0 x1 x2 x3 x4 xa0 xa1 xa2 xa3 xa4 xb0 xb1 xb2 xb3 xb4 y0 y1 y2 y3 ya0 ya1 ya2 ya3 yb0 yb1 yb2 yb3;have ap:=af wb (.cells (ypA qs yN 0 false false un) 151);have p3:=ah wb (ypL qs yN 0 false false un) 151;have hPb:w.heap.size+1+1<wb.heap.size:=c_wb.lt;have g_4:=g_wb.l ap;have q_4:=q_wb.l ap;have c_4:=c_wb.l ap;have b0_4:=aa b0_wb ap;clear g_wb q_wb c_wb b0_wb ap
 skip
 skip
 have x2:=g_4.c 2 rfl;have x4:=g_4.c 4 rfl;have y0:=q_4.c 0 rfl;have hlt:decide (pw<L)=un:=HUN.out.symm;clear hun hex
 go_goals
 go_upto_region 3 with fail
 generalize hW4:wb.alloc (.cells (ypA qs yN 0 false false un) 151)=W4 at g_4 q_4 c_4 p3 b0_4 x2 x4 y0⊢;generalize wb.heap.size=PB at p3 hPb⊢;clear hW4;have z5:=p3.c 5 rfl
 go_cut [31] (fun s31 wx=>s31= .bool bb∧wx=W4)
 case first=>
  cases un
  ·go_wp2_with fail
   go_meet
   exact⟨by rw[←HBB.out];rfl,rfl⟩
  ·go_wp2_with fail
   go_meet
   exact⟨by rw[←HBB.out];rfl,rfl⟩
 case rest=>
  obtain⟨rfl,rfl⟩:=hcut
  go_upto_if 31 with fail
  go_cut [7] (fun s7 wx=>s7=yi pw2∧wx=wc)
  case first=>
   cases bb
   ·have e:Hid (pw2=pw):=HP2.out rfl
    go_wp2_with fail
    go_meet
    exact⟨by rw[e.out],rfl⟩
   ·have e:Hid (pw2=L):=HP1.out rfl
    go_wp2_with fail
    go_meet
    exact⟨by rw[e.out],rfl⟩
  case rest=>
   obtain⟨rfl,rfl⟩:=hcut;clear x2 x4 y0 z5 hlt HP1 HP2;have bd_4:yB wc wc.drew:=(Below.refl _ _).drew;have g_5:=g_4.l bd_4;have q_5:=q_4.l bd_4;have c_5:=c_4.l bd_4;have p_5:=p3.l bd_4;have b0_5:=aa b0_4 bd_4;clear g_4 q_4 c_4 p3 b0_4 bd_4;obtain⟨x0,x1,x2,x3,x4⟩:=g_5.cs5;obtain⟨y0,y1,y2,y3⟩:=q_5.cs4
   go_wp2_with fail
   go_region_held3 (fun wq=>(wq.cell? ⟨w.heap.size,0,none⟩=some (yi R)∧wq.cell? ⟨w.heap.size,1,none⟩=some (yi D)∧wq.cell? ⟨w.heap.size,2,none⟩=some (yi L)∧wq.cell? ⟨w.heap.size,3,none⟩=some (yi G)∧wq.cell? ⟨w.heap.size,4,none⟩=some (.bool gr))∧wq.cell? ⟨w.heap.size+1,0,none⟩=some (.bool qs)∧wq.cell? ⟨w.heap.size+1,1,none⟩=some (.slice no nl nc)∧wq.cell? ⟨w.heap.size+1,2,none⟩=some (.slice eo el ec)∧wq.cell? ⟨w.heap.size+1,3,none⟩=some (yi E)) (go_keep) (first
    | (go_at_call 170;have hgd:=b0_5;clear hgd;refine(HWD.out _).mono ?_;rintro z wd1 ⟨rfl,bb_wd1⟩;have b0_wd1:=aa b0_5 bb_wd1;have g_wd1:=g_5.l bb_wd1;have q_wd1:=q_5.l bb_wd1;have c_wd1:=c_5.l bb_wd1;have p_wd1:=p_5.l bb_wd1;obtain⟨xa0,xa1,xa2,xa3,xa4⟩:=g_wd1.cs5;obtain⟨ya0,ya1,ya2,ya3⟩:=q_wd1.cs4;clear b0_5)
    | (go_at_call 169;have hgd:=b0_wd1;clear hgd;refine(HPA.out _ b0_wd1).mono ?_;rintro z we ⟨v9,v10,v11,rfl,o9,o10,r11,bb_we⟩;have b0_we:=aa b0_wd1 bb_we;have g_we:=g_wd1.l bb_we;have q_we:=q_wd1.l bb_we;have c_we:=c_wd1.l bb_we;have p_we:=p_wd1.l bb_we;obtain⟨xb0,xb1,xb2,xb3,xb4⟩:=g_we.cs5;obtain⟨yb0,yb1,yb2,yb3⟩:=q_we.cs4;have ob9:=o9.lower b0_wd1.size;have ob10:=o10.lower b0_wd1.size;clear b0_wd1))
   clear x0 x1 x2 x3 x4 xa0 xa1 xa2 xa3 xa4 xb0 xb1 xb2 xb3 xb4 y0 y1 y2 y3 ya0 ya1 ya2 ya3 yb0 yb1 yb2 yb3 o9 o10 W1 W2 HWD HPA;obtain⟨ro,rk,h10⟩:=ob10.rd.shape;subst h10;obtain⟨qo,qk,h9⟩:=ob9.rd.shape;subst h9;obtain⟨lr,hlr⟩: ∃l,(Dg.dg 4294967296 r).length=l:=⟨_,rfl⟩;have hl0:((lr:Int)==0)=ex:=by rw[HEX.out,←hlr];exact wV r
   obtain⟨lq,hlq⟩: ∃l,(Dg.dg 4294967296 q).length=l:=⟨_,rfl⟩;rw[hlr] at ob10⊢;rw[hlq] at ob9⊢;have y3:=p_we.c 3 rfl;have f3:=p_we.f 3
   go_goals
   go_upto_region 7 with fail
   have hPx: ∀x∈((ypL qs yN 0 false false un):List Value),∀n:Int,x≠ .int .u32 n:=by simp
   have p7:au (we.setCell ⟨PB,3,none⟩ (.bool ex)) PB 151 (ypL qs yN 0 ex false un):=p_we.set 3 (.bool ex);have hAP:PB≠w.heap.size:=by omega
   have hBP:PB≠w.heap.size+1:=by omega
   have hCP:PB≠w.heap.size+1+1:=by omega
   have hPl:w.heap.size≤PB:=by omega
   have g7:=g_we.off (c:=PB) hAP 3 (.bool ex);have q7:=q_we.off (c:=PB) hBP 3 (.bool ex);have c7:=c_we.off (c:=PB) hCP 3 (.bool ex);have o7:=ob9.setE p_we (by decide) 3 (.bool ex);have r7:=ob10.setE p_we (by decide) 3 (.bool ex);have e7:=r11.set (aX r11 p_we hPx) 3 (.bool ex);have b7:=b0_we.setCell (p:=⟨PB,3,none⟩) hPl (.bool ex);clear g_we q_we c_we p_we ob9 ob10 r11 b0_we y3 f3 hPx g_2 q_2 c_2 g_wa q_wa c_wa bb_wa bb_wb g_5 q_5 c_5 p_5 g_wd1 q_wd1 c_wd1 p_wd1 bb_wd1 bb_we;replace hl0:Hid _:=hl0;clear hlr hlq;generalize(we.setCell ⟨PB,3,none⟩ (.bool ex))=W7 at p7 g7 q7 c7 o7 r7 e7 b7⊢;have z3:=p7.c 3 rfl;have z0:=q7.c 0 rfl;have z3d:=p7.drew.c 3 rfl;have z0d:=q7.drew.c 0 rfl
   go_cut [67] (fun s67 wx=>s67= .bool (!ex&&aw)∧yB W7 wx)
   case first=>
    cases ex
    ·have bd7:yB W7 W7.drew:=(Below.refl _ _).drew
     go_wp2_with fail
     go_region_held3 (fun wq=>wq.cell? ⟨PB,3,none⟩=some (.bool false)∧wq.cell? ⟨w.heap.size+1,0,none⟩=some (.bool qs)) (go_keep) (first
      | (go_at_call 75;have hgd:=bd7;clear hgd;refine(HSH.out _ _ (r7.l bd7).rd).mono ?_;rintro z x1 ⟨v1,rfl,o1,bb_x1⟩;have b0_x1:=aa bd7 bb_x1;have q_x1:=(q7.l bd7).l bb_x1;have p_x1:=(p7.l bd7).l bb_x1;have o_x1:=(o7.l bd7).l bb_x1;have r_x1:=(r7.l bd7).l bb_x1;have e_x1:=(e7.l bd7).l bb_x1;have i1:=p_x1.c 3 rfl;have i2:=q_x1.c 0 rfl;clear bd7)
      | (go_at_call 102;have hgd:=b0_x1;clear hgd;refine(HCM.out _ _ _ o1.rd e_x1).mono ?_;rintro z x2 ⟨rfl,bb_x2⟩;have b0_x2:=aa b0_x1 bb_x2;have q_x2:=q_x1.l bb_x2;have p_x2:=p_x1.l bb_x2;have o_x2:=o_x1.l bb_x2;have r_x2:=r_x1.l bb_x2;have e_x2:=e_x1.l bb_x2;have i3:=p_x2.c 3 rfl;have i4:=q_x2.c 0 rfl;clear b0_x1)
      | (go_at_call 103;have hgd:=b0_x2;clear hgd;refine(HOD.out _ _ o_x2.rd).mono ?_;rintro z x3 ⟨rfl,rfl⟩;have b0_x3:=b0_x2;clear b0_x2)
      | ((with_reducible (refine(HAW.out _).mono ?_));rintro z x4 ⟨rfl,bb4⟩;have b0_x4:=aa b0_x3 bb4;have i5:=(p_x2.l bb4).c 3 rfl;have i6:=(q_x2.l bb4).c 0 rfl))
     go_goals
     go_wp2_with fail
     go_meet
     exact⟨rfl,b0_x4⟩
    ·have bd7:yB W7 W7.drew:=(Below.refl _ _).drew
     go_wp2_with fail
     go_quiet (fail)
     go_goals
     go_wp2_with fail
     go_meet
     exact⟨rfl,aL (Below.refl _ _) nq⟩
   case rest=>
    obtain⟨rfl,bw7⟩:=hcut;clear z3 z0 z3d z0d;have g_9:=g7.l bw7;have q_9:=q7.l bw7;have c_9:=c7.l bw7;have p_9:=p7.l bw7;have o_9:=o7.l bw7;have r_9:=r7.l bw7;have e_9:=e7.l bw7;have b0_9:=aa b7 bw7;clear g7 q7 c7 p7 o7 r7 e7 b7 bw7
    go_upto_if 67 with fail
    skip
    go_cut [9] (fun s9 wx=>Own wx w.heap.size 138 .u32 s9 (Dg.dg 4294967296 d)∧yB wc wx)
    case first=>
     have a1:=af wc (.cells #[.int .u32 ((1:Nat):Int)] 138);have r1:=cE (w:=wc) (k:= .u32) (e:=138) [1] #[.int .u32 ((1:Nat):Int)] rfl (by unfold maxLen;simp)
     by_cases hb:ex=false∧aw=true
     ·obtain⟨rfl,rfl⟩:=hb
      have hd1:=HD1.out rfl rfl
      go_wp2_with fail
      refine(HPL.out _ _ _ (o_9.rd.l a1) r1).mono ?_;rintro z wx ⟨vx,rfl,ox,bx⟩
      go_wp2_with fail
      go_meet
      exact⟨by rw[hd1];exact ox.lower (Nat.le_trans b0_9.size a1.size),aa a1 bx⟩
     ·have hd2:=HD2.out (Bf hb).1
      have hf:(!ex&&aw)=false:=(Bf hb).2;rw[hf]
      go_wp2_with fail
      go_meet
      exact⟨by rw[hd2];exact o_9,Below.refl _ _⟩
    case rest=>
     obtain⟨od,bwd⟩:=hcut;have g_10:=g_9.l bwd;have q_10:=q_9.l bwd;have c_10:=c_9.l bwd;have p_10:=p_9.l bwd;have b0_10:=aa b0_9 bwd;clear g_9 q_9 c_9 p_9 b0_9 bwd;obtain⟨so,sk,hs9⟩:=od.rd.shape;subst hs9;have hld:=wV d;obtain⟨ld,hle⟩: ∃l,(Dg.dg 4294967296 d).length=l:=⟨_,rfl⟩;rw[hle] at hld od⊢
     by_cases hd0:d=0
     ·have hl9:ld=0:=by rw[←hle,hd0];rfl
      have HD0:Hid (d=0):=hd0;clear hd0 hld hle od;subst hl9;have rg9:=p_10.range;have th9:=c_10.there 6 rfl;have cR:=c_10.sets (ypL qs yN 0 ex false un) rfl;have buR:=de (w.heap.size+1+1) (ypL qs yN 0 ex false un) 0 wc;have bR:=buR.below b0_10 (show w.heap.size≤w.heap.size+1+1 by omega)
      go_upto_region 10 with fail
      refine wp_region_lit ?_;refine wpList_load_mid rfl 151 (.tmp 8) rfl PB 0 rfl (ypL qs yN 0 ex false un) _ rg9 underlying151 rfl (by kernel_rfl) ?_;refine wpList_store_mid rfl 151 (.tmp 6) (.tmp 74) rfl (w.heap.size+1+1) 0 (ypA qs yN 0 ex false un) rfl rfl th9 (by kernel_rfl) (by simp[Value.oneCell']) ?_;refine wpList_nil ?_;clear rg9 th9 buR p_10 c_10;change Exit.then _ _ _ _ (World.setCells wc (w.heap.size+1+1) 0 (ypL qs yN 0 ex false un));generalize World.setCells wc (w.heap.size+1+1) 0 (ypL qs yN 0 ex false un)=WR at cR bR⊢
      go_goals
      rename_i KK hKK
      refine hKK _ _ (wp_ret ?_);clear hKK;obtain⟨s0,s1,s2,s3,s4,s5⟩:=cR.cs6;refine bodyPost_ret (v:=(ypV qs yN 0 ex false un)) (by simp[results,results131,go_sem,s0,s1,s2,s3,s4,s5]) rfl ?_;rw[HZ.out HD0.out];exact⟨_,rfl,aQ _ _ _ _,bR⟩
     ·have hz:((ld:Int)==0)=false:=by rw[hld];simp[hd0]
      have HDN:Hid (¬d=0):=hd0;clear hd0 hld;obtain⟨x0,x1,x2,x3,x4⟩:=g_10.cs5
      go_wp2_with fail
      refine(HCA.out _ _ _ (hle▸od) (b0_10.size)).mono ?_;rintro z wg ⟨u,rfl,ou,bb11⟩;have g_11:=g_10.l bb11;have q_11:=q_10.l bb11;have c_11:=c_10.l bb11;have p_11:=p_10.l bb11;have o_11:=od.l bb11;have b0_11:=aa b0_10 bb11;clear g_10 q_10 c_10 p_10 od b0_10 bb11;clear x0 x1 x2 x3 x4;obtain⟨uo,uk,hs9⟩:=ou.rd.shape;subst hs9;have asp:=af wg (.cells #[yT uo cd uk,yi cp] 238);have s9:=ah wg [yT uo cd uk,yi cp] 238;have hSB:PB<wg.heap.size:=p_11.lt;have g_12:=g_11.l asp;have q_12:=q_11.l asp;have c_12:=c_11.l asp;have p_12:=p_11.l asp;have o_12:=ou.l asp;have b0_12:=aa b0_11 asp;clear g_11 q_11 c_11 p_11 ou b0_11 asp
      go_upto_region 12 with fail
      generalize wg.alloc (.cells #[yT uo cd uk,yi cp] 238)=W9 at g_12 q_12 c_12 p_12 o_12 s9 b0_12⊢;generalize wg.heap.size=SB at s9 hSB⊢;have x3:=g_12.c 3 rfl;obtain⟨y0,y1⟩:=s9.cs2;have v1:=p_12.c 1 rfl;have f1:=p_12.f 1;have v2:=p_12.c 2 rfl;have f2:=p_12.f 2;have v4:=p_12.c 4 rfl;have f4:=p_12.f 4;have nPG:PB≠w.heap.size:=hAP;have nPS:PB≠SB:=by omega
      go_wp2_with fail
      have bu:But PB W9 (((W9.setCell ⟨PB,1,none⟩ (yT uo cd uk)).setCell ⟨PB,2,none⟩ (yi cp)).setCell ⟨PB,4,none⟩ (.bool (decide (G<cp)))):=((ag W9 PB 1 (yT uo cd uk)).trans (ag _ PB 2 (yi cp))).trans (ag _ PB 4 (.bool (decide (G<cp))));have pX:au (((W9.setCell ⟨PB,1,none⟩ (yT uo cd uk)).setCell ⟨PB,2,none⟩ (yi cp)).setCell ⟨PB,4,none⟩ (.bool (decide (G<cp)))) PB 151 (ypL qs (yT uo cd uk) cp ex (decide (G<cp)) un):=((p_12.set 1 (yT uo cd uk)).set 2 (yi cp)).set 4 (.bool (decide (G<cp)));have cX:=bu.loc c_12 hCP.symm;have oX:=bu.own o_12 p_12 (by decide);have bX:=bu.below b0_12 hPl
      go_region
      clear g_12 q_12 c_12 p_12 o_12 s9 b0_12 x3 y0 y1 v1 v2 v4 f1 f2 f4 bu;generalize(((W9.setCell ⟨PB,1,none⟩ (yT uo cd uk)).setCell ⟨PB,2,none⟩ (yi cp)).setCell ⟨PB,4,none⟩ (.bool (decide (G<cp))))=WX at pX cX oX bX⊢;have bd_12:yB WX WX.drew:=(Below.refl _ _).drew;have p_13:=pX.l bd_12;have c_13:=cX.l bd_12;have o_13:=oX.l bd_12;have b0_13:=aa bX bd_12;clear pX cX oX bX bd_12
      go_goals
      have rg9:=p_13.range;have th9:=c_13.there 6 rfl;have cR:=c_13.sets (ypL qs (yT uo cd uk) cp ex (decide (G<cp)) un) rfl;have buR:=de (w.heap.size+1+1) (ypL qs (yT uo cd uk) cp ex (decide (G<cp)) un) 0 WX.drew;have bR:=buR.below b0_13 (show w.heap.size≤w.heap.size+1+1 by omega)
      have oR:=buR.own o_13 c_13 (by decide)
      go_upto_region 13 with fail
      refine wp_region_lit ?_;refine wpList_load_mid rfl 151 (.tmp 8) rfl PB 0 rfl (ypL qs (yT uo cd uk) cp ex (decide (G<cp)) un) _ rg9 underlying151 rfl (by kernel_rfl) ?_;refine wpList_store_mid rfl 151 (.tmp 6) (.tmp 93) rfl (w.heap.size+1+1) 0 (ypA qs (yT uo cd uk) cp ex (decide (G<cp)) un) rfl rfl th9 (by kernel_rfl) (by simp[Value.oneCell']) ?_;refine wpList_nil ?_;clear rg9 th9 buR p_13 c_13;change Exit.then _ _ _ _ (World.setCells WX.drew (w.heap.size+1+1) 0 (ypL qs (yT uo cd uk) cp ex (decide (G<cp)) un));generalize World.setCells WX.drew (w.heap.size+1+1) 0 (ypL qs (yT uo cd uk) cp ex (decide (G<cp)) un)=WR at cR bR oR⊢
      go_goals
      rename_i KK hKK
      refine hKK _ _ (wp_ret ?_);clear hKK;obtain⟨s0,s1,s2,s3,s4,s5⟩:=cR.cs6;refine bodyPost_ret (v:=(ypV qs (yT uo cd uk) cp ex (decide (G<cp)) un)) (by simp[results,results131,go_sem,s0,s1,s2,s3,s4,s5]) rfl ?_;rw[HNZ.out HDN.out];exact⟨_,rfl,oR,bR⟩
end Go.Proofs.YtpgijbdgljkeeaaGreatDoor

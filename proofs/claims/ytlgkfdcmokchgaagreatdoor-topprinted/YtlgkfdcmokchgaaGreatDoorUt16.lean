/-
  Texts laid together: Take, Back, Gr4, Tx9.
-/
import Derived.Test.YtlgkfdcmokchgaaGreatDoorUt04
import Derived.Test.YtlgkfdcmokchgaaGreatDoorUt08
import Derived.Test.YtlgkfdcmokchgaaGreatDoorUt09
set_option maxRecDepth 100000
set_option maxHeartbeats 12800000
namespace Go.Proofs.YtlgkfdcmokchgaaGreatDoor
open _root_.Go.Proofs.Tryz
open Go.RowKit
theorem H7 (g N i pc base t:Nat)(R ys:List Nat)(vb:Value)(w:World)(ho:Own w base 54 .u32 (.slice (some ⟨g,0,none⟩) N N) R)(sR:Dg.Small 4294967296 R)(sb:Dg.Small 4294967296 ys)
  (hby: ∀w',w.grownBy w' (some g)→Rd w' .u32 vb ys) (hl:i+ys.length<R.length) (ht:t<4294967296) (hRl:R.length≤2000000):
  yC 170 #[.slice (some ⟨g,i,none⟩) (ys.length+1) pc,vb,.int .u32 t] w fun e w'=>
   ∃(b:Nat) (cur:List Nat),e= .returned (.bool (decide (b=1)))∧acc R cur ys i t b∧Own w' base 54 .u32 (.slice (some ⟨g,0,none⟩) N N) cur∧w.grownBy w' (some g):=by
 obtain⟨bo,cb,rfl⟩:=(hby w (ib _ _)).shape;have HBY:Hid _:=hby
 clear hby
 go_enter func170,ntmps170
 go_wp2
 go_loopw [7,8,14] (fun cv bv kv wr=> ∃(k c b:Nat) (cur:List Nat),k≤ys.length∧kv=yi k∧cv= .int .u64 c∧bv= .int .u32 b∧Own wr base 54 .u32 (.slice (some ⟨g,0,none⟩) N N) cur∧SX R cur ys i t k c b∧w.grownBy wr (some g)) (fun _ _ kv _=>ys.length-(intOf kv).toNat)
 case atStart=>exact⟨0,0,0,R,Nat.zero_le _,rfl,rfl,rfl,ho,⟨rfl,sR,by omega,by omega,fun _ _=>rfl,by simp[Dg.vl]⟩,ib _ _⟩
 case round=>
  clear ho;obtain⟨k,c,b,cur,hk,rfl,rfl,rfl,own,hI,gr⟩:=hrel;have hcl:=hI.1;have hc32:=hI.2.2.1;have hb1:=hI.2.2.2.1
  by_cases hlt:k<ys.length
  ·obtain⟨-,-,hcb⟩:=iQ (HBY.out wr gr)
   obtain⟨b2,off2,rfl,hcell2⟩:=hcb (by omega);have hy:=hcell2 k hlt;have hyl:=sb k;have hp:=own.c (i+k) (by omega);have hf:=own.f (i+k);rw[hI.2.2.2.2.1 _ (Nat.le_refl _)] at hp;have hpl:=sR (i+k);obtain⟨y,ey⟩: ∃y,ys.getD k 0=y:=⟨_,rfl⟩;obtain⟨p,ep⟩: ∃p,R.getD (i+k) 0=p:=⟨_,rfl⟩;rw[ey] at hy hyl;rw[ep] at hp hpl;have hxy:=uf hyl ht;have hxyI:(y:Int)*(t:Int)≤18446744065119617025:=by rw[←Int.natCast_mul];omega
   have hxy0:0≤(y:Int)*(t:Int):=by rw[←Int.natCast_mul];omega
   have hst:=VS hI hlt (by omega) ey ep hpl rfl (by omega);have hlo:(c+y*t) % 4294967296<4294967296:=Nat.mod_lt _ (by omega);have hs32:=zA p ((c+y*t) % 4294967296) b wr hpl hlo hb1;rw[←Sd] at hs32;have HST:Hid _:=hst;obtain⟨nw,hnw⟩: ∃nw,(p+4294967296-(c+y*t) % 4294967296-b) % 4294967296=nw:=⟨_,rfl⟩;obtain⟨nb,hnb⟩: ∃nb,brw p ((c+y*t) % 4294967296) b=nb:=⟨_,rfl⟩;rw[hnw,hnb] at hs32 HST;clear ey ep hcell2 hcb hst hlo hcl hnw hnb
   go_wp2_with fail
   refine hs32.mono ?_;rintro e w' ⟨rfl,rfl⟩;clear hs32
   go_wp2
   go_roundw
   case rel=>
    rw[Se];exact⟨k+1,_,nb,_,by omega,by go_num,rfl,rfl,own.store (i+k) _,HST.out,eF gr (bI _ _ _ _)⟩
   case measure=>simp[intOf];omega
  ·have hke:k=ys.length:=by omega
   subst hke;have hp:=own.c (i+ys.length) (by omega);have hf:=own.f (i+ys.length);rw[hI.2.2.2.2.1 _ (Nat.le_refl _)] at hp;have hpl:=sR (i+ys.length);obtain⟨p,ep⟩: ∃p,R.getD (i+ys.length) 0=p:=⟨_,rfl⟩;rw[ep] at hp hpl;have hst:=VT hI hl ep hpl;have hs32:=zA p c b wr hpl hc32 hb1;have hbl:=RN p c b;obtain⟨nw,hnw⟩: ∃nw,(p+4294967296-c-b) % 4294967296=nw:=⟨_,rfl⟩;obtain⟨nb,hnb⟩: ∃nb,brw p c b=nb:=⟨_,rfl⟩;rw[hnw,hnb] at hs32 hst;rw[hnb] at hbl;have HST:Hid (acc R (cur.set (i+ys.length) nw) ys i t nb):=⟨hst.1,hst.2.1,hst.2.2.1,hbl,hst.2.2.2⟩;have own2:=own.store (i+ys.length) nw;have gr2:=eF gr (bI wr g (i+ys.length) (.int .u32 (nw:Int)));clear ep hst hcl hnw hnb
   go_wp2_with fail
   refine hs32.mono ?_;rintro e w' ⟨rfl,rfl⟩;clear hs32
   by_cases hz:nb=0
   ·subst hz
    go_wp2
    go_ret
    exact⟨0,_,rfl,HST,own2,gr2⟩
   ·have hz1:nb=1:=by omega
    subst hz1
    go_wp2
    go_ret
    exact⟨1,_,rfl,HST,own2,gr2⟩
theorem Mj (g N i pc base:Nat)(R ys:List Nat)(vb:Value)(w:World)(ho:Own w base 54 .u32 (.slice (some ⟨g,0,none⟩) N N) R)(sR:Dg.Small 4294967296 R)(sb:Dg.Small 4294967296 ys)
  (hby: ∀w',w.grownBy w' (some g)→Rd w' .u32 vb ys) (hl:i+ys.length<R.length) (hRl:R.length≤2000000):
  yC 171 #[.slice (some ⟨g,i,none⟩) (ys.length+1) pc,vb] w fun e w'=>
   ∃(o:Nat) (cur:List Nat),e= .returned (.tuple #[])∧Py R cur ys i o∧Own w' base 54 .u32 (.slice (some ⟨g,0,none⟩) N N) cur∧w.grownBy w' (some g):=by
 obtain⟨bo,cb,rfl⟩:=(hby w (ib _ _)).shape;have HBY:Hid _:=hby
 clear hby
 go_enter func171,ntmps171
 go_wp2
 go_loopw [4,9] (fun cv kv wr=> ∃(k c:Nat) (cur:List Nat),k≤ys.length∧kv=yi k∧cv= .int .u32 c∧Own wr base 54 .u32 (.slice (some ⟨g,0,none⟩) N N) cur∧Sp R cur ys i k c∧w.grownBy wr (some g)) (fun _ kv _=>ys.length-(intOf kv).toNat)
 case atStart=>exact⟨0,0,R,Nat.zero_le _,rfl,rfl,ho,⟨rfl,sR,by omega,fun _ _=>rfl,by simp[Dg.vl]⟩,ib _ _⟩
 case round=>
  clear ho;obtain⟨k,c,cur,hk,rfl,rfl,own,hI,gr⟩:=hrel;have hcl:=hI.1;have hc1:=hI.2.2.1
  by_cases hlt:k<ys.length
  ·obtain⟨-,-,hcb⟩:=iQ (HBY.out wr gr)
   obtain⟨b2,off2,rfl,hcell2⟩:=hcb (by omega);have hy:=hcell2 k hlt;have hyl:=sb k;have hp:=own.c (i+k) (by omega);have hf:=own.f (i+k);rw[hI.2.2.2.1 _ (Nat.le_refl _)] at hp;have hpl:=sR (i+k);obtain⟨y,ey⟩: ∃y,ys.getD k 0=y:=⟨_,rfl⟩;obtain⟨p,ep⟩: ∃p,R.getD (i+k) 0=p:=⟨_,rfl⟩;rw[ey] at hy hyl;rw[ep] at hp hpl;have hst:=TV hI (by omega) ey ep hpl hyl;have ha32:=ur p y c wr hpl hyl hc1;clear ey ep hcell2 hcb hcl
   go_wp2_with fail
   refine ha32.mono ?_;rintro e w' ⟨rfl,rfl⟩;clear ha32
   go_wp2
   go_roundw
   case rel=>exact⟨k+1,_,_,by omega,by go_num,rfl,own.store (i+k) _,hst,eF gr (bI _ _ _ _)⟩
   case measure=>simp[intOf];omega
  ·have hke:k=ys.length:=by omega
   subst hke;have hp:=own.c (i+ys.length) (by omega);have hf:=own.f (i+ys.length);rw[hI.2.2.2.1 _ (Nat.le_refl _)] at hp;have hpl:=sR (i+ys.length);obtain⟨p,ep⟩: ∃p,R.getD (i+ys.length) 0=p:=⟨_,rfl⟩;rw[ep] at hp hpl;have hst:=TW hI hl ep hpl;have e0:((p:Int)+(c:Int)) % 4294967296=(((p+c) % 4294967296:Nat):Int):=by omega
   have own2:=own.store (i+ys.length) ((p+c) % 4294967296);have gr2:=eF gr (bI wr g (i+ys.length) (.int .u32 (((p+c) % 4294967296:Nat):Int)));rw[←e0] at own2 gr2;have HST:Hid _:=hst;clear ep hst hcl e0
   go_wp2
   go_end0
   exact⟨_,_,rfl,HST,own2,gr2⟩
theorem Mt (R D L G:Int)(gr:Bool)(qs:Bool)(no:Option Addr)(nl nc:Nat)(eo:Option Addr)(el ec:Nat)(E:Int)(fn:FuncId)(T pw pw2 wd:Int)(q r dn:Nat)(half:Int)(odd aw un ex bb:Bool)(d cd:Nat)(cp:Int)(PT:fz)(w:World)
  (hun:un=decide (pw<L)) (hex:ex=decide (r=0)) (hbb:(un&&gr)=bb) (HP1:bb=true→pw2=L) (HP2:bb=false→pw2=pw)
  (W1:IntKind.i64.wrap (wd*pw2)=wd*pw2) (W2:IntKind.i64.wrap (E-wd*pw2)=E-wd*pw2)
  (HD1:ex=false→aw=true→d=q+1) (HD2:ex=true∨aw=false→d=q)
  (HZ:d=0→PT=⟨qs,0,0,ex,false,un⟩) (HNZ: ¬d=0→PT=⟨qs,cd,cp,ex,decide (G<cp),un⟩)
  (HE: ∀args W,Sem.run Tryz.prog (callFunc fn args) W= .ok (.enter fn args) W)
  (HT:yH w 117 #[yrV qs (.slice no nl nc) (.slice eo el ec) E] (yi T))
  (HPW:yJ 116 #[ygV R D L G gr,yi T] (yi pw))
  (HWD:yJ 119 #[ygV R D L G gr] (yi wd))
  (HPA: ∀w1,yB w w1→yC 118 #[yrV qs (.slice no nl nc) (.slice eo el ec) E,yi (E-wd*pw2)] w1 (WH w1 q r dn))
  (HSH: ∀v w1,Rd w1 .u32 v (Dg.dg 4294967296 r)→yC 91 #[v,yi 1] w1 (Num w1 (r*2)))
  (HCM: ∀v u w1,Rd w1 .u32 v (Dg.dg 4294967296 (r*2))→Rd w1 .u32 u (Dg.dg 4294967296 dn)→yC 93 #[v,u] w1 (yR w1 (yi half)))
  (HOD: ∀v w1,Rd w1 .u32 v (Dg.dg 4294967296 q)→yC 94 #[v] w1 fun z w'=>z= .returned (.bool odd)∧w'=w1)
  (HAW:yJ fn #[.agg #[yi half,.bool odd,.bool qs]] (.bool aw))
  (HPL: ∀v u w1,Rd w1 .u32 v (Dg.dg 4294967296 q)→Rd w1 .u32 u [1]→yC 82 #[v,u] w1 (Num w1 (q+1)))
  (HCA: ∀v base w1,Own w1 base 54 .u32 v (Dg.dg 4294967296 d)→base≤w1.heap.size→yC 120 #[ygV R D L G gr,.agg #[v,yi pw2]] w1 fun z w'=> ∃u,z= .returned (.agg #[u,yi cp])∧Own w' base 54 .u32 u (Dg.dg 4294967296 cd)∧yB w1 w'):
  yC 77 #[ygV R D L G gr,yrV qs (.slice no nl nc) (.slice eo el ec) E,.func (.func fn) #[] #[]] w (Fk w PT):=by
 replace HP1:Hid _:=HP1;replace HP2:Hid _:=HP2;replace HD1:Hid _:=HD1;replace HD2:Hid _:=HD2;replace HZ:Hid _:=HZ;replace HNZ:Hid _:=HNZ;replace HT:Hid _:=HT;replace HPW:Hid _:=HPW;replace HWD:Hid _:=HWD;replace HPA:Hid _:=HPA;replace HSH:Hid _:=HSH;replace HCM:Hid _:=HCM;replace HOD:Hid _:=HOD;replace HAW:Hid _:=HAW;replace HPL:Hid _:=HPL;replace HCA:Hid _:=HCA;have HUN:Hid _:=hun;have HEX:Hid _:=hex;have HBB:Hid _:=hbb;clear hbb;have b1:=aa (aa (af w (.cells (ygA R D L G gr) 145)) (af _ (.cells (yrA qs (.slice no nl nc) (.slice eo el ec) E) 60))) (af _ (.cells (ypA false yN 0 false false false) 84));have g1:=((ah w (ygL R D L G gr) 145).l (af _ (.cells (yrA qs (.slice no nl nc) (.slice eo el ec) E) 60))).l (af _ (.cells (ypA false yN 0 false false false) 84));have q1:=(ah (w.alloc (.cells (ygA R D L G gr) 145)) (yrL qs (.slice no nl nc) (.slice eo el ec) E) 60).l (af _ (.cells (ypA false yN 0 false false false) 84));have c1:=ah ((w.alloc (.cells (ygA R D L G gr) 145)).alloc (.cells (yrA qs (.slice no nl nc) (.slice eo el ec) E) 60)) (ypL false yN 0 false false false) 84;simp only[World.size_alloc] at q1 c1;have g_2:=g1.l ((Below.refl _ _).drew);have q_2:=q1.l ((Below.refl _ _).drew);have c_2:=c1.l ((Below.refl _ _).drew);have b0_2:=aa b1 ((Below.refl _ _).drew);clear g1 q1 c1 b1;obtain⟨x0,x1,x2,x3,x4⟩:=g_2.cs5;obtain⟨y0,y1,y2,y3⟩:=q_2.cs4
 go_enter func77,ntmps77
 go_wp2_with fail
 go_region_held3 (fun wq=>(wq.cell? ⟨w.heap.size,0,none⟩=some (yi R)∧wq.cell? ⟨w.heap.size,1,none⟩=some (yi D)∧wq.cell? ⟨w.heap.size,2,none⟩=some (yi L)∧wq.cell? ⟨w.heap.size,3,none⟩=some (yi G)∧wq.cell? ⟨w.heap.size,4,none⟩=some (.bool gr))∧wq.cell? ⟨w.heap.size+1,0,none⟩=some (.bool qs)∧wq.cell? ⟨w.heap.size+1,1,none⟩=some (.slice no nl nc)∧wq.cell? ⟨w.heap.size+1,2,none⟩=some (.slice eo el ec)∧wq.cell? ⟨w.heap.size+1,3,none⟩=some (yi E)) (go_keep) (first
  | (go_at_call 117;have hgd:=b0_2;clear hgd;refine(HT.out _ b0_2).mono ?_;rintro z wa ⟨rfl,bb_wa⟩;have b0_wa:=aa b0_2 bb_wa;have g_wa:=g_2.l bb_wa;have q_wa:=q_2.l bb_wa;have c_wa:=c_2.l bb_wa;obtain⟨xa0,xa1,xa2,xa3,xa4⟩:=g_wa.cs5;obtain⟨ya0,ya1,ya2,ya3⟩:=q_wa.cs4;clear b0_2)
  | (go_at_call 116;have hgd:=b0_wa;clear hgd;refine(HPW.out _).mono ?_;rintro z wb ⟨rfl,bb_wb⟩;have b0_wb:=aa b0_wa bb_wb;have g_wb:=g_wa.l bb_wb;have q_wb:=q_wa.l bb_wb;have c_wb:=c_wa.l bb_wb;obtain⟨xb0,xb1,xb2,xb3,xb4⟩:=g_wb.cs5;obtain⟨yb0,yb1,yb2,yb3⟩:=q_wb.cs4;clear b0_wa))
 clear x0 x1 x2 x3 x4 xa0 xa1 xa2 xa3 xa4 xb0 xb1 xb2 xb3 xb4 y0 y1 y2 y3 ya0 ya1 ya2 ya3 yb0 yb1 yb2 yb3;have ap:=af wb (.cells (ypA qs yN 0 false false un) 84);have p3:=ah wb (ypL qs yN 0 false false un) 84;have hPb:w.heap.size+1+1<wb.heap.size:=c_wb.lt;have g_4:=g_wb.l ap;have q_4:=q_wb.l ap;have c_4:=c_wb.l ap;have b0_4:=aa b0_wb ap;clear g_wb q_wb c_wb b0_wb ap
 skip
 skip
 have x2:=g_4.c 2 rfl;have x4:=g_4.c 4 rfl;have y0:=q_4.c 0 rfl;have hlt:decide (pw<L)=un:=HUN.out.symm;clear hun hex
 go_goals
 go_upto_region 3 with fail
 generalize hW4:wb.alloc (.cells (ypA qs yN 0 false false un) 84)=W4 at g_4 q_4 c_4 p3 b0_4 x2 x4 y0⊢;generalize wb.heap.size=PB at p3 hPb⊢;clear hW4;have z5:=p3.c 5 rfl
 go_cut [31] (fun s31 wx=>s31= .bool bb∧wx=W4)
 case first=>
  cases un
  ·go_wp2_with fail
   go_meet
   exact⟨by rw[←HBB.out];rfl,rfl⟩
  ·go_wp2_with fail
   go_meet
   exact⟨by rw[←HBB.out];rfl,rfl⟩
 case rest=>
  obtain⟨rfl,rfl⟩:=hcut
  go_upto_if 31 with fail
  go_cut [7] (fun s7 wx=>s7=yi pw2∧wx=wc)
  case first=>
   cases bb
   ·have e:Hid (pw2=pw):=HP2.out rfl
    go_wp2_with fail
    go_meet
    exact⟨by rw[e.out],rfl⟩
   ·have e:Hid (pw2=L):=HP1.out rfl
    go_wp2_with fail
    go_meet
    exact⟨by rw[e.out],rfl⟩
  case rest=>
   obtain⟨rfl,rfl⟩:=hcut;clear x2 x4 y0 z5 hlt HP1 HP2;have bd_4:yB wc wc.drew:=(Below.refl _ _).drew;have g_5:=g_4.l bd_4;have q_5:=q_4.l bd_4;have c_5:=c_4.l bd_4;have p_5:=p3.l bd_4;have b0_5:=aa b0_4 bd_4;clear g_4 q_4 c_4 p3 b0_4 bd_4;obtain⟨x0,x1,x2,x3,x4⟩:=g_5.cs5;obtain⟨y0,y1,y2,y3⟩:=q_5.cs4
   go_wp2_with fail
   go_region_held3 (fun wq=>(wq.cell? ⟨w.heap.size,0,none⟩=some (yi R)∧wq.cell? ⟨w.heap.size,1,none⟩=some (yi D)∧wq.cell? ⟨w.heap.size,2,none⟩=some (yi L)∧wq.cell? ⟨w.heap.size,3,none⟩=some (yi G)∧wq.cell? ⟨w.heap.size,4,none⟩=some (.bool gr))∧wq.cell? ⟨w.heap.size+1,0,none⟩=some (.bool qs)∧wq.cell? ⟨w.heap.size+1,1,none⟩=some (.slice no nl nc)∧wq.cell? ⟨w.heap.size+1,2,none⟩=some (.slice eo el ec)∧wq.cell? ⟨w.heap.size+1,3,none⟩=some (yi E)) (go_keep) (first
    | (go_at_call 119;have hgd:=b0_5;clear hgd;refine(HWD.out _).mono ?_;rintro z wd1 ⟨rfl,bb_wd1⟩;have b0_wd1:=aa b0_5 bb_wd1;have g_wd1:=g_5.l bb_wd1;have q_wd1:=q_5.l bb_wd1;have c_wd1:=c_5.l bb_wd1;have p_wd1:=p_5.l bb_wd1;obtain⟨xa0,xa1,xa2,xa3,xa4⟩:=g_wd1.cs5;obtain⟨ya0,ya1,ya2,ya3⟩:=q_wd1.cs4;clear b0_5)
    | (go_at_call 118;have hgd:=b0_wd1;clear hgd;refine(HPA.out _ b0_wd1).mono ?_;rintro z we ⟨v9,v10,v11,rfl,o9,o10,r11,bb_we⟩;have b0_we:=aa b0_wd1 bb_we;have g_we:=g_wd1.l bb_we;have q_we:=q_wd1.l bb_we;have c_we:=c_wd1.l bb_we;have p_we:=p_wd1.l bb_we;obtain⟨xb0,xb1,xb2,xb3,xb4⟩:=g_we.cs5;obtain⟨yb0,yb1,yb2,yb3⟩:=q_we.cs4;have ob9:=o9.lower b0_wd1.size;have ob10:=o10.lower b0_wd1.size;clear b0_wd1))
   clear x0 x1 x2 x3 x4 xa0 xa1 xa2 xa3 xa4 xb0 xb1 xb2 xb3 xb4 y0 y1 y2 y3 ya0 ya1 ya2 ya3 yb0 yb1 yb2 yb3 o9 o10 W1 W2 HWD HPA;obtain⟨ro,rk,h10⟩:=ob10.rd.shape;subst h10;obtain⟨qo,qk,h9⟩:=ob9.rd.shape;subst h9;obtain⟨lr,hlr⟩: ∃l,(Dg.dg 4294967296 r).length=l:=⟨_,rfl⟩;have hl0:((lr:Int)==0)=ex:=by rw[HEX.out,←hlr];exact wV r
   obtain⟨lq,hlq⟩: ∃l,(Dg.dg 4294967296 q).length=l:=⟨_,rfl⟩;rw[hlr] at ob10⊢;rw[hlq] at ob9⊢;have y3:=p_we.c 3 rfl;have f3:=p_we.f 3
   go_goals
   go_upto_region 7 with fail
   have hPx: ∀x∈((ypL qs yN 0 false false un):List Value),∀n:Int,x≠ .int .u32 n:=by simp
   have p7:au (we.setCell ⟨PB,3,none⟩ (.bool ex)) PB 84 (ypL qs yN 0 ex false un):=p_we.set 3 (.bool ex);have hAP:PB≠w.heap.size:=by omega
   have hBP:PB≠w.heap.size+1:=by omega
   have hCP:PB≠w.heap.size+1+1:=by omega
   have hPl:w.heap.size≤PB:=by omega
   have g7:=g_we.off (c:=PB) hAP 3 (.bool ex);have q7:=q_we.off (c:=PB) hBP 3 (.bool ex);have c7:=c_we.off (c:=PB) hCP 3 (.bool ex);have o7:=ob9.setE p_we (by decide) 3 (.bool ex);have r7:=ob10.setE p_we (by decide) 3 (.bool ex);have e7:=r11.set (aX r11 p_we hPx) 3 (.bool ex);have b7:=b0_we.setCell (p:=⟨PB,3,none⟩) hPl (.bool ex);clear g_we q_we c_we p_we ob9 ob10 r11 b0_we y3 f3 hPx g_2 q_2 c_2 g_wa q_wa c_wa bb_wa bb_wb g_5 q_5 c_5 p_5 g_wd1 q_wd1 c_wd1 p_wd1 bb_wd1 bb_we;replace hl0:Hid _:=hl0;clear hlr hlq;generalize(we.setCell ⟨PB,3,none⟩ (.bool ex))=W7 at p7 g7 q7 c7 o7 r7 e7 b7⊢;have z3:=p7.c 3 rfl;have z0:=q7.c 0 rfl;have z3d:=p7.drew.c 3 rfl;have z0d:=q7.drew.c 0 rfl
   go_cut [67] (fun s67 wx=>s67= .bool (!ex&&aw)∧yB W7 wx)
   case first=>
    cases ex
    ·have bd7:yB W7 W7.drew:=(Below.refl _ _).drew
     go_wp2_with fail
     go_region_held3 (fun wq=>wq.cell? ⟨PB,3,none⟩=some (.bool false)∧wq.cell? ⟨w.heap.size+1,0,none⟩=some (.bool qs)) (go_keep) (first
      | (go_at_call 91;have hgd:=bd7;clear hgd;refine(HSH.out _ _ (r7.l bd7).rd).mono ?_;rintro z x1 ⟨v1,rfl,o1,bb_x1⟩;have b0_x1:=aa bd7 bb_x1;have q_x1:=(q7.l bd7).l bb_x1;have p_x1:=(p7.l bd7).l bb_x1;have o_x1:=(o7.l bd7).l bb_x1;have r_x1:=(r7.l bd7).l bb_x1;have e_x1:=(e7.l bd7).l bb_x1;have i1:=p_x1.c 3 rfl;have i2:=q_x1.c 0 rfl;clear bd7)
      | (go_at_call 93;have hgd:=b0_x1;clear hgd;refine(HCM.out _ _ _ o1.rd e_x1).mono ?_;rintro z x2 ⟨rfl,bb_x2⟩;have b0_x2:=aa b0_x1 bb_x2;have q_x2:=q_x1.l bb_x2;have p_x2:=p_x1.l bb_x2;have o_x2:=o_x1.l bb_x2;have r_x2:=r_x1.l bb_x2;have e_x2:=e_x1.l bb_x2;have i3:=p_x2.c 3 rfl;have i4:=q_x2.c 0 rfl;clear b0_x1)
      | (go_at_call 94;have hgd:=b0_x2;clear hgd;refine(HOD.out _ _ o_x2.rd).mono ?_;rintro z x3 ⟨rfl,rfl⟩;have b0_x3:=b0_x2;clear b0_x2)
      | ((with_reducible (refine(HAW.out _).mono ?_));rintro z x4 ⟨rfl,bb4⟩;have b0_x4:=aa b0_x3 bb4;have i5:=(p_x2.l bb4).c 3 rfl;have i6:=(q_x2.l bb4).c 0 rfl))
     go_goals
     go_wp2_with fail
     go_meet
     exact⟨rfl,b0_x4⟩
    ·have bd7:yB W7 W7.drew:=(Below.refl _ _).drew
     go_wp2_with fail
     go_quiet (fail)
     go_goals
     go_wp2_with fail
     go_meet
     exact⟨rfl,aL (Below.refl _ _) nq⟩
   case rest=>
    obtain⟨rfl,bw7⟩:=hcut;clear z3 z0 z3d z0d;have g_9:=g7.l bw7;have q_9:=q7.l bw7;have c_9:=c7.l bw7;have p_9:=p7.l bw7;have o_9:=o7.l bw7;have r_9:=r7.l bw7;have e_9:=e7.l bw7;have b0_9:=aa b7 bw7;clear g7 q7 c7 p7 o7 r7 e7 b7 bw7
    go_upto_if 67 with fail
    skip
    go_cut [9] (fun s9 wx=>Own wx w.heap.size 54 .u32 s9 (Dg.dg 4294967296 d)∧yB wc wx)
    case first=>
     have a1:=af wc (.cells #[.int .u32 ((1:Nat):Int)] 54);have r1:=cE (w:=wc) (k:= .u32) (e:=54) [1] #[.int .u32 ((1:Nat):Int)] rfl (by unfold maxLen;simp)
     by_cases hb:ex=false∧aw=true
     ·obtain⟨rfl,rfl⟩:=hb
      have hd1:=HD1.out rfl rfl
      go_wp2_with fail
      refine(HPL.out _ _ _ (o_9.rd.l a1) r1).mono ?_;rintro z wx ⟨vx,rfl,ox,bx⟩
      go_wp2_with fail
      go_meet
      exact⟨by rw[hd1];exact ox.lower (Nat.le_trans b0_9.size a1.size),aa a1 bx⟩
     ·have hd2:=HD2.out (Bf hb).1
      have hf:(!ex&&aw)=false:=(Bf hb).2;rw[hf]
      go_wp2_with fail
      go_meet
      exact⟨by rw[hd2];exact o_9,Below.refl _ _⟩
    case rest=>
     obtain⟨od,bwd⟩:=hcut;have g_10:=g_9.l bwd;have q_10:=q_9.l bwd;have c_10:=c_9.l bwd;have p_10:=p_9.l bwd;have b0_10:=aa b0_9 bwd;clear g_9 q_9 c_9 p_9 b0_9 bwd;obtain⟨so,sk,hs9⟩:=od.rd.shape;subst hs9;have hld:=wV d;obtain⟨ld,hle⟩: ∃l,(Dg.dg 4294967296 d).length=l:=⟨_,rfl⟩;rw[hle] at hld od⊢
     by_cases hd0:d=0
     ·have hl9:ld=0:=by rw[←hle,hd0];rfl
      have HD0:Hid (d=0):=hd0;clear hd0 hld hle od;subst hl9;have rg9:=p_10.range;have th9:=c_10.there 6 rfl;have cR:=c_10.sets (ypL qs yN 0 ex false un) rfl;have buR:=de (w.heap.size+1+1) (ypL qs yN 0 ex false un) 0 wc;have bR:=buR.below b0_10 (show w.heap.size≤w.heap.size+1+1 by omega)
      go_upto_region 10 with fail
      refine wp_region_lit ?_;refine wpList_load_mid rfl 84 (.tmp 8) rfl PB 0 rfl (ypL qs yN 0 ex false un) _ rg9 underlying84 rfl (by kernel_rfl) ?_;refine wpList_store_mid rfl 84 (.tmp 6) (.tmp 74) rfl (w.heap.size+1+1) 0 (ypA qs yN 0 ex false un) rfl rfl th9 (by kernel_rfl) (by simp[Value.oneCell']) ?_;refine wpList_nil ?_;clear rg9 th9 buR p_10 c_10;change Exit.then _ _ _ _ (World.setCells wc (w.heap.size+1+1) 0 (ypL qs yN 0 ex false un));generalize World.setCells wc (w.heap.size+1+1) 0 (ypL qs yN 0 ex false un)=WR at cR bR⊢
      go_goals
      rename_i KK hKK
      refine hKK _ _ (wp_ret ?_);clear hKK;obtain⟨s0,s1,s2,s3,s4,s5⟩:=cR.cs6;refine bodyPost_ret (v:=(ypV qs yN 0 ex false un)) (by simp[results,results77,go_sem,s0,s1,s2,s3,s4,s5]) rfl ?_;rw[HZ.out HD0.out];exact⟨_,rfl,aQ _ _ _ _,bR⟩
     ·have hz:((ld:Int)==0)=false:=by rw[hld];simp[hd0]
      have HDN:Hid (¬d=0):=hd0;clear hd0 hld;obtain⟨x0,x1,x2,x3,x4⟩:=g_10.cs5
      go_wp2_with fail
      refine(HCA.out _ _ _ (hle▸od) (b0_10.size)).mono ?_;rintro z wg ⟨u,rfl,ou,bb11⟩;have g_11:=g_10.l bb11;have q_11:=q_10.l bb11;have c_11:=c_10.l bb11;have p_11:=p_10.l bb11;have o_11:=od.l bb11;have b0_11:=aa b0_10 bb11;clear g_10 q_10 c_10 p_10 od b0_10 bb11;clear x0 x1 x2 x3 x4;obtain⟨uo,uk,hs9⟩:=ou.rd.shape;subst hs9;have asp:=af wg (.cells #[yT uo cd uk,yi cp] 153);have s9:=ah wg [yT uo cd uk,yi cp] 153;have hSB:PB<wg.heap.size:=p_11.lt;have g_12:=g_11.l asp;have q_12:=q_11.l asp;have c_12:=c_11.l asp;have p_12:=p_11.l asp;have o_12:=ou.l asp;have b0_12:=aa b0_11 asp;clear g_11 q_11 c_11 p_11 ou b0_11 asp
      go_upto_region 12 with fail
      generalize wg.alloc (.cells #[yT uo cd uk,yi cp] 153)=W9 at g_12 q_12 c_12 p_12 o_12 s9 b0_12⊢;generalize wg.heap.size=SB at s9 hSB⊢;have x3:=g_12.c 3 rfl;obtain⟨y0,y1⟩:=s9.cs2;have v1:=p_12.c 1 rfl;have f1:=p_12.f 1;have v2:=p_12.c 2 rfl;have f2:=p_12.f 2;have v4:=p_12.c 4 rfl;have f4:=p_12.f 4;have nPG:PB≠w.heap.size:=hAP;have nPS:PB≠SB:=by omega
      go_wp2_with fail
      have bu:But PB W9 (((W9.setCell ⟨PB,1,none⟩ (yT uo cd uk)).setCell ⟨PB,2,none⟩ (yi cp)).setCell ⟨PB,4,none⟩ (.bool (decide (G<cp)))):=((ag W9 PB 1 (yT uo cd uk)).trans (ag _ PB 2 (yi cp))).trans (ag _ PB 4 (.bool (decide (G<cp))));have pX:au (((W9.setCell ⟨PB,1,none⟩ (yT uo cd uk)).setCell ⟨PB,2,none⟩ (yi cp)).setCell ⟨PB,4,none⟩ (.bool (decide (G<cp)))) PB 84 (ypL qs (yT uo cd uk) cp ex (decide (G<cp)) un):=((p_12.set 1 (yT uo cd uk)).set 2 (yi cp)).set 4 (.bool (decide (G<cp)));have cX:=bu.loc c_12 hCP.symm;have oX:=bu.own o_12 p_12 (by decide);have bX:=bu.below b0_12 hPl
      go_region
      clear g_12 q_12 c_12 p_12 o_12 s9 b0_12 x3 y0 y1 v1 v2 v4 f1 f2 f4 bu;generalize(((W9.setCell ⟨PB,1,none⟩ (yT uo cd uk)).setCell ⟨PB,2,none⟩ (yi cp)).setCell ⟨PB,4,none⟩ (.bool (decide (G<cp))))=WX at pX cX oX bX⊢;have bd_12:yB WX WX.drew:=(Below.refl _ _).drew;have p_13:=pX.l bd_12;have c_13:=cX.l bd_12;have o_13:=oX.l bd_12;have b0_13:=aa bX bd_12;clear pX cX oX bX bd_12
      go_goals
      have rg9:=p_13.range;have th9:=c_13.there 6 rfl;have cR:=c_13.sets (ypL qs (yT uo cd uk) cp ex (decide (G<cp)) un) rfl;have buR:=de (w.heap.size+1+1) (ypL qs (yT uo cd uk) cp ex (decide (G<cp)) un) 0 WX.drew;have bR:=buR.below b0_13 (show w.heap.size≤w.heap.size+1+1 by omega)
      have oR:=buR.own o_13 c_13 (by decide)
      go_upto_region 13 with fail
      refine wp_region_lit ?_;refine wpList_load_mid rfl 84 (.tmp 8) rfl PB 0 rfl (ypL qs (yT uo cd uk) cp ex (decide (G<cp)) un) _ rg9 underlying84 rfl (by kernel_rfl) ?_;refine wpList_store_mid rfl 84 (.tmp 6) (.tmp 93) rfl (w.heap.size+1+1) 0 (ypA qs (yT uo cd uk) cp ex (decide (G<cp)) un) rfl rfl th9 (by kernel_rfl) (by simp[Value.oneCell']) ?_;refine wpList_nil ?_;clear rg9 th9 buR p_13 c_13;change Exit.then _ _ _ _ (World.setCells WX.drew (w.heap.size+1+1) 0 (ypL qs (yT uo cd uk) cp ex (decide (G<cp)) un));generalize World.setCells WX.drew (w.heap.size+1+1) 0 (ypL qs (yT uo cd uk) cp ex (decide (G<cp)) un)=WR at cR bR oR⊢
      go_goals
      rename_i KK hKK
      refine hKK _ _ (wp_ret ?_);clear hKK;obtain⟨s0,s1,s2,s3,s4,s5⟩:=cR.cs6;refine bodyPost_ret (v:=(ypV qs (yT uo cd uk) cp ex (decide (G<cp)) un)) (by simp[results,results77,go_sem,s0,s1,s2,s3,s4,s5]) rfl ?_;rw[HNZ.out HDN.out];exact⟨_,rfl,oR,bR⟩
theorem tprint_W (ng od:Bool)(hv Pn U f r r2 f1 gq n:Nat)(ho:Option Addr)(hc:Nat)(cn pw k c pw1:Int)(T:ByteArray)(ia:Int→ByteArray)(w:World)(rh:Rd w .u32 (yT ho hv hc) (Dg.dg 4294967296 hv))(hk:IntKind.i64.wrap (cn-(n:Int))=k)(hpw:IntKind.i64.wrap (pw+1)=pw1)(hn:1≤n∧n≤60)(hT:1≤T.size∧T.size≤100)(hia:(ia pw).size≤100∧(ia pw1).size≤100)
  (hcase:(0<c∧f1=gq)∨(c=0∧od=true∧f1=gq)∨(c=0∧od=false∧f=gq)∨(c<0∧f=gq))
  (HP: ∀q w1,au w1 q 54 [.int .u32 10]→yC 81 #[.slice (some ⟨q,0,none⟩) 1 1,yi k] w1 (NmR w1 Pn))
  (HS: ∀po pc w1,Rd w1 .u32 (yT po Pn pc) (Dg.dg 4294967296 Pn)→yC 91 #[yT po Pn pc,yi 1] w1 (NmR w1 U))
  (HO: ∀ho hc uo uc w1,Rd w1 .u32 (yT ho hv hc) (Dg.dg 4294967296 hv)→Rd w1 .u32 (yT uo U uc) (Dg.dg 4294967296 U)→yC 92 #[yT ho hv hc,yT uo U uc] w1 (TwR w1 f r))
  (HR: ∀ro rc w1,Rd w1 .u32 (yT ro r rc) (Dg.dg 4294967296 r)→yC 91 #[yT ro r rc,yi 1] w1 (NmR w1 r2))
  (HC: ∀so sc uo uc w1,Rd w1 .u32 (yT so r2 sc) (Dg.dg 4294967296 r2)→Rd w1 .u32 (yT uo U uc) (Dg.dg 4294967296 U)→yC 93 #[yT so r2 sc,yT uo U uc] w1 (yR w1 (yi c)))
  (HX: ∀fo fc w1,Rd w1 .u32 (yT fo f fc) (Dg.dg 4294967296 f)→yC 94 #[yT fo f fc] w1 (yR w1 (.bool od)))
  (HA: ∀fo fc q w1,Rd w1 .u32 (yT fo f fc) (Dg.dg 4294967296 f)→au w1 q 54 [.int .u32 1]→yC 82 #[yT fo f fc,.slice (some ⟨q,0,none⟩) 1 1] w1 (NmR w1 f1))
  (HD: ∀go gc w1,Rd w1 .u32 (yT go gq gc) (Dg.dg 4294967296 gq)→yC 35 #[yT go gq gc] w1 (yR w1 (.string T)))
  (HI:(yH w 95 #[yi pw] (.string (ia pw)))∧yH w 95 #[yi pw1] (.string (ia pw1))):
  yC 50 #[.agg #[.bool ng,yT ho hv hc,yi cn,yi pw],yi n] w (yR w (.string (tpS ng T n (ia (if n<T.size then pw1 else pw))))):=by
 replace HP:Hid _:=HP;replace HS:Hid _:=HS;replace HO:Hid _:=HO;replace HR:Hid _:=HR;replace HC:Hid _:=HC;replace HX:Hid _:=HX;replace HA:Hid _:=HA;replace HD:Hid _:=HD;replace HI:Hid _:=HI;replace hcase:Hid _:=hcase;replace hia:Hid _:=hia;obtain⟨st,hst⟩: ∃st,tpS ng T n (ia (if n<T.size then pw1 else pw))=st:=⟨_,rfl⟩
 rw[hst];replace hst:Hid _:=hst;have hn1:=hn.1;have hn2:=hn.2;have hT1:=hT.1;have hT2:=hT.2;clear hn hT;obtain⟨W3,hW4,q1,b2⟩:=cA w [.bool ng,yT ho hv hc,yi cn,yi pw] 100;replace hW4:Hid _:=hW4;have r5:=rh.l b2;clear rh
 go_enter func50,ntmps50
 go_upto_region 1 with fail
 rw[hW4.out];clear hW4;have hl8:=q1.lt;have al6:=af W3 (.cells #[.int .u32 10] 54);have q7:=ah W3 [.int .u32 10] 54;have q9:=q1.l al6;have r10:=r5.l al6;have b11:=aa b2 al6;have c12:=q9.c 2 rfl
 go_wp2_with fail
 refine(HP.out _ _ q7).mono ?_;rintro zz w13 ⟨v1x15,rfl,r1x16,bb14⟩;have q17:=q9.l bb14;have r18:=r10.l bb14;have b19:=aa b11 bb14;obtain⟨po,pc,hv⟩:=r1x16.shape;subst hv;clear q9 q7 r10 b11 bb14 HP c12 q1 r5 b2 al6
 go_wp2_with fail
 refine(HS.out _ _ _ r1x16).mono ?_;rintro zz w20 ⟨v1x22,rfl,r1x23,bb21⟩;have q24:=q17.l bb21;have r25:=r18.l bb21;have b26:=aa b19 bb21;obtain⟨uo,uc,hv⟩:=r1x23.shape;subst hv;clear q17 r18 r1x16 b19 bb21 HS;have c27:=q24.c 1 rfl
 go_wp2_with fail
 refine(HO.out _ _ _ _ _ r25 r1x23).mono ?_;rintro zz w28 ⟨v1x30,v2x31,rfl,r1x32,r2x33,bb29⟩;have q34:=q24.l bb29;have r35:=r1x23.l bb29;have b36:=aa b26 bb29;obtain⟨fo,fc,hv⟩:=r1x32.shape;subst hv;obtain⟨ro,rc,hv⟩:=r2x33.shape;subst hv;clear q24 r25 r1x23 b26 bb29 HO c27
 go_wp2_with fail
 refine(HR.out _ _ _ r2x33).mono ?_;rintro zz w37 ⟨v1x39,rfl,r1x40,bb38⟩;have q41:=q34.l bb38;have r42:=r35.l bb38;have r43:=r1x32.l bb38;have b44:=aa b36 bb38;obtain⟨so,sc,hv⟩:=r1x40.shape;subst hv;clear q34 r35 r1x32 r2x33 b36 bb38 HR
 go_wp2_with fail
 refine(HC.out _ _ _ _ _ r1x40 r42).mono ?_;rintro zz w45 ⟨rfl,bb46⟩;have q47:=q41.l bb46;have r48:=r43.l bb46;have b49:=aa b44 bb46;clear q41 r42 r43 r1x40 b44 bb46 HC
 rcases hcase.out with⟨h1,rfl⟩| ⟨rfl,rfl,rfl⟩| ⟨rfl,rfl,rfl⟩| ⟨h1,rfl⟩
 case' inl=>
  have hl203:=q47.lt;have al201:=af w45 (.cells #[.int .u32 1] 54);have q202:=ah w45 [.int .u32 1] 54;have q204:=q47.l al201;have r205:=r48.l al201;have b206:=aa b49 al201
  go_wp2_with fail
  refine(HA.out _ _ _ _ r205 q202).mono ?_;rintro zz w207 ⟨v1x209,rfl,r1x210,bb208⟩;have q211:=q204.l bb208;have b212:=aa b206 bb208;obtain⟨ao,ac,hv⟩:=r1x210.shape;subst hv;clear q204 q202 r205 b206 bb208 HA q47 r48 b49 al201
  go_upto_region 6 with fail
  have bW213:yB w207 w207.drew:=(Below.refl _ _).drew;have q214:=q211.l bW213;have r215:=r1x210.l bW213;have b216:=aa b212 bW213;clear q211 r1x210 b212 bW213;refine wp_region_held_drew (S:=fun wq=>au wq w.heap.size 100 [.bool ng,yT ho hv hc,yi cn,yi pw]) (by kernel_rfl) q214 (fun hS0=> ?_)
  generalize w207.drew=WD217 at q214 r215 b216 hS0⊢;refine tq 0 (yT ao f1 ac) rfl (fun _ _=>by kernel_rfl) hS0 ?_
  refine tq 2 (.pointer (some ⟨w.heap.size,3,none⟩)) rfl (fun _ _=>by kernel_rfl) hS0 ?_
  refine tq 3 (yi pw) rfl (fun _ hw0=>gU 3 (.tmp 44) rfl w.heap.size 3 (by kernel_rfl) _ _ underlying3 rfl (hw0.c 3 rfl)) hS0 ?_
  refine wpAnyH_ready (rs:=[1]) (by kernel_rfl) (by simp) ?_;refine AllReadyH.cons rfl (fun K hK=> ?_) AllReadyH.nil
  go_simp
  refine(HD.out _ _ _ r215).mono ?_;rintro zz w218 ⟨rfl,bb219⟩;have q220:=q214.l bb219;have b221:=aa b216 bb219;clear q214 r215 b216 bb219 HD;refine hK.out _ _ q220 (fun hS222=> ?_)
  clear hK K;refine tq 4 (.string T) rfl (fun _ _=>by kernel_rfl) hS222 ?_
  refine tq 5 (yi pw) rfl (fun _ _=>by kernel_rfl) hS222 ?_
  refine wpAnyH_done (by kernel_rfl) ?_ _;clear hS0 hS222;simp only[Act.put,List.getElem_toArray,List.getElem_cons_succ,List.getElem_cons_zero,List.setIfInBounds_toArray,List.set_cons_zero,List.set_cons_succ];have qz:=q220;have bz:=b221;clear q220 b221;obtain⟨wz,hwz⟩: ∃x,x=w218:=⟨_,rfl⟩;subst hwz;clear h1
 case' inr.inl=>
  go_wp2_with fail
  refine(HX.out _ _ _ r48).mono ?_;rintro zz w201 ⟨rfl,bb202⟩;have q203:=q47.l bb202;have r204:=r48.l bb202;have b205:=aa b49 bb202;clear q47 r48 b49 bb202 HX;have hl208:=q203.lt;have al206:=af w201 (.cells #[.int .u32 1] 54);have q207:=ah w201 [.int .u32 1] 54;have q209:=q203.l al206;have r210:=r204.l al206;have b211:=aa b205 al206
  go_wp2_with fail
  refine(HA.out _ _ _ _ r210 q207).mono ?_;rintro zz w212 ⟨v1x214,rfl,r1x215,bb213⟩;have q216:=q209.l bb213;have b217:=aa b211 bb213;obtain⟨ao,ac,hv⟩:=r1x215.shape;subst hv;clear q209 q207 r210 b211 bb213 HA q203 r204 b205 al206
  go_upto_region 6 with fail
  have bW218:yB w212 w212.drew:=(Below.refl _ _).drew;have q219:=q216.l bW218;have r220:=r1x215.l bW218;have b221:=aa b217 bW218;clear q216 r1x215 b217 bW218;refine wp_region_held_drew (S:=fun wq=>au wq w.heap.size 100 [.bool ng,yT ho hv hc,yi cn,yi pw]) (by kernel_rfl) q219 (fun hS0=> ?_)
  generalize w212.drew=WD222 at q219 r220 b221 hS0⊢;refine tq 0 (yT ao f1 ac) rfl (fun _ _=>by kernel_rfl) hS0 ?_
  refine tq 2 (.pointer (some ⟨w.heap.size,3,none⟩)) rfl (fun _ _=>by kernel_rfl) hS0 ?_
  refine tq 3 (yi pw) rfl (fun _ hw0=>gU 3 (.tmp 44) rfl w.heap.size 3 (by kernel_rfl) _ _ underlying3 rfl (hw0.c 3 rfl)) hS0 ?_
  refine wpAnyH_ready (rs:=[1]) (by kernel_rfl) (by simp) ?_;refine AllReadyH.cons rfl (fun K hK=> ?_) AllReadyH.nil
  go_simp
  refine(HD.out _ _ _ r220).mono ?_;rintro zz w223 ⟨rfl,bb224⟩;have q225:=q219.l bb224;have b226:=aa b221 bb224;clear q219 r220 b221 bb224 HD;refine hK.out _ _ q225 (fun hS227=> ?_)
  clear hK K;refine tq 4 (.string T) rfl (fun _ _=>by kernel_rfl) hS227 ?_
  refine tq 5 (yi pw) rfl (fun _ _=>by kernel_rfl) hS227 ?_
  refine wpAnyH_done (by kernel_rfl) ?_ _;clear hS0 hS227;simp only[Act.put,List.getElem_toArray,List.getElem_cons_succ,List.getElem_cons_zero,List.setIfInBounds_toArray,List.set_cons_zero,List.set_cons_succ];have qz:=q225;have bz:=b226;clear q225 b226;obtain⟨wz,hwz⟩: ∃x,x=w223:=⟨_,rfl⟩;subst hwz
 case' inr.inr.inl=>
  go_wp2_with fail
  refine(HX.out _ _ _ r48).mono ?_;rintro zz w201 ⟨rfl,bb202⟩;have q203:=q47.l bb202;have r204:=r48.l bb202;have b205:=aa b49 bb202;clear q47 r48 b49 bb202 HX
  go_upto_region 6 with fail
  have bW206:yB w201 w201.drew:=(Below.refl _ _).drew;have q207:=q203.l bW206;have r208:=r204.l bW206;have b209:=aa b205 bW206;clear q203 r204 b205 bW206;refine wp_region_held_drew (S:=fun wq=>au wq w.heap.size 100 [.bool ng,yT ho hv hc,yi cn,yi pw]) (by kernel_rfl) q207 (fun hS0=> ?_)
  generalize w201.drew=WD210 at q207 r208 b209 hS0⊢;refine tq 0 (yT fo f fc) rfl (fun _ _=>by kernel_rfl) hS0 ?_
  refine tq 2 (.pointer (some ⟨w.heap.size,3,none⟩)) rfl (fun _ _=>by kernel_rfl) hS0 ?_
  refine tq 3 (yi pw) rfl (fun _ hw0=>gU 3 (.tmp 44) rfl w.heap.size 3 (by kernel_rfl) _ _ underlying3 rfl (hw0.c 3 rfl)) hS0 ?_
  refine wpAnyH_ready (rs:=[1]) (by kernel_rfl) (by simp) ?_;refine AllReadyH.cons rfl (fun K hK=> ?_) AllReadyH.nil
  go_simp
  refine(HD.out _ _ _ r208).mono ?_;rintro zz w211 ⟨rfl,bb212⟩;have q213:=q207.l bb212;have b214:=aa b209 bb212;clear q207 r208 b209 bb212 HD;refine hK.out _ _ q213 (fun hS215=> ?_)
  clear hK K;refine tq 4 (.string T) rfl (fun _ _=>by kernel_rfl) hS215 ?_
  refine tq 5 (yi pw) rfl (fun _ _=>by kernel_rfl) hS215 ?_
  refine wpAnyH_done (by kernel_rfl) ?_ _;clear hS0 hS215;simp only[Act.put,List.getElem_toArray,List.getElem_cons_succ,List.getElem_cons_zero,List.setIfInBounds_toArray,List.set_cons_zero,List.set_cons_succ];have qz:=q213;have bz:=b214;clear q213 b214;obtain⟨wz,hwz⟩: ∃x,x=w211:=⟨_,rfl⟩;subst hwz
 case' inr.inr.inr=>
  have h0: ¬0<c:=by omega
  have h00:(c==0)=false:=by rw[beq_eq_false_iff_ne];omega
  clear h1
  go_upto_region 6 with fail
  have bW201:yB w45 w45.drew:=(Below.refl _ _).drew;have q202:=q47.l bW201;have r203:=r48.l bW201;have b204:=aa b49 bW201;clear q47 r48 b49 bW201;refine wp_region_held_drew (S:=fun wq=>au wq w.heap.size 100 [.bool ng,yT ho hv hc,yi cn,yi pw]) (by kernel_rfl) q202 (fun hS0=> ?_)
  generalize w45.drew=WD205 at q202 r203 b204 hS0⊢;refine tq 0 (yT fo f fc) rfl (fun _ _=>by kernel_rfl) hS0 ?_
  refine tq 2 (.pointer (some ⟨w.heap.size,3,none⟩)) rfl (fun _ _=>by kernel_rfl) hS0 ?_
  refine tq 3 (yi pw) rfl (fun _ hw0=>gU 3 (.tmp 44) rfl w.heap.size 3 (by kernel_rfl) _ _ underlying3 rfl (hw0.c 3 rfl)) hS0 ?_
  refine wpAnyH_ready (rs:=[1]) (by kernel_rfl) (by simp) ?_;refine AllReadyH.cons rfl (fun K hK=> ?_) AllReadyH.nil
  go_simp
  refine(HD.out _ _ _ r203).mono ?_;rintro zz w206 ⟨rfl,bb207⟩;have q208:=q202.l bb207;have b209:=aa b204 bb207;clear q202 r203 b204 bb207 HD;refine hK.out _ _ q208 (fun hS210=> ?_)
  clear hK K;refine tq 4 (.string T) rfl (fun _ _=>by kernel_rfl) hS210 ?_
  refine tq 5 (yi pw) rfl (fun _ _=>by kernel_rfl) hS210 ?_
  refine wpAnyH_done (by kernel_rfl) ?_ _;clear hS0 hS210;simp only[Act.put,List.getElem_toArray,List.getElem_cons_succ,List.getElem_cons_zero,List.setIfInBounds_toArray,List.set_cons_zero,List.set_cons_succ];have qz:=q208;have bz:=b209;clear q208 b209;obtain⟨wz,hwz⟩: ∃x,x=w206:=⟨_,rfl⟩;subst hwz;clear h0 h00
 all_goals
  clear hcase
  by_cases hlt:n<T.size
  ·have HIa:=HI.out.2
   have hii:=hia.out.2;obtain⟨ii,hi⟩: ∃x,ia pw1=x:=⟨_,rfl⟩;rw[hi] at HIa hii;replace HIa:Hid _:=HIa;replace hi:Hid _:=hi;have hsz:(T.extract 0 n).size=n:=by rw[ByteArray.size_extract];omega
   by_cases hgt:1<n
   ·cases ng
    case false=>
     go_upto_region 10 with fail
     have bW501:yB wz wz.drew:=(Below.refl _ _).drew;have q502:=qz.l bW501;have b503:=aa bz bW501;clear qz bz bW501;refine wp_region_held_drew (S:=fun _=>True) (by kernel_rfl) trivial (fun hS0=> ?_)
     generalize wz.drew=WD504 at q502 b503 hS0⊢;refine tq 0 (.string (T.extract 0 n)) rfl (fun _ _=>by kernel_rfl) hS0 ?_
     refine tq 1 (.string ((T.extract 0 n).extract 0 1)) rfl (fun _ _=>by go_simp<;>first|omega| (intro hh;omega)) hS0 ?_
     refine tq 2 (.string (((T.extract 0 n).extract 0 1)++⟨#[46]⟩)) rfl (fun _ _=>by go_simp<;>first|omega| (intro hh;omega)) hS0 ?_
     refine tq 3 (.string (T.extract 0 n)) rfl (fun _ _=>by kernel_rfl) hS0 ?_
     refine tq 4 (.string ((T.extract 0 n).extract 1 (T.extract 0 n).size)) rfl (fun _ _=>by go_simp<;>first|omega| (intro hh;omega)) hS0 ?_
     refine tq 5 (.string ((((T.extract 0 n).extract 0 1)++⟨#[46]⟩)++((T.extract 0 n).extract 1 (T.extract 0 n).size))) rfl (fun _ _=>by go_simp<;>first|omega| (intro hh;omega)) hS0 ?_
     refine tq 6 (.string ((((T.extract 0 n).extract 0 1)++⟨#[46]⟩)++((T.extract 0 n).extract 1 (T.extract 0 n).size))) rfl (fun _ _=>by kernel_rfl) hS0 ?_
     refine wpAnyH_done (by kernel_rfl) ?_ _;clear hS0;simp only[Act.put,List.getElem_toArray,List.getElem_cons_succ,List.getElem_cons_zero,List.setIfInBounds_toArray,List.set_cons_zero,List.set_cons_succ];have c505:=q502.c 0 rfl
     go_wp2_with fail
     refine(HIa.out _ b503).mono ?_;rintro zz w506 ⟨rfl,bb507⟩;have b508:=aa b503 bb507;clear q502 b503 bb507 HIa c505
     go_wp2
     go_ret
     rw[←hst.out];unfold tpS tpG tpP tpT;simp only[if_pos hlt,if_pos hgt,if_neg Bool.false_ne_true,hi.out];exact⟨by simp[Nat.min_eq_left (Nat.le_of_lt hlt)],b508⟩
    case true=>
     go_upto_region 10 with fail
     have bW501:yB wz wz.drew:=(Below.refl _ _).drew;have q502:=qz.l bW501;have b503:=aa bz bW501;clear qz bz bW501;refine wp_region_held_drew (S:=fun _=>True) (by kernel_rfl) trivial (fun hS0=> ?_)
     generalize wz.drew=WD504 at q502 b503 hS0⊢;refine tq 0 (.string (T.extract 0 n)) rfl (fun _ _=>by kernel_rfl) hS0 ?_
     refine tq 1 (.string ((T.extract 0 n).extract 0 1)) rfl (fun _ _=>by go_simp<;>first|omega| (intro hh;omega)) hS0 ?_
     refine tq 2 (.string (((T.extract 0 n).extract 0 1)++⟨#[46]⟩)) rfl (fun _ _=>by go_simp<;>first|omega| (intro hh;omega)) hS0 ?_
     refine tq 3 (.string (T.extract 0 n)) rfl (fun _ _=>by kernel_rfl) hS0 ?_
     refine tq 4 (.string ((T.extract 0 n).extract 1 (T.extract 0 n).size)) rfl (fun _ _=>by go_simp<;>first|omega| (intro hh;omega)) hS0 ?_
     refine tq 5 (.string ((((T.extract 0 n).extract 0 1)++⟨#[46]⟩)++((T.extract 0 n).extract 1 (T.extract 0 n).size))) rfl (fun _ _=>by go_simp<;>first|omega| (intro hh;omega)) hS0 ?_
     refine tq 6 (.string ((((T.extract 0 n).extract 0 1)++⟨#[46]⟩)++((T.extract 0 n).extract 1 (T.extract 0 n).size))) rfl (fun _ _=>by kernel_rfl) hS0 ?_
     refine wpAnyH_done (by kernel_rfl) ?_ _;clear hS0;simp only[Act.put,List.getElem_toArray,List.getElem_cons_succ,List.getElem_cons_zero,List.setIfInBounds_toArray,List.set_cons_zero,List.set_cons_succ];have c505:=q502.c 0 rfl
     go_wp2_with fail
     refine(HIa.out _ b503).mono ?_;rintro zz w506 ⟨rfl,bb507⟩;have b508:=aa b503 bb507;clear q502 b503 bb507 HIa c505
     go_wp2
     go_ret
     rw[←hst.out];unfold tpS tpG tpP tpT;simp only[if_pos hlt,if_pos hgt,hi.out];exact⟨by simp[Nat.min_eq_left (Nat.le_of_lt hlt)],b508⟩
   ·cases ng
    case false=>
     have c501:=qz.c 0 rfl
     go_wp2_with fail
     refine(HIa.out _ bz).mono ?_;rintro zz w502 ⟨rfl,bb503⟩;have b504:=aa bz bb503;clear qz bz bb503 HIa c501
     go_wp2
     go_ret
     rw[←hst.out];unfold tpS tpG tpP tpT;simp only[if_pos hlt,if_neg hgt,if_neg Bool.false_ne_true,hi.out];exact⟨by simp,b504⟩
    case true=>
     have c501:=qz.c 0 rfl
     go_wp2_with fail
     refine(HIa.out _ bz).mono ?_;rintro zz w502 ⟨rfl,bb503⟩;have b504:=aa bz bb503;clear qz bz bb503 HIa c501
     go_wp2
     go_ret
     rw[←hst.out];unfold tpS tpG tpP tpT;simp only[if_pos hlt,if_neg hgt,hi.out];exact⟨by simp,b504⟩
  ·have HIa:=HI.out.1
   have hii:=hia.out.1;obtain⟨ii,hi⟩: ∃x,ia pw=x:=⟨_,rfl⟩;rw[hi] at HIa hii;replace HIa:Hid _:=HIa;replace hi:Hid _:=hi
   by_cases hgt:1<n
   ·cases ng
    case false=>
     go_upto_region 10 with fail
     have bW501:yB wz wz.drew:=(Below.refl _ _).drew;have q502:=qz.l bW501;have b503:=aa bz bW501;clear qz bz bW501;refine wp_region_held_drew (S:=fun _=>True) (by kernel_rfl) trivial (fun hS0=> ?_)
     generalize wz.drew=WD504 at q502 b503 hS0⊢;refine tq 0 (.string T) rfl (fun _ _=>by kernel_rfl) hS0 ?_
     refine tq 1 (.string (T.extract 0 1)) rfl (fun _ _=>by go_simp<;>first|omega| (intro hh;omega)) hS0 ?_
     refine tq 2 (.string ((T.extract 0 1)++⟨#[46]⟩)) rfl (fun _ _=>by go_simp<;>first|omega| (intro hh;omega)) hS0 ?_
     refine tq 3 (.string T) rfl (fun _ _=>by kernel_rfl) hS0 ?_
     refine tq 4 (.string (T.extract 1 T.size)) rfl (fun _ _=>by go_simp<;>first|omega| (intro hh;omega)) hS0 ?_
     refine tq 5 (.string (((T.extract 0 1)++⟨#[46]⟩)++(T.extract 1 T.size))) rfl (fun _ _=>by go_simp<;>first|omega| (intro hh;omega)) hS0 ?_
     refine tq 6 (.string (((T.extract 0 1)++⟨#[46]⟩)++(T.extract 1 T.size))) rfl (fun _ _=>by kernel_rfl) hS0 ?_
     refine wpAnyH_done (by kernel_rfl) ?_ _;clear hS0;simp only[Act.put,List.getElem_toArray,List.getElem_cons_succ,List.getElem_cons_zero,List.setIfInBounds_toArray,List.set_cons_zero,List.set_cons_succ];have c505:=q502.c 0 rfl
     go_wp2_with fail
     refine(HIa.out _ b503).mono ?_;rintro zz w506 ⟨rfl,bb507⟩;have b508:=aa b503 bb507;clear q502 b503 bb507 HIa c505
     go_wp2
     go_ret
     rw[←hst.out];unfold tpS tpG tpP tpT;simp only[if_neg hlt,if_pos hgt,if_neg Bool.false_ne_true,hi.out];exact⟨by simp,b508⟩
    case true=>
     go_upto_region 10 with fail
     have bW501:yB wz wz.drew:=(Below.refl _ _).drew;have q502:=qz.l bW501;have b503:=aa bz bW501;clear qz bz bW501;refine wp_region_held_drew (S:=fun _=>True) (by kernel_rfl) trivial (fun hS0=> ?_)
     generalize wz.drew=WD504 at q502 b503 hS0⊢;refine tq 0 (.string T) rfl (fun _ _=>by kernel_rfl) hS0 ?_
     refine tq 1 (.string (T.extract 0 1)) rfl (fun _ _=>by go_simp<;>first|omega| (intro hh;omega)) hS0 ?_
     refine tq 2 (.string ((T.extract 0 1)++⟨#[46]⟩)) rfl (fun _ _=>by go_simp<;>first|omega| (intro hh;omega)) hS0 ?_
     refine tq 3 (.string T) rfl (fun _ _=>by kernel_rfl) hS0 ?_
     refine tq 4 (.string (T.extract 1 T.size)) rfl (fun _ _=>by go_simp<;>first|omega| (intro hh;omega)) hS0 ?_
     refine tq 5 (.string (((T.extract 0 1)++⟨#[46]⟩)++(T.extract 1 T.size))) rfl (fun _ _=>by go_simp<;>first|omega| (intro hh;omega)) hS0 ?_
     refine tq 6 (.string (((T.extract 0 1)++⟨#[46]⟩)++(T.extract 1 T.size))) rfl (fun _ _=>by kernel_rfl) hS0 ?_
     refine wpAnyH_done (by kernel_rfl) ?_ _;clear hS0;simp only[Act.put,List.getElem_toArray,List.getElem_cons_succ,List.getElem_cons_zero,List.setIfInBounds_toArray,List.set_cons_zero,List.set_cons_succ];have c505:=q502.c 0 rfl
     go_wp2_with fail
     refine(HIa.out _ b503).mono ?_;rintro zz w506 ⟨rfl,bb507⟩;have b508:=aa b503 bb507;clear q502 b503 bb507 HIa c505
     go_wp2
     go_ret
     rw[←hst.out];unfold tpS tpG tpP tpT;simp only[if_neg hlt,if_pos hgt,hi.out];exact⟨by simp,b508⟩
   ·cases ng
    case false=>
     have c501:=qz.c 0 rfl
     go_wp2_with fail
     refine(HIa.out _ bz).mono ?_;rintro zz w502 ⟨rfl,bb503⟩;have b504:=aa bz bb503;clear qz bz bb503 HIa c501
     go_wp2
     go_ret
     rw[←hst.out];unfold tpS tpG tpP tpT;simp only[if_neg hlt,if_neg hgt,if_neg Bool.false_ne_true,hi.out];exact⟨by simp,b504⟩
    case true=>
     have c501:=qz.c 0 rfl
     go_wp2_with fail
     refine(HIa.out _ bz).mono ?_;rintro zz w502 ⟨rfl,bb503⟩;have b504:=aa bz bb503;clear qz bz bb503 HIa c501
     go_wp2
     go_ret
     rw[←hst.out];unfold tpS tpG tpP tpT;simp only[if_neg hlt,if_neg hgt,hi.out];exact⟨by simp,b504⟩
end Go.Proofs.YtlgkfdcmokchgaaGreatDoor

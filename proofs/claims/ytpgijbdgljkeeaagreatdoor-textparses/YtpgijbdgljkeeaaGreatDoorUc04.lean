/-
  Texts laid together: Gq5.
-/
import Derived.Test.YtpgijbdgljkeeaaGreatDoorUc03
set_option maxRecDepth 100000
set_option maxHeartbeats 12800000
namespace Go.Proofs.YtpgijbdgljkeeaaGreatDoor
open _root_.Go.Proofs.Tryz
open Go.RowKit
def GT (w:World)(t:fz)(e:Ending)(w':World):Prop:=
 ∃v,e= .returned (ypV t.s v t.p t.ex t.ov t.un)∧Rd w' .i64 v (Dg.dg 65536 t.d)∧yB w w'
def acK (w:World)(f g h:Int→Nat)(K k0:Int)(kv dv rv nv:Value)(wr:World):Prop:=
 ∃k,kv=yi k∧K≤k∧k≤k0∧Rd wr .i64 dv (Dg.dg 65536 (f k))∧Rd wr .i64 rv (Dg.dg 65536 (g k))∧Rd wr .i64 nv (Dg.dg 65536 (h k))∧yB w wr
theorem Aa (r:Nat):(((Dg.dg 65536 r).length:Int)==0)=decide (r=0):=by
 have h:=Dg.dg_nil_iff 65536 r (by omega)
 by_cases h0:r=0
 ·rw[h.2 h0]
  simp[h0]
 ·have e:(((Dg.dg 65536 r).length:Int)==0)=false:=by
   simp;exact fun e=>h0 (h.1 e)
  rw[e];simp[h0]
theorem ZY (R D L G:Int)(gr qs:Bool)(no:Option Addr)(nl nc:Nat)(eo:Option Addr)(el ec:Nat)(E way:Int)(wd ln lm a1 a2 K k0 K2:Int)(f g h bl:Int→Nat)(q r dn lq:Nat)(half:Int)(odd aw un ex bb lg:Bool)(cd:Nat)(cp:Int)(PT:fz)(w:World)
  (hnl:((nl:Int)==0)=false) (_hne:(wd==0)=false) (hne2: ¬wd=0) (hKk:K≤k0)
  (U1:IntKind.i64.wrap (ln-lm)=ln-lm) (U2:IntKind.i64.wrap (ln-lm+E)=ln-lm+E) (U3:IntKind.i64.wrap (ln-lm+E+800000)=ln-lm+E+800000) (Q1:(ln-lm+E+800000).tdiv wd=a1) (Q2:(800000:Int).tdiv wd=a2)
  (U4:IntKind.i64.wrap a1=a1) (U5:IntKind.i64.wrap a2=a2) (U6:IntKind.i64.wrap (a1-a2)=a1-a2) (U7:IntKind.i64.wrap (a1-a2-D)=a1-a2-D) (U8:IntKind.i64.wrap (a1-a2-D+2)=k0)
  (WK: ∀k,K≤k→k≤k0→IntKind.i64.wrap (wd*k)=wd*k∧IntKind.i64.wrap (k-1)=k-1)
  (WL:IntKind.i64.wrap (wd*L)=wd*L) (WD:IntKind.i64.wrap (D-1)=D-1) (WM:IntKind.i64.wrap (wd*(D-1))=wd*(D-1)) (WN:IntKind.i64.wrap (wd*(D-1)+1)=wd*(D-1)+1) (WE:IntKind.i64.wrap (wd*D)=wd*D) (WP:IntKind.i64.wrap (K2+1)=K2+1)
  (hun:un=decide (K<L)) (hex:ex=decide (r=0)) (hodd:odd=decide (q % 2=1)) (hbb:(un&&gr)=bb) (HB1:bb=true→K2=L) (HB2:bb=false→K2=K∧f K=q∧g K=r∧h K=dn)
  (HT1: ∀k,K<k→k≤k0→(bl k:Int)<wd*(D-1)+1) (HT2: ¬(bl K:Int)<wd*(D-1)+1)
  (HG1:lg=true→wd*D< (lq:Int)) (HG2:lg=false→ ¬wd*D< (lq:Int))
  (HC1:ex=false→aw=true→lg=true→cp=K2+1) (HC2:ex=false→aw=true→lg=false→cd=q+1∧cp=K2) (HC3:ex=true∨aw=false→cd=q∧cp=K2)
  (HPT:PT=⟨qs,cd,if cd=0 then 0 else cp,ex,decide (G<cp),un⟩)
  (HWI: ∀w1,Calls Tryz.prog 52 #[.agg #[.int .i64 R,.int .i64 D,.int .i64 L,.int .i64 G,.bool gr]] w1 fun z w'=>z= .returned (.int .i64 wd)∧Below w1.heap.size w1 w')
  (HL1: ∀w1,Below w.heap.size w w1→Calls Tryz.prog 86 #[.slice no nl nc] w1 fun z w'=>z= .returned (.int .i64 ln)∧Below w1.heap.size w1 w')
  (HL2: ∀w1,Below w.heap.size w w1→Calls Tryz.prog 86 #[.slice eo el ec] w1 fun z w'=>z= .returned (.int .i64 lm)∧Below w1.heap.size w1 w')
  (HPA: ∀k w1,K≤k→k≤k0→Below w.heap.size w w1→Calls Tryz.prog 87 #[.agg #[.bool qs,.slice no nl nc,.slice eo el ec,.int .i64 E],.int .i64 (wd*k)] w1 (Rp w1 (f k) (g k) (h k)))
  (HPL:bb=true→ ∀w1,Below w.heap.size w w1→Calls Tryz.prog 87 #[.agg #[.bool qs,.slice no nl nc,.slice eo el ec,.int .i64 E],.int .i64 (wd*L)] w1 (Rp w1 q r dn))
  (HLF: ∀k v w1,K≤k→k≤k0→Rd w1 .i64 v (Dg.dg 65536 (f k))→Calls Tryz.prog 86 #[v] w1 fun z w'=>z= .returned (.int .i64 (bl k:Nat))∧Below w1.heap.size w1 w')
  (HTI: ∀v u w1,Rd w1 .i64 v (Dg.dg 65536 r)→Rd w1 .i64 u [2]→Calls Tryz.prog 34 #[v,u] w1 (cG w1 (r*2)))
  (HCM: ∀v u w1,Rd w1 .i64 v (Dg.dg 65536 (r*2))→Rd w1 .i64 u (Dg.dg 65536 dn)→Calls Tryz.prog 54 #[v,u] w1 fun z w'=>z= .returned (.int .i64 half)∧Below w1.heap.size w1 w')
  (HAW: ∀w1,Calls Tryz.prog 88 #[.int .i64 way,.bool qs,.bool odd,.int .i64 half] w1 fun z w'=>z= .returned (.bool aw)∧w'=w1)
  (HPS: ∀v u w1,Rd w1 .i64 v (Dg.dg 65536 q)→Rd w1 .i64 u [1]→Calls Tryz.prog 53 #[v,u] w1 (cG w1 (q+1)))
  (HL3: ∀v w1,Rd w1 .i64 v (Dg.dg 65536 (q+1))→Calls Tryz.prog 86 #[v] w1 fun z w'=>z= .returned (.int .i64 (lq:Nat))∧Below w1.heap.size w1 w')
  (HP2:lg=true→ex=false→aw=true→ ∀w1,Calls Tryz.prog 50 #[.int .i64 (wd*(D-1))] w1 fun e w'=> ∃v,e= .returned v∧Own w' w1.heap.size 3 .i64 v (Dg.dg 65536 cd)∧Below w1.heap.size w1 w'):
  Calls Tryz.prog 42 #[.agg #[.bool qs,.slice no nl nc,.slice eo el ec,.int .i64 E],.agg #[.int .i64 R,.int .i64 D,.int .i64 L,.int .i64 G,.bool gr],.int .i64 way] w (GT w PT):=by
 replace WK:Hid _:=WK;replace HB1:Hid _:=HB1;replace HB2:Hid _:=HB2;replace HT1:Hid _:=HT1;replace HT2:Hid _:=HT2;replace HG1:Hid _:=HG1;replace HG2:Hid _:=HG2;replace HC1:Hid _:=HC1;replace HC2:Hid _:=HC2;replace HC3:Hid _:=HC3;replace HPT:Hid _:=HPT;replace HWI:Hid _:=HWI;replace HL1:Hid _:=HL1;replace HL2:Hid _:=HL2;replace HPA:Hid _:=HPA;replace HPL:Hid _:=HPL;replace HLF:Hid _:=HLF;replace HTI:Hid _:=HTI;replace HCM:Hid _:=HCM;replace HAW:Hid _:=HAW;replace HPS:Hid _:=HPS;replace HL3:Hid _:=HL3;replace HP2:Hid _:=HP2;have HUN:Hid _:=hun;have HEX:Hid _:=hex;have HBB:Hid _:=hbb;have HOD:Hid _:=hodd;have HKK:Hid _:=hKk;clear hbb hun hex hodd hKk;have b1:=aa (aa (af w (.cells #[.bool qs,.slice no nl nc,.slice eo el ec,.int .i64 E] 31)) (af _ (.cells #[.int .i64 R,.int .i64 D,.int .i64 L,.int .i64 G,.bool gr] 40))) (af _ (.cells #[.bool false,.slice none 0 0,.int .i64 0,.bool false,.bool false,.bool false] 91));have q1:=((ah w [.bool qs,.slice no nl nc,.slice eo el ec,.int .i64 E] 31).l (af _ (.cells #[.int .i64 R,.int .i64 D,.int .i64 L,.int .i64 G,.bool gr] 40))).l (af _ (.cells #[.bool false,.slice none 0 0,.int .i64 0,.bool false,.bool false,.bool false] 91));have g1:=(ah (w.alloc (.cells #[.bool qs,.slice no nl nc,.slice eo el ec,.int .i64 E] 31)) [.int .i64 R,.int .i64 D,.int .i64 L,.int .i64 G,.bool gr] 40).l (af _ (.cells #[.bool false,.slice none 0 0,.int .i64 0,.bool false,.bool false,.bool false] 91));have c1:=ah ((w.alloc (.cells #[.bool qs,.slice no nl nc,.slice eo el ec,.int .i64 E] 31)).alloc (.cells #[.int .i64 R,.int .i64 D,.int .i64 L,.int .i64 G,.bool gr] 40)) [.bool false,.slice none 0 0,.int .i64 0,.bool false,.bool false,.bool false] 91;simp only[World.size_alloc] at g1 c1;obtain⟨x0,x1,x2,x3,x4⟩:=g1.cs5;obtain⟨y0,y1,y2,y3⟩:=q1.cs4
 go_enter func42,ntmps42
 go_wp2_with fail
 refine(HWI.out _).mono ?_;rintro z w2 ⟨rfl,bb2⟩;clear x0 x1 x2 x3 x4 y0 y1 y2 y3;have g_2:=g1.l bb2;have q_2:=q1.l bb2;have c_2:=c1.l bb2;have b0_2:=aa b1 bb2;clear g1 q1 c1 b1 bb2;have bd_2:Below w2.heap.size w2 w2.drew:=(Below.refl _ _).drew;have g_3:=g_2.l bd_2;have q_3:=q_2.l bd_2;have c_3:=c_2.l bd_2;have b0_3:=aa b0_2 bd_2;clear g_2 q_2 c_2 b0_2 bd_2;obtain⟨x0,x1,x2,x3,x4⟩:=g_3.cs5;obtain⟨y0,y1,y2,y3⟩:=q_3.cs4
 go_wp2_with fail
 go_region_held3 (fun wq=>(wq.cell? ⟨w.heap.size,1,none⟩=some (.slice no nl nc)∧wq.cell? ⟨w.heap.size,2,none⟩=some (.slice eo el ec)∧wq.cell? ⟨w.heap.size,3,none⟩=some (.int .i64 E))) (go_keep) (first
  | (go_at_call 86;have hgd:=b0_3;clear hgd;refine(HL1.out _ b0_3).mono ?_;rintro z wa ⟨rfl,bb_wa⟩;have b0_wa:=aa b0_3 bb_wa;have g_wa:=g_3.l bb_wa;have q_wa:=q_3.l bb_wa;have c_wa:=c_3.l bb_wa;have ya1:=q_wa.c 1 rfl;have ya2:=q_wa.c 2 rfl;have ya3:=q_wa.c 3 rfl;clear b0_3)
  | (go_at_call 86;have hgd:=b0_wa;clear hgd;refine(HL2.out _ b0_wa).mono ?_;rintro z wb ⟨rfl,bb_wb⟩;have b0_wb:=aa b0_wa bb_wb;have g_wb:=g_wa.l bb_wb;have q_wb:=q_wa.l bb_wb;have c_wb:=c_wa.l bb_wb;have yb1:=q_wb.c 1 rfl;have yb2:=q_wb.c 2 rfl;have yb3:=q_wb.c 3 rfl;clear b0_wa))
 clear x0 x1 x2 x3 x4 y0 y1 y2 y3 ya1 ya2 ya3 yb1 yb2 yb3
 go_goals
 have xd:=(g_wb.l (Below.refl _ _).drew).c 1 rfl;have x1:=g_wb.c 1 rfl
 go_wp2_with fail
 have wk0:=(WK.out k0 HKK.out (Int.le_refl _)).1
 go_quiet (fail)
 have g_5:=g_wb.l (aL (Below.refl _ _) nq);have q_5:=q_wb.l (aL (Below.refl _ _) nq);have c_5:=c_wb.l (aL (Below.refl _ _) nq);have b0_5:=aa b0_wb (aL (Below.refl _ _) nq);clear g_wb q_wb c_wb b0_wb;clear xd x1 U1 U2 U3 Q1 Q2 U4 U5 U6 U7 U8 _hne hne2 hnl;obtain⟨y0,y1,y2,y3⟩:=q_5.cs4
 go_wp2_with fail
 refine(HPA.out k0 _ HKK.out (Int.le_refl _) b0_5).mono ?_;rintro z w3 ⟨v1,v2,v3,rfl,r1,r2,r3,bb3⟩;clear y0 y1 y2 y3 wk0;have g_6:=g_5.l bb3;have q_6:=q_5.l bb3;have c_6:=c_5.l bb3;have b0_6:=aa b0_5 bb3;clear g_5 q_5 c_5 b0_5 bb3;have L0:acK w3 f g h K k0 (.int .i64 k0) v1 v2 v3 w3:=⟨k0,rfl,HKK.out,Int.le_refl _,r1,r2,r3,Below.refl _ _⟩;clear r1 r2 r3 HKK
 go_wp2_with fail
 go_loopw [9,10,11,12] (acK w3 f g h K k0) (fun kv _ _ _ _=>(intOf kv-K).toNat)
 case atStart=>exact L0
 case round=>
  clear L0;obtain⟨kk,rfl,hk1,hk2,rd1,rd2,rd3,bel⟩:=hrel;have bel2:=bel;have g_7:=g_6.l bel;have q_7:=q_6.l bel;have c_7:=c_6.l bel;have b0_7:=aa b0_6 bel;clear g_6 q_6 c_6 b0_6 bel;have bd_7:Below wr.heap.size wr wr.drew:=(Below.refl _ _).drew;have g_8:=g_7.l bd_7;have q_8:=q_7.l bd_7;have c_8:=c_7.l bd_7;have d_8:=rd1.l bd_7;have r_8:=rd2.l bd_7;have n_8:=rd3.l bd_7;have b0_8:=aa b0_7 bd_7;clear g_7 q_7 c_7 rd1 rd2 rd3 b0_7 bd_7;have x1:=g_8.c 1 rfl;have HB:Hid _:=HLF.out kk
  by_cases hlt:K<kk
  ·have t1:=HT1.out kk hlt hk2
   obtain⟨B,hB⟩: ∃B,bl kk=B:=⟨_,rfl⟩;rw[hB] at t1 HB;clear hB HT1 HT2;have wkm:=(WK.out kk hk1 hk2).2;have wk1:=(WK.out (kk-1) (by omega) (by omega)).1
   go_wp2_with fail
   go_region_held3 (fun wq=>wq.cell? ⟨w.heap.size+1,1,none⟩=some (.int .i64 D)) (go_keep) (first
    | (go_at_call 86;have hgd:=b0_8;clear hgd;refine(HB.out _ _ hk1 hk2 d_8).mono ?_;rintro z wx ⟨rfl,bb_wx⟩;have b0_wx:=aa b0_8 bb_wx;have g_wx:=g_8.l bb_wx;have q_wx:=q_8.l bb_wx;have c_wx:=c_8.l bb_wx;have d_wx:=d_8.l bb_wx;have r_wx:=r_8.l bb_wx;have n_wx:=n_8.l bb_wx;have xx1:=g_wx.c 1 rfl;clear b0_8))
   go_goals
   obtain⟨y0,y1,y2,y3⟩:=q_wx.cs4
   go_wp2_with fail
   refine(HPA.out (kk-1) _ (by omega) (by omega) b0_wx).mono ?_;rintro z wz ⟨u1,u2,u3,rfl,s1,s2,s3,bz⟩;have bE:=aa (aa (aa bel2 ((Below.refl _ _).drew)) bb_wx) bz
   go_wp2
   go_roundw
   case rel=>exact⟨kk-1,rfl,by omega,by omega,s1,s2,s3,bE⟩
   case measure=>simp[intOf];omega
  ·have hkK:K=kk:=by omega
   subst hkK;have t2:=HT2.out;obtain⟨B,hB⟩: ∃B,bl K=B:=⟨_,rfl⟩;rw[hB] at t2 HB;clear hB HT1 HT2 hlt bel2;have t3:decide ((B:Int)<wd*(D-1)+1)=false:=decide_eq_false t2
   go_wp2_with fail
   go_region_held3 (fun wq=>wq.cell? ⟨w.heap.size+1,1,none⟩=some (.int .i64 D)) (go_keep) (first
    | (go_at_call 86;have hgd:=b0_8;clear hgd;refine(HB.out _ _ hk1 hk2 d_8).mono ?_;rintro z wx ⟨rfl,bb_wx⟩;have b0_wx:=aa b0_8 bb_wx;have g_wx:=g_8.l bb_wx;have q_wx:=q_8.l bb_wx;have c_wx:=c_8.l bb_wx;have d_wx:=d_8.l bb_wx;have r_wx:=r_8.l bb_wx;have n_wx:=n_8.l bb_wx;have xx1:=g_wx.c 1 rfl;clear b0_8))
   go_goals
   clear HB HL1 HL2 HWI HPA HLF WK x1 xx1 bb_wx;have ap:=af wx (.cells #[.bool qs,.slice none 0 0,.int .i64 K,.bool false,.bool false,.bool un] 91);have p3:=ah wx [.bool qs,.slice none 0 0,.int .i64 K,.bool false,.bool false,.bool un] 91;have hPb:w.heap.size+1+1<wx.heap.size:=c_wx.lt;have x2:=g_wx.c 2 rfl;have x4:=g_wx.c 4 rfl;have y0:=q_wx.c 0 rfl;have g_31:=g_wx.l ap;have q_31:=q_wx.l ap;have c_31:=c_wx.l ap;have d_31:=d_wx.l ap;have r_31:=r_wx.l ap;have n_31:=n_wx.l ap;have b0_31:=aa b0_wx ap;clear g_wx q_wx c_wx d_wx r_wx n_wx b0_wx ap;have hlt:decide (K<L)=un:=HUN.out.symm
   go_upto_region 11 with fail
   clear x2 x4 y0 t2 t3 hk1 hk2;generalize hW4:wx.alloc (.cells #[.bool qs,.slice none 0 0,.int .i64 K,.bool false,.bool false,.bool un] 91)=W4 at g_31 q_31 c_31 d_31 r_31 n_31 p3 b0_31⊢;generalize wx.heap.size=PB at p3 hPb⊢;clear hW4;have x4:=g_31.c 4 rfl;have z5:=p3.c 5 rfl
   go_cut [85] (fun s85 wy=>s85= .bool bb∧wy=W4)
   case first=>
    cases un
    ·go_wp2_with fail
     go_meet
     exact⟨by rw[←HBB.out];rfl,rfl⟩
    ·go_wp2_with fail
     go_meet
     exact⟨by rw[←HBB.out];rfl,rfl⟩
   case rest=>
    obtain⟨rfl,rfl⟩:=hcut;clear x4 z5 hlt
    go_upto_if 85 with fail
    have hAP:w.heap.size≠PB:=by omega
    have hBP:w.heap.size+1≠PB:=by omega
    have hCP:w.heap.size+1+1≠PB:=by omega
    have hPl:w.heap.size≤PB:=by omega
    have HLC:Hid (au wc PB 91 [.bool qs,.slice none 0 0,.int .i64 K,.bool false,.bool false,.bool un]∧au wc w.heap.size 31 [.bool qs,.slice no nl nc,.slice eo el ec,.int .i64 E]∧au wc (w.heap.size+1) 40 [.int .i64 R,.int .i64 D,.int .i64 L,.int .i64 G,.bool gr]∧au wc (w.heap.size+1+1) 91 [.bool false,.slice none 0 0,.int .i64 0,.bool false,.bool false,.bool false]∧Below w.heap.size w wc):=⟨p3,q_31,g_31,c_31,b0_31⟩;have HRD:Hid (Rd wc .i64 u10 (Dg.dg 65536 (f K))∧Rd wc .i64 u11 (Dg.dg 65536 (g K))∧Rd wc .i64 u12 (Dg.dg 65536 (h K))):=⟨d_31,r_31,n_31⟩;have bu:=ag wc PB 2 (.int .i64 L);have qS:=bu.loc q_31 hAP;have gS:=bu.loc g_31 hBP;have cS:=bu.loc c_31 hCP;have pS:=p3.set 2 (.int .i64 L);have bS:=bu.below b0_31 hPl;have x2:=g_31.c 2 rfl;have v2:=p3.c 2 rfl;have f2:=p3.f 2;clear bu g_31 q_31 c_31 d_31 r_31 n_31 p3 b0_31
    go_cut [10,11,12] (fun s10 s11 s12 wy=>(Rd wy .i64 s10 (Dg.dg 65536 q)∧Rd wy .i64 s11 (Dg.dg 65536 r)∧Rd wy .i64 s12 (Dg.dg 65536 dn))∧au wy PB 91 [.bool qs,.slice none 0 0,.int .i64 K2,.bool false,.bool false,.bool un]∧au wy w.heap.size 31 [.bool qs,.slice no nl nc,.slice eo el ec,.int .i64 E]∧au wy (w.heap.size+1) 40 [.int .i64 R,.int .i64 D,.int .i64 L,.int .i64 G,.bool gr]∧au wy (w.heap.size+1+1) 91 [.bool false,.slice none 0 0,.int .i64 0,.bool false,.bool false,.bool false]∧Below w.heap.size w wy)
    case first=>
     cases bb
     ·obtain⟨e1,e2,e3,e4⟩:=HB2.out rfl
      clear qS gS cS pS bS x2 v2 f2;have HE:Hid (K2=K∧f K=q∧g K=r∧h K=dn):=⟨e1,e2,e3,e4⟩;clear e1 e2 e3 e4
      go_wp2_with fail
      go_meet
      obtain⟨e1,e2,e3,e4⟩:=HE.out;rw[←e2,←e3,←e4,e1];exact⟨HRD.out,HLC.out⟩
     ·have HPX:Hid _:=HPL.out rfl
      have HE:Hid (K2=L):=HB1.out rfl
      go_upto_region 13 with fail
      generalize wc.setCell ⟨PB,2,none⟩ (.int .i64 L)=WS at qS gS cS pS bS⊢;clear x2 v2 f2;have x2:=gS.c 2 rfl;obtain⟨y0,y1,y2,y3⟩:=qS.cs4
      go_wp2_with fail
      refine(HPX.out _ bS).mono ?_;rintro z wy ⟨u1',u2',u3',rfl,s1,s2,s3,bz⟩;have qT:=qS.l bz;have gT:=gS.l bz;have cT:=cS.l bz;have pT:=pS.l bz;have bT:=aa bS bz;clear qS gS cS pS bS bz x2 y0 y1 y2 y3
      go_wp2_with fail
      go_meet
      rw[HE.out];exact⟨⟨s1,s2,s3⟩,pT,qT,gT,cT,bT⟩
    case rest=>
     obtain⟨⟨rdd,rdr,rdn⟩,p9,q9,g9,c9,b9⟩:=hcut;clear HLC HRD HB1 HB2 HPL qS gS cS pS bS x2 v2 f2 WL;obtain⟨ro,rk,h11⟩:=rdr.shape;subst h11;obtain⟨qo,qk,h10⟩:=rdd.shape;subst h10;obtain⟨lr,hlr⟩: ∃l,(Dg.dg 65536 r).length=l:=⟨_,rfl⟩;have hl0:((lr:Int)==0)=ex:=by rw[HEX.out,←hlr];exact Aa r
     obtain⟨ld,hld⟩: ∃l,(Dg.dg 65536 q).length=l:=⟨_,rfl⟩;rw[hlr] at rdr⊢;rw[hld] at rdd⊢;have y3:=p9.c 3 rfl;have f3:=p9.f 3
     go_upto_region 15 with fail
     have bu:=ag wc PB 3 (.bool ex);have q7:=bu.loc q9 hAP;have g7:=bu.loc g9 hBP;have c7:=bu.loc c9 hCP;have p7:au (wc.setCell ⟨PB,3,none⟩ (.bool ex)) PB 91 [.bool qs,.slice none 0 0,.int .i64 K2,.bool ex,.bool false,.bool un]:=p9.set 3 (.bool ex);have b7:=bu.below b9 hPl;have d7:=rdd.setC y3 (by simp) (.bool ex);have r7:=rdr.setC y3 (by simp) (.bool ex);have n7:=rdn.setC y3 (by simp) (.bool ex);clear bu q9 g9 c9 p9 b9 rdd rdr rdn y3 f3 hl0 hlr;generalize(wc.setCell ⟨PB,3,none⟩ (.bool ex))=W7 at q7 g7 c7 p7 b7 d7 r7 n7⊢
     go_cut [14] (fun s14 wy=>s14= .bool odd∧wy=W7)
     case first=>
      have hh:=Sb 65536 q (by omega);have hnl:=Dg.dg_nil_iff 65536 q (by omega);obtain⟨h1,h2,h3⟩:=iQ (hld▸d7:Rd W7 .i64 (.slice qo (Dg.dg 65536 q).length qk) (Dg.dg 65536 q));have hm2:q % 65536 % 2=q % 2:=by omega
      obtain⟨m,hm⟩: ∃m,q % 65536=m:=⟨_,rfl⟩;rw[hm] at hh hm2;have hml:m<65536:=by omega
      by_cases h0:q=0
      ·have hl:ld=0:=by rw[←hld,List.length_eq_zero_iff];exact hnl.2 h0
       have HO:Hid (odd=false):=by rw[HOD.out,h0];rfl
       clear h0 hh hm2 hm hml hnl h1 h2 h3 d7 r7 n7 q7 g7 c7 p7 hld;subst hl
       go_wp2_with fail
       go_meet
       exact⟨by rw[HO.out],rfl⟩
      ·have hl:0< (Dg.dg 65536 q).length:=by
        rcases Nat.eq_zero_or_pos (Dg.dg 65536 q).length with h4|h4
        ·exact absurd (hnl.1 (List.length_eq_zero_iff.1 h4)) h0
        ·exact h4
       obtain⟨b,off,rfl,hc⟩:=h3 hl;have c0:=hc 0 hl;rw[hh,Nat.add_zero] at c0;rw[hld] at hl h1;have hl0:(0:Int)< (ld:Int):=by omega
       have ht:(m:Int).tmod 2=((m % 2:Nat):Int):=by
        rw[Int.tmod_eq_emod_of_nonneg (by omega)];omega
       have ht2:(m:Int) % 2=((m % 2:Nat):Int):=by omega
       clear hc h3 hld hh hm hnl d7 r7 n7 q7 g7 c7 p7
       by_cases hodd:q % 2=1
       ·have e1:m % 2=1:=by omega
        have HO:Hid (odd=true):=HOD.out.trans (decide_eq_true hodd);rw[e1] at ht ht2;clear hodd hm2 h0
        go_wp2_with fail
        go_meet
        exact⟨by rw[HO.out],rfl⟩
       ·have e1:m % 2=0:=by omega
        have HO:Hid (odd=false):=HOD.out.trans (decide_eq_false hodd);rw[e1] at ht ht2;clear hodd hm2 h0
        go_wp2_with fail
        go_meet
        exact⟨by rw[HO.out],rfl⟩
     case rest=>
      obtain⟨rfl,rfl⟩:=hcut;have z3:=p7.c 3 rfl;have z0:=q7.c 0 rfl
      go_upto_region 16 with fail
      go_cut [127] (fun s127 wy=>s127= .bool (!ex&&aw)∧Below wc.heap.size wc wy)
      case first=>
       cases ex
       ·have ba:Below wc.heap.size wc (wc.alloc (.cells #[.int .i64 ((2:Nat):Int)] 3)).drew:=(af wc (.cells #[.int .i64 ((2:Nat):Int)] 3)).drew
        have w2:Rd (wc.alloc (.cells #[.int .i64 ((2:Nat):Int)] 3)).drew .i64 _ _:=(cE (w:=wc) (k:= .i64) (e:=3) [2] #[.int .i64 ((2:Nat):Int)] rfl (by unfold maxLen;simp)).l ((Below.refl _ _).drew);have z3d:=(p7.l ba).c 3 rfl;have z0d:=(q7.l ba).c 0 rfl;have z3e:=p7.drew.c 3 rfl;have z0e:=q7.drew.c 0 rfl
        go_wp2_with fail
        go_region_held3 (fun wq=>wq.cell? ⟨PB,3,none⟩=some (.bool false)∧wq.cell? ⟨w.heap.size,0,none⟩=some (.bool qs)) (go_keep) (first
         | (go_at_call 34;have hgd:=ba;clear hgd;refine(HTI.out _ _ _ (r7.l ba) w2).mono ?_;rintro z x1 ⟨v1,rfl,o1,bb_x1⟩;have b0_x1:=aa ba bb_x1;have q_x1:=(q7.l ba).l bb_x1;have p_x1:=(p7.l ba).l bb_x1;have r_x1:=(r7.l ba).l bb_x1;have n_x1:=(n7.l ba).l bb_x1;have i1:=p_x1.c 3 rfl;have i2:=q_x1.c 0 rfl;clear ba)
         | (go_at_call 54;have hgd:=b0_x1;clear hgd;refine(HCM.out _ _ _ o1 n_x1).mono ?_;rintro z x2 ⟨rfl,bb_x2⟩;have b0_x2:=aa b0_x1 bb_x2;have q_x2:=q_x1.l bb_x2;have p_x2:=p_x1.l bb_x2;have r_x2:=r_x1.l bb_x2;have n_x2:=n_x1.l bb_x2;have i3:=p_x2.c 3 rfl;have i4:=q_x2.c 0 rfl;clear b0_x1)
         | (go_at_call 88;have hgd:=b0_x2;clear hgd;refine(HAW.out _).mono ?_;rintro z x3 ⟨rfl,rfl⟩;have b0_x3:=b0_x2;clear b0_x2))
        go_goals
        go_wp2_with fail
        go_meet
        exact⟨rfl,b0_x3⟩
       ·go_wp2_with fail
        go_quiet (fail)
        go_goals
        go_wp2_with fail
        go_meet
        exact⟨rfl,aL (Below.refl _ _) nq⟩
      case rest=>
       obtain⟨rfl,bw7⟩:=hcut;clear z3 z0 HTI HCM HAW r7 n7;have q_61:=q7.l bw7;have g_61:=g7.l bw7;have c_61:=c7.l bw7;have p_61:=p7.l bw7;have d_61:=d7.l bw7;have b0_61:=aa b7 bw7;clear q7 g7 c7 p7 d7 b7 bw7
       go_upto_if 127 with fail
       go_cut [10] (fun s10 wy=>Rd wy .i64 s10 (Dg.dg 65536 cd)∧au wy PB 91 [.bool qs,.slice none 0 0,.int .i64 cp,.bool ex,.bool false,.bool un]∧au wy w.heap.size 31 [.bool qs,.slice no nl nc,.slice eo el ec,.int .i64 E]∧au wy (w.heap.size+1) 40 [.int .i64 R,.int .i64 D,.int .i64 L,.int .i64 G,.bool gr]∧au wy (w.heap.size+1+1) 91 [.bool false,.slice none 0 0,.int .i64 0,.bool false,.bool false,.bool false]∧Below w.heap.size w wy)
       case first=>
        have a1:=af wc (.cells #[.int .i64 ((1:Nat):Int)] 3);have r1:=cE (w:=wc) (k:= .i64) (e:=3) [1] #[.int .i64 ((1:Nat):Int)] rfl (by unfold maxLen;simp)
        by_cases hb:ex=false∧aw=true
        ·obtain⟨rfl,rfl⟩:=hb
         have HD1:Hid (lg=true→cp=K2+1):=HC1.out rfl rfl;have HD2:Hid (lg=false→cd=q+1∧cp=K2):=HC2.out rfl rfl;have HD3:Hid (lg=true→_):=fun c=>HP2.out c rfl rfl
         clear HC1 HC2 HC3 HP2
         go_wp2_with fail
         refine(HPS.out _ _ _ (d_61.l a1) r1).mono ?_;rintro z wp ⟨vx,rfl,rx,bx⟩;clear r1;have q_62:=q_61.l a1;have g_62:=g_61.l a1;have c_62:=c_61.l a1;have p_62:=p_61.l a1;have b0_62:=aa b0_61 a1;clear q_61 g_61 c_61 p_61 b0_61 a1;have q_63:=q_62.l bx;have g_63:=g_62.l bx;have c_63:=c_62.l bx;have p_63:=p_62.l bx;have b0_63:=aa b0_62 bx;clear q_62 g_62 c_62 p_62 b0_62 bx;have bd_63:Below wp.heap.size wp wp.drew:=(Below.refl _ _).drew;have q_64:=q_63.l bd_63;have g_64:=g_63.l bd_63;have c_64:=c_63.l bd_63;have p_64:=p_63.l bd_63;have x_64:=rx.l bd_63;have b0_64:=aa b0_63 bd_63;clear q_63 g_63 c_63 p_63 rx b0_63 bd_63;have x1:=g_64.c 1 rfl
         cases lg
         ·obtain⟨e1,e2⟩:=HD2.out rfl
          have HE:Hid (cd=q+1∧cp=K2):=⟨e1,e2⟩;clear e1 e2;have tl:=HG2.out rfl;have tf:decide (wd*D< (lq:Int))=false:=decide_eq_false (by omega)
          go_wp2_with fail
          go_region_held3 (fun wq=>wq.cell? ⟨w.heap.size+1,1,none⟩=some (.int .i64 D)) (go_keep) (first
           | (go_at_call 86;have hgd:=b0_64;clear hgd;refine(HL3.out _ _ x_64).mono ?_;rintro z wl ⟨rfl,bb_wl⟩;have b0_wl:=aa b0_64 bb_wl;have q_wl:=q_64.l bb_wl;have g_wl:=g_64.l bb_wl;have c_wl:=c_64.l bb_wl;have p_wl:=p_64.l bb_wl;have x_wl:=x_64.l bb_wl;have xx1:=g_wl.c 1 rfl;clear b0_64))
          go_goals
          clear x1 xx1
          go_wp2_with fail
          go_meet
          obtain⟨e1,e2⟩:=HE.out;rw[e1,e2];exact⟨x_wl,p_wl,q_wl,g_wl,c_wl,b0_wl⟩
         ·have HE:Hid (cp=K2+1):=HD1.out rfl
          have tl:=HG1.out rfl;have HPW:Hid _:=HD3.out rfl
          go_wp2_with fail
          go_region_held3 (fun wq=>wq.cell? ⟨w.heap.size+1,1,none⟩=some (.int .i64 D)) (go_keep) (first
           | (go_at_call 86;have hgd:=b0_64;clear hgd;refine(HL3.out _ _ x_64).mono ?_;rintro z wl ⟨rfl,bb_wl⟩;have b0_wl:=aa b0_64 bb_wl;have q_wl:=q_64.l bb_wl;have g_wl:=g_64.l bb_wl;have c_wl:=c_64.l bb_wl;have p_wl:=p_64.l bb_wl;have x_wl:=x_64.l bb_wl;have xx1:=g_wl.c 1 rfl;clear b0_64))
          go_goals
          clear x1 xx1 bb_wl;have bd_90:Below wl.heap.size wl wl.drew:=(Below.refl _ _).drew;have q_91:=q_wl.l bd_90;have g_91:=g_wl.l bd_90;have c_91:=c_wl.l bd_90;have p_91:=p_wl.l bd_90;have b0_91:=aa b0_wl bd_90;clear q_wl g_wl c_wl p_wl b0_wl bd_90;have x1:=g_91.c 1 rfl;have v2:=p_91.c 2 rfl
          go_wp2_with fail
          have nPG:PB≠w.heap.size+1:=by omega
          have hPw:PB<wl.drew.heap.size:=p_91.lt
          go_region_with ((go_at_call 50;refine(HPW.out _).mono ?_;rintro z wm ⟨vp,rfl,op,bbm⟩;have gm:=g_91.l bbm;have pm:=p_91.l bbm;have qm:=q_91.l bbm;have cm:=c_91.l bbm;have bm:=aa b0_91 bbm;have vv2:=pm.c 2 rfl;have ff2:=pm.f 2))
          all_goals (go_wp2_with fail)
          all_goals (have bu:=ag wm PB 2 (.int .i64 (K2+1));have qS:=bu.loc qm hAP;have gS:=bu.loc gm hBP;have cS:=bu.loc cm hCP;have pS:=pm.set 2 (.int .i64 (K2+1));have bS:=bu.below bm hPl;have oS:=op.rd.set (abi op hPw) 2 (.int .i64 (K2+1));clear bu;go_meet;rw[HE.out];exact⟨oS,pS,qS,gS,cS,bS⟩)
        ·obtain⟨e1,e2⟩:=HC3.out (Bf hb).1
         have HE:Hid (cd=q∧cp=K2):=⟨e1,e2⟩;have hf:(!ex&&aw)=false:=(Bf hb).2;clear e1 e2 a1 r1;rw[hf]
         go_wp2_with fail
         go_meet
         obtain⟨e1,e2⟩:=HE.out;rw[e1,e2];exact⟨d_61,p_61,q_61,g_61,c_61,b0_61⟩
       case rest=>
        obtain⟨rde,p9,q9,g9,c9,b9⟩:=hcut;obtain⟨so,sk,h10⟩:=rde.shape;subst h10;have hlz:=Aa cd;obtain⟨lc,hlc⟩: ∃l,(Dg.dg 65536 cd).length=l:=⟨_,rfl⟩;rw[hlc] at hlz rde⊢;have x3:=g9.c 3 rfl;have v1:=p9.c 1 rfl;have f1:=p9.f 1;have v2:=p9.c 2 rfl;have f2:=p9.f 2;have v4:=p9.c 4 rfl;have f4:=p9.f 4;have nPG:PB≠w.heap.size+1:=by omega
        go_wp2_with fail
        have bu:But PB wc ((wc.setCell ⟨PB,1,none⟩ (.slice so lc sk)).setCell ⟨PB,4,none⟩ (.bool (decide (G<cp)))):=(ag wc PB 1 (.slice so lc sk)).trans (ag _ PB 4 (.bool (decide (G<cp))));have p10:=p9.set 1 (.slice so lc sk);have pX:au ((wc.setCell ⟨PB,1,none⟩ (.slice so lc sk)).setCell ⟨PB,4,none⟩ (.bool (decide (G<cp)))) PB 91 [.bool qs,.slice so lc sk,.int .i64 cp,.bool ex,.bool (decide (G<cp)),.bool un]:=p10.set 4 (.bool (decide (G<cp)));have rX:=(rde.setC v1 (by simp) (.slice so lc sk)).setC (p10.c 4 rfl) (by simp) (.bool (decide (G<cp)));have cX:=bu.loc c9 hCP;have bX:=bu.below b9 hPl
        go_region
        clear bu p10 p9 q9 g9 c9 b9 rde x3 v1 v2 v4 f1 f2 f4;generalize((wc.setCell ⟨PB,1,none⟩ (.slice so lc sk)).setCell ⟨PB,4,none⟩ (.bool (decide (G<cp))))=WX at pX cX rX bX⊢;have pY:=pX.drew;have cY:=cX.drew;have rY:=rX.l ((Below.refl _ _).drew);have bY:=aa bX ((Below.refl _ _).drew);clear pX cX rX bX;generalize WX.drew=WY at pY cY rY bY⊢;have hz: ∀x∈([.bool false,.slice none 0 0,.int .i64 0,.bool false,.bool false,.bool false]:List Value),∀n:Int,n≠0→x≠ .int .i64 n:=by simp;intro n hn h;exact hn h.symm
        by_cases hc0:cd=0
        ·have hl9:lc=0:=by rw[←hlc,hc0];rfl
         have HC0:Hid (cd=0):=hc0;subst hl9;have rW: ∀W:World,Rd W .i64 (.slice so 0 sk) []:=fun W=>by
          have e:Dg.dg 65536 cd=[]:=List.length_eq_zero_iff.1 hlc;rw[e] at rY;obtain⟨ao',ca',hv,h1,h2,_⟩:=rY;exact⟨ao',ca',hv,h1,h2,fun h=>by simp at h⟩
         clear hc0 hlz hlc rY;have v2:=pY.c 2 rfl;have f2:=pY.f 2;have bu:=ag WY PB 2 (.int .i64 0);have pZ:au (WY.setCell ⟨PB,2,none⟩ (.int .i64 0)) PB 91 [.bool qs,.slice so 0 sk,.int .i64 0,.bool ex,.bool (decide (G<cp)),.bool un]:=pY.set 2 (.int .i64 0);have cZ:=bu.loc cY hCP;have bZ:=bu.below bY hPl;have rZ:=rW (WY.setCell ⟨PB,2,none⟩ (.int .i64 0));have NZ:Dg.Norm ([]:List Nat):=Dg.norm_dg 65536 0 (by omega)
         go_upto_region 23 with fail
         clear bu pY cY bY v2 f2 rW;generalize(WY.setCell ⟨PB,2,none⟩ (.int .i64 0))=WZ at pZ cZ bZ rZ⊢;have rg9:=pZ.range;have th9:=cZ.there 6 rfl;have cR:=cZ.sets [.bool qs,.slice so 0 sk,.int .i64 0,.bool ex,.bool (decide (G<cp)),.bool un] rfl;have buR:=de (w.heap.size+1+1) [.bool qs,.slice so 0 sk,.int .i64 0,.bool ex,.bool (decide (G<cp)),.bool un] 0 WZ;have bR:=buR.below bZ (show w.heap.size≤w.heap.size+1+1 by omega)
         have rR:=buR.rd rZ (cq rZ NZ cZ hz);refine wp_region_lit ?_;refine wpList_load_mid rfl 91 (.tmp 13) rfl PB 0 rfl [.bool qs,.slice so 0 sk,.int .i64 0,.bool ex,.bool (decide (G<cp)),.bool un] _ rg9 underlying91 rfl (by kernel_rfl) ?_;refine wpList_store_mid rfl 91 (.tmp 6) (.tmp 160) rfl (w.heap.size+1+1) 0 #[.bool qs,.slice so 0 sk,.int .i64 0,.bool ex,.bool (decide (G<cp)),.bool un] rfl rfl th9 (by kernel_rfl) (by simp[Value.oneCell']) ?_;refine wpList_nil ?_;clear rg9 th9 buR pZ cZ rZ NZ hz bZ;change Exit.then _ _ _ _ (World.setCells WZ (w.heap.size+1+1) 0 [.bool qs,.slice so 0 sk,.int .i64 0,.bool ex,.bool (decide (G<cp)),.bool un]);generalize World.setCells WZ (w.heap.size+1+1) 0 [.bool qs,.slice so 0 sk,.int .i64 0,.bool ex,.bool (decide (G<cp)),.bool un]=WR at cR bR rR⊢
         go_goals
         rename_i KK hKK
         refine hKK _ _ (wp_ret ?_);clear hKK;obtain⟨s0,s1,s2,s3,s4,s5⟩:=cR.cs6;refine bodyPost_ret (v:= .agg #[.bool qs,.slice so 0 sk,.int .i64 0,.bool ex,.bool (decide (G<cp)),.bool un]) (by simp[results,results42,go_sem,s0,s1,s2,s3,s4,s5]) rfl ?_;have hc:=HC0.out;rw[HPT.out,hc];exact⟨_,rfl,rR,bR⟩
        ·have hz9:((lc:Int)==0)=false:=by rw[hlz];simp[hc0]
         have HC0:Hid (¬cd=0):=hc0;clear hc0 hlz;have pZ:=pY;have cZ:=cY;have bZ:=bY;have rZ:=rY;have NZ:=Dg.norm_dg 65536 cd (by omega);clear pY cY bY rY
         go_upto_region 23 with fail
         have rg9:=pZ.range;have th9:=cZ.there 6 rfl;have cR:=cZ.sets [.bool qs,.slice so lc sk,.int .i64 cp,.bool ex,.bool (decide (G<cp)),.bool un] rfl;have buR:=de (w.heap.size+1+1) [.bool qs,.slice so lc sk,.int .i64 cp,.bool ex,.bool (decide (G<cp)),.bool un] 0 WY;have bR:=buR.below bZ (show w.heap.size≤w.heap.size+1+1 by omega)
         have rR:=buR.rd rZ (cq rZ NZ cZ hz);refine wp_region_lit ?_;refine wpList_load_mid rfl 91 (.tmp 13) rfl PB 0 rfl [.bool qs,.slice so lc sk,.int .i64 cp,.bool ex,.bool (decide (G<cp)),.bool un] _ rg9 underlying91 rfl (by kernel_rfl) ?_;refine wpList_store_mid rfl 91 (.tmp 6) (.tmp 160) rfl (w.heap.size+1+1) 0 #[.bool qs,.slice so lc sk,.int .i64 cp,.bool ex,.bool (decide (G<cp)),.bool un] rfl rfl th9 (by kernel_rfl) (by simp[Value.oneCell']) ?_;refine wpList_nil ?_;clear rg9 th9 buR pZ cZ rZ NZ hz bZ;change Exit.then _ _ _ _ (World.setCells WY (w.heap.size+1+1) 0 [.bool qs,.slice so lc sk,.int .i64 cp,.bool ex,.bool (decide (G<cp)),.bool un]);generalize World.setCells WY (w.heap.size+1+1) 0 [.bool qs,.slice so lc sk,.int .i64 cp,.bool ex,.bool (decide (G<cp)),.bool un]=WR at cR bR rR⊢
         go_goals
         rename_i KK hKK
         refine hKK _ _ (wp_ret ?_);clear hKK;obtain⟨s0,s1,s2,s3,s4,s5⟩:=cR.cs6;refine bodyPost_ret (v:= .agg #[.bool qs,.slice so lc sk,.int .i64 cp,.bool ex,.bool (decide (G<cp)),.bool un]) (by simp[results,results42,go_sem,s0,s1,s2,s3,s4,s5]) rfl ?_;rw[HPT.out];exact⟨_,by rw[if_neg HC0.out],rR,bR⟩
end Go.Proofs.YtpgijbdgljkeeaaGreatDoor

/-
  Texts laid together: Ty3.
-/
import Derived.Test.YtpgijbdgljkeeaaGreatDoorUb02
import Derived.Test.YtpgijbdgljkeeaaGreatDoorUb03
set_option maxRecDepth 100000
set_option maxHeartbeats 25600000
namespace Go.Proofs.YtpgijbdgljkeeaaGreatDoor
open _root_.Go.Proofs.Tryz
open Go.RowKit
theorem digitsOf_W (x:ak)(num den n2 d2 T B dQ rR rT q:Nat)(k:Nat)(P p0 q1 q2 q3 q4 nl dl km up ua en c P1:Int)(S S2:ByteArray)(xo:Option Addr)(xc:Nat)(w:World)
  (rx:Rd w .i64 (yS xo x.n xc) (Dg.dg 65536 x.n))
  (hn:(0≤x.e∧den=1)∨(¬0≤x.e∧num=x.n))
  (hen: ¬0≤x.e→IntKind.i64.wrap (-x.e)=en)
  (hq1:IntKind.i64.wrap (nl-dl)=q1) (hq2:IntKind.i64.wrap (q1-1)=q2) (hq3:IntKind.i64.wrap (q2*30)=q3) (hq4:IntKind.i64.wrap (q3.tdiv 100)=q4) (hp0:IntKind.i64.wrap (q4-2)=p0)
  (hp: -5990≤p0∧p0≤5990∧ -5990≤P∧P≤5990) (hk:1≤k∧k≤60)
  (hkm:IntKind.i64.wrap ((k:Int)-1)=km) (hup:IntKind.i64.wrap (km-P)=up)
  (hU:(0≤up∧up=ua∧den=d2∧n2=num*T)∨(¬0≤up∧IntKind.i64.wrap (-up)=ua∧num=n2∧d2=den*T)) (hB:num≤B∧den≤B)
  (hr:(0<c∧q=dQ+1)∨(c=0∧dQ % 2=1∧q=dQ+1)∨(c=0∧dQ % 2=0∧q=dQ)∨(c<0∧q=dQ)) (hd0:dQ≠0)
  (hS:S.size≤1000∧((k<S.size∧S2=S.extract 0 k∧P1=P+1)∨(S.size≤k∧S2=S∧P1=P)))
  (HU:0≤x.e→ ∀xo xc w1,yB w w1→Rd w1 .i64 (yS xo x.n xc) (Dg.dg 65536 x.n)→yC 106 #[yS xo x.n xc,yi x.e] w1 (cG w1 num))
  (HD: ¬0≤x.e→ ∀w1,yB w w1→yC 50 #[yi en] w1 (cG w1 den))
  (HL: ∀no nc w1,yB w w1→Rd w1 .i64 (yS no num nc) (Dg.dg 65536 num)→yC 86 #[yS no num nc] w1 (yR w1 (yi nl)))
  (HM: ∀yo yc w1,yB w w1→Rd w1 .i64 (yS yo den yc) (Dg.dg 65536 den)→yC 86 #[yS yo den yc] w1 (yR w1 (yi dl)))
  (HO: ∀(p:Int) p6 p7 no nc yo yc w1,-6000≤p→p≤6000→yB w w1→w1.rangeAt p6 0 [yS no num nc]→w1.rangeAt p7 0 [yS yo den yc]→Rd w1 .i64 (yS no num nc) (Dg.dg 65536 num)→Rd w1 .i64 (yS yo den yc) (Dg.dg 65536 den)→yC 107 #[yi p,.pointer (some ⟨p7,0,none⟩),.pointer (some ⟨p6,0,none⟩)] w1 (yR w1 (.bool (decide (P<p)))))
  (HP: ∀w1,yB w w1→yC 108 #[yi ua] w1 (cG w1 T))
  (HT: ∀(m:Nat) mo mc ko kc w1,m≤B→yB w w1→Rd w1 .i64 (yS mo m mc) (Dg.dg 65536 m)→Rd w1 .i64 (yS ko T kc) (Dg.dg 65536 T)→yC 34 #[yS mo m mc,yS ko T kc] w1 (cG w1 (m*T)))
  (HI: ∀no nc yo yc w1,yB w w1→Rd w1 .i64 (yS no n2 nc) (Dg.dg 65536 n2)→Rd w1 .i64 (yS yo d2 yc) (Dg.dg 65536 d2)→yC 35 #[yS no n2 nc,yS yo d2 yc] w1 (JI w1 dQ rR))
  (HR: ∀ro rc q w1,yB w w1→Rd w1 .i64 (yS ro rR rc) (Dg.dg 65536 rR)→au w1 q 3 [yi 2]→yC 34 #[yS ro rR rc,.slice (some ⟨q,0,none⟩) 1 1] w1 (cG w1 rT))
  (HC: ∀so sc yo yc w1,yB w w1→Rd w1 .i64 (yS so rT sc) (Dg.dg 65536 rT)→Rd w1 .i64 (yS yo d2 yc) (Dg.dg 65536 d2)→yC 54 #[yS so rT sc,yS yo d2 yc] w1 (yR w1 (yi c)))
  (HA: ∀go gc b w1,yB w w1→Rd w1 .i64 (yS go dQ gc) (Dg.dg 65536 dQ)→au w1 b 3 [yi 1]→yC 53 #[yS go dQ gc,.slice (some ⟨b,0,none⟩) 1 1] w1 (cG w1 (dQ+1)))
  (HS: ∀go gc w1,yB w w1→Rd w1 .i64 (yS go q gc) (Dg.dg 65536 q)→yC 109 #[yS go q gc] w1 (yR w1 (.string S))):
  yC 56 #[yMV x xo xc,yi k] w ((yR w (.tuple #[.string S2,yi P1]))):=by
 replace hn:Hid _:=hn;replace hen:Hid _:=hen;replace hU:Hid _:=hU;replace hr:Hid _:=hr;replace hS:Hid _:=hS;replace HU:Hid _:=HU;replace HD:Hid _:=HD;replace HL:Hid _:=HL;replace HM:Hid _:=HM;replace HO:Hid _:=HO;replace HP:Hid _:=HP;replace HT:Hid _:=HT;replace HI:Hid _:=HI;replace HR:Hid _:=HR;replace HC:Hid _:=HC;replace HA:Hid _:=HA;replace HS:Hid _:=HS;replace hB:Hid _:=hB;obtain⟨W3,hW4,q1,b2⟩:=cA w (yML x xo xc) 47;replace hW4:Hid _:=hW4;have r5:=rx.l b2;clear rx
 go_enter func56,ntmps56
 go_upto_region 1 with fail
 rw[hW4.out];clear hW4;have c6:=q1.c 1 rfl;have hl9:=q1.lt;have al7:=af W3 (.cells #[yi 1] 3);have q8:=ah W3 [yi 1] 3;have q10:=q1.l al7;have r11:=r5.l al7;have b12:=aa b2 al7;obtain⟨W15,hW14,q16,q17,al13⟩:=iG (W3.alloc (.cells #[yi 1] 3)) [yS xo x.n xc] 29 [.slice (some ⟨W3.heap.size,0,none⟩) 1 1] 29;replace hW14:Hid _:=hW14;have hl18:w.heap.size≤(W3.alloc (.cells #[yi 1] 3)).heap.size:=b12.size;have hl19:=q10.lt;have hl20:=q8.lt;simp only[World.size_alloc] at q16 q17 hl18 hl19 hl20;have q21:=q10.l al13;have q22:=q8.l al13;have r23:=r11.l al13;have b24:=aa b12 al13;clear q10 q8 r11 b12 al13 q1 r5 b2 al7
 go_upto_region 2 with fail
 rw[hW14.out];clear hW14;have hbb:w.heap.size<W3.heap.size+1∧W3.heap.size+1<W3.heap.size+1+1:=⟨by omega,by omega⟩;have hG:DgW w (W3.heap.size+1) (W3.heap.size+1+1) x.n 1 (W15):=⟨b24,_,_,q16,q17,r23,rd_onE q22⟩;have q0:=q21;clear q21 q22 q16 q17 b24 r23 c6;generalize W3.heap.size+1+1=p7 at hG hbb⊢;generalize W3.heap.size+1=p6 at hG hbb⊢;generalize W15=ws at hG q0⊢;have cD:=q0.c 2 rfl
 go_upto_if 20 with fail
 clear cD
 go_cut [] from 20 (fun wx=>DgW w p6 p7 num den wx)
 case first=>
  obtain⟨bz,v,u,q6,q7,rn,rd⟩:=hG;obtain⟨vo6,vc6,rfl⟩:=rn.shape;obtain⟨yo,yc,rfl⟩:=rd.shape
  rcases hn.out with⟨he,rfl⟩| ⟨he,rfl⟩
  ·have HUa:Hid _:=HU.out he
   clear HU hn;have c101:=q6.c 0 rfl;have c102:=q0.c 2 rfl
   go_wp2_with fail
   refine(HUa.out _ _ _ bz rn).mono ?_;rintro zz w103 ⟨v1x105,rfl,r1x106,bb104⟩;have q107:=q6.l bb104;have q108:=q7.l bb104;have r109:=rd.l bb104;have b110:=aa bz bb104;obtain⟨no,nc,hv⟩:=r1x106.shape;subst hv;clear q6 q7 q0 rn rd bz bb104 HUa c101 c102;have bu:=ag w103 p6 0 (yS no num nc);have q111:au (w103.setCell ⟨p6,0,none⟩ (yS no num nc)) p6 29 [yS no num nc]:=(q107.set 0 (yS no num nc));have c112:=q107.c 0 rfl;have y113:=q107.f 0;have q114:=bu.loc q108 (by omega);have r115:=r109.setC (q107.c 0 rfl) (fun n=>by simp) (yS no num nc)
   have r116:=r1x106.setC (q107.c 0 rfl) (fun n=>by simp) (yS no num nc)
   have b117:=bu.below b110 (by omega);clear bu;clear q107 q108 r109 r1x106 b110
   go_wp2_with fail
   go_meet
   exact⟨b117,_,_,q111,q114,r116,r115⟩
  ·have HDa:Hid _:=HD.out he
   have hen2:=hen.out he;clear HD hn;have c101:=q0.c 2 rfl
   go_wp2_with fail
   refine(HDa.out _ bz).mono ?_;rintro zz w102 ⟨v1x104,rfl,r1x105,bb103⟩;have q106:=q6.l bb103;have q107:=q7.l bb103;have r108:=rn.l bb103;have b109:=aa bz bb103;obtain⟨yo,yc,hv⟩:=r1x105.shape;subst hv;clear q6 q7 q0 rn rd bz bb103 HDa c101;have bu:=ag w102 p7 0 (yS yo den yc);have q110:au (w102.setCell ⟨p7,0,none⟩ (yS yo den yc)) p7 29 [yS yo den yc]:=(q107.set 0 (yS yo den yc));have c111:=q107.c 0 rfl;have y112:=q107.f 0;have q113:=bu.loc q106 (by omega);have r114:=r108.setC (q107.c 0 rfl) (fun n=>by simp) (yS yo den yc)
   have r115:=r1x105.setC (q107.c 0 rfl) (fun n=>by simp) (yS yo den yc)
   have b116:=bu.below b109 (by omega);clear bu;clear q107 q106 r108 r1x105 b109
   go_wp2_with fail
   go_meet
   exact⟨b116,_,_,q113,q110,r114,r115⟩
 case rest=>
  have hG:=hcut;clear hcut q0 hn hen HU HD;obtain⟨bz,v,u,q6,q7,rn,rd⟩:=hG;obtain⟨no,nc,rfl⟩:=rn.shape;obtain⟨yo,yc,rfl⟩:=rd.shape
  go_upto_region 5 with fail
  have bW201:yB wc wc.drew:=(Below.refl _ _).drew;have q202:=q6.l bW201;have q203:=q7.l bW201;have r204:=rn.l bW201;have r205:=rd.l bW201;have b206:=aa bz bW201;clear q6 q7 rn rd bz bW201;refine wp_region_held_drew (S:=fun wq=>au wq p6 29 [yS no num nc]∧au wq p7 29 [yS yo den yc]) (by kernel_rfl) ⟨q202,q203⟩ (fun hS0=> ?_)
  generalize wc.drew=WD207 at q202 q203 r204 r205 b206 hS0⊢;refine tq 0 (yS no num nc) rfl (fun _ hw0=>gU 29 (.tmp 6) rfl p6 0 (by kernel_rfl) _ _ underlying29 rfl (hw0.1.c 0 rfl)) hS0 ?_
  refine tq 2 (yS yo den yc) rfl (fun _ hw0=>gU 29 (.tmp 7) rfl p7 0 (by kernel_rfl) _ _ underlying29 rfl (hw0.2.c 0 rfl)) hS0 ?_
  refine wpAnyH_ready (rs:=[1]) (by kernel_rfl) (by simp) ?_;refine AllReadyH.cons rfl (fun K hK=> ?_) AllReadyH.nil
  go_simp
  refine(HL.out _ _ _ b206 r204).mono ?_;rintro zz w208 ⟨rfl,bb209⟩;have q210:=q202.l bb209;have q211:=q203.l bb209;have r212:=r204.l bb209;have r213:=r205.l bb209;have b214:=aa b206 bb209;clear q202 q203 r204 r205 b206 bb209 HL;refine hK.out _ _ ⟨q210,q211⟩ (fun hS215=> ?_)
  clear hK K;refine wpAnyH_ready (rs:=[3]) (by kernel_rfl) (by simp) ?_;refine AllReadyH.cons rfl (fun K hK=> ?_) AllReadyH.nil
  go_simp
  refine(HM.out _ _ _ b214 r213).mono ?_;rintro zz w216 ⟨rfl,bb217⟩;have q218:=q210.l bb217;have q219:=q211.l bb217;have r220:=r212.l bb217;have r221:=r213.l bb217;have b222:=aa b214 bb217;clear q210 q211 r212 r213 b214 bb217 HM;refine hK.out _ _ ⟨q218,q219⟩ (fun hS223=> ?_)
  clear hK K;refine tq 4 (yi q1) rfl (fun _ _=>by go_simp) hS223 ?_
  refine tq 5 (yi q2) rfl (fun _ _=>by go_simp) hS223 ?_
  refine tq 6 (yi q3) rfl (fun _ _=>by go_simp) hS223 ?_
  refine tq 7 (yi q4) rfl (fun _ _=>by go_simp) hS223 ?_
  refine tq 8 (yi p0) rfl (fun _ _=>by go_simp) hS223 ?_
  refine tq 9 (yi p0) rfl (fun _ _=>by kernel_rfl) hS223 ?_
  refine wpAnyH_done (by kernel_rfl) ?_ _;clear hS0 hS215 hS223;simp only[Act.put,List.getElem_toArray,List.getElem_cons_succ,List.getElem_cons_zero,List.setIfInBounds_toArray,List.set_cons_zero,List.set_cons_succ];have hS:DgW w p6 p7 num den (w216):=⟨b222,_,_,q218,q219,r220,r221⟩;clear q218 q219 r220 r221 b222;generalize w216=ws2 at hS⊢
  go_wp2
  have HOa:Hid (∀(p:Int),-6000≤p→p≤6000→ ∀(B:Bool),decide (P<p)=B→ ∀no nc yo yc w1,yB w w1→w1.rangeAt p6 0 [yS no num nc]→w1.rangeAt p7 0 [yS yo den yc]→Rd w1 .i64 (yS no num nc) (Dg.dg 65536 num)→Rd w1 .i64 (yS yo den yc) (Dg.dg 65536 den)→yC 107 #[yi p,.pointer (some ⟨p7,0,none⟩),.pointer (some ⟨p6,0,none⟩)] w1 (yR w1 (.bool B))):=fun p h1 h2 B hB no nc yo yc w1 g1 g2 g3 g4 g5=>by
   have:=HO.out p p6 p7 no nc yo yc w1 h1 h2 g1 g2 g3 g4 g5
   rwa [hB] at this
  clear HO
  go_loopw [8] (fun pv wr=>DgA w p6 p7 num den P pv wr) (fun pv _=>(intOf pv-(P-3)).toNat)
  case atStart=>exact⟨p0,rfl,by omega,by omega,hS⟩
  case round=>
   clear hS;obtain⟨p,rfl,hpa,hpb,hG⟩:=hrel;obtain⟨bz,v,u,q6,q7,rn,rd⟩:=hG;obtain⟨no,nc,rfl⟩:=rn.shape;obtain⟨yo,yc,rfl⟩:=rd.shape
   by_cases hlt:P<p
   ·have HOb:Hid _:=HOa.out p hpa hpb true (decide_eq_true hlt)
    have ew:IntKind.i64.wrap (p-3)=p-3:=IntWalk.i64_in _ ⟨by omega,by omega⟩
    go_wp2_with fail
    refine(HOb.out _ _ _ _ _ bz q6.range q7.range rn rd).mono ?_;rintro zz w301 ⟨rfl,bb302⟩;have q303:=q6.l bb302;have q304:=q7.l bb302;have r305:=rn.l bb302;have r306:=rd.l bb302;have b307:=aa bz bb302;clear q6 q7 rn rd bz bb302 HOb
    go_wp2
    go_roundw
    case rel=>exact⟨p-3,by go_num,by omega,by omega,b307,_,_,q303,q304,r305,r306⟩
    case measure=>simp[intOf];omega
   ·have HOb:Hid _:=HOa.out p hpa hpb false (decide_eq_false hlt)
    go_wp2_with fail
    refine(HOb.out _ _ _ _ _ bz q6.range q7.range rn rd).mono ?_;rintro zz w401 ⟨rfl,bb402⟩;have q403:=q6.l bb402;have q404:=q7.l bb402;have r405:=rn.l bb402;have r406:=rd.l bb402;have b407:=aa bz bb402;clear q6 q7 rn rd bz bb402 HOb;have hS2:DgW w p6 p7 num den (w401):=⟨b407,_,_,q403,q404,r405,r406⟩;clear q403 q404 r405 r406 b407;generalize w401=ws2 at hS2⊢
    go_wp2
    go_loopw [8] (fun pv wr=>DgB w p6 p7 num den P pv wr) (fun pv _=>(P-intOf pv).toNat)
    case atStart=>exact⟨p,rfl,hpa,by omega,hS2⟩
    case round=>
     clear hS2 hlt hpa hpb;obtain⟨p,rfl,hpa,hpP,hG⟩:=hrel;obtain⟨bz,v,u,q6,q7,rn,rd⟩:=hG;obtain⟨no,nc,rfl⟩:=rn.shape;obtain⟨yo,yc,rfl⟩:=rd.shape
     by_cases hlt:p<P
     ·have HOb:Hid _:=HOa.out (p+1) (by omega) (by omega) false (decide_eq_false (by omega))
      have ew:IntKind.i64.wrap (p+1)=p+1:=IntWalk.i64_in _ ⟨by omega,by omega⟩
      go_wp2_with fail
      refine(HOb.out _ _ _ _ _ bz q6.range q7.range rn rd).mono ?_;rintro zz w501 ⟨rfl,bb502⟩;have q503:=q6.l bb502;have q504:=q7.l bb502;have r505:=rn.l bb502;have r506:=rd.l bb502;have b507:=aa bz bb502;clear q6 q7 rn rd bz bb502 HOb
      go_wp2
      go_roundw
      case rel=>exact⟨p+1,by go_num,by omega,by omega,b507,_,_,q503,q504,r505,r506⟩
      case measure=>simp[intOf];omega
     ·obtain rfl:p=P:=by omega
      have HOb:Hid _:=HOa.out (p+1) (by omega) (by omega) true (decide_eq_true (by omega));have ew:IntKind.i64.wrap (p+1)=p+1:=IntWalk.i64_in _ ⟨by omega,by omega⟩
      go_wp2_with fail
      refine(HOb.out _ _ _ _ _ bz q6.range q7.range rn rd).mono ?_;rintro zz w601 ⟨rfl,bb602⟩;have q603:=q6.l bb602;have q604:=q7.l bb602;have r605:=rn.l bb602;have r606:=rd.l bb602;have b607:=aa bz bb602;clear q6 q7 rn rd bz bb602 HOb;have hG:DgW w p6 p7 num den (w601):=⟨b607,_,_,q603,q604,r605,r606⟩;clear q603 q604 r605 r606 b607;generalize w601=ws2 at hG⊢;clear HOa ew hlt hpa hpP
      go_upto_if 56 with fail
      go_cut [] from 56 (fun wx=>DgW w p6 p7 n2 d2 wx)
      case first=>
       obtain⟨hB1,hB2⟩:=hB.out;obtain⟨bz,v,u,q6,q7,rn,rd⟩:=hG;obtain⟨no,nc,rfl⟩:=rn.shape;obtain⟨yo,yc,rfl⟩:=rd.shape
       rcases hU.out with⟨hu,rfl,rfl,rfl⟩| ⟨hu,hua,rfl,rfl⟩
       ·clear hU
        go_upto_region 13 with fail
        have bW701:yB ws2 ws2.drew:=(Below.refl _ _).drew;have q702:=q6.l bW701;have q703:=q7.l bW701;have r704:=rn.l bW701;have r705:=rd.l bW701;have b706:=aa bz bW701;clear q6 q7 rn rd bz bW701;refine wp_region_held_drew (S:=fun _=>True) (by kernel_rfl) trivial (fun hS0=> ?_)
        generalize ws2.drew=WD707 at q702 q703 r704 r705 b706 hS0⊢;refine tq 1 (yi up) rfl (fun _ _=>by kernel_rfl) hS0 ?_
        refine wpAnyH_ready (rs:=[0,2]) (by kernel_rfl) (by simp) ?_;refine AllReadyH.cons rfl (fun K hK=> ?_) (AllReadyH.cons rfl (fun K hK=> ?_) AllReadyH.nil)
        ·rw[if_pos (by kernel_rfl)]
         refine wp_yield (yS no num nc) (gU 29 (.tmp 6) rfl p6 0 (by kernel_rfl) _ _ underlying29 rfl (q702.c 0 rfl)) ?_;refine hK.out _ _ trivial (fun hS708=> ?_)
         clear hK K;refine wpAnyH_ready (rs:=[2]) (by kernel_rfl) (by simp) ?_;refine AllReadyH.cons rfl (fun K hK=> ?_) AllReadyH.nil
         go_simp
         refine(HP.out _ b706).mono ?_;rintro zz w709 ⟨v1x711,rfl,r1x712,bb710⟩;have q713:=q702.l bb710;have q714:=q703.l bb710;have r715:=r704.l bb710;have r716:=r705.l bb710;have b717:=aa b706 bb710;obtain⟨ko,kc,hv⟩:=r1x712.shape;subst hv;clear q702 q703 r704 r705 b706 bb710 HP;refine hK.out _ _ trivial (fun hS718=> ?_)
         clear hK K;refine wpAnyH_ready (rs:=[3]) (by kernel_rfl) (by simp) ?_;refine AllReadyH.cons rfl (fun K hK=> ?_) AllReadyH.nil
         go_simp
         refine(HT.out num _ _ _ _ _ hB1 b717 r715 r1x712).mono ?_;rintro zz w719 ⟨v1x721,rfl,r1x722,bb720⟩;have q723:=q713.l bb720;have q724:=q714.l bb720;have r725:=r716.l bb720;have b726:=aa b717 bb720;obtain⟨mo,mc,hv⟩:=r1x722.shape;subst hv;clear q713 q714 r715 r716 r1x712 b717 bb720 HT;refine hK.out _ _ trivial (fun hS727=> ?_)
         clear hK K;refine wpAnyH_ready (rs:=[4]) (by kernel_rfl) (by simp) ?_;refine AllReadyH.cons rfl (fun K hK=> ?_) AllReadyH.nil
         have c728:=q723.c 0 rfl;have y729:=q723.f 0;have bu:=ag w719 p6 0 (.slice mo (Dg.dg 65536 (num*T)).length mc);have q730:au (w719.setCell ⟨p6,0,none⟩ (.slice mo (Dg.dg 65536 (num*T)).length mc)) p6 29 [.slice mo (Dg.dg 65536 (num*T)).length mc]:=q723.set 0 (.slice mo (Dg.dg 65536 (num*T)).length mc);have r731:=r725.setC c728 (fun n=>by simp) (.slice mo (Dg.dg 65536 (num*T)).length mc)
         have r732:=r1x722.setC c728 (fun n=>by simp) (.slice mo (Dg.dg 65536 (num*T)).length mc)
         have q733:=bu.loc q724 (by omega);have b734:=bu.below b726 (by omega)
         go_simp
         refine hK.out _ _ trivial (fun hS735=> ?_)
         clear hK K;clear q723 c728 y729 r725 r1x722 q724 b726 bu;refine wpAnyH_done (by kernel_rfl) ?_ _;clear hS0 hS708 hS718 hS727 hS735;change Exit.then _ _ _ _ (World.setCell w719 ⟨p6,0,none⟩ (.slice mo (Dg.dg 65536 (num*T)).length mc));generalize World.setCell w719 ⟨p6,0,none⟩ (.slice mo (Dg.dg 65536 (num*T)).length mc)=W736 at q730 q733 r731 r732 b734⊢
         try simp only[Act.put,List.getElem_toArray,List.getElem_cons_succ,List.getElem_cons_zero]
         go_wp2_with fail
         go_meet
         exact⟨b734,_,_,q730,q733,r732,r731⟩
        ·go_simp
         refine(HP.out _ b706).mono ?_;rintro zz w708 ⟨v1x710,rfl,r1x711,bb709⟩;have q712:=q702.l bb709;have q713:=q703.l bb709;have r714:=r704.l bb709;have r715:=r705.l bb709;have b716:=aa b706 bb709;obtain⟨ko,kc,hv⟩:=r1x711.shape;subst hv;clear q702 q703 r704 r705 b706 bb709 HP;refine hK.out _ _ trivial (fun hS717=> ?_)
         clear hK K;refine wpAnyH_ready (rs:=[0]) (by kernel_rfl) (by simp) ?_;refine AllReadyH.cons rfl (fun K hK=> ?_) AllReadyH.nil
         rw[if_pos (by kernel_rfl)];refine wp_yield (yS no num nc) (gU 29 (.tmp 6) rfl p6 0 (by kernel_rfl) _ _ underlying29 rfl (q712.c 0 rfl)) ?_;refine hK.out _ _ trivial (fun hS718=> ?_)
         clear hK K;refine wpAnyH_ready (rs:=[3]) (by kernel_rfl) (by simp) ?_;refine AllReadyH.cons rfl (fun K hK=> ?_) AllReadyH.nil
         go_simp
         refine(HT.out num _ _ _ _ _ hB1 b716 r714 r1x711).mono ?_;rintro zz w719 ⟨v1x721,rfl,r1x722,bb720⟩;have q723:=q712.l bb720;have q724:=q713.l bb720;have r725:=r715.l bb720;have b726:=aa b716 bb720;obtain⟨mo,mc,hv⟩:=r1x722.shape;subst hv;clear q712 q713 r714 r715 r1x711 b716 bb720 HT;refine hK.out _ _ trivial (fun hS727=> ?_)
         clear hK K;refine wpAnyH_ready (rs:=[4]) (by kernel_rfl) (by simp) ?_;refine AllReadyH.cons rfl (fun K hK=> ?_) AllReadyH.nil
         have c728:=q723.c 0 rfl;have y729:=q723.f 0;have bu:=ag w719 p6 0 (.slice mo (Dg.dg 65536 (num*T)).length mc);have q730:au (w719.setCell ⟨p6,0,none⟩ (.slice mo (Dg.dg 65536 (num*T)).length mc)) p6 29 [.slice mo (Dg.dg 65536 (num*T)).length mc]:=q723.set 0 (.slice mo (Dg.dg 65536 (num*T)).length mc);have r731:=r725.setC c728 (fun n=>by simp) (.slice mo (Dg.dg 65536 (num*T)).length mc)
         have r732:=r1x722.setC c728 (fun n=>by simp) (.slice mo (Dg.dg 65536 (num*T)).length mc)
         have q733:=bu.loc q724 (by omega);have b734:=bu.below b726 (by omega)
         go_simp
         refine hK.out _ _ trivial (fun hS735=> ?_)
         clear hK K;clear q723 c728 y729 r725 r1x722 q724 b726 bu;refine wpAnyH_done (by kernel_rfl) ?_ _;clear hS0 hS717 hS718 hS727 hS735;change Exit.then _ _ _ _ (World.setCell w719 ⟨p6,0,none⟩ (.slice mo (Dg.dg 65536 (num*T)).length mc));generalize World.setCell w719 ⟨p6,0,none⟩ (.slice mo (Dg.dg 65536 (num*T)).length mc)=W736 at q730 q733 r731 r732 b734⊢
         try simp only[Act.put,List.getElem_toArray,List.getElem_cons_succ,List.getElem_cons_zero]
         go_wp2_with fail
         go_meet
         exact⟨b734,_,_,q730,q733,r732,r731⟩
       ·clear hU
        go_upto_region 14 with fail
        have bW701:yB ws2 ws2.drew:=(Below.refl _ _).drew;have q702:=q6.l bW701;have q703:=q7.l bW701;have r704:=rn.l bW701;have r705:=rd.l bW701;have b706:=aa bz bW701;clear q6 q7 rn rd bz bW701;refine wp_region_held_drew (S:=fun _=>True) (by kernel_rfl) trivial (fun hS0=> ?_)
        generalize ws2.drew=WD707 at q702 q703 r704 r705 b706 hS0⊢;refine tq 1 (yi up) rfl (fun _ _=>by kernel_rfl) hS0 ?_
        refine tq 2 (yi ua) rfl (fun _ _=>by go_simp) hS0 ?_
        refine wpAnyH_ready (rs:=[0,3]) (by kernel_rfl) (by simp) ?_;refine AllReadyH.cons rfl (fun K hK=> ?_) (AllReadyH.cons rfl (fun K hK=> ?_) AllReadyH.nil)
        ·rw[if_pos (by kernel_rfl)]
         refine wp_yield (yS yo den yc) (gU 29 (.tmp 7) rfl p7 0 (by kernel_rfl) _ _ underlying29 rfl (q703.c 0 rfl)) ?_;refine hK.out _ _ trivial (fun hS708=> ?_)
         clear hK K;refine wpAnyH_ready (rs:=[3]) (by kernel_rfl) (by simp) ?_;refine AllReadyH.cons rfl (fun K hK=> ?_) AllReadyH.nil
         go_simp
         refine(HP.out _ b706).mono ?_;rintro zz w709 ⟨v1x711,rfl,r1x712,bb710⟩;have q713:=q702.l bb710;have q714:=q703.l bb710;have r715:=r704.l bb710;have r716:=r705.l bb710;have b717:=aa b706 bb710;obtain⟨ko,kc,hv⟩:=r1x712.shape;subst hv;clear q702 q703 r704 r705 b706 bb710 HP;refine hK.out _ _ trivial (fun hS718=> ?_)
         clear hK K;refine wpAnyH_ready (rs:=[4]) (by kernel_rfl) (by simp) ?_;refine AllReadyH.cons rfl (fun K hK=> ?_) AllReadyH.nil
         go_simp
         refine(HT.out den _ _ _ _ _ hB2 b717 r716 r1x712).mono ?_;rintro zz w719 ⟨v1x721,rfl,r1x722,bb720⟩;have q723:=q713.l bb720;have q724:=q714.l bb720;have r725:=r715.l bb720;have b726:=aa b717 bb720;obtain⟨mo,mc,hv⟩:=r1x722.shape;subst hv;clear q713 q714 r715 r716 r1x712 b717 bb720 HT;refine hK.out _ _ trivial (fun hS727=> ?_)
         clear hK K;refine wpAnyH_ready (rs:=[5]) (by kernel_rfl) (by simp) ?_;refine AllReadyH.cons rfl (fun K hK=> ?_) AllReadyH.nil
         have c728:=q724.c 0 rfl;have y729:=q724.f 0;have bu:=ag w719 p7 0 (.slice mo (Dg.dg 65536 (den*T)).length mc);have q730:au (w719.setCell ⟨p7,0,none⟩ (.slice mo (Dg.dg 65536 (den*T)).length mc)) p7 29 [.slice mo (Dg.dg 65536 (den*T)).length mc]:=q724.set 0 (.slice mo (Dg.dg 65536 (den*T)).length mc);have r731:=r725.setC c728 (fun n=>by simp) (.slice mo (Dg.dg 65536 (den*T)).length mc)
         have r732:=r1x722.setC c728 (fun n=>by simp) (.slice mo (Dg.dg 65536 (den*T)).length mc)
         have q733:=bu.loc q723 (by omega);have b734:=bu.below b726 (by omega)
         go_simp
         refine hK.out _ _ trivial (fun hS735=> ?_)
         clear hK K;clear q724 c728 y729 r725 r1x722 q723 b726 bu;refine wpAnyH_done (by kernel_rfl) ?_ _;clear hS0 hS708 hS718 hS727 hS735;change Exit.then _ _ _ _ (World.setCell w719 ⟨p7,0,none⟩ (.slice mo (Dg.dg 65536 (den*T)).length mc));generalize World.setCell w719 ⟨p7,0,none⟩ (.slice mo (Dg.dg 65536 (den*T)).length mc)=W736 at q733 q730 r731 r732 b734⊢
         try simp only[Act.put,List.getElem_toArray,List.getElem_cons_succ,List.getElem_cons_zero]
         go_wp2_with fail
         go_meet
         exact⟨b734,_,_,q733,q730,r731,r732⟩
        ·go_simp
         refine(HP.out _ b706).mono ?_;rintro zz w708 ⟨v1x710,rfl,r1x711,bb709⟩;have q712:=q702.l bb709;have q713:=q703.l bb709;have r714:=r704.l bb709;have r715:=r705.l bb709;have b716:=aa b706 bb709;obtain⟨ko,kc,hv⟩:=r1x711.shape;subst hv;clear q702 q703 r704 r705 b706 bb709 HP;refine hK.out _ _ trivial (fun hS717=> ?_)
         clear hK K;refine wpAnyH_ready (rs:=[0]) (by kernel_rfl) (by simp) ?_;refine AllReadyH.cons rfl (fun K hK=> ?_) AllReadyH.nil
         rw[if_pos (by kernel_rfl)];refine wp_yield (yS yo den yc) (gU 29 (.tmp 7) rfl p7 0 (by kernel_rfl) _ _ underlying29 rfl (q713.c 0 rfl)) ?_;refine hK.out _ _ trivial (fun hS718=> ?_)
         clear hK K;refine wpAnyH_ready (rs:=[4]) (by kernel_rfl) (by simp) ?_;refine AllReadyH.cons rfl (fun K hK=> ?_) AllReadyH.nil
         go_simp
         refine(HT.out den _ _ _ _ _ hB2 b716 r715 r1x711).mono ?_;rintro zz w719 ⟨v1x721,rfl,r1x722,bb720⟩;have q723:=q712.l bb720;have q724:=q713.l bb720;have r725:=r714.l bb720;have b726:=aa b716 bb720;obtain⟨mo,mc,hv⟩:=r1x722.shape;subst hv;clear q712 q713 r714 r715 r1x711 b716 bb720 HT;refine hK.out _ _ trivial (fun hS727=> ?_)
         clear hK K;refine wpAnyH_ready (rs:=[5]) (by kernel_rfl) (by simp) ?_;refine AllReadyH.cons rfl (fun K hK=> ?_) AllReadyH.nil
         have c728:=q724.c 0 rfl;have y729:=q724.f 0;have bu:=ag w719 p7 0 (.slice mo (Dg.dg 65536 (den*T)).length mc);have q730:au (w719.setCell ⟨p7,0,none⟩ (.slice mo (Dg.dg 65536 (den*T)).length mc)) p7 29 [.slice mo (Dg.dg 65536 (den*T)).length mc]:=q724.set 0 (.slice mo (Dg.dg 65536 (den*T)).length mc);have r731:=r725.setC c728 (fun n=>by simp) (.slice mo (Dg.dg 65536 (den*T)).length mc)
         have r732:=r1x722.setC c728 (fun n=>by simp) (.slice mo (Dg.dg 65536 (den*T)).length mc)
         have q733:=bu.loc q723 (by omega);have b734:=bu.below b726 (by omega)
         go_simp
         refine hK.out _ _ trivial (fun hS735=> ?_)
         clear hK K;clear q724 c728 y729 r725 r1x722 q723 b726 bu;refine wpAnyH_done (by kernel_rfl) ?_ _;clear hS0 hS717 hS718 hS727 hS735;change Exit.then _ _ _ _ (World.setCell w719 ⟨p7,0,none⟩ (.slice mo (Dg.dg 65536 (den*T)).length mc));generalize World.setCell w719 ⟨p7,0,none⟩ (.slice mo (Dg.dg 65536 (den*T)).length mc)=W736 at q733 q730 r731 r732 b734⊢
         try simp only[Act.put,List.getElem_toArray,List.getElem_cons_succ,List.getElem_cons_zero]
         go_wp2_with fail
         go_meet
         exact⟨b734,_,_,q733,q730,r731,r732⟩
      case rest=>
       have hG:=hcut;clear hcut hU HP HT hB;obtain⟨bz,v,u,q6,q7,rn,rd⟩:=hG;obtain⟨no,nc,rfl⟩:=rn.shape;obtain⟨yo,yc,rfl⟩:=rd.shape;have c801:=q6.c 0 rfl;have c802:=q7.c 0 rfl
       go_wp2_with fail
       refine(HI.out _ _ _ _ _ bz rn rd).mono ?_;rintro zz w803 ⟨v1x805,v2x806,rfl,r1x807,r2x808,bb804⟩;have q809:=q7.l bb804;have r810:=rd.l bb804;have b811:=aa bz bb804;obtain⟨go,gc,hv⟩:=r1x807.shape;subst hv;obtain⟨ro,rc,hv⟩:=r2x808.shape;subst hv;clear q6 q7 rn rd bz bb804 HI c801 c802
       go_upto_region 16 with fail
       have bW812:yB w803 w803.drew:=(Below.refl _ _).drew;have q813:=q809.l bW812;have r814:=r810.l bW812;have r815:=r1x807.l bW812;have r816:=r2x808.l bW812;have b817:=aa b811 bW812;clear q809 r810 r1x807 r2x808 b811 bW812;refine wp_region_held_drew (S:=fun wq=>au wq p7 29 [yS yo d2 yc]) (by kernel_rfl) q813 (fun hS0=> ?_)
       generalize w803.drew=WD818 at q813 r814 r815 r816 b817 hS0⊢;refine tq 0 (yS ro rR rc) rfl (fun _ _=>by kernel_rfl) hS0 ?_
       refine tq 3 (yS yo d2 yc) rfl (fun _ hw0=>gU 29 (.tmp 7) rfl p7 0 (by kernel_rfl) _ _ underlying29 rfl (hw0.c 0 rfl)) hS0 ?_
       refine wpAnyH_ready (rs:=[1]) (by kernel_rfl) (by simp) ?_;refine AllReadyH.cons rfl (fun K hK=> ?_) AllReadyH.nil
       go_simp
       have al819:=af WD818 (.cells #[yi 2] 3);have q820:=ah WD818 [yi 2] 3;have hl823:w.heap.size≤WD818.heap.size:=b817.size;have hl824:=q813.lt;have q825:=q813.l al819;have r826:=r814.l al819;have r827:=r815.l al819;have r828:=r816.l al819;have b829:=aa b817 al819;refine hK.out _ _ q825 (fun hS830=> ?_)
       clear hK K;clear q813 r814 r815 r816 b817 al819;generalize WD818.alloc (.cells #[yi 2] 3)=WN821 at q825 q820 r826 r827 r828 b829 hS830⊢;generalize WD818.heap.size=PQ822 at q820 hl823 hl824⊢;refine wpAnyH_ready (rs:=[2]) (by kernel_rfl) (by simp) ?_;refine AllReadyH.cons rfl (fun K hK=> ?_) AllReadyH.nil
       go_simp
       refine(HR.out _ _ _ _ b829 r828 q820).mono ?_;rintro zz w831 ⟨v1x833,rfl,r1x834,bb832⟩;have q835:=q825.l bb832;have r836:=r826.l bb832;have r837:=r827.l bb832;have b838:=aa b829 bb832;obtain⟨so,sc,hv⟩:=r1x834.shape;subst hv;clear q825 q820 r826 r827 r828 b829 bb832 HR;refine hK.out _ _ q835 (fun hS839=> ?_)
       clear hK K;refine wpAnyH_ready (rs:=[4]) (by kernel_rfl) (by simp) ?_;refine AllReadyH.cons rfl (fun K hK=> ?_) AllReadyH.nil
       go_simp
       refine(HC.out _ _ _ _ _ b838 r1x834 r836).mono ?_;rintro zz w840 ⟨rfl,bb841⟩;have q842:=q835.l bb841;have r843:=r837.l bb841;have b844:=aa b838 bb841;clear q835 r836 r837 r1x834 b838 bb841 HC;refine hK.out _ _ q842 (fun hS845=> ?_)
       clear hK K;refine tq 5 (yi c) rfl (fun _ _=>by kernel_rfl) hS845 ?_
       refine wpAnyH_done (by kernel_rfl) ?_ _;clear hS0 hS830 hS839 hS845;simp only[Act.put,List.getElem_toArray,List.getElem_cons_succ,List.getElem_cons_zero,List.setIfInBounds_toArray,List.set_cons_zero,List.set_cons_succ];have rg:=r843;have bg:=b844;clear q842 r843 b844;generalize w840=ws3 at rg bg⊢;obtain⟨rb,hrb⟩: ∃rb:Bool,(rb=true∧q=dQ+1)∨(rb=false∧q=dQ):=by
        rcases hr.out with⟨-,h⟩| ⟨-,-,h⟩| ⟨-,-,h⟩| ⟨-,h⟩
        ·exact⟨true,.inl ⟨rfl,h⟩⟩
        ·exact⟨true,.inl ⟨rfl,h⟩⟩
        ·exact⟨false,.inr ⟨rfl,h⟩⟩
        ·exact⟨false,.inr ⟨rfl,h⟩⟩
       replace hrb:Hid _:=hrb
       go_upto_region 17 with fail
       go_cut [89] (fun v wx=>wx=ws3∧v= .bool rb)
       case first=>
        obtain⟨g0,g1,g2⟩:=iQ rg;have hgl:0< (Dg.dg 65536 dQ).length:=by
         rcases Nat.eq_zero_or_pos (Dg.dg 65536 dQ).length with h|h
         ·exact absurd ((Dg.dg_nil_iff 65536 _ (by omega)).1 (List.length_eq_zero_iff.1 h)) hd0
         ·exact h
        obtain⟨gb,gf,rfl,hgc⟩:=g2 hgl;have hc0:=hgc 0 hgl;rw[Sb 65536 dQ (by omega),Nat.add_zero] at hc0;have hl0:(0:Int)< ((Dg.dg 65536 dQ).length:Int):=by omega
        obtain⟨m,hm⟩: ∃m,dQ % 65536=m:=⟨_,rfl⟩;have hm2:m % 2=dQ % 2:=by omega
        have hml:m<65536:=by omega
        rw[hm] at hc0;have ht:(m:Int).tmod 2=((m % 2:Nat):Int):=by
         rw[Int.tmod_eq_emod_of_nonneg (by omega)];omega
        rw[hm2] at ht;clear hgc g0 g1 g2 hm hgl rg;have hrbo:=hrb.out
        rcases hr.out with⟨h1,h2⟩| ⟨rfl,h2,h3⟩| ⟨rfl,h2,h3⟩| ⟨h1,h2⟩
        ·obtain rfl:rb=true:=by rcases hrbo with h|h;exact h.1;exact absurd (h.2.symm.trans h2) (by omega)
         clear hr hrb hrbo ht hm2 h2
         go_wp2_with fail
         go_meet
         exact⟨rfl,rfl⟩
        ·obtain rfl:rb=true:=by rcases hrbo with h|h;exact h.1;exact absurd (h.2.symm.trans h3) (by omega)
         rw[h2] at ht;have ht2:(m:Int).tmod 2=1:=ht;have hw1:IntKind.i64.wrap 1=1:=by decide
         clear hr hrb hrbo ht hm2 h2 h3
         go_wp2_with fail
         go_meet
         exact⟨rfl,rfl⟩
        ·obtain rfl:rb=false:=by rcases hrbo with h|h;exact absurd (h.2.symm.trans h3) (by omega);exact h.1
         rw[h2] at ht;have ht2:(m:Int).tmod 2=0:=ht;have hw1:IntKind.i64.wrap 0=0:=by decide
         clear hr hrb hrbo ht hm2 h2 h3
         go_wp2_with fail
         go_meet
         exact⟨rfl,rfl⟩
        ·obtain rfl:rb=false:=by rcases hrbo with h|h;exact absurd (h.2.symm.trans h2) (by omega);exact h.1
         have h1b: ¬0<c:=by omega
         have h1c:(c==0)=false:=by rw[beq_eq_false_iff_ne];omega
         clear hr hrb hrbo ht hm2 h2
         go_wp2_with fail
         go_meet
         exact⟨rfl,rfl⟩
       case rest=>
        obtain⟨rfl,rfl⟩:=hcut
        go_upto_if 89 with fail
        go_cut [11] from 89 (fun gv wx=>yB w wx∧Rd wx .i64 gv (Dg.dg 65536 q))
        case first=>
         rcases hrb.out with⟨rfl,rfl⟩| ⟨rfl,rfl⟩
         ·clear hr hrb
          have al901:=af wc (.cells #[yi 1] 3);have q902:=ah wc [yi 1] 3;have r903:=rg.l al901;have b904:=aa bg al901
          go_wp2_with fail
          refine(HA.out _ _ _ _ b904 r903 q902).mono ?_;rintro zz w905 ⟨v1x907,rfl,r1x908,bb906⟩;have b909:=aa b904 bb906;obtain⟨eo,ec,hv⟩:=r1x908.shape;subst hv;clear q902 r903 b904 bb906 HA rg bg al901
          go_wp2_with fail
          go_meet
          exact⟨b909,r1x908⟩
         ·clear hr hrb
          go_wp2_with fail
          go_meet
          exact⟨bg,rg⟩
        case rest=>
         obtain⟨bq,rq⟩:=hcut;obtain⟨go,gc,rfl⟩:=rq.shape;clear bg rg hr hrb HA;obtain⟨hS1,hS2⟩:=hS.out;clear hS
         rcases hS2 with⟨h1,rfl,rfl⟩| ⟨h1,rfl,rfl⟩
         ·have ew:IntKind.i64.wrap (p+1)=p+1:=IntWalk.i64_in _ ⟨by omega,by omega⟩
          go_wp2_with fail
          refine(HS.out _ _ _ bq rq).mono ?_;rintro zz w951 ⟨rfl,bb952⟩;have b953:=aa bq bb952;clear rq bq bb952 HS
          go_wp2
          go_ret2
          exact⟨rfl,b953⟩
         ·go_wp2_with fail
          refine(HS.out _ _ _ bq rq).mono ?_;rintro zz w951 ⟨rfl,bb952⟩;have b953:=aa bq bb952;clear rq bq bb952 HS
          go_wp2
          go_ret2
          exact⟨rfl,b953⟩
end Go.Proofs.YtpgijbdgljkeeaaGreatDoor

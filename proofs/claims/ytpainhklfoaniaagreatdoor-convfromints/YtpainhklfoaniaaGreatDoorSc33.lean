/-
  Texts laid together: Gh3, Gh4, Gh5, Gn1.
-/
import Derived.Test.YtpainhklfoaniaaGreatDoorSc32
set_option maxRecDepth 100000
set_option maxHeartbeats 3200000
namespace Go.Proofs.YtpainhklfoaniaaGreatDoor
open _root_.Go.Proofs.Tryz
open Go.RowKit
def DM (w:World)(h:Bool)(d:Nat)(k c:Int)(e:Ending)(w':World):Prop:=
 ∃u,e= .returned (.tuple #[.agg #[u,yi k],.bool h,yi c])∧Own w' w.heap.size 108 .u32 u (Dg.dg 4294967296 d)∧yB w w'
def Xn (w:World)(s9 s10:Value)(hd:Bool)(rd:Nat)(rk:Int)(wx:World):Prop:=
 ∃pb so sc,s9= .pointer (some ⟨pb,0,none⟩)∧s10= .bool hd∧w.heap.size+1+1≠pb∧w.heap.size≤pb∧au wx pb 168 [yT so rd sc,yi rk]∧Own wx w.heap.size 108 .u32 (yT so rd sc) (Dg.dg 4294967296 rd)∧au wx (w.heap.size+1+1) 168 [yN,yi 0]∧yB w wx
theorem TI {w wb:World}{hd:Bool}{rd:Nat}{rk:Int}{so:Option Addr}{sc:Nat}(hc:au wb (w.heap.size+1+1) 168 [yN,yi 0])(ho:Own wb w.heap.size 108 .u32 (yT so rd sc) (Dg.dg 4294967296 rd))(hb:yB w wb):
  Xn w (.pointer (some ⟨wb.heap.size,0,none⟩)) (.bool hd) hd rd rk (wb.alloc (.cells #[yT so rd sc,yi rk] 168)):=by
 have ba:=af wb (.cells #[yT so rd sc,yi rk] 168);have:=hc.lt;exact⟨_,so,sc,rfl,rfl,by omega,by omega,ah wb [yT so rd sc,yi rk] 168,ho.l ba,hc.l ba,aa hb ba⟩
theorem Is {w wb:World}{hd:Bool}{rd:Nat}{rk:Int}{so:Option Addr}{sc nb:Nat}(hc:au wb (w.heap.size+1+1) 168 [yN,yi 0])(hn:au wb nb 168 [yN,yi 0])(ho:Own wb w.heap.size 108 .u32 (yT so rd sc) (Dg.dg 4294967296 rd))(hb:yB w wb)(h1:w.heap.size+1+1≠nb)(h2:w.heap.size≤nb):
  Xn w (.pointer (some ⟨nb,0,none⟩)) (.bool hd) hd rd rk ((wb.setCell ⟨nb,0,none⟩ (yT so rd sc)).setCell ⟨nb,1,none⟩ (yi rk)):=by
 have bu:=(ag wb nb 0 (yT so rd sc)).trans (ag _ nb 1 (yi rk));exact⟨nb,so,sc,rfl,rfl,h1,h2,(hn.set 0 _).set 1 _,bu.own ho hn (by decide),bu.loc hc h1,bu.below hb h2⟩
theorem acT (R D L G:Int)(gr s:Bool)(ao:Option Addr)(la ca:Nat)(e dc gc c:Int)(hd:Bool)(rd:Nat)(rk:Int)(w:World)
  (HA: ¬dc=0→hd=false∧rd=0∧rk=0∧c=dc) (HB:dc=0→ ¬gc=0→hd=false∧rd=0∧rk=0∧c=gc) (HC:dc=0→gc=0→c=0)
  (HD:yH w 124 #[ydV s (.slice ao la ca) e] (yi dc))
  (HG:yJ 108 #[ygV R D L G gr] (yi gc))
  (HO:yJ 126 #[ydV s (.slice ao la ca) e] (ydV s (.slice ao la ca) e))
  (HF:dc=0→gc=0→ ∀w1,yB w w1→yC 125 #[ygV R D L G gr,ydV s (.slice ao la ca) e] w1 (D7 w1 hd rd rk)):
  yC 93 #[ydV s (.slice ao la ca) e,ygV R D L G gr] w (DM w hd rd rk c):=by
 replace HA:Hid _:=HA;replace HB:Hid _:=HB;replace HC:Hid _:=HC;replace HD:Hid _:=HD;replace HG:Hid _:=HG;replace HO:Hid _:=HO;replace HF:Hid _:=HF;have b1:=aa (aa (af w (.cells (ydA s (.slice ao la ca) e) 86)) (af _ (.cells (ygA R D L G gr) 26))) (af _ (.cells #[yN,yi 0] 168));have q1:=((ah w (ydL s (.slice ao la ca) e) 86).l (af _ (.cells (ygA R D L G gr) 26))).l (af _ (.cells #[yN,yi 0] 168));have g1:=(ah (w.alloc (.cells (ydA s (.slice ao la ca) e) 86)) (ygL R D L G gr) 26).l (af _ (.cells #[yN,yi 0] 168));have c1:=ah ((w.alloc (.cells (ydA s (.slice ao la ca) e) 86)).alloc (.cells (ygA R D L G gr) 26)) [yN,yi 0] 168;simp only[World.size_alloc] at g1 c1
 by_cases hdc:dc=0
 ·have HB1:Hid _:=HB.out hdc
  have HC1:Hid _:=HC.out hdc;have HF1:Hid _:=HF.out hdc;clear HA HB HC HF;subst hdc
  by_cases hgc:gc=0
  ·have hc:=HC1.out hgc
   have HF2:Hid _:=HF1.out hgc;clear HB1 HC1 HF1;subst hgc hc;obtain⟨y0,y1,y2⟩:=q1.cs3
   go_enter func93,ntmps93
   go_wp2_with fail
   refine(HD.out _ b1).mono ?_;rintro z w2 ⟨rfl,bb2⟩;clear y0 y1 y2;have g_2:=g1.l bb2;have q_2:=q1.l bb2;have c_2:=c1.l bb2;have b0_2:=aa b1 bb2;clear g1 q1 c1 b1 bb2;obtain⟨x0,x1,x2,x3,x4⟩:=g_2.cs5
   go_wp2_with fail
   refine(HG.out _).mono ?_;rintro z w3 ⟨rfl,bb3⟩;have g_3:=g_2.l bb3;have q_3:=q_2.l bb3;have c_3:=c_2.l bb3;have b0_3:=aa b0_2 bb3;clear g_2 q_2 c_2 b0_2 bb3;clear x0 x1 x2 x3 x4;have hR3:w.heap.size+1+1<w3.heap.size:=c_3.lt;have be:yB w3 (w3.alloc (.cells #[yN,yi 0] 168)).drew:=(af w3 (.cells #[yN,yi 0] 168)).drew;have g_e:=g_3.l be;have q_e:=q_3.l be;have c_e:=c_3.l be;have n_e:=(ah w3 [yN,yi 0] 168).drew;have b_e:=aa b0_3 be;have bd_3:yB w3 w3.drew:=(Below.refl _ _).drew;have g_4:=g_3.l bd_3;have q_4:=q_3.l bd_3;have c_4:=c_3.l bd_3;have b0_4:=aa b0_3 bd_3;clear g_3 q_3 c_3 b0_3 bd_3;obtain⟨x0,x1,x2,x3,x4⟩:=g_4.cs5;obtain⟨y0,y1,y2⟩:=q_4.cs3;have nn0:w3.heap.size≠w.heap.size+1:=by omega
   have nn1:w3.heap.size≠w.heap.size:=by omega
   obtain⟨xe0,xe1,xe2,xe3,xe4⟩:=g_e.cs5;obtain⟨ye0,ye1,ye2⟩:=q_e.cs3
   go_upto_region 7 with fail
   go_cut [9,10] (fun s9 s10 wx=>Xn w s9 s10 hd rd rk wx)
   case first=>
    go_wp2_with fail
    go_region_held3 (fun wq=>(wq.cell? ⟨w.heap.size+1,0,none⟩=some (yi R)∧wq.cell? ⟨w.heap.size+1,1,none⟩=some (yi D)∧wq.cell? ⟨w.heap.size+1,2,none⟩=some (yi L)∧wq.cell? ⟨w.heap.size+1,3,none⟩=some (yi G)∧wq.cell? ⟨w.heap.size+1,4,none⟩=some (.bool gr))∧wq.cell? ⟨w.heap.size,0,none⟩=some (.bool s)∧wq.cell? ⟨w.heap.size,1,none⟩=some (.slice ao la ca)∧wq.cell? ⟨w.heap.size,2,none⟩=some (yi e)) (go_keep) (first
     | (go_at_call 126;refine(HO.out _).mono ?_;rintro z wa ⟨rfl,ba⟩;have g_wa:=g_4.l ba;have q_wa:=q_4.l ba;have c_wa:=c_4.l ba;have b_wa:=aa b0_4 ba;obtain⟨xwa0,xwa1,xwa2,xwa3,xwa4⟩:=g_wa.cs5;obtain⟨ywa0,ywa1,ywa2⟩:=q_wa.cs3;have m0_wa:=World.new_ne wa _ xwa0;have m1_wa:=World.new_ne wa _ ywa0;have zab:=af wa (.cells #[yN,yi 0] 168);have zag:=g_wa.l zab;have zaq:=q_wa.l zab;obtain⟨zax0,zax1,zax2,zax3,zax4⟩:=zag.cs5;obtain⟨zay0,zay1,zay2⟩:=zaq.cs3)
     | (go_at_call 126;refine(HO.out _).mono ?_;rintro z wa ⟨rfl,ba⟩;have g_wa:=g_e.l ba;have q_wa:=q_e.l ba;have c_wa:=c_e.l ba;have n_wa:=n_e.l ba;have b_wa:=aa b_e ba;obtain⟨xwa0,xwa1,xwa2,xwa3,xwa4⟩:=g_wa.cs5;obtain⟨ywa0,ywa1,ywa2⟩:=q_wa.cs3;have m0_wa:=World.new_ne wa _ xwa0;have m1_wa:=World.new_ne wa _ ywa0)
     | (go_at_call 125;have n_x:=n_wa;clear n_x;refine(HF2.out _ b_wa).mono ?_;rintro z wb ⟨u,rfl,ou,bb⟩;have oL:=ou.lower b_wa.size;have g_wb:=g_wa.l bb;have q_wb:=q_wa.l bb;have c_wb:=c_wa.l bb;have n_wb:=n_wa.l bb;have b_wb:=aa b_wa bb;obtain⟨so,sc,hu⟩:=ou.rd.shape;subst hu;obtain⟨xwb0,xwb1,xwb2,xwb3,xwb4⟩:=g_wb.cs5;obtain⟨ywb0,ywb1,ywb2⟩:=q_wb.cs3;have m0_wb:=World.new_ne wb _ xwb0;have m1_wb:=World.new_ne wb _ ywb0;obtain⟨d0,d1⟩:=n_wb.cs2;have f0:=n_wb.f 0;have f1:=n_wb.f 1)
     | (go_at_call 125;refine(HF2.out _ b_wa).mono ?_;rintro z wb ⟨u,rfl,ou,bb⟩;have oL:=ou.lower b_wa.size;have g_wb:=g_wa.l bb;have q_wb:=q_wa.l bb;have c_wb:=c_wa.l bb;have b_wb:=aa b_wa bb;obtain⟨so,sc,hu⟩:=ou.rd.shape;subst hu;obtain⟨xwb0,xwb1,xwb2,xwb3,xwb4⟩:=g_wb.cs5;obtain⟨ywb0,ywb1,ywb2⟩:=q_wb.cs3;have m0_wb:=World.new_ne wb _ xwb0;have m1_wb:=World.new_ne wb _ ywb0;have zbb:=af wb (.cells #[yN,yi 0] 168);have zbg:=g_wb.l zbb;have zbq:=q_wb.l zbb;obtain⟨zbx0,zbx1,zbx2,zbx3,zbx4⟩:=zbg.cs5;obtain⟨zby0,zby1,zby2⟩:=zbq.cs3;have zcb:=af wb (.cells #[yT so rd sc,yi rk] 168);have zcg:=g_wb.l zcb;have zcq:=q_wb.l zcb;obtain⟨zcx0,zcx1,zcx2,zcx3,zcx4⟩:=zcg.cs5;obtain⟨zcy0,zcy1,zcy2⟩:=zcq.cs3)
     | (go_at_call 125;have bn:=af wa (.cells #[yN,yi 0] 168);refine(HF2.out _ (aa b_wa bn)).mono ?_;rintro z wb ⟨u,rfl,ou,bb⟩;have oL:=ou.lower (aa b_wa bn).size;have hRa:w.heap.size+1+1<wa.heap.size:=c_wa.lt;have kk0:wa.heap.size≠w.heap.size+1:=(by omega);have kk1:wa.heap.size≠w.heap.size:=(by omega);have g_wb:=(g_wa.l bn).l bb;have q_wb:=(q_wa.l bn).l bb;have c_wb:=(c_wa.l bn).l bb;have n_wb:=(ah wa [yN,yi 0] 168).l bb;have b_wb:=aa (aa b_wa bn) bb;obtain⟨so,sc,hu⟩:=ou.rd.shape;subst hu;obtain⟨xwb0,xwb1,xwb2,xwb3,xwb4⟩:=g_wb.cs5;obtain⟨ywb0,ywb1,ywb2⟩:=q_wb.cs3;have m0_wb:=World.new_ne wb _ xwb0;have m1_wb:=World.new_ne wb _ ywb0;obtain⟨d0,d1⟩:=n_wb.cs2;have f0:=n_wb.f 0;have f1:=n_wb.f 1))
    all_goals (go_wp2_with fail)
    all_goals (first
     | (go_meet;exact TI c_wb oL b_wb)
     | (go_meet;exact Is c_wb n_wb oL b_wb (by omega) (by omega))
     | (go_meet;exact Is c_wb n_wb oL b_wb (by omega) (by omega)))
   case rest=>
    obtain⟨pb,so,sc,rfl,rfl,hpb,hpw,n9,o9,c9,b9⟩:=hcut;clear g_4 q_4 c_4 b0_4 g_e q_e c_e n_e b_e be nn0 nn1 x0 x1 x2 x3 x4 y0 y1 y2 xe0 xe1 xe2 xe3 xe4 ye0 ye1 ye2;obtain⟨p0,p1⟩:=n9.cs2;have d0:=c9.c 0 rfl;have f0:=c9.f 0;have d1:=c9.c 1 rfl;have f1:=c9.f 1
    go_wp2
    have bu:But (w.heap.size+1+1) wc ((wc.setCell ⟨w.heap.size+1+1,0,none⟩ (yT so rd sc)).setCell ⟨w.heap.size+1+1,1,none⟩ (yi rk)):=(ag wc (w.heap.size+1+1) 0 (yT so rd sc)).trans (ag _ (w.heap.size+1+1) 1 (yi rk));have cX:au ((wc.setCell ⟨w.heap.size+1+1,0,none⟩ (yT so rd sc)).setCell ⟨w.heap.size+1+1,1,none⟩ (yi rk)) (w.heap.size+1+1) 168 [yT so rd sc,yi rk]:=(c9.set 0 (yT so rd sc)).set 1 (yi rk);have bX:=bu.below b9 (show w.heap.size≤w.heap.size+1+1 by omega)
    have oX:=bu.own o9 c9 (by decide);obtain⟨s0,s1⟩:=cX.cs2;refine bodyPost_ret (v:= .tuple #[.agg #[yT so rd sc,yi rk],.bool hd,yi 0]) (by simp[results,results93,go_sem,s0,s1]) rfl ?_;exact⟨_,rfl,oX,bX⟩
  ·obtain⟨h1,h2,h3,h4⟩:=HB1.out hgc
   clear HB1 HC1 HF1;have hgf:(gc==0)=false:=by simp[hgc]
   subst h1 h2 h3 h4;obtain⟨y0,y1,y2⟩:=q1.cs3
   go_enter func93,ntmps93
   go_wp2_with fail
   refine(HD.out _ b1).mono ?_;rintro z w2 ⟨rfl,bb2⟩;clear y0 y1 y2;have g_2:=g1.l bb2;have q_2:=q1.l bb2;have c_2:=c1.l bb2;have b0_2:=aa b1 bb2;clear g1 q1 c1 b1 bb2;obtain⟨x0,x1,x2,x3,x4⟩:=g_2.cs5
   go_wp2_with fail
   refine(HG.out _).mono ?_;rintro z w3 ⟨rfl,bb3⟩;have g_3:=g_2.l bb3;have q_3:=q_2.l bb3;have c_3:=c_2.l bb3;have b0_3:=aa b0_2 bb3;clear g_2 q_2 c_2 b0_2 bb3;clear x0 x1 x2 x3 x4;have d0:=c_3.c 0 rfl;have f0:=c_3.f 0;have d1:=c_3.c 1 rfl;have f1:=c_3.f 1
   go_wp2
   have bu:But (w.heap.size+1+1) w3 ((w3.setCell ⟨w.heap.size+1+1,0,none⟩ yN).setCell ⟨w.heap.size+1+1,1,none⟩ (yi 0)):=(ag w3 (w.heap.size+1+1) 0 yN).trans (ag _ (w.heap.size+1+1) 1 (yi 0));have cX:au ((w3.setCell ⟨w.heap.size+1+1,0,none⟩ yN).setCell ⟨w.heap.size+1+1,1,none⟩ (yi 0)) (w.heap.size+1+1) 168 [yN,yi 0]:=(c_3.set 0 yN).set 1 (yi 0);have bX:=bu.below b0_3 (show w.heap.size≤w.heap.size+1+1 by omega)
   obtain⟨s0,s1⟩:=cX.cs2;refine bodyPost_ret (v:= .tuple #[.agg #[yN,yi 0],.bool false,yi c]) (by simp[results,results93,go_sem,s0,s1]) rfl ?_;exact⟨_,rfl,aQ _ _ _ _,bX⟩
 ·obtain⟨h1,h2,h3,h4⟩:=HA.out hdc
  clear HA HB HC HF;have hdf:(dc==0)=false:=by simp[hdc]
  subst h1 h2 h3 h4;obtain⟨y0,y1,y2⟩:=q1.cs3
  go_enter func93,ntmps93
  go_wp2_with fail
  refine(HD.out _ b1).mono ?_;rintro z w2 ⟨rfl,bb2⟩;clear y0 y1 y2;have g_2:=g1.l bb2;have q_2:=q1.l bb2;have c_2:=c1.l bb2;have b0_2:=aa b1 bb2;clear g1 q1 c1 b1 bb2;have d0:=c_2.c 0 rfl;have f0:=c_2.f 0;have d1:=c_2.c 1 rfl;have f1:=c_2.f 1
  go_wp2
  have bu:But (w.heap.size+1+1) w2 ((w2.setCell ⟨w.heap.size+1+1,0,none⟩ yN).setCell ⟨w.heap.size+1+1,1,none⟩ (yi 0)):=(ag w2 (w.heap.size+1+1) 0 yN).trans (ag _ (w.heap.size+1+1) 1 (yi 0));have cX:au ((w2.setCell ⟨w.heap.size+1+1,0,none⟩ yN).setCell ⟨w.heap.size+1+1,1,none⟩ (yi 0)) (w.heap.size+1+1) 168 [yN,yi 0]:=(c_2.set 0 yN).set 1 (yi 0);have bX:=bu.below b0_2 (show w.heap.size≤w.heap.size+1+1 by omega)
  obtain⟨s0,s1⟩:=cX.cs2;refine bodyPost_ret (v:= .tuple #[.agg #[yN,yi 0],.bool false,yi c]) (by simp[results,results93,go_sem,s0,s1]) rfl ?_;exact⟨_,rfl,aQ _ _ _ _,bX⟩
def onC (dc gc:Int):Int:=if dc=0 then gc else dc
def um (xs:List Nat)(e R D L G:Int)(gr:Bool):Bool:=if onC (aS xs e) (bk R D L G)=0 then dA R D L G gr (Dg.vl 4294967296 xs) e else false
def Zo (xs:List Nat)(e R D L G:Int)(gr:Bool):Nat:=if onC (aS xs e) (bk R D L G)=0 then fD R D L G gr (Dg.vl 4294967296 xs) e else 0
def Zp (xs:List Nat)(e R D L G:Int)(gr:Bool):Int:=if onC (aS xs e) (bk R D L G)=0 then fK R D L G gr (Dg.vl 4294967296 xs) e else 0
theorem Ja (R D L G:Int)(gr s:Bool)(ao:Option Addr)(ca:Nat)(xs:List Nat)(e:Int)(w:World)(hr:Rd w .u32 (.slice ao xs.length ca) xs)(sa:Dg.Small 4294967296 xs)(hT:Tab w):
  yC 93 #[ydV s (.slice ao xs.length ca) e,ygV R D L G gr] w (DM w (um xs e R D L G gr) (Zo xs e R D L G gr) (Zp xs e R D L G gr) (onC (aS xs e) (bk R D L G))):=by
 have herr: ¬onC (aS xs e) (bk R D L G)=0→um xs e R D L G gr=false∧Zo xs e R D L G gr=0∧Zp xs e R D L G gr=0:=fun h=>⟨if_neg h,if_neg h,if_neg h⟩
 refine acT R D L G gr s ao _ ca e (aS xs e) (bk R D L G) _ _ _ _ w ?_ ?_ ?_ ?_ ?_ ?_ ?_
 ·intro h
  have h1:onC (aS xs e) (bk R D L G)=aS xs e:=if_neg h;obtain⟨a,b,c⟩:=herr (by rw[h1];exact h);exact⟨a,b,c,h1⟩
 ·intro h h2
  have h1:onC (aS xs e) (bk R D L G)=bk R D L G:=if_pos h;obtain⟨a,b,c⟩:=herr (by rw[h1];exact h2);exact⟨a,b,c,h1⟩
 ·intro h h2
  exact(if_pos h).trans h2
 ·intro w1 b
  exact nS s ao ca xs e w1 (hr.l b)
 ·intro w1
  exact vE R D L G gr w1
 ·intro w1
  exact iK s ao _ ca e w1
 ·intro h h2 w1 b
  have h1:onC (aS xs e) (bk R D L G)=0:=(if_pos h).trans h2;rw[show um xs e R D L G gr=_ from if_pos h1,show Zo xs e R D L G gr=_ from if_pos h1,show Zp xs e R D L G gr=_ from if_pos h1]
  obtain⟨c1,e1,e2⟩:=bL h;obtain⟨n1,l1⟩:=aF c1;have ex:Dg.dg 4294967296 (Dg.vl 4294967296 xs)=xs:=Dg.dg_vl _ (by omega) _ sa n1;have:=VU R D L G gr s ao ca (Dg.vl 4294967296 xs) e w1 h2 (by rw[ex];exact hr.l b) (by rw[ex];exact l1) e1 e2 (hT.l b)
  rwa [ex] at this
theorem BE {a L:Nat}(h:(Dg.dg 65536 a).length≤L):bitLen a≤16*L:=by
 refine bF a _ ?_;rw[Nat.pow_mul];have h1:=Dg.vl_lt 65536 _ (Dg.small_dg 65536 a (by omega));rw[Dg.vl_dg _ _ (by omega)] at h1;exact Nat.lt_of_lt_of_le h1 (Nat.pow_le_pow_right (by omega) h)
theorem Gh (R D e:Int)(bl:Nat)(h: -79000≤e+bl):(e+(bl:Int)-1+80000).tdiv (ai R)-(80000:Int).tdiv (ai R)-D+1=aT R D (e+(bl:Int)-1):=by
 rw[Int.tdiv_eq_ediv_of_nonneg (by omega),Int.tdiv_eq_ediv_of_nonneg (by omega)];unfold aT ai
 split<;>simp<;>omega
theorem Zq (R D L G:Int)(gr ng:Bool)(ao:Option Addr)(la ca:Nat)(p wd:Int)(w:World)(WP:IntKind.i64.wrap (wd*p)=wd*p)
  (HW:yJ 117 #[ygV R D L G gr] (yi wd)):
  yC 157 #[ygV R D L G gr,.bool ng,.agg #[.slice ao la ca,yi p]] w (yR w (ydV ng (.slice ao la ca) (wd*p))):=by
 replace HW:Hid _:=HW;have HN:Hid (∀w1,yC 167 (ydA ng (.slice ao la ca) (wd*p)) w1 (yR w1 (ydV ng (.slice ao la ca) (wd*p)))):=fun w1=>l9 ng ao la ca (wd*p) w1
 have b1:=aa (aa (af w (.cells (ygA R D L G gr) 160)) (af _ (.cells #[.slice ao la ca,yi p] 168))) (af _ (.cells (ydA false yN 0) 205));have g1:=((ah w (ygL R D L G gr) 160).l (af _ (.cells #[.slice ao la ca,yi p] 168))).l (af _ (.cells (ydA false yN 0) 205));have s1:=(ah (w.alloc (.cells (ygA R D L G gr) 160)) [.slice ao la ca,yi p] 168).l (af _ (.cells (ydA false yN 0) 205));have c1:=ah ((w.alloc (.cells (ygA R D L G gr) 160)).alloc (.cells #[.slice ao la ca,yi p] 168)) (ydL false yN 0) 205;simp only[World.size_alloc] at s1 c1;have g_2:=g1.l ((Below.refl _ _).drew);have s_2:=s1.l ((Below.refl _ _).drew);have c_2:=c1.l ((Below.refl _ _).drew);have b0_2:=aa b1 ((Below.refl _ _).drew);clear g1 s1 c1 b1;obtain⟨x0,x1,x2,x3,x4⟩:=g_2.cs5;obtain⟨y0,y1⟩:=s_2.cs2;have nA:w.heap.size+1+1≠w.heap.size:=by omega
 have nB:w.heap.size+1+1≠w.heap.size+1:=by omega
 go_enter func157,ntmps157
 go_wp2_with fail
 go_region_held3 (fun wq=>wq.cell? ⟨w.heap.size,0,none⟩=some (yi R)∧wq.cell? ⟨w.heap.size,1,none⟩=some (yi D)∧wq.cell? ⟨w.heap.size,2,none⟩=some (yi L)∧wq.cell? ⟨w.heap.size,3,none⟩=some (yi G)∧wq.cell? ⟨w.heap.size,4,none⟩=some (.bool gr)∧wq.cell? ⟨w.heap.size+1,0,none⟩=some (.slice ao la ca)∧wq.cell? ⟨w.heap.size+1,1,none⟩=some (yi p)) (go_keep) (first
  | (go_at_call 117;have hgd:=b0_2;clear hgd;refine(HW.out _).mono ?_;rintro z wa ⟨rfl,bb_wa⟩;have b0_wa:=aa b0_2 bb_wa;have g_wa:=g_2.l bb_wa;have s_wa:=s_2.l bb_wa;have c_wa:=c_2.l bb_wa;obtain⟨xa0,xa1,xa2,xa3,xa4⟩:=g_wa.cs5;obtain⟨ya0,ya1⟩:=s_wa.cs2;clear b0_2)
  | (go_at_call 167;have hgd:=b0_wa;clear hgd;refine(HN.out _).mono ?_;rintro z wb ⟨rfl,bb_wb⟩;have b0_wb:=aa b0_wa bb_wb;have g_wb:=g_wa.l bb_wb;have s_wb:=s_wa.l bb_wb;have c_wb:=c_wa.l bb_wb;obtain⟨xb0,xb1,xb2,xb3,xb4⟩:=g_wb.cs5;obtain⟨yb0,yb1⟩:=s_wb.cs2;have z0:=c_wb.c 0 rfl;have e0:=c_wb.f 0;have z1:=c_wb.c 1 rfl;have e1:=c_wb.f 1;have z2:=c_wb.c 2 rfl;have e2:=c_wb.f 2;clear b0_wa))
 all_goals go_wp2
 have bu:But (w.heap.size+1+1) wb (((wb.setCell ⟨w.heap.size+1+1,0,none⟩ (.bool ng)).setCell ⟨w.heap.size+1+1,1,none⟩ (.slice ao la ca)).setCell ⟨w.heap.size+1+1,2,none⟩ (yi (wd*p))):=((ag wb (w.heap.size+1+1) 0 (.bool ng)).trans (ag _ (w.heap.size+1+1) 1 (.slice ao la ca))).trans (ag _ (w.heap.size+1+1) 2 (yi (wd*p)));have cX:au (((wb.setCell ⟨w.heap.size+1+1,0,none⟩ (.bool ng)).setCell ⟨w.heap.size+1+1,1,none⟩ (.slice ao la ca)).setCell ⟨w.heap.size+1+1,2,none⟩ (yi (wd*p))) (w.heap.size+1+1) 205 (ydL ng (.slice ao la ca) (wd*p)):=((c_wb.set 0 (.bool ng)).set 1 (.slice ao la ca)).set 2 (yi (wd*p));have bX:=bu.below b0_wb (show w.heap.size≤w.heap.size+1+1 by omega)
 obtain⟨s0,s1,s2⟩:=cX.cs3;refine bodyPost_ret (v:=(ydV ng (.slice ao la ca) (wd*p))) (by simp[results,results157,go_sem,s0,s1,s2]) rfl ?_;exact⟨rfl,bX⟩
theorem Zr (R D L G:Int)(gr s:Bool)(ao:Option Addr)(la ca:Nat)(p:Int)(x1 x2 x3:Bool)(wd nc gc c:Int)(far rs:Bool)(rn:Nat)(re:Int)(w:World)
  (HA: ¬nc=0→rs=false∧rn=0∧re=0∧c=nc) (HB:nc=0→ ¬gc=0→rs=false∧rn=0∧re=0∧c=gc) (HC:nc=0→gc=0→far=true→rs=false∧rn=0∧re=0∧c=3)
  (HN:yH w 71 #[.slice ao la ca] (yi nc))
  (HG:yJ 108 #[ygV R D L G gr] (yi gc))
  (HF: ∀w1,yC 107 #[yi p,yi 20000] w1 fun z w'=>z= .returned (.bool far)∧w'=w1)
  (HM:nc=0→gc=0→far=false→yJ 157 #[ygV R D L G gr,.bool s,.agg #[.slice ao la ca,yi p]] (ydV s (.slice ao la ca) (wd*p)))
  (HS:nc=0→gc=0→far=false→ ∀w1,yB w w1→yC 158 #[ydV s (.slice ao la ca) (wd*p)] w1 (gR w1 (⟨rs,rn,re⟩,c))):
  yC 136 #[ypV s (.slice ao la ca) p x1 x2 x3,ygV R D L G gr] w (gR w (⟨rs,rn,re⟩,c)):=by
 replace HA:Hid _:=HA;replace HB:Hid _:=HB;replace HC:Hid _:=HC;replace HN:Hid _:=HN;replace HG:Hid _:=HG;replace HF:Hid _:=HF;replace HM:Hid _:=HM;replace HS:Hid _:=HS;have b1:=aa (aa (af w (.cells (ypA s (.slice ao la ca) p x1 x2 x3) 112)) (af _ (.cells (ygA R D L G gr) 26))) (af _ (.cells (ydA false yN 0) 86));have q1:=((ah w (ypL s (.slice ao la ca) p x1 x2 x3) 112).l (af _ (.cells (ygA R D L G gr) 26))).l (af _ (.cells (ydA false yN 0) 86));have g1:=(ah (w.alloc (.cells (ypA s (.slice ao la ca) p x1 x2 x3) 112)) (ygL R D L G gr) 26).l (af _ (.cells (ydA false yN 0) 86));have c1:=ah ((w.alloc (.cells (ypA s (.slice ao la ca) p x1 x2 x3) 112)).alloc (.cells (ygA R D L G gr) 26)) (ydL false yN 0) 86;simp only[World.size_alloc] at g1 c1
 by_cases hn:nc=0
 ·have HB1:Hid _:=HB.out hn
  have HC1:Hid _:=HC.out hn;have HM1:Hid _:=HM.out hn;have HS1:Hid _:=HS.out hn;clear HA HB HC HM HS;subst hn
  by_cases hg:gc=0
  ·have HC2:Hid _:=HC1.out hg
   have HM2:Hid _:=HM1.out hg;have HS2:Hid _:=HS1.out hg;clear HB1 HC1 HM1 HS1;subst hg
   cases far
   ·have HM3:Hid _:=HM2.out rfl
    have HS3:Hid _:=HS2.out rfl;clear HC2 HM2 HS2;have y1:=q1.c 1 rfl
    go_enter func136,ntmps136
    go_wp2_with fail
    refine(HN.out _ b1).mono ?_;rintro z w2 ⟨rfl,bb2⟩;clear y1;have q_2:=q1.l bb2;have g_2:=g1.l bb2;have c_2:=c1.l bb2;have b0_2:=aa b1 bb2;clear q1 g1 c1 b1 bb2;obtain⟨x0,x1,x2,x3,x4⟩:=g_2.cs5
    go_wp2_with fail
    refine(HG.out _).mono ?_;rintro z w3 ⟨rfl,bb3⟩;have q_3:=q_2.l bb3;have g_3:=g_2.l bb3;have c_3:=c_2.l bb3;have b0_3:=aa b0_2 bb3;clear q_2 g_2 c_2 b0_2 bb3;clear x0 x1 x2 x3 x4;obtain⟨y0,y1,y2⟩:=q_3.cs3;obtain⟨x0,x1,x2,x3,x4⟩:=g_3.cs5
    go_wp2_with fail
    refine(HF.out _).mono ?_;rintro z w4 ⟨rfl,rfl⟩
    go_wp2_with fail
    refine(HM3.out _).mono ?_;rintro z w5 ⟨rfl,bb5⟩;clear x0 x1 x2 x3 x4 y0 y1 y2;have q_4:=q_3.l bb5;have g_4:=g_3.l bb5;have c_4:=c_3.l bb5;have b0_4:=aa b0_3 bb5;clear q_3 g_3 c_3 b0_3 bb5;have hlt:w.heap.size+1+1<w5.heap.size:=c_4.lt
    go_wp2_with fail
    refine(HS3.out _ b0_4).mono ?_;rintro z w6 ⟨vr,rfl,o6,bb5⟩;have q_5:=q_4.l bb5;have g_5:=g_4.l bb5;have c_5:=c_4.l bb5;have b0_5:=aa b0_4 bb5;clear q_4 g_4 c_4 b0_4 bb5;obtain⟨so,sc,hvr⟩:=o6.rd.shape;subst hvr;have d0:=c_5.c 0 rfl;have f0:=c_5.f 0;have d1:=c_5.c 1 rfl;have f1:=c_5.f 1;have d2:=c_5.c 2 rfl;have f2:=c_5.f 2
    go_wp2
    have bu:But (w.heap.size+1+1) w6 (((w6.setCell ⟨w.heap.size+1+1,0,none⟩ (.bool rs)).setCell ⟨w.heap.size+1+1,1,none⟩ (yT so rn sc)).setCell ⟨w.heap.size+1+1,2,none⟩ (yi re)):=((ag w6 (w.heap.size+1+1) 0 (.bool rs)).trans (ag _ (w.heap.size+1+1) 1 (yT so rn sc))).trans (ag _ (w.heap.size+1+1) 2 (yi re));have cX:au (((w6.setCell ⟨w.heap.size+1+1,0,none⟩ (.bool rs)).setCell ⟨w.heap.size+1+1,1,none⟩ (yT so rn sc)).setCell ⟨w.heap.size+1+1,2,none⟩ (yi re)) (w.heap.size+1+1) 86 (ydL rs (yT so rn sc) re):=((c_5.set 0 (.bool rs)).set 1 (yT so rn sc)).set 2 (yi re);have bX:=bu.below b0_5 (show w.heap.size≤w.heap.size+1+1 by omega)
    have oX:=bu.own o6 c_5 (by decide);obtain⟨s0,s1,s2⟩:=cX.cs3;refine bodyPost_ret (v:= .tuple #[ydV rs (yT so rn sc) re,yi c]) (by simp[results,results136,go_sem,s0,s1,s2]) rfl ?_;exact⟨_,rfl,oX.lower (by omega),bX⟩
   ·obtain⟨h1,h2,h3,h4⟩:=HC2.out rfl
    clear HC2 HM2 HS2;subst h1 h2 h3 h4;have y1:=q1.c 1 rfl
    go_enter func136,ntmps136
    go_wp2_with fail
    refine(HN.out _ b1).mono ?_;rintro z w2 ⟨rfl,bb2⟩;clear y1;have q_2:=q1.l bb2;have g_2:=g1.l bb2;have c_2:=c1.l bb2;have b0_2:=aa b1 bb2;clear q1 g1 c1 b1 bb2;obtain⟨x0,x1,x2,x3,x4⟩:=g_2.cs5
    go_wp2_with fail
    refine(HG.out _).mono ?_;rintro z w3 ⟨rfl,bb3⟩;have q_3:=q_2.l bb3;have g_3:=g_2.l bb3;have c_3:=c_2.l bb3;have b0_3:=aa b0_2 bb3;clear q_2 g_2 c_2 b0_2 bb3;clear x0 x1 x2 x3 x4;have y2:=q_3.c 2 rfl
    go_wp2_with fail
    refine(HF.out _).mono ?_;rintro z w4 ⟨rfl,rfl⟩;clear y2;have d0:=c_3.c 0 rfl;have f0:=c_3.f 0;have d1:=c_3.c 1 rfl;have f1:=c_3.f 1;have d2:=c_3.c 2 rfl;have f2:=c_3.f 2
    go_wp2
    have bu:But (w.heap.size+1+1) w4 (((w4.setCell ⟨w.heap.size+1+1,0,none⟩ (.bool false)).setCell ⟨w.heap.size+1+1,1,none⟩ yN).setCell ⟨w.heap.size+1+1,2,none⟩ (yi 0)):=((ag w4 (w.heap.size+1+1) 0 (.bool false)).trans (ag _ (w.heap.size+1+1) 1 yN)).trans (ag _ (w.heap.size+1+1) 2 (yi 0));have cX:au (((w4.setCell ⟨w.heap.size+1+1,0,none⟩ (.bool false)).setCell ⟨w.heap.size+1+1,1,none⟩ yN).setCell ⟨w.heap.size+1+1,2,none⟩ (yi 0)) (w.heap.size+1+1) 86 (ydL false yN 0):=((c_3.set 0 (.bool false)).set 1 yN).set 2 (yi 0);have bX:=bu.below b0_3 (show w.heap.size≤w.heap.size+1+1 by omega)
    obtain⟨s0,s1,s2⟩:=cX.cs3;refine bodyPost_ret (v:= .tuple #[ydV false yN 0,yi 3]) (by simp[results,results136,go_sem,s0,s1,s2]) rfl ?_;exact⟨_,rfl,aQ _ _ _ _,bX⟩
  ·obtain⟨h1,h2,h3,h4⟩:=HB1.out hg
   clear HB1 HC1 HM1 HS1;have hgf:(gc==0)=false:=by simp[hg]
   subst h1 h2 h3 h4;have y1:=q1.c 1 rfl
   go_enter func136,ntmps136
   go_wp2_with fail
   refine(HN.out _ b1).mono ?_;rintro z w2 ⟨rfl,bb2⟩;clear y1;have q_2:=q1.l bb2;have g_2:=g1.l bb2;have c_2:=c1.l bb2;have b0_2:=aa b1 bb2;clear q1 g1 c1 b1 bb2;obtain⟨x0,x1,x2,x3,x4⟩:=g_2.cs5
   go_wp2_with fail
   refine(HG.out _).mono ?_;rintro z w3 ⟨rfl,bb3⟩;have q_3:=q_2.l bb3;have g_3:=g_2.l bb3;have c_3:=c_2.l bb3;have b0_3:=aa b0_2 bb3;clear q_2 g_2 c_2 b0_2 bb3;clear x0 x1 x2 x3 x4;have d0:=c_3.c 0 rfl;have f0:=c_3.f 0;have d1:=c_3.c 1 rfl;have f1:=c_3.f 1;have d2:=c_3.c 2 rfl;have f2:=c_3.f 2
   go_wp2
   have bu:But (w.heap.size+1+1) w3 (((w3.setCell ⟨w.heap.size+1+1,0,none⟩ (.bool false)).setCell ⟨w.heap.size+1+1,1,none⟩ yN).setCell ⟨w.heap.size+1+1,2,none⟩ (yi 0)):=((ag w3 (w.heap.size+1+1) 0 (.bool false)).trans (ag _ (w.heap.size+1+1) 1 yN)).trans (ag _ (w.heap.size+1+1) 2 (yi 0));have cX:au (((w3.setCell ⟨w.heap.size+1+1,0,none⟩ (.bool false)).setCell ⟨w.heap.size+1+1,1,none⟩ yN).setCell ⟨w.heap.size+1+1,2,none⟩ (yi 0)) (w.heap.size+1+1) 86 (ydL false yN 0):=((c_3.set 0 (.bool false)).set 1 yN).set 2 (yi 0);have bX:=bu.below b0_3 (show w.heap.size≤w.heap.size+1+1 by omega)
   obtain⟨s0,s1,s2⟩:=cX.cs3;refine bodyPost_ret (v:= .tuple #[ydV false yN 0,yi c]) (by simp[results,results136,go_sem,s0,s1,s2]) rfl ?_;exact⟨_,rfl,aQ _ _ _ _,bX⟩
 ·obtain⟨h1,h2,h3,h4⟩:=HA.out hn
  clear HA HB HC HM HS;have hnf:(nc==0)=false:=by simp[hn]
  subst h1 h2 h3 h4;have y1:=q1.c 1 rfl
  go_enter func136,ntmps136
  go_wp2_with fail
  refine(HN.out _ b1).mono ?_;rintro z w2 ⟨rfl,bb2⟩;clear y1;have q_2:=q1.l bb2;have g_2:=g1.l bb2;have c_2:=c1.l bb2;have b0_2:=aa b1 bb2;clear q1 g1 c1 b1 bb2;have d0:=c_2.c 0 rfl;have f0:=c_2.f 0;have d1:=c_2.c 1 rfl;have f1:=c_2.f 1;have d2:=c_2.c 2 rfl;have f2:=c_2.f 2
  go_wp2
  have bu:But (w.heap.size+1+1) w2 (((w2.setCell ⟨w.heap.size+1+1,0,none⟩ (.bool false)).setCell ⟨w.heap.size+1+1,1,none⟩ yN).setCell ⟨w.heap.size+1+1,2,none⟩ (yi 0)):=((ag w2 (w.heap.size+1+1) 0 (.bool false)).trans (ag _ (w.heap.size+1+1) 1 yN)).trans (ag _ (w.heap.size+1+1) 2 (yi 0));have cX:au (((w2.setCell ⟨w.heap.size+1+1,0,none⟩ (.bool false)).setCell ⟨w.heap.size+1+1,1,none⟩ yN).setCell ⟨w.heap.size+1+1,2,none⟩ (yi 0)) (w.heap.size+1+1) 86 (ydL false yN 0):=((c_2.set 0 (.bool false)).set 1 yN).set 2 (yi 0);have bX:=bu.below b0_2 (show w.heap.size≤w.heap.size+1+1 by omega)
  obtain⟨s0,s1,s2⟩:=cX.cs3;refine bodyPost_ret (v:= .tuple #[ydV false yN 0,yi c]) (by simp[results,results136,go_sem,s0,s1,s2]) rfl ?_;exact⟨_,rfl,aQ _ _ _ _,bX⟩
end Go.Proofs.YtpainhklfoaniaaGreatDoor

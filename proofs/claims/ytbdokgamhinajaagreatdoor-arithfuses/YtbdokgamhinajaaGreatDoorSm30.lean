/-
  Texts laid together: As2, Aw0, Gb6.
-/
import Derived.Test.YtbdokgamhinajaaGreatDoorSm29
set_option maxRecDepth 100000
set_option maxHeartbeats 6400000
namespace Go.Proofs.YtbdokgamhinajaaGreatDoor
open _root_.Go.Proofs.Tryz
open Go.RowKit
def xj (w:World)(c:Int)(g:Bool)(t:ak)(z:Ending)(w':World):Prop:=
 ∃v,z= .returned (yoV c g t.s v t.e)∧Rd w' .u32 v (Dg.dg 4294967296 t.n)∧yB w w'
def dU (w:World)(c:Int)(g:Bool)(t:ak)(fl:Int)(z:Ending)(w':World):Prop:=
 ∃v,z= .returned (.tuple #[yoV c g t.s v t.e,yi fl])∧Rd w' .u32 v (Dg.dg 4294967296 t.n)∧yB w w'
def vI (t:ak):Int:=if t.n=0 then 1 else 2
def xr (t:ak)(ng:Bool):Bool:=if t.n=0 then ng else t.s
def tF (t:ak):ak:=if t.n=0 then⟨false,0,0⟩ else t
theorem mT (t:ak)(ng:Bool)(to0:Option Addr)(tc:Nat)(w:World)(hr:Rd w .u32 (yT to0 t.n tc) (Dg.dg 4294967296 t.n)):
  yC 61 #[yDV t to0 tc,.bool ng] w (xj w (vI t) (xr t ng) (tF t)):=by
 have HS:Hid (yH w 104 #[yDV t to0 tc] (yi (dJ t))):=fun w1 b=>qB _ t w1 ⟨_,rfl,hr.l b⟩
 have ax:=af w (.cells (yDA t to0 tc) 74);have ao:=af (w.alloc (.cells (yDA t to0 tc) 74)) (.cells (yoA 0 false false yN 0) 76);have x0:=(ah w (yDL t to0 tc) 74).l ao;have o0:=ah (w.alloc (.cells (yDA t to0 tc) 74)) (yoL 0 false false yN 0) 76;rw[World.size_alloc] at o0;have b0:=aa ax ao;have r0:=hr.l b0;clear ax ao hr;unfold vI xr tF
 by_cases h0:t.n=0
 ·rw[if_pos h0,if_pos h0,if_pos h0]
  have hs:dJ t=0:=if_pos h0;rw[hs] at HS;clear h0 hs
  go_enter func61,ntmps61
  go_upto_region 1 with fail
  generalize(w.alloc (.cells (yDA t to0 tc) 74)).alloc (.cells (yoA 0 false false yN 0) 76)=W0 at x0 o0 b0 r0⊢;obtain⟨y0,y1,y2⟩:=x0.cs3
  go_wp2_with fail
  refine(HS.out _ b0).mono ?_;rintro z w1 ⟨rfl,b1⟩;have o1:=o0.l b1;have b01:=aa b0 b1;clear y0 y1 y2 x0 o0 b0 b1 HS r0;have cR:au (((((w1.setCell ⟨w.heap.size+1,0,none⟩ (yi 1)).setCell ⟨w.heap.size+1,1,none⟩ (.bool ng)).setCell ⟨w.heap.size+1,2,none⟩ (.bool false)).setCell ⟨w.heap.size+1,3,none⟩ yN).setCell ⟨w.heap.size+1,4,none⟩ (yi 0)) (w.heap.size+1) 76 (yoL 1 ng false yN 0):=(((((o1.set 0 (yi 1)).set 1 (.bool ng)).set 2 (.bool false)).set 3 yN).set 4 (yi 0));have bu:=((((ag w1 (w.heap.size+1) 0 (yi 1)).trans (ag _ (w.heap.size+1) 1 (.bool ng))).trans (ag _ (w.heap.size+1) 2 (.bool false))).trans (ag _ (w.heap.size+1) 3 yN)).trans (ag _ (w.heap.size+1) 4 (yi 0));have bR:=bu.below b01 (by omega);have hl:=run_loadVar_mid (P:=Tryz.prog) _ (w.heap.size+1) 0 76 (yoL 1 ng false yN 0) _ cR.range underlying76 rfl (by kernel_rfl);have HH:Hid (_∧_):=⟨hl,bR⟩;obtain⟨z0,z1,z2,z3,z4⟩:=o1.cs5;have fz0:=o1.f 0;have fz1:=o1.f 1;have fz2:=o1.f 2;have fz3:=o1.f 3;have fz4:=o1.f 4;clear hl bR bu cR;clear o1 b01
  go_wp2
  obtain⟨hl,bR⟩:=HH.out;exact bodyPost_ret (br results61 rfl hl) rfl ⟨_,rfl,aN _ _,bR⟩
 ·rw[if_neg h0,if_neg h0,if_neg h0]
  obtain⟨sg,hs⟩: ∃s,dJ t=s:=⟨_,rfl⟩;have hs1:(sg==0)=false:=by
   rw[←hs];unfold dJ;rw[if_neg h0]
   cases t.s<;>rfl
  rw[hs] at HS;clear h0 hs
  go_enter func61,ntmps61
  go_upto_region 1 with fail
  generalize(w.alloc (.cells (yDA t to0 tc) 74)).alloc (.cells (yoA 0 false false yN 0) 76)=W0 at x0 o0 b0 r0⊢;obtain⟨y0,y1,y2⟩:=x0.cs3
  go_wp2_with fail
  refine(HS.out _ b0).mono ?_;rintro z w1 ⟨rfl,b1⟩;have o1:=o0.l b1;have x1:=x0.l b1;have r1:=r0.l b1;have b01:=aa b0 b1;clear y0 y1 y2 x0 o0 b0 b1 HS r0;obtain⟨y0,y1,y2⟩:=x1.cs3;have cR:au (((((w1.setCell ⟨w.heap.size+1,0,none⟩ (yi 2)).setCell ⟨w.heap.size+1,1,none⟩ (.bool t.s)).setCell ⟨w.heap.size+1,2,none⟩ (.bool t.s)).setCell ⟨w.heap.size+1,3,none⟩ (yT to0 t.n tc)).setCell ⟨w.heap.size+1,4,none⟩ (yi t.e)) (w.heap.size+1) 76 (yOL 2 t.s t to0 tc):=(((((o1.set 0 (yi 2)).set 1 (.bool t.s)).set 2 (.bool t.s)).set 3 (yT to0 t.n tc)).set 4 (yi t.e));have bu:=((((ag w1 (w.heap.size+1) 0 (yi 2)).trans (ag _ (w.heap.size+1) 1 (.bool t.s))).trans (ag _ (w.heap.size+1) 2 (.bool t.s))).trans (ag _ (w.heap.size+1) 3 (yT to0 t.n tc))).trans (ag _ (w.heap.size+1) 4 (yi t.e));have bR:=bu.below b01 (by omega);have rR:=bu.rd r1 (aX r1 o1 (by simp));have hl:=run_loadVar_mid (P:=Tryz.prog) _ (w.heap.size+1) 0 76 (yOL 2 t.s t to0 tc) _ cR.range underlying76 rfl (by kernel_rfl);have HH:Hid (_∧_∧_):=⟨hl,rR,bR⟩;obtain⟨z0,z1,z2,z3,z4⟩:=o1.cs5;have fz0:=o1.f 0;have fz1:=o1.f 1;have fz2:=o1.f 2;have fz3:=o1.f 3;have fz4:=o1.f 4;clear hl bR bu cR rR;clear o1 b01 x1 r1
  go_wp2
  obtain⟨hl,rR,bR⟩:=HH.out;exact bodyPost_ret (br results61 rfl hl) rfl ⟨_,rfl,rR,bR⟩
theorem Ng (n wy fam R D L G cx cy:Int)(gr gx gy:Bool)(x y:ak)(xo yo:Option Addr)(xc yc:Nat)(sg:Bool)(w:World)(hsg:sg=if gx=gy then gx else decide (wy=5))(hx:(cx==3)=false)(hy:(cy==3)=false)
  (HP: ∀w1,yB w w1→yC 62 #[yDV x xo xc,yDV y yo yc] w1 (jN w1 (aG x y))):
  yC 31 #[ykV n wy fam R D L G gr,yOV cx gx x xo xc,yOV cy gy y yo yc] w (dU w (vI (aG x y)) (xr (aG x y) sg) (tF (aG x y)) 0):=by
 replace HP:Hid _:=HP;have HSg:Hid (sg=if gx=gy then gx else decide (wy=5)):=hsg
 clear hsg;have HX:Hid (yJ 60 #[yOV cx gx x xo xc] (.bool (cx==3))):=fun w1=>iz _ _ _ _ _ _ _ w1
 have HY:Hid (yJ 60 #[yOV cy gy y yo yc] (.bool (cy==3))):=fun w1=>iz _ _ _ _ _ _ _ w1
 have HN:Hid (∀to0 tc ng w1,Rd w1 .u32 (.slice to0 (Dg.dg 4294967296 (aG x y).n).length tc) (Dg.dg 4294967296 (aG x y).n)→yC 61 #[.agg #[.bool (aG x y).s,.slice to0 (Dg.dg 4294967296 (aG x y).n).length tc,yi (aG x y).e],.bool ng] w1 (xj w1 (vI (aG x y)) (xr (aG x y) ng) (tF (aG x y)))):=fun to0 tc ng w1 h=>mT (aG x y) ng to0 tc w1 h
 rw[hx] at HX;rw[hy] at HY;have a1:=af w (.cells (ykA n wy fam R D L G gr) 69);have a2:=af (w.alloc (.cells (ykA n wy fam R D L G gr) 69)) (.cells (yOA cx gx x xo xc) 76);have a3:=af ((w.alloc (.cells (ykA n wy fam R D L G gr) 69)).alloc (.cells (yOA cx gx x xo xc) 76)) (.cells (yOA cy gy y yo yc) 76);have a4:=af (((w.alloc (.cells (ykA n wy fam R D L G gr) 69)).alloc (.cells (yOA cx gx x xo xc) 76)).alloc (.cells (yOA cy gy y yo yc) 76)) (.cells (yoA 0 false false yN 0) 76);have d0:=(((ah w (ykL n wy fam R D L G gr) 69).l a2).l a3).l a4;have x0:=((ah (w.alloc (.cells (ykA n wy fam R D L G gr) 69)) (yOL cx gx x xo xc) 76).l a3).l a4;have y0:=(ah ((w.alloc (.cells (ykA n wy fam R D L G gr) 69)).alloc (.cells (yOA cx gx x xo xc) 76)) (yOL cy gy y yo yc) 76).l a4;have o0:=ah (((w.alloc (.cells (ykA n wy fam R D L G gr) 69)).alloc (.cells (yOA cx gx x xo xc) 76)).alloc (.cells (yOA cy gy y yo yc) 76)) (yoL 0 false false yN 0) 76;rw[World.size_alloc] at x0;rw[World.size_alloc,World.size_alloc] at y0;rw[World.size_alloc,World.size_alloc,World.size_alloc] at o0;have b0:=aa (aa (aa a1 a2) a3) a4;clear a1 a2 a3 a4 hx hy;obtain⟨t,ht⟩: ∃t,aG x y=t:=⟨_,rfl⟩;rw[ht] at HP HN⊢;clear ht
 go_enter func31,ntmps31
 go_upto_block 0 with fail
 generalize(((w.alloc (.cells (ykA n wy fam R D L G gr) 69)).alloc (.cells (yOA cx gx x xo xc) 76)).alloc (.cells (yOA cy gy y yo yc) 76)).alloc (.cells (yoA 0 false false yN 0) 76)=W0 at d0 x0 y0 o0 b0⊢;obtain⟨u0,u1,u2,u3,u4⟩:=x0.cs5
 go_wp2_with fail
 refine(HX.out _).mono ?_;rintro z w1 ⟨rfl,b1⟩;have d1:=d0.l b1;have x1:=x0.l b1;have y1:=y0.l b1;have o1:=o0.l b1;have b01:=aa b0 b1;clear d0 x0 y0 o0 b0 b1 u0 u1 u2 u3 u4;obtain⟨u0,u1,u2,u3,u4⟩:=x1.cs5;obtain⟨v0,v1,v2,v3,v4⟩:=y1.cs5
 go_wp2_with fail
 refine(HX.out _).mono ?_;rintro z w2 ⟨rfl,b2⟩;have d2:=d1.l b2;have x2:=x1.l b2;have y2:=y1.l b2;have o2:=o1.l b2;have b02:=aa b01 b2;clear d1 x1 y1 o1 b01 b2 u0 u1 u2 u3 u4 v0 v1 v2 v3 v4;obtain⟨v0,v1,v2,v3,v4⟩:=y2.cs5
 go_wp2_with fail
 refine(HY.out _).mono ?_;rintro z w3 ⟨rfl,b3⟩;have d3:=d2.l b3;have x3:=x2.l b3;have y3:=y2.l b3;have o3:=o2.l b3;have b03:=aa b02 b3;clear d2 x2 y2 o2 b02 b3 v0 v1 v2 v3 v4 HX HY
 go_upto_region 7 with fail
 obtain⟨u0,u1,u2,u3,u4⟩:=x3.cs5;obtain⟨v0,v1,v2,v3,v4⟩:=y3.cs5;have q1:=d3.c 1 rfl;have HNs:Hid (∀to0 tc w1,Rd w1 .u32 (yT to0 t.n tc) (Dg.dg 4294967296 t.n)→yC 61 #[yDV t to0 tc,.bool sg] w1 (xj w1 (vI t) (xr t sg) (tF t))):=fun to0 tc w1 h=>HN.out to0 tc sg w1 h
 obtain⟨c,hcE⟩: ∃c,vI t=c:=⟨_,rfl⟩;obtain⟨g,hgE⟩: ∃c,xr t sg=c:=⟨_,rfl⟩;obtain⟨tt,htE⟩: ∃c,tF t=c:=⟨_,rfl⟩;rw[hcE,hgE,htE] at HNs;have HE:Hid (vI t=c∧xr t sg=g∧tF t=tt):=⟨hcE,hgE,htE⟩;clear hcE hgE htE HN
 by_cases hg:gx=gy
 ·have h1:=HSg.out
  rw[if_pos hg] at h1;subst hg;rw[h1] at HNs;clear HSg h1
  go_wp2_with fail
  refine(HP.out _ b03).mono ?_;rintro z w4 ⟨p4,rfl,o4,b4⟩;obtain⟨po,pc,hv⟩:=o4.rd.shape;subst hv;have r4:=o4.rd;have o5:=o3.l b4;have b04:=aa b03 b4;clear u0 u1 u2 u3 u4 v0 v1 v2 v3 v4 q1 d3 x3 y3 o3 b03 b4 o4 HP
  go_wp2_with fail
  refine(HNs.out _ _ _ r4).mono ?_;rintro z w6 ⟨p6,rfl,r6,b6⟩;obtain⟨ro,rc,hv⟩:=r6.shape;subst hv;have o6:=o5.l b6;have b06:=aa b04 b6;clear o5 b04 b6 r4 HNs;have cR:au (((((w6.setCell ⟨w.heap.size+1+1+1,0,none⟩ (yi c)).setCell ⟨w.heap.size+1+1+1,1,none⟩ (.bool g)).setCell ⟨w.heap.size+1+1+1,2,none⟩ (.bool tt.s)).setCell ⟨w.heap.size+1+1+1,3,none⟩ (yT ro tt.n rc)).setCell ⟨w.heap.size+1+1+1,4,none⟩ (yi tt.e)) (w.heap.size+1+1+1) 76 (yOL c g tt ro rc):=(((((o6.set 0 (yi c)).set 1 (.bool g)).set 2 (.bool tt.s)).set 3 (yT ro tt.n rc)).set 4 (yi tt.e));have bu:=((((ag w6 (w.heap.size+1+1+1) 0 (yi c)).trans (ag _ (w.heap.size+1+1+1) 1 (.bool g))).trans (ag _ (w.heap.size+1+1+1) 2 (.bool tt.s))).trans (ag _ (w.heap.size+1+1+1) 3 (yT ro tt.n rc))).trans (ag _ (w.heap.size+1+1+1) 4 (yi tt.e));have bR:=bu.below b06 (by omega);have rR:=bu.rd r6 (aX r6 o6 (by simp));have hl:=run_loadVar_mid (P:=Tryz.prog) _ (w.heap.size+1+1+1) 0 76 (yOL c g tt ro rc) _ cR.range underlying76 rfl (by kernel_rfl);have HH:Hid (_∧_∧_):=⟨hl,rR,bR⟩;obtain⟨z0,z1,z2,z3,z4⟩:=o6.cs5;have fz0:=o6.f 0;have fz1:=o6.f 1;have fz2:=o6.f 2;have fz3:=o6.f 3;have fz4:=o6.f 4;clear hl bR bu cR rR;clear o6 b06 r6
  go_wp2
  obtain⟨hl,rR,bR⟩:=HH.out;obtain⟨e1,e2,e3⟩:=HE.out;rw[e1,e2,e3];exact bodyPost_ret (aj results31 rfl rfl hl) rfl ⟨_,rfl,rR,bR⟩
 ·have h1:=HSg.out
  rw[if_neg hg] at h1;have hgn:gx= !gy:=by cases gx<;>cases gy<;>simp_all
  subst hgn
  by_cases h5:wy=5
  ·subst h5
   rw[decide_eq_true rfl] at h1;rw[h1] at HNs;clear HSg hg h1
   cases gy
   all_goals
    go_wp2_with fail
    refine(HP.out _ b03).mono ?_;rintro z w4 ⟨p4,rfl,o4,b4⟩;obtain⟨po,pc,hv⟩:=o4.rd.shape;subst hv;have r4:=o4.rd;have o5:=o3.l b4;have b04:=aa b03 b4;clear u0 u1 u2 u3 u4 v0 v1 v2 v3 v4 q1 d3 x3 y3 o3 b03 b4 o4 HP
    go_wp2_with fail
    refine(HNs.out _ _ _ r4).mono ?_;rintro z w6 ⟨p6,rfl,r6,b6⟩;obtain⟨ro,rc,hv⟩:=r6.shape;subst hv;have o6:=o5.l b6;have b06:=aa b04 b6;clear o5 b04 b6 r4 HNs;have cR:au (((((w6.setCell ⟨w.heap.size+1+1+1,0,none⟩ (yi c)).setCell ⟨w.heap.size+1+1+1,1,none⟩ (.bool g)).setCell ⟨w.heap.size+1+1+1,2,none⟩ (.bool tt.s)).setCell ⟨w.heap.size+1+1+1,3,none⟩ (yT ro tt.n rc)).setCell ⟨w.heap.size+1+1+1,4,none⟩ (yi tt.e)) (w.heap.size+1+1+1) 76 (yOL c g tt ro rc):=(((((o6.set 0 (yi c)).set 1 (.bool g)).set 2 (.bool tt.s)).set 3 (yT ro tt.n rc)).set 4 (yi tt.e));have bu:=((((ag w6 (w.heap.size+1+1+1) 0 (yi c)).trans (ag _ (w.heap.size+1+1+1) 1 (.bool g))).trans (ag _ (w.heap.size+1+1+1) 2 (.bool tt.s))).trans (ag _ (w.heap.size+1+1+1) 3 (yT ro tt.n rc))).trans (ag _ (w.heap.size+1+1+1) 4 (yi tt.e));have bR:=bu.below b06 (by omega);have rR:=bu.rd r6 (aX r6 o6 (by simp));have hl:=run_loadVar_mid (P:=Tryz.prog) _ (w.heap.size+1+1+1) 0 76 (yOL c g tt ro rc) _ cR.range underlying76 rfl (by kernel_rfl);have HH:Hid (_∧_∧_):=⟨hl,rR,bR⟩;obtain⟨z0,z1,z2,z3,z4⟩:=o6.cs5;have fz0:=o6.f 0;have fz1:=o6.f 1;have fz2:=o6.f 2;have fz3:=o6.f 3;have fz4:=o6.f 4;clear hl bR bu cR rR;clear o6 b06 r6
    go_wp2
    obtain⟨hl,rR,bR⟩:=HH.out;obtain⟨e1,e2,e3⟩:=HE.out;rw[e1,e2,e3];exact bodyPost_ret (aj results31 rfl rfl hl) rfl ⟨_,rfl,rR,bR⟩
  ·rw[decide_eq_false h5] at h1
   have h5b:(wy==5)=false:=by simpa using h5
   rw[h1] at HNs;clear HSg hg h1 h5
   cases gy
   all_goals
    go_wp2_with fail
    refine(HP.out _ b03).mono ?_;rintro z w4 ⟨p4,rfl,o4,b4⟩;obtain⟨po,pc,hv⟩:=o4.rd.shape;subst hv;have r4:=o4.rd;have o5:=o3.l b4;have b04:=aa b03 b4;clear u0 u1 u2 u3 u4 v0 v1 v2 v3 v4 q1 d3 x3 y3 o3 b03 b4 o4 HP
    go_wp2_with fail
    refine(HNs.out _ _ _ r4).mono ?_;rintro z w6 ⟨p6,rfl,r6,b6⟩;obtain⟨ro,rc,hv⟩:=r6.shape;subst hv;have o6:=o5.l b6;have b06:=aa b04 b6;clear o5 b04 b6 r4 HNs;have cR:au (((((w6.setCell ⟨w.heap.size+1+1+1,0,none⟩ (yi c)).setCell ⟨w.heap.size+1+1+1,1,none⟩ (.bool g)).setCell ⟨w.heap.size+1+1+1,2,none⟩ (.bool tt.s)).setCell ⟨w.heap.size+1+1+1,3,none⟩ (yT ro tt.n rc)).setCell ⟨w.heap.size+1+1+1,4,none⟩ (yi tt.e)) (w.heap.size+1+1+1) 76 (yOL c g tt ro rc):=(((((o6.set 0 (yi c)).set 1 (.bool g)).set 2 (.bool tt.s)).set 3 (yT ro tt.n rc)).set 4 (yi tt.e));have bu:=((((ag w6 (w.heap.size+1+1+1) 0 (yi c)).trans (ag _ (w.heap.size+1+1+1) 1 (.bool g))).trans (ag _ (w.heap.size+1+1+1) 2 (.bool tt.s))).trans (ag _ (w.heap.size+1+1+1) 3 (yT ro tt.n rc))).trans (ag _ (w.heap.size+1+1+1) 4 (yi tt.e));have bR:=bu.below b06 (by omega);have rR:=bu.rd r6 (aX r6 o6 (by simp));have hl:=run_loadVar_mid (P:=Tryz.prog) _ (w.heap.size+1+1+1) 0 76 (yOL c g tt ro rc) _ cR.range underlying76 rfl (by kernel_rfl);have HH:Hid (_∧_∧_):=⟨hl,rR,bR⟩;obtain⟨z0,z1,z2,z3,z4⟩:=o6.cs5;have fz0:=o6.f 0;have fz1:=o6.f 1;have fz2:=o6.f 2;have fz3:=o6.f 3;have fz4:=o6.f 4;clear hl bR bu cR rR;clear o6 b06 r6
    go_wp2
    obtain⟨hl,rR,bR⟩:=HH.out;obtain⟨e1,e2,e3⟩:=HE.out;rw[e1,e2,e3];exact bodyPost_ret (aj results31 rfl rfl hl) rfl ⟨_,rfl,rR,bR⟩
def RVF (w:World)(c:Int)(g:Bool)(t:ak)(fl:Int)(z:Ending)(w':World):Prop:=
 ∃s,z= .returned (.tuple #[yoV c g t.s s t.e,yi fl])∧Rd w' .i64 s (Dg.dg 65536 t.n)∧yB w w'
theorem cA (w:World)(c0:List Value)(t0:TypeId): ∃W,w.alloc (.cells c0.toArray t0)=W∧au W w.heap.size t0 c0∧yB w W:=
 ⟨_,rfl,ah w c0 t0,af w _⟩
theorem iG (w:World)(c0:List Value)(t0:TypeId)(c1:List Value)(t1:TypeId): ∃W,(w.alloc (.cells c0.toArray t0)).alloc (.cells c1.toArray t1)=W∧au W w.heap.size t0 c0∧au W (w.heap.size+1) t1 c1∧yB w W:=by
 obtain⟨W,rfl,h0,b0⟩:=cA w c0 t0;have h1:=ah (w.alloc (.cells c0.toArray t0)) c1 t1;have b1:=af (w.alloc (.cells c0.toArray t0)) (.cells c1.toArray t1);rw[World.size_alloc] at h1;exact⟨_,rfl,h0.l b1,h1,aa b0 b1⟩
theorem lG (w:World)(c0:List Value)(t0:TypeId)(c1:List Value)(t1:TypeId)(c2:List Value)(t2:TypeId): ∃W,((w.alloc (.cells c0.toArray t0)).alloc (.cells c1.toArray t1)).alloc (.cells c2.toArray t2)=W∧au W w.heap.size t0 c0∧au W (w.heap.size+1) t1 c1∧au W (w.heap.size+1+1) t2 c2∧yB w W:=by
 obtain⟨W,rfl,h0,h1,b0⟩:=iG w c0 t0 c1 t1;have h2:=ah ((w.alloc (.cells c0.toArray t0)).alloc (.cells c1.toArray t1)) c2 t2;have b2:=af ((w.alloc (.cells c0.toArray t0)).alloc (.cells c1.toArray t1)) (.cells c2.toArray t2);rw[World.size_alloc,World.size_alloc] at h2;exact⟨_,rfl,h0.l b2,h1.l b2,h2,aa b0 b2⟩
theorem pi (w:World)(c0:List Value)(t0:TypeId)(c1:List Value)(t1:TypeId)(c2:List Value)(t2:TypeId)(c3:List Value)(t3:TypeId): ∃W,(((w.alloc (.cells c0.toArray t0)).alloc (.cells c1.toArray t1)).alloc (.cells c2.toArray t2)).alloc (.cells c3.toArray t3)=W∧au W w.heap.size t0 c0∧au W (w.heap.size+1) t1 c1∧au W (w.heap.size+1+1) t2 c2∧au W (w.heap.size+1+1+1) t3 c3∧yB w W:=by
 obtain⟨W,rfl,h0,h1,h2,b0⟩:=lG w c0 t0 c1 t1 c2 t2;have h3:=ah (((w.alloc (.cells c0.toArray t0)).alloc (.cells c1.toArray t1)).alloc (.cells c2.toArray t2)) c3 t3;have b3:=af (((w.alloc (.cells c0.toArray t0)).alloc (.cells c1.toArray t1)).alloc (.cells c2.toArray t2)) (.cells c3.toArray t3);rw[World.size_alloc,World.size_alloc,World.size_alloc] at h3;exact⟨_,rfl,h0.l b3,h1.l b3,h2.l b3,h3,aa b0 b3⟩
theorem afz {P:Program}{w0 w:World}{n b:Nat}{ty:TypeId}{z0 z1 z2 z3:Value}{d:TypeDesc}(h:au w b ty [z0,z1,z2,z3])(hb:Below n w0 w)(hn:n≤b)(hu:P.underlying ty=some d)(hd:d.isRow=true)(hi:(P.info? ty).map (·.size)=some 4)(v0 v1 v2 v3:Value):
  (loadVar ty ⟨b,0,none⟩).run P ((((w.setCell ⟨b,0,none⟩ v0).setCell ⟨b,1,none⟩ v1).setCell ⟨b,2,none⟩ v2).setCell ⟨b,3,none⟩ v3)= .ok (.agg #[v0,v1,v2,v3]) ((((w.setCell ⟨b,0,none⟩ v0).setCell ⟨b,1,none⟩ v1).setCell ⟨b,2,none⟩ v2).setCell ⟨b,3,none⟩ v3)∧Below n w0 ((((w.setCell ⟨b,0,none⟩ v0).setCell ⟨b,1,none⟩ v1).setCell ⟨b,2,none⟩ v2).setCell ⟨b,3,none⟩ v3)∧But b w ((((w.setCell ⟨b,0,none⟩ v0).setCell ⟨b,1,none⟩ v1).setCell ⟨b,2,none⟩ v2).setCell ⟨b,3,none⟩ v3):=by
 have cR:au ((((w.setCell ⟨b,0,none⟩ v0).setCell ⟨b,1,none⟩ v1).setCell ⟨b,2,none⟩ v2).setCell ⟨b,3,none⟩ v3) b ty [v0,v1,v2,v3]:=((((h.set 0 v0).set 1 v1).set 2 v2).set 3 v3);have bu:=(((ag w b 0 v0).trans (ag _ b 1 v1)).trans (ag _ b 2 v2)).trans (ag _ b 3 v3);exact⟨run_loadVar_mid (P:=P) _ b 0 ty [v0,v1,v2,v3] _ cR.range hu hd hi,bu.below hb hn,bu⟩
theorem dL {P:Program}{w0 w:World}{n b:Nat}{ty:TypeId}{z0 z1 z2 z3 z4:Value}{d:TypeDesc}(h:au w b ty [z0,z1,z2,z3,z4])(hb:Below n w0 w)(hn:n≤b)(hu:P.underlying ty=some d)(hd:d.isRow=true)(hi:(P.info? ty).map (·.size)=some 5)(v0 v1 v2 v3 v4:Value):
  (loadVar ty ⟨b,0,none⟩).run P (((((w.setCell ⟨b,0,none⟩ v0).setCell ⟨b,1,none⟩ v1).setCell ⟨b,2,none⟩ v2).setCell ⟨b,3,none⟩ v3).setCell ⟨b,4,none⟩ v4)= .ok (.agg #[v0,v1,v2,v3,v4]) (((((w.setCell ⟨b,0,none⟩ v0).setCell ⟨b,1,none⟩ v1).setCell ⟨b,2,none⟩ v2).setCell ⟨b,3,none⟩ v3).setCell ⟨b,4,none⟩ v4)∧Below n w0 (((((w.setCell ⟨b,0,none⟩ v0).setCell ⟨b,1,none⟩ v1).setCell ⟨b,2,none⟩ v2).setCell ⟨b,3,none⟩ v3).setCell ⟨b,4,none⟩ v4)∧But b w (((((w.setCell ⟨b,0,none⟩ v0).setCell ⟨b,1,none⟩ v1).setCell ⟨b,2,none⟩ v2).setCell ⟨b,3,none⟩ v3).setCell ⟨b,4,none⟩ v4):=by
 have cR:au (((((w.setCell ⟨b,0,none⟩ v0).setCell ⟨b,1,none⟩ v1).setCell ⟨b,2,none⟩ v2).setCell ⟨b,3,none⟩ v3).setCell ⟨b,4,none⟩ v4) b ty [v0,v1,v2,v3,v4]:=(((((h.set 0 v0).set 1 v1).set 2 v2).set 3 v3).set 4 v4);have bu:=((((ag w b 0 v0).trans (ag _ b 1 v1)).trans (ag _ b 2 v2)).trans (ag _ b 3 v3)).trans (ag _ b 4 v4);exact⟨run_loadVar_mid (P:=P) _ b 0 ty [v0,v1,v2,v3,v4] _ cR.range hu hd hi,bu.below hb hn,bu⟩
theorem afB {w:World}{b:Nat}{ty:TypeId}{z0 z1 z2 z3:Value}(h:au w b ty [z0,z1,z2,z3]):(w.cell? ⟨b,0,none⟩=some z0∧w.cell? ⟨b,1,none⟩=some z1∧w.cell? ⟨b,2,none⟩=some z2∧w.cell? ⟨b,3,none⟩=some z3)∧w.frozen? ⟨b,0,none⟩=false∧w.frozen? ⟨b,1,none⟩=false∧w.frozen? ⟨b,2,none⟩=false∧w.frozen? ⟨b,3,none⟩=false:=
 ⟨⟨h.c 0 rfl,h.c 1 rfl,h.c 2 rfl,h.c 3 rfl⟩,h.f 0,h.f 1,h.f 2,h.f 3⟩
theorem dN {w:World}{b:Nat}{ty:TypeId}{z0 z1 z2 z3 z4:Value}(h:au w b ty [z0,z1,z2,z3,z4]):(w.cell? ⟨b,0,none⟩=some z0∧w.cell? ⟨b,1,none⟩=some z1∧w.cell? ⟨b,2,none⟩=some z2∧w.cell? ⟨b,3,none⟩=some z3∧w.cell? ⟨b,4,none⟩=some z4)∧w.frozen? ⟨b,0,none⟩=false∧w.frozen? ⟨b,1,none⟩=false∧w.frozen? ⟨b,2,none⟩=false∧w.frozen? ⟨b,3,none⟩=false∧w.frozen? ⟨b,4,none⟩=false:=
 ⟨⟨h.c 0 rfl,h.c 1 rfl,h.c 2 rfl,h.c 3 rfl,h.c 4 rfl⟩,h.f 0,h.f 1,h.f 2,h.f 3,h.f 4⟩
theorem kY {w:World}{b:Nat}{ty:TypeId}{vs cs:List Value}(h:au w b ty vs)(o n:Nat)(e:(vs.drop o).take n=cs):w.rangeAt b o cs:=fun j v hj=>by
 subst e;refine h.c (o+j) ?_;rw[List.getElem?_take] at hj
 split at hj
 ·rw[List.getElem?_drop] at hj
  exact hj
 ·cases hj
theorem dZ {w w':World}{b g o:Nat}{cs:List Value}(bu:But b w w')(h:w.rangeAt g o cs)(hg:g≠b):w'.rangeAt g o cs:=fun j v hj=>by rw[bu.c (by exact hg)];exact h j v hj
theorem tk {P:Program}{md:Region.Mode}{ops:Array Oper}{Q:Exit→Act→World→Prop}{S:World→Prop}{oi:Oper}{fuel:Nat}{listed:Array Bool}{a:Act}{w:World}(i:Nat)(v:Value)(hi:ops[i]? =some oi)
  (hb:(Region.noSelect ops&&(Region.free md ops listed i&&((Region.ready md ops listed).contains i&&Region.wanted oi (yielded ops a.tmps))))=true)
  (hQ: ∀c a w,Q (.panic c) (a.put oi.dst v) w→Q (.panic c) a w) (hv: ∀w0,S w0→(execOp a.eval oi).run P w0= .ok (.value v) w0) (hS:S w)
  (h:wpAnyH P md ops Q S fuel (listed.setIfInBounds i true) (a.put oi.dst v) w):wpAnyH P md ops Q S (fuel+1) listed a w:=by
 simp only[Bool.and_eq_true] at hb;exact wpAnyH_take hi hb.1 hb.2.1 hb.2.2.1 hQ (Or.inl ⟨hb.2.2.2,hv⟩) hS h
theorem mu {w:World}{b n:Nat}{ty:TypeId}{v:Value}(h:Rd w .i64 v (Dg.dg 65536 n))(hl:au w b ty (yoL 0 false false yN 0)):wF b v (Dg.dg 65536 n):=
 cq h (Dg.norm_dg _ _ (by omega)) hl (fun x hx n hn=>by simp at hx;rcases hx with rfl|rfl|rfl|rfl|rfl<;>simp;all_goals omega)
theorem SY (c:Int)(g s:Bool)(o:Option Addr)(l k:Nat)(e:Int)(w:World):
  yC 60 #[yoV c g s (.slice o l k) e] w (yR w (.bool (c==3))):=by
 obtain⟨W3,hW4,q1,b2⟩:=cA w (yoL c g s (.slice o l k) e) 76;replace hW4:Hid _:=hW4
 go_enter func60,ntmps60
 go_upto_region 1 with fail
 rw[hW4.out];clear hW4;have c5:=q1.c 0 rfl
 go_wp2
 go_ret
 exact⟨rfl,b2⟩
theorem lF (g s:Bool)(o:Option Addr)(l k:Nat)(e:Int)(w:World):yC 60 #[yoV 3 g s (.slice o l k) e] w (yR w (.bool true)):=SY 3 g s o l k e w
theorem iY (c:Int)(g s:Bool)(o:Option Addr)(l k:Nat)(e:Int)(w:World)(h:(c==3)=false):yC 60 #[yoV c g s (.slice o l k) e] w (yR w (.bool false)):=by
 have:=SY c g s o l k e w;rw[h] at this;exact this
theorem Rz (c:Int)(n wy fam R D L G:Int)(gr:Bool)(x y:ak)(xo yo:Option Addr)(xc yc:Nat)(w:World)
  (HN:yJ 59 #[ykV n wy fam R D L G gr,yi 16] (.tuple #[yoV c false false yN 0,yi 16])):
  yC 31 #[ykV n wy fam R D L G gr,yOV 3 true x xo xc,yOV 3 false y yo yc] w (dU w c false ⟨false,0,0⟩ 16):=by
 replace HN:Hid _:=HN;obtain⟨W6,hW7,q1,q2,q3,q4,b5⟩:=pi w (ykL n wy fam R D L G gr) 69 (yOL 3 true x xo xc) 76 (yOL 3 false y yo yc) 76 (yoL 0 false false yN 0) 76;replace hW7:Hid _:=hW7
 go_enter func31,ntmps31
 go_upto_region 1 with fail
 rw[hW7.out];clear hW7;obtain⟨c8,c9,c10,c11,c12⟩:=q2.cs5
 go_wp2_with fail
 refine(lF _ _ _ _ _ _ _).mono ?_;rintro zz w13 ⟨rfl,bb14⟩;have q15:=q1.l bb14;have q16:=q2.l bb14;have q17:=q3.l bb14;have q18:=q4.l bb14;have b19:=aa b5 bb14;clear q1 q2 q3 q4 b5 bb14 c8 c9 c10 c11 c12;obtain⟨c20,c21,c22,c23,c24⟩:=q17.cs5
 go_wp2_with fail
 refine(lF _ _ _ _ _ _ _).mono ?_;rintro zz w25 ⟨rfl,bb26⟩;have q27:=q15.l bb26;have q28:=q16.l bb26;have q29:=q17.l bb26;have q30:=q18.l bb26;have b31:=aa b19 bb26;clear q15 q16 q17 q18 b19 bb26 c20 c21 c22 c23 c24;obtain⟨c32,c33,c34,c35,c36,c37,c38,c39⟩:=q27.cs8;have c40:=q28.c 1 rfl;have c41:=q29.c 1 rfl
 go_wp2_with fail
 refine(HN.out _).mono ?_;rintro zz w42 ⟨rfl,bb43⟩;have q44:=q30.l bb43;have b45:=aa b31 bb43;clear q27 q28 q29 q30 b31 bb43 HN c32 c33 c34 c35 c36 c37 c38 c39 c40 c41;have hf:=dL (P:=Tryz.prog) q44 b45 (by omega) underlying76 rfl (by kernel_rfl) (yi c) (.bool false) (.bool false) yN (yi 0);have HH:Hid (_∧_):=⟨hf.1,hf.2.1⟩;obtain⟨⟨z0,z1,z2,z3,z4⟩,y0,y1,y2,y3,y4⟩:=dN q44;clear hf q44 b45
 go_wp2
 obtain⟨hl,bR⟩:=HH.out;exact bodyPost_ret (aj results31 rfl rfl hl) rfl ⟨_,rfl,aN _ _,bR⟩
theorem RC (c:Int)(n wy fam R D L G:Int)(gr:Bool)(x y:ak)(xo yo:Option Addr)(xc yc:Nat)(w:World)
  (HN:yJ 59 #[ykV n wy fam R D L G gr,yi 16] (.tuple #[yoV c false false yN 0,yi 16])):
  yC 31 #[ykV n wy fam R D L G gr,yOV 3 false x xo xc,yOV 3 true y yo yc] w (dU w c false ⟨false,0,0⟩ 16):=by
 replace HN:Hid _:=HN;obtain⟨W6,hW7,q1,q2,q3,q4,b5⟩:=pi w (ykL n wy fam R D L G gr) 69 (yOL 3 false x xo xc) 76 (yOL 3 true y yo yc) 76 (yoL 0 false false yN 0) 76;replace hW7:Hid _:=hW7
 go_enter func31,ntmps31
 go_upto_region 1 with fail
 rw[hW7.out];clear hW7;obtain⟨c8,c9,c10,c11,c12⟩:=q2.cs5
 go_wp2_with fail
 refine(lF _ _ _ _ _ _ _).mono ?_;rintro zz w13 ⟨rfl,bb14⟩;have q15:=q1.l bb14;have q16:=q2.l bb14;have q17:=q3.l bb14;have q18:=q4.l bb14;have b19:=aa b5 bb14;clear q1 q2 q3 q4 b5 bb14 c8 c9 c10 c11 c12;obtain⟨c20,c21,c22,c23,c24⟩:=q17.cs5
 go_wp2_with fail
 refine(lF _ _ _ _ _ _ _).mono ?_;rintro zz w25 ⟨rfl,bb26⟩;have q27:=q15.l bb26;have q28:=q16.l bb26;have q29:=q17.l bb26;have q30:=q18.l bb26;have b31:=aa b19 bb26;clear q15 q16 q17 q18 b19 bb26 c20 c21 c22 c23 c24;obtain⟨c32,c33,c34,c35,c36,c37,c38,c39⟩:=q27.cs8;have c40:=q28.c 1 rfl;have c41:=q29.c 1 rfl
 go_wp2_with fail
 refine(HN.out _).mono ?_;rintro zz w42 ⟨rfl,bb43⟩;have q44:=q30.l bb43;have b45:=aa b31 bb43;clear q27 q28 q29 q30 b31 bb43 HN c32 c33 c34 c35 c36 c37 c38 c39 c40 c41;have hf:=dL (P:=Tryz.prog) q44 b45 (by omega) underlying76 rfl (by kernel_rfl) (yi c) (.bool false) (.bool false) yN (yi 0);have HH:Hid (_∧_):=⟨hf.1,hf.2.1⟩;obtain⟨⟨z0,z1,z2,z3,z4⟩,y0,y1,y2,y3,y4⟩:=dN q44;clear hf q44 b45
 go_wp2
 obtain⟨hl,bR⟩:=HH.out;exact bodyPost_ret (aj results31 rfl rfl hl) rfl ⟨_,rfl,aN _ _,bR⟩
theorem S4 (n wy fam R D L G:Int)(gr:Bool)(gx:Bool)(x y:ak)(xo yo:Option Addr)(xc yc:Nat)(w:World)(rx:Rd w .u32 (yT xo x.n xc) (Dg.dg 4294967296 x.n)):
  yC 31 #[ykV n wy fam R D L G gr,yOV 3 gx x xo xc,yOV 3 gx y yo yc] w (dU w 3 gx x 0):=by
 obtain⟨W6,hW7,q1,q2,q3,q4,b5⟩:=pi w (ykL n wy fam R D L G gr) 69 (yOL 3 gx x xo xc) 76 (yOL 3 gx y yo yc) 76 (yoL 0 false false yN 0) 76;replace hW7:Hid _:=hW7;have r8:=rx.l b5;clear q1 rx
 go_enter func31,ntmps31
 go_upto_region 1 with fail
 rw[hW7.out];clear hW7;obtain⟨c9,c10,c11,c12,c13⟩:=q2.cs5
 go_wp2_with fail
 refine(lF _ _ _ _ _ _ _).mono ?_;rintro zz w14 ⟨rfl,bb15⟩;have q16:=q2.l bb15;have q17:=q3.l bb15;have q18:=q4.l bb15;have r19:=r8.l bb15;have b20:=aa b5 bb15;clear q2 q3 q4 r8 b5 bb15 c9 c10 c11 c12 c13;obtain⟨c21,c22,c23,c24,c25⟩:=q17.cs5
 go_wp2_with fail
 refine(lF _ _ _ _ _ _ _).mono ?_;rintro zz w26 ⟨rfl,bb27⟩;have q28:=q16.l bb27;have q29:=q17.l bb27;have q30:=q18.l bb27;have r31:=r19.l bb27;have b32:=aa b20 bb27;clear q16 q17 q18 r19 b20 bb27 c21 c22 c23 c24 c25;obtain⟨c33,c34,c35,c36,c37⟩:=q28.cs5;have c38:=q29.c 1 rfl
 go_wp2_with fail
 refine(lF _ _ _ _ _ _ _).mono ?_;rintro zz w39 ⟨rfl,bb40⟩;have q41:=q28.l bb40;have q42:=q30.l bb40;have r43:=r31.l bb40;have b44:=aa b32 bb40;clear q28 q29 q30 r31 b32 bb40 c33 c34 c35 c36 c37 c38;obtain⟨c45,c46,c47,c48,c49⟩:=q41.cs5;have hf:=dL (P:=Tryz.prog) q42 b44 (by omega) underlying76 rfl (by kernel_rfl) (yi 3) (.bool gx) (.bool x.s) (yT xo x.n xc) (yi x.e);have HH:Hid (_∧_∧_):=⟨hf.1,hf.2.2.rd r43 (aX r43 q42 (by simp)),hf.2.1⟩;obtain⟨⟨z0,z1,z2,z3,z4⟩,y0,y1,y2,y3,y4⟩:=dN q42;clear hf q41 q42 r43 b44
 go_wp2
 obtain⟨hl,rRx,bR⟩:=HH.out;exact bodyPost_ret (aj results31 rfl rfl hl) rfl ⟨_,rfl,rRx,bR⟩
theorem adM (cy:Int)(n wy fam R D L G:Int)(gr:Bool)(gx gy:Bool)(x y:ak)(xo yo:Option Addr)(xc yc:Nat)(w:World)(hy3:(cy==3)=false)(rx:Rd w .u32 (yT xo x.n xc) (Dg.dg 4294967296 x.n)):
  yC 31 #[ykV n wy fam R D L G gr,yOV 3 gx x xo xc,yOV cy gy y yo yc] w (dU w 3 gx x 0):=by
 obtain⟨W6,hW7,q1,q2,q3,q4,b5⟩:=pi w (ykL n wy fam R D L G gr) 69 (yOL 3 gx x xo xc) 76 (yOL cy gy y yo yc) 76 (yoL 0 false false yN 0) 76;replace hW7:Hid _:=hW7;have r8:=rx.l b5;clear q1 rx
 go_enter func31,ntmps31
 go_upto_region 1 with fail
 rw[hW7.out];clear hW7;obtain⟨c9,c10,c11,c12,c13⟩:=q2.cs5
 go_wp2_with fail
 refine(lF _ _ _ _ _ _ _).mono ?_;rintro zz w14 ⟨rfl,bb15⟩;have q16:=q2.l bb15;have q17:=q3.l bb15;have q18:=q4.l bb15;have r19:=r8.l bb15;have b20:=aa b5 bb15;clear q2 q3 q4 r8 b5 bb15 c9 c10 c11 c12 c13;obtain⟨c21,c22,c23,c24,c25⟩:=q17.cs5
 go_wp2_with fail
 refine(iY _ _ _ _ _ _ _ _ hy3).mono ?_;rintro zz w26 ⟨rfl,bb27⟩;have q28:=q16.l bb27;have q29:=q18.l bb27;have r30:=r19.l bb27;have b31:=aa b20 bb27;clear q16 q17 q18 r19 b20 bb27 c21 c22 c23 c24 c25;obtain⟨c32,c33,c34,c35,c36⟩:=q28.cs5
 go_wp2_with fail
 refine(lF _ _ _ _ _ _ _).mono ?_;rintro zz w37 ⟨rfl,bb38⟩;have q39:=q28.l bb38;have q40:=q29.l bb38;have r41:=r30.l bb38;have b42:=aa b31 bb38;clear q28 q29 r30 b31 bb38 c32 c33 c34 c35 c36;obtain⟨c43,c44,c45,c46,c47⟩:=q39.cs5;have hf:=dL (P:=Tryz.prog) q40 b42 (by omega) underlying76 rfl (by kernel_rfl) (yi 3) (.bool gx) (.bool x.s) (yT xo x.n xc) (yi x.e);have HH:Hid (_∧_∧_):=⟨hf.1,hf.2.2.rd r41 (aX r41 q40 (by simp)),hf.2.1⟩;obtain⟨⟨z0,z1,z2,z3,z4⟩,y0,y1,y2,y3,y4⟩:=dN q40;clear hf q39 q40 r41 b42
 go_wp2
 obtain⟨hl,rRx,bR⟩:=HH.out;exact bodyPost_ret (aj results31 rfl rfl hl) rfl ⟨_,rfl,rRx,bR⟩
theorem adN (cx:Int)(n wy fam R D L G:Int)(gr:Bool)(gx gy:Bool)(x y:ak)(xo yo:Option Addr)(xc yc:Nat)(w:World)(hx3:(cx==3)=false)(ry:Rd w .u32 (yT yo y.n yc) (Dg.dg 4294967296 y.n)):
  yC 31 #[ykV n wy fam R D L G gr,yOV cx gx x xo xc,yOV 3 gy y yo yc] w (dU w 3 gy y 0):=by
 obtain⟨W6,hW7,q1,q2,q3,q4,b5⟩:=pi w (ykL n wy fam R D L G gr) 69 (yOL cx gx x xo xc) 76 (yOL 3 gy y yo yc) 76 (yoL 0 false false yN 0) 76;replace hW7:Hid _:=hW7;have r8:=ry.l b5;clear q1 ry
 go_enter func31,ntmps31
 go_upto_region 1 with fail
 rw[hW7.out];clear hW7;obtain⟨c9,c10,c11,c12,c13⟩:=q2.cs5
 go_wp2_with fail
 refine(iY _ _ _ _ _ _ _ _ hx3).mono ?_;rintro zz w14 ⟨rfl,bb15⟩;have q16:=q2.l bb15;have q17:=q3.l bb15;have q18:=q4.l bb15;have r19:=r8.l bb15;have b20:=aa b5 bb15;clear q2 q3 q4 r8 b5 bb15 c9 c10 c11 c12 c13;obtain⟨c21,c22,c23,c24,c25⟩:=q16.cs5
 go_wp2_with fail
 refine(iY _ _ _ _ _ _ _ _ hx3).mono ?_;rintro zz w26 ⟨rfl,bb27⟩;have q28:=q17.l bb27;have q29:=q18.l bb27;have r30:=r19.l bb27;have b31:=aa b20 bb27;clear q16 q17 q18 r19 b20 bb27 c21 c22 c23 c24 c25;obtain⟨c32,c33,c34,c35,c36⟩:=q28.cs5
 go_wp2_with fail
 refine(lF _ _ _ _ _ _ _).mono ?_;rintro zz w37 ⟨rfl,bb38⟩;have q39:=q28.l bb38;have q40:=q29.l bb38;have r41:=r30.l bb38;have b42:=aa b31 bb38;clear q28 q29 r30 b31 bb38 c32 c33 c34 c35 c36;obtain⟨c43,c44,c45,c46,c47⟩:=q39.cs5;have hf:=dL (P:=Tryz.prog) q40 b42 (by omega) underlying76 rfl (by kernel_rfl) (yi 3) (.bool gy) (.bool y.s) (yT yo y.n yc) (yi y.e);have HH:Hid (_∧_∧_):=⟨hf.1,hf.2.2.rd r41 (aX r41 q40 (by simp)),hf.2.1⟩;obtain⟨⟨z0,z1,z2,z3,z4⟩,y0,y1,y2,y3,y4⟩:=dN q40;clear hf q39 q40 r41 b42
 go_wp2
 obtain⟨hl,rRy,bR⟩:=HH.out;exact bodyPost_ret (aj results31 rfl rfl hl) rfl ⟨_,rfl,rRy,bR⟩
end Go.Proofs.YtbdokgamhinajaaGreatDoor

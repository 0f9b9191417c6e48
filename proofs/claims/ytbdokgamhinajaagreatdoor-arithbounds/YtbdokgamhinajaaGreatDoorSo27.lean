/-
  Texts laid together: As2.
-/
import Derived.Test.YtbdokgamhinajaaGreatDoorSo26
set_option maxRecDepth 100000
set_option maxHeartbeats 6400000
namespace Go.Proofs.YtbdokgamhinajaaGreatDoor
open _root_.Go.Proofs.Tryz
open Go.RowKit
def xj (w:World)(c:Int)(g:Bool)(t:ak)(z:Ending)(w':World):Prop:=
 ∃v,z= .returned (yoV c g t.s v t.e)∧Rd w' .u32 v (Dg.dg 4294967296 t.n)∧yB w w'
def dU (w:World)(c:Int)(g:Bool)(t:ak)(fl:Int)(z:Ending)(w':World):Prop:=
 ∃v,z= .returned (.tuple #[yoV c g t.s v t.e,yi fl])∧Rd w' .u32 v (Dg.dg 4294967296 t.n)∧yB w w'
def vI (t:ak):Int:=if t.n=0 then 1 else 2
def xr (t:ak)(ng:Bool):Bool:=if t.n=0 then ng else t.s
def tF (t:ak):ak:=if t.n=0 then⟨false,0,0⟩ else t
theorem mT (t:ak)(ng:Bool)(to0:Option Addr)(tc:Nat)(w:World)(hr:Rd w .u32 (yT to0 t.n tc) (Dg.dg 4294967296 t.n)):
  yC 61 #[yDV t to0 tc,.bool ng] w (xj w (vI t) (xr t ng) (tF t)):=by
 have HS:Hid (yH w 104 #[yDV t to0 tc] (yi (dJ t))):=fun w1 b=>qB _ t w1 ⟨_,rfl,hr.l b⟩
 have ax:=af w (.cells (yDA t to0 tc) 74);have ao:=af (w.alloc (.cells (yDA t to0 tc) 74)) (.cells (yoA 0 false false yN 0) 76);have x0:=(ah w (yDL t to0 tc) 74).l ao;have o0:=ah (w.alloc (.cells (yDA t to0 tc) 74)) (yoL 0 false false yN 0) 76;rw[World.size_alloc] at o0;have b0:=aa ax ao;have r0:=hr.l b0;clear ax ao hr;unfold vI xr tF
 by_cases h0:t.n=0
 ·rw[if_pos h0,if_pos h0,if_pos h0]
  have hs:dJ t=0:=if_pos h0;rw[hs] at HS;clear h0 hs
  go_enter func61,ntmps61
  go_upto_region 1 with fail
  generalize(w.alloc (.cells (yDA t to0 tc) 74)).alloc (.cells (yoA 0 false false yN 0) 76)=W0 at x0 o0 b0 r0⊢;obtain⟨y0,y1,y2⟩:=x0.cs3
  go_wp2_with fail
  refine(HS.out _ b0).mono ?_;rintro z w1 ⟨rfl,b1⟩;have o1:=o0.l b1;have b01:=aa b0 b1;clear y0 y1 y2 x0 o0 b0 b1 HS r0;have cR:au (((((w1.setCell ⟨w.heap.size+1,0,none⟩ (yi 1)).setCell ⟨w.heap.size+1,1,none⟩ (.bool ng)).setCell ⟨w.heap.size+1,2,none⟩ (.bool false)).setCell ⟨w.heap.size+1,3,none⟩ yN).setCell ⟨w.heap.size+1,4,none⟩ (yi 0)) (w.heap.size+1) 76 (yoL 1 ng false yN 0):=(((((o1.set 0 (yi 1)).set 1 (.bool ng)).set 2 (.bool false)).set 3 yN).set 4 (yi 0));have bu:=((((ag w1 (w.heap.size+1) 0 (yi 1)).trans (ag _ (w.heap.size+1) 1 (.bool ng))).trans (ag _ (w.heap.size+1) 2 (.bool false))).trans (ag _ (w.heap.size+1) 3 yN)).trans (ag _ (w.heap.size+1) 4 (yi 0));have bR:=bu.below b01 (by omega);have hl:=run_loadVar_mid (P:=Tryz.prog) _ (w.heap.size+1) 0 76 (yoL 1 ng false yN 0) _ cR.range underlying76 rfl (by kernel_rfl);have HH:Hid (_∧_):=⟨hl,bR⟩;obtain⟨z0,z1,z2,z3,z4⟩:=o1.cs5;have fz0:=o1.f 0;have fz1:=o1.f 1;have fz2:=o1.f 2;have fz3:=o1.f 3;have fz4:=o1.f 4;clear hl bR bu cR;clear o1 b01
  go_wp2
  obtain⟨hl,bR⟩:=HH.out;exact bodyPost_ret (br results61 rfl hl) rfl ⟨_,rfl,aN _ _,bR⟩
 ·rw[if_neg h0,if_neg h0,if_neg h0]
  obtain⟨sg,hs⟩: ∃s,dJ t=s:=⟨_,rfl⟩;have hs1:(sg==0)=false:=by
   rw[←hs];unfold dJ;rw[if_neg h0]
   cases t.s<;>rfl
  rw[hs] at HS;clear h0 hs
  go_enter func61,ntmps61
  go_upto_region 1 with fail
  generalize(w.alloc (.cells (yDA t to0 tc) 74)).alloc (.cells (yoA 0 false false yN 0) 76)=W0 at x0 o0 b0 r0⊢;obtain⟨y0,y1,y2⟩:=x0.cs3
  go_wp2_with fail
  refine(HS.out _ b0).mono ?_;rintro z w1 ⟨rfl,b1⟩;have o1:=o0.l b1;have x1:=x0.l b1;have r1:=r0.l b1;have b01:=aa b0 b1;clear y0 y1 y2 x0 o0 b0 b1 HS r0;obtain⟨y0,y1,y2⟩:=x1.cs3;have cR:au (((((w1.setCell ⟨w.heap.size+1,0,none⟩ (yi 2)).setCell ⟨w.heap.size+1,1,none⟩ (.bool t.s)).setCell ⟨w.heap.size+1,2,none⟩ (.bool t.s)).setCell ⟨w.heap.size+1,3,none⟩ (yT to0 t.n tc)).setCell ⟨w.heap.size+1,4,none⟩ (yi t.e)) (w.heap.size+1) 76 (yOL 2 t.s t to0 tc):=(((((o1.set 0 (yi 2)).set 1 (.bool t.s)).set 2 (.bool t.s)).set 3 (yT to0 t.n tc)).set 4 (yi t.e));have bu:=((((ag w1 (w.heap.size+1) 0 (yi 2)).trans (ag _ (w.heap.size+1) 1 (.bool t.s))).trans (ag _ (w.heap.size+1) 2 (.bool t.s))).trans (ag _ (w.heap.size+1) 3 (yT to0 t.n tc))).trans (ag _ (w.heap.size+1) 4 (yi t.e));have bR:=bu.below b01 (by omega);have rR:=bu.rd r1 (aX r1 o1 (by simp));have hl:=run_loadVar_mid (P:=Tryz.prog) _ (w.heap.size+1) 0 76 (yOL 2 t.s t to0 tc) _ cR.range underlying76 rfl (by kernel_rfl);have HH:Hid (_∧_∧_):=⟨hl,rR,bR⟩;obtain⟨z0,z1,z2,z3,z4⟩:=o1.cs5;have fz0:=o1.f 0;have fz1:=o1.f 1;have fz2:=o1.f 2;have fz3:=o1.f 3;have fz4:=o1.f 4;clear hl bR bu cR rR;clear o1 b01 x1 r1
  go_wp2
  obtain⟨hl,rR,bR⟩:=HH.out;exact bodyPost_ret (br results61 rfl hl) rfl ⟨_,rfl,rR,bR⟩
theorem Ng (n wy fam R D L G cx cy:Int)(gr gx gy:Bool)(x y:ak)(xo yo:Option Addr)(xc yc:Nat)(sg:Bool)(w:World)(hsg:sg=if gx=gy then gx else decide (wy=5))(hx:(cx==3)=false)(hy:(cy==3)=false)
  (HP: ∀w1,yB w w1→yC 62 #[yDV x xo xc,yDV y yo yc] w1 (jN w1 (aG x y))):
  yC 31 #[ykV n wy fam R D L G gr,yOV cx gx x xo xc,yOV cy gy y yo yc] w (dU w (vI (aG x y)) (xr (aG x y) sg) (tF (aG x y)) 0):=by
 replace HP:Hid _:=HP;have HSg:Hid (sg=if gx=gy then gx else decide (wy=5)):=hsg
 clear hsg;have HX:Hid (yJ 60 #[yOV cx gx x xo xc] (.bool (cx==3))):=fun w1=>iz _ _ _ _ _ _ _ w1
 have HY:Hid (yJ 60 #[yOV cy gy y yo yc] (.bool (cy==3))):=fun w1=>iz _ _ _ _ _ _ _ w1
 have HN:Hid (∀to0 tc ng w1,Rd w1 .u32 (.slice to0 (Dg.dg 4294967296 (aG x y).n).length tc) (Dg.dg 4294967296 (aG x y).n)→yC 61 #[.agg #[.bool (aG x y).s,.slice to0 (Dg.dg 4294967296 (aG x y).n).length tc,yi (aG x y).e],.bool ng] w1 (xj w1 (vI (aG x y)) (xr (aG x y) ng) (tF (aG x y)))):=fun to0 tc ng w1 h=>mT (aG x y) ng to0 tc w1 h
 rw[hx] at HX;rw[hy] at HY;have a1:=af w (.cells (ykA n wy fam R D L G gr) 69);have a2:=af (w.alloc (.cells (ykA n wy fam R D L G gr) 69)) (.cells (yOA cx gx x xo xc) 76);have a3:=af ((w.alloc (.cells (ykA n wy fam R D L G gr) 69)).alloc (.cells (yOA cx gx x xo xc) 76)) (.cells (yOA cy gy y yo yc) 76);have a4:=af (((w.alloc (.cells (ykA n wy fam R D L G gr) 69)).alloc (.cells (yOA cx gx x xo xc) 76)).alloc (.cells (yOA cy gy y yo yc) 76)) (.cells (yoA 0 false false yN 0) 76);have d0:=(((ah w (ykL n wy fam R D L G gr) 69).l a2).l a3).l a4;have x0:=((ah (w.alloc (.cells (ykA n wy fam R D L G gr) 69)) (yOL cx gx x xo xc) 76).l a3).l a4;have y0:=(ah ((w.alloc (.cells (ykA n wy fam R D L G gr) 69)).alloc (.cells (yOA cx gx x xo xc) 76)) (yOL cy gy y yo yc) 76).l a4;have o0:=ah (((w.alloc (.cells (ykA n wy fam R D L G gr) 69)).alloc (.cells (yOA cx gx x xo xc) 76)).alloc (.cells (yOA cy gy y yo yc) 76)) (yoL 0 false false yN 0) 76;rw[World.size_alloc] at x0;rw[World.size_alloc,World.size_alloc] at y0;rw[World.size_alloc,World.size_alloc,World.size_alloc] at o0;have b0:=aa (aa (aa a1 a2) a3) a4;clear a1 a2 a3 a4 hx hy;obtain⟨t,ht⟩: ∃t,aG x y=t:=⟨_,rfl⟩;rw[ht] at HP HN⊢;clear ht
 go_enter func31,ntmps31
 go_upto_block 0 with fail
 generalize(((w.alloc (.cells (ykA n wy fam R D L G gr) 69)).alloc (.cells (yOA cx gx x xo xc) 76)).alloc (.cells (yOA cy gy y yo yc) 76)).alloc (.cells (yoA 0 false false yN 0) 76)=W0 at d0 x0 y0 o0 b0⊢;obtain⟨u0,u1,u2,u3,u4⟩:=x0.cs5
 go_wp2_with fail
 refine(HX.out _).mono ?_;rintro z w1 ⟨rfl,b1⟩;have d1:=d0.l b1;have x1:=x0.l b1;have y1:=y0.l b1;have o1:=o0.l b1;have b01:=aa b0 b1;clear d0 x0 y0 o0 b0 b1 u0 u1 u2 u3 u4;obtain⟨u0,u1,u2,u3,u4⟩:=x1.cs5;obtain⟨v0,v1,v2,v3,v4⟩:=y1.cs5
 go_wp2_with fail
 refine(HX.out _).mono ?_;rintro z w2 ⟨rfl,b2⟩;have d2:=d1.l b2;have x2:=x1.l b2;have y2:=y1.l b2;have o2:=o1.l b2;have b02:=aa b01 b2;clear d1 x1 y1 o1 b01 b2 u0 u1 u2 u3 u4 v0 v1 v2 v3 v4;obtain⟨v0,v1,v2,v3,v4⟩:=y2.cs5
 go_wp2_with fail
 refine(HY.out _).mono ?_;rintro z w3 ⟨rfl,b3⟩;have d3:=d2.l b3;have x3:=x2.l b3;have y3:=y2.l b3;have o3:=o2.l b3;have b03:=aa b02 b3;clear d2 x2 y2 o2 b02 b3 v0 v1 v2 v3 v4 HX HY
 go_upto_region 7 with fail
 obtain⟨u0,u1,u2,u3,u4⟩:=x3.cs5;obtain⟨v0,v1,v2,v3,v4⟩:=y3.cs5;have q1:=d3.c 1 rfl;have HNs:Hid (∀to0 tc w1,Rd w1 .u32 (yT to0 t.n tc) (Dg.dg 4294967296 t.n)→yC 61 #[yDV t to0 tc,.bool sg] w1 (xj w1 (vI t) (xr t sg) (tF t))):=fun to0 tc w1 h=>HN.out to0 tc sg w1 h
 obtain⟨c,hcE⟩: ∃c,vI t=c:=⟨_,rfl⟩;obtain⟨g,hgE⟩: ∃c,xr t sg=c:=⟨_,rfl⟩;obtain⟨tt,htE⟩: ∃c,tF t=c:=⟨_,rfl⟩;rw[hcE,hgE,htE] at HNs;have HE:Hid (vI t=c∧xr t sg=g∧tF t=tt):=⟨hcE,hgE,htE⟩;clear hcE hgE htE HN
 by_cases hg:gx=gy
 ·have h1:=HSg.out
  rw[if_pos hg] at h1;subst hg;rw[h1] at HNs;clear HSg h1
  go_wp2_with fail
  refine(HP.out _ b03).mono ?_;rintro z w4 ⟨p4,rfl,o4,b4⟩;obtain⟨po,pc,hv⟩:=o4.rd.shape;subst hv;have r4:=o4.rd;have o5:=o3.l b4;have b04:=aa b03 b4;clear u0 u1 u2 u3 u4 v0 v1 v2 v3 v4 q1 d3 x3 y3 o3 b03 b4 o4 HP
  go_wp2_with fail
  refine(HNs.out _ _ _ r4).mono ?_;rintro z w6 ⟨p6,rfl,r6,b6⟩;obtain⟨ro,rc,hv⟩:=r6.shape;subst hv;have o6:=o5.l b6;have b06:=aa b04 b6;clear o5 b04 b6 r4 HNs;have cR:au (((((w6.setCell ⟨w.heap.size+1+1+1,0,none⟩ (yi c)).setCell ⟨w.heap.size+1+1+1,1,none⟩ (.bool g)).setCell ⟨w.heap.size+1+1+1,2,none⟩ (.bool tt.s)).setCell ⟨w.heap.size+1+1+1,3,none⟩ (yT ro tt.n rc)).setCell ⟨w.heap.size+1+1+1,4,none⟩ (yi tt.e)) (w.heap.size+1+1+1) 76 (yOL c g tt ro rc):=(((((o6.set 0 (yi c)).set 1 (.bool g)).set 2 (.bool tt.s)).set 3 (yT ro tt.n rc)).set 4 (yi tt.e));have bu:=((((ag w6 (w.heap.size+1+1+1) 0 (yi c)).trans (ag _ (w.heap.size+1+1+1) 1 (.bool g))).trans (ag _ (w.heap.size+1+1+1) 2 (.bool tt.s))).trans (ag _ (w.heap.size+1+1+1) 3 (yT ro tt.n rc))).trans (ag _ (w.heap.size+1+1+1) 4 (yi tt.e));have bR:=bu.below b06 (by omega);have rR:=bu.rd r6 (aX r6 o6 (by simp));have hl:=run_loadVar_mid (P:=Tryz.prog) _ (w.heap.size+1+1+1) 0 76 (yOL c g tt ro rc) _ cR.range underlying76 rfl (by kernel_rfl);have HH:Hid (_∧_∧_):=⟨hl,rR,bR⟩;obtain⟨z0,z1,z2,z3,z4⟩:=o6.cs5;have fz0:=o6.f 0;have fz1:=o6.f 1;have fz2:=o6.f 2;have fz3:=o6.f 3;have fz4:=o6.f 4;clear hl bR bu cR rR;clear o6 b06 r6
  go_wp2
  obtain⟨hl,rR,bR⟩:=HH.out;obtain⟨e1,e2,e3⟩:=HE.out;rw[e1,e2,e3];exact bodyPost_ret (aj results31 rfl rfl hl) rfl ⟨_,rfl,rR,bR⟩
 ·have h1:=HSg.out
  rw[if_neg hg] at h1;have hgn:gx= !gy:=by cases gx<;>cases gy<;>simp_all
  subst hgn
  by_cases h5:wy=5
  ·subst h5
   rw[decide_eq_true rfl] at h1;rw[h1] at HNs;clear HSg hg h1
   cases gy
   all_goals
    go_wp2_with fail
    refine(HP.out _ b03).mono ?_;rintro z w4 ⟨p4,rfl,o4,b4⟩;obtain⟨po,pc,hv⟩:=o4.rd.shape;subst hv;have r4:=o4.rd;have o5:=o3.l b4;have b04:=aa b03 b4;clear u0 u1 u2 u3 u4 v0 v1 v2 v3 v4 q1 d3 x3 y3 o3 b03 b4 o4 HP
    go_wp2_with fail
    refine(HNs.out _ _ _ r4).mono ?_;rintro z w6 ⟨p6,rfl,r6,b6⟩;obtain⟨ro,rc,hv⟩:=r6.shape;subst hv;have o6:=o5.l b6;have b06:=aa b04 b6;clear o5 b04 b6 r4 HNs;have cR:au (((((w6.setCell ⟨w.heap.size+1+1+1,0,none⟩ (yi c)).setCell ⟨w.heap.size+1+1+1,1,none⟩ (.bool g)).setCell ⟨w.heap.size+1+1+1,2,none⟩ (.bool tt.s)).setCell ⟨w.heap.size+1+1+1,3,none⟩ (yT ro tt.n rc)).setCell ⟨w.heap.size+1+1+1,4,none⟩ (yi tt.e)) (w.heap.size+1+1+1) 76 (yOL c g tt ro rc):=(((((o6.set 0 (yi c)).set 1 (.bool g)).set 2 (.bool tt.s)).set 3 (yT ro tt.n rc)).set 4 (yi tt.e));have bu:=((((ag w6 (w.heap.size+1+1+1) 0 (yi c)).trans (ag _ (w.heap.size+1+1+1) 1 (.bool g))).trans (ag _ (w.heap.size+1+1+1) 2 (.bool tt.s))).trans (ag _ (w.heap.size+1+1+1) 3 (yT ro tt.n rc))).trans (ag _ (w.heap.size+1+1+1) 4 (yi tt.e));have bR:=bu.below b06 (by omega);have rR:=bu.rd r6 (aX r6 o6 (by simp));have hl:=run_loadVar_mid (P:=Tryz.prog) _ (w.heap.size+1+1+1) 0 76 (yOL c g tt ro rc) _ cR.range underlying76 rfl (by kernel_rfl);have HH:Hid (_∧_∧_):=⟨hl,rR,bR⟩;obtain⟨z0,z1,z2,z3,z4⟩:=o6.cs5;have fz0:=o6.f 0;have fz1:=o6.f 1;have fz2:=o6.f 2;have fz3:=o6.f 3;have fz4:=o6.f 4;clear hl bR bu cR rR;clear o6 b06 r6
    go_wp2
    obtain⟨hl,rR,bR⟩:=HH.out;obtain⟨e1,e2,e3⟩:=HE.out;rw[e1,e2,e3];exact bodyPost_ret (aj results31 rfl rfl hl) rfl ⟨_,rfl,rR,bR⟩
  ·rw[decide_eq_false h5] at h1
   have h5b:(wy==5)=false:=by simpa using h5
   rw[h1] at HNs;clear HSg hg h1 h5
   cases gy
   all_goals
    go_wp2_with fail
    refine(HP.out _ b03).mono ?_;rintro z w4 ⟨p4,rfl,o4,b4⟩;obtain⟨po,pc,hv⟩:=o4.rd.shape;subst hv;have r4:=o4.rd;have o5:=o3.l b4;have b04:=aa b03 b4;clear u0 u1 u2 u3 u4 v0 v1 v2 v3 v4 q1 d3 x3 y3 o3 b03 b4 o4 HP
    go_wp2_with fail
    refine(HNs.out _ _ _ r4).mono ?_;rintro z w6 ⟨p6,rfl,r6,b6⟩;obtain⟨ro,rc,hv⟩:=r6.shape;subst hv;have o6:=o5.l b6;have b06:=aa b04 b6;clear o5 b04 b6 r4 HNs;have cR:au (((((w6.setCell ⟨w.heap.size+1+1+1,0,none⟩ (yi c)).setCell ⟨w.heap.size+1+1+1,1,none⟩ (.bool g)).setCell ⟨w.heap.size+1+1+1,2,none⟩ (.bool tt.s)).setCell ⟨w.heap.size+1+1+1,3,none⟩ (yT ro tt.n rc)).setCell ⟨w.heap.size+1+1+1,4,none⟩ (yi tt.e)) (w.heap.size+1+1+1) 76 (yOL c g tt ro rc):=(((((o6.set 0 (yi c)).set 1 (.bool g)).set 2 (.bool tt.s)).set 3 (yT ro tt.n rc)).set 4 (yi tt.e));have bu:=((((ag w6 (w.heap.size+1+1+1) 0 (yi c)).trans (ag _ (w.heap.size+1+1+1) 1 (.bool g))).trans (ag _ (w.heap.size+1+1+1) 2 (.bool tt.s))).trans (ag _ (w.heap.size+1+1+1) 3 (yT ro tt.n rc))).trans (ag _ (w.heap.size+1+1+1) 4 (yi tt.e));have bR:=bu.below b06 (by omega);have rR:=bu.rd r6 (aX r6 o6 (by simp));have hl:=run_loadVar_mid (P:=Tryz.prog) _ (w.heap.size+1+1+1) 0 76 (yOL c g tt ro rc) _ cR.range underlying76 rfl (by kernel_rfl);have HH:Hid (_∧_∧_):=⟨hl,rR,bR⟩;obtain⟨z0,z1,z2,z3,z4⟩:=o6.cs5;have fz0:=o6.f 0;have fz1:=o6.f 1;have fz2:=o6.f 2;have fz3:=o6.f 3;have fz4:=o6.f 4;clear hl bR bu cR rR;clear o6 b06 r6
    go_wp2
    obtain⟨hl,rR,bR⟩:=HH.out;obtain⟨e1,e2,e3⟩:=HE.out;rw[e1,e2,e3];exact bodyPost_ret (aj results31 rfl rfl hl) rfl ⟨_,rfl,rR,bR⟩
end Go.Proofs.YtbdokgamhinajaaGreatDoor

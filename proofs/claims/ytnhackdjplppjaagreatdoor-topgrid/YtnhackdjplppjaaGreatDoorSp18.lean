/-
  Texts laid together: Gh2, Gh3, Gh4, Gh5, Gn1, Gn2.
-/
import Derived.Test.YtnhackdjplppjaaGreatDoorSp17
set_option maxRecDepth 100000
namespace Go.Proofs.YtnhackdjplppjaaGreatDoor
open Go.RowKit
def findD (R D L:Int) (gr:Bool) (n:Nat) (e:Int):Nat:=shN n (e-(widthN R:Int)*spotK R D L gr n e)
def fD (R D L G:Int) (gr:Bool) (n:Nat) (e:Int):Nat:=if n=0 then 0 else if heldB R D L G gr n e=true then findD R D L gr n e else 0
def fK (R D L G:Int) (gr:Bool) (n:Nat) (e:Int):Int:=if n=0 then L else if heldB R D L G gr n e=true then spotK R D L gr n e else 0
theorem spotK_range {R D L G:Int} {gr:Bool} {n:Nat} {e:Int} (hg:gridC R D L G=0) (hb:bitLen n≤40000) (e1: -100000≤e) (e2:e≤100000):
  -341000≤spotK R D L gr n e∧spotK R D L gr n e≤341000∧ -341000≤(widthN R:Int)*spotK R D L gr n e∧(widthN R:Int)*spotK R D L gr n e≤341000:=by
 obtain⟨hR,d1,d2,l1,l2,-,-,-,-⟩:=gridC_zero hg;have hp:=powerR_range (R:=R) (D:=D) (t:=(bitLen n:Int)-1+e) d1 d2 (by omega) (by omega);unfold spotK
 split
 ·unfold widthN
  split<;>simp<;>omega
 ·exact hp
theorem held_iff {R D L G:Int} {gr:Bool} {n:Nat} {e:Int} (h0:n≠0):heldB R D L G gr n e=true↔L≤spotK R D L gr n e∧spotK R D L gr n e≤G∧(widthN R:Int)*spotK R D L gr n e≤e+(tz n:Int):=by
 unfold heldB;rw[decide_eq_true_iff]
 constructor
 ·rintro(h|h)
  ·exact absurd h h0
  ·exact h
 ·exact .inr
set_option maxHeartbeats 1600000 in
theorem mfind_any (R D L G:Int) (gr s:Bool) (ao:Option Addr) (ca n:Nat) (e:Int) (w:World) (hg:gridC R D L G=0) (hr:Rd w .u32 (.slice ao (Dg.dg 4294967296 n).length ca) (Dg.dg 4294967296 n)) (hl:(Dg.dg 4294967296 n).length≤1200) (e1: -20000≤e) (e2:e≤20000) (hT:Tab w):
  Calls Tryz.prog 163 #[ygV R D L G gr,ydV s (.slice ao (Dg.dg 4294967296 n).length ca) e] w (FindRes w (heldB R D L G gr n e) (fD R D L G gr n e) (fK R D L G gr n e)):=by
 have hdv:Dv w (ydV s (.slice ao (Dg.dg 4294967296 n).length ca) e) ⟨s,n,e⟩:=⟨_,rfl,hr⟩;obtain⟨hR,d1,d2,l1,l2,g1,g2,lg,l16⟩:=gridC_zero hg
 by_cases h0:n=0
 ·have hh:heldB R D L G gr n e=true:=decide_eq_true (.inl h0)
  rw[hh,show fD R D L G gr n e=0 from if_pos h0,show fK R D L G gr n e=L from if_pos h0]
  refine mfind_zero R D L G gr s ao _ ca e w (fun w1 b=> ?_)
  have:=dsign_any _ _ w1 (hdv.later b)
  rwa [show signT ⟨s,n,e⟩=0 from if_pos h0] at this
 ·have hbn:bitLen n≤32*1200:=bitLen_lenG hl
  have htz:=tz_fits n 1200 hl;obtain⟨k1,k2,k3,k4⟩:=spotK_range (gr:=gr) (n:=n) (e:=e) hg (by omega) (by omega) (by omega);have hbe:(bare ⟨s,n,e⟩).e=e+(tz n:Int):=(bare_top (t:=⟨s,n,e⟩) h0).2.1;obtain⟨⟨bs,bn,be⟩,hbt⟩: ∃b,bare ⟨s,n,e⟩=b:=⟨_,rfl⟩;rw[hbt] at hbe;simp only at hbe;have hi:=held_iff (R:=R) (D:=D) (L:=L) (G:=G) (gr:=gr) (e:=e) h0;refine mfindW R D L G gr s ao _ ca e (signT ⟨s,n,e⟩) (bitLen n) (powerR R D ((bitLen n:Int)-1+e)) (spotK R D L gr n e) (widthN R) bs bn be (decide (powerR R D ((bitLen n:Int)-1+e)<L)) (decide (powerR R D ((bitLen n:Int)-1+e)<L)&&gr) (heldB R D L G gr n e) (fD R D L G gr n e) (fK R D L G gr n e) w ?_ ?_ ?_ ?_ ?_ rfl rfl ?_ ?_ ?_ ?_ ?_ ?_ ?_ ?_ ?_ ?_ ?_ ?_ ?_
  ·have:signT ⟨s,n,e⟩≠0:=by
    unfold signT;rw[if_neg h0]
    split<;>decide
   simpa using this
  ·exact IntWalk.i64_in _ ⟨by omega,by omega⟩
  ·exact IntWalk.i64_in _ ⟨by omega,by omega⟩
  ·exact IntWalk.i64_in _ ⟨by omega,by omega⟩
  ·exact IntWalk.i64_in _ ⟨by omega,by omega⟩
  ·intro h
   exact if_pos h
  ·intro h
   exact if_neg (by rw[h];decide)
  ·intro h
   have:=hi.1 h;omega
  ·intro h
   have: ¬(L≤spotK R D L gr n e∧spotK R D L gr n e≤G∧(widthN R:Int)*spotK R D L gr n e≤e+(tz n:Int)):=fun c=>by
    rw[hi.2 c] at h
    cases h
   omega
  ·intro h
   exact(if_neg h0).trans (if_pos h)
  ·intro h
   have h2: ¬heldB R D L G gr n e=true:=by rw[h];decide
   exact⟨(if_neg h0).trans (if_neg h2),(if_neg h0).trans (if_neg h2)⟩
  ·intro w1 b
   exact dsign_any _ _ w1 (hdv.later b)
  ·intro w1
   exact digits_any s ao _ ca e w1
  ·intro w1 b
   have:=bits_any _ _ w1 (hr.later b) (Dg.small_dg _ _ (by omega)) (Dg.norm_dg _ _ (by omega)) (by omega);rw[Dg.vl_dg _ _ (by omega)] at this;refine this.mono ?_;rintro z w' ⟨rfl,rfl⟩;exact⟨rfl,Below.refl _ _⟩
  ·intro w1
   exact gpower_any R D L G gr _ w1 d1 d2 (by omega) (by omega)
  ·intro w1
   have:=width_any R D L G gr w1
   rwa [widthR_nat] at this
  ·intro w1 b
   have:=dbare_any _ ⟨s,n,e⟩ w1 (hdv.later b) (by simp only;omega) ⟨by simp only;omega,by simp only;omega⟩ (hT.later b) (by simp only;omega)
   rwa [hbt] at this
  ·intro h w1 b
   have:=shifted_any _ _ (e-(widthN R:Int)*spotK R D L gr n e) w1 (hr.later b) (Dg.small_dg _ _ (by omega)) (by omega) (by omega) (by omega);rw[Dg.vl_dg _ _ (by omega)] at this;rw[show fD R D L G gr n e=shN n (e-(widthN R:Int)*spotK R D L gr n e) from(if_neg h0).trans (if_pos h)]
   exact this
end Go.Proofs.YtnhackdjplppjaaGreatDoor
namespace Go.Proofs.YtnhackdjplppjaaGreatDoor
open Go.RowKit
def FindAns (w:World) (h:Bool) (d:Nat) (k c:Int) (e:Ending) (w':World):Prop:=
 ∃u,e= .returned (.tuple #[.agg #[u,yi k],.bool h,yi c])∧Own w' w.heap.size 141 .u32 u (Dg.dg 4294967296 d)∧Below w.heap.size w w'
def FindS (w:World) (s9 s10:Value) (hd:Bool) (rd:Nat) (rk:Int) (wx:World):Prop:=
 ∃pb so sc,s9= .pointer (some ⟨pb,0,none⟩)∧s10= .bool hd∧w.heap.size+1+1≠pb∧w.heap.size≤pb∧LocE wx pb 163 [.slice so (Dg.dg 4294967296 rd).length sc,yi rk]∧Own wx w.heap.size 141 .u32 (.slice so (Dg.dg 4294967296 rd).length sc) (Dg.dg 4294967296 rd)∧LocE wx (w.heap.size+1+1) 163 [.slice none 0 0,yi 0]∧Below w.heap.size w wx
theorem findS_new {w wb:World} {hd:Bool} {rd:Nat} {rk:Int} {so:Option Addr} {sc:Nat} (hc:LocE wb (w.heap.size+1+1) 163 [.slice none 0 0,yi 0]) (ho:Own wb w.heap.size 141 .u32 (.slice so (Dg.dg 4294967296 rd).length sc) (Dg.dg 4294967296 rd)) (hb:Below w.heap.size w wb):
  FindS w (.pointer (some ⟨wb.heap.size,0,none⟩)) (.bool hd) hd rd rk (wb.alloc (.cells #[.slice so (Dg.dg 4294967296 rd).length sc,yi rk] 163)):=by
 have ba:=below_alloc wb (.cells #[.slice so (Dg.dg 4294967296 rd).length sc,yi rk] 163);have:=hc.lt;exact⟨_,so,sc,rfl,rfl,by omega,by omega,locE_new wb [.slice so (Dg.dg 4294967296 rd).length sc,yi rk] 163,ho.later ba,hc.later ba,below_trans hb ba⟩
theorem findS_set {w wb:World} {hd:Bool} {rd:Nat} {rk:Int} {so:Option Addr} {sc nb:Nat} (hc:LocE wb (w.heap.size+1+1) 163 [.slice none 0 0,yi 0]) (hn:LocE wb nb 163 [.slice none 0 0,yi 0]) (ho:Own wb w.heap.size 141 .u32 (.slice so (Dg.dg 4294967296 rd).length sc) (Dg.dg 4294967296 rd)) (hb:Below w.heap.size w wb) (h1:w.heap.size+1+1≠nb) (h2:w.heap.size≤nb):
  FindS w (.pointer (some ⟨nb,0,none⟩)) (.bool hd) hd rd rk ((wb.setCell ⟨nb,0,none⟩ (.slice so (Dg.dg 4294967296 rd).length sc)).setCell ⟨nb,1,none⟩ (yi rk)):=by
 have bu:=(but_set wb nb 0 (.slice so (Dg.dg 4294967296 rd).length sc)).trans (but_set _ nb 1 (yi rk));exact⟨nb,so,sc,rfl,rfl,h1,h2,(hn.set 0 _).set 1 _,bu.own ho hn (by decide),bu.loc hc h1,bu.below hb h2⟩
set_option maxHeartbeats 3200000 in
theorem gfindW (R D L G:Int) (gr s:Bool) (ao:Option Addr) (la ca:Nat) (e dc gc c:Int) (hd:Bool) (rd:Nat) (rk:Int) (w:World)
  (HA: ¬dc=0→hd=false∧rd=0∧rk=0∧c=dc) (HB:dc=0→ ¬gc=0→hd=false∧rd=0∧rk=0∧c=gc) (HC:dc=0→gc=0→c=0)
  (HD: ∀w1,Below w.heap.size w w1→Calls Tryz.prog 162 #[ydV s (.slice ao la ca) e] w1 fun z w'=>z= .returned (yi dc)∧Below w1.heap.size w1 w')
  (HG: ∀w1,Calls Tryz.prog 102 #[ygV R D L G gr] w1 fun z w'=>z= .returned (yi gc)∧Below w1.heap.size w1 w')
  (HO: ∀w1,Calls Tryz.prog 138 #[ydV s (.slice ao la ca) e] w1 fun z w'=>z= .returned (ydV s (.slice ao la ca) e)∧Below w1.heap.size w1 w')
  (HF:dc=0→gc=0→ ∀w1,Below w.heap.size w w1→Calls Tryz.prog 163 #[ygV R D L G gr,ydV s (.slice ao la ca) e] w1 (FindRes w1 hd rd rk)):
  Calls Tryz.prog 106 #[ydV s (.slice ao la ca) e,ygV R D L G gr] w (FindAns w hd rd rk c):=by
 replace HA:Hid _:=HA;replace HB:Hid _:=HB;replace HC:Hid _:=HC;replace HD:Hid _:=HD;replace HG:Hid _:=HG;replace HO:Hid _:=HO;replace HF:Hid _:=HF;have b1:=below_trans (below_trans (below_alloc w (.cells (ydL s (.slice ao la ca) e).toArray 82)) (below_alloc _ (.cells (ygL R D L G gr).toArray 56))) (below_alloc _ (.cells #[.slice none 0 0,yi 0] 163));have q1:=((locE_new w (ydL s (.slice ao la ca) e) 82).later (below_alloc _ (.cells (ygL R D L G gr).toArray 56))).later (below_alloc _ (.cells #[.slice none 0 0,yi 0] 163));have g1:=(locE_new (w.alloc (.cells (ydL s (.slice ao la ca) e).toArray 82)) (ygL R D L G gr) 56).later (below_alloc _ (.cells #[.slice none 0 0,yi 0] 163));have c1:=locE_new ((w.alloc (.cells (ydL s (.slice ao la ca) e).toArray 82)).alloc (.cells (ygL R D L G gr).toArray 56)) [.slice none 0 0,yi 0] 163;simp only[World.size_alloc] at g1 c1
 by_cases hdc:dc=0
 ·have HB1:Hid _:=HB.out hdc
  have HC1:Hid _:=HC.out hdc;have HF1:Hid _:=HF.out hdc;clear HA HB HC HF;subst hdc
  by_cases hgc:gc=0
  ·have hc:=HC1.out hgc
   have HF2:Hid _:=HF1.out hgc;clear HB1 HC1 HF1;subst hgc hc;obtain⟨y0,y1,y2⟩:=q1.cs3
   go_enter Tryz.func106,Tryz.ntmps106
   go_wp2_with fail
   refine(HD.out _ b1).mono ?_;rintro z w2 ⟨rfl,bb2⟩;clear y0 y1 y2;have g_2:=g1.later bb2;have q_2:=q1.later bb2;have c_2:=c1.later bb2;have b0_2:=below_trans b1 bb2;clear g1 q1 c1 b1 bb2;obtain⟨x0,x1,x2,x3,x4⟩:=g_2.cs5
   go_wp2_with fail
   refine(HG.out _).mono ?_;rintro z w3 ⟨rfl,bb3⟩;have g_3:=g_2.later bb3;have q_3:=q_2.later bb3;have c_3:=c_2.later bb3;have b0_3:=below_trans b0_2 bb3;clear g_2 q_2 c_2 b0_2 bb3;clear x0 x1 x2 x3 x4;have hR3:w.heap.size+1+1<w3.heap.size:=c_3.lt;have be:Below w3.heap.size w3 (w3.alloc (.cells #[.slice none 0 0,yi 0] 163)).drew:=(below_alloc w3 (.cells #[.slice none 0 0,yi 0] 163)).drew;have g_e:=g_3.later be;have q_e:=q_3.later be;have c_e:=c_3.later be;have n_e:=(locE_new w3 [.slice none 0 0,yi 0] 163).drew;have b_e:=below_trans b0_3 be;have bd_3:Below w3.heap.size w3 w3.drew:=(Below.refl _ _).drew;have g_4:=g_3.later bd_3;have q_4:=q_3.later bd_3;have c_4:=c_3.later bd_3;have b0_4:=below_trans b0_3 bd_3;clear g_3 q_3 c_3 b0_3 bd_3;obtain⟨x0,x1,x2,x3,x4⟩:=g_4.cs5;obtain⟨y0,y1,y2⟩:=q_4.cs3;have nn0:w3.heap.size≠w.heap.size+1:=by omega
   have nn1:w3.heap.size≠w.heap.size:=by omega
   obtain⟨xe0,xe1,xe2,xe3,xe4⟩:=g_e.cs5;obtain⟨ye0,ye1,ye2⟩:=q_e.cs3
   go_upto_region 7 with fail
   go_cut [9,10] (fun s9 s10 wx=>FindS w s9 s10 hd rd rk wx)
   case first=>
    go_wp2_with fail
    go_region_held3 (fun wq=>(wq.cell? ⟨w.heap.size+1,0,none⟩=some (yi R)∧wq.cell? ⟨w.heap.size+1,1,none⟩=some (yi D)∧wq.cell? ⟨w.heap.size+1,2,none⟩=some (yi L)∧wq.cell? ⟨w.heap.size+1,3,none⟩=some (yi G)∧wq.cell? ⟨w.heap.size+1,4,none⟩=some (.bool gr))∧wq.cell? ⟨w.heap.size,0,none⟩=some (.bool s)∧wq.cell? ⟨w.heap.size,1,none⟩=some (.slice ao la ca)∧wq.cell? ⟨w.heap.size,2,none⟩=some (yi e)) (go_keep) (first
     | (go_at_call 138;refine(HO.out _).mono ?_;rintro z wa ⟨rfl,ba⟩;have g_wa:=g_4.later ba;have q_wa:=q_4.later ba;have c_wa:=c_4.later ba;have b_wa:=below_trans b0_4 ba;obtain⟨xwa0,xwa1,xwa2,xwa3,xwa4⟩:=g_wa.cs5;obtain⟨ywa0,ywa1,ywa2⟩:=q_wa.cs3;have m0_wa:=World.new_ne wa _ xwa0;have m1_wa:=World.new_ne wa _ ywa0;have zab:=below_alloc wa (.cells #[.slice none 0 0,yi 0] 163);have zag:=g_wa.later zab;have zaq:=q_wa.later zab;obtain⟨zax0,zax1,zax2,zax3,zax4⟩:=zag.cs5;obtain⟨zay0,zay1,zay2⟩:=zaq.cs3)
     | (go_at_call 138;refine(HO.out _).mono ?_;rintro z wa ⟨rfl,ba⟩;have g_wa:=g_e.later ba;have q_wa:=q_e.later ba;have c_wa:=c_e.later ba;have n_wa:=n_e.later ba;have b_wa:=below_trans b_e ba;obtain⟨xwa0,xwa1,xwa2,xwa3,xwa4⟩:=g_wa.cs5;obtain⟨ywa0,ywa1,ywa2⟩:=q_wa.cs3;have m0_wa:=World.new_ne wa _ xwa0;have m1_wa:=World.new_ne wa _ ywa0)
     | (go_at_call 163;have n_x:=n_wa;clear n_x;refine(HF2.out _ b_wa).mono ?_;rintro z wb ⟨u,rfl,ou,bb⟩;have oL:=ou.lower b_wa.size;have g_wb:=g_wa.later bb;have q_wb:=q_wa.later bb;have c_wb:=c_wa.later bb;have n_wb:=n_wa.later bb;have b_wb:=below_trans b_wa bb;obtain⟨so,sc,hu⟩:=ou.rd.shape;subst hu;obtain⟨xwb0,xwb1,xwb2,xwb3,xwb4⟩:=g_wb.cs5;obtain⟨ywb0,ywb1,ywb2⟩:=q_wb.cs3;have m0_wb:=World.new_ne wb _ xwb0;have m1_wb:=World.new_ne wb _ ywb0;obtain⟨d0,d1⟩:=n_wb.cs2;have f0:=n_wb.free 0;have f1:=n_wb.free 1)
     | (go_at_call 163;refine(HF2.out _ b_wa).mono ?_;rintro z wb ⟨u,rfl,ou,bb⟩;have oL:=ou.lower b_wa.size;have g_wb:=g_wa.later bb;have q_wb:=q_wa.later bb;have c_wb:=c_wa.later bb;have b_wb:=below_trans b_wa bb;obtain⟨so,sc,hu⟩:=ou.rd.shape;subst hu;obtain⟨xwb0,xwb1,xwb2,xwb3,xwb4⟩:=g_wb.cs5;obtain⟨ywb0,ywb1,ywb2⟩:=q_wb.cs3;have m0_wb:=World.new_ne wb _ xwb0;have m1_wb:=World.new_ne wb _ ywb0;have zbb:=below_alloc wb (.cells #[.slice none 0 0,yi 0] 163);have zbg:=g_wb.later zbb;have zbq:=q_wb.later zbb;obtain⟨zbx0,zbx1,zbx2,zbx3,zbx4⟩:=zbg.cs5;obtain⟨zby0,zby1,zby2⟩:=zbq.cs3;have zcb:=below_alloc wb (.cells #[.slice so (Dg.dg 4294967296 rd).length sc,yi rk] 163);have zcg:=g_wb.later zcb;have zcq:=q_wb.later zcb;obtain⟨zcx0,zcx1,zcx2,zcx3,zcx4⟩:=zcg.cs5;obtain⟨zcy0,zcy1,zcy2⟩:=zcq.cs3)
     | (go_at_call 163;have bn:=below_alloc wa (.cells #[.slice none 0 0,yi 0] 163);refine(HF2.out _ (below_trans b_wa bn)).mono ?_;rintro z wb ⟨u,rfl,ou,bb⟩;have oL:=ou.lower (below_trans b_wa bn).size;have hRa:w.heap.size+1+1<wa.heap.size:=c_wa.lt;have kk0:wa.heap.size≠w.heap.size+1:=(by omega);have kk1:wa.heap.size≠w.heap.size:=(by omega);have g_wb:=(g_wa.later bn).later bb;have q_wb:=(q_wa.later bn).later bb;have c_wb:=(c_wa.later bn).later bb;have n_wb:=(locE_new wa [.slice none 0 0,yi 0] 163).later bb;have b_wb:=below_trans (below_trans b_wa bn) bb;obtain⟨so,sc,hu⟩:=ou.rd.shape;subst hu;obtain⟨xwb0,xwb1,xwb2,xwb3,xwb4⟩:=g_wb.cs5;obtain⟨ywb0,ywb1,ywb2⟩:=q_wb.cs3;have m0_wb:=World.new_ne wb _ xwb0;have m1_wb:=World.new_ne wb _ ywb0;obtain⟨d0,d1⟩:=n_wb.cs2;have f0:=n_wb.free 0;have f1:=n_wb.free 1))
    all_goals (go_wp2_with fail)
    all_goals (first
     | (go_meet;exact findS_new c_wb oL b_wb)
     | (go_meet;exact findS_set c_wb n_wb oL b_wb (by omega) (by omega))
     | (go_meet;exact findS_set c_wb n_wb oL b_wb (by omega) (by omega)))
   case rest=>
    obtain⟨pb,so,sc,rfl,rfl,hpb,hpw,n9,o9,c9,b9⟩:=hcut;clear g_4 q_4 c_4 b0_4 g_e q_e c_e n_e b_e be nn0 nn1 x0 x1 x2 x3 x4 y0 y1 y2 xe0 xe1 xe2 xe3 xe4 ye0 ye1 ye2;obtain⟨p0,p1⟩:=n9.cs2;have d0:=c9.cell 0 rfl;have f0:=c9.free 0;have d1:=c9.cell 1 rfl;have f1:=c9.free 1
    go_wp2
    have bu:But (w.heap.size+1+1) wc ((wc.setCell ⟨w.heap.size+1+1,0,none⟩ (.slice so (Dg.dg 4294967296 rd).length sc)).setCell ⟨w.heap.size+1+1,1,none⟩ (yi rk)):=(but_set wc (w.heap.size+1+1) 0 (.slice so (Dg.dg 4294967296 rd).length sc)).trans (but_set _ (w.heap.size+1+1) 1 (yi rk));have cX:LocE ((wc.setCell ⟨w.heap.size+1+1,0,none⟩ (.slice so (Dg.dg 4294967296 rd).length sc)).setCell ⟨w.heap.size+1+1,1,none⟩ (yi rk)) (w.heap.size+1+1) 163 [.slice so (Dg.dg 4294967296 rd).length sc,yi rk]:=(c9.set 0 (.slice so (Dg.dg 4294967296 rd).length sc)).set 1 (yi rk);have bX:=bu.below b9 (show w.heap.size≤w.heap.size+1+1 by omega)
    have oX:=bu.own o9 c9 (by decide);obtain⟨s0,s1⟩:=cX.cs2;refine bodyPost_ret (v:= .tuple #[.agg #[.slice so (Dg.dg 4294967296 rd).length sc,yi rk],.bool hd,yi 0]) (by simp[results,Tryz.results106,go_sem,s0,s1]) rfl ?_;exact⟨_,rfl,oX,bX⟩
  ·obtain⟨h1,h2,h3,h4⟩:=HB1.out hgc
   clear HB1 HC1 HF1;have hgf:(gc==0)=false:=by simp[hgc]
   subst h1 h2 h3 h4;obtain⟨y0,y1,y2⟩:=q1.cs3
   go_enter Tryz.func106,Tryz.ntmps106
   go_wp2_with fail
   refine(HD.out _ b1).mono ?_;rintro z w2 ⟨rfl,bb2⟩;clear y0 y1 y2;have g_2:=g1.later bb2;have q_2:=q1.later bb2;have c_2:=c1.later bb2;have b0_2:=below_trans b1 bb2;clear g1 q1 c1 b1 bb2;obtain⟨x0,x1,x2,x3,x4⟩:=g_2.cs5
   go_wp2_with fail
   refine(HG.out _).mono ?_;rintro z w3 ⟨rfl,bb3⟩;have g_3:=g_2.later bb3;have q_3:=q_2.later bb3;have c_3:=c_2.later bb3;have b0_3:=below_trans b0_2 bb3;clear g_2 q_2 c_2 b0_2 bb3;clear x0 x1 x2 x3 x4;have d0:=c_3.cell 0 rfl;have f0:=c_3.free 0;have d1:=c_3.cell 1 rfl;have f1:=c_3.free 1
   go_wp2
   have bu:But (w.heap.size+1+1) w3 ((w3.setCell ⟨w.heap.size+1+1,0,none⟩ (.slice none 0 0)).setCell ⟨w.heap.size+1+1,1,none⟩ (yi 0)):=(but_set w3 (w.heap.size+1+1) 0 (.slice none 0 0)).trans (but_set _ (w.heap.size+1+1) 1 (yi 0));have cX:LocE ((w3.setCell ⟨w.heap.size+1+1,0,none⟩ (.slice none 0 0)).setCell ⟨w.heap.size+1+1,1,none⟩ (yi 0)) (w.heap.size+1+1) 163 [.slice none 0 0,yi 0]:=(c_3.set 0 (.slice none 0 0)).set 1 (yi 0);have bX:=bu.below b0_3 (show w.heap.size≤w.heap.size+1+1 by omega)
   obtain⟨s0,s1⟩:=cX.cs2;refine bodyPost_ret (v:= .tuple #[.agg #[.slice none 0 0,yi 0],.bool false,yi c]) (by simp[results,Tryz.results106,go_sem,s0,s1]) rfl ?_;exact⟨_,rfl,own_nil _ _ _ _,bX⟩
 ·obtain⟨h1,h2,h3,h4⟩:=HA.out hdc
  clear HA HB HC HF;have hdf:(dc==0)=false:=by simp[hdc]
  subst h1 h2 h3 h4;obtain⟨y0,y1,y2⟩:=q1.cs3
  go_enter Tryz.func106,Tryz.ntmps106
  go_wp2_with fail
  refine(HD.out _ b1).mono ?_;rintro z w2 ⟨rfl,bb2⟩;clear y0 y1 y2;have g_2:=g1.later bb2;have q_2:=q1.later bb2;have c_2:=c1.later bb2;have b0_2:=below_trans b1 bb2;clear g1 q1 c1 b1 bb2;have d0:=c_2.cell 0 rfl;have f0:=c_2.free 0;have d1:=c_2.cell 1 rfl;have f1:=c_2.free 1
  go_wp2
  have bu:But (w.heap.size+1+1) w2 ((w2.setCell ⟨w.heap.size+1+1,0,none⟩ (.slice none 0 0)).setCell ⟨w.heap.size+1+1,1,none⟩ (yi 0)):=(but_set w2 (w.heap.size+1+1) 0 (.slice none 0 0)).trans (but_set _ (w.heap.size+1+1) 1 (yi 0));have cX:LocE ((w2.setCell ⟨w.heap.size+1+1,0,none⟩ (.slice none 0 0)).setCell ⟨w.heap.size+1+1,1,none⟩ (yi 0)) (w.heap.size+1+1) 163 [.slice none 0 0,yi 0]:=(c_2.set 0 (.slice none 0 0)).set 1 (yi 0);have bX:=bu.below b0_2 (show w.heap.size≤w.heap.size+1+1 by omega)
  obtain⟨s0,s1⟩:=cX.cs2;refine bodyPost_ret (v:= .tuple #[.agg #[.slice none 0 0,yi 0],.bool false,yi c]) (by simp[results,Tryz.results106,go_sem,s0,s1]) rfl ?_;exact⟨_,rfl,own_nil _ _ _ _,bX⟩
end Go.Proofs.YtnhackdjplppjaaGreatDoor
namespace Go.Proofs.YtnhackdjplppjaaGreatDoor
open Go.RowKit
def onC (dc gc:Int):Int:=if dc=0 then gc else dc
end Go.Proofs.YtnhackdjplppjaaGreatDoor
namespace Go.Proofs.YtnhackdjplppjaaGreatDoor
open Go.RowKit
def ansH (xs:List Nat) (e R D L G:Int) (gr:Bool):Bool:=if onC (dchk xs e) (gridC R D L G)=0 then heldB R D L G gr (Dg.vl 4294967296 xs) e else false
def ansD (xs:List Nat) (e R D L G:Int) (gr:Bool):Nat:=if onC (dchk xs e) (gridC R D L G)=0 then fD R D L G gr (Dg.vl 4294967296 xs) e else 0
def ansK (xs:List Nat) (e R D L G:Int) (gr:Bool):Int:=if onC (dchk xs e) (gridC R D L G)=0 then fK R D L G gr (Dg.vl 4294967296 xs) e else 0
theorem gfind_any (R D L G:Int) (gr s:Bool) (ao:Option Addr) (ca:Nat) (xs:List Nat) (e:Int) (w:World) (hr:Rd w .u32 (.slice ao xs.length ca) xs) (sa:Dg.Small 4294967296 xs) (hT:Tab w):
  Calls Tryz.prog 106 #[ydV s (.slice ao xs.length ca) e,ygV R D L G gr] w (FindAns w (ansH xs e R D L G gr) (ansD xs e R D L G gr) (ansK xs e R D L G gr) (onC (dchk xs e) (gridC R D L G))):=by
 have herr: ¬onC (dchk xs e) (gridC R D L G)=0→ansH xs e R D L G gr=false∧ansD xs e R D L G gr=0∧ansK xs e R D L G gr=0:=fun h=>⟨if_neg h,if_neg h,if_neg h⟩
 refine gfindW R D L G gr s ao _ ca e (dchk xs e) (gridC R D L G) _ _ _ _ w ?_ ?_ ?_ ?_ ?_ ?_ ?_
 ·intro h
  have h1:onC (dchk xs e) (gridC R D L G)=dchk xs e:=if_neg h;obtain⟨a,b,c⟩:=herr (by rw[h1];exact h);exact⟨a,b,c,h1⟩
 ·intro h h2
  have h1:onC (dchk xs e) (gridC R D L G)=gridC R D L G:=if_pos h;obtain⟨a,b,c⟩:=herr (by rw[h1];exact h2);exact⟨a,b,c,h1⟩
 ·intro h h2
  exact(if_pos h).trans h2
 ·intro w1 b
  exact dcheck_any s ao ca xs e w1 (hr.later b)
 ·intro w1
  exact gcheck_any R D L G gr w1
 ·intro w1
  exact of_dy s ao _ ca e w1
 ·intro h h2 w1 b
  have h1:onC (dchk xs e) (gridC R D L G)=0:=(if_pos h).trans h2;rw[show ansH xs e R D L G gr=_ from if_pos h1,show ansD xs e R D L G gr=_ from if_pos h1,show ansK xs e R D L G gr=_ from if_pos h1]
  obtain⟨c1,e1,e2⟩:=dchk_zero h;obtain⟨n1,l1⟩:=chk_zero c1;have ex:Dg.dg 4294967296 (Dg.vl 4294967296 xs)=xs:=Dg.dg_vl _ (by omega) _ sa n1;have:=mfind_any R D L G gr s ao ca (Dg.vl 4294967296 xs) e w1 h2 (by rw[ex];exact hr.later b) (by rw[ex];exact l1) e1 e2 (hT.later b)
  rwa [ex] at this
end Go.Proofs.YtnhackdjplppjaaGreatDoor
namespace Go.Proofs.YtnhackdjplppjaaGreatDoor
open Go.RowKit
set_option maxHeartbeats 1600000 in
theorem gnumberW (R D L G:Int) (gr ng:Bool) (ao:Option Addr) (la ca:Nat) (p wd:Int) (w:World) (WP:IntKind.i64.wrap (wd*p)=wd*p)
  (HW: ∀w1,Calls Tryz.prog 160 #[ygV R D L G gr] w1 fun z w'=>z= .returned (yi wd)∧Below w1.heap.size w1 w'):
  Calls Tryz.prog 104 #[ygV R D L G gr,.bool ng,.agg #[.slice ao la ca,yi p]] w fun z w'=>z= .returned (ydV ng (.slice ao la ca) (wd*p))∧Below w.heap.size w w':=by
 replace HW:Hid _:=HW;have HN:Hid (∀w1,Calls Tryz.prog 159 (ydL ng (.slice ao la ca) (wd*p)).toArray w1 fun x w'=>x= .returned (ydV ng (.slice ao la ca) (wd*p))∧Below w1.heap.size w1 w'):=fun w1=>new_any ng ao la ca (wd*p) w1
 have b1:=below_trans (below_trans (below_alloc w (.cells (ygL R D L G gr).toArray 159)) (below_alloc _ (.cells #[.slice ao la ca,yi p] 163))) (below_alloc _ (.cells (ydL false (.slice none 0 0) 0).toArray 96));have g1:=((locE_new w (ygL R D L G gr) 159).later (below_alloc _ (.cells #[.slice ao la ca,yi p] 163))).later (below_alloc _ (.cells (ydL false (.slice none 0 0) 0).toArray 96));have s1:=(locE_new (w.alloc (.cells (ygL R D L G gr).toArray 159)) [.slice ao la ca,yi p] 163).later (below_alloc _ (.cells (ydL false (.slice none 0 0) 0).toArray 96));have c1:=locE_new ((w.alloc (.cells (ygL R D L G gr).toArray 159)).alloc (.cells #[.slice ao la ca,yi p] 163)) (ydL false (.slice none 0 0) 0) 96;simp only[World.size_alloc] at s1 c1;have g_2:=g1.later ((Below.refl _ _).drew);have s_2:=s1.later ((Below.refl _ _).drew);have c_2:=c1.later ((Below.refl _ _).drew);have b0_2:=below_trans b1 ((Below.refl _ _).drew);clear g1 s1 c1 b1;obtain⟨x0,x1,x2,x3,x4⟩:=g_2.cs5;obtain⟨y0,y1⟩:=s_2.cs2;have nA:w.heap.size+1+1≠w.heap.size:=by omega
 have nB:w.heap.size+1+1≠w.heap.size+1:=by omega
 go_enter Tryz.func104,Tryz.ntmps104
 go_wp2_with fail
 go_region_held3 (fun wq=>wq.cell? ⟨w.heap.size,0,none⟩=some (yi R)∧wq.cell? ⟨w.heap.size,1,none⟩=some (yi D)∧wq.cell? ⟨w.heap.size,2,none⟩=some (yi L)∧wq.cell? ⟨w.heap.size,3,none⟩=some (yi G)∧wq.cell? ⟨w.heap.size,4,none⟩=some (.bool gr)∧wq.cell? ⟨w.heap.size+1,0,none⟩=some (.slice ao la ca)∧wq.cell? ⟨w.heap.size+1,1,none⟩=some (yi p)) (go_keep) (first
  | (go_at_call 160;have hgd:=b0_2;clear hgd;refine(HW.out _).mono ?_;rintro z wa ⟨rfl,bb_wa⟩;have b0_wa:=below_trans b0_2 bb_wa;have g_wa:=g_2.later bb_wa;have s_wa:=s_2.later bb_wa;have c_wa:=c_2.later bb_wa;obtain⟨xa0,xa1,xa2,xa3,xa4⟩:=g_wa.cs5;obtain⟨ya0,ya1⟩:=s_wa.cs2;clear b0_2)
  | (go_at_call 159;have hgd:=b0_wa;clear hgd;refine(HN.out _).mono ?_;rintro z wb ⟨rfl,bb_wb⟩;have b0_wb:=below_trans b0_wa bb_wb;have g_wb:=g_wa.later bb_wb;have s_wb:=s_wa.later bb_wb;have c_wb:=c_wa.later bb_wb;obtain⟨xb0,xb1,xb2,xb3,xb4⟩:=g_wb.cs5;obtain⟨yb0,yb1⟩:=s_wb.cs2;have z0:=c_wb.cell 0 rfl;have e0:=c_wb.free 0;have z1:=c_wb.cell 1 rfl;have e1:=c_wb.free 1;have z2:=c_wb.cell 2 rfl;have e2:=c_wb.free 2;clear b0_wa))
 all_goals go_wp2
 have bu:But (w.heap.size+1+1) wb (((wb.setCell ⟨w.heap.size+1+1,0,none⟩ (.bool ng)).setCell ⟨w.heap.size+1+1,1,none⟩ (.slice ao la ca)).setCell ⟨w.heap.size+1+1,2,none⟩ (yi (wd*p))):=((but_set wb (w.heap.size+1+1) 0 (.bool ng)).trans (but_set _ (w.heap.size+1+1) 1 (.slice ao la ca))).trans (but_set _ (w.heap.size+1+1) 2 (yi (wd*p)));have cX:LocE (((wb.setCell ⟨w.heap.size+1+1,0,none⟩ (.bool ng)).setCell ⟨w.heap.size+1+1,1,none⟩ (.slice ao la ca)).setCell ⟨w.heap.size+1+1,2,none⟩ (yi (wd*p))) (w.heap.size+1+1) 96 (ydL ng (.slice ao la ca) (wd*p)):=((c_wb.set 0 (.bool ng)).set 1 (.slice ao la ca)).set 2 (yi (wd*p));have bX:=bu.below b0_wb (show w.heap.size≤w.heap.size+1+1 by omega)
 obtain⟨s0,s1,s2⟩:=cX.cs3;refine bodyPost_ret (v:=(ydV ng (.slice ao la ca) (wd*p))) (by simp[results,Tryz.results104,go_sem,s0,s1,s2]) rfl ?_;exact⟨rfl,bX⟩
set_option maxHeartbeats 3200000 in
theorem gNumberW (R D L G:Int) (gr s:Bool) (ao:Option Addr) (la ca:Nat) (p:Int) (x1 x2 x3:Bool) (wd nc gc c:Int) (far rs:Bool) (rn:Nat) (re:Int) (w:World)
  (HA: ¬nc=0→rs=false∧rn=0∧re=0∧c=nc) (HB:nc=0→ ¬gc=0→rs=false∧rn=0∧re=0∧c=gc) (HC:nc=0→gc=0→far=true→rs=false∧rn=0∧re=0∧c=3)
  (HN: ∀w1,Below w.heap.size w w1→Calls Tryz.prog 98 #[.slice ao la ca] w1 fun z w'=>z= .returned (yi nc)∧Below w1.heap.size w1 w')
  (HG: ∀w1,Calls Tryz.prog 102 #[ygV R D L G gr] w1 fun z w'=>z= .returned (yi gc)∧Below w1.heap.size w1 w')
  (HF: ∀w1,Calls Tryz.prog 103 #[yi p,yi 20000] w1 fun z w'=>z= .returned (.bool far)∧w'=w1)
  (HM:nc=0→gc=0→far=false→ ∀w1,Calls Tryz.prog 104 #[ygV R D L G gr,.bool s,.agg #[.slice ao la ca,yi p]] w1 fun z w'=>z= .returned (ydV s (.slice ao la ca) (wd*p))∧Below w1.heap.size w1 w')
  (HS:nc=0→gc=0→far=false→ ∀w1,Below w.heap.size w w1→Calls Tryz.prog 105 #[ydV s (.slice ao la ca) (wd*p)] w1 (DAns w1 (⟨rs,rn,re⟩,c))):
  Calls Tryz.prog 51 #[ypV s (.slice ao la ca) p x1 x2 x3,ygV R D L G gr] w (DAns w (⟨rs,rn,re⟩,c)):=by
 replace HA:Hid _:=HA;replace HB:Hid _:=HB;replace HC:Hid _:=HC;replace HN:Hid _:=HN;replace HG:Hid _:=HG;replace HF:Hid _:=HF;replace HM:Hid _:=HM;replace HS:Hid _:=HS;have b1:=below_trans (below_trans (below_alloc w (.cells (ypL s (.slice ao la ca) p x1 x2 x3).toArray 86)) (below_alloc _ (.cells (ygL R D L G gr).toArray 56))) (below_alloc _ (.cells (ydL false (.slice none 0 0) 0).toArray 82));have q1:=((locE_new w (ypL s (.slice ao la ca) p x1 x2 x3) 86).later (below_alloc _ (.cells (ygL R D L G gr).toArray 56))).later (below_alloc _ (.cells (ydL false (.slice none 0 0) 0).toArray 82));have g1:=(locE_new (w.alloc (.cells (ypL s (.slice ao la ca) p x1 x2 x3).toArray 86)) (ygL R D L G gr) 56).later (below_alloc _ (.cells (ydL false (.slice none 0 0) 0).toArray 82));have c1:=locE_new ((w.alloc (.cells (ypL s (.slice ao la ca) p x1 x2 x3).toArray 86)).alloc (.cells (ygL R D L G gr).toArray 56)) (ydL false (.slice none 0 0) 0) 82;simp only[World.size_alloc] at g1 c1
 by_cases hn:nc=0
 ·have HB1:Hid _:=HB.out hn
  have HC1:Hid _:=HC.out hn;have HM1:Hid _:=HM.out hn;have HS1:Hid _:=HS.out hn;clear HA HB HC HM HS;subst hn
  by_cases hg:gc=0
  ·have HC2:Hid _:=HC1.out hg
   have HM2:Hid _:=HM1.out hg;have HS2:Hid _:=HS1.out hg;clear HB1 HC1 HM1 HS1;subst hg
   cases far
   ·have HM3:Hid _:=HM2.out rfl
    have HS3:Hid _:=HS2.out rfl;clear HC2 HM2 HS2;have y1:=q1.cell 1 rfl
    go_enter Tryz.func51,Tryz.ntmps51
    go_wp2_with fail
    refine(HN.out _ b1).mono ?_;rintro z w2 ⟨rfl,bb2⟩;clear y1;have q_2:=q1.later bb2;have g_2:=g1.later bb2;have c_2:=c1.later bb2;have b0_2:=below_trans b1 bb2;clear q1 g1 c1 b1 bb2;obtain⟨x0,x1,x2,x3,x4⟩:=g_2.cs5
    go_wp2_with fail
    refine(HG.out _).mono ?_;rintro z w3 ⟨rfl,bb3⟩;have q_3:=q_2.later bb3;have g_3:=g_2.later bb3;have c_3:=c_2.later bb3;have b0_3:=below_trans b0_2 bb3;clear q_2 g_2 c_2 b0_2 bb3;clear x0 x1 x2 x3 x4;obtain⟨y0,y1,y2⟩:=q_3.cs3;obtain⟨x0,x1,x2,x3,x4⟩:=g_3.cs5
    go_wp2_with fail
    refine(HF.out _).mono ?_;rintro z w4 ⟨rfl,rfl⟩
    go_wp2_with fail
    refine(HM3.out _).mono ?_;rintro z w5 ⟨rfl,bb5⟩;clear x0 x1 x2 x3 x4 y0 y1 y2;have q_4:=q_3.later bb5;have g_4:=g_3.later bb5;have c_4:=c_3.later bb5;have b0_4:=below_trans b0_3 bb5;clear q_3 g_3 c_3 b0_3 bb5;have hlt:w.heap.size+1+1<w5.heap.size:=c_4.lt
    go_wp2_with fail
    refine(HS3.out _ b0_4).mono ?_;rintro z w6 ⟨vr,rfl,o6,bb5⟩;have q_5:=q_4.later bb5;have g_5:=g_4.later bb5;have c_5:=c_4.later bb5;have b0_5:=below_trans b0_4 bb5;clear q_4 g_4 c_4 b0_4 bb5;obtain⟨so,sc,hvr⟩:=o6.rd.shape;subst hvr;have d0:=c_5.cell 0 rfl;have f0:=c_5.free 0;have d1:=c_5.cell 1 rfl;have f1:=c_5.free 1;have d2:=c_5.cell 2 rfl;have f2:=c_5.free 2
    go_wp2
    have bu:But (w.heap.size+1+1) w6 (((w6.setCell ⟨w.heap.size+1+1,0,none⟩ (.bool rs)).setCell ⟨w.heap.size+1+1,1,none⟩ (.slice so (Dg.dg 4294967296 rn).length sc)).setCell ⟨w.heap.size+1+1,2,none⟩ (yi re)):=((but_set w6 (w.heap.size+1+1) 0 (.bool rs)).trans (but_set _ (w.heap.size+1+1) 1 (.slice so (Dg.dg 4294967296 rn).length sc))).trans (but_set _ (w.heap.size+1+1) 2 (yi re));have cX:LocE (((w6.setCell ⟨w.heap.size+1+1,0,none⟩ (.bool rs)).setCell ⟨w.heap.size+1+1,1,none⟩ (.slice so (Dg.dg 4294967296 rn).length sc)).setCell ⟨w.heap.size+1+1,2,none⟩ (yi re)) (w.heap.size+1+1) 82 (ydL rs (.slice so (Dg.dg 4294967296 rn).length sc) re):=((c_5.set 0 (.bool rs)).set 1 (.slice so (Dg.dg 4294967296 rn).length sc)).set 2 (yi re);have bX:=bu.below b0_5 (show w.heap.size≤w.heap.size+1+1 by omega)
    have oX:=bu.own o6 c_5 (by decide);obtain⟨s0,s1,s2⟩:=cX.cs3;refine bodyPost_ret (v:= .tuple #[ydV rs (.slice so (Dg.dg 4294967296 rn).length sc) re,yi c]) (by simp[results,Tryz.results51,go_sem,s0,s1,s2]) rfl ?_;exact⟨_,rfl,oX.lower (by omega),bX⟩
   ·obtain⟨h1,h2,h3,h4⟩:=HC2.out rfl
    clear HC2 HM2 HS2;subst h1 h2 h3 h4;have y1:=q1.cell 1 rfl
    go_enter Tryz.func51,Tryz.ntmps51
    go_wp2_with fail
    refine(HN.out _ b1).mono ?_;rintro z w2 ⟨rfl,bb2⟩;clear y1;have q_2:=q1.later bb2;have g_2:=g1.later bb2;have c_2:=c1.later bb2;have b0_2:=below_trans b1 bb2;clear q1 g1 c1 b1 bb2;obtain⟨x0,x1,x2,x3,x4⟩:=g_2.cs5
    go_wp2_with fail
    refine(HG.out _).mono ?_;rintro z w3 ⟨rfl,bb3⟩;have q_3:=q_2.later bb3;have g_3:=g_2.later bb3;have c_3:=c_2.later bb3;have b0_3:=below_trans b0_2 bb3;clear q_2 g_2 c_2 b0_2 bb3;clear x0 x1 x2 x3 x4;have y2:=q_3.cell 2 rfl
    go_wp2_with fail
    refine(HF.out _).mono ?_;rintro z w4 ⟨rfl,rfl⟩;clear y2;have d0:=c_3.cell 0 rfl;have f0:=c_3.free 0;have d1:=c_3.cell 1 rfl;have f1:=c_3.free 1;have d2:=c_3.cell 2 rfl;have f2:=c_3.free 2
    go_wp2
    have bu:But (w.heap.size+1+1) w4 (((w4.setCell ⟨w.heap.size+1+1,0,none⟩ (.bool false)).setCell ⟨w.heap.size+1+1,1,none⟩ (.slice none 0 0)).setCell ⟨w.heap.size+1+1,2,none⟩ (yi 0)):=((but_set w4 (w.heap.size+1+1) 0 (.bool false)).trans (but_set _ (w.heap.size+1+1) 1 (.slice none 0 0))).trans (but_set _ (w.heap.size+1+1) 2 (yi 0));have cX:LocE (((w4.setCell ⟨w.heap.size+1+1,0,none⟩ (.bool false)).setCell ⟨w.heap.size+1+1,1,none⟩ (.slice none 0 0)).setCell ⟨w.heap.size+1+1,2,none⟩ (yi 0)) (w.heap.size+1+1) 82 (ydL false (.slice none 0 0) 0):=((c_3.set 0 (.bool false)).set 1 (.slice none 0 0)).set 2 (yi 0);have bX:=bu.below b0_3 (show w.heap.size≤w.heap.size+1+1 by omega)
    obtain⟨s0,s1,s2⟩:=cX.cs3;refine bodyPost_ret (v:= .tuple #[ydV false (.slice none 0 0) 0,yi 3]) (by simp[results,Tryz.results51,go_sem,s0,s1,s2]) rfl ?_;exact⟨_,rfl,own_nil _ _ _ _,bX⟩
  ·obtain⟨h1,h2,h3,h4⟩:=HB1.out hg
   clear HB1 HC1 HM1 HS1;have hgf:(gc==0)=false:=by simp[hg]
   subst h1 h2 h3 h4;have y1:=q1.cell 1 rfl
   go_enter Tryz.func51,Tryz.ntmps51
   go_wp2_with fail
   refine(HN.out _ b1).mono ?_;rintro z w2 ⟨rfl,bb2⟩;clear y1;have q_2:=q1.later bb2;have g_2:=g1.later bb2;have c_2:=c1.later bb2;have b0_2:=below_trans b1 bb2;clear q1 g1 c1 b1 bb2;obtain⟨x0,x1,x2,x3,x4⟩:=g_2.cs5
   go_wp2_with fail
   refine(HG.out _).mono ?_;rintro z w3 ⟨rfl,bb3⟩;have q_3:=q_2.later bb3;have g_3:=g_2.later bb3;have c_3:=c_2.later bb3;have b0_3:=below_trans b0_2 bb3;clear q_2 g_2 c_2 b0_2 bb3;clear x0 x1 x2 x3 x4;have d0:=c_3.cell 0 rfl;have f0:=c_3.free 0;have d1:=c_3.cell 1 rfl;have f1:=c_3.free 1;have d2:=c_3.cell 2 rfl;have f2:=c_3.free 2
   go_wp2
   have bu:But (w.heap.size+1+1) w3 (((w3.setCell ⟨w.heap.size+1+1,0,none⟩ (.bool false)).setCell ⟨w.heap.size+1+1,1,none⟩ (.slice none 0 0)).setCell ⟨w.heap.size+1+1,2,none⟩ (yi 0)):=((but_set w3 (w.heap.size+1+1) 0 (.bool false)).trans (but_set _ (w.heap.size+1+1) 1 (.slice none 0 0))).trans (but_set _ (w.heap.size+1+1) 2 (yi 0));have cX:LocE (((w3.setCell ⟨w.heap.size+1+1,0,none⟩ (.bool false)).setCell ⟨w.heap.size+1+1,1,none⟩ (.slice none 0 0)).setCell ⟨w.heap.size+1+1,2,none⟩ (yi 0)) (w.heap.size+1+1) 82 (ydL false (.slice none 0 0) 0):=((c_3.set 0 (.bool false)).set 1 (.slice none 0 0)).set 2 (yi 0);have bX:=bu.below b0_3 (show w.heap.size≤w.heap.size+1+1 by omega)
   obtain⟨s0,s1,s2⟩:=cX.cs3;refine bodyPost_ret (v:= .tuple #[ydV false (.slice none 0 0) 0,yi c]) (by simp[results,Tryz.results51,go_sem,s0,s1,s2]) rfl ?_;exact⟨_,rfl,own_nil _ _ _ _,bX⟩
 ·obtain⟨h1,h2,h3,h4⟩:=HA.out hn
  clear HA HB HC HM HS;have hnf:(nc==0)=false:=by simp[hn]
  subst h1 h2 h3 h4;have y1:=q1.cell 1 rfl
  go_enter Tryz.func51,Tryz.ntmps51
  go_wp2_with fail
  refine(HN.out _ b1).mono ?_;rintro z w2 ⟨rfl,bb2⟩;clear y1;have q_2:=q1.later bb2;have g_2:=g1.later bb2;have c_2:=c1.later bb2;have b0_2:=below_trans b1 bb2;clear q1 g1 c1 b1 bb2;have d0:=c_2.cell 0 rfl;have f0:=c_2.free 0;have d1:=c_2.cell 1 rfl;have f1:=c_2.free 1;have d2:=c_2.cell 2 rfl;have f2:=c_2.free 2
  go_wp2
  have bu:But (w.heap.size+1+1) w2 (((w2.setCell ⟨w.heap.size+1+1,0,none⟩ (.bool false)).setCell ⟨w.heap.size+1+1,1,none⟩ (.slice none 0 0)).setCell ⟨w.heap.size+1+1,2,none⟩ (yi 0)):=((but_set w2 (w.heap.size+1+1) 0 (.bool false)).trans (but_set _ (w.heap.size+1+1) 1 (.slice none 0 0))).trans (but_set _ (w.heap.size+1+1) 2 (yi 0));have cX:LocE (((w2.setCell ⟨w.heap.size+1+1,0,none⟩ (.bool false)).setCell ⟨w.heap.size+1+1,1,none⟩ (.slice none 0 0)).setCell ⟨w.heap.size+1+1,2,none⟩ (yi 0)) (w.heap.size+1+1) 82 (ydL false (.slice none 0 0) 0):=((c_2.set 0 (.bool false)).set 1 (.slice none 0 0)).set 2 (yi 0);have bX:=bu.below b0_2 (show w.heap.size≤w.heap.size+1+1 by omega)
  obtain⟨s0,s1,s2⟩:=cX.cs3;refine bodyPost_ret (v:= .tuple #[ydV false (.slice none 0 0) 0,yi c]) (by simp[results,Tryz.results51,go_sem,s0,s1,s2]) rfl ?_;exact⟨_,rfl,own_nil _ _ _ _,bX⟩
end Go.Proofs.YtnhackdjplppjaaGreatDoor
namespace Go.Proofs.YtnhackdjplppjaaGreatDoor
open Go.RowKit
def placeC (xs:List Nat) (p R D L G:Int):Int:=
 if chk xs=0 then(if gridC R D L G=0 then(if farB 20000 p=true then 3 else 0) else gridC R D L G) else chk xs
theorem farB_not {m n:Int} (h:farB m n=false): -m≤n∧n≤m:=by
 unfold farB at h;simp at h;omega
theorem placeC_fine {xs:List Nat} {p R D L G:Int} (h1:chk xs=0) (h2:gridC R D L G=0) (h3:farB 20000 p=false):placeC xs p R D L G=0:=by
 unfold placeC;rw[if_pos h1,if_pos h2,if_neg (by rw[h3];decide)]
theorem width_power {R p:Int} (h: -20000≤p∧p≤20000): -80000≤(widthN R:Int)*p∧(widthN R:Int)*p≤80000:=by
 unfold widthN
 split<;>simp<;>omega
theorem gnumber_any (R D L G:Int) (gr ng:Bool) (ao:Option Addr) (la ca:Nat) (p:Int) (w:World) (h: -1000000≤(widthN R:Int)*p∧(widthN R:Int)*p≤1000000):
  Calls Tryz.prog 104 #[ygV R D L G gr,.bool ng,.agg #[.slice ao la ca,yi p]] w fun z w'=>z= .returned (ydV ng (.slice ao la ca) ((widthN R:Int)*p))∧Below w.heap.size w w':=by
 refine gnumberW R D L G gr ng ao la ca p (widthN R) w (IntWalk.i64_in _ ⟨by omega,by omega⟩) (fun w1=> ?_)
 have:=width_any R D L G gr w1
 rwa [widthR_nat] at this
theorem both_err {c:Int} (h: ¬c=0) (t:Trip):dbothR c t=(⟨false,0,0⟩,c):=if_neg h
theorem gNumber_any (R D L G:Int) (gr s:Bool) (ao:Option Addr) (ca:Nat) (xs:List Nat) (p:Int) (x1 x2 x3:Bool) (w:World) (hr:Rd w .u32 (.slice ao xs.length ca) xs) (sa:Dg.Small 4294967296 xs) (hT:Tab w):
  Calls Tryz.prog 51 #[ypV s (.slice ao xs.length ca) p x1 x2 x3,ygV R D L G gr] w (DAns w (dbothR (placeC xs p R D L G) ⟨s,Dg.vl 4294967296 xs,(widthN R:Int)*p⟩)):=by
 obtain⟨⟨⟨rs,rn,re⟩,c⟩,hrr⟩: ∃r,dbothR (placeC xs p R D L G) ⟨s,Dg.vl 4294967296 xs,(widthN R:Int)*p⟩=r:=⟨_,rfl⟩;have herr: ∀k,placeC xs p R D L G=k→ ¬k=0→rs=false∧rn=0∧re=0∧c=k:=fun k h1 h2=>by
  rw[h1,both_err h2] at hrr;simp only[Prod.mk.injEq,Trip.mk.injEq] at hrr;exact⟨hrr.1.1.symm,hrr.1.2.1.symm,hrr.1.2.2.symm,hrr.2.symm⟩
 rw[hrr];refine gNumberW R D L G gr s ao _ ca p x1 x2 x3 (widthN R) (chk xs) (gridC R D L G) c (farB 20000 p) rs rn re w ?_ ?_ ?_ ?_ ?_ ?_ ?_ ?_
 ·intro h
  exact herr _ (if_neg h) h
 ·intro h h2
  exact herr _ ((if_pos h).trans (if_neg h2)) h2
 ·intro h h2 h3
  exact herr 3 ((if_pos h).trans ((if_pos h2).trans (if_pos h3))) (by decide)
 ·intro w1 b
  refine(check_any _ xs w1 (hr.later b)).mono ?_;rintro z w' ⟨rfl,rfl⟩;exact⟨rfl,Below.refl _ _⟩
 ·intro w1
  exact gcheck_any R D L G gr w1
 ·intro w1
  exact beyond_any p 20000 w1 (by omega) (by omega)
 ·intro h h2 h3 w1
  have:=width_power (R:=R) (farB_not h3);exact gnumber_any R D L G gr s ao _ ca p w1 ⟨by omega,by omega⟩
 ·intro h h2 h3 w1 b
  have hp:=width_power (R:=R) (farB_not h3);obtain⟨n1,l1⟩:=chk_zero h;have x1:(Dg.dg 4294967296 (Dg.vl 4294967296 xs)).length≤1200:=by rw[←Dg.eq_dg 4294967296 (by omega) xs _ sa n1 rfl];exact l1
  rw[placeC_fine h h2 h3] at hrr;rw[←hrr];exact dshort_any _ _ w1 (dv_of (hr.later b) sa n1) (by simp only;omega) ⟨by simp only;omega,by simp only;omega⟩ (hT.later b) (by have:=tz_fits (Dg.vl 4294967296 xs) 1200 x1;simp only;omega)
end Go.Proofs.YtnhackdjplppjaaGreatDoor

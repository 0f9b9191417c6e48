/-
  Texts laid together: Ar3, Ar6, As2, Aw0.
-/
import Derived.Test.YtbdokgamhinajaaGreatDoorSj31
set_option maxRecDepth 100000
set_option maxHeartbeats 12800000
namespace Go.Proofs.YtbdokgamhinajaaGreatDoor
open _root_.Go.Proofs.Tryz
open Go.RowKit
theorem vQ (n wy fam R D L G:Int)(gr:Bool)(ps:List ByteArray)(pb:Nat)(w:World)(hps:au w pb 9 (ps.map Value.string))(hm:ps.length≤3)
  (HR: ∀p w1,yB w w1→yC 97 #[yi n,.string p] w1 (Ys w1 ((bM n p:Nat):Int) (dz n p) (gJ n p) (iF n p) (opT n p) (dF n p))):
  yC 55 #[ykV n wy fam R D L G gr,.slice (some ⟨pb,0,none⟩) ps.length ps.length] w (QH w n ps):=by
 replace HR:Hid _:=HR;obtain⟨i0,hi,hz0,hz1,hz2⟩:=info_parts (show(Tryz.prog.info? 76).map (fun i=>(i.zero,i.size,i.bytes))=some (some (yoV 0 false false (.slice none 0 0) 0),5,56) by kernel_rfl)
 have HI:Hid (_∧_∧_∧_):=⟨hi,hz0,hz1,hz2⟩;have hpb:=hps.lt;have bd0:=af w (.cells (ykA n wy fam R D L G gr) 69);have d0:=ah w (ykL n wy fam R D L G gr) 69;have s0:=hps.l bd0;obtain⟨m,hmE⟩: ∃m,ps.length=m:=⟨_,rfl⟩;rw[hmE] at hm⊢;have HM:Hid (ps.length=m):=hmE;clear hps hmE hi hz0 hz1 hz2
 go_enter func55,ntmps55
 go_wp2
 go_loopw [6,14] (fun lv iv wr=> ∃i:Nat,iv=yi (i:Int)∧i≤m∧Vc w n ps i lv wr∧yB w wr∧au wr w.heap.size 69 (ykL n wy fam R D L G gr)∧au wr pb 9 (ps.map Value.string)) (fun _ iv _=>m-(intOf iv).toNat)
 case atStart=>exact⟨0,rfl,by omega,⟨[],World.ownsRow_nil _ _ _ 5,rfl,rfl⟩,bd0,d0,s0⟩
 case round=>
  obtain⟨i,rfl,him,hO,bel,dl,sl⟩:=hrel
  by_cases hlt:i<m
  ·have hil:i<ps.length:=by have:=HM.out;omega
   obtain⟨p,hp⟩: ∃p,ps[i]? =some p:=⟨_,List.getElem?_eq_getElem hil⟩;have y:=sl.c i (v:= .string p) (by rw[List.getElem?_map,hp];rfl);have x0:=dl.c 0 rfl;have HRp:=HR.out p;obtain⟨c,ec⟩: ∃c:Int,((bM n p:Nat):Int)=c:=⟨_,rfl⟩;obtain⟨gg,eg⟩: ∃c,dz n p=c:=⟨_,rfl⟩;obtain⟨m1,em⟩: ∃c,gJ n p=c:=⟨_,rfl⟩;obtain⟨p1,ep⟩: ∃c,iF n p=c:=⟨_,rfl⟩;obtain⟨t,et⟩: ∃c,opT n p=c:=⟨_,rfl⟩;obtain⟨er,ee⟩: ∃c,dF n p=c:=⟨_,rfl⟩;rw[ec,eg,em,ep,et,ee] at HRp;have HP:Hid (ps[i]? =some p∧((bM n p:Nat):Int)=c∧dz n p=gg∧opT n p=t∧dF n p=er):=⟨hp,ec,eg,et,ee⟩;replace HRp:Hid _:=HRp;clear hp hil ec eg em ep et ee
   go_wp2_with fail
   refine(HRp.out _ bel).mono ?_;rintro z w1 ⟨v,x,rfl,rv,rx,fx,b1⟩;obtain⟨vo,vc,hv⟩:=rv.shape;subst hv;obtain⟨xo,xc,hx⟩:=rx.shape;subst hx;have a1:=af w1 (.cells (yvA c gg (.slice vo (Dg.dg 4294967296 m1).length vc) p1) 100);have a2:=af (w1.alloc (.cells (yvA c gg (.slice vo (Dg.dg 4294967296 m1).length vc) p1) 100)) (.cells (yDA t xo xc) 72);have bb:=aa (aa b1 a1) a2;have q9:=(ah w1 (yvL c gg (.slice vo (Dg.dg 4294967296 m1).length vc) p1) 100).l a2;have q10:=ah (w1.alloc (.cells (yvA c gg (.slice vo (Dg.dg 4294967296 m1).length vc) p1) 100)) (yDL t xo xc) 72;rw[World.size_alloc] at q10;have rx1:=(rx.l a1).l a2;have hO1:=hO.l bb;have dl1:=dl.l bb;have sl1:=sl.l bb;have bel1:=aa bel bb;have hbl: ∀b,u6.ownBlock=some b→b<wr.heap.size:=fun b hb=>by
    obtain⟨cs,h1,-⟩:=hO;exact(World.ownsRow.lt h1 b hb).2
   have hsz:wr.heap.size≤w1.heap.size:=b1.size;have hws:w.heap.size≤wr.heap.size:=bel.size;clear b1 a1 a2 bb rv rx hO dl sl bel y x0
   go_upto_region 6 with fail
   generalize(w1.alloc (.cells (yvA c gg (.slice vo (Dg.dg 4294967296 m1).length vc) p1) 100)).alloc (.cells (yDA t xo xc) 72)=W at q9 q10 rx1 hO1 dl1 sl1 bel1⊢;generalize w1.heap.size=Q at q9 q10 hsz⊢
   by_cases he:er=0
   ·subst he
    go_wp2_with fail
    have qd:=q9.drew;have xd:=q10.drew;refine wp_region_held_drew (S:=fun wq=>wq.rangeAt Q 0 (yvL c gg (.slice vo (Dg.dg 4294967296 m1).length vc) p1)∧wq.rangeAt (Q+1) 0 (yDL t xo xc)) (by kernel_rfl) ⟨qd.range,xd.range⟩ (fun hS0=> ?_)
    refine wpAnyH_take (i:=0) (v:=u6) rfl (by kernel_rfl) (by kernel_rfl) (by kernel_rfl) (fun _ _ _ h=>h) (Or.inl ⟨by kernel_rfl,fun w0 _=>by kernel_rfl⟩) hS0 ?_
    refine wpAnyH_take (i:=1) (v:= .pointer (some ⟨Q,0,none⟩)) rfl (by kernel_rfl) (by kernel_rfl) (by kernel_rfl) (fun _ _ _ h=>h) (Or.inl ⟨by kernel_rfl,fun w0 _=>by kernel_rfl⟩) hS0 ?_
    refine wpAnyH_take (i:=2) (v:=yi c) rfl (by kernel_rfl) (by kernel_rfl) (by kernel_rfl) (fun _ _ _ h=>h) (Or.inl ⟨by kernel_rfl,fun w0 hw0=>gU 3 (.tmp 30) rfl Q 0 (by kernel_rfl) _ _ underlying3 rfl (hw0.1 0 _ rfl)⟩) hS0 ?_
    refine wpAnyH_take (i:=3) (v:= .pointer (some ⟨Q,1,none⟩)) rfl (by kernel_rfl) (by kernel_rfl) (by kernel_rfl) (fun _ _ _ h=>h) (Or.inl ⟨by kernel_rfl,fun w0 _=>by kernel_rfl⟩) hS0 ?_
    refine wpAnyH_take (i:=4) (v:= .bool gg) rfl (by kernel_rfl) (by kernel_rfl) (by kernel_rfl) (fun _ _ _ h=>h) (Or.inl ⟨by kernel_rfl,fun w0 hw0=>gU 4 (.tmp 32) rfl Q 1 (by kernel_rfl) _ _ underlying4 rfl (hw0.1 1 _ rfl)⟩) hS0 ?_
    refine wpAnyH_take (i:=5) (v:=(yDV t xo xc)) rfl (by kernel_rfl) (by kernel_rfl) (by kernel_rfl) (fun _ _ _ h=>h) (Or.inl ⟨by kernel_rfl,fun w0 hw0=>fy 72 (.tmp 10) rfl (Q+1) 0 (by kernel_rfl) _ _ hw0.2 underlying72 rfl (by kernel_rfl)⟩) hS0 ?_
    refine wpAnyH_ready (rs:=[6]) (by kernel_rfl) (by simp) ?_;refine AllReadyH.cons rfl (fun K hK=> ?_) AllReadyH.nil
    go_simp
    refine(iK _ _ _ _ _ _).mono ?_;rintro z w2 ⟨rfl,b2⟩;have bW:yB W w2:=aa ((Below.refl _ _).drew) b2;have q92:=q9.l bW;have q102:=q10.l bW;have rx2:=rx1.l bW;have hO2:=hO1.l bW;have dl2:=dl1.l bW;have sl2:=sl1.l bW;have bel2:=aa bel1 bW;have hszW:=bW.size;refine hK.out _ _ ⟨q92.range,q102.range⟩ (fun hS6=> ?_)
    clear hK K qd xd b2 bW q9 q10 rx1 hO1 dl1 sl1 bel1;refine wpAnyH_take (i:=7) (v:=(yOV c gg t xo xc)) rfl (by kernel_rfl) (by kernel_rfl) (by kernel_rfl) (fun _ _ _ h=>h) (Or.inl ⟨by kernel_rfl,fun w0 _=>by kernel_rfl⟩) hS6 ?_
    refine wpAnyH_ready (rs:=[8]) (by kernel_rfl) (by simp) ?_;refine AllReadyH.cons rfl (fun K hK=> ?_) AllReadyH.nil
    go_simp
    have al:=af w2 (.cells (yOA c gg t xo xc) 76);have nl:=ah w2 (yOL c gg t xo xc) 76;have q93:=q92.l al;have q103:=q102.l al;have rx3:=rx2.l al;have hO3:=hO2.l al;have dl3:=dl2.l al;have sl3:=sl2.l al;have bel3:=aa bel2 al;refine hK.out _ _ ⟨q93.range,q103.range⟩ (fun hS8=> ?_)
    clear hK K al q92 q102 rx2 hO2 dl2 sl2 bel2;generalize w2.alloc (.cells (yOA c gg t xo xc) 76)=W3 at nl q93 q103 rx3 hO3 dl3 sl3 bel3 hS8⊢;obtain⟨cs,k1,k2,k3⟩:=hO3;obtain⟨hi,hz0,hz1,hz2⟩:=HI.out;have hw3:w.heap.size+1≤W3.heap.size:=dl3.lt;obtain⟨v',w4,hrun,hown',hgrow,-,hat⟩:=run_append_own_at (P:=Tryz.prog) W3 (w.heap.size+1) 70 70 76 i0 _ 5 56 underlying70 hi hz0 hz1 hz2 rfl (by omega) u6 i cs k1 ⟨w2.heap.size,0,none⟩ 1 1 (yOL c gg t xo xc) rfl (fun j u hj=>by have:=nl.c j hj;rw[Addr.add_mid,Nat.zero_add];exact this) (fun u hu=>by simp at hu;rcases hu with rfl|rfl|rfl|rfl|rfl<;>rfl) (by unfold maxLen;omega) (by omega) hw3
    refine wpAnyH_ready (rs:=[9]) (by kernel_rfl) (by simp) ?_;refine AllReadyH.cons rfl (fun K hK=> ?_) AllReadyH.nil
    refine mg rfl (.tmp 29) (.tmp 37) 70 rfl _ _ v' w4 rfl rfl hrun ?_;have hlp:pb<w.heap.size:=hpb;have hgb: ∀g,u6.ownBlock=some g→w.heap.size<g∧g<wr.heap.size:=fun g hg=>⟨(World.ownsRow.lt k1 g hg).1,hbl g hg⟩
    have q94:=q93.grownO hgrow (fun g hg=>by have:=hgb g hg;omega)
    have q104:=q103.grownO hgrow (fun g hg=>by have:=hgb g hg;omega)
    have dl4:=dl3.grownO hgrow (fun g hg=>by have:=hgb g hg;omega)
    have sl4:=sl3.grownO hgrow (fun g hg=>by have:=hgb g hg;omega)
    have bel4:=bel3.grown hgrow (by omega) (fun g hg=>by have:=hgb g hg;omega)
    have hOps:Vc w n ps (i+1) v' w4:=by
     obtain⟨h1,h2,h3,h4,h5⟩:=HP.out;refine Y4 (x:= .slice xo (Dg.dg 4294967296 t.n).length xc) h1 h5 k2 k3 ⟨⟨xo,xc,by rw[h4]⟩,by rw[h4];exact rx3,fun b hb=> ?_⟩ ?_ hgrow hat
     ·intro _ a u v hv
      have:=fx a u v hv;have:=hgb b hb;omega
     ·unfold opC
      rw[h2,h3,h4];exact hown'
    refine hK.out _ _ ⟨q94.range,q104.range⟩ (fun hS9=> ?_)
    clear hK K q94 q104 q93 q103 dl3 sl3 bel3 hgrow hown' hat hrun rx3 nl fx k1 k2 k3 HP HRp HI;refine wpAnyH_take (i:=10) (v:=v') rfl (by kernel_rfl) (by kernel_rfl) (by kernel_rfl) (fun _ _ _ h=>h) (Or.inl ⟨by kernel_rfl,fun w0 _=>by go_simp⟩) hS9 ?_
    simp only[Act.put,List.getElem_toArray,List.getElem_cons_succ,List.getElem_cons_zero,List.setIfInBounds_toArray,List.set_cons_zero,List.set_cons_succ];refine wpAnyH_done (by kernel_rfl) ?_ _
    go_wp2
    go_roundw
    case rel=>exact⟨i+1,by go_num,by omega,hOps,bel4,dl4,sl4⟩
    case measure=>simp[intOf];omega
   ·have hef:(er==0)=false:=by simpa using he
    go_wp2
    go_ret2
    obtain⟨h1,-,-,-,h5⟩:=HP.out;obtain⟨cs,-,-,k3⟩:=hO1;have hil:i<ps.length:=by have:=HM.out;omega
    have hd:ps.drop i=p::ps.drop (i+1):=by
     rw[List.drop_eq_getElem_cons hil]
     congr 1
     rw[List.getElem?_eq_getElem hil] at h1;exact Option.some.inj h1
    have hE:fT n ps=er:=by
     rw[k3,hd,←h5];exact if_neg (by rw[h5];exact he)
    refine .inr ⟨by rw[hE];exact he, ?_,bel1⟩;rw[hE];rfl
  ·have HE:Hid (i=m):=(by omega:i=m)
   go_wp2
   go_ret2
   obtain⟨cs,k1,k2,k3⟩:=hO;have h1:=HE.out;have h2:=HM.out;subst h1;rw[List.take_of_length_le (by omega)] at k2;rw[List.drop_of_length_le (by omega)] at k3;refine .inl ⟨k3,u6,cs,rfl, ?_,k2,bel⟩;rw[h2];exact Hv k1 (by omega)
theorem iz (c:Int)(g s:Bool)(ao:Option Addr)(la ca:Nat)(e:Int)(w:World):yC 60 #[yoV c g s (.slice ao la ca) e] w (yR w (.bool (c==3))):=by
 have b0:=af w (.cells (yoA c g s (.slice ao la ca) e) 76)
 go_enter func60,ntmps60
 go_wp2
 go_ret
 exact⟨rfl,b0⟩
def xj (w:World)(c:Int)(g:Bool)(t:ak)(z:Ending)(w':World):Prop:=
 ∃v,z= .returned (yoV c g t.s v t.e)∧Rd w' .u32 v (Dg.dg 4294967296 t.n)∧yB w w'
def dU (w:World)(c:Int)(g:Bool)(t:ak)(fl:Int)(z:Ending)(w':World):Prop:=
 ∃v,z= .returned (.tuple #[yoV c g t.s v t.e,yi fl])∧Rd w' .u32 v (Dg.dg 4294967296 t.n)∧yB w w'
def vI (t:ak):Int:=if t.n=0 then 1 else 2
def xr (t:ak)(ng:Bool):Bool:=if t.n=0 then ng else t.s
def tF (t:ak):ak:=if t.n=0 then⟨false,0,0⟩ else t
theorem mT (t:ak)(ng:Bool)(to0:Option Addr)(tc:Nat)(w:World)(hr:Rd w .u32 (.slice to0 (Dg.dg 4294967296 t.n).length tc) (Dg.dg 4294967296 t.n)):
  yC 61 #[yDV t to0 tc,.bool ng] w (xj w (vI t) (xr t ng) (tF t)):=by
 have HS:Hid (yH w 104 #[yDV t to0 tc] (yi (dJ t))):=fun w1 b=>qB _ t w1 ⟨_,rfl,hr.l b⟩
 have ax:=af w (.cells (yDA t to0 tc) 74);have ao:=af (w.alloc (.cells (yDA t to0 tc) 74)) (.cells (yoA 0 false false (.slice none 0 0) 0) 76);have x0:=(ah w (yDL t to0 tc) 74).l ao;have o0:=ah (w.alloc (.cells (yDA t to0 tc) 74)) (yoL 0 false false (.slice none 0 0) 0) 76;rw[World.size_alloc] at o0;have b0:=aa ax ao;have r0:=hr.l b0;clear ax ao hr;unfold vI xr tF
 by_cases h0:t.n=0
 ·rw[if_pos h0,if_pos h0,if_pos h0]
  have hs:dJ t=0:=if_pos h0;rw[hs] at HS;clear h0 hs
  go_enter func61,ntmps61
  go_upto_region 1 with fail
  generalize(w.alloc (.cells (yDA t to0 tc) 74)).alloc (.cells (yoA 0 false false (.slice none 0 0) 0) 76)=W0 at x0 o0 b0 r0⊢;obtain⟨y0,y1,y2⟩:=x0.cs3
  go_wp2_with fail
  refine(HS.out _ b0).mono ?_;rintro z w1 ⟨rfl,b1⟩;have o1:=o0.l b1;have b01:=aa b0 b1;clear y0 y1 y2 x0 o0 b0 b1 HS r0;have cR:au (((((w1.setCell ⟨w.heap.size+1,0,none⟩ (yi 1)).setCell ⟨w.heap.size+1,1,none⟩ (.bool ng)).setCell ⟨w.heap.size+1,2,none⟩ (.bool false)).setCell ⟨w.heap.size+1,3,none⟩ (.slice none 0 0)).setCell ⟨w.heap.size+1,4,none⟩ (yi 0)) (w.heap.size+1) 76 (yoL 1 ng false (.slice none 0 0) 0):=(((((o1.set 0 (yi 1)).set 1 (.bool ng)).set 2 (.bool false)).set 3 (.slice none 0 0)).set 4 (yi 0));have bu:=((((ag w1 (w.heap.size+1) 0 (yi 1)).trans (ag _ (w.heap.size+1) 1 (.bool ng))).trans (ag _ (w.heap.size+1) 2 (.bool false))).trans (ag _ (w.heap.size+1) 3 (.slice none 0 0))).trans (ag _ (w.heap.size+1) 4 (yi 0));have bR:=bu.below b01 (by omega);have hl:=run_loadVar_mid (P:=Tryz.prog) _ (w.heap.size+1) 0 76 (yoL 1 ng false (.slice none 0 0) 0) _ cR.range underlying76 rfl (by kernel_rfl);have HH:Hid (_∧_):=⟨hl,bR⟩;obtain⟨z0,z1,z2,z3,z4⟩:=o1.cs5;have fz0:=o1.f 0;have fz1:=o1.f 1;have fz2:=o1.f 2;have fz3:=o1.f 3;have fz4:=o1.f 4;clear hl bR bu cR;clear o1 b01
  go_wp2
  obtain⟨hl,bR⟩:=HH.out;exact bodyPost_ret (br results61 rfl hl) rfl ⟨_,rfl,aN _ _,bR⟩
 ·rw[if_neg h0,if_neg h0,if_neg h0]
  obtain⟨sg,hs⟩: ∃s,dJ t=s:=⟨_,rfl⟩;have hs1:(sg==0)=false:=by
   rw[←hs];unfold dJ;rw[if_neg h0]
   cases t.s<;>rfl
  rw[hs] at HS;clear h0 hs
  go_enter func61,ntmps61
  go_upto_region 1 with fail
  generalize(w.alloc (.cells (yDA t to0 tc) 74)).alloc (.cells (yoA 0 false false (.slice none 0 0) 0) 76)=W0 at x0 o0 b0 r0⊢;obtain⟨y0,y1,y2⟩:=x0.cs3
  go_wp2_with fail
  refine(HS.out _ b0).mono ?_;rintro z w1 ⟨rfl,b1⟩;have o1:=o0.l b1;have x1:=x0.l b1;have r1:=r0.l b1;have b01:=aa b0 b1;clear y0 y1 y2 x0 o0 b0 b1 HS r0;obtain⟨y0,y1,y2⟩:=x1.cs3;have cR:au (((((w1.setCell ⟨w.heap.size+1,0,none⟩ (yi 2)).setCell ⟨w.heap.size+1,1,none⟩ (.bool t.s)).setCell ⟨w.heap.size+1,2,none⟩ (.bool t.s)).setCell ⟨w.heap.size+1,3,none⟩ (.slice to0 (Dg.dg 4294967296 t.n).length tc)).setCell ⟨w.heap.size+1,4,none⟩ (yi t.e)) (w.heap.size+1) 76 (yOL 2 t.s t to0 tc):=(((((o1.set 0 (yi 2)).set 1 (.bool t.s)).set 2 (.bool t.s)).set 3 (.slice to0 (Dg.dg 4294967296 t.n).length tc)).set 4 (yi t.e));have bu:=((((ag w1 (w.heap.size+1) 0 (yi 2)).trans (ag _ (w.heap.size+1) 1 (.bool t.s))).trans (ag _ (w.heap.size+1) 2 (.bool t.s))).trans (ag _ (w.heap.size+1) 3 (.slice to0 (Dg.dg 4294967296 t.n).length tc))).trans (ag _ (w.heap.size+1) 4 (yi t.e));have bR:=bu.below b01 (by omega);have rR:=bu.rd r1 (aX r1 o1 (by simp));have hl:=run_loadVar_mid (P:=Tryz.prog) _ (w.heap.size+1) 0 76 (yOL 2 t.s t to0 tc) _ cR.range underlying76 rfl (by kernel_rfl);have HH:Hid (_∧_∧_):=⟨hl,rR,bR⟩;obtain⟨z0,z1,z2,z3,z4⟩:=o1.cs5;have fz0:=o1.f 0;have fz1:=o1.f 1;have fz2:=o1.f 2;have fz3:=o1.f 3;have fz4:=o1.f 4;clear hl bR bu cR rR;clear o1 b01 x1 r1
  go_wp2
  obtain⟨hl,rR,bR⟩:=HH.out;exact bodyPost_ret (br results61 rfl hl) rfl ⟨_,rfl,rR,bR⟩
theorem Ng (n wy fam R D L G cx cy:Int)(gr gx gy:Bool)(x y:ak)(xo yo:Option Addr)(xc yc:Nat)(sg:Bool)(w:World)(hsg:sg=if gx=gy then gx else decide (wy=5))(hx:(cx==3)=false)(hy:(cy==3)=false)
  (HP: ∀w1,yB w w1→yC 62 #[yDV x xo xc,yDV y yo yc] w1 (jN w1 (aG x y))):
  yC 31 #[ykV n wy fam R D L G gr,yOV cx gx x xo xc,yOV cy gy y yo yc] w (dU w (vI (aG x y)) (xr (aG x y) sg) (tF (aG x y)) 0):=by
 replace HP:Hid _:=HP;have HSg:Hid (sg=if gx=gy then gx else decide (wy=5)):=hsg
 clear hsg;have HX:Hid (yJ 60 #[yOV cx gx x xo xc] (.bool (cx==3))):=fun w1=>iz _ _ _ _ _ _ _ w1
 have HY:Hid (yJ 60 #[yOV cy gy y yo yc] (.bool (cy==3))):=fun w1=>iz _ _ _ _ _ _ _ w1
 have HN:Hid (∀to0 tc ng w1,Rd w1 .u32 (.slice to0 (Dg.dg 4294967296 (aG x y).n).length tc) (Dg.dg 4294967296 (aG x y).n)→yC 61 #[.agg #[.bool (aG x y).s,.slice to0 (Dg.dg 4294967296 (aG x y).n).length tc,yi (aG x y).e],.bool ng] w1 (xj w1 (vI (aG x y)) (xr (aG x y) ng) (tF (aG x y)))):=fun to0 tc ng w1 h=>mT (aG x y) ng to0 tc w1 h
 rw[hx] at HX;rw[hy] at HY;have a1:=af w (.cells (ykA n wy fam R D L G gr) 69);have a2:=af (w.alloc (.cells (ykA n wy fam R D L G gr) 69)) (.cells (yOA cx gx x xo xc) 76);have a3:=af ((w.alloc (.cells (ykA n wy fam R D L G gr) 69)).alloc (.cells (yOA cx gx x xo xc) 76)) (.cells (yOA cy gy y yo yc) 76);have a4:=af (((w.alloc (.cells (ykA n wy fam R D L G gr) 69)).alloc (.cells (yOA cx gx x xo xc) 76)).alloc (.cells (yOA cy gy y yo yc) 76)) (.cells (yoA 0 false false (.slice none 0 0) 0) 76);have d0:=(((ah w (ykL n wy fam R D L G gr) 69).l a2).l a3).l a4;have x0:=((ah (w.alloc (.cells (ykA n wy fam R D L G gr) 69)) (yOL cx gx x xo xc) 76).l a3).l a4;have y0:=(ah ((w.alloc (.cells (ykA n wy fam R D L G gr) 69)).alloc (.cells (yOA cx gx x xo xc) 76)) (yOL cy gy y yo yc) 76).l a4;have o0:=ah (((w.alloc (.cells (ykA n wy fam R D L G gr) 69)).alloc (.cells (yOA cx gx x xo xc) 76)).alloc (.cells (yOA cy gy y yo yc) 76)) (yoL 0 false false (.slice none 0 0) 0) 76;rw[World.size_alloc] at x0;rw[World.size_alloc,World.size_alloc] at y0;rw[World.size_alloc,World.size_alloc,World.size_alloc] at o0;have b0:=aa (aa (aa a1 a2) a3) a4;clear a1 a2 a3 a4 hx hy;obtain⟨t,ht⟩: ∃t,aG x y=t:=⟨_,rfl⟩;rw[ht] at HP HN⊢;clear ht
 go_enter func31,ntmps31
 go_upto_block 0 with fail
 generalize(((w.alloc (.cells (ykA n wy fam R D L G gr) 69)).alloc (.cells (yOA cx gx x xo xc) 76)).alloc (.cells (yOA cy gy y yo yc) 76)).alloc (.cells (yoA 0 false false (.slice none 0 0) 0) 76)=W0 at d0 x0 y0 o0 b0⊢;obtain⟨u0,u1,u2,u3,u4⟩:=x0.cs5
 go_wp2_with fail
 refine(HX.out _).mono ?_;rintro z w1 ⟨rfl,b1⟩;have d1:=d0.l b1;have x1:=x0.l b1;have y1:=y0.l b1;have o1:=o0.l b1;have b01:=aa b0 b1;clear d0 x0 y0 o0 b0 b1 u0 u1 u2 u3 u4;obtain⟨u0,u1,u2,u3,u4⟩:=x1.cs5;obtain⟨v0,v1,v2,v3,v4⟩:=y1.cs5
 go_wp2_with fail
 refine(HX.out _).mono ?_;rintro z w2 ⟨rfl,b2⟩;have d2:=d1.l b2;have x2:=x1.l b2;have y2:=y1.l b2;have o2:=o1.l b2;have b02:=aa b01 b2;clear d1 x1 y1 o1 b01 b2 u0 u1 u2 u3 u4 v0 v1 v2 v3 v4;obtain⟨v0,v1,v2,v3,v4⟩:=y2.cs5
 go_wp2_with fail
 refine(HY.out _).mono ?_;rintro z w3 ⟨rfl,b3⟩;have d3:=d2.l b3;have x3:=x2.l b3;have y3:=y2.l b3;have o3:=o2.l b3;have b03:=aa b02 b3;clear d2 x2 y2 o2 b02 b3 v0 v1 v2 v3 v4 HX HY
 go_upto_region 7 with fail
 obtain⟨u0,u1,u2,u3,u4⟩:=x3.cs5;obtain⟨v0,v1,v2,v3,v4⟩:=y3.cs5;have q1:=d3.c 1 rfl;have HNs:Hid (∀to0 tc w1,Rd w1 .u32 (.slice to0 (Dg.dg 4294967296 t.n).length tc) (Dg.dg 4294967296 t.n)→yC 61 #[yDV t to0 tc,.bool sg] w1 (xj w1 (vI t) (xr t sg) (tF t))):=fun to0 tc w1 h=>HN.out to0 tc sg w1 h
 obtain⟨c,hcE⟩: ∃c,vI t=c:=⟨_,rfl⟩;obtain⟨g,hgE⟩: ∃c,xr t sg=c:=⟨_,rfl⟩;obtain⟨tt,htE⟩: ∃c,tF t=c:=⟨_,rfl⟩;rw[hcE,hgE,htE] at HNs;have HE:Hid (vI t=c∧xr t sg=g∧tF t=tt):=⟨hcE,hgE,htE⟩;clear hcE hgE htE HN
 by_cases hg:gx=gy
 ·have h1:=HSg.out
  rw[if_pos hg] at h1;subst hg;rw[h1] at HNs;clear HSg h1
  go_wp2_with fail
  refine(HP.out _ b03).mono ?_;rintro z w4 ⟨p4,rfl,o4,b4⟩;obtain⟨po,pc,hv⟩:=o4.rd.shape;subst hv;have r4:=o4.rd;have o5:=o3.l b4;have b04:=aa b03 b4;clear u0 u1 u2 u3 u4 v0 v1 v2 v3 v4 q1 d3 x3 y3 o3 b03 b4 o4 HP
  go_wp2_with fail
  refine(HNs.out _ _ _ r4).mono ?_;rintro z w6 ⟨p6,rfl,r6,b6⟩;obtain⟨ro,rc,hv⟩:=r6.shape;subst hv;have o6:=o5.l b6;have b06:=aa b04 b6;clear o5 b04 b6 r4 HNs;have cR:au (((((w6.setCell ⟨w.heap.size+1+1+1,0,none⟩ (yi c)).setCell ⟨w.heap.size+1+1+1,1,none⟩ (.bool g)).setCell ⟨w.heap.size+1+1+1,2,none⟩ (.bool tt.s)).setCell ⟨w.heap.size+1+1+1,3,none⟩ (.slice ro (Dg.dg 4294967296 tt.n).length rc)).setCell ⟨w.heap.size+1+1+1,4,none⟩ (yi tt.e)) (w.heap.size+1+1+1) 76 (yOL c g tt ro rc):=(((((o6.set 0 (yi c)).set 1 (.bool g)).set 2 (.bool tt.s)).set 3 (.slice ro (Dg.dg 4294967296 tt.n).length rc)).set 4 (yi tt.e));have bu:=((((ag w6 (w.heap.size+1+1+1) 0 (yi c)).trans (ag _ (w.heap.size+1+1+1) 1 (.bool g))).trans (ag _ (w.heap.size+1+1+1) 2 (.bool tt.s))).trans (ag _ (w.heap.size+1+1+1) 3 (.slice ro (Dg.dg 4294967296 tt.n).length rc))).trans (ag _ (w.heap.size+1+1+1) 4 (yi tt.e));have bR:=bu.below b06 (by omega);have rR:=bu.rd r6 (aX r6 o6 (by simp));have hl:=run_loadVar_mid (P:=Tryz.prog) _ (w.heap.size+1+1+1) 0 76 (yOL c g tt ro rc) _ cR.range underlying76 rfl (by kernel_rfl);have HH:Hid (_∧_∧_):=⟨hl,rR,bR⟩;obtain⟨z0,z1,z2,z3,z4⟩:=o6.cs5;have fz0:=o6.f 0;have fz1:=o6.f 1;have fz2:=o6.f 2;have fz3:=o6.f 3;have fz4:=o6.f 4;clear hl bR bu cR rR;clear o6 b06 r6
  go_wp2
  obtain⟨hl,rR,bR⟩:=HH.out;obtain⟨e1,e2,e3⟩:=HE.out;rw[e1,e2,e3];exact bodyPost_ret (aj results31 rfl rfl hl) rfl ⟨_,rfl,rR,bR⟩
 ·have h1:=HSg.out
  rw[if_neg hg] at h1;have hgn:gx= !gy:=by cases gx<;>cases gy<;>simp_all
  subst hgn
  by_cases h5:wy=5
  ·subst h5
   rw[decide_eq_true rfl] at h1;rw[h1] at HNs;clear HSg hg h1
   cases gy
   all_goals
    go_wp2_with fail
    refine(HP.out _ b03).mono ?_;rintro z w4 ⟨p4,rfl,o4,b4⟩;obtain⟨po,pc,hv⟩:=o4.rd.shape;subst hv;have r4:=o4.rd;have o5:=o3.l b4;have b04:=aa b03 b4;clear u0 u1 u2 u3 u4 v0 v1 v2 v3 v4 q1 d3 x3 y3 o3 b03 b4 o4 HP
    go_wp2_with fail
    refine(HNs.out _ _ _ r4).mono ?_;rintro z w6 ⟨p6,rfl,r6,b6⟩;obtain⟨ro,rc,hv⟩:=r6.shape;subst hv;have o6:=o5.l b6;have b06:=aa b04 b6;clear o5 b04 b6 r4 HNs;have cR:au (((((w6.setCell ⟨w.heap.size+1+1+1,0,none⟩ (yi c)).setCell ⟨w.heap.size+1+1+1,1,none⟩ (.bool g)).setCell ⟨w.heap.size+1+1+1,2,none⟩ (.bool tt.s)).setCell ⟨w.heap.size+1+1+1,3,none⟩ (.slice ro (Dg.dg 4294967296 tt.n).length rc)).setCell ⟨w.heap.size+1+1+1,4,none⟩ (yi tt.e)) (w.heap.size+1+1+1) 76 (yOL c g tt ro rc):=(((((o6.set 0 (yi c)).set 1 (.bool g)).set 2 (.bool tt.s)).set 3 (.slice ro (Dg.dg 4294967296 tt.n).length rc)).set 4 (yi tt.e));have bu:=((((ag w6 (w.heap.size+1+1+1) 0 (yi c)).trans (ag _ (w.heap.size+1+1+1) 1 (.bool g))).trans (ag _ (w.heap.size+1+1+1) 2 (.bool tt.s))).trans (ag _ (w.heap.size+1+1+1) 3 (.slice ro (Dg.dg 4294967296 tt.n).length rc))).trans (ag _ (w.heap.size+1+1+1) 4 (yi tt.e));have bR:=bu.below b06 (by omega);have rR:=bu.rd r6 (aX r6 o6 (by simp));have hl:=run_loadVar_mid (P:=Tryz.prog) _ (w.heap.size+1+1+1) 0 76 (yOL c g tt ro rc) _ cR.range underlying76 rfl (by kernel_rfl);have HH:Hid (_∧_∧_):=⟨hl,rR,bR⟩;obtain⟨z0,z1,z2,z3,z4⟩:=o6.cs5;have fz0:=o6.f 0;have fz1:=o6.f 1;have fz2:=o6.f 2;have fz3:=o6.f 3;have fz4:=o6.f 4;clear hl bR bu cR rR;clear o6 b06 r6
    go_wp2
    obtain⟨hl,rR,bR⟩:=HH.out;obtain⟨e1,e2,e3⟩:=HE.out;rw[e1,e2,e3];exact bodyPost_ret (aj results31 rfl rfl hl) rfl ⟨_,rfl,rR,bR⟩
  ·rw[decide_eq_false h5] at h1
   have h5b:(wy==5)=false:=by simpa using h5
   rw[h1] at HNs;clear HSg hg h1 h5
   cases gy
   all_goals
    go_wp2_with fail
    refine(HP.out _ b03).mono ?_;rintro z w4 ⟨p4,rfl,o4,b4⟩;obtain⟨po,pc,hv⟩:=o4.rd.shape;subst hv;have r4:=o4.rd;have o5:=o3.l b4;have b04:=aa b03 b4;clear u0 u1 u2 u3 u4 v0 v1 v2 v3 v4 q1 d3 x3 y3 o3 b03 b4 o4 HP
    go_wp2_with fail
    refine(HNs.out _ _ _ r4).mono ?_;rintro z w6 ⟨p6,rfl,r6,b6⟩;obtain⟨ro,rc,hv⟩:=r6.shape;subst hv;have o6:=o5.l b6;have b06:=aa b04 b6;clear o5 b04 b6 r4 HNs;have cR:au (((((w6.setCell ⟨w.heap.size+1+1+1,0,none⟩ (yi c)).setCell ⟨w.heap.size+1+1+1,1,none⟩ (.bool g)).setCell ⟨w.heap.size+1+1+1,2,none⟩ (.bool tt.s)).setCell ⟨w.heap.size+1+1+1,3,none⟩ (.slice ro (Dg.dg 4294967296 tt.n).length rc)).setCell ⟨w.heap.size+1+1+1,4,none⟩ (yi tt.e)) (w.heap.size+1+1+1) 76 (yOL c g tt ro rc):=(((((o6.set 0 (yi c)).set 1 (.bool g)).set 2 (.bool tt.s)).set 3 (.slice ro (Dg.dg 4294967296 tt.n).length rc)).set 4 (yi tt.e));have bu:=((((ag w6 (w.heap.size+1+1+1) 0 (yi c)).trans (ag _ (w.heap.size+1+1+1) 1 (.bool g))).trans (ag _ (w.heap.size+1+1+1) 2 (.bool tt.s))).trans (ag _ (w.heap.size+1+1+1) 3 (.slice ro (Dg.dg 4294967296 tt.n).length rc))).trans (ag _ (w.heap.size+1+1+1) 4 (yi tt.e));have bR:=bu.below b06 (by omega);have rR:=bu.rd r6 (aX r6 o6 (by simp));have hl:=run_loadVar_mid (P:=Tryz.prog) _ (w.heap.size+1+1+1) 0 76 (yOL c g tt ro rc) _ cR.range underlying76 rfl (by kernel_rfl);have HH:Hid (_∧_∧_):=⟨hl,rR,bR⟩;obtain⟨z0,z1,z2,z3,z4⟩:=o6.cs5;have fz0:=o6.f 0;have fz1:=o6.f 1;have fz2:=o6.f 2;have fz3:=o6.f 3;have fz4:=o6.f 4;clear hl bR bu cR rR;clear o6 b06 r6
    go_wp2
    obtain⟨hl,rR,bR⟩:=HH.out;obtain⟨e1,e2,e3⟩:=HE.out;rw[e1,e2,e3];exact bodyPost_ret (aj results31 rfl rfl hl) rfl ⟨_,rfl,rR,bR⟩
def RVF (w:World)(c:Int)(g:Bool)(t:ak)(fl:Int)(z:Ending)(w':World):Prop:=
 ∃s,z= .returned (.tuple #[yoV c g t.s s t.e,yi fl])∧Rd w' .i64 s (Dg.dg 65536 t.n)∧yB w w'
theorem cA (w:World)(c0:List Value)(t0:TypeId): ∃W,w.alloc (.cells c0.toArray t0)=W∧au W w.heap.size t0 c0∧yB w W:=
 ⟨_,rfl,ah w c0 t0,af w _⟩
theorem iG (w:World)(c0:List Value)(t0:TypeId)(c1:List Value)(t1:TypeId): ∃W,(w.alloc (.cells c0.toArray t0)).alloc (.cells c1.toArray t1)=W∧au W w.heap.size t0 c0∧au W (w.heap.size+1) t1 c1∧yB w W:=by
 obtain⟨W,rfl,h0,b0⟩:=cA w c0 t0;have h1:=ah (w.alloc (.cells c0.toArray t0)) c1 t1;have b1:=af (w.alloc (.cells c0.toArray t0)) (.cells c1.toArray t1);rw[World.size_alloc] at h1;exact⟨_,rfl,h0.l b1,h1,aa b0 b1⟩
theorem lG (w:World)(c0:List Value)(t0:TypeId)(c1:List Value)(t1:TypeId)(c2:List Value)(t2:TypeId): ∃W,((w.alloc (.cells c0.toArray t0)).alloc (.cells c1.toArray t1)).alloc (.cells c2.toArray t2)=W∧au W w.heap.size t0 c0∧au W (w.heap.size+1) t1 c1∧au W (w.heap.size+1+1) t2 c2∧yB w W:=by
 obtain⟨W,rfl,h0,h1,b0⟩:=iG w c0 t0 c1 t1;have h2:=ah ((w.alloc (.cells c0.toArray t0)).alloc (.cells c1.toArray t1)) c2 t2;have b2:=af ((w.alloc (.cells c0.toArray t0)).alloc (.cells c1.toArray t1)) (.cells c2.toArray t2);rw[World.size_alloc,World.size_alloc] at h2;exact⟨_,rfl,h0.l b2,h1.l b2,h2,aa b0 b2⟩
theorem pi (w:World)(c0:List Value)(t0:TypeId)(c1:List Value)(t1:TypeId)(c2:List Value)(t2:TypeId)(c3:List Value)(t3:TypeId): ∃W,(((w.alloc (.cells c0.toArray t0)).alloc (.cells c1.toArray t1)).alloc (.cells c2.toArray t2)).alloc (.cells c3.toArray t3)=W∧au W w.heap.size t0 c0∧au W (w.heap.size+1) t1 c1∧au W (w.heap.size+1+1) t2 c2∧au W (w.heap.size+1+1+1) t3 c3∧yB w W:=by
 obtain⟨W,rfl,h0,h1,h2,b0⟩:=lG w c0 t0 c1 t1 c2 t2;have h3:=ah (((w.alloc (.cells c0.toArray t0)).alloc (.cells c1.toArray t1)).alloc (.cells c2.toArray t2)) c3 t3;have b3:=af (((w.alloc (.cells c0.toArray t0)).alloc (.cells c1.toArray t1)).alloc (.cells c2.toArray t2)) (.cells c3.toArray t3);rw[World.size_alloc,World.size_alloc,World.size_alloc] at h3;exact⟨_,rfl,h0.l b3,h1.l b3,h2.l b3,h3,aa b0 b3⟩
theorem afz {P:Program}{w0 w:World}{n b:Nat}{ty:TypeId}{z0 z1 z2 z3:Value}{d:TypeDesc}(h:au w b ty [z0,z1,z2,z3])(hb:Below n w0 w)(hn:n≤b)(hu:P.underlying ty=some d)(hd:d.isRow=true)(hi:(P.info? ty).map (·.size)=some 4)(v0 v1 v2 v3:Value):
  (loadVar ty ⟨b,0,none⟩).run P ((((w.setCell ⟨b,0,none⟩ v0).setCell ⟨b,1,none⟩ v1).setCell ⟨b,2,none⟩ v2).setCell ⟨b,3,none⟩ v3)= .ok (.agg #[v0,v1,v2,v3]) ((((w.setCell ⟨b,0,none⟩ v0).setCell ⟨b,1,none⟩ v1).setCell ⟨b,2,none⟩ v2).setCell ⟨b,3,none⟩ v3)∧Below n w0 ((((w.setCell ⟨b,0,none⟩ v0).setCell ⟨b,1,none⟩ v1).setCell ⟨b,2,none⟩ v2).setCell ⟨b,3,none⟩ v3)∧But b w ((((w.setCell ⟨b,0,none⟩ v0).setCell ⟨b,1,none⟩ v1).setCell ⟨b,2,none⟩ v2).setCell ⟨b,3,none⟩ v3):=by
 have cR:au ((((w.setCell ⟨b,0,none⟩ v0).setCell ⟨b,1,none⟩ v1).setCell ⟨b,2,none⟩ v2).setCell ⟨b,3,none⟩ v3) b ty [v0,v1,v2,v3]:=((((h.set 0 v0).set 1 v1).set 2 v2).set 3 v3);have bu:=(((ag w b 0 v0).trans (ag _ b 1 v1)).trans (ag _ b 2 v2)).trans (ag _ b 3 v3);exact⟨run_loadVar_mid (P:=P) _ b 0 ty [v0,v1,v2,v3] _ cR.range hu hd hi,bu.below hb hn,bu⟩
theorem dL {P:Program}{w0 w:World}{n b:Nat}{ty:TypeId}{z0 z1 z2 z3 z4:Value}{d:TypeDesc}(h:au w b ty [z0,z1,z2,z3,z4])(hb:Below n w0 w)(hn:n≤b)(hu:P.underlying ty=some d)(hd:d.isRow=true)(hi:(P.info? ty).map (·.size)=some 5)(v0 v1 v2 v3 v4:Value):
  (loadVar ty ⟨b,0,none⟩).run P (((((w.setCell ⟨b,0,none⟩ v0).setCell ⟨b,1,none⟩ v1).setCell ⟨b,2,none⟩ v2).setCell ⟨b,3,none⟩ v3).setCell ⟨b,4,none⟩ v4)= .ok (.agg #[v0,v1,v2,v3,v4]) (((((w.setCell ⟨b,0,none⟩ v0).setCell ⟨b,1,none⟩ v1).setCell ⟨b,2,none⟩ v2).setCell ⟨b,3,none⟩ v3).setCell ⟨b,4,none⟩ v4)∧Below n w0 (((((w.setCell ⟨b,0,none⟩ v0).setCell ⟨b,1,none⟩ v1).setCell ⟨b,2,none⟩ v2).setCell ⟨b,3,none⟩ v3).setCell ⟨b,4,none⟩ v4)∧But b w (((((w.setCell ⟨b,0,none⟩ v0).setCell ⟨b,1,none⟩ v1).setCell ⟨b,2,none⟩ v2).setCell ⟨b,3,none⟩ v3).setCell ⟨b,4,none⟩ v4):=by
 have cR:au (((((w.setCell ⟨b,0,none⟩ v0).setCell ⟨b,1,none⟩ v1).setCell ⟨b,2,none⟩ v2).setCell ⟨b,3,none⟩ v3).setCell ⟨b,4,none⟩ v4) b ty [v0,v1,v2,v3,v4]:=(((((h.set 0 v0).set 1 v1).set 2 v2).set 3 v3).set 4 v4);have bu:=((((ag w b 0 v0).trans (ag _ b 1 v1)).trans (ag _ b 2 v2)).trans (ag _ b 3 v3)).trans (ag _ b 4 v4);exact⟨run_loadVar_mid (P:=P) _ b 0 ty [v0,v1,v2,v3,v4] _ cR.range hu hd hi,bu.below hb hn,bu⟩
theorem afB {w:World}{b:Nat}{ty:TypeId}{z0 z1 z2 z3:Value}(h:au w b ty [z0,z1,z2,z3]):(w.cell? ⟨b,0,none⟩=some z0∧w.cell? ⟨b,1,none⟩=some z1∧w.cell? ⟨b,2,none⟩=some z2∧w.cell? ⟨b,3,none⟩=some z3)∧w.frozen? ⟨b,0,none⟩=false∧w.frozen? ⟨b,1,none⟩=false∧w.frozen? ⟨b,2,none⟩=false∧w.frozen? ⟨b,3,none⟩=false:=
 ⟨⟨h.c 0 rfl,h.c 1 rfl,h.c 2 rfl,h.c 3 rfl⟩,h.f 0,h.f 1,h.f 2,h.f 3⟩
theorem dN {w:World}{b:Nat}{ty:TypeId}{z0 z1 z2 z3 z4:Value}(h:au w b ty [z0,z1,z2,z3,z4]):(w.cell? ⟨b,0,none⟩=some z0∧w.cell? ⟨b,1,none⟩=some z1∧w.cell? ⟨b,2,none⟩=some z2∧w.cell? ⟨b,3,none⟩=some z3∧w.cell? ⟨b,4,none⟩=some z4)∧w.frozen? ⟨b,0,none⟩=false∧w.frozen? ⟨b,1,none⟩=false∧w.frozen? ⟨b,2,none⟩=false∧w.frozen? ⟨b,3,none⟩=false∧w.frozen? ⟨b,4,none⟩=false:=
 ⟨⟨h.c 0 rfl,h.c 1 rfl,h.c 2 rfl,h.c 3 rfl,h.c 4 rfl⟩,h.f 0,h.f 1,h.f 2,h.f 3,h.f 4⟩
theorem kY {w:World}{b:Nat}{ty:TypeId}{vs cs:List Value}(h:au w b ty vs)(o n:Nat)(e:(vs.drop o).take n=cs):w.rangeAt b o cs:=fun j v hj=>by
 subst e;refine h.c (o+j) ?_;rw[List.getElem?_take] at hj
 split at hj
 ·rw[List.getElem?_drop] at hj
  exact hj
 ·cases hj
theorem dZ {w w':World}{b g o:Nat}{cs:List Value}(bu:But b w w')(h:w.rangeAt g o cs)(hg:g≠b):w'.rangeAt g o cs:=fun j v hj=>by rw[bu.c (by exact hg)];exact h j v hj
theorem tk {P:Program}{md:Region.Mode}{ops:Array Oper}{Q:Exit→Act→World→Prop}{S:World→Prop}{oi:Oper}{fuel:Nat}{listed:Array Bool}{a:Act}{w:World}(i:Nat)(v:Value)(hi:ops[i]? =some oi)
  (hb:(Region.noSelect ops&&(Region.free md ops listed i&&((Region.ready md ops listed).contains i&&Region.wanted oi (yielded ops a.tmps))))=true)
  (hQ: ∀c a w,Q (.panic c) (a.put oi.dst v) w→Q (.panic c) a w) (hv: ∀w0,S w0→(execOp a.eval oi).run P w0= .ok (.value v) w0) (hS:S w)
  (h:wpAnyH P md ops Q S fuel (listed.setIfInBounds i true) (a.put oi.dst v) w):wpAnyH P md ops Q S (fuel+1) listed a w:=by
 simp only[Bool.and_eq_true] at hb;exact wpAnyH_take hi hb.1 hb.2.1 hb.2.2.1 hQ (Or.inl ⟨hb.2.2.2,hv⟩) hS h
theorem mu {w:World}{b n:Nat}{ty:TypeId}{v:Value}(h:Rd w .i64 v (Dg.dg 65536 n))(hl:au w b ty (yoL 0 false false (.slice none 0 0) 0)):wF b v (Dg.dg 65536 n):=
 cq h (Dg.norm_dg _ _ (by omega)) hl (fun x hx n hn=>by simp at hx;rcases hx with rfl|rfl|rfl|rfl|rfl<;>simp;all_goals omega)
end Go.Proofs.YtbdokgamhinajaaGreatDoor

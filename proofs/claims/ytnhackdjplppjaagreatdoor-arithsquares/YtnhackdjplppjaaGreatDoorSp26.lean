/-
  Texts laid together: Ar3, Ar6, As2, Aw0.
-/
import Derived.Test.YtnhackdjplppjaaGreatDoorSp25
set_option maxRecDepth 100000
namespace Go.Proofs.YtnhackdjplppjaaGreatDoor
open Go.RowKit
set_option maxHeartbeats 12800000 in
theorem operands_W (n wy fam R D L G:Int) (gr:Bool) (ps:List ByteArray) (pb:Nat) (w:World) (hps:LocE w pb 9 (ps.map Value.string)) (hm:ps.length≤3)
  (HR: ∀p w1,Below w.heap.size w w1→Calls Tryz.prog 137 #[yi n,.string p] w1 (WRes w1 ((decC n p:Nat):Int) (decG n p) (decM n p) (decP n p) (opT n p) (patC n p))):
  Calls Tryz.prog 81 #[ykV n wy fam R D L G gr,.slice (some ⟨pb,0,none⟩) ps.length ps.length] w (OpsRes w n ps):=by
 replace HR:Hid _:=HR;obtain⟨i0,hi,hz0,hz1,hz2⟩:=info_parts (show(Tryz.prog.info? 98).map (fun i=>(i.zero,i.size,i.bytes))=some (some (yoV 0 false false (.slice none 0 0) 0),5,56) by kernel_rfl)
 have HI:Hid (_∧_∧_∧_):=⟨hi,hz0,hz1,hz2⟩;have hpb:=hps.lt;have bd0:=below_alloc w (.cells (ykL n wy fam R D L G gr).toArray 93);have d0:=locE_new w (ykL n wy fam R D L G gr) 93;have s0:=hps.later bd0;obtain⟨m,hmE⟩: ∃m,ps.length=m:=⟨_,rfl⟩;rw[hmE] at hm⊢;have HM:Hid (ps.length=m):=hmE;clear hps hmE hi hz0 hz1 hz2
 go_enter Tryz.func81,Tryz.ntmps81
 go_wp2
 go_loopw [6,14] (fun lv iv wr=> ∃i:Nat,iv=yi (i:Int)∧i≤m∧OpsI w n ps i lv wr∧Below w.heap.size w wr∧LocE wr w.heap.size 93 (ykL n wy fam R D L G gr)∧LocE wr pb 9 (ps.map Value.string)) (fun _ iv _=>m-(intOf iv).toNat)
 case atStart=>exact⟨0,rfl,by omega,⟨[],World.ownsRow_nil _ _ _ 5,rfl,rfl⟩,bd0,d0,s0⟩
 case round=>
  obtain⟨i,rfl,him,hO,bel,dl,sl⟩:=hrel
  by_cases hlt:i<m
  ·have hil:i<ps.length:=by have:=HM.out;omega
   obtain⟨p,hp⟩: ∃p,ps[i]? =some p:=⟨_,List.getElem?_eq_getElem hil⟩;have y:=sl.cell i (v:= .string p) (by rw[List.getElem?_map,hp];rfl);have x0:=dl.cell 0 rfl;have HRp:=HR.out p;obtain⟨c,ec⟩: ∃c:Int,((decC n p:Nat):Int)=c:=⟨_,rfl⟩;obtain⟨gg,eg⟩: ∃c,decG n p=c:=⟨_,rfl⟩;obtain⟨m1,em⟩: ∃c,decM n p=c:=⟨_,rfl⟩;obtain⟨p1,ep⟩: ∃c,decP n p=c:=⟨_,rfl⟩;obtain⟨t,et⟩: ∃c,opT n p=c:=⟨_,rfl⟩;obtain⟨er,ee⟩: ∃c,patC n p=c:=⟨_,rfl⟩;rw[ec,eg,em,ep,et,ee] at HRp;have HP:Hid (ps[i]? =some p∧((decC n p:Nat):Int)=c∧decG n p=gg∧opT n p=t∧patC n p=er):=⟨hp,ec,eg,et,ee⟩;replace HRp:Hid _:=HRp;clear hp hil ec eg em ep et ee
   go_wp2_with fail
   refine(HRp.out _ bel).mono ?_;rintro z w1 ⟨v,x,rfl,rv,rx,fx,b1⟩;obtain⟨vo,vc,hv⟩:=rv.shape;subst hv;obtain⟨xo,xc,hx⟩:=rx.shape;subst hx;have a1:=below_alloc w1 (.cells (yvL c gg (.slice vo (Dg.dg 4294967296 m1).length vc) p1).toArray 73);have a2:=below_alloc (w1.alloc (.cells (yvL c gg (.slice vo (Dg.dg 4294967296 m1).length vc) p1).toArray 73)) (.cells (yDL t xo xc).toArray 82);have bb:=below_trans (below_trans b1 a1) a2;have q9:=(locE_new w1 (yvL c gg (.slice vo (Dg.dg 4294967296 m1).length vc) p1) 73).later a2;have q10:=locE_new (w1.alloc (.cells (yvL c gg (.slice vo (Dg.dg 4294967296 m1).length vc) p1).toArray 73)) (yDL t xo xc) 82;rw[World.size_alloc] at q10;have rx1:=(rx.later a1).later a2;have hO1:=hO.later bb;have dl1:=dl.later bb;have sl1:=sl.later bb;have bel1:=below_trans bel bb;have hbl: ∀b,u6.ownBlock=some b→b<wr.heap.size:=fun b hb=>by
    obtain⟨cs,h1,-⟩:=hO;exact(World.ownsRow.lt h1 b hb).2
   have hsz:wr.heap.size≤w1.heap.size:=b1.size;have hws:w.heap.size≤wr.heap.size:=bel.size;clear b1 a1 a2 bb rv rx hO dl sl bel y x0
   go_upto_region 6 with fail
   generalize(w1.alloc (.cells (yvL c gg (.slice vo (Dg.dg 4294967296 m1).length vc) p1).toArray 73)).alloc (.cells (yDL t xo xc).toArray 82)=W at q9 q10 rx1 hO1 dl1 sl1 bel1⊢;generalize w1.heap.size=Q at q9 q10 hsz⊢
   by_cases he:er=0
   ·subst he
    go_wp2_with fail
    have qd:=q9.drew;have xd:=q10.drew;refine wp_region_held_drew (S:=fun wq=>wq.rangeAt Q 0 (yvL c gg (.slice vo (Dg.dg 4294967296 m1).length vc) p1)∧wq.rangeAt (Q+1) 0 (yDL t xo xc)) (by kernel_rfl) ⟨qd.range,xd.range⟩ (fun hS0=> ?_)
    refine wpAnyH_take (i:=0) (v:=u6) rfl (by kernel_rfl) (by kernel_rfl) (by kernel_rfl) (fun _ _ _ h=>h) (Or.inl ⟨by kernel_rfl,fun w0 _=>by kernel_rfl⟩) hS0 ?_
    refine wpAnyH_take (i:=1) (v:= .pointer (some ⟨Q,0,none⟩)) rfl (by kernel_rfl) (by kernel_rfl) (by kernel_rfl) (fun _ _ _ h=>h) (Or.inl ⟨by kernel_rfl,fun w0 _=>by kernel_rfl⟩) hS0 ?_
    refine wpAnyH_take (i:=2) (v:=yi c) rfl (by kernel_rfl) (by kernel_rfl) (by kernel_rfl) (fun _ _ _ h=>h) (Or.inl ⟨by kernel_rfl,fun w0 hw0=>xload 3 (.tmp 30) rfl Q 0 (by kernel_rfl) _ _ Tryz.underlying3 rfl (hw0.1 0 _ rfl)⟩) hS0 ?_
    refine wpAnyH_take (i:=3) (v:= .pointer (some ⟨Q,1,none⟩)) rfl (by kernel_rfl) (by kernel_rfl) (by kernel_rfl) (fun _ _ _ h=>h) (Or.inl ⟨by kernel_rfl,fun w0 _=>by kernel_rfl⟩) hS0 ?_
    refine wpAnyH_take (i:=4) (v:= .bool gg) rfl (by kernel_rfl) (by kernel_rfl) (by kernel_rfl) (fun _ _ _ h=>h) (Or.inl ⟨by kernel_rfl,fun w0 hw0=>xload 4 (.tmp 32) rfl Q 1 (by kernel_rfl) _ _ Tryz.underlying4 rfl (hw0.1 1 _ rfl)⟩) hS0 ?_
    refine wpAnyH_take (i:=5) (v:=(yDV t xo xc)) rfl (by kernel_rfl) (by kernel_rfl) (by kernel_rfl) (fun _ _ _ h=>h) (Or.inl ⟨by kernel_rfl,fun w0 hw0=>xrow 82 (.tmp 10) rfl (Q+1) 0 (by kernel_rfl) _ _ hw0.2 Tryz.underlying82 rfl (by kernel_rfl)⟩) hS0 ?_
    refine wpAnyH_ready (rs:=[6]) (by kernel_rfl) (by simp) ?_;refine AllReadyH.cons rfl (fun K hK=> ?_) AllReadyH.nil
    go_simp
    refine(of_dy _ _ _ _ _ _).mono ?_;rintro z w2 ⟨rfl,b2⟩;have bW:Below W.heap.size W w2:=below_trans ((Below.refl _ _).drew) b2;have q92:=q9.later bW;have q102:=q10.later bW;have rx2:=rx1.later bW;have hO2:=hO1.later bW;have dl2:=dl1.later bW;have sl2:=sl1.later bW;have bel2:=below_trans bel1 bW;have hszW:=bW.size;refine hK.out _ _ ⟨q92.range,q102.range⟩ (fun hS6=> ?_)
    clear hK K qd xd b2 bW q9 q10 rx1 hO1 dl1 sl1 bel1;refine wpAnyH_take (i:=7) (v:=(yOV c gg t xo xc)) rfl (by kernel_rfl) (by kernel_rfl) (by kernel_rfl) (fun _ _ _ h=>h) (Or.inl ⟨by kernel_rfl,fun w0 _=>by kernel_rfl⟩) hS6 ?_
    refine wpAnyH_ready (rs:=[8]) (by kernel_rfl) (by simp) ?_;refine AllReadyH.cons rfl (fun K hK=> ?_) AllReadyH.nil
    go_simp
    have al:=below_alloc w2 (.cells (yOL c gg t xo xc).toArray 98);have nl:=locE_new w2 (yOL c gg t xo xc) 98;have q93:=q92.later al;have q103:=q102.later al;have rx3:=rx2.later al;have hO3:=hO2.later al;have dl3:=dl2.later al;have sl3:=sl2.later al;have bel3:=below_trans bel2 al;refine hK.out _ _ ⟨q93.range,q103.range⟩ (fun hS8=> ?_)
    clear hK K al q92 q102 rx2 hO2 dl2 sl2 bel2;generalize w2.alloc (.cells (yOL c gg t xo xc).toArray 98)=W3 at nl q93 q103 rx3 hO3 dl3 sl3 bel3 hS8⊢;obtain⟨cs,k1,k2,k3⟩:=hO3;obtain⟨hi,hz0,hz1,hz2⟩:=HI.out;have hw3:w.heap.size+1≤W3.heap.size:=dl3.lt;obtain⟨v',w4,hrun,hown',hgrow,-,hat⟩:=run_append_own_at (P:=Tryz.prog) W3 (w.heap.size+1) 94 94 98 i0 _ 5 56 Tryz.underlying94 hi hz0 hz1 hz2 rfl (by omega) u6 i cs k1 ⟨w2.heap.size,0,none⟩ 1 1 (yOL c gg t xo xc) rfl (fun j u hj=>by have:=nl.cell j hj;rw[Addr.add_mid,Nat.zero_add];exact this) (fun u hu=>by simp at hu;rcases hu with rfl|rfl|rfl|rfl|rfl<;>rfl) (by unfold maxLen;omega) (by omega) hw3
    refine wpAnyH_ready (rs:=[9]) (by kernel_rfl) (by simp) ?_;refine AllReadyH.cons rfl (fun K hK=> ?_) AllReadyH.nil
    refine step_run_append rfl (.tmp 29) (.tmp 37) 94 rfl _ _ v' w4 rfl rfl hrun ?_;have hlp:pb<w.heap.size:=hpb;have hgb: ∀g,u6.ownBlock=some g→w.heap.size<g∧g<wr.heap.size:=fun g hg=>⟨(World.ownsRow.lt k1 g hg).1,hbl g hg⟩
    have q94:=q93.grownO hgrow (fun g hg=>by have:=hgb g hg;omega)
    have q104:=q103.grownO hgrow (fun g hg=>by have:=hgb g hg;omega)
    have dl4:=dl3.grownO hgrow (fun g hg=>by have:=hgb g hg;omega)
    have sl4:=sl3.grownO hgrow (fun g hg=>by have:=hgb g hg;omega)
    have bel4:=bel3.grown hgrow (by omega) (fun g hg=>by have:=hgb g hg;omega)
    have hOps:OpsI w n ps (i+1) v' w4:=by
     obtain⟨h1,h2,h3,h4,h5⟩:=HP.out;refine ops_more (x:= .slice xo (Dg.dg 4294967296 t.n).length xc) h1 h5 k2 k3 ⟨⟨xo,xc,by rw[h4]⟩,by rw[h4];exact rx3,fun b hb=> ?_⟩ ?_ hgrow hat
     ·intro _ a u v hv
      have:=fx a u v hv;have:=hgb b hb;omega
     ·unfold opC
      rw[h2,h3,h4];exact hown'
    refine hK.out _ _ ⟨q94.range,q104.range⟩ (fun hS9=> ?_)
    clear hK K q94 q104 q93 q103 dl3 sl3 bel3 hgrow hown' hat hrun rx3 nl fx k1 k2 k3 HP HRp HI;refine wpAnyH_take (i:=10) (v:=v') rfl (by kernel_rfl) (by kernel_rfl) (by kernel_rfl) (fun _ _ _ h=>h) (Or.inl ⟨by kernel_rfl,fun w0 _=>by go_simp⟩) hS9 ?_
    simp only[Act.put,List.getElem_toArray,List.getElem_cons_succ,List.getElem_cons_zero,List.setIfInBounds_toArray,List.set_cons_zero,List.set_cons_succ];refine wpAnyH_done (by kernel_rfl) ?_ _
    go_wp2
    go_roundw
    case rel=>exact⟨i+1,by go_num,by omega,hOps,bel4,dl4,sl4⟩
    case measure=>simp[intOf];omega
   ·have hef:(er==0)=false:=by simpa using he
    go_wp2
    go_ret2
    obtain⟨h1,-,-,-,h5⟩:=HP.out;obtain⟨cs,-,-,k3⟩:=hO1;have hil:i<ps.length:=by have:=HM.out;omega
    have hd:ps.drop i=p::ps.drop (i+1):=by
     rw[List.drop_eq_getElem_cons hil]
     congr 1
     rw[List.getElem?_eq_getElem hil] at h1;exact Option.some.inj h1
    have hE:errL n ps=er:=by
     rw[k3,hd,←h5];exact if_neg (by rw[h5];exact he)
    refine .inr ⟨by rw[hE];exact he, ?_,bel1⟩;rw[hE];rfl
  ·have HE:Hid (i=m):=(by omega:i=m)
   go_wp2
   go_ret2
   obtain⟨cs,k1,k2,k3⟩:=hO;have h1:=HE.out;have h2:=HM.out;subst h1;rw[List.take_of_length_le (by omega)] at k2;rw[List.drop_of_length_le (by omega)] at k3;refine .inl ⟨k3,u6,cs,rfl, ?_,k2,bel⟩;rw[h2];exact own_row_wider k1 (by omega)
end Go.Proofs.YtnhackdjplppjaaGreatDoor
namespace Go.Proofs.YtnhackdjplppjaaGreatDoor
open Go.RowKit
set_option maxHeartbeats 1600000 in
theorem oinfinite_any (c:Int) (g s:Bool) (ao:Option Addr) (la ca:Nat) (e:Int) (w:World):Calls Tryz.prog 109 #[yoV c g s (.slice ao la ca) e] w fun z w'=>z= .returned (.bool (c==3))∧Below w.heap.size w w':=by
 have b0:=below_alloc w (.cells (yoL c g s (.slice ao la ca) e).toArray 98)
 go_enter Tryz.func109,Tryz.ntmps109
 go_wp2
 go_ret
 exact⟨rfl,b0⟩
set_option maxHeartbeats 3200000 in
theorem compareN_W (cx cy r:Int) (gx sx gy sy:Bool) (xo yo:Option Addr) (lx kx ly ky:Nat) (ex ey:Int) (w:World) (hx:(cx==3)=false) (hy:(cy==3)=false)
  (HC: ∀w1,Below w.heap.size w w1→Calls Tryz.prog 141 #[ydV sx (.slice xo lx kx) ex,ydV sy (.slice yo ly ky) ey] w1 fun z w'=>z= .returned (yi r)∧Below w1.heap.size w1 w'):
  Calls Tryz.prog 83 #[yoV cx gx sx (.slice xo lx kx) ex,yoV cy gy sy (.slice yo ly ky) ey] w fun z w'=>z= .returned (yi r)∧Below w.heap.size w w':=by
 replace HC:Hid _:=HC;have HX:Hid (∀w1,Calls Tryz.prog 109 #[yoV cx gx sx (.slice xo lx kx) ex] w1 fun z w'=>z= .returned (.bool (cx==3))∧Below w1.heap.size w1 w'):=fun w1=>oinfinite_any cx gx sx xo lx kx ex w1
 have HY:Hid (∀w1,Calls Tryz.prog 109 #[yoV cy gy sy (.slice yo ly ky) ey] w1 fun z w'=>z= .returned (.bool (cy==3))∧Below w1.heap.size w1 w'):=fun w1=>oinfinite_any cy gy sy yo ly ky ey w1
 rw[hx] at HX;rw[hy] at HY;have bx:=below_alloc w (.cells (yoL cx gx sx (.slice xo lx kx) ex).toArray 98);have by0:=below_alloc (w.alloc (.cells (yoL cx gx sx (.slice xo lx kx) ex).toArray 98)) (.cells (yoL cy gy sy (.slice yo ly ky) ey).toArray 98);have l0:=(locE_new w (yoL cx gx sx (.slice xo lx kx) ex) 98).later by0;have m0:=locE_new (w.alloc (.cells (yoL cx gx sx (.slice xo lx kx) ex).toArray 98)) (yoL cy gy sy (.slice yo ly ky) ey) 98;rw[World.size_alloc] at m0;have b0:=below_trans bx by0;clear bx by0 hx hy
 go_enter Tryz.func83,Tryz.ntmps83
 go_upto_region 1 with fail
 generalize(w.alloc (.cells (yoL cx gx sx (.slice xo lx kx) ex).toArray 98)).alloc (.cells (yoL cy gy sy (.slice yo ly ky) ey).toArray 98)=W0 at l0 m0 b0⊢;obtain⟨x0,x1,x2,x3,x4⟩:=l0.cs5;obtain⟨y0,y1,y2,y3,y4⟩:=m0.cs5
 go_wp2_with fail
 refine(HX.out _).mono ?_;rintro z w1 ⟨rfl,b1⟩;have l1:=l0.later b1;have m1:=m0.later b1;have b01:=below_trans b0 b1;clear x0 x1 x2 x3 x4 y0 y1 y2 y3 y4 l0 m0 b0 b1 HX;obtain⟨x0,x1,x2,x3,x4⟩:=l1.cs5;obtain⟨y0,y1,y2,y3,y4⟩:=m1.cs5
 go_wp2_with fail
 refine(HY.out _).mono ?_;rintro z w2 ⟨rfl,b2⟩;have l2:=l1.later b2;have m2:=m1.later b2;have b02:=below_trans b01 b2;clear x0 x1 x2 x3 x4 y0 y1 y2 y3 y4 l1 m1 b01 b2 HY;obtain⟨x0,x1,x2,x3,x4⟩:=l2.cs5;obtain⟨y0,y1,y2,y3,y4⟩:=m2.cs5
 go_wp2_with fail
 refine(HC.out _ b02).mono ?_;rintro z w3 ⟨rfl,b3⟩;have b03:=below_trans b02 b3
 go_wp2
 go_ret
 exact⟨rfl,b03⟩
end Go.Proofs.YtnhackdjplppjaaGreatDoor
namespace Go.Proofs.YtnhackdjplppjaaGreatDoor
open Go.RowKit
def OpRes (w:World) (c:Int) (g:Bool) (t:Trip) (z:Ending) (w':World):Prop:=
 ∃v,z= .returned (yoV c g t.s v t.e)∧Rd w' .u32 v (Dg.dg 4294967296 t.n)∧Below w.heap.size w w'
def OpRes2 (w:World) (c:Int) (g:Bool) (t:Trip) (fl:Int) (z:Ending) (w':World):Prop:=
 ∃v,z= .returned (.tuple #[yoV c g t.s v t.e,yi fl])∧Rd w' .u32 v (Dg.dg 4294967296 t.n)∧Below w.heap.size w w'
def numC (t:Trip):Int:=if t.n=0 then 1 else 2
def numG (t:Trip) (ng:Bool):Bool:=if t.n=0 then ng else t.s
def numT (t:Trip):Trip:=if t.n=0 then⟨false,0,0⟩ else t
set_option maxHeartbeats 3200000 in
theorem numberOf_any (t:Trip) (ng:Bool) (to0:Option Addr) (tc:Nat) (w:World) (hr:Rd w .u32 (.slice to0 (Dg.dg 4294967296 t.n).length tc) (Dg.dg 4294967296 t.n)):
  Calls Tryz.prog 110 #[yDV t to0 tc,.bool ng] w (OpRes w (numC t) (numG t ng) (numT t)):=by
 have HS:Hid (∀w1,Below w.heap.size w w1→Calls Tryz.prog 166 #[yDV t to0 tc] w1 fun z w'=>z= .returned (yi (signT t))∧Below w1.heap.size w1 w'):=fun w1 b=>dsign_any _ t w1 ⟨_,rfl,hr.later b⟩
 have ax:=below_alloc w (.cells (yDL t to0 tc).toArray 96);have ao:=below_alloc (w.alloc (.cells (yDL t to0 tc).toArray 96)) (.cells (yoL 0 false false (.slice none 0 0) 0).toArray 98);have x0:=(locE_new w (yDL t to0 tc) 96).later ao;have o0:=locE_new (w.alloc (.cells (yDL t to0 tc).toArray 96)) (yoL 0 false false (.slice none 0 0) 0) 98;rw[World.size_alloc] at o0;have b0:=below_trans ax ao;have r0:=hr.later b0;clear ax ao hr;unfold numC numG numT
 by_cases h0:t.n=0
 ·rw[if_pos h0,if_pos h0,if_pos h0]
  have hs:signT t=0:=if_pos h0;rw[hs] at HS;clear h0 hs
  go_enter Tryz.func110,Tryz.ntmps110
  go_upto_region 1 with fail
  generalize(w.alloc (.cells (yDL t to0 tc).toArray 96)).alloc (.cells (yoL 0 false false (.slice none 0 0) 0).toArray 98)=W0 at x0 o0 b0 r0⊢;obtain⟨y0,y1,y2⟩:=x0.cs3
  go_wp2_with fail
  refine(HS.out _ b0).mono ?_;rintro z w1 ⟨rfl,b1⟩;have o1:=o0.later b1;have b01:=below_trans b0 b1;clear y0 y1 y2 x0 o0 b0 b1 HS r0;have cR:LocE (((((w1.setCell ⟨w.heap.size+1,0,none⟩ (yi 1)).setCell ⟨w.heap.size+1,1,none⟩ (.bool ng)).setCell ⟨w.heap.size+1,2,none⟩ (.bool false)).setCell ⟨w.heap.size+1,3,none⟩ (.slice none 0 0)).setCell ⟨w.heap.size+1,4,none⟩ (yi 0)) (w.heap.size+1) 98 (yoL 1 ng false (.slice none 0 0) 0):=(((((o1.set 0 (yi 1)).set 1 (.bool ng)).set 2 (.bool false)).set 3 (.slice none 0 0)).set 4 (yi 0));have bu:=((((but_set w1 (w.heap.size+1) 0 (yi 1)).trans (but_set _ (w.heap.size+1) 1 (.bool ng))).trans (but_set _ (w.heap.size+1) 2 (.bool false))).trans (but_set _ (w.heap.size+1) 3 (.slice none 0 0))).trans (but_set _ (w.heap.size+1) 4 (yi 0));have bR:=bu.below b01 (by omega);have hl:=run_loadVar_mid (P:=Tryz.prog) _ (w.heap.size+1) 0 98 (yoL 1 ng false (.slice none 0 0) 0) _ cR.range Tryz.underlying98 rfl (by kernel_rfl);have HH:Hid (_∧_):=⟨hl,bR⟩;obtain⟨z0,z1,z2,z3,z4⟩:=o1.cs5;have fz0:=o1.free 0;have fz1:=o1.free 1;have fz2:=o1.free 2;have fz3:=o1.free 3;have fz4:=o1.free 4;clear hl bR bu cR;clear o1 b01
  go_wp2
  obtain⟨hl,bR⟩:=HH.out;exact bodyPost_ret (results_one Tryz.results110 rfl hl) rfl ⟨_,rfl,rd_nil _ _,bR⟩
 ·rw[if_neg h0,if_neg h0,if_neg h0]
  obtain⟨sg,hs⟩: ∃s,signT t=s:=⟨_,rfl⟩;have hs1:(sg==0)=false:=by
   rw[←hs];unfold signT;rw[if_neg h0]
   cases t.s<;>rfl
  rw[hs] at HS;clear h0 hs
  go_enter Tryz.func110,Tryz.ntmps110
  go_upto_region 1 with fail
  generalize(w.alloc (.cells (yDL t to0 tc).toArray 96)).alloc (.cells (yoL 0 false false (.slice none 0 0) 0).toArray 98)=W0 at x0 o0 b0 r0⊢;obtain⟨y0,y1,y2⟩:=x0.cs3
  go_wp2_with fail
  refine(HS.out _ b0).mono ?_;rintro z w1 ⟨rfl,b1⟩;have o1:=o0.later b1;have x1:=x0.later b1;have r1:=r0.later b1;have b01:=below_trans b0 b1;clear y0 y1 y2 x0 o0 b0 b1 HS r0;obtain⟨y0,y1,y2⟩:=x1.cs3;have cR:LocE (((((w1.setCell ⟨w.heap.size+1,0,none⟩ (yi 2)).setCell ⟨w.heap.size+1,1,none⟩ (.bool t.s)).setCell ⟨w.heap.size+1,2,none⟩ (.bool t.s)).setCell ⟨w.heap.size+1,3,none⟩ (.slice to0 (Dg.dg 4294967296 t.n).length tc)).setCell ⟨w.heap.size+1,4,none⟩ (yi t.e)) (w.heap.size+1) 98 (yOL 2 t.s t to0 tc):=(((((o1.set 0 (yi 2)).set 1 (.bool t.s)).set 2 (.bool t.s)).set 3 (.slice to0 (Dg.dg 4294967296 t.n).length tc)).set 4 (yi t.e));have bu:=((((but_set w1 (w.heap.size+1) 0 (yi 2)).trans (but_set _ (w.heap.size+1) 1 (.bool t.s))).trans (but_set _ (w.heap.size+1) 2 (.bool t.s))).trans (but_set _ (w.heap.size+1) 3 (.slice to0 (Dg.dg 4294967296 t.n).length tc))).trans (but_set _ (w.heap.size+1) 4 (yi t.e));have bR:=bu.below b01 (by omega);have rR:=bu.rd r1 (rd_offU r1 o1 (by simp));have hl:=run_loadVar_mid (P:=Tryz.prog) _ (w.heap.size+1) 0 98 (yOL 2 t.s t to0 tc) _ cR.range Tryz.underlying98 rfl (by kernel_rfl);have HH:Hid (_∧_∧_):=⟨hl,rR,bR⟩;obtain⟨z0,z1,z2,z3,z4⟩:=o1.cs5;have fz0:=o1.free 0;have fz1:=o1.free 1;have fz2:=o1.free 2;have fz3:=o1.free 3;have fz4:=o1.free 4;clear hl bR bu cR rR;clear o1 b01 x1 r1
  go_wp2
  obtain⟨hl,rR,bR⟩:=HH.out;exact bodyPost_ret (results_one Tryz.results110 rfl hl) rfl ⟨_,rfl,rR,bR⟩
set_option maxHeartbeats 6400000 in
theorem dsum_num (n wy fam R D L G cx cy:Int) (gr gx gy:Bool) (x y:Trip) (xo yo:Option Addr) (xc yc:Nat) (sg:Bool) (w:World) (hsg:sg=if gx=gy then gx else decide (wy=5)) (hx:(cx==3)=false) (hy:(cy==3)=false)
  (HP: ∀w1,Below w.heap.size w w1→Calls Tryz.prog 111 #[yDV x xo xc,yDV y yo yc] w1 (DRes w1 (plusT x y))):
  Calls Tryz.prog 55 #[ykV n wy fam R D L G gr,yOV cx gx x xo xc,yOV cy gy y yo yc] w (OpRes2 w (numC (plusT x y)) (numG (plusT x y) sg) (numT (plusT x y)) 0):=by
 replace HP:Hid _:=HP;have HSg:Hid (sg=if gx=gy then gx else decide (wy=5)):=hsg
 clear hsg;have HX:Hid (∀w1,Calls Tryz.prog 109 #[yOV cx gx x xo xc] w1 fun z w'=>z= .returned (.bool (cx==3))∧Below w1.heap.size w1 w'):=fun w1=>oinfinite_any _ _ _ _ _ _ _ w1
 have HY:Hid (∀w1,Calls Tryz.prog 109 #[yOV cy gy y yo yc] w1 fun z w'=>z= .returned (.bool (cy==3))∧Below w1.heap.size w1 w'):=fun w1=>oinfinite_any _ _ _ _ _ _ _ w1
 have HN:Hid (∀to0 tc ng w1,Rd w1 .u32 (.slice to0 (Dg.dg 4294967296 (plusT x y).n).length tc) (Dg.dg 4294967296 (plusT x y).n)→Calls Tryz.prog 110 #[.agg #[.bool (plusT x y).s,.slice to0 (Dg.dg 4294967296 (plusT x y).n).length tc,yi (plusT x y).e],.bool ng] w1 (OpRes w1 (numC (plusT x y)) (numG (plusT x y) ng) (numT (plusT x y)))):=fun to0 tc ng w1 h=>numberOf_any (plusT x y) ng to0 tc w1 h
 rw[hx] at HX;rw[hy] at HY;have a1:=below_alloc w (.cells (ykL n wy fam R D L G gr).toArray 93);have a2:=below_alloc (w.alloc (.cells (ykL n wy fam R D L G gr).toArray 93)) (.cells (yOL cx gx x xo xc).toArray 98);have a3:=below_alloc ((w.alloc (.cells (ykL n wy fam R D L G gr).toArray 93)).alloc (.cells (yOL cx gx x xo xc).toArray 98)) (.cells (yOL cy gy y yo yc).toArray 98);have a4:=below_alloc (((w.alloc (.cells (ykL n wy fam R D L G gr).toArray 93)).alloc (.cells (yOL cx gx x xo xc).toArray 98)).alloc (.cells (yOL cy gy y yo yc).toArray 98)) (.cells (yoL 0 false false (.slice none 0 0) 0).toArray 98);have d0:=(((locE_new w (ykL n wy fam R D L G gr) 93).later a2).later a3).later a4;have x0:=((locE_new (w.alloc (.cells (ykL n wy fam R D L G gr).toArray 93)) (yOL cx gx x xo xc) 98).later a3).later a4;have y0:=(locE_new ((w.alloc (.cells (ykL n wy fam R D L G gr).toArray 93)).alloc (.cells (yOL cx gx x xo xc).toArray 98)) (yOL cy gy y yo yc) 98).later a4;have o0:=locE_new (((w.alloc (.cells (ykL n wy fam R D L G gr).toArray 93)).alloc (.cells (yOL cx gx x xo xc).toArray 98)).alloc (.cells (yOL cy gy y yo yc).toArray 98)) (yoL 0 false false (.slice none 0 0) 0) 98;rw[World.size_alloc] at x0;rw[World.size_alloc,World.size_alloc] at y0;rw[World.size_alloc,World.size_alloc,World.size_alloc] at o0;have b0:=below_trans (below_trans (below_trans a1 a2) a3) a4;clear a1 a2 a3 a4 hx hy;obtain⟨t,ht⟩: ∃t,plusT x y=t:=⟨_,rfl⟩;rw[ht] at HP HN⊢;clear ht
 go_enter Tryz.func55,Tryz.ntmps55
 go_upto_block 0 with fail
 generalize(((w.alloc (.cells (ykL n wy fam R D L G gr).toArray 93)).alloc (.cells (yOL cx gx x xo xc).toArray 98)).alloc (.cells (yOL cy gy y yo yc).toArray 98)).alloc (.cells (yoL 0 false false (.slice none 0 0) 0).toArray 98)=W0 at d0 x0 y0 o0 b0⊢;obtain⟨u0,u1,u2,u3,u4⟩:=x0.cs5
 go_wp2_with fail
 refine(HX.out _).mono ?_;rintro z w1 ⟨rfl,b1⟩;have d1:=d0.later b1;have x1:=x0.later b1;have y1:=y0.later b1;have o1:=o0.later b1;have b01:=below_trans b0 b1;clear d0 x0 y0 o0 b0 b1 u0 u1 u2 u3 u4;obtain⟨u0,u1,u2,u3,u4⟩:=x1.cs5;obtain⟨v0,v1,v2,v3,v4⟩:=y1.cs5
 go_wp2_with fail
 refine(HX.out _).mono ?_;rintro z w2 ⟨rfl,b2⟩;have d2:=d1.later b2;have x2:=x1.later b2;have y2:=y1.later b2;have o2:=o1.later b2;have b02:=below_trans b01 b2;clear d1 x1 y1 o1 b01 b2 u0 u1 u2 u3 u4 v0 v1 v2 v3 v4;obtain⟨v0,v1,v2,v3,v4⟩:=y2.cs5
 go_wp2_with fail
 refine(HY.out _).mono ?_;rintro z w3 ⟨rfl,b3⟩;have d3:=d2.later b3;have x3:=x2.later b3;have y3:=y2.later b3;have o3:=o2.later b3;have b03:=below_trans b02 b3;clear d2 x2 y2 o2 b02 b3 v0 v1 v2 v3 v4 HX HY
 go_upto_region 7 with fail
 obtain⟨u0,u1,u2,u3,u4⟩:=x3.cs5;obtain⟨v0,v1,v2,v3,v4⟩:=y3.cs5;have q1:=d3.cell 1 rfl;have HNs:Hid (∀to0 tc w1,Rd w1 .u32 (.slice to0 (Dg.dg 4294967296 t.n).length tc) (Dg.dg 4294967296 t.n)→Calls Tryz.prog 110 #[yDV t to0 tc,.bool sg] w1 (OpRes w1 (numC t) (numG t sg) (numT t))):=fun to0 tc w1 h=>HN.out to0 tc sg w1 h
 obtain⟨c,hcE⟩: ∃c,numC t=c:=⟨_,rfl⟩;obtain⟨g,hgE⟩: ∃c,numG t sg=c:=⟨_,rfl⟩;obtain⟨tt,htE⟩: ∃c,numT t=c:=⟨_,rfl⟩;rw[hcE,hgE,htE] at HNs;have HE:Hid (numC t=c∧numG t sg=g∧numT t=tt):=⟨hcE,hgE,htE⟩;clear hcE hgE htE HN
 by_cases hg:gx=gy
 ·have h1:=HSg.out
  rw[if_pos hg] at h1;subst hg;rw[h1] at HNs;clear HSg h1
  go_wp2_with fail
  refine(HP.out _ b03).mono ?_;rintro z w4 ⟨p4,rfl,o4,b4⟩;obtain⟨po,pc,hv⟩:=o4.rd.shape;subst hv;have r4:=o4.rd;have o5:=o3.later b4;have b04:=below_trans b03 b4;clear u0 u1 u2 u3 u4 v0 v1 v2 v3 v4 q1 d3 x3 y3 o3 b03 b4 o4 HP
  go_wp2_with fail
  refine(HNs.out _ _ _ r4).mono ?_;rintro z w6 ⟨p6,rfl,r6,b6⟩;obtain⟨ro,rc,hv⟩:=r6.shape;subst hv;have o6:=o5.later b6;have b06:=below_trans b04 b6;clear o5 b04 b6 r4 HNs;have cR:LocE (((((w6.setCell ⟨w.heap.size+1+1+1,0,none⟩ (yi c)).setCell ⟨w.heap.size+1+1+1,1,none⟩ (.bool g)).setCell ⟨w.heap.size+1+1+1,2,none⟩ (.bool tt.s)).setCell ⟨w.heap.size+1+1+1,3,none⟩ (.slice ro (Dg.dg 4294967296 tt.n).length rc)).setCell ⟨w.heap.size+1+1+1,4,none⟩ (yi tt.e)) (w.heap.size+1+1+1) 98 (yOL c g tt ro rc):=(((((o6.set 0 (yi c)).set 1 (.bool g)).set 2 (.bool tt.s)).set 3 (.slice ro (Dg.dg 4294967296 tt.n).length rc)).set 4 (yi tt.e));have bu:=((((but_set w6 (w.heap.size+1+1+1) 0 (yi c)).trans (but_set _ (w.heap.size+1+1+1) 1 (.bool g))).trans (but_set _ (w.heap.size+1+1+1) 2 (.bool tt.s))).trans (but_set _ (w.heap.size+1+1+1) 3 (.slice ro (Dg.dg 4294967296 tt.n).length rc))).trans (but_set _ (w.heap.size+1+1+1) 4 (yi tt.e));have bR:=bu.below b06 (by omega);have rR:=bu.rd r6 (rd_offU r6 o6 (by simp));have hl:=run_loadVar_mid (P:=Tryz.prog) _ (w.heap.size+1+1+1) 0 98 (yOL c g tt ro rc) _ cR.range Tryz.underlying98 rfl (by kernel_rfl);have HH:Hid (_∧_∧_):=⟨hl,rR,bR⟩;obtain⟨z0,z1,z2,z3,z4⟩:=o6.cs5;have fz0:=o6.free 0;have fz1:=o6.free 1;have fz2:=o6.free 2;have fz3:=o6.free 3;have fz4:=o6.free 4;clear hl bR bu cR rR;clear o6 b06 r6
  go_wp2
  obtain⟨hl,rR,bR⟩:=HH.out;obtain⟨e1,e2,e3⟩:=HE.out;rw[e1,e2,e3];exact bodyPost_ret (results_two Tryz.results55 rfl rfl hl) rfl ⟨_,rfl,rR,bR⟩
 ·have h1:=HSg.out
  rw[if_neg hg] at h1;have hgn:gx= !gy:=by cases gx<;>cases gy<;>simp_all
  subst hgn
  by_cases h5:wy=5
  ·subst h5
   rw[decide_eq_true rfl] at h1;rw[h1] at HNs;clear HSg hg h1
   cases gy
   all_goals
    go_wp2_with fail
    refine(HP.out _ b03).mono ?_;rintro z w4 ⟨p4,rfl,o4,b4⟩;obtain⟨po,pc,hv⟩:=o4.rd.shape;subst hv;have r4:=o4.rd;have o5:=o3.later b4;have b04:=below_trans b03 b4;clear u0 u1 u2 u3 u4 v0 v1 v2 v3 v4 q1 d3 x3 y3 o3 b03 b4 o4 HP
    go_wp2_with fail
    refine(HNs.out _ _ _ r4).mono ?_;rintro z w6 ⟨p6,rfl,r6,b6⟩;obtain⟨ro,rc,hv⟩:=r6.shape;subst hv;have o6:=o5.later b6;have b06:=below_trans b04 b6;clear o5 b04 b6 r4 HNs;have cR:LocE (((((w6.setCell ⟨w.heap.size+1+1+1,0,none⟩ (yi c)).setCell ⟨w.heap.size+1+1+1,1,none⟩ (.bool g)).setCell ⟨w.heap.size+1+1+1,2,none⟩ (.bool tt.s)).setCell ⟨w.heap.size+1+1+1,3,none⟩ (.slice ro (Dg.dg 4294967296 tt.n).length rc)).setCell ⟨w.heap.size+1+1+1,4,none⟩ (yi tt.e)) (w.heap.size+1+1+1) 98 (yOL c g tt ro rc):=(((((o6.set 0 (yi c)).set 1 (.bool g)).set 2 (.bool tt.s)).set 3 (.slice ro (Dg.dg 4294967296 tt.n).length rc)).set 4 (yi tt.e));have bu:=((((but_set w6 (w.heap.size+1+1+1) 0 (yi c)).trans (but_set _ (w.heap.size+1+1+1) 1 (.bool g))).trans (but_set _ (w.heap.size+1+1+1) 2 (.bool tt.s))).trans (but_set _ (w.heap.size+1+1+1) 3 (.slice ro (Dg.dg 4294967296 tt.n).length rc))).trans (but_set _ (w.heap.size+1+1+1) 4 (yi tt.e));have bR:=bu.below b06 (by omega);have rR:=bu.rd r6 (rd_offU r6 o6 (by simp));have hl:=run_loadVar_mid (P:=Tryz.prog) _ (w.heap.size+1+1+1) 0 98 (yOL c g tt ro rc) _ cR.range Tryz.underlying98 rfl (by kernel_rfl);have HH:Hid (_∧_∧_):=⟨hl,rR,bR⟩;obtain⟨z0,z1,z2,z3,z4⟩:=o6.cs5;have fz0:=o6.free 0;have fz1:=o6.free 1;have fz2:=o6.free 2;have fz3:=o6.free 3;have fz4:=o6.free 4;clear hl bR bu cR rR;clear o6 b06 r6
    go_wp2
    obtain⟨hl,rR,bR⟩:=HH.out;obtain⟨e1,e2,e3⟩:=HE.out;rw[e1,e2,e3];exact bodyPost_ret (results_two Tryz.results55 rfl rfl hl) rfl ⟨_,rfl,rR,bR⟩
  ·rw[decide_eq_false h5] at h1
   have h5b:(wy==5)=false:=by simpa using h5
   rw[h1] at HNs;clear HSg hg h1 h5
   cases gy
   all_goals
    go_wp2_with fail
    refine(HP.out _ b03).mono ?_;rintro z w4 ⟨p4,rfl,o4,b4⟩;obtain⟨po,pc,hv⟩:=o4.rd.shape;subst hv;have r4:=o4.rd;have o5:=o3.later b4;have b04:=below_trans b03 b4;clear u0 u1 u2 u3 u4 v0 v1 v2 v3 v4 q1 d3 x3 y3 o3 b03 b4 o4 HP
    go_wp2_with fail
    refine(HNs.out _ _ _ r4).mono ?_;rintro z w6 ⟨p6,rfl,r6,b6⟩;obtain⟨ro,rc,hv⟩:=r6.shape;subst hv;have o6:=o5.later b6;have b06:=below_trans b04 b6;clear o5 b04 b6 r4 HNs;have cR:LocE (((((w6.setCell ⟨w.heap.size+1+1+1,0,none⟩ (yi c)).setCell ⟨w.heap.size+1+1+1,1,none⟩ (.bool g)).setCell ⟨w.heap.size+1+1+1,2,none⟩ (.bool tt.s)).setCell ⟨w.heap.size+1+1+1,3,none⟩ (.slice ro (Dg.dg 4294967296 tt.n).length rc)).setCell ⟨w.heap.size+1+1+1,4,none⟩ (yi tt.e)) (w.heap.size+1+1+1) 98 (yOL c g tt ro rc):=(((((o6.set 0 (yi c)).set 1 (.bool g)).set 2 (.bool tt.s)).set 3 (.slice ro (Dg.dg 4294967296 tt.n).length rc)).set 4 (yi tt.e));have bu:=((((but_set w6 (w.heap.size+1+1+1) 0 (yi c)).trans (but_set _ (w.heap.size+1+1+1) 1 (.bool g))).trans (but_set _ (w.heap.size+1+1+1) 2 (.bool tt.s))).trans (but_set _ (w.heap.size+1+1+1) 3 (.slice ro (Dg.dg 4294967296 tt.n).length rc))).trans (but_set _ (w.heap.size+1+1+1) 4 (yi tt.e));have bR:=bu.below b06 (by omega);have rR:=bu.rd r6 (rd_offU r6 o6 (by simp));have hl:=run_loadVar_mid (P:=Tryz.prog) _ (w.heap.size+1+1+1) 0 98 (yOL c g tt ro rc) _ cR.range Tryz.underlying98 rfl (by kernel_rfl);have HH:Hid (_∧_∧_):=⟨hl,rR,bR⟩;obtain⟨z0,z1,z2,z3,z4⟩:=o6.cs5;have fz0:=o6.free 0;have fz1:=o6.free 1;have fz2:=o6.free 2;have fz3:=o6.free 3;have fz4:=o6.free 4;clear hl bR bu cR rR;clear o6 b06 r6
    go_wp2
    obtain⟨hl,rR,bR⟩:=HH.out;obtain⟨e1,e2,e3⟩:=HE.out;rw[e1,e2,e3];exact bodyPost_ret (results_two Tryz.results55 rfl rfl hl) rfl ⟨_,rfl,rR,bR⟩
end Go.Proofs.YtnhackdjplppjaaGreatDoor
namespace Go.Proofs.YtnhackdjplppjaaGreatDoor
open Go.RowKit
theorem ent1 (w:World) (c0:List Value) (t0:TypeId): ∃W,w.alloc (.cells c0.toArray t0)=W∧LocE W w.heap.size t0 c0∧Below w.heap.size w W:=
 ⟨_,rfl,locE_new w c0 t0,below_alloc w _⟩
theorem ent2 (w:World) (c0:List Value) (t0:TypeId) (c1:List Value) (t1:TypeId): ∃W,(w.alloc (.cells c0.toArray t0)).alloc (.cells c1.toArray t1)=W∧LocE W w.heap.size t0 c0∧LocE W (w.heap.size+1) t1 c1∧Below w.heap.size w W:=by
 obtain⟨W,rfl,h0,b0⟩:=ent1 w c0 t0;have h1:=locE_new (w.alloc (.cells c0.toArray t0)) c1 t1;have b1:=below_alloc (w.alloc (.cells c0.toArray t0)) (.cells c1.toArray t1);rw[World.size_alloc] at h1;exact⟨_,rfl,h0.later b1,h1,below_trans b0 b1⟩
theorem ent3 (w:World) (c0:List Value) (t0:TypeId) (c1:List Value) (t1:TypeId) (c2:List Value) (t2:TypeId): ∃W,((w.alloc (.cells c0.toArray t0)).alloc (.cells c1.toArray t1)).alloc (.cells c2.toArray t2)=W∧LocE W w.heap.size t0 c0∧LocE W (w.heap.size+1) t1 c1∧LocE W (w.heap.size+1+1) t2 c2∧Below w.heap.size w W:=by
 obtain⟨W,rfl,h0,h1,b0⟩:=ent2 w c0 t0 c1 t1;have h2:=locE_new ((w.alloc (.cells c0.toArray t0)).alloc (.cells c1.toArray t1)) c2 t2;have b2:=below_alloc ((w.alloc (.cells c0.toArray t0)).alloc (.cells c1.toArray t1)) (.cells c2.toArray t2);rw[World.size_alloc,World.size_alloc] at h2;exact⟨_,rfl,h0.later b2,h1.later b2,h2,below_trans b0 b2⟩
theorem ent4 (w:World) (c0:List Value) (t0:TypeId) (c1:List Value) (t1:TypeId) (c2:List Value) (t2:TypeId) (c3:List Value) (t3:TypeId): ∃W,(((w.alloc (.cells c0.toArray t0)).alloc (.cells c1.toArray t1)).alloc (.cells c2.toArray t2)).alloc (.cells c3.toArray t3)=W∧LocE W w.heap.size t0 c0∧LocE W (w.heap.size+1) t1 c1∧LocE W (w.heap.size+1+1) t2 c2∧LocE W (w.heap.size+1+1+1) t3 c3∧Below w.heap.size w W:=by
 obtain⟨W,rfl,h0,h1,h2,b0⟩:=ent3 w c0 t0 c1 t1 c2 t2;have h3:=locE_new (((w.alloc (.cells c0.toArray t0)).alloc (.cells c1.toArray t1)).alloc (.cells c2.toArray t2)) c3 t3;have b3:=below_alloc (((w.alloc (.cells c0.toArray t0)).alloc (.cells c1.toArray t1)).alloc (.cells c2.toArray t2)) (.cells c3.toArray t3);rw[World.size_alloc,World.size_alloc,World.size_alloc] at h3;exact⟨_,rfl,h0.later b3,h1.later b3,h2.later b3,h3,below_trans b0 b3⟩
theorem fin5 {P:Program} {w0 w:World} {n b:Nat} {ty:TypeId} {z0 z1 z2 z3 z4:Value} {d:TypeDesc} (h:LocE w b ty [z0,z1,z2,z3,z4]) (hb:Below n w0 w) (hn:n≤b) (hu:P.underlying ty=some d) (hd:d.isRow=true) (hi:(P.info? ty).map (·.size)=some 5) (v0 v1 v2 v3 v4:Value):
  (loadVar ty ⟨b,0,none⟩).run P (((((w.setCell ⟨b,0,none⟩ v0).setCell ⟨b,1,none⟩ v1).setCell ⟨b,2,none⟩ v2).setCell ⟨b,3,none⟩ v3).setCell ⟨b,4,none⟩ v4)= .ok (.agg #[v0,v1,v2,v3,v4]) (((((w.setCell ⟨b,0,none⟩ v0).setCell ⟨b,1,none⟩ v1).setCell ⟨b,2,none⟩ v2).setCell ⟨b,3,none⟩ v3).setCell ⟨b,4,none⟩ v4)∧Below n w0 (((((w.setCell ⟨b,0,none⟩ v0).setCell ⟨b,1,none⟩ v1).setCell ⟨b,2,none⟩ v2).setCell ⟨b,3,none⟩ v3).setCell ⟨b,4,none⟩ v4)∧But b w (((((w.setCell ⟨b,0,none⟩ v0).setCell ⟨b,1,none⟩ v1).setCell ⟨b,2,none⟩ v2).setCell ⟨b,3,none⟩ v3).setCell ⟨b,4,none⟩ v4):=by
 have cR:LocE (((((w.setCell ⟨b,0,none⟩ v0).setCell ⟨b,1,none⟩ v1).setCell ⟨b,2,none⟩ v2).setCell ⟨b,3,none⟩ v3).setCell ⟨b,4,none⟩ v4) b ty [v0,v1,v2,v3,v4]:=(((((h.set 0 v0).set 1 v1).set 2 v2).set 3 v3).set 4 v4);have bu:=((((but_set w b 0 v0).trans (but_set _ b 1 v1)).trans (but_set _ b 2 v2)).trans (but_set _ b 3 v3)).trans (but_set _ b 4 v4);exact⟨run_loadVar_mid (P:=P) _ b 0 ty [v0,v1,v2,v3,v4] _ cR.range hu hd hi,bu.below hb hn,bu⟩
theorem csf5 {w:World} {b:Nat} {ty:TypeId} {z0 z1 z2 z3 z4:Value} (h:LocE w b ty [z0,z1,z2,z3,z4]):(w.cell? ⟨b,0,none⟩=some z0∧w.cell? ⟨b,1,none⟩=some z1∧w.cell? ⟨b,2,none⟩=some z2∧w.cell? ⟨b,3,none⟩=some z3∧w.cell? ⟨b,4,none⟩=some z4)∧w.frozen? ⟨b,0,none⟩=false∧w.frozen? ⟨b,1,none⟩=false∧w.frozen? ⟨b,2,none⟩=false∧w.frozen? ⟨b,3,none⟩=false∧w.frozen? ⟨b,4,none⟩=false:=
 ⟨⟨h.cell 0 rfl,h.cell 1 rfl,h.cell 2 rfl,h.cell 3 rfl,h.cell 4 rfl⟩,h.free 0,h.free 1,h.free 2,h.free 3,h.free 4⟩
theorem range_mid {w:World} {b:Nat} {ty:TypeId} {vs cs:List Value} (h:LocE w b ty vs) (o n:Nat) (e:(vs.drop o).take n=cs):w.rangeAt b o cs:=fun j v hj=>by
 subst e;refine h.cell (o+j) ?_;rw[List.getElem?_take] at hj
 split at hj
 ·rw[List.getElem?_drop] at hj
  exact hj
 ·cases hj
theorem but_range {w w':World} {b g o:Nat} {cs:List Value} (bu:But b w w') (h:w.rangeAt g o cs) (hg:g≠b):w'.rangeAt g o cs:=fun j v hj=>by rw[bu.cell (by exact hg)];exact h j v hj
theorem tk {P:Program} {md:Region.Mode} {ops:Array Oper} {Q:Exit→Act→World→Prop} {S:World→Prop} {oi:Oper} {fuel:Nat} {listed:Array Bool} {a:Act} {w:World} (i:Nat) (v:Value) (hi:ops[i]? =some oi)
  (hb:(Region.noSelect ops&&(Region.free md ops listed i&&((Region.ready md ops listed).contains i&&Region.wanted oi (yielded ops a.tmps))))=true)
  (hQ: ∀c a w,Q (.panic c) (a.put oi.dst v) w→Q (.panic c) a w) (hv: ∀w0,S w0→(execOp a.eval oi).run P w0= .ok (.value v) w0) (hS:S w)
  (h:wpAnyH P md ops Q S fuel (listed.setIfInBounds i true) (a.put oi.dst v) w):wpAnyH P md ops Q S (fuel+1) listed a w:=by
 simp only[Bool.and_eq_true] at hb;exact wpAnyH_take hi hb.1 hb.2.1 hb.2.2.1 hQ (Or.inl ⟨hb.2.2.2,hv⟩) hS h
end Go.Proofs.YtnhackdjplppjaaGreatDoor

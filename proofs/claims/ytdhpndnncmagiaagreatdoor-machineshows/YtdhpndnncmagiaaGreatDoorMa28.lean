/-
  Texts laid together: Gn2, Ar2, Ar5, Ar3, As4, As8, Gb7, Oq1, Tx11.
-/
import Derived.Test.YtdhpndnncmagiaaGreatDoorMa14
import Derived.Test.YtdhpndnncmagiaaGreatDoorMa20
import Derived.Test.YtdhpndnncmagiaaGreatDoorMa21
import Derived.Test.YtdhpndnncmagiaaGreatDoorMa22
set_option maxRecDepth 100000
set_option maxHeartbeats 12800000
namespace Go.Proofs.YtdhpndnncmagiaaGreatDoor
open _root_.Go.Proofs.Tryz
open Go.RowKit
theorem CW (R D L G:Int)(gr ng:Bool)(ao:Option Addr)(la ca:Nat)(p:Int)(w:World)(h: -1000000≤(ai R:Int)*p∧(ai R:Int)*p≤1000000):
  yC 148 #[ygV R D L G gr,.bool ng,.agg #[.slice ao la ca,yi p]] w (yR w (ydV ng (.slice ao la ca) ((ai R:Int)*p))):=by
 refine Zq R D L G gr ng ao la ca p (ai R) w (IntWalk.i64_in _ ⟨by omega,by omega⟩) (fun w1=> ?_)
 have:=tY R D L G gr w1
 rwa [jf] at this
theorem Nx {w w':World}{g:Nat}{k:IntKind}{v:Value}{zs:List Nat}(r:Rd w k v zs)(hg:w.grownBy w' (some g))(ho:wF g v zs):Rd w' k v zs:=by
 obtain⟨ao,cap,rfl,h1,h2,h3⟩:=r;refine⟨ao,cap,rfl,h1,h2,fun hp=> ?_⟩
 obtain⟨b,off,rfl,h4⟩:=h3 hp;refine⟨b,off,rfl,fun i hi=> ?_⟩
 have h5:=h4 i hi;have hlt:b<w.heap.size:=World.block_lt_of_cell? w _ h5;have hne:b≠g:=ho hp _ _ _ rfl;rw[←h5];unfold World.cell?;simp only;rw[hg.block b hlt (fun e=>hne (Option.some.inj e))]
theorem au.grownO {w w':World}{b:Nat}{ty:TypeId}{vs:List Value}{row:Option Nat}(h:au w b ty vs)(hg:w.grownBy w' row)(hne: ∀g,row=some g→b≠g):au w' b ty vs:=
 (hg.block b h.lt (fun e=>hne b e.symm rfl)).trans h
theorem Y4 {w w1 w2:World}{n:Int}{ps:List ByteArray}{i:Nat}{lv v' x:Value}{p:ByteArray}{cs:List Value}(hp:ps[i]? =some p)(he:dF n p=0)(h2:sV w1 n lv.ownBlock (ps.take i) cs)(h3:fT n ps=fT n (ps.drop i))(hx:F7 w1 n lv.ownBlock p x)
  (hown:w2.ownsRow (w.heap.size+1) 88 5 v' (i+1) (cs++opC n p x)) (hg:w1.grownBy w2 lv.ownBlock) (hat:v'.ownBlock=lv.ownBlock∨v'.ownBlock=some w1.heap.size):
  Vc w n ps (i+1) v' w2:=by
 have hil:i<ps.length:=by
  rw[List.getElem?_eq_some_iff] at hp;exact hp.1
 have hm: ∀q v,F7 w1 n lv.ownBlock q v→F7 w2 n v'.ownBlock q v:=fun q v k=>by
  obtain⟨k1,k2,k3⟩:=k;refine⟨k1, ?_, ?_⟩
  ·obtain⟨so,sc,rfl⟩:=k1
   cases hb:lv.ownBlock with
   |none=>exact k2.l ⟨hg.os,hg.tape,hg.output,hg.size,fun j hj=>hg.block j hj (by rw[hb];exact fun e=>nomatch e)⟩
   |some b=>exact Nx k2 (hb▸hg) (k3 b hb)
  ·intro b hb
   rcases hat with e|e
   ·exact k3 b (by rw[←e];exact hb)
   ·have hbw:b=w1.heap.size:=by rw[e] at hb;exact(Option.some.inj hb).symm
    exact t9 k2 (by omega)
 refine⟨_,hown, ?_, ?_⟩
 ·rw[List.take_add_one,hp]
  exact(h2.mono hm).snoc (hm p x hx)
 ·rw[h3]
  have hd:ps.drop i=p::ps.drop (i+1):=by
   rw[List.drop_eq_getElem_cons hil]
   congr 1
   rw[List.getElem?_eq_getElem hil] at hp;exact Option.some.inj hp
  rw[hd];exact if_pos he
theorem wJ (n:Int)(ps:List ByteArray)(g cap:Nat)(w:World)(h:sF w n ps g cap)(hm:ps.length≤3):
  yC 65 #[.slice (some ⟨g,0,none⟩) ps.length cap] w (yR w (.bool (ps.any (dO n)))):=by
 obtain⟨m,hmE⟩: ∃m,ps.length=m:=⟨_,rfl⟩;have hfit:=h.fit;have hmost:=h.most;rw[hmE] at hm hfit⊢;have HM:Hid (ps.length=m):=hmE;have HF:Hid (m≤cap∧cap≤maxLen):=⟨hfit,hmost⟩;clear hmE hfit hmost
 go_enter func65,ntmps65
 go_wp2
 go_loopw [7] (fun iv wr=> ∃i:Nat,iv=yi (i:Int)∧i≤m∧Hid (ps.any (dO n)=(ps.drop i).any (dO n))∧sF wr n ps g cap∧yB w wr) (fun iv _=>m-(intOf iv).toNat)
 case atStart=>exact⟨0,rfl,by omega,rfl,h,Below.refl _ _⟩
 case round=>
  obtain⟨i,rfl,him,HN,hO,bel⟩:=hrel
  by_cases hlt:i<m
  ·have hil:i<ps.length:=by have:=HM.out;omega
   obtain⟨p,hp⟩: ∃p,ps[i]? =some p:=⟨_,List.getElem?_eq_getElem hil⟩;have hd:ps.drop i=p::ps.drop (i+1):=by
    rw[List.drop_eq_getElem_cons hil]
    congr 1
    rw[List.getElem?_eq_getElem hil] at hp;exact Option.some.inj hp
   have HN2:Hid (ps.any (dO n)=(dO n p||(ps.drop (i+1)).any (dO n))):=by
    have:=HN.out;rw[hd,List.any_cons] at this;exact this
   obtain⟨so,sc,hr,-⟩:=hO.each i p hp;unfold opC at hr;obtain⟨c,ec⟩: ∃c:Nat,bM n p=c:=⟨_,rfl⟩;obtain⟨b1,e1⟩: ∃c,dz n p=c:=⟨_,rfl⟩;obtain⟨t,et⟩: ∃c,opT n p=c:=⟨_,rfl⟩;have HC:Hid (dO n p=decide (c=4∨c=5)):=by unfold dO;rw[ec];rfl
   rw[ec,e1,et] at hr;have y0:wr.cell? ⟨g,i*5,none⟩=some (yi (c:Int)):=hr 0 _ rfl;have y1:wr.cell? ⟨g,i*5+1,none⟩=some (.bool b1):=hr 1 _ rfl;have y2:wr.cell? ⟨g,i*5+2,none⟩=some (.bool t.s):=hr 2 _ rfl;have y3:wr.cell? ⟨g,i*5+3,none⟩=some (yT so t.n sc):=hr 3 _ rfl;have y4:wr.cell? ⟨g,i*5+4,none⟩=some (yi t.e):=hr 4 _ rfl;have al:=af wr (.cells (yOA (c:Int) b1 t so sc) 88);have ln:=ah wr (yOL (c:Int) b1 t so sc) 88;have hO1:=hO.l al;have bel1:=aa bel al;clear hp hil hd HN hr ec e1 et hO bel al
   go_upto_region 4 with fail
   generalize wr.alloc (.cells (yOA (c:Int) b1 t so sc) 88)=W at ln hO1 bel1⊢;obtain⟨z0,z1,z2,z3,z4⟩:=ln.cs5;clear ln y0 y1 y2 y3 y4
   by_cases h4:c=4
   ·subst h4
    go_wp2
    go_ret
    refine⟨?_,bel1⟩;rw[HN2.out,HC.out];rfl
   ·by_cases h5:c=5
    ·subst h5
     go_wp2
     go_ret
     refine⟨?_,bel1⟩;rw[HN2.out,HC.out];rfl
    ·have c4:((c:Int)==4)=false:=beq_eq_false_iff_ne.2 (by omega)
     have c5:((c:Int)==5)=false:=beq_eq_false_iff_ne.2 (by omega);have HN3:Hid (ps.any (dO n)=(ps.drop (i+1)).any (dO n)):=by
      have h1:=HN2.out;rw[HC.out,decide_eq_false (by omega),Bool.false_or] at h1;exact h1
     clear h4 h5 HN2 HC
     go_wp2
     go_roundw
     case rel=>exact⟨i+1,by go_num,by omega,HN3,hO1,bel1⟩
     case measure=>simp[intOf];omega
  ·have HE:Hid (i=m):=(by omega:i=m)
   go_wp2
   go_ret
   refine⟨?_,bel⟩;rw[HN.out,List.drop_of_length_le (by have h1:=HE.out;have h2:=HM.out;omega)];rfl
theorem vQ (n wy fam R D L G:Int)(gr:Bool)(ps:List ByteArray)(pb:Nat)(w:World)(hps:au w pb 9 (ps.map Value.string))(hm:ps.length≤3)
  (HR: ∀p w1,yB w w1→yC 23 #[yi n,.string p] w1 (Ys w1 ((bM n p:Nat):Int) (dz n p) (gJ n p) (iF n p) (opT n p) (dF n p))):
  yC 64 #[ykV n wy fam R D L G gr,.slice (some ⟨pb,0,none⟩) ps.length ps.length] w (QH w n ps):=by
 replace HR:Hid _:=HR;obtain⟨i0,hi,hz0,hz1,hz2⟩:=info_parts (show(Tryz.prog.info? 88).map (fun i=>(i.zero,i.size,i.bytes))=some (some (yoV 0 false false yN 0),5,56) by kernel_rfl)
 have HI:Hid (_∧_∧_∧_):=⟨hi,hz0,hz1,hz2⟩;have hpb:=hps.lt;have bd0:=af w (.cells (ykA n wy fam R D L G gr) 83);have d0:=ah w (ykL n wy fam R D L G gr) 83;have s0:=hps.l bd0;obtain⟨m,hmE⟩: ∃m,ps.length=m:=⟨_,rfl⟩;rw[hmE] at hm⊢;have HM:Hid (ps.length=m):=hmE;clear hps hmE hi hz0 hz1 hz2
 go_enter func64,ntmps64
 go_wp2
 go_loopw [6,14] (fun lv iv wr=> ∃i:Nat,iv=yi (i:Int)∧i≤m∧Vc w n ps i lv wr∧yB w wr∧au wr w.heap.size 83 (ykL n wy fam R D L G gr)∧au wr pb 9 (ps.map Value.string)) (fun _ iv _=>m-(intOf iv).toNat)
 case atStart=>exact⟨0,rfl,by omega,⟨[],World.ownsRow_nil _ _ _ 5,rfl,rfl⟩,bd0,d0,s0⟩
 case round=>
  obtain⟨i,rfl,him,hO,bel,dl,sl⟩:=hrel
  by_cases hlt:i<m
  ·have hil:i<ps.length:=by have:=HM.out;omega
   obtain⟨p,hp⟩: ∃p,ps[i]? =some p:=⟨_,List.getElem?_eq_getElem hil⟩;have y:=sl.c i (v:= .string p) (by rw[List.getElem?_map,hp];rfl);have x0:=dl.c 0 rfl;have HRp:=HR.out p;obtain⟨c,ec⟩: ∃c:Int,((bM n p:Nat):Int)=c:=⟨_,rfl⟩;obtain⟨gg,eg⟩: ∃c,dz n p=c:=⟨_,rfl⟩;obtain⟨m1,em⟩: ∃c,gJ n p=c:=⟨_,rfl⟩;obtain⟨p1,ep⟩: ∃c,iF n p=c:=⟨_,rfl⟩;obtain⟨t,et⟩: ∃c,opT n p=c:=⟨_,rfl⟩;obtain⟨er,ee⟩: ∃c,dF n p=c:=⟨_,rfl⟩;rw[ec,eg,em,ep,et,ee] at HRp;have HP:Hid (ps[i]? =some p∧((bM n p:Nat):Int)=c∧dz n p=gg∧opT n p=t∧dF n p=er):=⟨hp,ec,eg,et,ee⟩;replace HRp:Hid _:=HRp;clear hp hil ec eg em ep et ee
   go_wp2_with fail
   refine(HRp.out _ bel).mono ?_;rintro z w1 ⟨v,x,rfl,rv,rx,fx,b1⟩;obtain⟨vo,vc,hv⟩:=rv.shape;subst hv;obtain⟨xo,xc,hx⟩:=rx.shape;subst hx;have a1:=af w1 (.cells (yvA c gg (yT vo m1 vc) p1) 57);have a2:=af (w1.alloc (.cells (yvA c gg (yT vo m1 vc) p1) 57)) (.cells (yDA t xo xc) 59);have bb:=aa (aa b1 a1) a2;have q9:=(ah w1 (yvL c gg (yT vo m1 vc) p1) 57).l a2;have q10:=ah (w1.alloc (.cells (yvA c gg (yT vo m1 vc) p1) 57)) (yDL t xo xc) 59;rw[World.size_alloc] at q10;have rx1:=(rx.l a1).l a2;have hO1:=hO.l bb;have dl1:=dl.l bb;have sl1:=sl.l bb;have bel1:=aa bel bb;have hbl: ∀b,u6.ownBlock=some b→b<wr.heap.size:=fun b hb=>by
    obtain⟨cs,h1,-⟩:=hO;exact(World.ownsRow.lt h1 b hb).2
   have hsz:wr.heap.size≤w1.heap.size:=b1.size;have hws:w.heap.size≤wr.heap.size:=bel.size;clear b1 a1 a2 bb rv rx hO dl sl bel y x0
   go_upto_region 6 with fail
   generalize(w1.alloc (.cells (yvA c gg (yT vo m1 vc) p1) 57)).alloc (.cells (yDA t xo xc) 59)=W at q9 q10 rx1 hO1 dl1 sl1 bel1⊢;generalize w1.heap.size=Q at q9 q10 hsz⊢
   by_cases he:er=0
   ·subst he
    go_wp2_with fail
    have qd:=q9.drew;have xd:=q10.drew;refine wp_region_held_drew (S:=fun wq=>wq.rangeAt Q 0 (yvL c gg (yT vo m1 vc) p1)∧wq.rangeAt (Q+1) 0 (yDL t xo xc)) (by kernel_rfl) ⟨qd.range,xd.range⟩ (fun hS0=> ?_)
    refine tq 0 (u6) rfl (fun w0 _=>by kernel_rfl) hS0 ?_
    refine tq 1 (.pointer (some ⟨Q,0,none⟩)) rfl (fun w0 _=>by kernel_rfl) hS0 ?_
    refine tq 2 (yi c) rfl (fun w0 hw0=>gU 3 (.tmp 30) rfl Q 0 (by kernel_rfl) _ _ underlying3 rfl (hw0.1 0 _ rfl)) hS0 ?_
    refine tq 3 (.pointer (some ⟨Q,1,none⟩)) rfl (fun w0 _=>by kernel_rfl) hS0 ?_
    refine tq 4 (.bool gg) rfl (fun w0 hw0=>gU 4 (.tmp 32) rfl Q 1 (by kernel_rfl) _ _ underlying4 rfl (hw0.1 1 _ rfl)) hS0 ?_
    refine tq 5 ((yDV t xo xc)) rfl (fun w0 hw0=>fy 59 (.tmp 10) rfl (Q+1) 0 (by kernel_rfl) _ _ hw0.2 underlying59 rfl (by kernel_rfl)) hS0 ?_
    refine wpAnyH_ready (rs:=[6]) (by kernel_rfl) (by simp) ?_;refine AllReadyH.cons rfl (fun K hK=> ?_) AllReadyH.nil
    go_simp
    refine(iK _ _ _ _ _ _).mono ?_;rintro z w2 ⟨rfl,b2⟩;have bW:yB W w2:=aa ((Below.refl _ _).drew) b2;have q92:=q9.l bW;have q102:=q10.l bW;have rx2:=rx1.l bW;have hO2:=hO1.l bW;have dl2:=dl1.l bW;have sl2:=sl1.l bW;have bel2:=aa bel1 bW;have hszW:=bW.size;refine hK.out _ _ ⟨q92.range,q102.range⟩ (fun hS6=> ?_)
    clear hK K qd xd b2 bW q9 q10 rx1 hO1 dl1 sl1 bel1;refine tq 7 ((yOV c gg t xo xc)) rfl (fun w0 _=>by kernel_rfl) hS6 ?_
    refine wpAnyH_ready (rs:=[8]) (by kernel_rfl) (by simp) ?_;refine AllReadyH.cons rfl (fun K hK=> ?_) AllReadyH.nil
    go_simp
    have al:=af w2 (.cells (yOA c gg t xo xc) 88);have nl:=ah w2 (yOL c gg t xo xc) 88;have q93:=q92.l al;have q103:=q102.l al;have rx3:=rx2.l al;have hO3:=hO2.l al;have dl3:=dl2.l al;have sl3:=sl2.l al;have bel3:=aa bel2 al;refine hK.out _ _ ⟨q93.range,q103.range⟩ (fun hS8=> ?_)
    clear hK K al q92 q102 rx2 hO2 dl2 sl2 bel2;generalize w2.alloc (.cells (yOA c gg t xo xc) 88)=W3 at nl q93 q103 rx3 hO3 dl3 sl3 bel3 hS8⊢;obtain⟨cs,k1,k2,k3⟩:=hO3;obtain⟨hi,hz0,hz1,hz2⟩:=HI.out;have hw3:w.heap.size+1≤W3.heap.size:=dl3.lt;obtain⟨v',w4,hrun,hown',hgrow,-,hat⟩:=run_append_own_at (P:=Tryz.prog) W3 (w.heap.size+1) 84 84 88 i0 _ 5 56 underlying84 hi hz0 hz1 hz2 rfl (by omega) u6 i cs k1 ⟨w2.heap.size,0,none⟩ 1 1 (yOL c gg t xo xc) rfl (fun j u hj=>by have:=nl.c j hj;rw[Addr.add_mid,Nat.zero_add];exact this) (fun u hu=>by simp at hu;rcases hu with rfl|rfl|rfl|rfl|rfl<;>rfl) (by unfold maxLen;omega) (by omega) hw3
    refine wpAnyH_ready (rs:=[9]) (by kernel_rfl) (by simp) ?_;refine AllReadyH.cons rfl (fun K hK=> ?_) AllReadyH.nil
    refine mg rfl (.tmp 29) (.tmp 37) 84 rfl _ _ v' w4 rfl rfl hrun ?_;have hlp:pb<w.heap.size:=hpb;have hgb: ∀g,u6.ownBlock=some g→w.heap.size<g∧g<wr.heap.size:=fun g hg=>⟨(World.ownsRow.lt k1 g hg).1,hbl g hg⟩
    have q94:=q93.grownO hgrow (fun g hg=>by have:=hgb g hg;omega)
    have q104:=q103.grownO hgrow (fun g hg=>by have:=hgb g hg;omega)
    have dl4:=dl3.grownO hgrow (fun g hg=>by have:=hgb g hg;omega)
    have sl4:=sl3.grownO hgrow (fun g hg=>by have:=hgb g hg;omega)
    have bel4:=bel3.grown hgrow (by omega) (fun g hg=>by have:=hgb g hg;omega)
    have hOps:Vc w n ps (i+1) v' w4:=by
     obtain⟨h1,h2,h3,h4,h5⟩:=HP.out;refine Y4 (x:=yT xo t.n xc) h1 h5 k2 k3 ⟨⟨xo,xc,by rw[h4]⟩,by rw[h4];exact rx3,fun b hb=> ?_⟩ ?_ hgrow hat
     ·intro _ a u v hv
      have:=fx a u v hv;have:=hgb b hb;omega
     ·unfold opC
      rw[h2,h3,h4];exact hown'
    refine hK.out _ _ ⟨q94.range,q104.range⟩ (fun hS9=> ?_)
    clear hK K q94 q104 q93 q103 dl3 sl3 bel3 hgrow hown' hat hrun rx3 nl fx k1 k2 k3 HP HRp HI;refine tq 10 (v') rfl (fun w0 _=>by go_simp) hS9 ?_
    simp only[Act.put,List.getElem_toArray,List.getElem_cons_succ,List.getElem_cons_zero,List.setIfInBounds_toArray,List.set_cons_zero,List.set_cons_succ];refine wpAnyH_done (by kernel_rfl) ?_ _
    go_wp2
    go_roundw
    case rel=>exact⟨i+1,by go_num,by omega,hOps,bel4,dl4,sl4⟩
    case measure=>simp[intOf];omega
   ·have hef:(er==0)=false:=by simpa using he
    go_wp2
    go_ret2
    obtain⟨h1,-,-,-,h5⟩:=HP.out;obtain⟨cs,-,-,k3⟩:=hO1;have hil:i<ps.length:=by have:=HM.out;omega
    have hd:ps.drop i=p::ps.drop (i+1):=by
     rw[List.drop_eq_getElem_cons hil]
     congr 1
     rw[List.getElem?_eq_getElem hil] at h1;exact Option.some.inj h1
    have hE:fT n ps=er:=by
     rw[k3,hd,←h5];exact if_neg (by rw[h5];exact he)
    refine .inr ⟨by rw[hE];exact he, ?_,bel1⟩;rw[hE];rfl
  ·have HE:Hid (i=m):=(by omega:i=m)
   go_wp2
   go_ret2
   obtain⟨cs,k1,k2,k3⟩:=hO;have h1:=HE.out;have h2:=HM.out;subst h1;rw[List.take_of_length_le (by omega)] at k2;rw[List.drop_of_length_le (by omega)] at k3;refine .inl ⟨k3,u6,cs,rfl, ?_,k2,bel⟩;rw[h2];exact Hv k1 (by omega)
theorem Id (n wy fam R D L G pw:Int)(gr ng ex un:Bool)(ao:Option Addr)(la ca:Nat)(m:Nat)(w:World)(hla:la=(Dg.dg 4294967296 m).length)(hr:Rd w .u32 (.slice ao la ca) (Dg.dg 4294967296 m))(hlt:un=true→ ¬pw<L)(cl fl:Int)(hcl:cl=if la=0 then 1 else 2)(hfl:fl=if ex=true then 0 else if un=true then 3 else 1):
  yC 63 #[ykV n wy fam R D L G gr,ypV ng (.slice ao la ca) pw ex false un] w (B6 w cl ng m pw fl):=by
 have HE:Hid (la=(Dg.dg 4294967296 m).length∧cl=(if la=0 then 1 else 2)∧fl=if ex=true then 0 else if un=true then 3 else 1):=⟨hla,hcl,hfl⟩
 clear hcl hfl hla;have a1:=af w (.cells (ykA n wy fam R D L G gr) 83);have a2:=af (w.alloc (.cells (ykA n wy fam R D L G gr) 83)) (.cells (ypA ng (.slice ao la ca) pw ex false un) 140);have a3:=af ((w.alloc (.cells (ykA n wy fam R D L G gr) 83)).alloc (.cells (ypA ng (.slice ao la ca) pw ex false un) 140)) (.cells (yvA 0 false yN 0) 57);have d0:=((ah w (ykL n wy fam R D L G gr) 83).l a2).l a3;have p0:=(ah (w.alloc (.cells (ykA n wy fam R D L G gr) 83)) (ypL ng (.slice ao la ca) pw ex false un) 140).l a3;have v0:=ah ((w.alloc (.cells (ykA n wy fam R D L G gr) 83)).alloc (.cells (ypA ng (.slice ao la ca) pw ex false un) 140)) (yvL 0 false yN 0) 57;rw[World.size_alloc] at p0;rw[World.size_alloc,World.size_alloc] at v0;have b0:=aa (aa a1 a2) a3;clear a1 a2 a3
 go_enter func63,ntmps63
 go_upto_block 0 with fail
 generalize((w.alloc (.cells (ykA n wy fam R D L G gr) 83)).alloc (.cells (ypA ng (.slice ao la ca) pw ex false un) 140)).alloc (.cells (yvA 0 false yN 0) 57)=W0 at d0 p0 v0 b0⊢;have r0:=hr.l b0;clear hr;have al:=af W0 (.cells (yvA 2 ng (.slice ao la ca) pw) 57);have q1:=ah W0 (yvL 2 ng (.slice ao la ca) pw) 57;have p1:=p0.l al;have v1:=v0.l al;have r1:=r0.l al;have b1:=aa b0 al;have hq:w.heap.size+1+1<W0.heap.size:=v0.lt;have hne:W0.heap.size≠w.heap.size+1:=by omega
 obtain⟨x0,x1,x2,x3,x4,x5⟩:=p0.cs6;have y5:=d0.c 5 rfl;clear al p0 v0 b0 r0;have go: ∀UU,UU=un→(UU=false∨(UU=true∧ ¬pw<L)):=fun UU h=>by
  subst h
  cases UU
  ·exact .inl rfl
  ·exact .inr ⟨rfl,hlt rfl⟩
 rcases go un rfl with hun| ⟨hun,hl0⟩
 ·subst hun
  clear hlt go
  go_upto_region 6 with fail
  generalize W0.alloc (.cells (yvA 2 ng (.slice ao la ca) pw) 57)=WA at q1 p1 v1 r1 b1⊢;generalize W0.heap.size=Q at q1 hq hne⊢;clear x0 x1 x2 x3 x4 x5 y5 d0;obtain⟨x0,x1,x2,x3,x4,x5⟩:=p1.cs6
  by_cases hz:la=0
  ·have hz1:(((la:Nat):Int)==0)=true:=by rw[hz];rfl
   have hcl:cl=1:=by rw[HE.out.2.1,if_pos hz]
   subst hcl;clear hz;have c0:=q1.c 0 rfl;have f0:=q1.f 0;have bq:=ag WA Q 0 (yi 1);have q2:au (WA.setCell ⟨Q,0,none⟩ (yi 1)) Q 57 (yvL 1 ng (.slice ao la ca) pw):=q1.set 0 (yi 1);have p2:=bq.loc p1 (by omega);have v2:=bq.loc v1 (by omega);have r2:=bq.rd r1 (aX r1 q1 (by simp));have b2:=bq.below b1 (by omega)
   go_upto_block 1 with fail
   generalize WA.setCell ⟨Q,0,none⟩ (yi 1)=W1 at q2 p2 v2 r2 b2⊢;clear c0 f0 bq q1 p1 v1 r1 b1 x0 x1 x2 x3 x4 x5 hz1;obtain⟨x0,x1,x2,x3,x4,x5⟩:=p2.cs6;clear p2
   cases ex
   ·have hfl:fl=1:=HE.out.2.2
    subst hfl;clear HE;have cR:au ((((W1.setCell ⟨w.heap.size+1+1,0,none⟩ (yi 1)).setCell ⟨w.heap.size+1+1,1,none⟩ (.bool ng)).setCell ⟨w.heap.size+1+1,2,none⟩ (.slice ao la ca)).setCell ⟨w.heap.size+1+1,3,none⟩ (yi pw)) (w.heap.size+1+1) 57 (yvL 1 ng (.slice ao la ca) pw):=((((v2.set 0 (yi 1)).set 1 (.bool ng)).set 2 (.slice ao la ca)).set 3 (yi pw));have bu:=(((ag W1 (w.heap.size+1+1) 0 (yi 1)).trans (ag _ (w.heap.size+1+1) 1 (.bool ng))).trans (ag _ (w.heap.size+1+1) 2 (.slice ao la ca))).trans (ag _ (w.heap.size+1+1) 3 (yi pw));have bR:=bu.below b2 (by omega);have rR:=bu.rd r2 (aX r2 v2 (by simp));have hl:=run_loadVar_mid (P:=Tryz.prog) _ (w.heap.size+1+1) 0 57 (yvL 1 ng (.slice ao la ca) pw) _ cR.range underlying57 rfl (by kernel_rfl);have HH:Hid (_∧_∧_):=⟨hl,rR,bR⟩;obtain⟨z0,z1,z2,z3⟩:=v2.cs4;have fz0:=v2.f 0;have fz1:=v2.f 1;have fz2:=v2.f 2;have fz3:=v2.f 3;clear hl bR bu cR rR;obtain⟨k0,k1,k2,k3⟩:=q2.cs4;clear v2 b2 r2 q2
    go_wp2
    obtain⟨hl,rR,bR⟩:=HH.out;exact bodyPost_ret (aj results63 rfl rfl hl) rfl ⟨_,rfl,rR,bR⟩
   ·have hfl:fl=0:=HE.out.2.2
    subst hfl;clear HE;have cR:au ((((W1.setCell ⟨w.heap.size+1+1,0,none⟩ (yi 1)).setCell ⟨w.heap.size+1+1,1,none⟩ (.bool ng)).setCell ⟨w.heap.size+1+1,2,none⟩ (.slice ao la ca)).setCell ⟨w.heap.size+1+1,3,none⟩ (yi pw)) (w.heap.size+1+1) 57 (yvL 1 ng (.slice ao la ca) pw):=((((v2.set 0 (yi 1)).set 1 (.bool ng)).set 2 (.slice ao la ca)).set 3 (yi pw));have bu:=(((ag W1 (w.heap.size+1+1) 0 (yi 1)).trans (ag _ (w.heap.size+1+1) 1 (.bool ng))).trans (ag _ (w.heap.size+1+1) 2 (.slice ao la ca))).trans (ag _ (w.heap.size+1+1) 3 (yi pw));have bR:=bu.below b2 (by omega);have rR:=bu.rd r2 (aX r2 v2 (by simp));have hl:=run_loadVar_mid (P:=Tryz.prog) _ (w.heap.size+1+1) 0 57 (yvL 1 ng (.slice ao la ca) pw) _ cR.range underlying57 rfl (by kernel_rfl);have HH:Hid (_∧_∧_):=⟨hl,rR,bR⟩;obtain⟨z0,z1,z2,z3⟩:=v2.cs4;have fz0:=v2.f 0;have fz1:=v2.f 1;have fz2:=v2.f 2;have fz3:=v2.f 3;clear hl bR bu cR rR;obtain⟨k0,k1,k2,k3⟩:=q2.cs4;clear v2 b2 r2 q2
    go_wp2
    obtain⟨hl,rR,bR⟩:=HH.out;exact bodyPost_ret (aj results63 rfl rfl hl) rfl ⟨_,rfl,rR,bR⟩
  ·have hz1:(((la:Nat):Int)==0)=false:=beq_eq_false_iff_ne.2 (by omega)
   have hcl:cl=2:=by rw[HE.out.2.1,if_neg hz]
   subst hcl;clear hz
   go_upto_block 1 with fail
   have q2:=q1;have v2:=v1;have r2:=r1;have b2:=b1;clear q1 v1 r1 b1 p1 hz1;generalize WA=W1 at*
   cases ex
   ·have hfl:fl=1:=HE.out.2.2
    subst hfl;clear HE;have cR:au ((((W1.setCell ⟨w.heap.size+1+1,0,none⟩ (yi 2)).setCell ⟨w.heap.size+1+1,1,none⟩ (.bool ng)).setCell ⟨w.heap.size+1+1,2,none⟩ (.slice ao la ca)).setCell ⟨w.heap.size+1+1,3,none⟩ (yi pw)) (w.heap.size+1+1) 57 (yvL 2 ng (.slice ao la ca) pw):=((((v2.set 0 (yi 2)).set 1 (.bool ng)).set 2 (.slice ao la ca)).set 3 (yi pw));have bu:=(((ag W1 (w.heap.size+1+1) 0 (yi 2)).trans (ag _ (w.heap.size+1+1) 1 (.bool ng))).trans (ag _ (w.heap.size+1+1) 2 (.slice ao la ca))).trans (ag _ (w.heap.size+1+1) 3 (yi pw));have bR:=bu.below b2 (by omega);have rR:=bu.rd r2 (aX r2 v2 (by simp));have hl:=run_loadVar_mid (P:=Tryz.prog) _ (w.heap.size+1+1) 0 57 (yvL 2 ng (.slice ao la ca) pw) _ cR.range underlying57 rfl (by kernel_rfl);have HH:Hid (_∧_∧_):=⟨hl,rR,bR⟩;obtain⟨z0,z1,z2,z3⟩:=v2.cs4;have fz0:=v2.f 0;have fz1:=v2.f 1;have fz2:=v2.f 2;have fz3:=v2.f 3;clear hl bR bu cR rR;obtain⟨k0,k1,k2,k3⟩:=q2.cs4;clear v2 b2 r2 q2
    go_wp2
    obtain⟨hl,rR,bR⟩:=HH.out;exact bodyPost_ret (aj results63 rfl rfl hl) rfl ⟨_,rfl,rR,bR⟩
   ·have hfl:fl=0:=HE.out.2.2
    subst hfl;clear HE;have cR:au ((((W1.setCell ⟨w.heap.size+1+1,0,none⟩ (yi 2)).setCell ⟨w.heap.size+1+1,1,none⟩ (.bool ng)).setCell ⟨w.heap.size+1+1,2,none⟩ (.slice ao la ca)).setCell ⟨w.heap.size+1+1,3,none⟩ (yi pw)) (w.heap.size+1+1) 57 (yvL 2 ng (.slice ao la ca) pw):=((((v2.set 0 (yi 2)).set 1 (.bool ng)).set 2 (.slice ao la ca)).set 3 (yi pw));have bu:=(((ag W1 (w.heap.size+1+1) 0 (yi 2)).trans (ag _ (w.heap.size+1+1) 1 (.bool ng))).trans (ag _ (w.heap.size+1+1) 2 (.slice ao la ca))).trans (ag _ (w.heap.size+1+1) 3 (yi pw));have bR:=bu.below b2 (by omega);have rR:=bu.rd r2 (aX r2 v2 (by simp));have hl:=run_loadVar_mid (P:=Tryz.prog) _ (w.heap.size+1+1) 0 57 (yvL 2 ng (.slice ao la ca) pw) _ cR.range underlying57 rfl (by kernel_rfl);have HH:Hid (_∧_∧_):=⟨hl,rR,bR⟩;obtain⟨z0,z1,z2,z3⟩:=v2.cs4;have fz0:=v2.f 0;have fz1:=v2.f 1;have fz2:=v2.f 2;have fz3:=v2.f 3;clear hl bR bu cR rR;obtain⟨k0,k1,k2,k3⟩:=q2.cs4;clear v2 b2 r2 q2
    go_wp2
    obtain⟨hl,rR,bR⟩:=HH.out;exact bodyPost_ret (aj results63 rfl rfl hl) rfl ⟨_,rfl,rR,bR⟩
 ·subst hun
  clear hlt go
  go_upto_region 6 with fail
  generalize W0.alloc (.cells (yvA 2 ng (.slice ao la ca) pw) 57)=WA at q1 p1 v1 r1 b1⊢;generalize W0.heap.size=Q at q1 hq hne⊢;clear x0 x1 x2 x3 x4 x5 y5 d0;obtain⟨x0,x1,x2,x3,x4,x5⟩:=p1.cs6
  by_cases hz:la=0
  ·have hz1:(((la:Nat):Int)==0)=true:=by rw[hz];rfl
   have hcl:cl=1:=by rw[HE.out.2.1,if_pos hz]
   subst hcl;clear hz;have c0:=q1.c 0 rfl;have f0:=q1.f 0;have bq:=ag WA Q 0 (yi 1);have q2:au (WA.setCell ⟨Q,0,none⟩ (yi 1)) Q 57 (yvL 1 ng (.slice ao la ca) pw):=q1.set 0 (yi 1);have p2:=bq.loc p1 (by omega);have v2:=bq.loc v1 (by omega);have r2:=bq.rd r1 (aX r1 q1 (by simp));have b2:=bq.below b1 (by omega)
   go_upto_block 1 with fail
   generalize WA.setCell ⟨Q,0,none⟩ (yi 1)=W1 at q2 p2 v2 r2 b2⊢;clear c0 f0 bq q1 p1 v1 r1 b1 x0 x1 x2 x3 x4 x5 hz1;obtain⟨x0,x1,x2,x3,x4,x5⟩:=p2.cs6;clear p2
   cases ex
   ·have hfl:fl=3:=HE.out.2.2
    subst hfl;clear HE;have cR:au ((((W1.setCell ⟨w.heap.size+1+1,0,none⟩ (yi 1)).setCell ⟨w.heap.size+1+1,1,none⟩ (.bool ng)).setCell ⟨w.heap.size+1+1,2,none⟩ (.slice ao la ca)).setCell ⟨w.heap.size+1+1,3,none⟩ (yi pw)) (w.heap.size+1+1) 57 (yvL 1 ng (.slice ao la ca) pw):=((((v2.set 0 (yi 1)).set 1 (.bool ng)).set 2 (.slice ao la ca)).set 3 (yi pw));have bu:=(((ag W1 (w.heap.size+1+1) 0 (yi 1)).trans (ag _ (w.heap.size+1+1) 1 (.bool ng))).trans (ag _ (w.heap.size+1+1) 2 (.slice ao la ca))).trans (ag _ (w.heap.size+1+1) 3 (yi pw));have bR:=bu.below b2 (by omega);have rR:=bu.rd r2 (aX r2 v2 (by simp));have hl:=run_loadVar_mid (P:=Tryz.prog) _ (w.heap.size+1+1) 0 57 (yvL 1 ng (.slice ao la ca) pw) _ cR.range underlying57 rfl (by kernel_rfl);have HH:Hid (_∧_∧_):=⟨hl,rR,bR⟩;obtain⟨z0,z1,z2,z3⟩:=v2.cs4;have fz0:=v2.f 0;have fz1:=v2.f 1;have fz2:=v2.f 2;have fz3:=v2.f 3;clear hl bR bu cR rR;obtain⟨k0,k1,k2,k3⟩:=q2.cs4;clear v2 b2 r2 q2
    go_wp2
    obtain⟨hl,rR,bR⟩:=HH.out;exact bodyPost_ret (aj results63 rfl rfl hl) rfl ⟨_,rfl,rR,bR⟩
   ·have hfl:fl=0:=HE.out.2.2
    subst hfl;clear HE;have cR:au ((((W1.setCell ⟨w.heap.size+1+1,0,none⟩ (yi 1)).setCell ⟨w.heap.size+1+1,1,none⟩ (.bool ng)).setCell ⟨w.heap.size+1+1,2,none⟩ (.slice ao la ca)).setCell ⟨w.heap.size+1+1,3,none⟩ (yi pw)) (w.heap.size+1+1) 57 (yvL 1 ng (.slice ao la ca) pw):=((((v2.set 0 (yi 1)).set 1 (.bool ng)).set 2 (.slice ao la ca)).set 3 (yi pw));have bu:=(((ag W1 (w.heap.size+1+1) 0 (yi 1)).trans (ag _ (w.heap.size+1+1) 1 (.bool ng))).trans (ag _ (w.heap.size+1+1) 2 (.slice ao la ca))).trans (ag _ (w.heap.size+1+1) 3 (yi pw));have bR:=bu.below b2 (by omega);have rR:=bu.rd r2 (aX r2 v2 (by simp));have hl:=run_loadVar_mid (P:=Tryz.prog) _ (w.heap.size+1+1) 0 57 (yvL 1 ng (.slice ao la ca) pw) _ cR.range underlying57 rfl (by kernel_rfl);have HH:Hid (_∧_∧_):=⟨hl,rR,bR⟩;obtain⟨z0,z1,z2,z3⟩:=v2.cs4;have fz0:=v2.f 0;have fz1:=v2.f 1;have fz2:=v2.f 2;have fz3:=v2.f 3;clear hl bR bu cR rR;obtain⟨k0,k1,k2,k3⟩:=q2.cs4;clear v2 b2 r2 q2
    go_wp2
    obtain⟨hl,rR,bR⟩:=HH.out;exact bodyPost_ret (aj results63 rfl rfl hl) rfl ⟨_,rfl,rR,bR⟩
  ·have hz1:(((la:Nat):Int)==0)=false:=beq_eq_false_iff_ne.2 (by omega)
   have hcl:cl=2:=by rw[HE.out.2.1,if_neg hz]
   subst hcl;clear hz
   go_upto_block 1 with fail
   have q2:=q1;have v2:=v1;have r2:=r1;have b2:=b1;clear q1 v1 r1 b1 p1 hz1;generalize WA=W1 at*
   cases ex
   ·have hfl:fl=3:=HE.out.2.2
    subst hfl;clear HE;have cR:au ((((W1.setCell ⟨w.heap.size+1+1,0,none⟩ (yi 2)).setCell ⟨w.heap.size+1+1,1,none⟩ (.bool ng)).setCell ⟨w.heap.size+1+1,2,none⟩ (.slice ao la ca)).setCell ⟨w.heap.size+1+1,3,none⟩ (yi pw)) (w.heap.size+1+1) 57 (yvL 2 ng (.slice ao la ca) pw):=((((v2.set 0 (yi 2)).set 1 (.bool ng)).set 2 (.slice ao la ca)).set 3 (yi pw));have bu:=(((ag W1 (w.heap.size+1+1) 0 (yi 2)).trans (ag _ (w.heap.size+1+1) 1 (.bool ng))).trans (ag _ (w.heap.size+1+1) 2 (.slice ao la ca))).trans (ag _ (w.heap.size+1+1) 3 (yi pw));have bR:=bu.below b2 (by omega);have rR:=bu.rd r2 (aX r2 v2 (by simp));have hl:=run_loadVar_mid (P:=Tryz.prog) _ (w.heap.size+1+1) 0 57 (yvL 2 ng (.slice ao la ca) pw) _ cR.range underlying57 rfl (by kernel_rfl);have HH:Hid (_∧_∧_):=⟨hl,rR,bR⟩;obtain⟨z0,z1,z2,z3⟩:=v2.cs4;have fz0:=v2.f 0;have fz1:=v2.f 1;have fz2:=v2.f 2;have fz3:=v2.f 3;clear hl bR bu cR rR;obtain⟨k0,k1,k2,k3⟩:=q2.cs4;clear v2 b2 r2 q2
    go_wp2
    obtain⟨hl,rR,bR⟩:=HH.out;exact bodyPost_ret (aj results63 rfl rfl hl) rfl ⟨_,rfl,rR,bR⟩
   ·have hfl:fl=0:=HE.out.2.2
    subst hfl;clear HE;have cR:au ((((W1.setCell ⟨w.heap.size+1+1,0,none⟩ (yi 2)).setCell ⟨w.heap.size+1+1,1,none⟩ (.bool ng)).setCell ⟨w.heap.size+1+1,2,none⟩ (.slice ao la ca)).setCell ⟨w.heap.size+1+1,3,none⟩ (yi pw)) (w.heap.size+1+1) 57 (yvL 2 ng (.slice ao la ca) pw):=((((v2.set 0 (yi 2)).set 1 (.bool ng)).set 2 (.slice ao la ca)).set 3 (yi pw));have bu:=(((ag W1 (w.heap.size+1+1) 0 (yi 2)).trans (ag _ (w.heap.size+1+1) 1 (.bool ng))).trans (ag _ (w.heap.size+1+1) 2 (.slice ao la ca))).trans (ag _ (w.heap.size+1+1) 3 (yi pw));have bR:=bu.below b2 (by omega);have rR:=bu.rd r2 (aX r2 v2 (by simp));have hl:=run_loadVar_mid (P:=Tryz.prog) _ (w.heap.size+1+1) 0 57 (yvL 2 ng (.slice ao la ca) pw) _ cR.range underlying57 rfl (by kernel_rfl);have HH:Hid (_∧_∧_):=⟨hl,rR,bR⟩;obtain⟨z0,z1,z2,z3⟩:=v2.cs4;have fz0:=v2.f 0;have fz1:=v2.f 1;have fz2:=v2.f 2;have fz3:=v2.f 3;clear hl bR bu cR rR;obtain⟨k0,k1,k2,k3⟩:=q2.cs4;clear v2 b2 r2 q2
    go_wp2
    obtain⟨hl,rR,bR⟩:=HH.out;exact bodyPost_ret (aj results63 rfl rfl hl) rfl ⟨_,rfl,rR,bR⟩
theorem sF.off {w w':World}{n:Int}{ps:List ByteArray}{g cap b:Nat}{ty:TypeId}{vs:List Value}(h:sF w n ps g cap)(bu:But b w w')(hl:au w b ty vs)(hu: ∀x∈vs,∀k:Int,x≠ .int .u32 k)(hg:g≠b):sF w' n ps g cap:=
 ⟨h.fit,h.most,fun i p hp=>by
  obtain⟨so,sc,h1,h2⟩:=h.each i p hp;exact⟨so,sc,fun j v hj=>by rw[bu.c (by exact hg)];exact h1 j v hj,bu.rd h2 (aX h2 hl hu)⟩⟩
theorem adb (cx cy c fl:Int)(gg:Bool)(t:ak)(n wy fam R D L G:Int)(gr:Bool)(gx gy:Bool)(x y:ak)(xo yo:Option Addr)(xc yc:Nat)(g cap:Nat)(w:World)(h0:w.rangeAt g 0 (yOL cx gx x xo xc))(h1:w.rangeAt g 5 (yOL cy gy y yo yc))
  (HS: ∀w1,yB w w1→yC 170 #[ykV n wy fam R D L G gr,yOV cx gx x xo xc,yOV cy gy y yo yc] w1 (dU w1 c gg t fl)):
  yC 169 #[ykV n wy fam R D L G gr,.slice (some ⟨g,0,none⟩) 2 cap] w (dU w c gg t fl):=by
 replace HS:Hid _:=HS;have hgl:g<w.heap.size:=World.block_lt_of_cell? w _ (h0 0 _ rfl);obtain⟨W4,hW5,q1,q2,b3⟩:=iG w (ykL n wy fam R D L G gr) 83 (yoL 0 false false yN 0) 88;replace hW5:Hid _:=hW5;have q6:=aC h0 b3;have q7:=aC h1 b3;clear h0 h1
 go_enter func169,ntmps169
 go_upto_region 1 with fail
 rw[hW5.out];clear hW5
 go_upto_region 1 with fail
 have bW8:yB W4 W4.drew:=(Below.refl _ _).drew;have q9:=aC q6 bW8;have q10:=aC q7 bW8;have q11:=q1.l bW8;have q12:=q2.l bW8;have b13:=aa b3 bW8;clear q6 q7 q1 q2 b3 bW8;refine wp_region_held_drew (S:=fun wq=>wq.rangeAt g 0 (yOL cx gx x xo xc)∧wq.rangeAt g 5 (yOL cy gy y yo yc)∧au wq w.heap.size 83 (ykL n wy fam R D L G gr)) (by kernel_rfl) ⟨q9,q10,q11⟩ (fun hS0=> ?_)
 generalize W4.drew=WD14 at q9 q10 q11 q12 b13 hS0⊢;refine tq 0 (ykV n wy fam R D L G gr) rfl (fun _ hw0=>fy 83 (.tmp 2) rfl w.heap.size 0 (by kernel_rfl) _ _ hw0.2.2.range underlying83 rfl (by kernel_rfl)) hS0 ?_
 refine tq 1 (.slice (some ⟨g,0,none⟩) 2 cap) rfl (fun _ _=>by kernel_rfl) hS0 ?_
 refine tq 2 (.pointer (some ⟨g,0,none⟩)) rfl (fun _ _=>by kernel_rfl) hS0 ?_
 refine tq 3 (yOV cx gx x xo xc) rfl (fun _ hw0=>fy 88 (.tmp 8) rfl g 0 (by kernel_rfl) _ _ hw0.1 underlying88 rfl (by kernel_rfl)) hS0 ?_
 refine tq 4 (.slice (some ⟨g,0,none⟩) 2 cap) rfl (fun _ _=>by kernel_rfl) hS0 ?_
 refine tq 5 (.pointer (some ⟨g,5,none⟩)) rfl (fun _ _=>by kernel_rfl) hS0 ?_
 refine tq 6 (yOV cy gy y yo yc) rfl (fun _ hw0=>fy 88 (.tmp 11) rfl g 5 (by kernel_rfl) _ _ hw0.2.1 underlying88 rfl (by kernel_rfl)) hS0 ?_
 refine wpAnyH_ready (rs:=[7]) (by kernel_rfl) (by simp) ?_;refine AllReadyH.cons rfl (fun K hK=> ?_) AllReadyH.nil
 go_simp
 refine(HS.out _ b13).mono ?_;rintro zz w15 ⟨v117,rfl,r118,bb16⟩;have q19:=aC q9 bb16;have q20:=aC q10 bb16;have q21:=q11.l bb16;have q22:=q12.l bb16;have b23:=aa b13 bb16;obtain⟨so,sc,hv⟩:=r118.shape;subst hv;clear q9 q10 q11 q12 b13 bb16 HS;refine hK.out _ _ ⟨q19,q20,q21⟩ (fun hS24=> ?_)
 clear hK K;refine tq 8 (yOV c gg t so sc) rfl (fun _ _=>by go_simp) hS24 ?_
 refine tq 9 (yi fl) rfl (fun _ _=>by go_simp) hS24 ?_
 refine wpAnyH_ready (rs:=[10]) (by kernel_rfl) (by simp) ?_;refine AllReadyH.cons rfl (fun K hK=> ?_) AllReadyH.nil
 have bu:But (w.heap.size+1) w15 (w15.setCells (w.heap.size+1) 0 (yOL c gg t so sc)):=de _ _ _ _;have hth:w15.there (w.heap.size+1) 0 5:=dD q22;have q25:au (w15.setCells (w.heap.size+1) 0 (yOL c gg t so sc)) (w.heap.size+1) 88 (yOL c gg t so sc):=q22.sets _ rfl;have r26:=bu.rd r118 (aX r118 q22 (by simp));have q27:=dZ bu q19 (by omega);have q28:=dZ bu q20 (by omega);have q29:=bu.loc q21 (by omega);have b30:=bu.below b23 (by omega);rw[if_pos (by kernel_rfl)];refine wp_store_mid 88 (.tmp 4) (.tmp 14) rfl (w.heap.size+1) 0 (yOA c gg t so sc) (by kernel_rfl) (by kernel_rfl) hth (by kernel_rfl) (by simp[Value.oneCell']) ?_;refine hK.out _ _ ⟨q27,q28,q29⟩ (fun hS31=> ?_)
 clear hK K;clear q22 r118 q19 q20 q21 b23 bu hth;refine tq 11 (yi fl) rfl (fun _ _=>by kernel_rfl) hS31 ?_
 refine wpAnyH_done (by kernel_rfl) ?_ _;clear hS0 hS24 hS31;change Exit.then _ _ _ _ (World.setCells w15 (w.heap.size+1) 0 (yOL c gg t so sc));generalize World.setCells w15 (w.heap.size+1) 0 (yOL c gg t so sc)=W32 at q27 q28 q29 q25 r26 b30⊢;simp only[Act.put,List.getElem_toArray,List.getElem_cons_succ,List.getElem_cons_zero,List.setIfInBounds_toArray,List.set_cons_zero,List.set_cons_succ];have hl:=run_loadVar_mid (P:=Tryz.prog) _ (w.heap.size+1) 0 88 (yOL c gg t so sc) _ q25.range underlying88 rfl (by kernel_rfl)
 go_wp2
 exact bodyPost_ret (aj results169 rfl rfl hl) rfl ⟨_,rfl,r26,b30⟩
theorem Gw.l {w w':World}{n:Int}{g:Option Nat}{p:ByteArray}{v:Value}(h:Gw w n g p v)(hb:yB w w'):Gw w' n g p v:=⟨h.1,h.2.1.l hb,h.2.2⟩
theorem ab5.l {w w':World}{n:Int}{ps:List ByteArray}{g cap:Nat}(h:ab5 w n ps g cap)(hb:yB w w'):ab5 w' n ps g cap:=
 ⟨h.fit,h.most,fun i p hp=>by
  obtain⟨so,sc,h1,h2⟩:=h.each i p hp;exact⟨so,sc,aC h1 hb,h2.l hb⟩⟩
theorem scaled_any (xg:Bool)(xn:Nat)(xo:Option Addr)(xc:Nat)(e n:Int)(w:World)(rx:Rd w .u32 (yT xo xn xc) (Dg.dg 4294967296 xn))(hx:xn<2^64)(e1: -16500≤e)(e2:e≤16500)(n1: -5100≤n)(n2:n≤5100):
  yC 45 #[ydV xg (yT xo xn xc) e,yi n] w (NbR w (scA xn e n/scB e n) (decide (0< (Dg.dg 4294967296 (scA xn e n % scB e n)).length))):=by
 obtain⟨a,ha⟩: ∃a,a=64:=⟨_,rfl⟩;obtain⟨c,hc⟩: ∃c,c=36964:=⟨_,rfl⟩;rw[←ha] at hx;obtain⟨l1,l2,l3⟩:=sc_in ha hc hx e2 n2;have hxl:(Dg.dg 4294967296 xn).length≤2:=jq hx (by omega);have htw:IntKind.i64.wrap (e+n)=e+n:=IntWalk.i64_in _ ⟨by omega,by omega⟩;have hmt:IntKind.i64.wrap (-(e+n))= -(e+n):=IntWalk.i64_in _ ⟨by omega,by omega⟩;have hmn:IntKind.i64.wrap (-n)= -n:=IntWalk.i64_in _ ⟨by omega,by omega⟩;have SH: ∀(m:Nat) (t:Int) o k w1,(Dg.dg 4294967296 m).length≤900000→0≤t→t≤900000→Rd w1 .u32 (yT o m k) (Dg.dg 4294967296 m)→yC 47 #[yT o m k,yi t] w1 (NmR w1 (m*2^t.toNat)):=fun m t o k w1 hl t0 t1 hr=>by
  have:=eO _ _ t w1 hr (Dg.small_dg _ _ (by omega)) (by omega) (by omega) (by omega);rw[Dg.vl_dg _ _ (by omega),CE m t t0] at this;exact this.mono fun _ _ h=>num_nmR h
 have OV: ∀(m d:Nat) o k o2 k2 w1,(Dg.dg 4294967296 m).length≤900000→d≠0→Rd w1 .u32 (yT o m k) (Dg.dg 4294967296 m)→Rd w1 .u32 (yT o2 d k2) (Dg.dg 4294967296 d)→yC 50 #[yT o m k,yT o2 d k2] w1 (TwR w1 (m/d) (m % d)):=fun m d o k o2 k2 w1 hl hd h1 h2=>by
  have:=A9 _ _ _ _ w1 h1 h2 (Dg.small_dg _ _ (by omega)) (Dg.small_dg _ _ (by omega)) (Dg.norm_dg _ _ (by omega)) (Dg.norm_dg _ _ (by omega)) (fun c=>hd ((Dg.dg_nil_iff 4294967296 _ (by omega)).1 c)) hl
  rw[Dg.vl_dg _ _ (by omega),Dg.vl_dg _ _ (by omega)] at this;exact this.mono fun _ _ h=>two_tw h
 have hone:Dg.dg 4294967296 1=[1]:=by decide
 have ln: ∀m,m<2^c→(Dg.dg 4294967296 m).length≤900000:=fun m h=>Nat.le_trans (jq (L:=1156) h (by omega)) (by omega)
 have p5: ∀k:Nat,5^k≠0:=fun k=>Nat.ne_of_gt (Nat.pow_pos (by omega))
 have p2: ∀k:Nat,2^k≠0:=fun k=>Nat.ne_of_gt (Nat.pow_pos (by omega))
 obtain⟨d,hd⟩: ∃d,d=15301:=⟨_,rfl⟩
 by_cases hn:0<n
 ·have HF:=fun w1=>fives_int n w1 (by omega) (by omega)
  have h5l:(Dg.dg 4294967296 (5^n.toNat)).length≤479:=jq (k:=d) (Nat.lt_of_le_of_lt (pow5_two _) (Nat.pow_lt_pow_right (by omega) (by omega))) (by omega);have HT: ∀xo xc fo fc w1,Rd w1 .u32 (yT xo xn xc) (Dg.dg 4294967296 xn)→Rd w1 .u32 (.slice fo (Dg.dg 4294967296 (5^n.toNat)).length fc) (Dg.dg 4294967296 (5^n.toNat))→yC 76 #[yT xo xn xc,.slice fo (Dg.dg 4294967296 (5^n.toNat)).length fc] w1 (NmR w1 (xn*5^n.toNat)):=fun xo xc fo fc w1 h1 h2=>by
   have:=qC _ _ _ _ w1 h1 h2 (Dg.small_dg _ _ (by omega)) (Dg.small_dg _ _ (by omega)) (by omega) (by omega);rw[Dg.vl_dg _ _ (by omega),Dg.vl_dg _ _ (by omega)] at this;exact this.mono fun _ _ h=>num_nmR h
  have hB5:(-n).toNat=0:=by omega
  by_cases ht:0<e+n
  ·have hB:scB e n=1:=by
    unfold scB;rw[hB5,show(-(e+n)).toNat=0 by omega]
   rw[hB];exact tscaled_uu xg xn xo xc e n _ _ _ (scA xn e n) _ _ w rx htw hn ht HF HT (fun mo mc w1 h=>SH _ _ mo mc w1 (ln _ l2) (by omega) (by omega) h) (fun no nc q w1 h hq=>by
    have:=OV _ 1 no nc (some ⟨q,0,none⟩) 1 w1 (ln _ l1) (by omega) h (by rw[hone];exact xD (hq.c 0 rfl));exact this)
  ·have hA:scA xn e n=xn*5^n.toNat:=by
    unfold scA;rw[show(e+n).toNat=0 by omega,Nat.pow_zero,Nat.mul_one]
   have hB:scB e n=2^ (-(e+n)).toNat:=by
    unfold scB;rw[hB5,Nat.pow_zero,Nat.one_mul]
   rw[hA,hB];exact tscaled_ud xg xn xo xc e n _ _ _ _ (2^ (-(e+n)).toNat) _ _ w rx htw hn ht hmt HF HT (fun q w1 hq=>by
    have:=SH 1 (-(e+n)) (some ⟨q,0,none⟩) 1 w1 (by rw[hone];simp) (by omega) (by omega) (by rw[hone];exact xD (hq.c 0 rfl));rw[Nat.one_mul] at this;exact this) (fun mo mc go gc w1 h1 h2=>OV _ _ mo mc go gc w1 (ln _ l2) (p2 _) h1 h2)
 ·have HF:=fun w1=>fives_int (-n) w1 (by omega) (by omega)
  have h5l:(Dg.dg 4294967296 (5^ (-n).toNat)).length≤479:=jq (k:=d) (Nat.lt_of_le_of_lt (pow5_two _) (Nat.pow_lt_pow_right (by omega) (by omega))) (by omega);have hA5:n.toNat=0:=by omega
  have hA:scA xn e n=xn*2^ (e+n).toNat:=by
   unfold scA;rw[hA5,Nat.pow_zero,Nat.mul_one]
  by_cases ht:0<e+n
  ·have hB:scB e n=5^ (-n).toNat:=by
    unfold scB;rw[show(-(e+n)).toNat=0 by omega,Nat.pow_zero,Nat.mul_one]
   rw[hA,hB];exact tscaled_du xg xn xo xc e n _ _ _ (xn*2^ (e+n).toNat) _ _ w rx htw hn ht hmn HF (fun mo mc w1 h=>SH _ _ mo mc w1 (by omega) (by omega) (by omega) h) (fun no nc fo fc w1 h1 h2=>OV _ _ no nc fo fc w1 (ln _ l3) (p5 _) h1 h2)
  ·have hA2:scA xn e n=xn:=by
    rw[hA,show(e+n).toNat=0 by omega,Nat.pow_zero,Nat.mul_one]
   have hB:scB e n=5^ (-n).toNat*2^ (-(e+n)).toNat:=rfl;rw[hA2];exact tscaled_dd xg xn xo xc e n _ _ _ _ (scB e n) _ _ w rx htw hn ht hmn hmt HF (fun fo fc w1 h=>SH _ _ fo fc w1 (by omega) (by omega) (by omega) h) (fun mo mc go gc w1 h1 h2=>OV _ _ mo mc go gc w1 (by omega) (Nat.mul_ne_zero (p5 _) (p2 _)) h1 h2)
end Go.Proofs.YtdhpndnncmagiaaGreatDoor

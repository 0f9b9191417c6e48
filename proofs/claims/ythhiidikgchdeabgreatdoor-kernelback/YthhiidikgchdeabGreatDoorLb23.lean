/- Texts laid together. -/
import Derived.Test.YthhiidikgchdeabGreatDoorLb20
import Derived.Test.YthhiidikgchdeabGreatDoorLb21
set_option maxRecDepth 100000
set_option maxHeartbeats 3200000
namespace Go.Proofs.YthhiidikgchdeabGreatDoor
open _root_.Go.Proofs.Tryz
open Go.RowKit
theorem nearest_W (a:ak)(W:Option Addr)(U:Nat)(x y:ak)(f:Int)(n:Nat)(w:World)(ra:Rd w .u32 (yT W a.n U) (Dg.dg 4294967296 a.n))
  (H1: ∀i,yB w i→yC 43 #[yi 1] i (Lx i x))
  (Q: ∀xo xc i,yC 84 #[yDV x xo xc,yi (-1)] i (yR i (ydV x.s (yT xo x.n xc) f)))
  (F: ∀xo xc i,yB w i→Rd i .u32 (yT xo x.n xc) (Dg.dg 4294967296 x.n)→Rd i .u32 (yT W a.n U) (Dg.dg 4294967296 a.n)→yC 32 #[yDV a W U,ydV x.s (yT xo x.n xc) f] i (Lx i y))
  (G: ∀g d i,yC 65 #[yDV y g d] i (yR i (yT g y.n d)))
  (H: ∀g d i,yB w i→Rd i .u32 (yT g y.n d) (Dg.dg 4294967296 y.n)→yC 102 #[yT g y.n d,yi y.e] i (fun z w'=> ∃v,z= .returned v∧Rd w' .u32 v (Dg.dg 4294967296 n)∧yB i w')):
  yC 109 #[yDV a W U] w (fun z w'=> ∃v,z= .returned v∧Rd w' .u32 v (Dg.dg 4294967296 n)∧yB w w'):=by
 replace H1:Hid _:=H1;replace Q:Hid _:=Q;replace F:Hid _:=F;replace G:Hid _:=G;replace H:Hid _:=H;obtain⟨W3,bq,q1,b2⟩:=cA w (yDL a W U) 48;replace bq:Hid _:=bq;have r5:=ra.l b2;clear ra
 go_enter func109,ntmps109
 go_upto_region 1 with fail
 rw[bq.out];clear bq
 go_upto_region 1 with fail
 have bj:yB W3 W3.drew:=(Below.refl _ _).drew;have q7:=q1.l bj;have r8:=r5.l bj;have b9:=aa b2 bj;clear q1 r5 b2 bj;refine wp_region_held_drew (S:=fun P=>au P w.heap.size 48 (yDL a W U)) (by kernel_rfl) q7 (fun h=> ?_)
 generalize W3.drew=ar at q7 r8 b9 h⊢;refine tq 0 (yDV a W U) rfl (fun _ m=>fy 48 (.tmp 1) rfl w.heap.size 0 (by kernel_rfl) _ _ m.range underlying48 rfl (by kernel_rfl)) h ?_
 refine wpAnyH_ready (rs:=[1,4]) (by kernel_rfl) (by simp) ?_;refine AllReadyH.cons rfl (fun K b=> ?_) (AllReadyH.cons rfl (fun K b=> ?_) AllReadyH.nil)
 ·go_simp
  refine(H1.out _ b9).mono ?_;rintro o ba ⟨et,rfl,b5,bl⟩;have ae:=q7.l bl;have c2:=r8.l bl;have ay:=aa b9 bl;obtain⟨xo,xc,k⟩:=b5.shape;subst k;clear q7 r8 b9 bl H1;refine b.out _ _ ae (fun cm=> ?_)
  clear b K;refine wpAnyH_ready (rs:=[2,4]) (by kernel_rfl) (by simp) ?_;refine AllReadyH.cons rfl (fun K b=> ?_) (AllReadyH.cons rfl (fun K b=> ?_) AllReadyH.nil)
  ·go_simp
   refine(Q.out _ _ _).mono ?_;rintro o bb ⟨rfl,b0⟩;have al:=ae.l b0;have c4:=c2.l b0;have c5:=b5.l b0;have a9:=aa ay b0;clear ae c2 b5 ay b0 Q;refine b.out _ _ al (fun da=> ?_)
   clear b K;refine wpAnyH_ready (rs:=[3,4]) (by kernel_rfl) (by simp) ?_;refine AllReadyH.cons rfl (fun K b=> ?_) (AllReadyH.cons rfl (fun K b=> ?_) AllReadyH.nil)
   ·go_simp
    refine(F.out _ _ _ a9 c5 c4).mono ?_;rintro o bc ⟨ev,rfl,d0,cj⟩;have bx:=al.l cj;have c9:=aa a9 cj;obtain⟨g,d,k⟩:=d0.shape;subst k;clear al c4 c5 a9 cj F;refine b.out _ _ bx (fun e1=> ?_)
    clear b K;refine wpAnyH_ready (rs:=[4]) (by kernel_rfl) (by simp) ?_;refine AllReadyH.cons rfl (fun K b=> ?_) AllReadyH.nil
    go_simp
    have be:=af bc (.cells (ydA false yN 0) 48);have an:=ah bc (ydL false yN 0) 48;have ed:w.heap.size≤bc.heap.size:=c9.size;have ee:=bx.lt;have bz:=bx.l be;have c6:=d0.l be;have ca:=aa c9 be;refine b.out _ _ bz (fun dc=> ?_)
    clear b K;clear bx d0 c9 be;generalize bc.alloc (.cells (ydA false yN 0) 48)=a8 at bz an c6 ca dc⊢;generalize bc.heap.size=t at an ed ee⊢;refine wpAnyH_ready (rs:=[5]) (by kernel_rfl) (by simp) ?_;refine AllReadyH.cons rfl (fun K b=> ?_) AllReadyH.nil
    have j:But t a8 (a8.setCells t 0 (yDL y g d)):=de _ _ _ _;have E:a8.there t 0 3:=dD an;have A:au (a8.setCells t 0 (yDL y g d)) t 48 (yDL y g d):=an.sets _ rfl;have d3:=j.rd c6 (aX c6 an (by simp));have a2:=j.loc bz (by omega);have cb:=j.below ca (by omega);rw[if_pos (by kernel_rfl)];refine wp_store_mid 48 (.tmp 3) (.tmp 7) rfl t 0 (yDA y g d) (by kernel_rfl) (by kernel_rfl) E (by kernel_rfl) (by simp[Value.oneCell']) ?_;refine b.out _ _ a2 (fun e3=> ?_)
    clear b K;clear an c6 bz ca j E;refine wpAnyH_done (by kernel_rfl) ?_ _;clear h cm da e1 dc e3;change Exit.then _ _ _ _ (World.setCells a8 t 0 (yDL y g d));generalize World.setCells a8 t 0 (yDL y g d)=c7 at a2 A d3 cb⊢;simp only[Act.put,List.getElem_toArray,List.getElem_cons_succ,List.getElem_cons_zero]
    go_upto_region 2 with fail
    have bh:yB c7 c7.drew:=(Below.refl _ _).drew;have c0:=A.l bh;have d5:=d3.l bh;have cd:=aa cb bh;clear a2 A d3 cb bh;refine wp_region_held_drew (S:=fun P=>au P t 48 (yDL y g d)) (by kernel_rfl) c0 (fun h=> ?_)
    generalize c7.drew=em at c0 d5 cd h⊢;refine tq 0 (yDV y g d) rfl (fun _ m=>fy 48 (.tmp 3) rfl t 0 (by kernel_rfl) _ _ m.range underlying48 rfl (by kernel_rfl)) h ?_
    refine tq 2 (.pointer (some ⟨t,0,none⟩)) rfl (fun _ _=>by kernel_rfl) h ?_
    refine tq 3 (.pointer (some ⟨t,2,none⟩)) rfl (fun _ _=>by kernel_rfl) h ?_
    refine tq 4 (yi y.e) rfl (fun _ m=>gU 3 (.tmp 11) rfl t 2 (by kernel_rfl) _ _ underlying3 rfl (m.c 2 rfl)) h ?_
    refine wpAnyH_ready (rs:=[1]) (by kernel_rfl) (by simp) ?_;refine AllReadyH.cons rfl (fun K b=> ?_) AllReadyH.nil
    go_simp
    refine(G.out _ _ _).mono ?_;rintro o f2 ⟨rfl,bn⟩;have cv:=c0.l bn;have ds:=d5.l bn;have cg:=aa cd bn;clear c0 d5 cd bn G;refine b.out _ _ cv (fun e5=> ?_)
    clear b K;refine wpAnyH_ready (rs:=[5]) (by kernel_rfl) (by simp) ?_;refine AllReadyH.cons rfl (fun K b=> ?_) AllReadyH.nil
    go_simp
    refine(H.out _ _ _ cg ds).mono ?_;rintro o f4 ⟨ey,rfl,dp,ck⟩;have ef:=cv.l ck;have dy:=aa cg ck;obtain⟨no,nc,k⟩:=dp.shape;subst k;clear cv ds cg ck H;refine b.out _ _ ef (fun dd=> ?_)
    clear b K;refine tq 6 (yT no n nc) rfl (fun _ _=>by kernel_rfl) dd ?_
    refine wpAnyH_done (by kernel_rfl) ?_ _;clear h e5 dd;simp only[Act.put,List.getElem_toArray,List.getElem_cons_succ,List.getElem_cons_zero,List.setIfInBounds_toArray,List.set_cons_zero,List.set_cons_succ]
    go_wp2
    go_ret
    exact⟨_,by simp,dp,dy⟩
   ·go_simp
    have ax:=af bb (.cells (ydA false yN 0) 48);have bw:=ah bb (ydL false yN 0) 48;have eb:w.heap.size≤bb.heap.size:=a9.size;have ec:=al.lt;have C:=al.l ax;have d2:=c4.l ax;have O:=c5.l ax;have bg:=aa a9 ax;refine b.out _ _ C (fun db=> ?_)
    clear b K;clear al c4 c5 a9 ax;generalize bb.alloc (.cells (ydA false yN 0) 48)=es at C bw d2 O bg db⊢;generalize bb.heap.size=r at bw eb ec⊢;refine wpAnyH_ready (rs:=[3]) (by kernel_rfl) (by simp) ?_;refine AllReadyH.cons rfl (fun K b=> ?_) AllReadyH.nil
    go_simp
    refine(F.out _ _ _ bg O d2).mono ?_;rintro o aq ⟨ex,rfl,c3,bm⟩;have cs:=C.l bm;have D:=bw.l bm;have d7:=aa bg bm;obtain⟨g,d,k⟩:=c3.shape;subst k;clear C bw d2 O bg bm F;refine b.out _ _ cs (fun e2=> ?_)
    clear b K;refine wpAnyH_ready (rs:=[5]) (by kernel_rfl) (by simp) ?_;refine AllReadyH.cons rfl (fun K b=> ?_) AllReadyH.nil
    have j:But r aq (aq.setCells r 0 (yDL y g d)):=de _ _ _ _;have E:aq.there r 0 3:=dD D;have a2:au (aq.setCells r 0 (yDL y g d)) r 48 (yDL y g d):=D.sets _ rfl;have d4:=j.rd c3 (aX c3 D (by simp));have ct:=j.loc cs (by omega);have cc:=j.below d7 (by omega);rw[if_pos (by kernel_rfl)];refine wp_store_mid 48 (.tmp 3) (.tmp 7) rfl r 0 (yDA y g d) (by kernel_rfl) (by kernel_rfl) E (by kernel_rfl) (by simp[Value.oneCell']) ?_;refine b.out _ _ ct (fun e4=> ?_)
    clear b K;clear D c3 cs d7 j E;refine wpAnyH_done (by kernel_rfl) ?_ _;clear h cm da db e2 e4;change Exit.then _ _ _ _ (World.setCells aq r 0 (yDL y g d));generalize World.setCells aq r 0 (yDL y g d)=c8 at ct a2 d4 cc⊢;simp only[Act.put,List.getElem_toArray,List.getElem_cons_succ,List.getElem_cons_zero]
    go_upto_region 2 with fail
    have bi:yB c8 c8.drew:=(Below.refl _ _).drew;have c1:=a2.l bi;have d6:=d4.l bi;have ce:=aa cc bi;clear ct a2 d4 cc bi;refine wp_region_held_drew (S:=fun P=>au P r 48 (yDL y g d)) (by kernel_rfl) c1 (fun h=> ?_)
    generalize c8.drew=en at c1 d6 ce h⊢;refine tq 0 (yDV y g d) rfl (fun _ m=>fy 48 (.tmp 3) rfl r 0 (by kernel_rfl) _ _ m.range underlying48 rfl (by kernel_rfl)) h ?_
    refine tq 2 (.pointer (some ⟨r,0,none⟩)) rfl (fun _ _=>by kernel_rfl) h ?_
    refine tq 3 (.pointer (some ⟨r,2,none⟩)) rfl (fun _ _=>by kernel_rfl) h ?_
    refine tq 4 (yi y.e) rfl (fun _ m=>gU 3 (.tmp 11) rfl r 2 (by kernel_rfl) _ _ underlying3 rfl (m.c 2 rfl)) h ?_
    refine wpAnyH_ready (rs:=[1]) (by kernel_rfl) (by simp) ?_;refine AllReadyH.cons rfl (fun K b=> ?_) AllReadyH.nil
    go_simp
    refine(G.out _ _ _).mono ?_;rintro o f3 ⟨rfl,bo⟩;have cw:=c1.l bo;have dt:=d6.l bo;have ch:=aa ce bo;clear c1 d6 ce bo G;refine b.out _ _ cw (fun e6=> ?_)
    clear b K;refine wpAnyH_ready (rs:=[5]) (by kernel_rfl) (by simp) ?_;refine AllReadyH.cons rfl (fun K b=> ?_) AllReadyH.nil
    go_simp
    refine(H.out _ _ _ ch dt).mono ?_;rintro o f5 ⟨f0,rfl,dq,cl⟩;have eg:=cw.l cl;have e0:=aa ch cl;obtain⟨no,nc,k⟩:=dq.shape;subst k;clear cw dt ch cl H;refine b.out _ _ eg (fun dl=> ?_)
    clear b K;refine tq 6 (yT no n nc) rfl (fun _ _=>by kernel_rfl) dl ?_
    refine wpAnyH_done (by kernel_rfl) ?_ _;clear h e6 dl;simp only[Act.put,List.getElem_toArray,List.getElem_cons_succ,List.getElem_cons_zero,List.setIfInBounds_toArray,List.set_cons_zero,List.set_cons_succ]
    go_wp2
    go_ret
    exact⟨_,by simp,dq,e0⟩
  ·go_simp
   have av:=af ba (.cells (ydA false yN 0) 48);have bv:=ah ba (ydL false yN 0) 48;have e9:w.heap.size≤ba.heap.size:=ay.size;have ea:=ae.lt;have R:=ae.l av;have d1:=c2.l av;have ap:=b5.l av;have ad:=aa ay av;refine b.out _ _ R (fun bp=> ?_)
   clear b K;clear ae c2 b5 ay av;generalize ba.alloc (.cells (ydA false yN 0) 48)=ep at R bv d1 ap ad bp⊢;generalize ba.heap.size=q at bv e9 ea⊢;refine wpAnyH_ready (rs:=[2]) (by kernel_rfl) (by simp) ?_;refine AllReadyH.cons rfl (fun K b=> ?_) AllReadyH.nil
   go_simp
   refine(Q.out _ _ _).mono ?_;rintro o ej ⟨rfl,u⟩;have C:=R.l u;have b4:=bv.l u;have O:=d1.l u;have b7:=ap.l u;have X:=aa ad u;clear R bv d1 ap ad u Q;refine b.out _ _ C (fun cn=> ?_)
   clear b K;refine wpAnyH_ready (rs:=[3]) (by kernel_rfl) (by simp) ?_;refine AllReadyH.cons rfl (fun K b=> ?_) AllReadyH.nil
   go_simp
   refine(F.out _ _ _ X b7 O).mono ?_;rintro o B ⟨eh,rfl,N,J⟩;have D:=C.l J;have A:=b4.l J;have az:=aa X J;obtain⟨g,d,k⟩:=N.shape;subst k;clear C b4 O b7 X J F;refine b.out _ _ D (fun co=> ?_)
   clear b K;refine wpAnyH_ready (rs:=[5]) (by kernel_rfl) (by simp) ?_;refine AllReadyH.cons rfl (fun K b=> ?_) AllReadyH.nil
   have j:But q B (B.setCells q 0 (yDL y g d)):=de _ _ _ _;have E:B.there q 0 3:=dD A;have a3:au (B.setCells q 0 (yDL y g d)) q 48 (yDL y g d):=A.sets _ rfl;have a6:=j.rd N (aX N A (by simp));have a4:=j.loc D (by omega);have Y:=j.below az (by omega);rw[if_pos (by kernel_rfl)];refine wp_store_mid 48 (.tmp 3) (.tmp 7) rfl q 0 (yDA y g d) (by kernel_rfl) (by kernel_rfl) E (by kernel_rfl) (by simp[Value.oneCell']) ?_;refine b.out _ _ a4 (fun cp=> ?_)
   clear b K;clear A N D az j E;refine wpAnyH_done (by kernel_rfl) ?_ _;clear h cm bp cn co cp;change Exit.then _ _ _ _ (World.setCells B q 0 (yDL y g d));generalize World.setCells B q 0 (yDL y g d)=T at a4 a3 a6 Y⊢;simp only[Act.put,List.getElem_toArray,List.getElem_cons_succ,List.getElem_cons_zero]
   go_upto_region 2 with fail
   have I:yB T T.drew:=(Below.refl _ _).drew;have M:=a3.l I;have a7:=a6.l I;have Z:=aa Y I;clear a4 a3 a6 Y I;refine wp_region_held_drew (S:=fun P=>au P q 48 (yDL y g d)) (by kernel_rfl) M (fun h=> ?_)
   generalize T.drew=dv at M a7 Z h⊢;refine tq 0 (yDV y g d) rfl (fun _ m=>fy 48 (.tmp 3) rfl q 0 (by kernel_rfl) _ _ m.range underlying48 rfl (by kernel_rfl)) h ?_
   refine tq 2 (.pointer (some ⟨q,0,none⟩)) rfl (fun _ _=>by kernel_rfl) h ?_
   refine tq 3 (.pointer (some ⟨q,2,none⟩)) rfl (fun _ _=>by kernel_rfl) h ?_
   refine tq 4 (yi y.e) rfl (fun _ m=>gU 3 (.tmp 11) rfl q 2 (by kernel_rfl) _ _ underlying3 rfl (m.c 2 rfl)) h ?_
   refine wpAnyH_ready (rs:=[1]) (by kernel_rfl) (by simp) ?_;refine AllReadyH.cons rfl (fun K b=> ?_) AllReadyH.nil
   go_simp
   refine(G.out _ _ _).mono ?_;rintro o ek ⟨rfl,L⟩;have a5:=M.l L;have b8:=a7.l L;have a0:=aa Z L;clear M a7 Z L G;refine b.out _ _ a5 (fun cr=> ?_)
   clear b K;refine wpAnyH_ready (rs:=[5]) (by kernel_rfl) (by simp) ?_;refine AllReadyH.cons rfl (fun K b=> ?_) AllReadyH.nil
   go_simp
   refine(H.out _ _ _ a0 b8).mono ?_;rintro o el ⟨ei,rfl,b6,a1⟩;have cx:=a5.l a1;have ci:=aa a0 a1;obtain⟨no,nc,k⟩:=b6.shape;subst k;clear a5 b8 a0 a1 H;refine b.out _ _ cx (fun b3=> ?_)
   clear b K;refine tq 6 (yT no n nc) rfl (fun _ _=>by kernel_rfl) b3 ?_
   refine wpAnyH_done (by kernel_rfl) ?_ _;clear h cr b3;simp only[Act.put,List.getElem_toArray,List.getElem_cons_succ,List.getElem_cons_zero,List.setIfInBounds_toArray,List.set_cons_zero,List.set_cons_succ]
   go_wp2
   go_ret
   exact⟨_,by simp,b6,ci⟩
 ·go_simp
  have bd:=af ar (.cells (ydA false yN 0) 48);have bs:=ah ar (ydL false yN 0) 48;have e7:w.heap.size≤ar.heap.size:=b9.size;have e8:=q7.lt;have bt:=q7.l bd;have cy:=r8.l bd;have bf:=aa b9 bd;refine b.out _ _ bt (fun d9=> ?_)
  clear b K;clear q7 r8 b9 bd;generalize ar.alloc (.cells (ydA false yN 0) 48)=eo at bt bs cy bf d9⊢;generalize ar.heap.size=p at bs e7 e8⊢;refine wpAnyH_ready (rs:=[1]) (by kernel_rfl) (by simp) ?_;refine AllReadyH.cons rfl (fun K b=> ?_) AllReadyH.nil
  go_simp
  refine(H1.out _ bf).mono ?_;rintro o f1 ⟨eu,rfl,cz,b1⟩;have R:=bt.l b1;have dn:=bs.l b1;have ap:=cy.l b1;have ad:=aa bf b1;obtain⟨xo,xc,k⟩:=cz.shape;subst k;clear bt bs cy bf b1 H1;refine b.out _ _ R (fun bp=> ?_)
  clear b K;refine wpAnyH_ready (rs:=[2]) (by kernel_rfl) (by simp) ?_;refine AllReadyH.cons rfl (fun K b=> ?_) AllReadyH.nil
  go_simp
  refine(Q.out _ _ _).mono ?_;rintro o ej ⟨rfl,u⟩;have C:=R.l u;have b4:=dn.l u;have O:=ap.l u;have b7:=cz.l u;have X:=aa ad u;clear R dn ap cz ad u Q;refine b.out _ _ C (fun cn=> ?_)
  clear b K;refine wpAnyH_ready (rs:=[3]) (by kernel_rfl) (by simp) ?_;refine AllReadyH.cons rfl (fun K b=> ?_) AllReadyH.nil
  go_simp
  refine(F.out _ _ _ X b7 O).mono ?_;rintro o B ⟨eh,rfl,N,J⟩;have D:=C.l J;have A:=b4.l J;have az:=aa X J;obtain⟨g,d,k⟩:=N.shape;subst k;clear C b4 O b7 X J F;refine b.out _ _ D (fun co=> ?_)
  clear b K;refine wpAnyH_ready (rs:=[5]) (by kernel_rfl) (by simp) ?_;refine AllReadyH.cons rfl (fun K b=> ?_) AllReadyH.nil
  have j:But p B (B.setCells p 0 (yDL y g d)):=de _ _ _ _;have E:B.there p 0 3:=dD A;have a3:au (B.setCells p 0 (yDL y g d)) p 48 (yDL y g d):=A.sets _ rfl;have a6:=j.rd N (aX N A (by simp));have a4:=j.loc D (by omega);have Y:=j.below az (by omega);rw[if_pos (by kernel_rfl)];refine wp_store_mid 48 (.tmp 3) (.tmp 7) rfl p 0 (yDA y g d) (by kernel_rfl) (by kernel_rfl) E (by kernel_rfl) (by simp[Value.oneCell']) ?_;refine b.out _ _ a4 (fun cp=> ?_)
  clear b K;clear A N D az j E;refine wpAnyH_done (by kernel_rfl) ?_ _;clear h d9 bp cn co cp;change Exit.then _ _ _ _ (World.setCells B p 0 (yDL y g d));generalize World.setCells B p 0 (yDL y g d)=T at a4 a3 a6 Y⊢;simp only[Act.put,List.getElem_toArray,List.getElem_cons_succ,List.getElem_cons_zero]
  go_upto_region 2 with fail
  have I:yB T T.drew:=(Below.refl _ _).drew;have M:=a3.l I;have a7:=a6.l I;have Z:=aa Y I;clear a4 a3 a6 Y I;refine wp_region_held_drew (S:=fun P=>au P p 48 (yDL y g d)) (by kernel_rfl) M (fun h=> ?_)
  generalize T.drew=dv at M a7 Z h⊢;refine tq 0 (yDV y g d) rfl (fun _ m=>fy 48 (.tmp 3) rfl p 0 (by kernel_rfl) _ _ m.range underlying48 rfl (by kernel_rfl)) h ?_
  refine tq 2 (.pointer (some ⟨p,0,none⟩)) rfl (fun _ _=>by kernel_rfl) h ?_
  refine tq 3 (.pointer (some ⟨p,2,none⟩)) rfl (fun _ _=>by kernel_rfl) h ?_
  refine tq 4 (yi y.e) rfl (fun _ m=>gU 3 (.tmp 11) rfl p 2 (by kernel_rfl) _ _ underlying3 rfl (m.c 2 rfl)) h ?_
  refine wpAnyH_ready (rs:=[1]) (by kernel_rfl) (by simp) ?_;refine AllReadyH.cons rfl (fun K b=> ?_) AllReadyH.nil
  go_simp
  refine(G.out _ _ _).mono ?_;rintro o ek ⟨rfl,L⟩;have a5:=M.l L;have b8:=a7.l L;have a0:=aa Z L;clear M a7 Z L G;refine b.out _ _ a5 (fun cr=> ?_)
  clear b K;refine wpAnyH_ready (rs:=[5]) (by kernel_rfl) (by simp) ?_;refine AllReadyH.cons rfl (fun K b=> ?_) AllReadyH.nil
  go_simp
  refine(H.out _ _ _ a0 b8).mono ?_;rintro o el ⟨ei,rfl,b6,a1⟩;have cx:=a5.l a1;have ci:=aa a0 a1;obtain⟨no,nc,k⟩:=b6.shape;subst k;clear a5 b8 a0 a1 H;refine b.out _ _ cx (fun b3=> ?_)
  clear b K;refine tq 6 (yT no n nc) rfl (fun _ _=>by kernel_rfl) b3 ?_
  refine wpAnyH_done (by kernel_rfl) ?_ _;clear h cr b3;simp only[Act.put,List.getElem_toArray,List.getElem_cons_succ,List.getElem_cons_zero,List.setIfInBounds_toArray,List.set_cons_zero,List.set_cons_succ]
  go_wp2
  go_ret
  exact⟨_,by simp,b6,ci⟩
theorem A9 (D F:Value)(xs c:List Nat)(w:World)(h:Rd w .u32 D xs)(n:Rd w .u32 F c)(t:Dg.Small 4294967296 xs)(x:Dg.Small 4294967296 c)(E:Dg.Norm xs)(p:Dg.Norm c)(B:c≠[])(a6:xs.length≤900000000):
  yC 126 #[D,F] w (Two w (Dg.vl 4294967296 xs/Dg.vl 4294967296 c) (Dg.vl 4294967296 xs % Dg.vl 4294967296 c)):=by
 have o:=jF D F xs c w h n t x E p;have z:0<Dg.vl 4294967296 c:=Nat.pos_of_ne_zero (Dg.vl_ne_zero 4294967296 (by omega) c B p);have a8:0<c.length:=List.length_pos_iff.2 B
 by_cases u:Dg.vl 4294967296 xs<Dg.vl 4294967296 c
 ·rw[gX (by omega)] at o
  rw[Nat.div_eq_of_lt u,Nat.mod_eq_of_lt u];have HX:Hid (xs=Dg.dg 4294967296 (Dg.vl 4294967296 xs)):=Dg.eq_dg 4294967296 (by omega) xs _ t E rfl;have y:Hid (Rd w .u32 D xs):=h;obtain⟨Q,S,rfl⟩:=h.shape;obtain⟨R,T,rfl⟩:=n.shape;clear h n t x E p B u z
  go_enter func126,ntmps126
  go_wp2_with fail
  refine o.mono ?_;rintro e g ⟨rfl,f⟩;clear o
  go_wp2_with fail
  refine(Bz _ xs g (y.out.l f) (by omega)).mono ?_;rintro e N ⟨rfl,v,j⟩;have v:=v.lower f.size;have i:=aa f j;clear f j y
  go_wp2
  go_ret2
  exact⟨_,_,rfl,aQ _ _ _ _,HX.out▸v,i⟩
 ·have hd:=Xx (a:=(Dg.vl 4294967296 xs:Int)) (b:=(Dg.vl 4294967296 c:Int)) (by omega)
  obtain⟨r,hr⟩: ∃r,dm (Dg.vl 4294967296 xs) (Dg.vl 4294967296 c)=r:=⟨_,rfl⟩;rw[hr] at hd o;clear hr;have y:Hid (Rd w .u32 D xs):=h;have P:Hid (Rd w .u32 F c):=n;obtain⟨Q,S,rfl⟩:=h.shape;obtain⟨R,T,rfl⟩:=n.shape
  by_cases W:c.length=1
  ·obtain⟨d,rfl⟩: ∃d,c=[d]:=List.length_eq_one_iff.1 W
   have hv:Dg.vl 4294967296 [d]=d:=by simp[Dg.vl]
   have a5:d<4294967296:=(Dg.small_cons.1 x).1;rw[hv] at z⊢;clear h n u hv W a8 B p x
   go_enter func126,ntmps126
   go_wp2_with fail
   refine o.mono ?_;rintro e g ⟨rfl,f⟩;clear o
   go_wp2_with fail
   refine(Bz _ xs g (y.out.l f) (by omega)).mono ?_;rintro e N ⟨rfl,v,j⟩;have i:=aa f j;obtain⟨-,-,Y⟩:=iQ (P.out.l i);obtain⟨bb,ad,rfl,Z⟩:=Y (by simp);have X:=Z 0 (by simp);simp only[List.getD_cons_zero,Nat.add_zero] at X;clear Z Y
   go_wp2_with fail
   refine(uG _ _ _ _ xs d N v t z a5 (by omega)).mono ?_;rintro e w3 ⟨qs,rfl,C,ae,a9,a1,U⟩;have H:=i.grown U i.size (fun k hk=>by cases hk;exact f.size)
   have r3:=C.rd;have C:=C.lower f.size;obtain⟨s,a2⟩: ∃s,Dg.vl 4294967296 xs % d=s:=⟨_,rfl⟩;rw[a2];have ac:s<4294967296:=by have:=Nat.mod_lt (Dg.vl 4294967296 xs) z;omega
   clear U v i j X
   go_wp2_with fail
   refine(jD _ _ _ _ _ r3).mono ?_;rintro e O ⟨m,rfl,A,rfl⟩;have M:=jW 4294967296 (by omega) C a9 A;rw[a1] at M;have L:=zf O w.heap.size 36 s H.size;have I:yB O (O.alloc (.cells #[.int .u32 (s:Int)] 36)):=(Below.refl _ _).alloc (Nat.le_refl _) _;have t4:=M.l I;have a4:=aa H I;have a3:=L.rd;clear C r3 A M I H f a1
   go_wp2_with fail
   refine(jD _ _ _ _ _ a3).mono ?_;rintro e w5 ⟨m2,rfl,a0,rfl⟩;have t5:=jW 4294967296 (by omega) L (Dg.small_cons.2 ⟨ac,Dg.small_nil _ (by omega)⟩) a0;rw[show Dg.vl 4294967296 [s]=s from by simp[Dg.vl]] at t5
   clear L a3 a0
   go_wp2
   go_ret2
   exact⟨_,_,rfl,t4,by rw[a2];exact t5,a4⟩
  ·have a7:c.length≤xs.length:=by
    rcases Nat.lt_or_ge xs.length c.length with e|e
    ·exact absurd (Dg.vl_lt_of_len 4294967296 (by omega) xs c t p e) u
    ·exact e
   have G:Hid (∀g,yB w g→yC 133 #[.slice Q xs.length S,.slice R c.length T] g (Two g (Dg.vl 4294967296 xs/Dg.vl 4294967296 c) (Dg.vl 4294967296 xs % Dg.vl 4294967296 c))):=fun g f=>
    JS _ _ xs c g (h.l f) (n.l f) t x p (by omega) a7 a6
   obtain⟨q,hq⟩: ∃q,Dg.vl 4294967296 xs/Dg.vl 4294967296 c=q:=⟨_,rfl⟩;obtain⟨m,A⟩: ∃m,Dg.vl 4294967296 xs % Dg.vl 4294967296 c=m:=⟨_,rfl⟩;rw[hq,A] at G⊢;have h2:((c.length:Int)==1)=false:=by simp;omega
   clear h n u B p x E t z hq A y P
   go_enter func126,ntmps126
   go_wp2_with fail
   refine o.mono ?_;rintro e g ⟨rfl,f⟩;clear o
   go_wp2_with fail
   refine(G.out g f).mono ?_;rintro e N ⟨v1,v2,rfl,J,K,j⟩;have J:=J.lower f.size;have K:=K.lower f.size;have i:=aa f j;clear f j G
   go_wp2
   go_ret2
   exact⟨_,_,rfl,J,K,i⟩
theorem Jw (v u:Value)(a b:ak)(B:Nat)(w:World)(hv:Dv w v a)(hu:Dv w u b)(bx:0<b.n)(a2:(Dg.dg 4294967296 a.n).length≤200000000)(av:(Dg.dg 4294967296 b.n).length≤200000000)
  (cm: -2000000000≤a.e) (cn:a.e≤2000000000) (co: -2000000000≤b.e) (cp:b.e≤2000000000) (hB:B≤10000):
  yC 110 #[v,u,yi B] w (jN w (cK a b B)):=by
 obtain⟨s0,rfl,U⟩:=hv;obtain⟨s1,rfl,X⟩:=hu;obtain⟨o,f,g⟩:=a;obtain⟨p,bn,i⟩:=b;simp only at U X a2 av cm cn co cp bx⊢;have cs:=gf a2;have ct:=gf av;have Y:Hid (∀c,yB w c→yC 74 #[s0] c fun z w'=>z= .returned (yi (bitLen f:Nat))∧w'=c):=fun c A=>by
  have:=kE s0 _ c (U.l A) (Dg.small_dg _ _ (by omega)) (Dg.norm_dg _ _ (by omega)) (by omega)
  rwa [Dg.vl_dg _ _ (by omega)] at this
 have Z:Hid (∀c,yB w c→yC 74 #[s1] c fun z w'=>z= .returned (yi (bitLen bn:Nat))∧w'=c):=fun c A=>by
  have:=kE s1 _ c (X.l A) (Dg.small_dg _ _ (by omega)) (Dg.norm_dg _ _ (by omega)) (by omega)
  rwa [Dg.vl_dg _ _ (by omega)] at this
 unfold cK gV;simp only;have ay:max (0:Int) ((B:Int)+(bitLen bn:Int)-(bitLen f:Int))=((B+bitLen bn-bitLen f:Nat):Int):=by omega
 have cx:B+bitLen bn-bitLen f≤6400010000:=by omega
 obtain⟨d,cc⟩: ∃d,B+bitLen bn-bitLen f=d:=⟨_,rfl⟩;rw[cc] at ay cx⊢;have a8:Hid (∀c,yB w c→yC 102 #[s0,yi d] c (Num c (f*2^d))):=fun c A=>by
  have:=eO s0 _ (d:Int) c (U.l A) (Dg.small_dg _ _ (by omega)) (by omega) (by omega) (by omega);rw[Dg.vl_dg _ _ (by omega),CE _ _ (by omega),Int.toNat_natCast] at this;exact this
 have cw:=CF f d 200000000 400000400 a2 (by omega);have a0:Hid (∀q c,yB w c→Rd c .u32 q (Dg.dg 4294967296 (f*2^d))→yC 126 #[q,s1] c (Two c (f*2^d/bn) (f*2^d % bn))):=fun q c A r=>by
  have:=A9 q s1 _ _ c r (X.l A) (Dg.small_dg _ _ (by omega)) (Dg.small_dg _ _ (by omega)) (Dg.norm_dg _ _ (by omega)) (Dg.norm_dg _ _ (by omega)) (by rw[Ne,Dg.dg_nil_iff _ _ (by omega)];omega) (by omega)
  rwa [Dg.vl_dg _ _ (by omega),Dg.vl_dg _ _ (by omega)] at this
 have ax:(Dg.dg 4294967296 (f*2^d/bn)).length≤900000000:=Nat.le_trans (aH 4294967296 _ _ (by omega) (Nat.div_le_self _ _)) (by omega);obtain⟨Q,hQ⟩: ∃Q,f*2^d/bn=Q:=⟨_,rfl⟩;obtain⟨M,hM⟩: ∃M,f*2^d % bn=M:=⟨_,rfl⟩;rw[hQ,hM] at a0⊢;rw[hQ] at ax;have a7:Hid (∀q lf c,decide (0<M)=lf→Rd c .u32 q (Dg.dg 4294967296 Q)→yC 127 #[.bool (o != p),q,yi (g-i-(d:Int)),.bool lf] c (jN c (d8 (o != p) Q (g-i-(d:Int)) (decide (0<M))))):=fun q lf c h r=>by
  rw[h];exact xG _ q Q _ lf c r ax (by omega) (by omega)
 obtain⟨⟨zs,y,x⟩,hz⟩: ∃r,d8 (o != p) Q (g-i-(d:Int)) (decide (0<M))=r:=⟨_,rfl⟩;rw[hz] at a7⊢;have a3:(0< (Dg.dg 4294967296 M).length)↔0<M:=by
  rw[List.length_pos_iff,Ne,Dg.dg_nil_iff _ _ (by omega)];omega
 obtain⟨D,G,rfl⟩:=U.shape;obtain⟨F,H,rfl⟩:=X.shape;obtain⟨J,c8⟩: ∃m,(Dg.dg 4294967296 f).length=m:=⟨_,rfl⟩;obtain⟨K,c9⟩: ∃m,(Dg.dg 4294967296 bn).length=m:=⟨_,rfl⟩;obtain⟨cd,bz⟩: ∃m,bitLen f=m:=⟨_,rfl⟩;obtain⟨a5,c6⟩: ∃m,bitLen bn=m:=⟨_,rfl⟩;rw[c8] at Y a8⊢;rw[c9] at Z a0⊢;rw[bz] at Y cs ay;rw[c6] at Z ct ay;clear hz c8 c9 bz c6 hQ hM U X a2 av cc cw bx ax;obtain⟨la,lb,lc,bb,-⟩:=ju w (.bool o) (.slice D J G) (yi g) (.bool p) (.slice F K H) (yi i) (.bool false) yN (yi 0) 48 48 48;obtain⟨W,hW⟩: ∃W,(((w.alloc (.cells (ydA o (.slice D J G) g) 48)).alloc (.cells (ydA p (.slice F K H) i) 48)).alloc (.cells (ydA false yN 0) 48))=W:=⟨_,rfl⟩;rw[hW] at la lb lc bb;have k:yB W W.drew:=(Below.refl _ _).drew;have a4:=la.l k;have a6:=lb.l k;have bs:=lc.l k;have a9:=aa bb k;rw[←hW] at a4 a6 bs a9;obtain⟨-,⟨c0,c1,c2⟩,-⟩:=id a4;obtain⟨-,⟨c3,c4,c5⟩,-⟩:=id a6;have d3:IntKind.i64.wrap ((B:Int)+(a5:Int))=(B:Int)+(a5:Int):=IntWalk.i64_in _ ⟨by omega,by omega⟩;have d4:IntKind.i64.wrap ((B:Int)+(a5:Int)-(cd:Int))=(B:Int)+(a5:Int)-(cd:Int):=IntWalk.i64_in _ ⟨by omega,by omega⟩;clear la lb lc bb k hW
 go_enter func110,ntmps110
 go_wp2_with fail
 go_region_held3 (fun j=>(j.cell? ⟨w.heap.size,0,none⟩=some (.bool o)∧j.cell? ⟨w.heap.size,1,none⟩=some (.slice D J G)∧j.cell? ⟨w.heap.size,2,none⟩=some (yi g))∧j.cell? ⟨w.heap.size+1,0,none⟩=some (.bool p)∧j.cell? ⟨w.heap.size+1,1,none⟩=some (.slice F K H)∧j.cell? ⟨w.heap.size+1,2,none⟩=some (yi i)) (go_keep) (first
  | (go_at_call 65;refine(cN p F K H i _).mono ?_;rintro z w2 ⟨rfl,L⟩;have b0:=a4.l L;have bh:=a6.l L;have ce:=bs.l L;have ad:=aa a9 L;obtain⟨-,⟨p0,p1,p2⟩,-⟩:=id b0;obtain⟨-,⟨p3,p4,p5⟩,-⟩:=id bh;clear a9)
  | (go_at_call 74;refine(Z.out w2 ad).mono ?_;rintro z w3 ⟨rfl,rfl⟩;clear Z)
  | (go_at_call 65;refine(cN o D J G g _).mono ?_;rintro z w4 ⟨rfl,N⟩;have b3:=b0.l N;have bi:=bh.l N;have cg:=ce.l N;have al:=aa ad N;obtain⟨-,⟨q0,q1,q2⟩,-⟩:=id b3;obtain⟨-,⟨q3,q4,q5⟩,-⟩:=id bi)
  | (go_at_call 74;refine(Y.out w4 al).mono ?_;rintro z w5 ⟨rfl,rfl⟩))
 clear c0 c1 c2 c3 c4 c5 p0 p1 p2 p3 p4 p5 q0 q1 q2 q3 q4 q5 a4 a6 bs b0 bh ce ad L N;have k:yB w5 w5.drew:=(Below.refl _ _).drew;have b5:=b3.l k;have bj:=bi.l k;have ch:=cg.l k;have bv:=aa al k;obtain⟨-,⟨c0,c1,c2⟩,-⟩:=id b5;obtain⟨-,⟨c3,c4,c5⟩,-⟩:=id bj;clear b3 bi cg al k
 go_wp2_with fail
 go_region_held3 (fun j=>(j.cell? ⟨w.heap.size,0,none⟩=some (.bool o)∧j.cell? ⟨w.heap.size,1,none⟩=some (.slice D J G)∧j.cell? ⟨w.heap.size,2,none⟩=some (yi g))∧j.cell? ⟨w.heap.size+1,0,none⟩=some (.bool p)∧j.cell? ⟨w.heap.size+1,1,none⟩=some (.slice F K H)∧j.cell? ⟨w.heap.size+1,2,none⟩=some (yi i)) (go_keep) (first
  | (go_at_call 65;refine(cN o D J G g _).mono ?_;rintro z w6 ⟨rfl,O⟩;have ba:=b5.l O;have bl:=bj.l O;have ci:=ch.l O;have ap:=aa bv O;obtain⟨-,⟨p0,p1,p2⟩,-⟩:=id ba;obtain⟨-,⟨p3,p4,p5⟩,-⟩:=id bl;clear bv)
  | (go_at_call 102;refine(a8.out w6 ap).mono ?_;rintro z w7 ⟨v7,rfl,o7,P⟩;have bc:=ba.l P;have bm:=bl.l P;have cj:=ci.l P;have bw:=aa ap P;obtain⟨-,⟨q0,q1,q2⟩,-⟩:=id bc;obtain⟨-,⟨q3,q4,q5⟩,-⟩:=id bm)
  | (go_at_call 65;refine(cN p F K H i _).mono ?_;rintro z w8 ⟨rfl,E⟩;have bf:=bc.l E;have bp:=bm.l E;have ck:=cj.l E;have aq:=aa bw E;have r8:=(o7.l E).rd;obtain⟨-,⟨t0,t1,t2⟩,-⟩:=id bf;obtain⟨-,⟨t3,t4,t5⟩,-⟩:=id bp)
  | (go_at_call 126;refine(a0.out _ w8 aq r8).mono ?_;rintro z w9 ⟨vq,vr,rfl,oq,cl,R⟩;have bg:=bf.l R;have bq:=bp.l R;have bt:=ck.l R;have a1:=aa aq R;obtain⟨-,⟨x0,x1,x2⟩,-⟩:=id bg;obtain⟨-,⟨x3,x4,x5⟩,-⟩:=id bq))
 have rq:=oq.rd;obtain⟨ro,rc,cy⟩:=cl.rd.shape;subst cy;have c7:=bt.1;clear c0 c1 c2 c3 c4 c5 p0 p1 p2 p3 p4 p5 q0 q1 q2 q3 q4 q5 t0 t1 t2 t3 t4 t5 b5 bj ch ba bl ci bc bm cj bf bp ck ap O bw P aq E R o7 r8 oq cl Y a8 a0;have d5:IntKind.i64.wrap (g-i)=g-i:=IntWalk.i64_in _ ⟨by omega,by omega⟩;have d6:IntKind.i64.wrap (g-i-(d:Int))=g-i-(d:Int):=IntWalk.i64_in _ ⟨by omega,by omega⟩
 by_cases I:0<M
 ·have cv:=a3.2 I
  have HD:Hid (decide (0<M)=true):=decide_eq_true I;clear a3 I
  go_wp2_with fail
  refine(a7.out _ true _ HD.out rq).mono ?_;rintro z cz ⟨vz,rfl,T,C⟩;have S:=bt.l C;have ac:=aa a1 C;obtain⟨t,s,az⟩:=T.rd.shape;subst az;obtain⟨cr,⟨d0,d1,d2⟩,f0,f1,f2⟩:=id S;clear x0 x1 x2 x3 x4 x5 C rq bg bq;obtain⟨-,⟨g0,g1,g2⟩,-⟩:=aD S (.bool zs) (yT t y s) (yi x);have bu:=T.apart3 (b:=w.heap.size+1+1) c7 (.bool zs) (yT t y s) (yi x);have ar:=am ac (show w.heap.size≤w.heap.size+1+1 by omega) (.bool zs) (yT t y s) (yi x)
  go_wp2
  refine bodyPost_ret (v:=(ydV zs (yT t y s) x)) (by simp[results,results110,go_sem,g0,g1,g2]) rfl ?_;exact⟨_,rfl,bu.lower a1.size,ar⟩
 ·have cv: ¬0< (Dg.dg 4294967296 M).length:=fun h=>I (a3.1 h)
  have HD:Hid (decide (0<M)=false):=decide_eq_false I;clear a3 I
  go_wp2_with fail
  refine(a7.out _ false _ HD.out rq).mono ?_;rintro z cz ⟨vz,rfl,T,C⟩;have S:=bt.l C;have ac:=aa a1 C;obtain⟨t,s,az⟩:=T.rd.shape;subst az;obtain⟨cr,⟨d0,d1,d2⟩,f0,f1,f2⟩:=id S;clear x0 x1 x2 x3 x4 x5 C rq bg bq;obtain⟨-,⟨g0,g1,g2⟩,-⟩:=aD S (.bool zs) (yT t y s) (yi x);have bu:=T.apart3 (b:=w.heap.size+1+1) c7 (.bool zs) (yT t y s) (yi x);have ar:=am ac (show w.heap.size≤w.heap.size+1+1 by omega) (.bool zs) (yT t y s) (yi x)
  go_wp2
  refine bodyPost_ret (v:=(ydV zs (yT t y s) x)) (by simp[results,results110,go_sem,g0,g1,g2]) rfl ?_;exact⟨_,rfl,bu.lower a1.size,ar⟩
end Go.Proofs.YthhiidikgchdeabGreatDoor

/- Texts laid together. -/
import Derived.Test.YthhiidikgchdeaaGreatDoorKs11
import Derived.Test.YthhiidikgchdeaaGreatDoorKs18
import Derived.Test.YthhiidikgchdeaaGreatDoorKs20
set_option maxRecDepth 100000
set_option maxHeartbeats 3200000
namespace Go.Proofs.YthhiidikgchdeaaGreatDoor
open _root_.Go.Proofs.Tryz
open Go.RowKit
theorem FT (v u:Value)(a b:ak)(w:World)(hv:Dv w v a)(hu:Dv w u b)(I:(Dg.dg 4294967296 a.n).length≤200000000)(J:(Dg.dg 4294967296 b.n).length≤200000000)
  (S: -2000000000≤a.e) (T:a.e≤2000000000) (U: -2000000000≤b.e) (X:b.e≤2000000000):
  Calls Tryz.prog 63 #[v,u] w (jN w (aG a (dV b))):=by
 obtain⟨s0,rfl,D⟩:=hv;obtain⟨x,B,rfl⟩:=D.shape;obtain⟨s1,rfl,E⟩:=hu;obtain⟨p,q,rfl⟩:=E.shape;obtain⟨g,k,f⟩:=a;obtain⟨d,bn,c⟩:=b;simp only at D E I J S T U X⊢;have F:Hid (∀t,Below w.heap.size w t→Calls Tryz.prog 55 #[.agg #[.bool g,.slice x (Dg.dg 4294967296 k).length B,.int .i64 f],.agg #[.bool (!d),.slice p (Dg.dg 4294967296 bn).length q,.int .i64 c]] t (jN t (aG ⟨g,k,f⟩ (dV ⟨d,bn,c⟩)))):=fun t R=>
  uj _ _ ⟨g,k,f⟩ (dV ⟨d,bn,c⟩) t ⟨_,rfl,D.l R⟩ ⟨_,rfl,E.l R⟩ I J S T U X
 obtain⟨L,Y⟩: ∃m,(Dg.dg 4294967296 k).length=m:=⟨_,rfl⟩;obtain⟨C,Z⟩: ∃m,(Dg.dg 4294967296 bn).length=m:=⟨_,rfl⟩;rw[Y,Z] at F⊢;obtain⟨⟨rs,N,M⟩,a0⟩: ∃r,aG ⟨g,k,f⟩ (dV ⟨d,bn,c⟩)=r:=⟨_,rfl⟩;rw[a0] at F⊢;clear Y Z a0 D E I J;obtain⟨h,i,s,G,-⟩:=ju w (.bool g) (.slice x L B) (.int .i64 f) (.bool d) (.slice p C q) (.int .i64 c) (.bool false) (.slice none 0 0) (.int .i64 0) 41 41 41;obtain⟨W,K⟩: ∃W,(((w.alloc (.cells #[.bool g,.slice x L B,.int .i64 f] 41)).alloc (.cells #[.bool d,.slice p C q,.int .i64 c] 41)).alloc (.cells #[.bool false,.slice none 0 0,.int .i64 0] 41))=W:=⟨_,rfl⟩;rw[K] at h i s G;have o:Below W.heap.size W W.drew:=(Below.refl _ _).drew;replace h:=h.l o;replace i:=i.l o;replace s:=s.l o;have Q:=aa G o;rw[←K] at h i s Q;clear o G K;obtain⟨-,⟨ac,ad,al⟩,-⟩:=id h;obtain⟨-,⟨ap,aq,ar⟩,-⟩:=id i;have ax:w.heap.size+1+1≠w.heap.size:=by omega
 have ay:w.heap.size≠w.heap.size+1+1:=by omega
 go_enter func63,ntmps63
 go_wp2_with fail
 go_region_held3 (fun j=>(j.cell? ⟨w.heap.size,0,none⟩=some (.bool g)∧j.cell? ⟨w.heap.size,1,none⟩=some (.slice x L B)∧j.cell? ⟨w.heap.size,2,none⟩=some (.int .i64 f))∧j.cell? ⟨w.heap.size+1,0,none⟩=some (.bool d)∧j.cell? ⟨w.heap.size+1,1,none⟩=some (.slice p C q)∧j.cell? ⟨w.heap.size+1,2,none⟩=some (.int .i64 c)) (go_keep) (first
  | (go_at_call 120;refine(YA d p C q c _).mono ?_;rintro z w5 ⟨rfl,y⟩;have a1:=h.l y;have a2:=i.l y;have a3:=s.l y;have H:=aa Q y;obtain⟨-,⟨t0,t1,t2⟩,-⟩:=id a1;obtain⟨-,⟨t3,t4,t5⟩,-⟩:=id a2)
  | (go_at_call 55;refine(F.out w5 H).mono ?_;rintro z w6 ⟨vr,rfl,o6,A⟩;have a8:=a1.l A;have a9:=a2.l A;have a4:=a3.l A;have a5:=aa H A;obtain⟨-,⟨u0,u1,u2⟩,-⟩:=id a8;obtain⟨-,⟨u3,u4,u5⟩,-⟩:=id a9;obtain⟨P,O,a7⟩:=o6.rd.shape;subst a7;obtain⟨av,⟨d0,d1,d2⟩,f0,f1,f2⟩:=id a4))
 all_goals go_wp2
 have a6:=a3.1;obtain⟨-,⟨g0,g1,g2⟩,-⟩:=aD a4 (.bool rs) (.slice P (Dg.dg 4294967296 N).length O) (.int .i64 M);have b8:=am a5 (show w.heap.size≤w.heap.size+1+1 by omega) (.bool rs) (.slice P (Dg.dg 4294967296 N).length O) (.int .i64 M)
 refine bodyPost_ret (v:= .agg #[.bool rs,.slice P (Dg.dg 4294967296 N).length O,.int .i64 M]) (by simp[results,results63,go_sem,g0,g1,g2]) rfl ?_;exact⟨_,rfl,(o6.apart3 a6 _ _ _).lower (by have:=H.size;omega),b8⟩
theorem nearest_W (a:ak)(W:Option Addr)(U:Nat)(x y:ak)(f:Int)(n:Nat)(w:World)(ra:Rd w .u32 (yT W a.n U) (Dg.dg 4294967296 a.n))
  (H1: ∀i,yB w i→yC 23 #[yi 1] i (Lx i x))
  (Q: ∀xo xc i,yC 99 #[yDV x xo xc,yi (-1)] i (yR i (ydV x.s (yT xo x.n xc) f)))
  (F: ∀xo xc i,yB w i→Rd i .u32 (yT xo x.n xc) (Dg.dg 4294967296 x.n)→Rd i .u32 (yT W a.n U) (Dg.dg 4294967296 a.n)→yC 55 #[yDV a W U,ydV x.s (yT xo x.n xc) f] i (Lx i y))
  (G: ∀g d i,yC 61 #[yDV y g d] i (yR i (yT g y.n d)))
  (H: ∀g d i,yB w i→Rd i .u32 (yT g y.n d) (Dg.dg 4294967296 y.n)→yC 118 #[yT g y.n d,yi y.e] i (fun z w'=> ∃v,z= .returned v∧Rd w' .u32 v (Dg.dg 4294967296 n)∧yB i w')):
  yC 124 #[yDV a W U] w (fun z w'=> ∃v,z= .returned v∧Rd w' .u32 v (Dg.dg 4294967296 n)∧yB w w'):=by
 replace H1:Hid _:=H1;replace Q:Hid _:=Q;replace F:Hid _:=F;replace G:Hid _:=G;replace H:Hid _:=H;obtain⟨W3,bq,q1,b2⟩:=cA w (yDL a W U) 41;replace bq:Hid _:=bq;have r5:=ra.l b2;clear ra
 go_enter func124,ntmps124
 go_upto_region 1 with fail
 rw[bq.out];clear bq
 go_upto_region 1 with fail
 have bj:yB W3 W3.drew:=(Below.refl _ _).drew;have q7:=q1.l bj;have r8:=r5.l bj;have b9:=aa b2 bj;clear q1 r5 b2 bj;refine wp_region_held_drew (S:=fun P=>au P w.heap.size 41 (yDL a W U)) (by kernel_rfl) q7 (fun h=> ?_)
 generalize W3.drew=ar at q7 r8 b9 h⊢;refine tq 0 (yDV a W U) rfl (fun _ m=>fy 41 (.tmp 1) rfl w.heap.size 0 (by kernel_rfl) _ _ m.range underlying41 rfl (by kernel_rfl)) h ?_
 refine wpAnyH_ready (rs:=[1,4]) (by kernel_rfl) (by simp) ?_;refine AllReadyH.cons rfl (fun K b=> ?_) (AllReadyH.cons rfl (fun K b=> ?_) AllReadyH.nil)
 ·go_simp
  refine(H1.out _ b9).mono ?_;rintro o ba ⟨et,rfl,b5,bl⟩;have ae:=q7.l bl;have c2:=r8.l bl;have ay:=aa b9 bl;obtain⟨xo,xc,k⟩:=b5.shape;subst k;clear q7 r8 b9 bl H1;refine b.out _ _ ae (fun cm=> ?_)
  clear b K;refine wpAnyH_ready (rs:=[2,4]) (by kernel_rfl) (by simp) ?_;refine AllReadyH.cons rfl (fun K b=> ?_) (AllReadyH.cons rfl (fun K b=> ?_) AllReadyH.nil)
  ·go_simp
   refine(Q.out _ _ _).mono ?_;rintro o bb ⟨rfl,b0⟩;have al:=ae.l b0;have c4:=c2.l b0;have c5:=b5.l b0;have a9:=aa ay b0;clear ae c2 b5 ay b0 Q;refine b.out _ _ al (fun da=> ?_)
   clear b K;refine wpAnyH_ready (rs:=[3,4]) (by kernel_rfl) (by simp) ?_;refine AllReadyH.cons rfl (fun K b=> ?_) (AllReadyH.cons rfl (fun K b=> ?_) AllReadyH.nil)
   ·go_simp
    refine(F.out _ _ _ a9 c5 c4).mono ?_;rintro o bc ⟨ev,rfl,d0,cj⟩;have bx:=al.l cj;have c9:=aa a9 cj;obtain⟨g,d,k⟩:=d0.shape;subst k;clear al c4 c5 a9 cj F;refine b.out _ _ bx (fun e1=> ?_)
    clear b K;refine wpAnyH_ready (rs:=[4]) (by kernel_rfl) (by simp) ?_;refine AllReadyH.cons rfl (fun K b=> ?_) AllReadyH.nil
    go_simp
    have be:=af bc (.cells (ydA false yN 0) 41);have an:=ah bc (ydL false yN 0) 41;have ed:w.heap.size≤bc.heap.size:=c9.size;have ee:=bx.lt;have bz:=bx.l be;have c6:=d0.l be;have ca:=aa c9 be;refine b.out _ _ bz (fun dc=> ?_)
    clear b K;clear bx d0 c9 be;generalize bc.alloc (.cells (ydA false yN 0) 41)=a8 at bz an c6 ca dc⊢;generalize bc.heap.size=t at an ed ee⊢;refine wpAnyH_ready (rs:=[5]) (by kernel_rfl) (by simp) ?_;refine AllReadyH.cons rfl (fun K b=> ?_) AllReadyH.nil
    have j:But t a8 (a8.setCells t 0 (yDL y g d)):=de _ _ _ _;have E:a8.there t 0 3:=dD an;have A:au (a8.setCells t 0 (yDL y g d)) t 41 (yDL y g d):=an.sets _ rfl;have d3:=j.rd c6 (aX c6 an (by simp));have a2:=j.loc bz (by omega);have cb:=j.below ca (by omega);rw[if_pos (by kernel_rfl)];refine wp_store_mid 41 (.tmp 3) (.tmp 7) rfl t 0 (yDA y g d) (by kernel_rfl) (by kernel_rfl) E (by kernel_rfl) (by simp[Value.oneCell']) ?_;refine b.out _ _ a2 (fun e3=> ?_)
    clear b K;clear an c6 bz ca j E;refine wpAnyH_done (by kernel_rfl) ?_ _;clear h cm da e1 dc e3;change Exit.then _ _ _ _ (World.setCells a8 t 0 (yDL y g d));generalize World.setCells a8 t 0 (yDL y g d)=c7 at a2 A d3 cb⊢;simp only[Act.put,List.getElem_toArray,List.getElem_cons_succ,List.getElem_cons_zero]
    go_upto_region 2 with fail
    have bh:yB c7 c7.drew:=(Below.refl _ _).drew;have c0:=A.l bh;have d5:=d3.l bh;have cd:=aa cb bh;clear a2 A d3 cb bh;refine wp_region_held_drew (S:=fun P=>au P t 41 (yDL y g d)) (by kernel_rfl) c0 (fun h=> ?_)
    generalize c7.drew=em at c0 d5 cd h⊢;refine tq 0 (yDV y g d) rfl (fun _ m=>fy 41 (.tmp 3) rfl t 0 (by kernel_rfl) _ _ m.range underlying41 rfl (by kernel_rfl)) h ?_
    refine tq 2 (.pointer (some ⟨t,0,none⟩)) rfl (fun _ _=>by kernel_rfl) h ?_
    refine tq 3 (.pointer (some ⟨t,2,none⟩)) rfl (fun _ _=>by kernel_rfl) h ?_
    refine tq 4 (yi y.e) rfl (fun _ m=>gU 3 (.tmp 11) rfl t 2 (by kernel_rfl) _ _ underlying3 rfl (m.c 2 rfl)) h ?_
    refine wpAnyH_ready (rs:=[1]) (by kernel_rfl) (by simp) ?_;refine AllReadyH.cons rfl (fun K b=> ?_) AllReadyH.nil
    go_simp
    refine(G.out _ _ _).mono ?_;rintro o f2 ⟨rfl,bn⟩;have cv:=c0.l bn;have ds:=d5.l bn;have cg:=aa cd bn;clear c0 d5 cd bn G;refine b.out _ _ cv (fun e5=> ?_)
    clear b K;refine wpAnyH_ready (rs:=[5]) (by kernel_rfl) (by simp) ?_;refine AllReadyH.cons rfl (fun K b=> ?_) AllReadyH.nil
    go_simp
    refine(H.out _ _ _ cg ds).mono ?_;rintro o f4 ⟨ey,rfl,dp,ck⟩;have ef:=cv.l ck;have dy:=aa cg ck;obtain⟨no,nc,k⟩:=dp.shape;subst k;clear cv ds cg ck H;refine b.out _ _ ef (fun dd=> ?_)
    clear b K;refine tq 6 (yT no n nc) rfl (fun _ _=>by kernel_rfl) dd ?_
    refine wpAnyH_done (by kernel_rfl) ?_ _;clear h e5 dd;simp only[Act.put,List.getElem_toArray,List.getElem_cons_succ,List.getElem_cons_zero,List.setIfInBounds_toArray,List.set_cons_zero,List.set_cons_succ]
    go_wp2
    go_ret
    exact⟨_,by simp,dp,dy⟩
   ·go_simp
    have ax:=af bb (.cells (ydA false yN 0) 41);have bw:=ah bb (ydL false yN 0) 41;have eb:w.heap.size≤bb.heap.size:=a9.size;have ec:=al.lt;have C:=al.l ax;have d2:=c4.l ax;have O:=c5.l ax;have bg:=aa a9 ax;refine b.out _ _ C (fun db=> ?_)
    clear b K;clear al c4 c5 a9 ax;generalize bb.alloc (.cells (ydA false yN 0) 41)=es at C bw d2 O bg db⊢;generalize bb.heap.size=r at bw eb ec⊢;refine wpAnyH_ready (rs:=[3]) (by kernel_rfl) (by simp) ?_;refine AllReadyH.cons rfl (fun K b=> ?_) AllReadyH.nil
    go_simp
    refine(F.out _ _ _ bg O d2).mono ?_;rintro o aq ⟨ex,rfl,c3,bm⟩;have cs:=C.l bm;have D:=bw.l bm;have d7:=aa bg bm;obtain⟨g,d,k⟩:=c3.shape;subst k;clear C bw d2 O bg bm F;refine b.out _ _ cs (fun e2=> ?_)
    clear b K;refine wpAnyH_ready (rs:=[5]) (by kernel_rfl) (by simp) ?_;refine AllReadyH.cons rfl (fun K b=> ?_) AllReadyH.nil
    have j:But r aq (aq.setCells r 0 (yDL y g d)):=de _ _ _ _;have E:aq.there r 0 3:=dD D;have a2:au (aq.setCells r 0 (yDL y g d)) r 41 (yDL y g d):=D.sets _ rfl;have d4:=j.rd c3 (aX c3 D (by simp));have ct:=j.loc cs (by omega);have cc:=j.below d7 (by omega);rw[if_pos (by kernel_rfl)];refine wp_store_mid 41 (.tmp 3) (.tmp 7) rfl r 0 (yDA y g d) (by kernel_rfl) (by kernel_rfl) E (by kernel_rfl) (by simp[Value.oneCell']) ?_;refine b.out _ _ ct (fun e4=> ?_)
    clear b K;clear D c3 cs d7 j E;refine wpAnyH_done (by kernel_rfl) ?_ _;clear h cm da db e2 e4;change Exit.then _ _ _ _ (World.setCells aq r 0 (yDL y g d));generalize World.setCells aq r 0 (yDL y g d)=c8 at ct a2 d4 cc⊢;simp only[Act.put,List.getElem_toArray,List.getElem_cons_succ,List.getElem_cons_zero]
    go_upto_region 2 with fail
    have bi:yB c8 c8.drew:=(Below.refl _ _).drew;have c1:=a2.l bi;have d6:=d4.l bi;have ce:=aa cc bi;clear ct a2 d4 cc bi;refine wp_region_held_drew (S:=fun P=>au P r 41 (yDL y g d)) (by kernel_rfl) c1 (fun h=> ?_)
    generalize c8.drew=en at c1 d6 ce h⊢;refine tq 0 (yDV y g d) rfl (fun _ m=>fy 41 (.tmp 3) rfl r 0 (by kernel_rfl) _ _ m.range underlying41 rfl (by kernel_rfl)) h ?_
    refine tq 2 (.pointer (some ⟨r,0,none⟩)) rfl (fun _ _=>by kernel_rfl) h ?_
    refine tq 3 (.pointer (some ⟨r,2,none⟩)) rfl (fun _ _=>by kernel_rfl) h ?_
    refine tq 4 (yi y.e) rfl (fun _ m=>gU 3 (.tmp 11) rfl r 2 (by kernel_rfl) _ _ underlying3 rfl (m.c 2 rfl)) h ?_
    refine wpAnyH_ready (rs:=[1]) (by kernel_rfl) (by simp) ?_;refine AllReadyH.cons rfl (fun K b=> ?_) AllReadyH.nil
    go_simp
    refine(G.out _ _ _).mono ?_;rintro o f3 ⟨rfl,bo⟩;have cw:=c1.l bo;have dt:=d6.l bo;have ch:=aa ce bo;clear c1 d6 ce bo G;refine b.out _ _ cw (fun e6=> ?_)
    clear b K;refine wpAnyH_ready (rs:=[5]) (by kernel_rfl) (by simp) ?_;refine AllReadyH.cons rfl (fun K b=> ?_) AllReadyH.nil
    go_simp
    refine(H.out _ _ _ ch dt).mono ?_;rintro o f5 ⟨f0,rfl,dq,cl⟩;have eg:=cw.l cl;have e0:=aa ch cl;obtain⟨no,nc,k⟩:=dq.shape;subst k;clear cw dt ch cl H;refine b.out _ _ eg (fun dl=> ?_)
    clear b K;refine tq 6 (yT no n nc) rfl (fun _ _=>by kernel_rfl) dl ?_
    refine wpAnyH_done (by kernel_rfl) ?_ _;clear h e6 dl;simp only[Act.put,List.getElem_toArray,List.getElem_cons_succ,List.getElem_cons_zero,List.setIfInBounds_toArray,List.set_cons_zero,List.set_cons_succ]
    go_wp2
    go_ret
    exact⟨_,by simp,dq,e0⟩
  ·go_simp
   have av:=af ba (.cells (ydA false yN 0) 41);have bv:=ah ba (ydL false yN 0) 41;have e9:w.heap.size≤ba.heap.size:=ay.size;have ea:=ae.lt;have R:=ae.l av;have d1:=c2.l av;have ap:=b5.l av;have ad:=aa ay av;refine b.out _ _ R (fun bp=> ?_)
   clear b K;clear ae c2 b5 ay av;generalize ba.alloc (.cells (ydA false yN 0) 41)=ep at R bv d1 ap ad bp⊢;generalize ba.heap.size=q at bv e9 ea⊢;refine wpAnyH_ready (rs:=[2]) (by kernel_rfl) (by simp) ?_;refine AllReadyH.cons rfl (fun K b=> ?_) AllReadyH.nil
   go_simp
   refine(Q.out _ _ _).mono ?_;rintro o ej ⟨rfl,u⟩;have C:=R.l u;have b4:=bv.l u;have O:=d1.l u;have b7:=ap.l u;have X:=aa ad u;clear R bv d1 ap ad u Q;refine b.out _ _ C (fun cn=> ?_)
   clear b K;refine wpAnyH_ready (rs:=[3]) (by kernel_rfl) (by simp) ?_;refine AllReadyH.cons rfl (fun K b=> ?_) AllReadyH.nil
   go_simp
   refine(F.out _ _ _ X b7 O).mono ?_;rintro o B ⟨eh,rfl,N,J⟩;have D:=C.l J;have A:=b4.l J;have az:=aa X J;obtain⟨g,d,k⟩:=N.shape;subst k;clear C b4 O b7 X J F;refine b.out _ _ D (fun co=> ?_)
   clear b K;refine wpAnyH_ready (rs:=[5]) (by kernel_rfl) (by simp) ?_;refine AllReadyH.cons rfl (fun K b=> ?_) AllReadyH.nil
   have j:But q B (B.setCells q 0 (yDL y g d)):=de _ _ _ _;have E:B.there q 0 3:=dD A;have a3:au (B.setCells q 0 (yDL y g d)) q 41 (yDL y g d):=A.sets _ rfl;have a6:=j.rd N (aX N A (by simp));have a4:=j.loc D (by omega);have Y:=j.below az (by omega);rw[if_pos (by kernel_rfl)];refine wp_store_mid 41 (.tmp 3) (.tmp 7) rfl q 0 (yDA y g d) (by kernel_rfl) (by kernel_rfl) E (by kernel_rfl) (by simp[Value.oneCell']) ?_;refine b.out _ _ a4 (fun cp=> ?_)
   clear b K;clear A N D az j E;refine wpAnyH_done (by kernel_rfl) ?_ _;clear h cm bp cn co cp;change Exit.then _ _ _ _ (World.setCells B q 0 (yDL y g d));generalize World.setCells B q 0 (yDL y g d)=T at a4 a3 a6 Y⊢;simp only[Act.put,List.getElem_toArray,List.getElem_cons_succ,List.getElem_cons_zero]
   go_upto_region 2 with fail
   have I:yB T T.drew:=(Below.refl _ _).drew;have M:=a3.l I;have a7:=a6.l I;have Z:=aa Y I;clear a4 a3 a6 Y I;refine wp_region_held_drew (S:=fun P=>au P q 41 (yDL y g d)) (by kernel_rfl) M (fun h=> ?_)
   generalize T.drew=dv at M a7 Z h⊢;refine tq 0 (yDV y g d) rfl (fun _ m=>fy 41 (.tmp 3) rfl q 0 (by kernel_rfl) _ _ m.range underlying41 rfl (by kernel_rfl)) h ?_
   refine tq 2 (.pointer (some ⟨q,0,none⟩)) rfl (fun _ _=>by kernel_rfl) h ?_
   refine tq 3 (.pointer (some ⟨q,2,none⟩)) rfl (fun _ _=>by kernel_rfl) h ?_
   refine tq 4 (yi y.e) rfl (fun _ m=>gU 3 (.tmp 11) rfl q 2 (by kernel_rfl) _ _ underlying3 rfl (m.c 2 rfl)) h ?_
   refine wpAnyH_ready (rs:=[1]) (by kernel_rfl) (by simp) ?_;refine AllReadyH.cons rfl (fun K b=> ?_) AllReadyH.nil
   go_simp
   refine(G.out _ _ _).mono ?_;rintro o ek ⟨rfl,L⟩;have a5:=M.l L;have b8:=a7.l L;have a0:=aa Z L;clear M a7 Z L G;refine b.out _ _ a5 (fun cr=> ?_)
   clear b K;refine wpAnyH_ready (rs:=[5]) (by kernel_rfl) (by simp) ?_;refine AllReadyH.cons rfl (fun K b=> ?_) AllReadyH.nil
   go_simp
   refine(H.out _ _ _ a0 b8).mono ?_;rintro o el ⟨ei,rfl,b6,a1⟩;have cx:=a5.l a1;have ci:=aa a0 a1;obtain⟨no,nc,k⟩:=b6.shape;subst k;clear a5 b8 a0 a1 H;refine b.out _ _ cx (fun b3=> ?_)
   clear b K;refine tq 6 (yT no n nc) rfl (fun _ _=>by kernel_rfl) b3 ?_
   refine wpAnyH_done (by kernel_rfl) ?_ _;clear h cr b3;simp only[Act.put,List.getElem_toArray,List.getElem_cons_succ,List.getElem_cons_zero,List.setIfInBounds_toArray,List.set_cons_zero,List.set_cons_succ]
   go_wp2
   go_ret
   exact⟨_,by simp,b6,ci⟩
 ·go_simp
  have bd:=af ar (.cells (ydA false yN 0) 41);have bs:=ah ar (ydL false yN 0) 41;have e7:w.heap.size≤ar.heap.size:=b9.size;have e8:=q7.lt;have bt:=q7.l bd;have cy:=r8.l bd;have bf:=aa b9 bd;refine b.out _ _ bt (fun d9=> ?_)
  clear b K;clear q7 r8 b9 bd;generalize ar.alloc (.cells (ydA false yN 0) 41)=eo at bt bs cy bf d9⊢;generalize ar.heap.size=p at bs e7 e8⊢;refine wpAnyH_ready (rs:=[1]) (by kernel_rfl) (by simp) ?_;refine AllReadyH.cons rfl (fun K b=> ?_) AllReadyH.nil
  go_simp
  refine(H1.out _ bf).mono ?_;rintro o f1 ⟨eu,rfl,cz,b1⟩;have R:=bt.l b1;have dn:=bs.l b1;have ap:=cy.l b1;have ad:=aa bf b1;obtain⟨xo,xc,k⟩:=cz.shape;subst k;clear bt bs cy bf b1 H1;refine b.out _ _ R (fun bp=> ?_)
  clear b K;refine wpAnyH_ready (rs:=[2]) (by kernel_rfl) (by simp) ?_;refine AllReadyH.cons rfl (fun K b=> ?_) AllReadyH.nil
  go_simp
  refine(Q.out _ _ _).mono ?_;rintro o ej ⟨rfl,u⟩;have C:=R.l u;have b4:=dn.l u;have O:=ap.l u;have b7:=cz.l u;have X:=aa ad u;clear R dn ap cz ad u Q;refine b.out _ _ C (fun cn=> ?_)
  clear b K;refine wpAnyH_ready (rs:=[3]) (by kernel_rfl) (by simp) ?_;refine AllReadyH.cons rfl (fun K b=> ?_) AllReadyH.nil
  go_simp
  refine(F.out _ _ _ X b7 O).mono ?_;rintro o B ⟨eh,rfl,N,J⟩;have D:=C.l J;have A:=b4.l J;have az:=aa X J;obtain⟨g,d,k⟩:=N.shape;subst k;clear C b4 O b7 X J F;refine b.out _ _ D (fun co=> ?_)
  clear b K;refine wpAnyH_ready (rs:=[5]) (by kernel_rfl) (by simp) ?_;refine AllReadyH.cons rfl (fun K b=> ?_) AllReadyH.nil
  have j:But p B (B.setCells p 0 (yDL y g d)):=de _ _ _ _;have E:B.there p 0 3:=dD A;have a3:au (B.setCells p 0 (yDL y g d)) p 41 (yDL y g d):=A.sets _ rfl;have a6:=j.rd N (aX N A (by simp));have a4:=j.loc D (by omega);have Y:=j.below az (by omega);rw[if_pos (by kernel_rfl)];refine wp_store_mid 41 (.tmp 3) (.tmp 7) rfl p 0 (yDA y g d) (by kernel_rfl) (by kernel_rfl) E (by kernel_rfl) (by simp[Value.oneCell']) ?_;refine b.out _ _ a4 (fun cp=> ?_)
  clear b K;clear A N D az j E;refine wpAnyH_done (by kernel_rfl) ?_ _;clear h d9 bp cn co cp;change Exit.then _ _ _ _ (World.setCells B p 0 (yDL y g d));generalize World.setCells B p 0 (yDL y g d)=T at a4 a3 a6 Y⊢;simp only[Act.put,List.getElem_toArray,List.getElem_cons_succ,List.getElem_cons_zero]
  go_upto_region 2 with fail
  have I:yB T T.drew:=(Below.refl _ _).drew;have M:=a3.l I;have a7:=a6.l I;have Z:=aa Y I;clear a4 a3 a6 Y I;refine wp_region_held_drew (S:=fun P=>au P p 41 (yDL y g d)) (by kernel_rfl) M (fun h=> ?_)
  generalize T.drew=dv at M a7 Z h⊢;refine tq 0 (yDV y g d) rfl (fun _ m=>fy 41 (.tmp 3) rfl p 0 (by kernel_rfl) _ _ m.range underlying41 rfl (by kernel_rfl)) h ?_
  refine tq 2 (.pointer (some ⟨p,0,none⟩)) rfl (fun _ _=>by kernel_rfl) h ?_
  refine tq 3 (.pointer (some ⟨p,2,none⟩)) rfl (fun _ _=>by kernel_rfl) h ?_
  refine tq 4 (yi y.e) rfl (fun _ m=>gU 3 (.tmp 11) rfl p 2 (by kernel_rfl) _ _ underlying3 rfl (m.c 2 rfl)) h ?_
  refine wpAnyH_ready (rs:=[1]) (by kernel_rfl) (by simp) ?_;refine AllReadyH.cons rfl (fun K b=> ?_) AllReadyH.nil
  go_simp
  refine(G.out _ _ _).mono ?_;rintro o ek ⟨rfl,L⟩;have a5:=M.l L;have b8:=a7.l L;have a0:=aa Z L;clear M a7 Z L G;refine b.out _ _ a5 (fun cr=> ?_)
  clear b K;refine wpAnyH_ready (rs:=[5]) (by kernel_rfl) (by simp) ?_;refine AllReadyH.cons rfl (fun K b=> ?_) AllReadyH.nil
  go_simp
  refine(H.out _ _ _ a0 b8).mono ?_;rintro o el ⟨ei,rfl,b6,a1⟩;have cx:=a5.l a1;have ci:=aa a0 a1;obtain⟨no,nc,k⟩:=b6.shape;subst k;clear a5 b8 a0 a1 H;refine b.out _ _ cx (fun b3=> ?_)
  clear b K;refine tq 6 (yT no n nc) rfl (fun _ _=>by kernel_rfl) b3 ?_
  refine wpAnyH_done (by kernel_rfl) ?_ _;clear h cr b3;simp only[Act.put,List.getElem_toArray,List.getElem_cons_succ,List.getElem_cons_zero,List.setIfInBounds_toArray,List.set_cons_zero,List.set_cons_succ]
  go_wp2
  go_ret
  exact⟨_,by simp,b6,ci⟩
end Go.Proofs.YthhiidikgchdeaaGreatDoor

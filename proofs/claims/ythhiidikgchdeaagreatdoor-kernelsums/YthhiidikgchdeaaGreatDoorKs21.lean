/- Texts laid together. -/
import Derived.Test.YthhiidikgchdeaaGreatDoorKs20
set_option maxRecDepth 100000
set_option maxHeartbeats 25600000
namespace Go.Proofs.YthhiidikgchdeaaGreatDoor
open _root_.Go.Proofs.Tryz
open Go.RowKit
theorem meet_W (a b p q:ak)(ao bo po qo:Option Addr)(ac bc pc qc:Nat)(x y u v:ak)(c1 c2:Int)(w:World)(h1:c1≤0)(h2:c2≤0)
  (HO: ∀w1,yB w w1→yC 40 #[.agg #[.bool a.s,yT ao a.n ac,yi a.e,.bool b.s,yT bo b.n bc,yi b.e]] w1 (tR w1 x y))
  (HQ: ∀w1,yB w w1→yC 40 #[.agg #[.bool p.s,yT po p.n pc,yi p.e,.bool q.s,yT qo q.n qc,yi q.e]] w1 (tR w1 u v))
  (D1: ∀r o m k w1,yB w w1→Rd w1 .i64 (yS r x.n o) (Dg.dg 65536 x.n)→Rd w1 .i64 (yS m v.n k) (Dg.dg 65536 v.n)→yC 34 #[ydV x.s (yS r x.n o) x.e,ydV v.s (yS m v.n k) v.e] w1 (yR w1 (yi c1)))
  (D2: ∀j i z t w1,yB w w1→Rd w1 .i64 (yS j u.n i) (Dg.dg 65536 u.n)→Rd w1 .i64 (yS z y.n t) (Dg.dg 65536 y.n)→yC 34 #[ydV u.s (yS j u.n i) u.e,ydV y.s (yS z y.n t) y.e] w1 (yR w1 (yi c2))):
  yC 19 #[.agg #[.bool a.s,yT ao a.n ac,yi a.e,.bool b.s,yT bo b.n bc,yi b.e],.agg #[.bool p.s,yT po p.n pc,yi p.e,.bool q.s,yT qo q.n qc,yi q.e]] w (yR w (.bool true)):=by
 replace HO:Hid _:=HO;replace HQ:Hid _:=HQ;replace D1:Hid _:=D1;replace D2:Hid _:=D2;obtain⟨W4,i3,q1,q2,b3⟩:=iG w [.bool a.s,yT ao a.n ac,yi a.e,.bool b.s,yT bo b.n bc,yi b.e] 27 [.bool p.s,yT po p.n pc,yi p.e,.bool q.s,yT qo q.n qc,yi q.e] 27;replace i3:Hid _:=i3
 go_enter func19,ntmps19
 go_upto_region 1 with fail
 rw[i3.out];clear i3
 go_upto_region 1 with fail
 have i1:yB W4 W4.drew:=(Below.refl _ _).drew;have q7:=q1.l i1;have q8:=q2.l i1;have b9:=aa b3 i1;clear q1 q2 b3 i1;refine wp_region_held_drew (S:=fun wq=>au wq w.heap.size 27 [.bool a.s,yT ao a.n ac,yi a.e,.bool b.s,yT bo b.n bc,yi b.e]∧au wq (w.heap.size+1) 27 [.bool p.s,yT po p.n pc,yi p.e,.bool q.s,yT qo q.n qc,yi q.e]) (by kernel_rfl) ⟨q7,q8⟩ (fun cp=> ?_)
 generalize W4.drew=eo at q7 q8 b9 cp⊢;refine tq 0 (.agg #[.bool a.s,yT ao a.n ac,yi a.e,.bool b.s,yT bo b.n bc,yi b.e]) rfl (fun _ js=>fy 27 (.tmp 2) rfl w.heap.size 0 (by kernel_rfl) _ _ js.1.range underlying27 rfl (by kernel_rfl)) cp ?_
 refine tq 2 (.agg #[.bool p.s,yT po p.n pc,yi p.e,.bool q.s,yT qo q.n qc,yi q.e]) rfl (fun _ js=>fy 27 (.tmp 3) rfl (w.heap.size+1) 0 (by kernel_rfl) _ _ js.2.range underlying27 rfl (by kernel_rfl)) cp ?_
 refine wpAnyH_ready (rs:=[1,4,5]) (by kernel_rfl) (by simp) ?_;refine AllReadyH.cons rfl (fun K g=> ?_) (AllReadyH.cons rfl (fun K g=> ?_) (AllReadyH.cons rfl (fun K g=> ?_) AllReadyH.nil))
 ·go_simp
  refine(HO.out _ b9).mono ?_;rintro U ep ⟨ky,l0,rfl,h0,h6,i2⟩;have f5:=q7.l i2;have ar:=q8.l i2;have eu:=aa b9 i2;obtain⟨r,o,B⟩:=h0.shape;subst B;obtain⟨z,t,B⟩:=h6.shape;subst B;clear q7 q8 b9 i2 HO;refine g.out _ _ ⟨f5,ar⟩ (fun he=> ?_)
  clear g K;refine wpAnyH_ready (rs:=[3,4,5]) (by kernel_rfl) (by simp) ?_;refine AllReadyH.cons rfl (fun K g=> ?_) (AllReadyH.cons rfl (fun K g=> ?_) (AllReadyH.cons rfl (fun K g=> ?_) AllReadyH.nil))
  ·go_simp
   refine(HQ.out _ eu).mono ?_;rintro U es ⟨kz,l1,rfl,hw,hy,hd⟩;have gm:=f5.l hd;have W:=ar.l hd;have i4:=h0.l hd;have cb:=h6.l hd;have ba:=aa eu hd;obtain⟨j,i,B⟩:=hw.shape;subst B;obtain⟨m,k,B⟩:=hy.shape;subst B;clear f5 ar h0 h6 eu hd HQ;refine g.out _ _ ⟨gm,W⟩ (fun fl=> ?_)
   clear g K;refine wpAnyH_ready (rs:=[4,5]) (by kernel_rfl) (by simp) ?_;refine AllReadyH.cons rfl (fun K g=> ?_) (AllReadyH.cons rfl (fun K g=> ?_) AllReadyH.nil)
   ·go_simp
    have a4:=af es (.cells #[.bool false,yN,yi 0,.bool false,yN,yi 0] 67);have b6:=ah es [.bool false,yN,yi 0,.bool false,yN,yi 0] 67;have gd:w.heap.size≤es.heap.size:=ba.size;have ec:=gm.lt;have ed:=W.lt;have a5:=gm.l a4;have H:=W.l a4;have e1:=i4.l a4;have bq:=cb.l a4;have b8:=hw.l a4;have b4:=hy.l a4;have bf:=aa ba a4;refine g.out _ _ ⟨a5,H⟩ (fun ea=> ?_)
    clear g K;clear gm W i4 cb hw hy ba a4;generalize es.alloc (.cells #[.bool false,yN,yi 0,.bool false,yN,yi 0] 67)=d2 at a5 H b6 e1 bq b8 b4 bf ea⊢;generalize es.heap.size=a0 at b6 gd ec ed⊢;refine wpAnyH_ready (rs:=[5]) (by kernel_rfl) (by simp) ?_;refine AllReadyH.cons rfl (fun K g=> ?_) AllReadyH.nil
    go_simp
    have be:=af d2 (.cells #[.bool false,yN,yi 0,.bool false,yN,yi 0] 67);have d1:=ah d2 [.bool false,yN,yi 0,.bool false,yN,yi 0] 67;have ee:w.heap.size≤d2.heap.size:=bf.size;have ef:=a5.lt;have gj:=H.lt;have jn:=b6.lt;have C:=a5.l be;have N:=H.l be;have b2:=b6.l be;have M:=e1.l be;have Z:=bq.l be;have bs:=b8.l be;have bt:=b4.l be;have fr:=aa bf be;refine g.out _ _ ⟨C,N⟩ (fun hq=> ?_)
    clear g K;clear a5 H b6 e1 bq b8 b4 bf be;generalize d2.alloc (.cells #[.bool false,yN,yi 0,.bool false,yN,yi 0] 67)=d5 at C N b2 d1 M Z bs bt fr hq⊢;generalize d2.heap.size=c4 at d1 ee ef gj jn⊢;refine wpAnyH_ready (rs:=[6]) (by kernel_rfl) (by simp) ?_;refine AllReadyH.cons rfl (fun K g=> ?_) AllReadyH.nil
    have f:But a0 d5 (d5.setCells a0 0 [.bool x.s,yS r x.n o,yi x.e,.bool y.s,yS z y.n t,yi y.e]):=de _ _ _ _;have A:d5.there a0 0 6:=dD b2;have gy:au (d5.setCells a0 0 [.bool x.s,yS r x.n o,yi x.e,.bool y.s,yS z y.n t,yi y.e]) a0 67 [.bool x.s,yS r x.n o,yi x.e,.bool y.s,yS z y.n t,yi y.e]:=b2.sets _ rfl;have G:=f.rd M (cq M (Dg.norm_dg _ _ (by omega)) b2 (fun x d n h=>by simp at d;rcases d with rfl|rfl|rfl|rfl|rfl|rfl<;>simp;all_goals omega))
    have Q:=f.rd Z (cq Z (Dg.norm_dg _ _ (by omega)) b2 (fun x d n h=>by simp at d;rcases d with rfl|rfl|rfl|rfl|rfl|rfl<;>simp;all_goals omega))
    have bw:=f.rd bs (cq bs (Dg.norm_dg _ _ (by omega)) b2 (fun x d n h=>by simp at d;rcases d with rfl|rfl|rfl|rfl|rfl|rfl<;>simp;all_goals omega))
    have fk:=f.rd bt (cq bt (Dg.norm_dg _ _ (by omega)) b2 (fun x d n h=>by simp at d;rcases d with rfl|rfl|rfl|rfl|rfl|rfl<;>simp;all_goals omega))
    have D:=f.loc C (by omega);have ap:=f.loc N (by omega);have a6:=f.loc d1 (by omega);have fx:=f.below fr (by omega);rw[if_pos (by kernel_rfl)];refine wp_store_mid 67 (.tmp 5) (.tmp 8) rfl a0 0 #[.bool x.s,yS r x.n o,yi x.e,.bool y.s,yS z y.n t,yi y.e] (by kernel_rfl) (by kernel_rfl) A (by kernel_rfl) (by simp[Value.oneCell']) ?_;refine g.out _ _ ⟨D,ap⟩ (fun hu=> ?_)
    clear g K;clear b2 M Z bs bt C N d1 fr f A;change wpAnyH _ _ _ _ _ _ _ _ (World.setCells d5 a0 0 [.bool x.s,yS r x.n o,yi x.e,.bool y.s,yS z y.n t,yi y.e]);generalize World.setCells d5 a0 0 [.bool x.s,yS r x.n o,yi x.e,.bool y.s,yS z y.n t,yi y.e]=da at D ap gy a6 G Q bw fk fx hu⊢;refine wpAnyH_ready (rs:=[7]) (by kernel_rfl) (by simp) ?_;refine AllReadyH.cons rfl (fun K g=> ?_) AllReadyH.nil
    have f:But c4 da (da.setCells c4 0 [.bool u.s,yS j u.n i,yi u.e,.bool v.s,yS m v.n k,yi v.e]):=de _ _ _ _;have A:da.there c4 0 6:=dD a6;have dy:au (da.setCells c4 0 [.bool u.s,yS j u.n i,yi u.e,.bool v.s,yS m v.n k,yi v.e]) c4 67 [.bool u.s,yS j u.n i,yi u.e,.bool v.s,yS m v.n k,yi v.e]:=a6.sets _ rfl;have T:=f.rd G (cq G (Dg.norm_dg _ _ (by omega)) a6 (fun x d n h=>by simp at d;rcases d with rfl|rfl|rfl|rfl|rfl|rfl<;>simp;all_goals omega))
    have a8:=f.rd Q (cq Q (Dg.norm_dg _ _ (by omega)) a6 (fun x d n h=>by simp at d;rcases d with rfl|rfl|rfl|rfl|rfl|rfl<;>simp;all_goals omega))
    have cy:=f.rd bw (cq bw (Dg.norm_dg _ _ (by omega)) a6 (fun x d n h=>by simp at d;rcases d with rfl|rfl|rfl|rfl|rfl|rfl<;>simp;all_goals omega))
    have hc:=f.rd fk (cq fk (Dg.norm_dg _ _ (by omega)) a6 (fun x d n h=>by simp at d;rcases d with rfl|rfl|rfl|rfl|rfl|rfl<;>simp;all_goals omega))
    have O:=f.loc D (by omega);have b7:=f.loc ap (by omega);have e0:=f.loc gy (by omega);have f2:=f.below fx (by omega);rw[if_pos (by kernel_rfl)];refine wp_store_mid 67 (.tmp 6) (.tmp 10) rfl c4 0 #[.bool u.s,yS j u.n i,yi u.e,.bool v.s,yS m v.n k,yi v.e] (by kernel_rfl) (by kernel_rfl) A (by kernel_rfl) (by simp[Value.oneCell']) ?_;refine g.out _ _ ⟨O,b7⟩ (fun j4=> ?_)
    clear g K;clear a6 G Q bw fk D ap gy fx f A;refine wpAnyH_done (by kernel_rfl) ?_ _;clear cp he fl ea hq hu j4;change Exit.then _ _ _ _ (World.setCells da c4 0 [.bool u.s,yS j u.n i,yi u.e,.bool v.s,yS m v.n k,yi v.e]);generalize World.setCells da c4 0 [.bool u.s,yS j u.n i,yi u.e,.bool v.s,yS m v.n k,yi v.e]=k2 at O b7 e0 dy T a8 cy hc f2⊢;simp only[Act.put,List.getElem_toArray,List.getElem_cons_succ,List.getElem_cons_zero];have az:=e0.c 0 rfl;have b0:=e0.c 1 rfl;have bj:=e0.c 2 rfl;have cn:=dy.c 3 rfl;have g6:=dy.c 4 rfl;have it:=dy.c 5 rfl
    go_wp2_with fail
    refine(D1.out _ _ _ _ _ f2 T hc).mono ?_;rintro U kx ⟨rfl,dq⟩;have bp:=e0.l dq;have fc:=dy.l dq;have ek:=a8.l dq;have i0:=cy.l dq;have g3:=aa f2 dq;clear O b7 e0 dy T a8 cy hc f2 dq D1 az b0 bj cn g6 it;have ax:=bp.c 3 rfl;have ay:=bp.c 4 rfl;have bh:=bp.c 5 rfl;have cl:=fc.c 0 rfl;have g4:=fc.c 1 rfl;have ih:=fc.c 2 rfl
    go_wp2_with fail
    refine(D2.out _ _ _ _ _ g3 i0 ek).mono ?_;rintro U ko ⟨rfl,hl⟩;have ic:=aa g3 hl;clear bp fc ek i0 g3 hl D2 ax ay bh cl g4 ih
    go_wp2
    go_ret
    exact⟨by simp,ic⟩
   ·go_simp
    have a4:=af es (.cells #[.bool false,yN,yi 0,.bool false,yN,yi 0] 67);have b6:=ah es [.bool false,yN,yi 0,.bool false,yN,yi 0] 67;have gd:w.heap.size≤es.heap.size:=ba.size;have ec:=gm.lt;have ed:=W.lt;have a5:=gm.l a4;have H:=W.l a4;have e1:=i4.l a4;have bq:=cb.l a4;have b8:=hw.l a4;have b4:=hy.l a4;have bf:=aa ba a4;refine g.out _ _ ⟨a5,H⟩ (fun ea=> ?_)
    clear g K;clear gm W i4 cb hw hy ba a4;generalize es.alloc (.cells #[.bool false,yN,yi 0,.bool false,yN,yi 0] 67)=d2 at a5 H b6 e1 bq b8 b4 bf ea⊢;generalize es.heap.size=a0 at b6 gd ec ed⊢;refine wpAnyH_ready (rs:=[4]) (by kernel_rfl) (by simp) ?_;refine AllReadyH.cons rfl (fun K g=> ?_) AllReadyH.nil
    go_simp
    have be:=af d2 (.cells #[.bool false,yN,yi 0,.bool false,yN,yi 0] 67);have d1:=ah d2 [.bool false,yN,yi 0,.bool false,yN,yi 0] 67;have ee:w.heap.size≤d2.heap.size:=bf.size;have ef:=a5.lt;have gj:=H.lt;have jn:=b6.lt;have C:=a5.l be;have N:=H.l be;have b2:=b6.l be;have M:=e1.l be;have Z:=bq.l be;have bs:=b8.l be;have bt:=b4.l be;have fr:=aa bf be;refine g.out _ _ ⟨C,N⟩ (fun hq=> ?_)
    clear g K;clear a5 H b6 e1 bq b8 b4 bf be;generalize d2.alloc (.cells #[.bool false,yN,yi 0,.bool false,yN,yi 0] 67)=d5 at C N b2 d1 M Z bs bt fr hq⊢;generalize d2.heap.size=c4 at d1 ee ef gj jn⊢;refine wpAnyH_ready (rs:=[6]) (by kernel_rfl) (by simp) ?_;refine AllReadyH.cons rfl (fun K g=> ?_) AllReadyH.nil
    have f:But c4 d5 (d5.setCells c4 0 [.bool x.s,yS r x.n o,yi x.e,.bool y.s,yS z y.n t,yi y.e]):=de _ _ _ _;have A:d5.there c4 0 6:=dD d1;have gy:au (d5.setCells c4 0 [.bool x.s,yS r x.n o,yi x.e,.bool y.s,yS z y.n t,yi y.e]) c4 67 [.bool x.s,yS r x.n o,yi x.e,.bool y.s,yS z y.n t,yi y.e]:=d1.sets _ rfl;have G:=f.rd M (cq M (Dg.norm_dg _ _ (by omega)) d1 (fun x d n h=>by simp at d;rcases d with rfl|rfl|rfl|rfl|rfl|rfl<;>simp;all_goals omega))
    have Q:=f.rd Z (cq Z (Dg.norm_dg _ _ (by omega)) d1 (fun x d n h=>by simp at d;rcases d with rfl|rfl|rfl|rfl|rfl|rfl<;>simp;all_goals omega))
    have bw:=f.rd bs (cq bs (Dg.norm_dg _ _ (by omega)) d1 (fun x d n h=>by simp at d;rcases d with rfl|rfl|rfl|rfl|rfl|rfl<;>simp;all_goals omega))
    have fk:=f.rd bt (cq bt (Dg.norm_dg _ _ (by omega)) d1 (fun x d n h=>by simp at d;rcases d with rfl|rfl|rfl|rfl|rfl|rfl<;>simp;all_goals omega))
    have D:=f.loc C (by omega);have ap:=f.loc N (by omega);have a6:=f.loc b2 (by omega);have fx:=f.below fr (by omega);rw[if_pos (by kernel_rfl)];refine wp_store_mid 67 (.tmp 5) (.tmp 8) rfl c4 0 #[.bool x.s,yS r x.n o,yi x.e,.bool y.s,yS z y.n t,yi y.e] (by kernel_rfl) (by kernel_rfl) A (by kernel_rfl) (by simp[Value.oneCell']) ?_;refine g.out _ _ ⟨D,ap⟩ (fun hu=> ?_)
    clear g K;clear d1 M Z bs bt C N b2 fr f A;change wpAnyH _ _ _ _ _ _ _ _ (World.setCells d5 c4 0 [.bool x.s,yS r x.n o,yi x.e,.bool y.s,yS z y.n t,yi y.e]);generalize World.setCells d5 c4 0 [.bool x.s,yS r x.n o,yi x.e,.bool y.s,yS z y.n t,yi y.e]=da at D ap a6 gy G Q bw fk fx hu⊢;refine wpAnyH_ready (rs:=[7]) (by kernel_rfl) (by simp) ?_;refine AllReadyH.cons rfl (fun K g=> ?_) AllReadyH.nil
    have f:But a0 da (da.setCells a0 0 [.bool u.s,yS j u.n i,yi u.e,.bool v.s,yS m v.n k,yi v.e]):=de _ _ _ _;have A:da.there a0 0 6:=dD a6;have dy:au (da.setCells a0 0 [.bool u.s,yS j u.n i,yi u.e,.bool v.s,yS m v.n k,yi v.e]) a0 67 [.bool u.s,yS j u.n i,yi u.e,.bool v.s,yS m v.n k,yi v.e]:=a6.sets _ rfl;have T:=f.rd G (cq G (Dg.norm_dg _ _ (by omega)) a6 (fun x d n h=>by simp at d;rcases d with rfl|rfl|rfl|rfl|rfl|rfl<;>simp;all_goals omega))
    have a8:=f.rd Q (cq Q (Dg.norm_dg _ _ (by omega)) a6 (fun x d n h=>by simp at d;rcases d with rfl|rfl|rfl|rfl|rfl|rfl<;>simp;all_goals omega))
    have cy:=f.rd bw (cq bw (Dg.norm_dg _ _ (by omega)) a6 (fun x d n h=>by simp at d;rcases d with rfl|rfl|rfl|rfl|rfl|rfl<;>simp;all_goals omega))
    have hc:=f.rd fk (cq fk (Dg.norm_dg _ _ (by omega)) a6 (fun x d n h=>by simp at d;rcases d with rfl|rfl|rfl|rfl|rfl|rfl<;>simp;all_goals omega))
    have O:=f.loc D (by omega);have b7:=f.loc ap (by omega);have e0:=f.loc gy (by omega);have f2:=f.below fx (by omega);rw[if_pos (by kernel_rfl)];refine wp_store_mid 67 (.tmp 6) (.tmp 10) rfl a0 0 #[.bool u.s,yS j u.n i,yi u.e,.bool v.s,yS m v.n k,yi v.e] (by kernel_rfl) (by kernel_rfl) A (by kernel_rfl) (by simp[Value.oneCell']) ?_;refine g.out _ _ ⟨O,b7⟩ (fun j4=> ?_)
    clear g K;clear a6 G Q bw fk D ap gy fx f A;refine wpAnyH_done (by kernel_rfl) ?_ _;clear cp he fl ea hq hu j4;change Exit.then _ _ _ _ (World.setCells da a0 0 [.bool u.s,yS j u.n i,yi u.e,.bool v.s,yS m v.n k,yi v.e]);generalize World.setCells da a0 0 [.bool u.s,yS j u.n i,yi u.e,.bool v.s,yS m v.n k,yi v.e]=k2 at O b7 dy e0 T a8 cy hc f2⊢;simp only[Act.put,List.getElem_toArray,List.getElem_cons_succ,List.getElem_cons_zero];have az:=dy.c 3 rfl;have b0:=dy.c 4 rfl;have bj:=dy.c 5 rfl;have cn:=e0.c 0 rfl;have g6:=e0.c 1 rfl;have it:=e0.c 2 rfl
    go_wp2_with fail
    refine(D1.out _ _ _ _ _ f2 T hc).mono ?_;rintro U kx ⟨rfl,dq⟩;have bp:=dy.l dq;have fc:=e0.l dq;have ek:=a8.l dq;have i0:=cy.l dq;have g3:=aa f2 dq;clear O b7 dy e0 T a8 cy hc f2 dq D1 az b0 bj cn g6 it;have ax:=bp.c 0 rfl;have ay:=bp.c 1 rfl;have bh:=bp.c 2 rfl;have cl:=fc.c 3 rfl;have g4:=fc.c 4 rfl;have ih:=fc.c 5 rfl
    go_wp2_with fail
    refine(D2.out _ _ _ _ _ g3 i0 ek).mono ?_;rintro U ko ⟨rfl,hl⟩;have ic:=aa g3 hl;clear bp fc ek i0 g3 hl D2 ax ay bh cl g4 ih
    go_wp2
    go_ret
    exact⟨by simp,ic⟩
  ·go_simp
   have db:=af ep (.cells #[.bool false,yN,yi 0,.bool false,yN,yi 0] 67);have ct:=ah ep [.bool false,yN,yi 0,.bool false,yN,yi 0] 67;have jc:w.heap.size≤ep.heap.size:=eu.size;have gb:=f5.lt;have gc:=ar.lt;have W:=f5.l db;have a9:=ar.l db;have cb:=h0.l db;have ei:=h6.l db;have ce:=aa eu db;refine g.out _ _ ⟨W,a9⟩ (fun g8=> ?_)
   clear g K;clear f5 ar h0 h6 eu db;generalize ep.alloc (.cells #[.bool false,yN,yi 0,.bool false,yN,yi 0] 67)=e6 at W a9 ct cb ei ce g8⊢;generalize ep.heap.size=a3 at ct jc gb gc⊢;refine wpAnyH_ready (rs:=[3,5]) (by kernel_rfl) (by simp) ?_;refine AllReadyH.cons rfl (fun K g=> ?_) (AllReadyH.cons rfl (fun K g=> ?_) AllReadyH.nil)
   ·go_simp
    refine(HQ.out _ ce).mono ?_;rintro U en ⟨k7,ke,rfl,h4,h8,ck⟩;have a5:=W.l ck;have H:=a9.l ck;have a1:=ct.l ck;have bq:=cb.l ck;have b8:=ei.l ck;have cg:=aa ce ck;obtain⟨j,i,B⟩:=h4.shape;subst B;obtain⟨m,k,B⟩:=h8.shape;subst B;clear W a9 ct cb ei ce ck HQ;refine g.out _ _ ⟨a5,H⟩ (fun g9=> ?_)
    clear g K;refine wpAnyH_ready (rs:=[5]) (by kernel_rfl) (by simp) ?_;refine AllReadyH.cons rfl (fun K g=> ?_) AllReadyH.nil
    go_simp
    have bd:=af en (.cells #[.bool false,yN,yi 0,.bool false,yN,yi 0] 67);have d0:=ah en [.bool false,yN,yi 0,.bool false,yN,yi 0] 67;have gi:w.heap.size≤en.heap.size:=cg.size;have ee:=a5.lt;have ef:=H.lt;have gj:=a1.lt;have L:=a5.l bd;have C:=H.l bd;have N:=a1.l bd;have a2:=bq.l bd;have M:=b8.l bd;have Z:=h4.l bd;have bs:=h8.l bd;have fp:=aa cg bd;refine g.out _ _ ⟨L,C⟩ (fun hp=> ?_)
    clear g K;clear a5 H a1 bq b8 h4 h8 cg bd;generalize en.alloc (.cells #[.bool false,yN,yi 0,.bool false,yN,yi 0] 67)=d4 at L C N d0 a2 M Z bs fp hp⊢;generalize en.heap.size=c3 at d0 gi ee ef gj⊢;refine wpAnyH_ready (rs:=[6]) (by kernel_rfl) (by simp) ?_;refine AllReadyH.cons rfl (fun K g=> ?_) AllReadyH.nil
    have f:But a3 d4 (d4.setCells a3 0 [.bool x.s,yS r x.n o,yi x.e,.bool y.s,yS z y.n t,yi y.e]):=de _ _ _ _;have A:d4.there a3 0 6:=dD N;have gx:au (d4.setCells a3 0 [.bool x.s,yS r x.n o,yi x.e,.bool y.s,yS z y.n t,yi y.e]) a3 67 [.bool x.s,yS r x.n o,yi x.e,.bool y.s,yS z y.n t,yi y.e]:=N.sets _ rfl;have F:=f.rd a2 (cq a2 (Dg.norm_dg _ _ (by omega)) N (fun x d n h=>by simp at d;rcases d with rfl|rfl|rfl|rfl|rfl|rfl<;>simp;all_goals omega))
    have G:=f.rd M (cq M (Dg.norm_dg _ _ (by omega)) N (fun x d n h=>by simp at d;rcases d with rfl|rfl|rfl|rfl|rfl|rfl<;>simp;all_goals omega))
    have Q:=f.rd Z (cq Z (Dg.norm_dg _ _ (by omega)) N (fun x d n h=>by simp at d;rcases d with rfl|rfl|rfl|rfl|rfl|rfl<;>simp;all_goals omega))
    have bw:=f.rd bs (cq bs (Dg.norm_dg _ _ (by omega)) N (fun x d n h=>by simp at d;rcases d with rfl|rfl|rfl|rfl|rfl|rfl<;>simp;all_goals omega))
    have J:=f.loc L (by omega);have D:=f.loc C (by omega);have ap:=f.loc d0 (by omega);have fv:=f.below fp (by omega);rw[if_pos (by kernel_rfl)];refine wp_store_mid 67 (.tmp 5) (.tmp 8) rfl a3 0 #[.bool x.s,yS r x.n o,yi x.e,.bool y.s,yS z y.n t,yi y.e] (by kernel_rfl) (by kernel_rfl) A (by kernel_rfl) (by simp[Value.oneCell']) ?_;refine g.out _ _ ⟨J,D⟩ (fun ht=> ?_)
    clear g K;clear N a2 M Z bs L C d0 fp f A;change wpAnyH _ _ _ _ _ _ _ _ (World.setCells d4 a3 0 [.bool x.s,yS r x.n o,yi x.e,.bool y.s,yS z y.n t,yi y.e]);generalize World.setCells d4 a3 0 [.bool x.s,yS r x.n o,yi x.e,.bool y.s,yS z y.n t,yi y.e]=d9 at J D gx ap F G Q bw fv ht⊢;refine wpAnyH_ready (rs:=[7]) (by kernel_rfl) (by simp) ?_;refine AllReadyH.cons rfl (fun K g=> ?_) AllReadyH.nil
    have f:But c3 d9 (d9.setCells c3 0 [.bool u.s,yS j u.n i,yi u.e,.bool v.s,yS m v.n k,yi v.e]):=de _ _ _ _;have A:d9.there c3 0 6:=dD ap;have dv:au (d9.setCells c3 0 [.bool u.s,yS j u.n i,yi u.e,.bool v.s,yS m v.n k,yi v.e]) c3 67 [.bool u.s,yS j u.n i,yi u.e,.bool v.s,yS m v.n k,yi v.e]:=ap.sets _ rfl;have R:=f.rd F (cq F (Dg.norm_dg _ _ (by omega)) ap (fun x d n h=>by simp at d;rcases d with rfl|rfl|rfl|rfl|rfl|rfl<;>simp;all_goals omega))
    have T:=f.rd G (cq G (Dg.norm_dg _ _ (by omega)) ap (fun x d n h=>by simp at d;rcases d with rfl|rfl|rfl|rfl|rfl|rfl<;>simp;all_goals omega))
    have a8:=f.rd Q (cq Q (Dg.norm_dg _ _ (by omega)) ap (fun x d n h=>by simp at d;rcases d with rfl|rfl|rfl|rfl|rfl|rfl<;>simp;all_goals omega))
    have cy:=f.rd bw (cq bw (Dg.norm_dg _ _ (by omega)) ap (fun x d n h=>by simp at d;rcases d with rfl|rfl|rfl|rfl|rfl|rfl<;>simp;all_goals omega))
    have Y:=f.loc J (by omega);have O:=f.loc D (by omega);have b7:=f.loc gx (by omega);have f1:=f.below fv (by omega);rw[if_pos (by kernel_rfl)];refine wp_store_mid 67 (.tmp 6) (.tmp 10) rfl c3 0 #[.bool u.s,yS j u.n i,yi u.e,.bool v.s,yS m v.n k,yi v.e] (by kernel_rfl) (by kernel_rfl) A (by kernel_rfl) (by simp[Value.oneCell']) ?_;refine g.out _ _ ⟨Y,O⟩ (fun j3=> ?_)
    clear g K;clear ap F G Q bw J D gx fv f A;refine wpAnyH_done (by kernel_rfl) ?_ _;clear cp he g8 g9 hp ht j3;change Exit.then _ _ _ _ (World.setCells d9 c3 0 [.bool u.s,yS j u.n i,yi u.e,.bool v.s,yS m v.n k,yi v.e]);generalize World.setCells d9 c3 0 [.bool u.s,yS j u.n i,yi u.e,.bool v.s,yS m v.n k,yi v.e]=k1 at Y O b7 dv R T a8 cy f1⊢;simp only[Act.put,List.getElem_toArray,List.getElem_cons_succ,List.getElem_cons_zero];have bi:=b7.c 0 rfl;have az:=b7.c 1 rfl;have b0:=b7.c 2 rfl;have bj:=dv.c 3 rfl;have cn:=dv.c 4 rfl;have g6:=dv.c 5 rfl
    go_wp2_with fail
    refine(D1.out _ _ _ _ _ f1 R cy).mono ?_;rintro U kw ⟨rfl,dp⟩;have ae:=b7.l dp;have bp:=dv.l dp;have ca:=T.l dp;have ek:=a8.l dp;have g2:=aa f1 dp;clear Y O b7 dv R T a8 cy f1 dp D1 bi az b0 bj cn g6;have bl:=ae.c 3 rfl;have ax:=ae.c 4 rfl;have ay:=ae.c 5 rfl;have bh:=bp.c 0 rfl;have cl:=bp.c 1 rfl;have g4:=bp.c 2 rfl
    go_wp2_with fail
    refine(D2.out _ _ _ _ _ g2 ek ca).mono ?_;rintro U kn ⟨rfl,hk⟩;have i8:=aa g2 hk;clear ae bp ca ek g2 hk D2 bl ax ay bh cl g4
    go_wp2
    go_ret
    exact⟨by simp,i8⟩
   ·go_simp
    have cc:=af e6 (.cells #[.bool false,yN,yi 0,.bool false,yN,yi 0] 67);have f8:=ah e6 [.bool false,yN,yi 0,.bool false,yN,yi 0] 67;have ec:w.heap.size≤e6.heap.size:=ce.size;have ed:=W.lt;have gg:=a9.lt;have jj:=ct.lt;have a1:=W.l cc;have b1:=a9.l cc;have ds:=ct.l cc;have b4:=cb.l cc;have ha:=ei.l cc;have ex:=aa ce cc;refine g.out _ _ ⟨a1,b1⟩ (fun ho=> ?_)
    clear g K;clear W a9 ct cb ei ce cc;generalize e6.alloc (.cells #[.bool false,yN,yi 0,.bool false,yN,yi 0] 67)=k4 at a1 b1 ds f8 b4 ha ex ho⊢;generalize e6.heap.size=bz at f8 ec ed gg jj⊢;refine wpAnyH_ready (rs:=[3]) (by kernel_rfl) (by simp) ?_;refine AllReadyH.cons rfl (fun K g=> ?_) AllReadyH.nil
    go_simp
    refine(HQ.out _ ex).mono ?_;rintro U e4 ⟨kb,kk,rfl,ff,fj,c7⟩;have L:=a1.l c7;have C:=b1.l c7;have N:=ds.l c7;have b2:=f8.l c7;have M:=b4.l c7;have Z:=ha.l c7;have dc:=aa ex c7;obtain⟨j,i,B⟩:=ff.shape;subst B;obtain⟨m,k,B⟩:=fj.shape;subst B;clear a1 b1 ds f8 b4 ha ex c7 HQ;refine g.out _ _ ⟨L,C⟩ (fun f4=> ?_)
    clear g K;refine wpAnyH_ready (rs:=[6]) (by kernel_rfl) (by simp) ?_;refine AllReadyH.cons rfl (fun K g=> ?_) AllReadyH.nil
    have f:But a3 e4 (e4.setCells a3 0 [.bool x.s,yS r x.n o,yi x.e,.bool y.s,yS z y.n t,yi y.e]):=de _ _ _ _;have A:e4.there a3 0 6:=dD N;have cv:au (e4.setCells a3 0 [.bool x.s,yS r x.n o,yi x.e,.bool y.s,yS z y.n t,yi y.e]) a3 67 [.bool x.s,yS r x.n o,yi x.e,.bool y.s,yS z y.n t,yi y.e]:=N.sets _ rfl;have P:=f.rd M (cq M (Dg.norm_dg _ _ (by omega)) N (fun x d n h=>by simp at d;rcases d with rfl|rfl|rfl|rfl|rfl|rfl<;>simp;all_goals omega))
    have F:=f.rd Z (cq Z (Dg.norm_dg _ _ (by omega)) N (fun x d n h=>by simp at d;rcases d with rfl|rfl|rfl|rfl|rfl|rfl<;>simp;all_goals omega))
    have G:=f.rd ff (cq ff (Dg.norm_dg _ _ (by omega)) N (fun x d n h=>by simp at d;rcases d with rfl|rfl|rfl|rfl|rfl|rfl<;>simp;all_goals omega))
    have Q:=f.rd fj (cq fj (Dg.norm_dg _ _ (by omega)) N (fun x d n h=>by simp at d;rcases d with rfl|rfl|rfl|rfl|rfl|rfl<;>simp;all_goals omega))
    have I:=f.loc L (by omega);have J:=f.loc C (by omega);have D:=f.loc b2 (by omega);have ch:=f.below dc (by omega);rw[if_pos (by kernel_rfl)];refine wp_store_mid 67 (.tmp 5) (.tmp 8) rfl a3 0 #[.bool x.s,yS r x.n o,yi x.e,.bool y.s,yS z y.n t,yi y.e] (by kernel_rfl) (by kernel_rfl) A (by kernel_rfl) (by simp[Value.oneCell']) ?_;refine g.out _ _ ⟨I,J⟩ (fun eb=> ?_)
    clear g K;clear N M Z ff fj L C b2 dc f A;change wpAnyH _ _ _ _ _ _ _ _ (World.setCells e4 a3 0 [.bool x.s,yS r x.n o,yi x.e,.bool y.s,yS z y.n t,yi y.e]);generalize World.setCells e4 a3 0 [.bool x.s,yS r x.n o,yi x.e,.bool y.s,yS z y.n t,yi y.e]=al at I J cv D P F G Q ch eb⊢;refine wpAnyH_ready (rs:=[7]) (by kernel_rfl) (by simp) ?_;refine AllReadyH.cons rfl (fun K g=> ?_) AllReadyH.nil
    have f:But bz al (al.setCells bz 0 [.bool u.s,yS j u.n i,yi u.e,.bool v.s,yS m v.n k,yi v.e]):=de _ _ _ _;have A:al.there bz 0 6:=dD D;have aq:au (al.setCells bz 0 [.bool u.s,yS j u.n i,yi u.e,.bool v.s,yS m v.n k,yi v.e]) bz 67 [.bool u.s,yS j u.n i,yi u.e,.bool v.s,yS m v.n k,yi v.e]:=D.sets _ rfl;have a7:=f.rd P (cq P (Dg.norm_dg _ _ (by omega)) D (fun x d n h=>by simp at d;rcases d with rfl|rfl|rfl|rfl|rfl|rfl<;>simp;all_goals omega))
    have R:=f.rd F (cq F (Dg.norm_dg _ _ (by omega)) D (fun x d n h=>by simp at d;rcases d with rfl|rfl|rfl|rfl|rfl|rfl<;>simp;all_goals omega))
    have T:=f.rd G (cq G (Dg.norm_dg _ _ (by omega)) D (fun x d n h=>by simp at d;rcases d with rfl|rfl|rfl|rfl|rfl|rfl<;>simp;all_goals omega))
    have a8:=f.rd Q (cq Q (Dg.norm_dg _ _ (by omega)) D (fun x d n h=>by simp at d;rcases d with rfl|rfl|rfl|rfl|rfl|rfl<;>simp;all_goals omega))
    have X:=f.loc I (by omega);have Y:=f.loc J (by omega);have O:=f.loc cv (by omega);have bg:=f.below ch (by omega);rw[if_pos (by kernel_rfl)];refine wp_store_mid 67 (.tmp 6) (.tmp 10) rfl bz 0 #[.bool u.s,yS j u.n i,yi u.e,.bool v.s,yS m v.n k,yi v.e] (by kernel_rfl) (by kernel_rfl) A (by kernel_rfl) (by simp[Value.oneCell']) ?_;refine g.out _ _ ⟨X,Y⟩ (fun ga=> ?_)
    clear g K;clear D P F G Q I J cv ch f A;refine wpAnyH_done (by kernel_rfl) ?_ _;clear cp he g8 ho f4 eb ga;change Exit.then _ _ _ _ (World.setCells al bz 0 [.bool u.s,yS j u.n i,yi u.e,.bool v.s,yS m v.n k,yi v.e]);generalize World.setCells al bz 0 [.bool u.s,yS j u.n i,yi u.e,.bool v.s,yS m v.n k,yi v.e]=i5 at X Y O aq a7 R T a8 bg⊢;simp only[Act.put,List.getElem_toArray,List.getElem_cons_succ,List.getElem_cons_zero];have cm:=O.c 0 rfl;have bi:=O.c 1 rfl;have az:=O.c 2 rfl;have b0:=aq.c 3 rfl;have bj:=aq.c 4 rfl;have cn:=aq.c 5 rfl
    go_wp2_with fail
    refine(D1.out _ _ _ _ _ bg a7 a8).mono ?_;rintro U jx ⟨rfl,an⟩;have ad:=O.l an;have ae:=aq.l an;have c9:=R.l an;have ca:=T.l an;have ci:=aa bg an;clear X Y O aq a7 R T a8 bg an D1 cm bi az b0 bj cn;have co:=ad.c 3 rfl;have bl:=ad.c 4 rfl;have ax:=ad.c 5 rfl;have ay:=ae.c 0 rfl;have bh:=ae.c 1 rfl;have cl:=ae.c 2 rfl
    go_wp2_with fail
    refine(D2.out _ _ _ _ _ ci ca c9).mono ?_;rintro U jv ⟨rfl,e8⟩;have fn:=aa ci e8;clear ad ae c9 ca ci e8 D2 co bl ax ay bh cl
    go_wp2
    go_ret
    exact⟨by simp,fn⟩
  ·go_simp
   have db:=af ep (.cells #[.bool false,yN,yi 0,.bool false,yN,yi 0] 67);have ct:=ah ep [.bool false,yN,yi 0,.bool false,yN,yi 0] 67;have jc:w.heap.size≤ep.heap.size:=eu.size;have gb:=f5.lt;have gc:=ar.lt;have W:=f5.l db;have a9:=ar.l db;have cb:=h0.l db;have ei:=h6.l db;have ce:=aa eu db;refine g.out _ _ ⟨W,a9⟩ (fun g8=> ?_)
   clear g K;clear f5 ar h0 h6 eu db;generalize ep.alloc (.cells #[.bool false,yN,yi 0,.bool false,yN,yi 0] 67)=e6 at W a9 ct cb ei ce g8⊢;generalize ep.heap.size=a3 at ct jc gb gc⊢;refine wpAnyH_ready (rs:=[3,4]) (by kernel_rfl) (by simp) ?_;refine AllReadyH.cons rfl (fun K g=> ?_) (AllReadyH.cons rfl (fun K g=> ?_) AllReadyH.nil)
   ·go_simp
    refine(HQ.out _ ce).mono ?_;rintro U en ⟨k7,ke,rfl,h4,h8,ck⟩;have a5:=W.l ck;have H:=a9.l ck;have a1:=ct.l ck;have bq:=cb.l ck;have b8:=ei.l ck;have cg:=aa ce ck;obtain⟨j,i,B⟩:=h4.shape;subst B;obtain⟨m,k,B⟩:=h8.shape;subst B;clear W a9 ct cb ei ce ck HQ;refine g.out _ _ ⟨a5,H⟩ (fun g9=> ?_)
    clear g K;refine wpAnyH_ready (rs:=[4]) (by kernel_rfl) (by simp) ?_;refine AllReadyH.cons rfl (fun K g=> ?_) AllReadyH.nil
    go_simp
    have bd:=af en (.cells #[.bool false,yN,yi 0,.bool false,yN,yi 0] 67);have d0:=ah en [.bool false,yN,yi 0,.bool false,yN,yi 0] 67;have gi:w.heap.size≤en.heap.size:=cg.size;have ee:=a5.lt;have ef:=H.lt;have gj:=a1.lt;have L:=a5.l bd;have C:=H.l bd;have N:=a1.l bd;have a2:=bq.l bd;have M:=b8.l bd;have Z:=h4.l bd;have bs:=h8.l bd;have fp:=aa cg bd;refine g.out _ _ ⟨L,C⟩ (fun hp=> ?_)
    clear g K;clear a5 H a1 bq b8 h4 h8 cg bd;generalize en.alloc (.cells #[.bool false,yN,yi 0,.bool false,yN,yi 0] 67)=d4 at L C N d0 a2 M Z bs fp hp⊢;generalize en.heap.size=c3 at d0 gi ee ef gj⊢;refine wpAnyH_ready (rs:=[6]) (by kernel_rfl) (by simp) ?_;refine AllReadyH.cons rfl (fun K g=> ?_) AllReadyH.nil
    have f:But c3 d4 (d4.setCells c3 0 [.bool x.s,yS r x.n o,yi x.e,.bool y.s,yS z y.n t,yi y.e]):=de _ _ _ _;have A:d4.there c3 0 6:=dD d0;have gx:au (d4.setCells c3 0 [.bool x.s,yS r x.n o,yi x.e,.bool y.s,yS z y.n t,yi y.e]) c3 67 [.bool x.s,yS r x.n o,yi x.e,.bool y.s,yS z y.n t,yi y.e]:=d0.sets _ rfl;have F:=f.rd a2 (cq a2 (Dg.norm_dg _ _ (by omega)) d0 (fun x d n h=>by simp at d;rcases d with rfl|rfl|rfl|rfl|rfl|rfl<;>simp;all_goals omega))
    have G:=f.rd M (cq M (Dg.norm_dg _ _ (by omega)) d0 (fun x d n h=>by simp at d;rcases d with rfl|rfl|rfl|rfl|rfl|rfl<;>simp;all_goals omega))
    have Q:=f.rd Z (cq Z (Dg.norm_dg _ _ (by omega)) d0 (fun x d n h=>by simp at d;rcases d with rfl|rfl|rfl|rfl|rfl|rfl<;>simp;all_goals omega))
    have bw:=f.rd bs (cq bs (Dg.norm_dg _ _ (by omega)) d0 (fun x d n h=>by simp at d;rcases d with rfl|rfl|rfl|rfl|rfl|rfl<;>simp;all_goals omega))
    have J:=f.loc L (by omega);have D:=f.loc C (by omega);have ap:=f.loc N (by omega);have fv:=f.below fp (by omega);rw[if_pos (by kernel_rfl)];refine wp_store_mid 67 (.tmp 5) (.tmp 8) rfl c3 0 #[.bool x.s,yS r x.n o,yi x.e,.bool y.s,yS z y.n t,yi y.e] (by kernel_rfl) (by kernel_rfl) A (by kernel_rfl) (by simp[Value.oneCell']) ?_;refine g.out _ _ ⟨J,D⟩ (fun ht=> ?_)
    clear g K;clear d0 a2 M Z bs L C N fp f A;change wpAnyH _ _ _ _ _ _ _ _ (World.setCells d4 c3 0 [.bool x.s,yS r x.n o,yi x.e,.bool y.s,yS z y.n t,yi y.e]);generalize World.setCells d4 c3 0 [.bool x.s,yS r x.n o,yi x.e,.bool y.s,yS z y.n t,yi y.e]=d9 at J D ap gx F G Q bw fv ht⊢;refine wpAnyH_ready (rs:=[7]) (by kernel_rfl) (by simp) ?_;refine AllReadyH.cons rfl (fun K g=> ?_) AllReadyH.nil
    have f:But a3 d9 (d9.setCells a3 0 [.bool u.s,yS j u.n i,yi u.e,.bool v.s,yS m v.n k,yi v.e]):=de _ _ _ _;have A:d9.there a3 0 6:=dD ap;have dv:au (d9.setCells a3 0 [.bool u.s,yS j u.n i,yi u.e,.bool v.s,yS m v.n k,yi v.e]) a3 67 [.bool u.s,yS j u.n i,yi u.e,.bool v.s,yS m v.n k,yi v.e]:=ap.sets _ rfl;have R:=f.rd F (cq F (Dg.norm_dg _ _ (by omega)) ap (fun x d n h=>by simp at d;rcases d with rfl|rfl|rfl|rfl|rfl|rfl<;>simp;all_goals omega))
    have T:=f.rd G (cq G (Dg.norm_dg _ _ (by omega)) ap (fun x d n h=>by simp at d;rcases d with rfl|rfl|rfl|rfl|rfl|rfl<;>simp;all_goals omega))
    have a8:=f.rd Q (cq Q (Dg.norm_dg _ _ (by omega)) ap (fun x d n h=>by simp at d;rcases d with rfl|rfl|rfl|rfl|rfl|rfl<;>simp;all_goals omega))
    have cy:=f.rd bw (cq bw (Dg.norm_dg _ _ (by omega)) ap (fun x d n h=>by simp at d;rcases d with rfl|rfl|rfl|rfl|rfl|rfl<;>simp;all_goals omega))
    have Y:=f.loc J (by omega);have O:=f.loc D (by omega);have b7:=f.loc gx (by omega);have f1:=f.below fv (by omega);rw[if_pos (by kernel_rfl)];refine wp_store_mid 67 (.tmp 6) (.tmp 10) rfl a3 0 #[.bool u.s,yS j u.n i,yi u.e,.bool v.s,yS m v.n k,yi v.e] (by kernel_rfl) (by kernel_rfl) A (by kernel_rfl) (by simp[Value.oneCell']) ?_;refine g.out _ _ ⟨Y,O⟩ (fun j3=> ?_)
    clear g K;clear ap F G Q bw J D gx fv f A;refine wpAnyH_done (by kernel_rfl) ?_ _;clear cp he g8 g9 hp ht j3;change Exit.then _ _ _ _ (World.setCells d9 a3 0 [.bool u.s,yS j u.n i,yi u.e,.bool v.s,yS m v.n k,yi v.e]);generalize World.setCells d9 a3 0 [.bool u.s,yS j u.n i,yi u.e,.bool v.s,yS m v.n k,yi v.e]=k1 at Y O dv b7 R T a8 cy f1⊢;simp only[Act.put,List.getElem_toArray,List.getElem_cons_succ,List.getElem_cons_zero];have bi:=dv.c 3 rfl;have az:=dv.c 4 rfl;have b0:=dv.c 5 rfl;have bj:=b7.c 0 rfl;have cn:=b7.c 1 rfl;have g6:=b7.c 2 rfl
    go_wp2_with fail
    refine(D1.out _ _ _ _ _ f1 R cy).mono ?_;rintro U kw ⟨rfl,dp⟩;have ae:=dv.l dp;have bp:=b7.l dp;have ca:=T.l dp;have ek:=a8.l dp;have g2:=aa f1 dp;clear Y O dv b7 R T a8 cy f1 dp D1 bi az b0 bj cn g6;have bl:=ae.c 0 rfl;have ax:=ae.c 1 rfl;have ay:=ae.c 2 rfl;have bh:=bp.c 3 rfl;have cl:=bp.c 4 rfl;have g4:=bp.c 5 rfl
    go_wp2_with fail
    refine(D2.out _ _ _ _ _ g2 ek ca).mono ?_;rintro U kn ⟨rfl,hk⟩;have i8:=aa g2 hk;clear ae bp ca ek g2 hk D2 bl ax ay bh cl g4
    go_wp2
    go_ret
    exact⟨by simp,i8⟩
   ·go_simp
    have cc:=af e6 (.cells #[.bool false,yN,yi 0,.bool false,yN,yi 0] 67);have f8:=ah e6 [.bool false,yN,yi 0,.bool false,yN,yi 0] 67;have ec:w.heap.size≤e6.heap.size:=ce.size;have ed:=W.lt;have gg:=a9.lt;have jj:=ct.lt;have a1:=W.l cc;have b1:=a9.l cc;have ds:=ct.l cc;have b4:=cb.l cc;have ha:=ei.l cc;have ex:=aa ce cc;refine g.out _ _ ⟨a1,b1⟩ (fun ho=> ?_)
    clear g K;clear W a9 ct cb ei ce cc;generalize e6.alloc (.cells #[.bool false,yN,yi 0,.bool false,yN,yi 0] 67)=k4 at a1 b1 ds f8 b4 ha ex ho⊢;generalize e6.heap.size=bz at f8 ec ed gg jj⊢;refine wpAnyH_ready (rs:=[3]) (by kernel_rfl) (by simp) ?_;refine AllReadyH.cons rfl (fun K g=> ?_) AllReadyH.nil
    go_simp
    refine(HQ.out _ ex).mono ?_;rintro U e4 ⟨kb,kk,rfl,ff,fj,c7⟩;have L:=a1.l c7;have C:=b1.l c7;have N:=ds.l c7;have b2:=f8.l c7;have M:=b4.l c7;have Z:=ha.l c7;have dc:=aa ex c7;obtain⟨j,i,B⟩:=ff.shape;subst B;obtain⟨m,k,B⟩:=fj.shape;subst B;clear a1 b1 ds f8 b4 ha ex c7 HQ;refine g.out _ _ ⟨L,C⟩ (fun f4=> ?_)
    clear g K;refine wpAnyH_ready (rs:=[6]) (by kernel_rfl) (by simp) ?_;refine AllReadyH.cons rfl (fun K g=> ?_) AllReadyH.nil
    have f:But bz e4 (e4.setCells bz 0 [.bool x.s,yS r x.n o,yi x.e,.bool y.s,yS z y.n t,yi y.e]):=de _ _ _ _;have A:e4.there bz 0 6:=dD b2;have cv:au (e4.setCells bz 0 [.bool x.s,yS r x.n o,yi x.e,.bool y.s,yS z y.n t,yi y.e]) bz 67 [.bool x.s,yS r x.n o,yi x.e,.bool y.s,yS z y.n t,yi y.e]:=b2.sets _ rfl;have P:=f.rd M (cq M (Dg.norm_dg _ _ (by omega)) b2 (fun x d n h=>by simp at d;rcases d with rfl|rfl|rfl|rfl|rfl|rfl<;>simp;all_goals omega))
    have F:=f.rd Z (cq Z (Dg.norm_dg _ _ (by omega)) b2 (fun x d n h=>by simp at d;rcases d with rfl|rfl|rfl|rfl|rfl|rfl<;>simp;all_goals omega))
    have G:=f.rd ff (cq ff (Dg.norm_dg _ _ (by omega)) b2 (fun x d n h=>by simp at d;rcases d with rfl|rfl|rfl|rfl|rfl|rfl<;>simp;all_goals omega))
    have Q:=f.rd fj (cq fj (Dg.norm_dg _ _ (by omega)) b2 (fun x d n h=>by simp at d;rcases d with rfl|rfl|rfl|rfl|rfl|rfl<;>simp;all_goals omega))
    have I:=f.loc L (by omega);have J:=f.loc C (by omega);have D:=f.loc N (by omega);have ch:=f.below dc (by omega);rw[if_pos (by kernel_rfl)];refine wp_store_mid 67 (.tmp 5) (.tmp 8) rfl bz 0 #[.bool x.s,yS r x.n o,yi x.e,.bool y.s,yS z y.n t,yi y.e] (by kernel_rfl) (by kernel_rfl) A (by kernel_rfl) (by simp[Value.oneCell']) ?_;refine g.out _ _ ⟨I,J⟩ (fun eb=> ?_)
    clear g K;clear b2 M Z ff fj L C N dc f A;change wpAnyH _ _ _ _ _ _ _ _ (World.setCells e4 bz 0 [.bool x.s,yS r x.n o,yi x.e,.bool y.s,yS z y.n t,yi y.e]);generalize World.setCells e4 bz 0 [.bool x.s,yS r x.n o,yi x.e,.bool y.s,yS z y.n t,yi y.e]=al at I J D cv P F G Q ch eb⊢;refine wpAnyH_ready (rs:=[7]) (by kernel_rfl) (by simp) ?_;refine AllReadyH.cons rfl (fun K g=> ?_) AllReadyH.nil
    have f:But a3 al (al.setCells a3 0 [.bool u.s,yS j u.n i,yi u.e,.bool v.s,yS m v.n k,yi v.e]):=de _ _ _ _;have A:al.there a3 0 6:=dD D;have aq:au (al.setCells a3 0 [.bool u.s,yS j u.n i,yi u.e,.bool v.s,yS m v.n k,yi v.e]) a3 67 [.bool u.s,yS j u.n i,yi u.e,.bool v.s,yS m v.n k,yi v.e]:=D.sets _ rfl;have a7:=f.rd P (cq P (Dg.norm_dg _ _ (by omega)) D (fun x d n h=>by simp at d;rcases d with rfl|rfl|rfl|rfl|rfl|rfl<;>simp;all_goals omega))
    have R:=f.rd F (cq F (Dg.norm_dg _ _ (by omega)) D (fun x d n h=>by simp at d;rcases d with rfl|rfl|rfl|rfl|rfl|rfl<;>simp;all_goals omega))
    have T:=f.rd G (cq G (Dg.norm_dg _ _ (by omega)) D (fun x d n h=>by simp at d;rcases d with rfl|rfl|rfl|rfl|rfl|rfl<;>simp;all_goals omega))
    have a8:=f.rd Q (cq Q (Dg.norm_dg _ _ (by omega)) D (fun x d n h=>by simp at d;rcases d with rfl|rfl|rfl|rfl|rfl|rfl<;>simp;all_goals omega))
    have X:=f.loc I (by omega);have Y:=f.loc J (by omega);have O:=f.loc cv (by omega);have bg:=f.below ch (by omega);rw[if_pos (by kernel_rfl)];refine wp_store_mid 67 (.tmp 6) (.tmp 10) rfl a3 0 #[.bool u.s,yS j u.n i,yi u.e,.bool v.s,yS m v.n k,yi v.e] (by kernel_rfl) (by kernel_rfl) A (by kernel_rfl) (by simp[Value.oneCell']) ?_;refine g.out _ _ ⟨X,Y⟩ (fun ga=> ?_)
    clear g K;clear D P F G Q I J cv ch f A;refine wpAnyH_done (by kernel_rfl) ?_ _;clear cp he g8 ho f4 eb ga;change Exit.then _ _ _ _ (World.setCells al a3 0 [.bool u.s,yS j u.n i,yi u.e,.bool v.s,yS m v.n k,yi v.e]);generalize World.setCells al a3 0 [.bool u.s,yS j u.n i,yi u.e,.bool v.s,yS m v.n k,yi v.e]=i5 at X Y aq O a7 R T a8 bg⊢;simp only[Act.put,List.getElem_toArray,List.getElem_cons_succ,List.getElem_cons_zero];have cm:=aq.c 3 rfl;have bi:=aq.c 4 rfl;have az:=aq.c 5 rfl;have b0:=O.c 0 rfl;have bj:=O.c 1 rfl;have cn:=O.c 2 rfl
    go_wp2_with fail
    refine(D1.out _ _ _ _ _ bg a7 a8).mono ?_;rintro U jx ⟨rfl,an⟩;have ad:=aq.l an;have ae:=O.l an;have c9:=R.l an;have ca:=T.l an;have ci:=aa bg an;clear X Y aq O a7 R T a8 bg an D1 cm bi az b0 bj cn;have co:=ad.c 0 rfl;have bl:=ad.c 1 rfl;have ax:=ad.c 2 rfl;have ay:=ae.c 3 rfl;have bh:=ae.c 4 rfl;have cl:=ae.c 5 rfl
    go_wp2_with fail
    refine(D2.out _ _ _ _ _ ci ca c9).mono ?_;rintro U jv ⟨rfl,e8⟩;have fn:=aa ci e8;clear ad ae c9 ca ci e8 D2 co bl ax ay bh cl
    go_wp2
    go_ret
    exact⟨by simp,fn⟩
 ·go_simp
  have et:=af eo (.cells #[.bool false,yN,yi 0,.bool false,yN,yi 0] 67);have cr:=ah eo [.bool false,yN,yi 0,.bool false,yN,yi 0] 67;have j5:w.heap.size≤eo.heap.size:=b9.size;have j6:=q7.lt;have jb:=q8.lt;have ar:=q7.l et;have cs:=q8.l et;have cd:=aa b9 et;refine g.out _ _ ⟨ar,cs⟩ (fun f3=> ?_)
  clear g K;clear q7 q8 b9 et;generalize eo.alloc (.cells #[.bool false,yN,yi 0,.bool false,yN,yi 0] 67)=e5 at ar cs cr cd f3⊢;generalize eo.heap.size=E at cr j5 j6 jb⊢;refine wpAnyH_ready (rs:=[1,5]) (by kernel_rfl) (by simp) ?_;refine AllReadyH.cons rfl (fun K g=> ?_) (AllReadyH.cons rfl (fun K g=> ?_) AllReadyH.nil)
  ·go_simp
   refine(HO.out _ cd).mono ?_;rintro U el ⟨k5,kc,rfl,eg,eh,e9⟩;have W:=ar.l e9;have a9:=cs.l e9;have b5:=cr.l e9;have ba:=aa cd e9;obtain⟨r,o,B⟩:=eg.shape;subst B;obtain⟨z,t,B⟩:=eh.shape;subst B;clear ar cs cr cd e9 HO;refine g.out _ _ ⟨W,a9⟩ (fun fl=> ?_)
   clear g K;refine wpAnyH_ready (rs:=[3,5]) (by kernel_rfl) (by simp) ?_;refine AllReadyH.cons rfl (fun K g=> ?_) (AllReadyH.cons rfl (fun K g=> ?_) AllReadyH.nil)
   ·go_simp
    refine(HQ.out _ ba).mono ?_;rintro U em ⟨k6,kd,rfl,h3,h7,cj⟩;have f9:=W.l cj;have a5:=a9.l cj;have H:=b5.l cj;have e1:=eg.l cj;have bq:=eh.l cj;have fo:=aa ba cj;obtain⟨j,i,B⟩:=h3.shape;subst B;obtain⟨m,k,B⟩:=h7.shape;subst B;clear W a9 b5 eg eh ba cj HQ;refine g.out _ _ ⟨f9,a5⟩ (fun iw=> ?_)
    clear g K;refine wpAnyH_ready (rs:=[5]) (by kernel_rfl) (by simp) ?_;refine AllReadyH.cons rfl (fun K g=> ?_) AllReadyH.nil
    go_simp
    have bb:=af em (.cells #[.bool false,yN,yi 0,.bool false,yN,yi 0] 67);have cz:=ah em [.bool false,yN,yi 0,.bool false,yN,yi 0] 67;have jk:w.heap.size≤em.heap.size:=fo.size;have gi:=f9.lt;have ee:=a5.lt;have ef:=H.lt;have av:=f9.l bb;have L:=a5.l bb;have C:=H.l bb;have c8:=e1.l bb;have a2:=bq.l bb;have M:=h3.l bb;have Z:=h7.l bb;have dc:=aa fo bb;refine g.out _ _ ⟨av,L⟩ (fun f4=> ?_)
    clear g K;clear f9 a5 H e1 bq h3 h7 fo bb;generalize em.alloc (.cells #[.bool false,yN,yi 0,.bool false,yN,yi 0] 67)=d3 at av L C cz c8 a2 M Z dc f4⊢;generalize em.heap.size=c0 at cz jk gi ee ef⊢;refine wpAnyH_ready (rs:=[6]) (by kernel_rfl) (by simp) ?_;refine AllReadyH.cons rfl (fun K g=> ?_) AllReadyH.nil
    have f:But E d3 (d3.setCells E 0 [.bool x.s,yS r x.n o,yi x.e,.bool y.s,yS z y.n t,yi y.e]):=de _ _ _ _;have A:d3.there E 0 6:=dD C;have cv:au (d3.setCells E 0 [.bool x.s,yS r x.n o,yi x.e,.bool y.s,yS z y.n t,yi y.e]) E 67 [.bool x.s,yS r x.n o,yi x.e,.bool y.s,yS z y.n t,yi y.e]:=C.sets _ rfl;have P:=f.rd c8 (cq c8 (Dg.norm_dg _ _ (by omega)) C (fun x d n h=>by simp at d;rcases d with rfl|rfl|rfl|rfl|rfl|rfl<;>simp;all_goals omega))
    have F:=f.rd a2 (cq a2 (Dg.norm_dg _ _ (by omega)) C (fun x d n h=>by simp at d;rcases d with rfl|rfl|rfl|rfl|rfl|rfl<;>simp;all_goals omega))
    have G:=f.rd M (cq M (Dg.norm_dg _ _ (by omega)) C (fun x d n h=>by simp at d;rcases d with rfl|rfl|rfl|rfl|rfl|rfl<;>simp;all_goals omega))
    have Q:=f.rd Z (cq Z (Dg.norm_dg _ _ (by omega)) C (fun x d n h=>by simp at d;rcases d with rfl|rfl|rfl|rfl|rfl|rfl<;>simp;all_goals omega))
    have I:=f.loc av (by omega);have J:=f.loc L (by omega);have D:=f.loc cz (by omega);have ch:=f.below dc (by omega);rw[if_pos (by kernel_rfl)];refine wp_store_mid 67 (.tmp 5) (.tmp 8) rfl E 0 #[.bool x.s,yS r x.n o,yi x.e,.bool y.s,yS z y.n t,yi y.e] (by kernel_rfl) (by kernel_rfl) A (by kernel_rfl) (by simp[Value.oneCell']) ?_;refine g.out _ _ ⟨I,J⟩ (fun eb=> ?_)
    clear g K;clear C c8 a2 M Z av L cz dc f A;change wpAnyH _ _ _ _ _ _ _ _ (World.setCells d3 E 0 [.bool x.s,yS r x.n o,yi x.e,.bool y.s,yS z y.n t,yi y.e]);generalize World.setCells d3 E 0 [.bool x.s,yS r x.n o,yi x.e,.bool y.s,yS z y.n t,yi y.e]=al at I J cv D P F G Q ch eb⊢;refine wpAnyH_ready (rs:=[7]) (by kernel_rfl) (by simp) ?_;refine AllReadyH.cons rfl (fun K g=> ?_) AllReadyH.nil
    have f:But c0 al (al.setCells c0 0 [.bool u.s,yS j u.n i,yi u.e,.bool v.s,yS m v.n k,yi v.e]):=de _ _ _ _;have A:al.there c0 0 6:=dD D;have aq:au (al.setCells c0 0 [.bool u.s,yS j u.n i,yi u.e,.bool v.s,yS m v.n k,yi v.e]) c0 67 [.bool u.s,yS j u.n i,yi u.e,.bool v.s,yS m v.n k,yi v.e]:=D.sets _ rfl;have a7:=f.rd P (cq P (Dg.norm_dg _ _ (by omega)) D (fun x d n h=>by simp at d;rcases d with rfl|rfl|rfl|rfl|rfl|rfl<;>simp;all_goals omega))
    have R:=f.rd F (cq F (Dg.norm_dg _ _ (by omega)) D (fun x d n h=>by simp at d;rcases d with rfl|rfl|rfl|rfl|rfl|rfl<;>simp;all_goals omega))
    have T:=f.rd G (cq G (Dg.norm_dg _ _ (by omega)) D (fun x d n h=>by simp at d;rcases d with rfl|rfl|rfl|rfl|rfl|rfl<;>simp;all_goals omega))
    have a8:=f.rd Q (cq Q (Dg.norm_dg _ _ (by omega)) D (fun x d n h=>by simp at d;rcases d with rfl|rfl|rfl|rfl|rfl|rfl<;>simp;all_goals omega))
    have X:=f.loc I (by omega);have Y:=f.loc J (by omega);have O:=f.loc cv (by omega);have bg:=f.below ch (by omega);rw[if_pos (by kernel_rfl)];refine wp_store_mid 67 (.tmp 6) (.tmp 10) rfl c0 0 #[.bool u.s,yS j u.n i,yi u.e,.bool v.s,yS m v.n k,yi v.e] (by kernel_rfl) (by kernel_rfl) A (by kernel_rfl) (by simp[Value.oneCell']) ?_;refine g.out _ _ ⟨X,Y⟩ (fun ga=> ?_)
    clear g K;clear D P F G Q I J cv ch f A;refine wpAnyH_done (by kernel_rfl) ?_ _;clear cp f3 fl iw f4 eb ga;change Exit.then _ _ _ _ (World.setCells al c0 0 [.bool u.s,yS j u.n i,yi u.e,.bool v.s,yS m v.n k,yi v.e]);generalize World.setCells al c0 0 [.bool u.s,yS j u.n i,yi u.e,.bool v.s,yS m v.n k,yi v.e]=i5 at X Y O aq a7 R T a8 bg⊢;simp only[Act.put,List.getElem_toArray,List.getElem_cons_succ,List.getElem_cons_zero];have cm:=O.c 0 rfl;have bi:=O.c 1 rfl;have az:=O.c 2 rfl;have b0:=aq.c 3 rfl;have bj:=aq.c 4 rfl;have cn:=aq.c 5 rfl
    go_wp2_with fail
    refine(D1.out _ _ _ _ _ bg a7 a8).mono ?_;rintro U jx ⟨rfl,an⟩;have ad:=O.l an;have ae:=aq.l an;have c9:=R.l an;have ca:=T.l an;have ci:=aa bg an;clear X Y O aq a7 R T a8 bg an D1 cm bi az b0 bj cn;have co:=ad.c 3 rfl;have bl:=ad.c 4 rfl;have ax:=ad.c 5 rfl;have ay:=ae.c 0 rfl;have bh:=ae.c 1 rfl;have cl:=ae.c 2 rfl
    go_wp2_with fail
    refine(D2.out _ _ _ _ _ ci ca c9).mono ?_;rintro U jv ⟨rfl,e8⟩;have fn:=aa ci e8;clear ad ae c9 ca ci e8 D2 co bl ax ay bh cl
    go_wp2
    go_ret
    exact⟨by simp,fn⟩
   ·go_simp
    have a4:=af el (.cells #[.bool false,yN,yi 0,.bool false,yN,yi 0] 67);have b6:=ah el [.bool false,yN,yi 0,.bool false,yN,yi 0] 67;have gd:w.heap.size≤el.heap.size:=ba.size;have ec:=W.lt;have ed:=a9.lt;have gg:=b5.lt;have H:=W.l a4;have a1:=a9.l a4;have b1:=b5.l a4;have b8:=eg.l a4;have b4:=eh.l a4;have bf:=aa ba a4;refine g.out _ _ ⟨H,a1⟩ (fun ea=> ?_)
    clear g K;clear W a9 b5 eg eh ba a4;generalize el.alloc (.cells #[.bool false,yN,yi 0,.bool false,yN,yi 0] 67)=d2 at H a1 b1 b6 b8 b4 bf ea⊢;generalize el.heap.size=a0 at b6 gd ec ed gg⊢;refine wpAnyH_ready (rs:=[3]) (by kernel_rfl) (by simp) ?_;refine AllReadyH.cons rfl (fun K g=> ?_) AllReadyH.nil
    go_simp
    refine(HQ.out _ bf).mono ?_;rintro U e3 ⟨ka,ki,rfl,fe,fi,c6⟩;have av:=H.l c6;have L:=a1.l c6;have C:=b1.l c6;have N:=b6.l c6;have a2:=b8.l c6;have M:=b4.l c6;have hh:=aa bf c6;obtain⟨j,i,B⟩:=fe.shape;subst B;obtain⟨m,k,B⟩:=fi.shape;subst B;clear H a1 b1 b6 b8 b4 bf c6 HQ;refine g.out _ _ ⟨av,L⟩ (fun j0=> ?_)
    clear g K;refine wpAnyH_ready (rs:=[6]) (by kernel_rfl) (by simp) ?_;refine AllReadyH.cons rfl (fun K g=> ?_) AllReadyH.nil
    have f:But E e3 (e3.setCells E 0 [.bool x.s,yS r x.n o,yi x.e,.bool y.s,yS z y.n t,yi y.e]):=de _ _ _ _;have A:e3.there E 0 6:=dD C;have gv:au (e3.setCells E 0 [.bool x.s,yS r x.n o,yi x.e,.bool y.s,yS z y.n t,yi y.e]) E 67 [.bool x.s,yS r x.n o,yi x.e,.bool y.s,yS z y.n t,yi y.e]:=C.sets _ rfl;have bv:=f.rd a2 (cq a2 (Dg.norm_dg _ _ (by omega)) C (fun x d n h=>by simp at d;rcases d with rfl|rfl|rfl|rfl|rfl|rfl<;>simp;all_goals omega))
    have P:=f.rd M (cq M (Dg.norm_dg _ _ (by omega)) C (fun x d n h=>by simp at d;rcases d with rfl|rfl|rfl|rfl|rfl|rfl<;>simp;all_goals omega))
    have F:=f.rd fe (cq fe (Dg.norm_dg _ _ (by omega)) C (fun x d n h=>by simp at d;rcases d with rfl|rfl|rfl|rfl|rfl|rfl<;>simp;all_goals omega))
    have G:=f.rd fi (cq fi (Dg.norm_dg _ _ (by omega)) C (fun x d n h=>by simp at d;rcases d with rfl|rfl|rfl|rfl|rfl|rfl<;>simp;all_goals omega))
    have bm:=f.loc av (by omega);have I:=f.loc L (by omega);have J:=f.loc N (by omega);have ft:=f.below hh (by omega);rw[if_pos (by kernel_rfl)];refine wp_store_mid 67 (.tmp 5) (.tmp 8) rfl E 0 #[.bool x.s,yS r x.n o,yi x.e,.bool y.s,yS z y.n t,yi y.e] (by kernel_rfl) (by kernel_rfl) A (by kernel_rfl) (by simp[Value.oneCell']) ?_;refine g.out _ _ ⟨bm,I⟩ (fun hs=> ?_)
    clear g K;clear C a2 M fe fi av L N hh f A;change wpAnyH _ _ _ _ _ _ _ _ (World.setCells e3 E 0 [.bool x.s,yS r x.n o,yi x.e,.bool y.s,yS z y.n t,yi y.e]);generalize World.setCells e3 E 0 [.bool x.s,yS r x.n o,yi x.e,.bool y.s,yS z y.n t,yi y.e]=d7 at bm I gv J bv P F G ft hs⊢;refine wpAnyH_ready (rs:=[7]) (by kernel_rfl) (by simp) ?_;refine AllReadyH.cons rfl (fun K g=> ?_) AllReadyH.nil
    have f:But a0 d7 (d7.setCells a0 0 [.bool u.s,yS j u.n i,yi u.e,.bool v.s,yS m v.n k,yi v.e]):=de _ _ _ _;have A:d7.there a0 0 6:=dD J;have dt:au (d7.setCells a0 0 [.bool u.s,yS j u.n i,yi u.e,.bool v.s,yS m v.n k,yi v.e]) a0 67 [.bool u.s,yS j u.n i,yi u.e,.bool v.s,yS m v.n k,yi v.e]:=J.sets _ rfl;have cx:=f.rd bv (cq bv (Dg.norm_dg _ _ (by omega)) J (fun x d n h=>by simp at d;rcases d with rfl|rfl|rfl|rfl|rfl|rfl<;>simp;all_goals omega))
    have a7:=f.rd P (cq P (Dg.norm_dg _ _ (by omega)) J (fun x d n h=>by simp at d;rcases d with rfl|rfl|rfl|rfl|rfl|rfl<;>simp;all_goals omega))
    have R:=f.rd F (cq F (Dg.norm_dg _ _ (by omega)) J (fun x d n h=>by simp at d;rcases d with rfl|rfl|rfl|rfl|rfl|rfl<;>simp;all_goals omega))
    have T:=f.rd G (cq G (Dg.norm_dg _ _ (by omega)) J (fun x d n h=>by simp at d;rcases d with rfl|rfl|rfl|rfl|rfl|rfl<;>simp;all_goals omega))
    have cw:=f.loc bm (by omega);have X:=f.loc I (by omega);have Y:=f.loc gv (by omega);have f0:=f.below ft (by omega);rw[if_pos (by kernel_rfl)];refine wp_store_mid 67 (.tmp 6) (.tmp 10) rfl a0 0 #[.bool u.s,yS j u.n i,yi u.e,.bool v.s,yS m v.n k,yi v.e] (by kernel_rfl) (by kernel_rfl) A (by kernel_rfl) (by simp[Value.oneCell']) ?_;refine g.out _ _ ⟨cw,X⟩ (fun j2=> ?_)
    clear g K;clear J bv P F G bm I gv ft f A;refine wpAnyH_done (by kernel_rfl) ?_ _;clear cp f3 fl ea j0 hs j2;change Exit.then _ _ _ _ (World.setCells d7 a0 0 [.bool u.s,yS j u.n i,yi u.e,.bool v.s,yS m v.n k,yi v.e]);generalize World.setCells d7 a0 0 [.bool u.s,yS j u.n i,yi u.e,.bool v.s,yS m v.n k,yi v.e]=k0 at cw X Y dt cx a7 R T f0⊢;simp only[Act.put,List.getElem_toArray,List.getElem_cons_succ,List.getElem_cons_zero];have g5:=Y.c 0 rfl;have cm:=Y.c 1 rfl;have bi:=Y.c 2 rfl;have az:=dt.c 3 rfl;have b0:=dt.c 4 rfl;have bj:=dt.c 5 rfl
    go_wp2_with fail
    refine(D1.out _ _ _ _ _ f0 cx T).mono ?_;rintro U kv ⟨rfl,dn⟩;have bn:=Y.l dn;have ad:=dt.l dn;have ej:=a7.l dn;have c9:=R.l dn;have g1:=aa f0 dn;clear cw X Y dt cx a7 R T f0 dn D1 g5 cm bi az b0 bj;have g7:=bn.c 3 rfl;have co:=bn.c 4 rfl;have bl:=bn.c 5 rfl;have ax:=ad.c 0 rfl;have ay:=ad.c 1 rfl;have bh:=ad.c 2 rfl
    go_wp2_with fail
    refine(D2.out _ _ _ _ _ g1 c9 ej).mono ?_;rintro U km ⟨rfl,hj⟩;have i7:=aa g1 hj;clear bn ad ej c9 g1 hj D2 g7 co bl ax ay bh
    go_wp2
    go_ret
    exact⟨by simp,i7⟩
  ·go_simp
   have e7:=af e5 (.cells #[.bool false,yN,yi 0,.bool false,yN,yi 0] 67);have f6:=ah e5 [.bool false,yN,yi 0,.bool false,yN,yi 0] 67;have gb:w.heap.size≤e5.heap.size:=cd.size;have gc:=ar.lt;have je:=cs.lt;have jh:=cr.lt;have b5:=ar.l e7;have f7:=cs.l e7;have gp:=cr.l e7;have ev:=aa cd e7;refine g.out _ _ ⟨b5,f7⟩ (fun hm=> ?_)
   clear g K;clear ar cs cr cd e7;generalize e5.alloc (.cells #[.bool false,yN,yi 0,.bool false,yN,yi 0] 67)=k3 at b5 f7 gp f6 ev hm⊢;generalize e5.heap.size=bx at f6 gb gc je jh⊢;refine wpAnyH_ready (rs:=[1]) (by kernel_rfl) (by simp) ?_;refine AllReadyH.cons rfl (fun K g=> ?_) AllReadyH.nil
   go_simp
   refine(HO.out _ ev).mono ?_;rintro U ks ⟨k8,kf,rfl,h5,h9,dd⟩;have H:=b5.l dd;have a1:=f7.l dd;have b1:=gp.l dd;have ds:=f6.l dd;have cg:=aa ev dd;obtain⟨r,o,B⟩:=h5.shape;subst B;obtain⟨z,t,B⟩:=h9.shape;subst B;clear b5 f7 gp f6 ev dd HO;refine g.out _ _ ⟨H,a1⟩ (fun g9=> ?_)
   clear g K;refine wpAnyH_ready (rs:=[3]) (by kernel_rfl) (by simp) ?_;refine AllReadyH.cons rfl (fun K g=> ?_) AllReadyH.nil
   go_simp
   refine(HQ.out _ cg).mono ?_;rintro U e2 ⟨k9,kh,rfl,fd,fg,c5⟩;have gq:=H.l c5;have av:=a1.l c5;have L:=b1.l c5;have C:=ds.l c5;have c8:=h5.l c5;have a2:=h9.l c5;have hg:=aa cg c5;obtain⟨j,i,B⟩:=fd.shape;subst B;obtain⟨m,k,B⟩:=fg.shape;subst B;clear H a1 b1 ds h5 h9 cg c5 HQ;refine g.out _ _ ⟨gq,av⟩ (fun iz=> ?_)
   clear g K;refine wpAnyH_ready (rs:=[6]) (by kernel_rfl) (by simp) ?_;refine AllReadyH.cons rfl (fun K g=> ?_) AllReadyH.nil
   have f:But E e2 (e2.setCells E 0 [.bool x.s,yS r x.n o,yi x.e,.bool y.s,yS z y.n t,yi y.e]):=de _ _ _ _;have A:e2.there E 0 6:=dD L;have gr:au (e2.setCells E 0 [.bool x.s,yS r x.n o,yi x.e,.bool y.s,yS z y.n t,yi y.e]) E 67 [.bool x.s,yS r x.n o,yi x.e,.bool y.s,yS z y.n t,yi y.e]:=L.sets _ rfl;have bt:=f.rd c8 (cq c8 (Dg.norm_dg _ _ (by omega)) L (fun x d n h=>by simp at d;rcases d with rfl|rfl|rfl|rfl|rfl|rfl<;>simp;all_goals omega))
   have bv:=f.rd a2 (cq a2 (Dg.norm_dg _ _ (by omega)) L (fun x d n h=>by simp at d;rcases d with rfl|rfl|rfl|rfl|rfl|rfl<;>simp;all_goals omega))
   have P:=f.rd fd (cq fd (Dg.norm_dg _ _ (by omega)) L (fun x d n h=>by simp at d;rcases d with rfl|rfl|rfl|rfl|rfl|rfl<;>simp;all_goals omega))
   have F:=f.rd fg (cq fg (Dg.norm_dg _ _ (by omega)) L (fun x d n h=>by simp at d;rcases d with rfl|rfl|rfl|rfl|rfl|rfl<;>simp;all_goals omega))
   have fa:=f.loc gq (by omega);have bm:=f.loc av (by omega);have I:=f.loc C (by omega);have fs:=f.below hg (by omega);rw[if_pos (by kernel_rfl)];refine wp_store_mid 67 (.tmp 5) (.tmp 8) rfl E 0 #[.bool x.s,yS r x.n o,yi x.e,.bool y.s,yS z y.n t,yi y.e] (by kernel_rfl) (by kernel_rfl) A (by kernel_rfl) (by simp[Value.oneCell']) ?_;refine g.out _ _ ⟨fa,bm⟩ (fun hr=> ?_)
   clear g K;clear L c8 a2 fd fg gq av C hg f A;change wpAnyH _ _ _ _ _ _ _ _ (World.setCells e2 E 0 [.bool x.s,yS r x.n o,yi x.e,.bool y.s,yS z y.n t,yi y.e]);generalize World.setCells e2 E 0 [.bool x.s,yS r x.n o,yi x.e,.bool y.s,yS z y.n t,yi y.e]=d6 at fa bm gr I bt bv P F fs hr⊢;refine wpAnyH_ready (rs:=[7]) (by kernel_rfl) (by simp) ?_;refine AllReadyH.cons rfl (fun K g=> ?_) AllReadyH.nil
   have f:But bx d6 (d6.setCells bx 0 [.bool u.s,yS j u.n i,yi u.e,.bool v.s,yS m v.n k,yi v.e]):=de _ _ _ _;have A:d6.there bx 0 6:=dD I;have a6:au (d6.setCells bx 0 [.bool u.s,yS j u.n i,yi u.e,.bool v.s,yS m v.n k,yi v.e]) bx 67 [.bool u.s,yS j u.n i,yi u.e,.bool v.s,yS m v.n k,yi v.e]:=I.sets _ rfl;have hb:=f.rd bt (cq bt (Dg.norm_dg _ _ (by omega)) I (fun x d n h=>by simp at d;rcases d with rfl|rfl|rfl|rfl|rfl|rfl<;>simp;all_goals omega))
   have cx:=f.rd bv (cq bv (Dg.norm_dg _ _ (by omega)) I (fun x d n h=>by simp at d;rcases d with rfl|rfl|rfl|rfl|rfl|rfl<;>simp;all_goals omega))
   have a7:=f.rd P (cq P (Dg.norm_dg _ _ (by omega)) I (fun x d n h=>by simp at d;rcases d with rfl|rfl|rfl|rfl|rfl|rfl<;>simp;all_goals omega))
   have R:=f.rd F (cq F (Dg.norm_dg _ _ (by omega)) I (fun x d n h=>by simp at d;rcases d with rfl|rfl|rfl|rfl|rfl|rfl<;>simp;all_goals omega))
   have gz:=f.loc fa (by omega);have cw:=f.loc bm (by omega);have X:=f.loc gr (by omega);have ey:=f.below fs (by omega);rw[if_pos (by kernel_rfl)];refine wp_store_mid 67 (.tmp 6) (.tmp 10) rfl bx 0 #[.bool u.s,yS j u.n i,yi u.e,.bool v.s,yS m v.n k,yi v.e] (by kernel_rfl) (by kernel_rfl) A (by kernel_rfl) (by simp[Value.oneCell']) ?_;refine g.out _ _ ⟨gz,cw⟩ (fun j1=> ?_)
   clear g K;clear I bt bv P F fa bm gr fs f A;refine wpAnyH_done (by kernel_rfl) ?_ _;clear cp f3 hm g9 iz hr j1;change Exit.then _ _ _ _ (World.setCells d6 bx 0 [.bool u.s,yS j u.n i,yi u.e,.bool v.s,yS m v.n k,yi v.e]);generalize World.setCells d6 bx 0 [.bool u.s,yS j u.n i,yi u.e,.bool v.s,yS m v.n k,yi v.e]=jy at gz cw X a6 hb cx a7 R ey⊢;simp only[Act.put,List.getElem_toArray,List.getElem_cons_succ,List.getElem_cons_zero];have ir:=X.c 0 rfl;have g5:=X.c 1 rfl;have cm:=X.c 2 rfl;have bi:=a6.c 3 rfl;have az:=a6.c 4 rfl;have b0:=a6.c 5 rfl
   go_wp2_with fail
   refine(D1.out _ _ _ _ _ ey hb R).mono ?_;rintro U ku ⟨rfl,dl⟩;have fb:=X.l dl;have bn:=a6.l dl;have hz:=cx.l dl;have ej:=a7.l dl;have g0:=aa ey dl;clear gz cw X a6 hb cx a7 R ey dl D1 ir g5 cm bi az b0;have iv:=fb.c 3 rfl;have g7:=fb.c 4 rfl;have co:=fb.c 5 rfl;have bl:=bn.c 0 rfl;have ax:=bn.c 1 rfl;have ay:=bn.c 2 rfl
   go_wp2_with fail
   refine(D2.out _ _ _ _ _ g0 ej hz).mono ?_;rintro U kl ⟨rfl,hi⟩;have i6:=aa g0 hi;clear fb bn hz ej g0 hi D2 iv g7 co bl ax ay
   go_wp2
   go_ret
   exact⟨by simp,i6⟩
 ·go_simp
  have et:=af eo (.cells #[.bool false,yN,yi 0,.bool false,yN,yi 0] 67);have cr:=ah eo [.bool false,yN,yi 0,.bool false,yN,yi 0] 67;have j5:w.heap.size≤eo.heap.size:=b9.size;have j6:=q7.lt;have jb:=q8.lt;have ar:=q7.l et;have cs:=q8.l et;have cd:=aa b9 et;refine g.out _ _ ⟨ar,cs⟩ (fun f3=> ?_)
  clear g K;clear q7 q8 b9 et;generalize eo.alloc (.cells #[.bool false,yN,yi 0,.bool false,yN,yi 0] 67)=e5 at ar cs cr cd f3⊢;generalize eo.heap.size=E at cr j5 j6 jb⊢;refine wpAnyH_ready (rs:=[1,4]) (by kernel_rfl) (by simp) ?_;refine AllReadyH.cons rfl (fun K g=> ?_) (AllReadyH.cons rfl (fun K g=> ?_) AllReadyH.nil)
  ·go_simp
   refine(HO.out _ cd).mono ?_;rintro U el ⟨k5,kc,rfl,eg,eh,e9⟩;have W:=ar.l e9;have a9:=cs.l e9;have b5:=cr.l e9;have ba:=aa cd e9;obtain⟨r,o,B⟩:=eg.shape;subst B;obtain⟨z,t,B⟩:=eh.shape;subst B;clear ar cs cr cd e9 HO;refine g.out _ _ ⟨W,a9⟩ (fun fl=> ?_)
   clear g K;refine wpAnyH_ready (rs:=[3,4]) (by kernel_rfl) (by simp) ?_;refine AllReadyH.cons rfl (fun K g=> ?_) (AllReadyH.cons rfl (fun K g=> ?_) AllReadyH.nil)
   ·go_simp
    refine(HQ.out _ ba).mono ?_;rintro U em ⟨k6,kd,rfl,h3,h7,cj⟩;have f9:=W.l cj;have a5:=a9.l cj;have H:=b5.l cj;have e1:=eg.l cj;have bq:=eh.l cj;have fo:=aa ba cj;obtain⟨j,i,B⟩:=h3.shape;subst B;obtain⟨m,k,B⟩:=h7.shape;subst B;clear W a9 b5 eg eh ba cj HQ;refine g.out _ _ ⟨f9,a5⟩ (fun iw=> ?_)
    clear g K;refine wpAnyH_ready (rs:=[4]) (by kernel_rfl) (by simp) ?_;refine AllReadyH.cons rfl (fun K g=> ?_) AllReadyH.nil
    go_simp
    have bb:=af em (.cells #[.bool false,yN,yi 0,.bool false,yN,yi 0] 67);have cz:=ah em [.bool false,yN,yi 0,.bool false,yN,yi 0] 67;have jk:w.heap.size≤em.heap.size:=fo.size;have gi:=f9.lt;have ee:=a5.lt;have ef:=H.lt;have av:=f9.l bb;have L:=a5.l bb;have C:=H.l bb;have c8:=e1.l bb;have a2:=bq.l bb;have M:=h3.l bb;have Z:=h7.l bb;have dc:=aa fo bb;refine g.out _ _ ⟨av,L⟩ (fun f4=> ?_)
    clear g K;clear f9 a5 H e1 bq h3 h7 fo bb;generalize em.alloc (.cells #[.bool false,yN,yi 0,.bool false,yN,yi 0] 67)=d3 at av L C cz c8 a2 M Z dc f4⊢;generalize em.heap.size=c0 at cz jk gi ee ef⊢;refine wpAnyH_ready (rs:=[6]) (by kernel_rfl) (by simp) ?_;refine AllReadyH.cons rfl (fun K g=> ?_) AllReadyH.nil
    have f:But c0 d3 (d3.setCells c0 0 [.bool x.s,yS r x.n o,yi x.e,.bool y.s,yS z y.n t,yi y.e]):=de _ _ _ _;have A:d3.there c0 0 6:=dD cz;have cv:au (d3.setCells c0 0 [.bool x.s,yS r x.n o,yi x.e,.bool y.s,yS z y.n t,yi y.e]) c0 67 [.bool x.s,yS r x.n o,yi x.e,.bool y.s,yS z y.n t,yi y.e]:=cz.sets _ rfl;have P:=f.rd c8 (cq c8 (Dg.norm_dg _ _ (by omega)) cz (fun x d n h=>by simp at d;rcases d with rfl|rfl|rfl|rfl|rfl|rfl<;>simp;all_goals omega))
    have F:=f.rd a2 (cq a2 (Dg.norm_dg _ _ (by omega)) cz (fun x d n h=>by simp at d;rcases d with rfl|rfl|rfl|rfl|rfl|rfl<;>simp;all_goals omega))
    have G:=f.rd M (cq M (Dg.norm_dg _ _ (by omega)) cz (fun x d n h=>by simp at d;rcases d with rfl|rfl|rfl|rfl|rfl|rfl<;>simp;all_goals omega))
    have Q:=f.rd Z (cq Z (Dg.norm_dg _ _ (by omega)) cz (fun x d n h=>by simp at d;rcases d with rfl|rfl|rfl|rfl|rfl|rfl<;>simp;all_goals omega))
    have I:=f.loc av (by omega);have J:=f.loc L (by omega);have D:=f.loc C (by omega);have ch:=f.below dc (by omega);rw[if_pos (by kernel_rfl)];refine wp_store_mid 67 (.tmp 5) (.tmp 8) rfl c0 0 #[.bool x.s,yS r x.n o,yi x.e,.bool y.s,yS z y.n t,yi y.e] (by kernel_rfl) (by kernel_rfl) A (by kernel_rfl) (by simp[Value.oneCell']) ?_;refine g.out _ _ ⟨I,J⟩ (fun eb=> ?_)
    clear g K;clear cz c8 a2 M Z av L C dc f A;change wpAnyH _ _ _ _ _ _ _ _ (World.setCells d3 c0 0 [.bool x.s,yS r x.n o,yi x.e,.bool y.s,yS z y.n t,yi y.e]);generalize World.setCells d3 c0 0 [.bool x.s,yS r x.n o,yi x.e,.bool y.s,yS z y.n t,yi y.e]=al at I J D cv P F G Q ch eb⊢;refine wpAnyH_ready (rs:=[7]) (by kernel_rfl) (by simp) ?_;refine AllReadyH.cons rfl (fun K g=> ?_) AllReadyH.nil
    have f:But E al (al.setCells E 0 [.bool u.s,yS j u.n i,yi u.e,.bool v.s,yS m v.n k,yi v.e]):=de _ _ _ _;have A:al.there E 0 6:=dD D;have aq:au (al.setCells E 0 [.bool u.s,yS j u.n i,yi u.e,.bool v.s,yS m v.n k,yi v.e]) E 67 [.bool u.s,yS j u.n i,yi u.e,.bool v.s,yS m v.n k,yi v.e]:=D.sets _ rfl;have a7:=f.rd P (cq P (Dg.norm_dg _ _ (by omega)) D (fun x d n h=>by simp at d;rcases d with rfl|rfl|rfl|rfl|rfl|rfl<;>simp;all_goals omega))
    have R:=f.rd F (cq F (Dg.norm_dg _ _ (by omega)) D (fun x d n h=>by simp at d;rcases d with rfl|rfl|rfl|rfl|rfl|rfl<;>simp;all_goals omega))
    have T:=f.rd G (cq G (Dg.norm_dg _ _ (by omega)) D (fun x d n h=>by simp at d;rcases d with rfl|rfl|rfl|rfl|rfl|rfl<;>simp;all_goals omega))
    have a8:=f.rd Q (cq Q (Dg.norm_dg _ _ (by omega)) D (fun x d n h=>by simp at d;rcases d with rfl|rfl|rfl|rfl|rfl|rfl<;>simp;all_goals omega))
    have X:=f.loc I (by omega);have Y:=f.loc J (by omega);have O:=f.loc cv (by omega);have bg:=f.below ch (by omega);rw[if_pos (by kernel_rfl)];refine wp_store_mid 67 (.tmp 6) (.tmp 10) rfl E 0 #[.bool u.s,yS j u.n i,yi u.e,.bool v.s,yS m v.n k,yi v.e] (by kernel_rfl) (by kernel_rfl) A (by kernel_rfl) (by simp[Value.oneCell']) ?_;refine g.out _ _ ⟨X,Y⟩ (fun ga=> ?_)
    clear g K;clear D P F G Q I J cv ch f A;refine wpAnyH_done (by kernel_rfl) ?_ _;clear cp f3 fl iw f4 eb ga;change Exit.then _ _ _ _ (World.setCells al E 0 [.bool u.s,yS j u.n i,yi u.e,.bool v.s,yS m v.n k,yi v.e]);generalize World.setCells al E 0 [.bool u.s,yS j u.n i,yi u.e,.bool v.s,yS m v.n k,yi v.e]=i5 at X Y aq O a7 R T a8 bg⊢;simp only[Act.put,List.getElem_toArray,List.getElem_cons_succ,List.getElem_cons_zero];have cm:=aq.c 3 rfl;have bi:=aq.c 4 rfl;have az:=aq.c 5 rfl;have b0:=O.c 0 rfl;have bj:=O.c 1 rfl;have cn:=O.c 2 rfl
    go_wp2_with fail
    refine(D1.out _ _ _ _ _ bg a7 a8).mono ?_;rintro U jx ⟨rfl,an⟩;have ad:=aq.l an;have ae:=O.l an;have c9:=R.l an;have ca:=T.l an;have ci:=aa bg an;clear X Y aq O a7 R T a8 bg an D1 cm bi az b0 bj cn;have co:=ad.c 0 rfl;have bl:=ad.c 1 rfl;have ax:=ad.c 2 rfl;have ay:=ae.c 3 rfl;have bh:=ae.c 4 rfl;have cl:=ae.c 5 rfl
    go_wp2_with fail
    refine(D2.out _ _ _ _ _ ci ca c9).mono ?_;rintro U jv ⟨rfl,e8⟩;have fn:=aa ci e8;clear ad ae c9 ca ci e8 D2 co bl ax ay bh cl
    go_wp2
    go_ret
    exact⟨by simp,fn⟩
   ·go_simp
    have a4:=af el (.cells #[.bool false,yN,yi 0,.bool false,yN,yi 0] 67);have b6:=ah el [.bool false,yN,yi 0,.bool false,yN,yi 0] 67;have gd:w.heap.size≤el.heap.size:=ba.size;have ec:=W.lt;have ed:=a9.lt;have gg:=b5.lt;have H:=W.l a4;have a1:=a9.l a4;have b1:=b5.l a4;have b8:=eg.l a4;have b4:=eh.l a4;have bf:=aa ba a4;refine g.out _ _ ⟨H,a1⟩ (fun ea=> ?_)
    clear g K;clear W a9 b5 eg eh ba a4;generalize el.alloc (.cells #[.bool false,yN,yi 0,.bool false,yN,yi 0] 67)=d2 at H a1 b1 b6 b8 b4 bf ea⊢;generalize el.heap.size=a0 at b6 gd ec ed gg⊢;refine wpAnyH_ready (rs:=[3]) (by kernel_rfl) (by simp) ?_;refine AllReadyH.cons rfl (fun K g=> ?_) AllReadyH.nil
    go_simp
    refine(HQ.out _ bf).mono ?_;rintro U e3 ⟨ka,ki,rfl,fe,fi,c6⟩;have av:=H.l c6;have L:=a1.l c6;have C:=b1.l c6;have N:=b6.l c6;have a2:=b8.l c6;have M:=b4.l c6;have hh:=aa bf c6;obtain⟨j,i,B⟩:=fe.shape;subst B;obtain⟨m,k,B⟩:=fi.shape;subst B;clear H a1 b1 b6 b8 b4 bf c6 HQ;refine g.out _ _ ⟨av,L⟩ (fun j0=> ?_)
    clear g K;refine wpAnyH_ready (rs:=[6]) (by kernel_rfl) (by simp) ?_;refine AllReadyH.cons rfl (fun K g=> ?_) AllReadyH.nil
    have f:But a0 e3 (e3.setCells a0 0 [.bool x.s,yS r x.n o,yi x.e,.bool y.s,yS z y.n t,yi y.e]):=de _ _ _ _;have A:e3.there a0 0 6:=dD N;have gv:au (e3.setCells a0 0 [.bool x.s,yS r x.n o,yi x.e,.bool y.s,yS z y.n t,yi y.e]) a0 67 [.bool x.s,yS r x.n o,yi x.e,.bool y.s,yS z y.n t,yi y.e]:=N.sets _ rfl;have bv:=f.rd a2 (cq a2 (Dg.norm_dg _ _ (by omega)) N (fun x d n h=>by simp at d;rcases d with rfl|rfl|rfl|rfl|rfl|rfl<;>simp;all_goals omega))
    have P:=f.rd M (cq M (Dg.norm_dg _ _ (by omega)) N (fun x d n h=>by simp at d;rcases d with rfl|rfl|rfl|rfl|rfl|rfl<;>simp;all_goals omega))
    have F:=f.rd fe (cq fe (Dg.norm_dg _ _ (by omega)) N (fun x d n h=>by simp at d;rcases d with rfl|rfl|rfl|rfl|rfl|rfl<;>simp;all_goals omega))
    have G:=f.rd fi (cq fi (Dg.norm_dg _ _ (by omega)) N (fun x d n h=>by simp at d;rcases d with rfl|rfl|rfl|rfl|rfl|rfl<;>simp;all_goals omega))
    have bm:=f.loc av (by omega);have I:=f.loc L (by omega);have J:=f.loc C (by omega);have ft:=f.below hh (by omega);rw[if_pos (by kernel_rfl)];refine wp_store_mid 67 (.tmp 5) (.tmp 8) rfl a0 0 #[.bool x.s,yS r x.n o,yi x.e,.bool y.s,yS z y.n t,yi y.e] (by kernel_rfl) (by kernel_rfl) A (by kernel_rfl) (by simp[Value.oneCell']) ?_;refine g.out _ _ ⟨bm,I⟩ (fun hs=> ?_)
    clear g K;clear N a2 M fe fi av L C hh f A;change wpAnyH _ _ _ _ _ _ _ _ (World.setCells e3 a0 0 [.bool x.s,yS r x.n o,yi x.e,.bool y.s,yS z y.n t,yi y.e]);generalize World.setCells e3 a0 0 [.bool x.s,yS r x.n o,yi x.e,.bool y.s,yS z y.n t,yi y.e]=d7 at bm I J gv bv P F G ft hs⊢;refine wpAnyH_ready (rs:=[7]) (by kernel_rfl) (by simp) ?_;refine AllReadyH.cons rfl (fun K g=> ?_) AllReadyH.nil
    have f:But E d7 (d7.setCells E 0 [.bool u.s,yS j u.n i,yi u.e,.bool v.s,yS m v.n k,yi v.e]):=de _ _ _ _;have A:d7.there E 0 6:=dD J;have dt:au (d7.setCells E 0 [.bool u.s,yS j u.n i,yi u.e,.bool v.s,yS m v.n k,yi v.e]) E 67 [.bool u.s,yS j u.n i,yi u.e,.bool v.s,yS m v.n k,yi v.e]:=J.sets _ rfl;have cx:=f.rd bv (cq bv (Dg.norm_dg _ _ (by omega)) J (fun x d n h=>by simp at d;rcases d with rfl|rfl|rfl|rfl|rfl|rfl<;>simp;all_goals omega))
    have a7:=f.rd P (cq P (Dg.norm_dg _ _ (by omega)) J (fun x d n h=>by simp at d;rcases d with rfl|rfl|rfl|rfl|rfl|rfl<;>simp;all_goals omega))
    have R:=f.rd F (cq F (Dg.norm_dg _ _ (by omega)) J (fun x d n h=>by simp at d;rcases d with rfl|rfl|rfl|rfl|rfl|rfl<;>simp;all_goals omega))
    have T:=f.rd G (cq G (Dg.norm_dg _ _ (by omega)) J (fun x d n h=>by simp at d;rcases d with rfl|rfl|rfl|rfl|rfl|rfl<;>simp;all_goals omega))
    have cw:=f.loc bm (by omega);have X:=f.loc I (by omega);have Y:=f.loc gv (by omega);have f0:=f.below ft (by omega);rw[if_pos (by kernel_rfl)];refine wp_store_mid 67 (.tmp 6) (.tmp 10) rfl E 0 #[.bool u.s,yS j u.n i,yi u.e,.bool v.s,yS m v.n k,yi v.e] (by kernel_rfl) (by kernel_rfl) A (by kernel_rfl) (by simp[Value.oneCell']) ?_;refine g.out _ _ ⟨cw,X⟩ (fun j2=> ?_)
    clear g K;clear J bv P F G bm I gv ft f A;refine wpAnyH_done (by kernel_rfl) ?_ _;clear cp f3 fl ea j0 hs j2;change Exit.then _ _ _ _ (World.setCells d7 E 0 [.bool u.s,yS j u.n i,yi u.e,.bool v.s,yS m v.n k,yi v.e]);generalize World.setCells d7 E 0 [.bool u.s,yS j u.n i,yi u.e,.bool v.s,yS m v.n k,yi v.e]=k0 at cw X dt Y cx a7 R T f0⊢;simp only[Act.put,List.getElem_toArray,List.getElem_cons_succ,List.getElem_cons_zero];have g5:=dt.c 3 rfl;have cm:=dt.c 4 rfl;have bi:=dt.c 5 rfl;have az:=Y.c 0 rfl;have b0:=Y.c 1 rfl;have bj:=Y.c 2 rfl
    go_wp2_with fail
    refine(D1.out _ _ _ _ _ f0 cx T).mono ?_;rintro U kv ⟨rfl,dn⟩;have bn:=dt.l dn;have ad:=Y.l dn;have ej:=a7.l dn;have c9:=R.l dn;have g1:=aa f0 dn;clear cw X dt Y cx a7 R T f0 dn D1 g5 cm bi az b0 bj;have g7:=bn.c 0 rfl;have co:=bn.c 1 rfl;have bl:=bn.c 2 rfl;have ax:=ad.c 3 rfl;have ay:=ad.c 4 rfl;have bh:=ad.c 5 rfl
    go_wp2_with fail
    refine(D2.out _ _ _ _ _ g1 c9 ej).mono ?_;rintro U km ⟨rfl,hj⟩;have i7:=aa g1 hj;clear bn ad ej c9 g1 hj D2 g7 co bl ax ay bh
    go_wp2
    go_ret
    exact⟨by simp,i7⟩
  ·go_simp
   have e7:=af e5 (.cells #[.bool false,yN,yi 0,.bool false,yN,yi 0] 67);have f6:=ah e5 [.bool false,yN,yi 0,.bool false,yN,yi 0] 67;have gb:w.heap.size≤e5.heap.size:=cd.size;have gc:=ar.lt;have je:=cs.lt;have jh:=cr.lt;have b5:=ar.l e7;have f7:=cs.l e7;have gp:=cr.l e7;have ev:=aa cd e7;refine g.out _ _ ⟨b5,f7⟩ (fun hm=> ?_)
   clear g K;clear ar cs cr cd e7;generalize e5.alloc (.cells #[.bool false,yN,yi 0,.bool false,yN,yi 0] 67)=k3 at b5 f7 gp f6 ev hm⊢;generalize e5.heap.size=bx at f6 gb gc je jh⊢;refine wpAnyH_ready (rs:=[1]) (by kernel_rfl) (by simp) ?_;refine AllReadyH.cons rfl (fun K g=> ?_) AllReadyH.nil
   go_simp
   refine(HO.out _ ev).mono ?_;rintro U ks ⟨k8,kf,rfl,h5,h9,dd⟩;have H:=b5.l dd;have a1:=f7.l dd;have b1:=gp.l dd;have ds:=f6.l dd;have cg:=aa ev dd;obtain⟨r,o,B⟩:=h5.shape;subst B;obtain⟨z,t,B⟩:=h9.shape;subst B;clear b5 f7 gp f6 ev dd HO;refine g.out _ _ ⟨H,a1⟩ (fun g9=> ?_)
   clear g K;refine wpAnyH_ready (rs:=[3]) (by kernel_rfl) (by simp) ?_;refine AllReadyH.cons rfl (fun K g=> ?_) AllReadyH.nil
   go_simp
   refine(HQ.out _ cg).mono ?_;rintro U e2 ⟨k9,kh,rfl,fd,fg,c5⟩;have gq:=H.l c5;have av:=a1.l c5;have L:=b1.l c5;have C:=ds.l c5;have c8:=h5.l c5;have a2:=h9.l c5;have hg:=aa cg c5;obtain⟨j,i,B⟩:=fd.shape;subst B;obtain⟨m,k,B⟩:=fg.shape;subst B;clear H a1 b1 ds h5 h9 cg c5 HQ;refine g.out _ _ ⟨gq,av⟩ (fun iz=> ?_)
   clear g K;refine wpAnyH_ready (rs:=[6]) (by kernel_rfl) (by simp) ?_;refine AllReadyH.cons rfl (fun K g=> ?_) AllReadyH.nil
   have f:But bx e2 (e2.setCells bx 0 [.bool x.s,yS r x.n o,yi x.e,.bool y.s,yS z y.n t,yi y.e]):=de _ _ _ _;have A:e2.there bx 0 6:=dD C;have gr:au (e2.setCells bx 0 [.bool x.s,yS r x.n o,yi x.e,.bool y.s,yS z y.n t,yi y.e]) bx 67 [.bool x.s,yS r x.n o,yi x.e,.bool y.s,yS z y.n t,yi y.e]:=C.sets _ rfl;have bt:=f.rd c8 (cq c8 (Dg.norm_dg _ _ (by omega)) C (fun x d n h=>by simp at d;rcases d with rfl|rfl|rfl|rfl|rfl|rfl<;>simp;all_goals omega))
   have bv:=f.rd a2 (cq a2 (Dg.norm_dg _ _ (by omega)) C (fun x d n h=>by simp at d;rcases d with rfl|rfl|rfl|rfl|rfl|rfl<;>simp;all_goals omega))
   have P:=f.rd fd (cq fd (Dg.norm_dg _ _ (by omega)) C (fun x d n h=>by simp at d;rcases d with rfl|rfl|rfl|rfl|rfl|rfl<;>simp;all_goals omega))
   have F:=f.rd fg (cq fg (Dg.norm_dg _ _ (by omega)) C (fun x d n h=>by simp at d;rcases d with rfl|rfl|rfl|rfl|rfl|rfl<;>simp;all_goals omega))
   have fa:=f.loc gq (by omega);have bm:=f.loc av (by omega);have I:=f.loc L (by omega);have fs:=f.below hg (by omega);rw[if_pos (by kernel_rfl)];refine wp_store_mid 67 (.tmp 5) (.tmp 8) rfl bx 0 #[.bool x.s,yS r x.n o,yi x.e,.bool y.s,yS z y.n t,yi y.e] (by kernel_rfl) (by kernel_rfl) A (by kernel_rfl) (by simp[Value.oneCell']) ?_;refine g.out _ _ ⟨fa,bm⟩ (fun hr=> ?_)
   clear g K;clear C c8 a2 fd fg gq av L hg f A;change wpAnyH _ _ _ _ _ _ _ _ (World.setCells e2 bx 0 [.bool x.s,yS r x.n o,yi x.e,.bool y.s,yS z y.n t,yi y.e]);generalize World.setCells e2 bx 0 [.bool x.s,yS r x.n o,yi x.e,.bool y.s,yS z y.n t,yi y.e]=d6 at fa bm I gr bt bv P F fs hr⊢;refine wpAnyH_ready (rs:=[7]) (by kernel_rfl) (by simp) ?_;refine AllReadyH.cons rfl (fun K g=> ?_) AllReadyH.nil
   have f:But E d6 (d6.setCells E 0 [.bool u.s,yS j u.n i,yi u.e,.bool v.s,yS m v.n k,yi v.e]):=de _ _ _ _;have A:d6.there E 0 6:=dD I;have a6:au (d6.setCells E 0 [.bool u.s,yS j u.n i,yi u.e,.bool v.s,yS m v.n k,yi v.e]) E 67 [.bool u.s,yS j u.n i,yi u.e,.bool v.s,yS m v.n k,yi v.e]:=I.sets _ rfl;have hb:=f.rd bt (cq bt (Dg.norm_dg _ _ (by omega)) I (fun x d n h=>by simp at d;rcases d with rfl|rfl|rfl|rfl|rfl|rfl<;>simp;all_goals omega))
   have cx:=f.rd bv (cq bv (Dg.norm_dg _ _ (by omega)) I (fun x d n h=>by simp at d;rcases d with rfl|rfl|rfl|rfl|rfl|rfl<;>simp;all_goals omega))
   have a7:=f.rd P (cq P (Dg.norm_dg _ _ (by omega)) I (fun x d n h=>by simp at d;rcases d with rfl|rfl|rfl|rfl|rfl|rfl<;>simp;all_goals omega))
   have R:=f.rd F (cq F (Dg.norm_dg _ _ (by omega)) I (fun x d n h=>by simp at d;rcases d with rfl|rfl|rfl|rfl|rfl|rfl<;>simp;all_goals omega))
   have gz:=f.loc fa (by omega);have cw:=f.loc bm (by omega);have X:=f.loc gr (by omega);have ey:=f.below fs (by omega);rw[if_pos (by kernel_rfl)];refine wp_store_mid 67 (.tmp 6) (.tmp 10) rfl E 0 #[.bool u.s,yS j u.n i,yi u.e,.bool v.s,yS m v.n k,yi v.e] (by kernel_rfl) (by kernel_rfl) A (by kernel_rfl) (by simp[Value.oneCell']) ?_;refine g.out _ _ ⟨gz,cw⟩ (fun j1=> ?_)
   clear g K;clear I bt bv P F fa bm gr fs f A;refine wpAnyH_done (by kernel_rfl) ?_ _;clear cp f3 hm g9 iz hr j1;change Exit.then _ _ _ _ (World.setCells d6 E 0 [.bool u.s,yS j u.n i,yi u.e,.bool v.s,yS m v.n k,yi v.e]);generalize World.setCells d6 E 0 [.bool u.s,yS j u.n i,yi u.e,.bool v.s,yS m v.n k,yi v.e]=jy at gz cw a6 X hb cx a7 R ey⊢;simp only[Act.put,List.getElem_toArray,List.getElem_cons_succ,List.getElem_cons_zero];have ir:=a6.c 3 rfl;have g5:=a6.c 4 rfl;have cm:=a6.c 5 rfl;have bi:=X.c 0 rfl;have az:=X.c 1 rfl;have b0:=X.c 2 rfl
   go_wp2_with fail
   refine(D1.out _ _ _ _ _ ey hb R).mono ?_;rintro U ku ⟨rfl,dl⟩;have fb:=a6.l dl;have bn:=X.l dl;have hz:=cx.l dl;have ej:=a7.l dl;have g0:=aa ey dl;clear gz cw a6 X hb cx a7 R ey dl D1 ir g5 cm bi az b0;have iv:=fb.c 0 rfl;have g7:=fb.c 1 rfl;have co:=fb.c 2 rfl;have bl:=bn.c 3 rfl;have ax:=bn.c 4 rfl;have ay:=bn.c 5 rfl
   go_wp2_with fail
   refine(D2.out _ _ _ _ _ g0 ej hz).mono ?_;rintro U kl ⟨rfl,hi⟩;have i6:=aa g0 hi;clear fb bn hz ej g0 hi D2 iv g7 co bl ax ay
   go_wp2
   go_ret
   exact⟨by simp,i6⟩
end Go.Proofs.YthhiidikgchdeaaGreatDoor

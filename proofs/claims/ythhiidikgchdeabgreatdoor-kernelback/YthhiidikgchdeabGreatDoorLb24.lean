/- Texts laid together. -/
import Derived.Test.YthhiidikgchdeabGreatDoorLb12
import Derived.Test.YthhiidikgchdeabGreatDoorLb19
import Derived.Test.YthhiidikgchdeabGreatDoorLb20
set_option maxRecDepth 100000
set_option maxHeartbeats 3200000
namespace Go.Proofs.YthhiidikgchdeabGreatDoor
open _root_.Go.Proofs.Tryz
open Go.RowKit
theorem FT (v u:Value)(a b:ak)(w:World)(hv:Dv w v a)(hu:Dv w u b)(I:(Dg.dg 4294967296 a.n).length≤200000000)(J:(Dg.dg 4294967296 b.n).length≤200000000)
  (S: -2000000000≤a.e) (T:a.e≤2000000000) (U: -2000000000≤b.e) (X:b.e≤2000000000):
  Calls Tryz.prog 75 #[v,u] w (jN w (aG a (dV b))):=by
 obtain⟨s0,rfl,D⟩:=hv;obtain⟨x,B,rfl⟩:=D.shape;obtain⟨s1,rfl,E⟩:=hu;obtain⟨p,q,rfl⟩:=E.shape;obtain⟨g,k,f⟩:=a;obtain⟨d,bn,c⟩:=b;simp only at D E I J S T U X⊢;have F:Hid (∀t,Below w.heap.size w t→Calls Tryz.prog 32 #[.agg #[.bool g,.slice x (Dg.dg 4294967296 k).length B,.int .i64 f],.agg #[.bool (!d),.slice p (Dg.dg 4294967296 bn).length q,.int .i64 c]] t (jN t (aG ⟨g,k,f⟩ (dV ⟨d,bn,c⟩)))):=fun t R=>
  uj _ _ ⟨g,k,f⟩ (dV ⟨d,bn,c⟩) t ⟨_,rfl,D.l R⟩ ⟨_,rfl,E.l R⟩ I J S T U X
 obtain⟨L,Y⟩: ∃m,(Dg.dg 4294967296 k).length=m:=⟨_,rfl⟩;obtain⟨C,Z⟩: ∃m,(Dg.dg 4294967296 bn).length=m:=⟨_,rfl⟩;rw[Y,Z] at F⊢;obtain⟨⟨rs,N,M⟩,a0⟩: ∃r,aG ⟨g,k,f⟩ (dV ⟨d,bn,c⟩)=r:=⟨_,rfl⟩;rw[a0] at F⊢;clear Y Z a0 D E I J;obtain⟨h,i,s,G,-⟩:=ju w (.bool g) (.slice x L B) (.int .i64 f) (.bool d) (.slice p C q) (.int .i64 c) (.bool false) (.slice none 0 0) (.int .i64 0) 48 48 48;obtain⟨W,K⟩: ∃W,(((w.alloc (.cells #[.bool g,.slice x L B,.int .i64 f] 48)).alloc (.cells #[.bool d,.slice p C q,.int .i64 c] 48)).alloc (.cells #[.bool false,.slice none 0 0,.int .i64 0] 48))=W:=⟨_,rfl⟩;rw[K] at h i s G;have o:Below W.heap.size W W.drew:=(Below.refl _ _).drew;replace h:=h.l o;replace i:=i.l o;replace s:=s.l o;have Q:=aa G o;rw[←K] at h i s Q;clear o G K;obtain⟨-,⟨ac,ad,al⟩,-⟩:=id h;obtain⟨-,⟨ap,aq,ar⟩,-⟩:=id i;have ax:w.heap.size+1+1≠w.heap.size:=by omega
 have ay:w.heap.size≠w.heap.size+1+1:=by omega
 go_enter func75,ntmps75
 go_wp2_with fail
 go_region_held3 (fun j=>(j.cell? ⟨w.heap.size,0,none⟩=some (.bool g)∧j.cell? ⟨w.heap.size,1,none⟩=some (.slice x L B)∧j.cell? ⟨w.heap.size,2,none⟩=some (.int .i64 f))∧j.cell? ⟨w.heap.size+1,0,none⟩=some (.bool d)∧j.cell? ⟨w.heap.size+1,1,none⟩=some (.slice p C q)∧j.cell? ⟨w.heap.size+1,2,none⟩=some (.int .i64 c)) (go_keep) (first
  | (go_at_call 96;refine(YA d p C q c _).mono ?_;rintro z w5 ⟨rfl,y⟩;have a1:=h.l y;have a2:=i.l y;have a3:=s.l y;have H:=aa Q y;obtain⟨-,⟨t0,t1,t2⟩,-⟩:=id a1;obtain⟨-,⟨t3,t4,t5⟩,-⟩:=id a2)
  | (go_at_call 32;refine(F.out w5 H).mono ?_;rintro z w6 ⟨vr,rfl,o6,A⟩;have a8:=a1.l A;have a9:=a2.l A;have a4:=a3.l A;have a5:=aa H A;obtain⟨-,⟨u0,u1,u2⟩,-⟩:=id a8;obtain⟨-,⟨u3,u4,u5⟩,-⟩:=id a9;obtain⟨P,O,a7⟩:=o6.rd.shape;subst a7;obtain⟨av,⟨d0,d1,d2⟩,f0,f1,f2⟩:=id a4))
 all_goals go_wp2
 have a6:=a3.1;obtain⟨-,⟨g0,g1,g2⟩,-⟩:=aD a4 (.bool rs) (.slice P (Dg.dg 4294967296 N).length O) (.int .i64 M);have b8:=am a5 (show w.heap.size≤w.heap.size+1+1 by omega) (.bool rs) (.slice P (Dg.dg 4294967296 N).length O) (.int .i64 M)
 refine bodyPost_ret (v:= .agg #[.bool rs,.slice P (Dg.dg 4294967296 N).length O,.int .i64 M]) (by simp[results,results75,go_sem,g0,g1,g2]) rfl ?_;exact⟨_,rfl,(o6.apart3 a6 _ _ _).lower (by have:=H.size;omega),b8⟩
theorem great_none (a b:ak)(j m:Option Addr)(i k:Nat)(x y:ak)(s:Int)(w:World)(ra:Rd w .u32 (yT j a.n i) (Dg.dg 4294967296 a.n))(rb:Rd w .u32 (yT m b.n k) (Dg.dg 4294967296 b.n))(hs:s=0)
  (H1:yJ 29 #[yDV a j i] (ydV false (yT j a.n i) a.e))
  (H2:yJ 29 #[yDV b m k] (ydV false (yT m b.n k) b.e))
  (D: ∀pb L,yB w L→au L pb 48 [.bool false,yT j a.n i,yi a.e,.bool false,yT m b.n k,yi b.e]→Rd L .u32 (yT j a.n i) (Dg.dg 4294967296 a.n)→Rd L .u32 (yT m b.n k) (Dg.dg 4294967296 b.n)→yC 100 #[.slice (some ⟨pb,0,none⟩) 2 2] L (aeT L x y))
  (E: ∀f d L,yB w L→Rd L .u32 (yT f y.n d) (Dg.dg 4294967296 y.n)→yC 20 #[yDV y f d] L (yR L (yi s))):
  yC 114 #[.agg #[.bool a.s,yT j a.n i,yi a.e,.bool b.s,yT m b.n k,yi b.e]] w (yR w (.tuple #[yi 0,.bool false])):=by
 replace H1:Hid _:=H1;replace H2:Hid _:=H2;replace D:Hid _:=D;replace E:Hid _:=E;obtain⟨W3,c8,q1,b2⟩:=cA w [.bool a.s,yT j a.n i,yi a.e,.bool b.s,yT m b.n k,yi b.e] 54;replace c8:Hid _:=c8;have r5:=ra.l b2;have r6:=rb.l b2;clear ra rb
 go_enter func114,ntmps114
 go_upto_region 1 with fail
 rw[c8.out];clear c8
 go_upto_region 1 with fail
 have bl:yB W3 W3.drew:=(Below.refl _ _).drew;have q8:=q1.l bl;have r9:=r5.l bl;have ba:=r6.l bl;have b3:=aa b2 bl;clear q1 r5 r6 b2 bl;refine wp_region_held_drew (S:=fun wq=>au wq w.heap.size 54 [.bool a.s,yT j a.n i,yi a.e,.bool b.s,yT m b.n k,yi b.e]) (by kernel_rfl) q8 (fun N=> ?_)
 generalize W3.drew=a6 at q8 r9 ba b3 N⊢;refine tq 0 (.pointer (some ⟨w.heap.size,0,none⟩)) rfl (fun _ _=>by kernel_rfl) N ?_
 refine tq 1 (yDV a j i) rfl (fun _ d1=>fy 48 (.tmp 5) rfl w.heap.size 0 (by kernel_rfl) _ _ (kY d1 0 3 rfl) underlying48 rfl (by kernel_rfl)) N ?_
 refine tq 3 (.pointer (some ⟨w.heap.size,3,none⟩)) rfl (fun _ _=>by kernel_rfl) N ?_
 refine tq 4 (yDV b m k) rfl (fun _ d1=>fy 48 (.tmp 8) rfl w.heap.size 3 (by kernel_rfl) _ _ (kY d1 3 3 rfl) underlying48 rfl (by kernel_rfl)) N ?_
 refine wpAnyH_ready (rs:=[2,9]) (by kernel_rfl) (by simp) ?_;refine AllReadyH.cons rfl (fun K c=> ?_) (AllReadyH.cons rfl (fun K c=> ?_) AllReadyH.nil)
 ·go_simp
  refine(H1.out _).mono ?_;rintro A av ⟨rfl,bm⟩;have b9:=q8.l bm;have bw:=r9.l bm;have bx:=ba.l bm;have bj:=aa b3 bm;clear q8 r9 ba b3 bm H1;refine c.out _ _ b9 (fun c7=> ?_)
  clear c K;refine wpAnyH_ready (rs:=[5,9]) (by kernel_rfl) (by simp) ?_;refine AllReadyH.cons rfl (fun K c=> ?_) (AllReadyH.cons rfl (fun K c=> ?_) AllReadyH.nil)
  ·go_simp
   refine(H2.out _).mono ?_;rintro A z ⟨rfl,bn⟩;have ad:=b9.l bn;have O:=bw.l bn;have bb:=bx.l bn;have b4:=aa bj bn;clear b9 bw bx bj bn H2;refine c.out _ _ ad (fun cv=> ?_)
   clear c K;refine wpAnyH_ready (rs:=[6,9]) (by kernel_rfl) (by simp) ?_;refine AllReadyH.cons rfl (fun K c=> ?_) (AllReadyH.cons rfl (fun K c=> ?_) AllReadyH.nil)
   ·go_simp
    have G:=af z (.cells #[.bool false,yT j a.n i,yi a.e,.bool false,yT m b.n k,yi b.e] 48);have h:=ah z [.bool false,yT j a.n i,yi a.e,.bool false,yT m b.n k,yi b.e] 48;have cx:w.heap.size≤z.heap.size:=b4.size;have cy:=ad.lt;have d2:=t9 O (Nat.le_refl z.heap.size);have d3:=t9 bb (Nat.le_refl z.heap.size);have p:=ad.l G;have I:=O.l G;have u:=bb.l G;have F:=aa b4 G;refine c.out _ _ p (fun b8=> ?_)
    clear c K;clear ad O bb b4 G;generalize z.alloc (.cells #[.bool false,yT j a.n i,yi a.e,.bool false,yT m b.n k,yi b.e] 48)=t at p h I u F b8⊢;generalize z.heap.size=P at h cx cy d2 d3⊢;refine wpAnyH_ready (rs:=[7,9]) (by kernel_rfl) (by simp) ?_;refine AllReadyH.cons rfl (fun K c=> ?_) (AllReadyH.cons rfl (fun K c=> ?_) AllReadyH.nil)
    ·go_simp
     refine(D.out _ _ F h I u).mono ?_;rintro A be ⟨fs,fx,rfl,ef,cg,cr⟩;have cc:=p.l cr;have cn:=aa F cr;obtain⟨xo,xc,o⟩:=ef.shape;subst o;obtain⟨f,d,o⟩:=cg.shape;subst o;clear p h I u F cr D;refine c.out _ _ cc (fun e7=> ?_)
     clear c K;refine tq 8 (yDV y f d) rfl (fun _ _=>by kernel_rfl) e7 ?_
     refine wpAnyH_ready (rs:=[9]) (by kernel_rfl) (by simp) ?_;refine AllReadyH.cons rfl (fun K c=> ?_) AllReadyH.nil
     go_simp
     have c0:=af be (.cells (ydA false yN 0) 48);have q:=ah be (ydL false yN 0) 48;have f6:w.heap.size≤be.heap.size:=cn.size;have f7:=cc.lt;have ed:=t9 cg (Nat.le_refl be.heap.size);have cd:=cc.l c0;have dq:=cg.l c0;have co:=aa cn c0;refine c.out _ _ cd (fun ea=> ?_)
     clear c K;clear cc ef cg cn c0;generalize be.alloc (.cells (ydA false yN 0) 48)=az at cd q dq co ea⊢;generalize be.heap.size=a2 at q f6 f7 ed⊢;refine wpAnyH_ready (rs:=[10]) (by kernel_rfl) (by simp) ?_;refine AllReadyH.cons rfl (fun K c=> ?_) AllReadyH.nil
     have g:But a2 az (az.setCells a2 0 (yDL y f d)):=de _ _ _ _;have v:az.there a2 0 3:=dD q;have d9:au (az.setCells a2 0 (yDL y f d)) a2 48 (yDL y f d):=q.sets _ rfl;have ds:=g.rd dq (ed);have r:=g.loc cd (by omega);have M:=g.below co (by omega);rw[if_pos (by kernel_rfl)];refine wp_store_mid 48 (.tmp 4) (.tmp 13) rfl a2 0 (yDA y f d) (by kernel_rfl) (by kernel_rfl) v (by kernel_rfl) (by simp[Value.oneCell']) ?_;refine c.out _ _ r (fun a8=> ?_)
     clear c K;clear q dq cd co g v;refine wpAnyH_done (by kernel_rfl) ?_ _;clear N c7 cv b8 e7 ea a8;change Exit.then _ _ _ _ (World.setCells az a2 0 (yDL y f d));generalize World.setCells az a2 0 (yDL y f d)=fj at r d9 ds M⊢;simp only[Act.put,List.getElem_toArray,List.getElem_cons_succ,List.getElem_cons_zero];obtain⟨eo,ep,es⟩:=d9.cs3
     go_wp2_with fail
     refine(E.out _ _ _ M ds).mono ?_;rintro A g3 ⟨rfl,e2⟩;have el:=aa M e2;clear r d9 ds M e2 E eo ep es
     go_wp2
     go_ret2
     exact⟨by simp,el⟩
    ·go_simp
     have B:=af t (.cells (ydA false yN 0) 48);have X:=ah t (ydL false yN 0) 48;have cz:w.heap.size≤t.heap.size:=F.size;have bt:=p.lt;have a9:=h.lt;have d4:=t9 I (Nat.le_refl t.heap.size);have bv:=t9 u (Nat.le_refl t.heap.size);have Y:=p.l B;have q:=h.l B;have ap:=I.l B;have J:=u.l B;have R:=aa F B;refine c.out _ _ Y (fun bs=> ?_)
     clear c K;clear p h I u F B;generalize t.alloc (.cells (ydA false yN 0) 48)=ek at Y q X ap J R bs⊢;generalize t.heap.size=Q at X cz bt a9 d4 bv⊢;refine wpAnyH_ready (rs:=[7]) (by kernel_rfl) (by simp) ?_;refine AllReadyH.cons rfl (fun K c=> ?_) AllReadyH.nil
     go_simp
     refine(D.out _ _ R q ap J).mono ?_;rintro A C ⟨fd,fe,rfl,bz,Z,U⟩;have ae:=Y.l U;have r:=X.l U;have M:=aa R U;obtain⟨xo,xc,o⟩:=bz.shape;subst o;obtain⟨f,d,o⟩:=Z.shape;subst o;clear Y q X ap J R U D;refine c.out _ _ ae (fun a8=> ?_)
     clear c K;refine tq 8 (yDV y f d) rfl (fun _ _=>by kernel_rfl) a8 ?_
     refine wpAnyH_ready (rs:=[10]) (by kernel_rfl) (by simp) ?_;refine AllReadyH.cons rfl (fun K c=> ?_) AllReadyH.nil
     have g:But Q C (C.setCells Q 0 (yDL y f d)):=de _ _ _ _;have v:C.there Q 0 3:=dD r;have al:au (C.setCells Q 0 (yDL y f d)) Q 48 (yDL y f d):=r.sets _ rfl;have ar:=g.rd Z (aX Z r (by simp));have H:=g.loc ae (by omega);have T:=g.below M (by omega);rw[if_pos (by kernel_rfl)];refine wp_store_mid 48 (.tmp 4) (.tmp 13) rfl Q 0 (yDA y f d) (by kernel_rfl) (by kernel_rfl) v (by kernel_rfl) (by simp[Value.oneCell']) ?_;refine c.out _ _ H (fun cw=> ?_)
     clear c K;clear r bz Z ae M g v;refine wpAnyH_done (by kernel_rfl) ?_ _;clear N c7 cv b8 bs a8 cw;change Exit.then _ _ _ _ (World.setCells C Q 0 (yDL y f d));generalize World.setCells C Q 0 (yDL y f d)=ej at H al ar T⊢;simp only[Act.put,List.getElem_toArray,List.getElem_cons_succ,List.getElem_cons_zero];obtain⟨cs,bq,a7⟩:=al.cs3
     go_wp2_with fail
     refine(E.out _ _ _ T ar).mono ?_;rintro A ff ⟨rfl,bp⟩;have cp:=aa T bp;clear H al ar T bp E cs bq a7
     go_wp2
     go_ret2
     exact⟨by simp,cp⟩
   ·go_simp
    have G:=af z (.cells (ydA false yN 0) 48);have h:=ah z (ydL false yN 0) 48;have cx:w.heap.size≤z.heap.size:=b4.size;have cy:=ad.lt;have d2:=t9 O (Nat.le_refl z.heap.size);have d3:=t9 bb (Nat.le_refl z.heap.size);have p:=ad.l G;have I:=O.l G;have u:=bb.l G;have F:=aa b4 G;refine c.out _ _ p (fun b8=> ?_)
    clear c K;clear ad O bb b4 G;generalize z.alloc (.cells (ydA false yN 0) 48)=t at p h I u F b8⊢;generalize z.heap.size=P at h cx cy d2 d3⊢;refine wpAnyH_ready (rs:=[6]) (by kernel_rfl) (by simp) ?_;refine AllReadyH.cons rfl (fun K c=> ?_) AllReadyH.nil
    go_simp
    have B:=af t (.cells #[.bool false,yT j a.n i,yi a.e,.bool false,yT m b.n k,yi b.e] 48);have X:=ah t [.bool false,yT j a.n i,yi a.e,.bool false,yT m b.n k,yi b.e] 48;have cz:w.heap.size≤t.heap.size:=F.size;have bt:=p.lt;have a9:=h.lt;have d4:=t9 I (Nat.le_refl t.heap.size);have bv:=t9 u (Nat.le_refl t.heap.size);have Y:=p.l B;have q:=h.l B;have ap:=I.l B;have J:=u.l B;have R:=aa F B;refine c.out _ _ Y (fun bs=> ?_)
    clear c K;clear p h I u F B;generalize t.alloc (.cells #[.bool false,yT j a.n i,yi a.e,.bool false,yT m b.n k,yi b.e] 48)=ek at Y q X ap J R bs⊢;generalize t.heap.size=Q at X cz bt a9 d4 bv⊢;refine wpAnyH_ready (rs:=[7]) (by kernel_rfl) (by simp) ?_;refine AllReadyH.cons rfl (fun K c=> ?_) AllReadyH.nil
    go_simp
    refine(D.out _ _ R X ap J).mono ?_;rintro A C ⟨fd,fe,rfl,bz,Z,U⟩;have ae:=Y.l U;have r:=q.l U;have M:=aa R U;obtain⟨xo,xc,o⟩:=bz.shape;subst o;obtain⟨f,d,o⟩:=Z.shape;subst o;clear Y q X ap J R U D;refine c.out _ _ ae (fun a8=> ?_)
    clear c K;refine tq 8 (yDV y f d) rfl (fun _ _=>by kernel_rfl) a8 ?_
    refine wpAnyH_ready (rs:=[10]) (by kernel_rfl) (by simp) ?_;refine AllReadyH.cons rfl (fun K c=> ?_) AllReadyH.nil
    have g:But P C (C.setCells P 0 (yDL y f d)):=de _ _ _ _;have v:C.there P 0 3:=dD r;have al:au (C.setCells P 0 (yDL y f d)) P 48 (yDL y f d):=r.sets _ rfl;have ar:=g.rd Z (aX Z r (by simp));have H:=g.loc ae (by omega);have T:=g.below M (by omega);rw[if_pos (by kernel_rfl)];refine wp_store_mid 48 (.tmp 4) (.tmp 13) rfl P 0 (yDA y f d) (by kernel_rfl) (by kernel_rfl) v (by kernel_rfl) (by simp[Value.oneCell']) ?_;refine c.out _ _ H (fun cw=> ?_)
    clear c K;clear r bz Z ae M g v;refine wpAnyH_done (by kernel_rfl) ?_ _;clear N c7 cv b8 bs a8 cw;change Exit.then _ _ _ _ (World.setCells C P 0 (yDL y f d));generalize World.setCells C P 0 (yDL y f d)=ej at H al ar T⊢;simp only[Act.put,List.getElem_toArray,List.getElem_cons_succ,List.getElem_cons_zero];obtain⟨cs,bq,a7⟩:=al.cs3
    go_wp2_with fail
    refine(E.out _ _ _ T ar).mono ?_;rintro A ff ⟨rfl,bp⟩;have cp:=aa T bp;clear H al ar T bp E cs bq a7
    go_wp2
    go_ret2
    exact⟨by simp,cp⟩
  ·go_simp
   have bi:=af av (.cells (ydA false yN 0) 48);have W:=ah av (ydL false yN 0) 48;have f3:w.heap.size≤av.heap.size:=bj.size;have f4:=b9.lt;have fa:=t9 bw (Nat.le_refl av.heap.size);have fb:=t9 bx (Nat.le_refl av.heap.size);have h:=b9.l bi;have dl:=bw.l bi;have bd:=bx.l bi;have ck:=aa bj bi;refine c.out _ _ h (fun e6=> ?_)
   clear c K;clear b9 bw bx bj bi;generalize av.alloc (.cells (ydA false yN 0) 48)=fo at h W dl bd ck e6⊢;generalize av.heap.size=a1 at W f3 f4 fa fb⊢;refine wpAnyH_ready (rs:=[5]) (by kernel_rfl) (by simp) ?_;refine AllReadyH.cons rfl (fun K c=> ?_) AllReadyH.nil
   go_simp
   refine(H2.out _).mono ?_;rintro A ax ⟨rfl,b6⟩;have p:=h.l b6;have a3:=W.l b6;have u:=dl.l b6;have an:=bd.l b6;have cl:=aa ck b6;clear h W dl bd ck b6 H2;refine c.out _ _ p (fun ev=> ?_)
   clear c K;refine wpAnyH_ready (rs:=[6]) (by kernel_rfl) (by simp) ?_;refine AllReadyH.cons rfl (fun K c=> ?_) AllReadyH.nil
   go_simp
   have b0:=af ax (.cells #[.bool false,yT j a.n i,yi a.e,.bool false,yT m b.n k,yi b.e] 48);have ca:=ah ax [.bool false,yT j a.n i,yi a.e,.bool false,yT m b.n k,yi b.e] 48;have bt:w.heap.size≤ax.heap.size:=cl.size;have a9:=p.lt;have d0:=a3.lt;have bv:=t9 u (Nat.le_refl ax.heap.size);have d5:=t9 an (Nat.le_refl ax.heap.size);have q:=p.l b0;have a4:=a3.l b0;have J:=u.l b0;have aq:=an.l b0;have c1:=aa cl b0;refine c.out _ _ q (fun e8=> ?_)
   clear c K;clear p a3 u an cl b0;generalize ax.alloc (.cells #[.bool false,yT j a.n i,yi a.e,.bool false,yT m b.n k,yi b.e] 48)=fp at q a4 ca J aq c1 e8⊢;generalize ax.heap.size=fg at ca bt a9 d0 bv d5⊢;refine wpAnyH_ready (rs:=[7]) (by kernel_rfl) (by simp) ?_;refine AllReadyH.cons rfl (fun K c=> ?_) AllReadyH.nil
   go_simp
   refine(D.out _ _ c1 ca J aq).mono ?_;rintro A bf ⟨ft,g0,rfl,eg,ch,c5⟩;have r:=q.l c5;have a5:=a4.l c5;have e0:=aa c1 c5;obtain⟨xo,xc,o⟩:=eg.shape;subst o;obtain⟨f,d,o⟩:=ch.shape;subst o;clear q a4 ca J aq c1 c5 D;refine c.out _ _ r (fun eb=> ?_)
   clear c K;refine tq 8 (yDV y f d) rfl (fun _ _=>by kernel_rfl) eb ?_
   refine wpAnyH_ready (rs:=[10]) (by kernel_rfl) (by simp) ?_;refine AllReadyH.cons rfl (fun K c=> ?_) AllReadyH.nil
   have g:But a1 bf (bf.setCells a1 0 (yDL y f d)):=de _ _ _ _;have v:bf.there a1 0 3:=dD a5;have da:au (bf.setCells a1 0 (yDL y f d)) a1 48 (yDL y f d):=a5.sets _ rfl;have dt:=g.rd ch (aX ch a5 (by simp));have db:=g.loc r (by omega);have c3:=g.below e0 (by omega);rw[if_pos (by kernel_rfl)];refine wp_store_mid 48 (.tmp 4) (.tmp 13) rfl a1 0 (yDA y f d) (by kernel_rfl) (by kernel_rfl) v (by kernel_rfl) (by simp[Value.oneCell']) ?_;refine c.out _ _ db (fun ey=> ?_)
   clear c K;clear a5 eg ch r e0 g v;refine wpAnyH_done (by kernel_rfl) ?_ _;clear N c7 e6 ev e8 eb ey;change Exit.then _ _ _ _ (World.setCells bf a1 0 (yDL y f d));generalize World.setCells bf a1 0 (yDL y f d)=fk at db da dt c3⊢;simp only[Act.put,List.getElem_toArray,List.getElem_cons_succ,List.getElem_cons_zero];obtain⟨bq,a7,ct⟩:=da.cs3
   go_wp2_with fail
   refine(E.out _ _ _ c3 dt).mono ?_;rintro A g4 ⟨rfl,e3⟩;have em:=aa c3 e3;clear db da dt c3 e3 E bq a7 ct
   go_wp2
   go_ret2
   exact⟨by simp,em⟩
 ·go_simp
  have bh:=af a6 (.cells (ydA false yN 0) 48);have c9:=ah a6 (ydL false yN 0) 48;have f1:w.heap.size≤a6.heap.size:=b3.size;have f2:=q8.lt;have f8:=t9 r9 (Nat.le_refl a6.heap.size);have f9:=t9 ba (Nat.le_refl a6.heap.size);have W:=q8.l bh;have dd:=r9.l bh;have O:=ba.l bh;have cj:=aa b3 bh;refine c.out _ _ W (fun e5=> ?_)
  clear c K;clear q8 r9 ba b3 bh;generalize a6.alloc (.cells (ydA false yN 0) 48)=fn at W c9 dd O cj e5⊢;generalize a6.heap.size=a0 at c9 f1 f2 f8 f9⊢;refine wpAnyH_ready (rs:=[2]) (by kernel_rfl) (by simp) ?_;refine AllReadyH.cons rfl (fun K c=> ?_) AllReadyH.nil
  go_simp
  refine(H1.out _).mono ?_;rintro A g2 ⟨rfl,b5⟩;have h:=W.l b5;have ee:=c9.l b5;have bd:=dd.l b5;have ei:=O.l b5;have dy:=aa cj b5;clear W c9 dd O cj b5 H1;refine c.out _ _ h (fun eu=> ?_)
  clear c K;refine wpAnyH_ready (rs:=[5]) (by kernel_rfl) (by simp) ?_;refine AllReadyH.cons rfl (fun K c=> ?_) AllReadyH.nil
  go_simp
  refine(H2.out _).mono ?_;rintro A ay ⟨rfl,b7⟩;have a3:=h.l b7;have d6:=ee.l b7;have an:=bd.l b7;have dn:=ei.l b7;have cm:=aa dy b7;clear h ee bd ei dy b7 H2;refine c.out _ _ a3 (fun ex=> ?_)
  clear c K;refine wpAnyH_ready (rs:=[6]) (by kernel_rfl) (by simp) ?_;refine AllReadyH.cons rfl (fun K c=> ?_) AllReadyH.nil
  go_simp
  have b1:=af ay (.cells #[.bool false,yT j a.n i,yi a.e,.bool false,yT m b.n k,yi b.e] 48);have cb:=ah ay [.bool false,yT j a.n i,yi a.e,.bool false,yT m b.n k,yi b.e] 48;have a9:w.heap.size≤ay.heap.size:=cm.size;have d0:=a3.lt;have f5:=d6.lt;have d5:=t9 an (Nat.le_refl ay.heap.size);have fc:=t9 dn (Nat.le_refl ay.heap.size);have a4:=a3.l b1;have d7:=d6.l b1;have aq:=an.l b1;have dp:=dn.l b1;have c2:=aa cm b1;refine c.out _ _ a4 (fun e9=> ?_)
  clear c K;clear a3 d6 an dn cm b1;generalize ay.alloc (.cells #[.bool false,yT j a.n i,yi a.e,.bool false,yT m b.n k,yi b.e] 48)=fr at a4 d7 cb aq dp c2 e9⊢;generalize ay.heap.size=fi at cb a9 d0 f5 d5 fc⊢;refine wpAnyH_ready (rs:=[7]) (by kernel_rfl) (by simp) ?_;refine AllReadyH.cons rfl (fun K c=> ?_) AllReadyH.nil
  go_simp
  refine(D.out _ _ c2 cb aq dp).mono ?_;rintro A bg ⟨fv,g1,rfl,eh,ci,c6⟩;have a5:=a4.l c6;have ce:=d7.l c6;have e1:=aa c2 c6;obtain⟨xo,xc,o⟩:=eh.shape;subst o;obtain⟨f,d,o⟩:=ci.shape;subst o;clear a4 d7 cb aq dp c2 c6 D;refine c.out _ _ a5 (fun ec=> ?_)
  clear c K;refine tq 8 (yDV y f d) rfl (fun _ _=>by kernel_rfl) ec ?_
  refine wpAnyH_ready (rs:=[10]) (by kernel_rfl) (by simp) ?_;refine AllReadyH.cons rfl (fun K c=> ?_) AllReadyH.nil
  have g:But a0 bg (bg.setCells a0 0 (yDL y f d)):=de _ _ _ _;have v:bg.there a0 0 3:=dD ce;have H:au (bg.setCells a0 0 (yDL y f d)) a0 48 (yDL y f d):=ce.sets _ rfl;have dv:=g.rd ci (aX ci ce (by simp));have dc:=g.loc a5 (by omega);have c4:=g.below e1 (by omega);rw[if_pos (by kernel_rfl)];refine wp_store_mid 48 (.tmp 4) (.tmp 13) rfl a0 0 (yDA y f d) (by kernel_rfl) (by kernel_rfl) v (by kernel_rfl) (by simp[Value.oneCell']) ?_;refine c.out _ _ dc (fun f0=> ?_)
  clear c K;clear ce eh ci a5 e1 g v;refine wpAnyH_done (by kernel_rfl) ?_ _;clear N e5 eu ex e9 ec f0;change Exit.then _ _ _ _ (World.setCells bg a0 0 (yDL y f d));generalize World.setCells bg a0 0 (yDL y f d)=fl at dc H dv c4⊢;simp only[Act.put,List.getElem_toArray,List.getElem_cons_succ,List.getElem_cons_zero];obtain⟨a7,ct,et⟩:=H.cs3
  go_wp2_with fail
  refine(E.out _ _ _ c4 dv).mono ?_;rintro A g5 ⟨rfl,e4⟩;have en:=aa c4 e4;clear dc H dv c4 e4 E a7 ct et
  go_wp2
  go_ret2
  exact⟨by simp,en⟩
theorem great_some (a b:ak)(k o:Option Addr)(j m:Nat)(x y:ak)(s g:Int)(w:World)(ra:Rd w .u32 (yT k a.n j) (Dg.dg 4294967296 a.n))(rb:Rd w .u32 (yT o b.n m) (Dg.dg 4294967296 b.n))(hs: ¬s=0)
  (H1:yJ 29 #[yDV a k j] (ydV false (yT k a.n j) a.e))
  (H2:yJ 29 #[yDV b o m] (ydV false (yT o b.n m) b.e))
  (F: ∀pb v,yB w v→au v pb 48 [.bool false,yT k a.n j,yi a.e,.bool false,yT o b.n m,yi b.e]→Rd v .u32 (yT k a.n j) (Dg.dg 4294967296 a.n)→Rd v .u32 (yT o b.n m) (Dg.dg 4294967296 b.n)→yC 100 #[.slice (some ⟨pb,0,none⟩) 2 2] v (aeT v x y))
  (G: ∀f d v,yB w v→Rd v .u32 (yT f y.n d) (Dg.dg 4294967296 y.n)→yC 20 #[yDV y f d] v (yR v (yi s)))
  (H: ∀f d v,yB w v→Rd v .u32 (yT f y.n d) (Dg.dg 4294967296 y.n)→yC 53 #[yDV y f d] v (yR v (yi g))):
  yC 114 #[.agg #[.bool a.s,yT k a.n j,yi a.e,.bool b.s,yT o b.n m,yi b.e]] w (yR w (.tuple #[yi g,.bool true])):=by
 replace H1:Hid _:=H1;replace H2:Hid _:=H2;replace F:Hid _:=F;replace G:Hid _:=G;replace H:Hid _:=H;obtain⟨W3,cm,q1,b2⟩:=cA w [.bool a.s,yT k a.n j,yi a.e,.bool b.s,yT o b.n m,yi b.e] 54;replace cm:Hid _:=cm;have r5:=ra.l b2;have r6:=rb.l b2;clear ra rb
 go_enter func114,ntmps114
 go_upto_region 1 with fail
 rw[cm.out];clear cm
 go_upto_region 1 with fail
 have bt:yB W3 W3.drew:=(Below.refl _ _).drew;have q8:=q1.l bt;have r9:=r5.l bt;have bg:=r6.l bt;have b8:=aa b2 bt;clear q1 r5 r6 b2 bt;refine wp_region_held_drew (S:=fun wq=>au wq w.heap.size 54 [.bool a.s,yT k a.n j,yi a.e,.bool b.s,yT o b.n m,yi b.e]) (by kernel_rfl) q8 (fun P=> ?_)
 generalize W3.drew=ae at q8 r9 bg b8 P⊢;refine tq 0 (.pointer (some ⟨w.heap.size,0,none⟩)) rfl (fun _ _=>by kernel_rfl) P ?_
 refine tq 1 (yDV a k j) rfl (fun _ e2=>fy 48 (.tmp 5) rfl w.heap.size 0 (by kernel_rfl) _ _ (kY e2 0 3 rfl) underlying48 rfl (by kernel_rfl)) P ?_
 refine tq 3 (.pointer (some ⟨w.heap.size,3,none⟩)) rfl (fun _ _=>by kernel_rfl) P ?_
 refine tq 4 (yDV b o m) rfl (fun _ e2=>fy 48 (.tmp 8) rfl w.heap.size 3 (by kernel_rfl) _ _ (kY e2 3 3 rfl) underlying48 rfl (by kernel_rfl)) P ?_
 refine wpAnyH_ready (rs:=[2,9]) (by kernel_rfl) (by simp) ?_;refine AllReadyH.cons rfl (fun K c=> ?_) (AllReadyH.cons rfl (fun K c=> ?_) AllReadyH.nil)
 ·go_simp
  refine(H1.out _).mono ?_;rintro q b1 ⟨rfl,bv⟩;have bf:=q8.l bv;have c6:=r9.l bv;have c7:=bg.l bv;have bq:=aa b8 bv;clear q8 r9 bg b8 bv H1;refine c.out _ _ bf (fun cl=> ?_)
  clear c K;refine wpAnyH_ready (rs:=[5,9]) (by kernel_rfl) (by simp) ?_;refine AllReadyH.cons rfl (fun K c=> ?_) (AllReadyH.cons rfl (fun K c=> ?_) AllReadyH.nil)
  ·go_simp
   refine(H2.out _).mono ?_;rintro q C ⟨rfl,bw⟩;have av:=bf.l bw;have Q:=c6.l bw;have bh:=c7.l bw;have b9:=aa bq bw;clear bf c6 c7 bq bw H2;refine c.out _ _ av (fun ds=> ?_)
   clear c K;refine wpAnyH_ready (rs:=[6,9]) (by kernel_rfl) (by simp) ?_;refine AllReadyH.cons rfl (fun K c=> ?_) (AllReadyH.cons rfl (fun K c=> ?_) AllReadyH.nil)
   ·go_simp
    have L:=af C (.cells #[.bool false,yT k a.n j,yi a.e,.bool false,yT o b.n m,yi b.e] 48);have i:=ah C [.bool false,yT k a.n j,yi a.e,.bool false,yT o b.n m,yi b.e] 48;have dv:w.heap.size≤C.heap.size:=b9.size;have dy:=av.lt;have e3:=t9 Q (Nat.le_refl C.heap.size);have e4:=t9 bh (Nat.le_refl C.heap.size);have r:=av.l L;have M:=Q.l L;have A:=bh.l L;have I:=aa b9 L;refine c.out _ _ r (fun be=> ?_)
    clear c K;clear av Q bh b9 L;generalize C.alloc (.cells #[.bool false,yT k a.n j,yi a.e,.bool false,yT o b.n m,yi b.e] 48)=z at r i M A I be⊢;generalize C.heap.size=R at i dv dy e3 e4⊢;refine wpAnyH_ready (rs:=[7,9]) (by kernel_rfl) (by simp) ?_;refine AllReadyH.cons rfl (fun K c=> ?_) (AllReadyH.cons rfl (fun K c=> ?_) AllReadyH.nil)
    ·go_simp
     refine(F.out _ _ I i M A).mono ?_;rintro q bj ⟨gq,gx,rfl,f3,cx,dd⟩;have cr:=r.l dd;have d7:=aa I dd;obtain⟨xo,xc,p⟩:=f3.shape;subst p;obtain⟨f,d,p⟩:=cx.shape;subst p;clear r i M A I dd F;refine c.out _ _ cr (fun eo=> ?_)
     clear c K;refine tq 8 (yDV y f d) rfl (fun _ _=>by kernel_rfl) eo ?_
     refine wpAnyH_ready (rs:=[9]) (by kernel_rfl) (by simp) ?_;refine AllReadyH.cons rfl (fun K c=> ?_) AllReadyH.nil
     go_simp
     have ca:=af bj (.cells (ydA false yN 0) 48);have t:=ah bj (ydL false yN 0) 48;have g0:w.heap.size≤bj.heap.size:=d7.size;have g1:=cr.lt;have ex:=t9 cx (Nat.le_refl bj.heap.size);have cs:=cr.l ca;have ef:=cx.l ca;have d9:=aa d7 ca;refine c.out _ _ cs (fun et=> ?_)
     clear c K;clear cr f3 cx d7 ca;generalize bj.alloc (.cells (ydA false yN 0) 48)=b5 at cs t ef d9 et⊢;generalize bj.heap.size=a7 at t g0 g1 ex⊢;refine wpAnyH_ready (rs:=[10]) (by kernel_rfl) (by simp) ?_;refine AllReadyH.cons rfl (fun K c=> ?_) AllReadyH.nil
     have h:But a7 b5 (b5.setCells a7 0 (yDL y f d)):=de _ _ _ _;have B:b5.there a7 0 3:=dD t;have ct:au (b5.setCells a7 0 (yDL y f d)) a7 48 (yDL y f d):=t.sets _ rfl;have d0:=h.rd ef (ex);have u:=h.loc cs (by omega);have O:=h.below d9 (by omega);rw[if_pos (by kernel_rfl)];refine wp_store_mid 48 (.tmp 4) (.tmp 13) rfl a7 0 (yDA y f d) (by kernel_rfl) (by kernel_rfl) B (by kernel_rfl) (by simp[Value.oneCell']) ?_;refine c.out _ _ u (fun aq=> ?_)
     clear c K;clear t ef cs d9 h B;refine wpAnyH_done (by kernel_rfl) ?_ _;clear P cl ds be eo et aq;change Exit.then _ _ _ _ (World.setCells b5 a7 0 (yDL y f d));generalize World.setCells b5 a7 0 (yDL y f d)=gd at u ct d0 O⊢;simp only[Act.put,List.getElem_toArray,List.getElem_cons_succ,List.getElem_cons_zero];obtain⟨fe,ff,fg⟩:=ct.cs3
     go_wp2_with fail
     refine(G.out _ _ _ O d0).mono ?_;rintro q h1 ⟨rfl,ci⟩;have f0:=ct.l ci;have f7:=d0.l ci;have da:=aa O ci;clear u ct d0 O ci G fe ff fg;obtain⟨c0,dn,fi⟩:=f0.cs3
     go_wp2_with fail
     refine(H.out _ _ _ da f7).mono ?_;rintro q h4 ⟨rfl,ej⟩;have bs:=aa da ej;clear f0 f7 da ej H c0 dn fi
     go_wp2
     go_ret2
     exact⟨by simp,bs⟩
    ·go_simp
     have D:=af z (.cells (ydA false yN 0) 48);have a0:=ah z (ydL false yN 0) 48;have e0:w.heap.size≤z.heap.size:=I.size;have c3:=r.lt;have ar:=i.lt;have e5:=t9 M (Nat.le_refl z.heap.size);have c4:=t9 A (Nat.le_refl z.heap.size);have a1:=r.l D;have t:=i.l D;have az:=M.l D;have N:=A.l D;have U:=aa I D;refine c.out _ _ a1 (fun c2=> ?_)
     clear c K;clear r i M A I D;generalize z.alloc (.cells (ydA false yN 0) 48)=fb at a1 t a0 az N U c2⊢;generalize z.heap.size=T at a0 e0 c3 ar e5 c4⊢;refine wpAnyH_ready (rs:=[7]) (by kernel_rfl) (by simp) ?_;refine AllReadyH.cons rfl (fun K c=> ?_) AllReadyH.nil
     go_simp
     refine(F.out _ _ U t az N).mono ?_;rintro q E ⟨g7,g8,rfl,c8,a3,X⟩;have ax:=a1.l X;have u:=a0.l X;have O:=aa U X;obtain⟨xo,xc,p⟩:=c8.shape;subst p;obtain⟨f,d,p⟩:=a3.shape;subst p;clear a1 t a0 az N U X F;refine c.out _ _ ax (fun aq=> ?_)
     clear c K;refine tq 8 (yDV y f d) rfl (fun _ _=>by kernel_rfl) aq ?_
     refine wpAnyH_ready (rs:=[10]) (by kernel_rfl) (by simp) ?_;refine AllReadyH.cons rfl (fun K c=> ?_) AllReadyH.nil
     have h:But T E (E.setCells T 0 (yDL y f d)):=de _ _ _ _;have B:E.there T 0 3:=dD u;have a2:au (E.setCells T 0 (yDL y f d)) T 48 (yDL y f d):=u.sets _ rfl;have a4:=h.rd a3 (aX a3 u (by simp));have J:=h.loc ax (by omega);have W:=h.below O (by omega);rw[if_pos (by kernel_rfl)];refine wp_store_mid 48 (.tmp 4) (.tmp 13) rfl T 0 (yDA y f d) (by kernel_rfl) (by kernel_rfl) B (by kernel_rfl) (by simp[Value.oneCell']) ?_;refine c.out _ _ J (fun dt=> ?_)
     clear c K;clear u c8 a3 ax O h B;refine wpAnyH_done (by kernel_rfl) ?_ _;clear P cl ds be c2 aq dt;change Exit.then _ _ _ _ (World.setCells E T 0 (yDL y f d));generalize World.setCells E T 0 (yDL y f d)=fa at J a2 a4 W⊢;simp only[Act.put,List.getElem_toArray,List.getElem_cons_succ,List.getElem_cons_zero];obtain⟨dl,bz,an⟩:=a2.cs3
     go_wp2_with fail
     refine(G.out _ _ _ W a4).mono ?_;rintro q g9 ⟨rfl,Y⟩;have c5:=a2.l Y;have c9:=a4.l Y;have al:=aa W Y;clear J a2 a4 W Y G dl bz an;obtain⟨dp,c1,ap⟩:=c5.cs3
     go_wp2_with fail
     refine(H.out _ _ _ al c9).mono ?_;rintro q ga ⟨rfl,bx⟩;have dc:=aa al bx;clear c5 c9 al bx H dp c1 ap
     go_wp2
     go_ret2
     exact⟨by simp,dc⟩
   ·go_simp
    have L:=af C (.cells (ydA false yN 0) 48);have i:=ah C (ydL false yN 0) 48;have dv:w.heap.size≤C.heap.size:=b9.size;have dy:=av.lt;have e3:=t9 Q (Nat.le_refl C.heap.size);have e4:=t9 bh (Nat.le_refl C.heap.size);have r:=av.l L;have M:=Q.l L;have A:=bh.l L;have I:=aa b9 L;refine c.out _ _ r (fun be=> ?_)
    clear c K;clear av Q bh b9 L;generalize C.alloc (.cells (ydA false yN 0) 48)=z at r i M A I be⊢;generalize C.heap.size=R at i dv dy e3 e4⊢;refine wpAnyH_ready (rs:=[6]) (by kernel_rfl) (by simp) ?_;refine AllReadyH.cons rfl (fun K c=> ?_) AllReadyH.nil
    go_simp
    have D:=af z (.cells #[.bool false,yT k a.n j,yi a.e,.bool false,yT o b.n m,yi b.e] 48);have a0:=ah z [.bool false,yT k a.n j,yi a.e,.bool false,yT o b.n m,yi b.e] 48;have e0:w.heap.size≤z.heap.size:=I.size;have c3:=r.lt;have ar:=i.lt;have e5:=t9 M (Nat.le_refl z.heap.size);have c4:=t9 A (Nat.le_refl z.heap.size);have a1:=r.l D;have t:=i.l D;have az:=M.l D;have N:=A.l D;have U:=aa I D;refine c.out _ _ a1 (fun c2=> ?_)
    clear c K;clear r i M A I D;generalize z.alloc (.cells #[.bool false,yT k a.n j,yi a.e,.bool false,yT o b.n m,yi b.e] 48)=fb at a1 t a0 az N U c2⊢;generalize z.heap.size=T at a0 e0 c3 ar e5 c4⊢;refine wpAnyH_ready (rs:=[7]) (by kernel_rfl) (by simp) ?_;refine AllReadyH.cons rfl (fun K c=> ?_) AllReadyH.nil
    go_simp
    refine(F.out _ _ U a0 az N).mono ?_;rintro q E ⟨g7,g8,rfl,c8,a3,X⟩;have ax:=a1.l X;have u:=t.l X;have O:=aa U X;obtain⟨xo,xc,p⟩:=c8.shape;subst p;obtain⟨f,d,p⟩:=a3.shape;subst p;clear a1 t a0 az N U X F;refine c.out _ _ ax (fun aq=> ?_)
    clear c K;refine tq 8 (yDV y f d) rfl (fun _ _=>by kernel_rfl) aq ?_
    refine wpAnyH_ready (rs:=[10]) (by kernel_rfl) (by simp) ?_;refine AllReadyH.cons rfl (fun K c=> ?_) AllReadyH.nil
    have h:But R E (E.setCells R 0 (yDL y f d)):=de _ _ _ _;have B:E.there R 0 3:=dD u;have a2:au (E.setCells R 0 (yDL y f d)) R 48 (yDL y f d):=u.sets _ rfl;have a4:=h.rd a3 (aX a3 u (by simp));have J:=h.loc ax (by omega);have W:=h.below O (by omega);rw[if_pos (by kernel_rfl)];refine wp_store_mid 48 (.tmp 4) (.tmp 13) rfl R 0 (yDA y f d) (by kernel_rfl) (by kernel_rfl) B (by kernel_rfl) (by simp[Value.oneCell']) ?_;refine c.out _ _ J (fun dt=> ?_)
    clear c K;clear u c8 a3 ax O h B;refine wpAnyH_done (by kernel_rfl) ?_ _;clear P cl ds be c2 aq dt;change Exit.then _ _ _ _ (World.setCells E R 0 (yDL y f d));generalize World.setCells E R 0 (yDL y f d)=fa at J a2 a4 W⊢;simp only[Act.put,List.getElem_toArray,List.getElem_cons_succ,List.getElem_cons_zero];obtain⟨dl,bz,an⟩:=a2.cs3
    go_wp2_with fail
    refine(G.out _ _ _ W a4).mono ?_;rintro q g9 ⟨rfl,Y⟩;have c5:=a2.l Y;have c9:=a4.l Y;have al:=aa W Y;clear J a2 a4 W Y G dl bz an;obtain⟨dp,c1,ap⟩:=c5.cs3
    go_wp2_with fail
    refine(H.out _ _ _ al c9).mono ?_;rintro q ga ⟨rfl,bx⟩;have dc:=aa al bx;clear c5 c9 al bx H dp c1 ap
    go_wp2
    go_ret2
    exact⟨by simp,dc⟩
  ·go_simp
   have bp:=af b1 (.cells (ydA false yN 0) 48);have Z:=ah b1 (ydL false yN 0) 48;have ft:w.heap.size≤b1.heap.size:=bq.size;have fv:=bf.lt;have g4:=t9 c6 (Nat.le_refl b1.heap.size);have g5:=t9 c7 (Nat.le_refl b1.heap.size);have i:=bf.l bp;have ec:=c6.l bp;have bi:=c7.l bp;have d4:=aa bq bp;refine c.out _ _ i (fun en=> ?_)
   clear c K;clear bf c6 c7 bq bp;generalize b1.alloc (.cells (ydA false yN 0) 48)=gl at i Z ec bi d4 en⊢;generalize b1.heap.size=a6 at Z ft fv g4 g5⊢;refine wpAnyH_ready (rs:=[5]) (by kernel_rfl) (by simp) ?_;refine AllReadyH.cons rfl (fun K c=> ?_) AllReadyH.nil
   go_simp
   refine(H2.out _).mono ?_;rintro q b3 ⟨rfl,bb⟩;have r:=i.l bb;have a8:=Z.l bb;have A:=ec.l bb;have ay:=bi.l bb;have d5:=aa d4 bb;clear i Z ec bi d4 bb H2;refine c.out _ _ r (fun fl=> ?_)
   clear c K;refine wpAnyH_ready (rs:=[6]) (by kernel_rfl) (by simp) ?_;refine AllReadyH.cons rfl (fun K c=> ?_) AllReadyH.nil
   go_simp
   have b6:=af b3 (.cells #[.bool false,yT k a.n j,yi a.e,.bool false,yT o b.n m,yi b.e] 48);have co:=ah b3 [.bool false,yT k a.n j,yi a.e,.bool false,yT o b.n m,yi b.e] 48;have c3:w.heap.size≤b3.heap.size:=d5.size;have ar:=r.lt;have e1:=a8.lt;have c4:=t9 A (Nat.le_refl b3.heap.size);have e6:=t9 ay (Nat.le_refl b3.heap.size);have t:=r.l b6;have a9:=a8.l b6;have N:=A.l b6;have b0:=ay.l b6;have cb:=aa d5 b6;refine c.out _ _ t (fun ep=> ?_)
   clear c K;clear r a8 A ay d5 b6;generalize b3.alloc (.cells #[.bool false,yT k a.n j,yi a.e,.bool false,yT o b.n m,yi b.e] 48)=gm at t a9 co N b0 cb ep⊢;generalize b3.heap.size=gb at co c3 ar e1 c4 e6⊢;refine wpAnyH_ready (rs:=[7]) (by kernel_rfl) (by simp) ?_;refine AllReadyH.cons rfl (fun K c=> ?_) AllReadyH.nil
   go_simp
   refine(F.out _ _ cb co N b0).mono ?_;rintro q bl ⟨gr,gy,rfl,f4,cy,cg⟩;have u:=t.l cg;have ad:=a9.l cg;have eh:=aa cb cg;obtain⟨xo,xc,p⟩:=f4.shape;subst p;obtain⟨f,d,p⟩:=cy.shape;subst p;clear t a9 co N b0 cb cg F;refine c.out _ _ u (fun eu=> ?_)
   clear c K;refine tq 8 (yDV y f d) rfl (fun _ _=>by kernel_rfl) eu ?_
   refine wpAnyH_ready (rs:=[10]) (by kernel_rfl) (by simp) ?_;refine AllReadyH.cons rfl (fun K c=> ?_) AllReadyH.nil
   have h:But a6 bl (bl.setCells a6 0 (yDL y f d)):=de _ _ _ _;have B:bl.there a6 0 3:=dD ad;have cw:au (bl.setCells a6 0 (yDL y f d)) a6 48 (yDL y f d):=ad.sets _ rfl;have d1:=h.rd cy (aX cy ad (by simp));have e9:=h.loc u (by omega);have cd:=h.below eh (by omega);rw[if_pos (by kernel_rfl)];refine wp_store_mid 48 (.tmp 4) (.tmp 13) rfl a6 0 (yDA y f d) (by kernel_rfl) (by kernel_rfl) B (by kernel_rfl) (by simp[Value.oneCell']) ?_;refine c.out _ _ e9 (fun fo=> ?_)
   clear c K;clear ad f4 cy u eh h B;refine wpAnyH_done (by kernel_rfl) ?_ _;clear P cl en fl ep eu fo;change Exit.then _ _ _ _ (World.setCells bl a6 0 (yDL y f d));generalize World.setCells bl a6 0 (yDL y f d)=gg at e9 cw d1 cd⊢;simp only[Act.put,List.getElem_toArray,List.getElem_cons_succ,List.getElem_cons_zero];obtain⟨bz,an,c0⟩:=cw.cs3
   go_wp2_with fail
   refine(G.out _ _ _ cd d1).mono ?_;rintro q h2 ⟨rfl,cj⟩;have f1:=cw.l cj;have f8:=d1.l cj;have bs:=aa cd cj;clear e9 cw d1 cd cj G bz an c0;obtain⟨c1,ap,dq⟩:=f1.cs3
   go_wp2_with fail
   refine(H.out _ _ _ bs f8).mono ?_;rintro q h5 ⟨rfl,ek⟩;have fc:=aa bs ek;clear f1 f8 bs ek H c1 ap dq
   go_wp2
   go_ret2
   exact⟨by simp,fc⟩
 ·go_simp
  have bn:=af ae (.cells (ydA false yN 0) 48);have cn:=ah ae (ydL false yN 0) 48;have fr:w.heap.size≤ae.heap.size:=b8.size;have fs:=q8.lt;have g2:=t9 r9 (Nat.le_refl ae.heap.size);have g3:=t9 bg (Nat.le_refl ae.heap.size);have Z:=q8.l bn;have eb:=r9.l bn;have Q:=bg.l bn;have d3:=aa b8 bn;refine c.out _ _ Z (fun em=> ?_)
  clear c K;clear q8 r9 bg b8 bn;generalize ae.alloc (.cells (ydA false yN 0) 48)=gj at Z cn eb Q d3 em⊢;generalize ae.heap.size=a5 at cn fr fs g2 g3⊢;refine wpAnyH_ready (rs:=[2]) (by kernel_rfl) (by simp) ?_;refine AllReadyH.cons rfl (fun K c=> ?_) AllReadyH.nil
  go_simp
  refine(H1.out _).mono ?_;rintro q h0 ⟨rfl,ba⟩;have i:=Z.l ba;have ey:=cn.l ba;have bi:=eb.l ba;have f6:=Q.l ba;have eg:=aa d3 ba;clear Z cn eb Q d3 ba H1;refine c.out _ _ i (fun fk=> ?_)
  clear c K;refine wpAnyH_ready (rs:=[5]) (by kernel_rfl) (by simp) ?_;refine AllReadyH.cons rfl (fun K c=> ?_) AllReadyH.nil
  go_simp
  refine(H2.out _).mono ?_;rintro q b4 ⟨rfl,bd⟩;have a8:=i.l bd;have e7:=ey.l bd;have ay:=bi.l bd;have ed:=f6.l bd;have d6:=aa eg bd;clear i ey bi f6 eg bd H2;refine c.out _ _ a8 (fun fn=> ?_)
  clear c K;refine wpAnyH_ready (rs:=[6]) (by kernel_rfl) (by simp) ?_;refine AllReadyH.cons rfl (fun K c=> ?_) AllReadyH.nil
  go_simp
  have b7:=af b4 (.cells #[.bool false,yT k a.n j,yi a.e,.bool false,yT o b.n m,yi b.e] 48);have cp:=ah b4 [.bool false,yT k a.n j,yi a.e,.bool false,yT o b.n m,yi b.e] 48;have ar:w.heap.size≤b4.heap.size:=d6.size;have e1:=a8.lt;have fx:=e7.lt;have e6:=t9 ay (Nat.le_refl b4.heap.size);have g6:=t9 ed (Nat.le_refl b4.heap.size);have a9:=a8.l b7;have e8:=e7.l b7;have b0:=ay.l b7;have ee:=ed.l b7;have cc:=aa d6 b7;refine c.out _ _ a9 (fun es=> ?_)
  clear c K;clear a8 e7 ay ed d6 b7;generalize b4.alloc (.cells #[.bool false,yT k a.n j,yi a.e,.bool false,yT o b.n m,yi b.e] 48)=gp at a9 e8 cp b0 ee cc es⊢;generalize b4.heap.size=gc at cp ar e1 fx e6 g6⊢;refine wpAnyH_ready (rs:=[7]) (by kernel_rfl) (by simp) ?_;refine AllReadyH.cons rfl (fun K c=> ?_) AllReadyH.nil
  go_simp
  refine(F.out _ _ cc cp b0 ee).mono ?_;rintro q bm ⟨gv,gz,rfl,f5,cz,ch⟩;have ad:=a9.l ch;have cv:=e8.l ch;have ei:=aa cc ch;obtain⟨xo,xc,p⟩:=f5.shape;subst p;obtain⟨f,d,p⟩:=cz.shape;subst p;clear a9 e8 cp b0 ee cc ch F;refine c.out _ _ ad (fun ev=> ?_)
  clear c K;refine tq 8 (yDV y f d) rfl (fun _ _=>by kernel_rfl) ev ?_
  refine wpAnyH_ready (rs:=[10]) (by kernel_rfl) (by simp) ?_;refine AllReadyH.cons rfl (fun K c=> ?_) AllReadyH.nil
  have h:But a5 bm (bm.setCells a5 0 (yDL y f d)):=de _ _ _ _;have B:bm.there a5 0 3:=dD cv;have J:au (bm.setCells a5 0 (yDL y f d)) a5 48 (yDL y f d):=cv.sets _ rfl;have d2:=h.rd cz (aX cz cv (by simp));have ea:=h.loc ad (by omega);have ce:=h.below ei (by omega);rw[if_pos (by kernel_rfl)];refine wp_store_mid 48 (.tmp 4) (.tmp 13) rfl a5 0 (yDA y f d) (by kernel_rfl) (by kernel_rfl) B (by kernel_rfl) (by simp[Value.oneCell']) ?_;refine c.out _ _ ea (fun fp=> ?_)
  clear c K;clear cv f5 cz ad ei h B;refine wpAnyH_done (by kernel_rfl) ?_ _;clear P em fk fn es ev fp;change Exit.then _ _ _ _ (World.setCells bm a5 0 (yDL y f d));generalize World.setCells bm a5 0 (yDL y f d)=gi at ea J d2 ce⊢;simp only[Act.put,List.getElem_toArray,List.getElem_cons_succ,List.getElem_cons_zero];obtain⟨an,c0,dn⟩:=J.cs3
  go_wp2_with fail
  refine(G.out _ _ _ ce d2).mono ?_;rintro q h3 ⟨rfl,ck⟩;have f2:=J.l ck;have f9:=d2.l ck;have db:=aa ce ck;clear ea J d2 ce ck G an c0 dn;obtain⟨ap,dq,fj⟩:=f2.cs3
  go_wp2_with fail
  refine(H.out _ _ _ db f9).mono ?_;rintro q h6 ⟨rfl,el⟩;have fd:=aa db el;clear f2 f9 db el H ap dq fj
  go_wp2
  go_ret2
  exact⟨by simp,fd⟩
end Go.Proofs.YthhiidikgchdeabGreatDoor

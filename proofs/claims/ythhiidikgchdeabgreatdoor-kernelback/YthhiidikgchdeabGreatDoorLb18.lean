/- Texts laid together. -/
import Derived.Test.YthhiidikgchdeabGreatDoorLb10
import Derived.Test.YthhiidikgchdeabGreatDoorLb13
set_option maxRecDepth 100000
set_option maxHeartbeats 6400000
namespace Go.Proofs.YthhiidikgchdeabGreatDoor
open _root_.Go.Proofs.Tryz
open Go.RowKit
theorem iG (w:World)(a:List Value)(b:TypeId)(c:List Value)(d:TypeId): ∃W,(w.alloc (.cells a.toArray b)).alloc (.cells c.toArray d)=W∧au W w.heap.size b a∧au W (w.heap.size+1) d c∧yB w W:=by
 obtain⟨W,rfl,h,g⟩:=cA w a b;have f:=ah (w.alloc (.cells a.toArray b)) c d;have e:=af (w.alloc (.cells a.toArray b)) (.cells c.toArray d);rw[World.size_alloc] at f;exact⟨_,rfl,h.l e,f,aa g e⟩
theorem lG (w:World)(a:List Value)(c:TypeId)(b:List Value)(d:TypeId)(e:List Value)(f:TypeId): ∃W,((w.alloc (.cells a.toArray c)).alloc (.cells b.toArray d)).alloc (.cells e.toArray f)=W∧au W w.heap.size c a∧au W (w.heap.size+1) d b∧au W (w.heap.size+1+1) f e∧yB w W:=by
 obtain⟨W,rfl,j,k,i⟩:=iG w a c b d;have h:=ah ((w.alloc (.cells a.toArray c)).alloc (.cells b.toArray d)) e f;have g:=af ((w.alloc (.cells a.toArray c)).alloc (.cells b.toArray d)) (.cells e.toArray f);rw[World.size_alloc,World.size_alloc] at h;exact⟨_,rfl,j.l g,k.l g,h,aa i g⟩
theorem refDP_geq_mg:
  (∀(g o E L M O Q:Int) (q r:Bool) (z B:Option Addr) (d f y A:Nat) (X Y Z:Nat) (t:ak) (w:World) (cm:Int) (_:(q==r)=false) (_:cm≥0) (_:((d:Int)==0)=false∧((f:Int)==0)=false∧min g o=E∨((d:Int)==0)=true∧((f:Int)==0)=false∧o=E∨((d:Int)==0)=false∧((f:Int)==0)=true∧g=E∨((d:Int)==0)=true∧((f:Int)==0)=true∧g=E) (_:IntKind.i64.wrap (g-E)=L) (_:IntKind.i64.wrap (o-E)=M) (_:max 0 L=O) (_:max 0 M=Q)
  (_: ∀a,yB w a→yC 90 #[.slice z d y,yi O] a (cG a X))
  (_: ∀a,yB w a→yC 90 #[.slice B f A,yi Q] a (cG a Y))
  (_: ∀j i m k a,yB w a→Rd a .i64 (yS j X i) (Dg.dg 65536 X)→Rd a .i64 (yS m Y k) (Dg.dg 65536 Y)→yC 92 #[yS j X i,yS m Y k] a (yR a (yi cm)))
  (_: ∀j i m k a,yB w a→Rd a .i64 (yS j X i) (Dg.dg 65536 X)→Rd a .i64 (yS m Y k) (Dg.dg 65536 Y)→yC 93 #[yS j X i,yS m Y k] a (cG a Z))
  (_: ∀G F a,yB w a→Rd a .i64 (yS G Z F) (Dg.dg 65536 Z)→yC 48 #[ydV q (yS G Z F) E] a (Xi w.heap.size a t)),
  yC 50 #[ydV q (.slice z d y) g,ydV r (.slice B f A) o] w (di w t))∧
  (∀(g o E L M O Q:Int) (q r:Bool) (z B:Option Addr) (d f y A:Nat) (X Y Z:Nat) (t:ak) (w:World) (cm:Int) (_:(q==r)=false) (_: ¬cm≥0) (_:((d:Int)==0)=false∧((f:Int)==0)=false∧min g o=E∨((d:Int)==0)=true∧((f:Int)==0)=false∧o=E∨((d:Int)==0)=false∧((f:Int)==0)=true∧g=E∨((d:Int)==0)=true∧((f:Int)==0)=true∧g=E) (_:IntKind.i64.wrap (g-E)=L) (_:IntKind.i64.wrap (o-E)=M) (_:max 0 L=O) (_:max 0 M=Q)
  (_: ∀a,yB w a→yC 90 #[.slice z d y,yi O] a (cG a X))
  (_: ∀a,yB w a→yC 90 #[.slice B f A,yi Q] a (cG a Y))
  (_: ∀j i m k a,yB w a→Rd a .i64 (yS j X i) (Dg.dg 65536 X)→Rd a .i64 (yS m Y k) (Dg.dg 65536 Y)→yC 92 #[yS j X i,yS m Y k] a (yR a (yi cm)))
  (_: ∀j i m k a,yB w a→Rd a .i64 (yS j X i) (Dg.dg 65536 X)→Rd a .i64 (yS m Y k) (Dg.dg 65536 Y)→yC 93 #[yS m Y k,yS j X i] a (cG a Z))
  (_: ∀G F a,yB w a→Rd a .i64 (yS G Z F) (Dg.dg 65536 Z)→yC 48 #[ydV r (yS G Z F) E] a (Xi w.heap.size a t)),
  yC 50 #[ydV q (.slice z d y) g,ydV r (.slice B f A) o] w (di w t)):=by
 refine⟨?_, ?_⟩;have _z:Mgk 0:=mgkI 0
 all_goals
  intro g o E L M O Q q r z B d f y A X Y Z t w cm hs hc hc ch ci cj ck HU HV HC HP HB;replace HU:Hid _:=HU;replace HV:Hid _:=HV;replace HC:Hid _:=HC;replace HP:Hid _:=HP;replace HB:Hid _:=HB;obtain⟨W5,a6,q1,q2,q3,b4⟩:=lG w (ydL q (.slice z d y) g) 43 (ydL r (.slice B f A) o) 43 (ydL false yN 0) 43;replace a6:Hid _:=a6
  go_enter func50,ntmps50
  go_upto_region 1 with fail
  rw[a6.out];clear a6;have c7:=q1.c 1 rfl;have c8:=q1.c 2 rfl;have c9:=q2.c 1 rfl;have bm:=q2.c 2 rfl
  rcases hc with⟨b0,b1,hE⟩| ⟨b0,b1,hE⟩| ⟨b0,b1,hE⟩| ⟨b0,b1,hE⟩
  all_goals try rw[hE] at c8
  all_goals try rw[hE] at bm
  all_goals
   go_upto_region 6 with fail
   clear hE;clear c7 c8 c9 bm;have a1:yB W5 W5.drew:=(Below.refl _ _).drew;have a7:=q1.l a1;have a8:=q2.l a1;have b3:=q3.l a1;have a4:=aa b4 a1;clear q1 q2 q3 b4 a1;refine wp_region_held_drew (S:=fun wq=>au wq w.heap.size 43 (ydL q (.slice z d y) g)∧au wq (w.heap.size+1) 43 (ydL r (.slice B f A) o)) (by kernel_rfl) ⟨a7,a8⟩ (fun b=> ?_)
   generalize W5.drew=ce at a7 a8 b3 a4 b⊢;refine tq 0 (.pointer (some ⟨w.heap.size,1,none⟩)) rfl (fun _ _=>by kernel_rfl) b ?_
   refine tq 1 (.slice z d y) rfl (fun _ u=>gU 41 (.tmp 25) rfl w.heap.size 1 (by kernel_rfl) _ _ underlying41 rfl (u.1.c 1 rfl)) b ?_
   refine tq 2 (.pointer (some ⟨w.heap.size,2,none⟩)) rfl (fun _ _=>by kernel_rfl) b ?_
   refine tq 3 (yi g) rfl (fun _ u=>gU 3 (.tmp 27) rfl w.heap.size 2 (by kernel_rfl) _ _ underlying3 rfl (u.1.c 2 rfl)) b ?_
   refine tq 4 (yi E) rfl (fun _ _=>by kernel_rfl) b ?_
   refine tq 5 (yi L) rfl (fun _ _=>by go_simp) b ?_
   refine tq 6 (yi O) rfl (fun _ _=>by go_simp) b ?_
   refine tq 8 (.pointer (some ⟨w.heap.size+1,1,none⟩)) rfl (fun _ _=>by kernel_rfl) b ?_
   refine tq 9 (.slice B f A) rfl (fun _ u=>gU 41 (.tmp 33) rfl (w.heap.size+1) 1 (by kernel_rfl) _ _ underlying41 rfl (u.2.c 1 rfl)) b ?_
   refine tq 10 (.pointer (some ⟨w.heap.size+1,2,none⟩)) rfl (fun _ _=>by kernel_rfl) b ?_
   refine tq 11 (yi o) rfl (fun _ u=>gU 3 (.tmp 35) rfl (w.heap.size+1) 2 (by kernel_rfl) _ _ underlying3 rfl (u.2.c 2 rfl)) b ?_
   refine tq 12 (yi E) rfl (fun _ _=>by kernel_rfl) b ?_
   refine tq 13 (yi M) rfl (fun _ _=>by go_simp) b ?_
   refine tq 14 (yi Q) rfl (fun _ _=>by go_simp) b ?_
   refine wpAnyH_ready (rs:=[7]) (by kernel_rfl) (by simp) ?_;refine AllReadyH.cons rfl (fun K p=> ?_) AllReadyH.nil
   go_simp
   refine(HU.out _ a4).mono ?_;rintro zz cr ⟨cl,rfl,bb,a2⟩;have b5:=a7.l a2;have b6:=a8.l a2;have bn:=b3.l a2;have ar:=aa a4 a2;obtain⟨j,i,N⟩:=bb.shape;subst N;clear a7 a8 b3 a4 a2 HU;refine p.out _ _ ⟨b5,b6⟩ (fun c4=> ?_)
   clear p K;refine wpAnyH_ready (rs:=[15]) (by kernel_rfl) (by simp) ?_;refine AllReadyH.cons rfl (fun K p=> ?_) AllReadyH.nil
   go_simp
   refine(HV.out _ ar).mono ?_;rintro zz cs ⟨cn,rfl,ae,U⟩;have a9:=b5.l U;have ad:=b6.l U;have bp:=bn.l U;have bd:=bb.l U;have av:=aa ar U;obtain⟨m,k,N⟩:=ae.shape;subst N;clear b5 b6 bn bb ar U HV;refine p.out _ _ ⟨a9,ad⟩ (fun ay=> ?_)
   clear p K;refine tq 16 (yS j X i) rfl (fun _ _=>by kernel_rfl) ay ?_
   refine tq 17 (yS m Y k) rfl (fun _ _=>by kernel_rfl) ay ?_
   refine wpAnyH_done (by kernel_rfl) ?_ _;clear b c4 ay;simp only[Act.put,List.getElem_toArray,List.getElem_cons_succ,List.getElem_cons_zero,List.setIfInBounds_toArray,List.set_cons_zero,List.set_cons_succ];have c2:=a9.c 0 rfl;have c3:=ad.c 0 rfl
   go_wp2_with fail
   refine(HC.out _ _ _ _ _ av bd ae).mono ?_;rintro zz bh ⟨rfl,H⟩
   first| (rename Mgk 0=>_z;have b7:=a9.l H)| (have b7:=ad.l H)
   have bq:=bp.l H;have bw:=bd.l H;have bx:=ae.l H;have bi:=aa av H;clear a9 ad bp bd ae av H HC c2 c3
   first| (rename Mgk 0=>_z;go_upto_region 10 with fail)| (go_upto_region 11 with fail)
   have T:yB bh bh.drew:=(Below.refl _ _).drew;have a3:=b7.l T;have b8:=bq.l T;have ap:=bw.l T;have aq:=bx.l T;have a5:=aa bi T;clear b7 bq bw bx bi T
   first| (rename Mgk 0=>_z;refine wp_region_held_drew (S:=fun wq=>au wq w.heap.size 43 (ydL q (.slice z d y) g)) (by kernel_rfl) a3 (fun b=> ?_))| (refine wp_region_held_drew (S:=fun wq=>au wq (w.heap.size+1) 43 (ydL r (.slice B f A) o)) (by kernel_rfl) a3 (fun b=> ?_))
   generalize bh.drew=cg at a3 b8 ap aq a5 b⊢
   first| (rename Mgk 0=>_z;refine tk 0 (.pointer (some ⟨w.heap.size,0,none⟩)) rfl (by kernel_rfl) (fun _ _ _ h=>h) (fun _ _=>by kernel_rfl) b ?_)| (refine tk 0 (.pointer (some ⟨w.heap.size+1,0,none⟩)) rfl (by kernel_rfl) (fun _ _ _ h=>h) (fun _ _=>by kernel_rfl) b ?_)
   first| (rename Mgk 0=>_z;refine tk 1 (.bool q) rfl (by kernel_rfl) (fun _ _ _ h=>h) (fun _ u=>gU 4 (.tmp 58) rfl w.heap.size 0 (by kernel_rfl) _ _ underlying4 rfl (u.c 0 rfl)) b ?_)| (refine tk 1 (.bool r) rfl (by kernel_rfl) (fun _ _ _ h=>h) (fun _ u=>gU 4 (.tmp 66) rfl (w.heap.size+1) 0 (by kernel_rfl) _ _ underlying4 rfl (u.c 0 rfl)) b ?_)
   first| (rename Mgk 0=>_z;refine tk 2 (yS j X i) rfl (by kernel_rfl) (fun _ _ _ h=>h) (fun _ _=>by kernel_rfl) b ?_)| (refine tk 2 (yS m Y k) rfl (by kernel_rfl) (fun _ _ _ h=>h) (fun _ _=>by kernel_rfl) b ?_)
   first| (rename Mgk 0=>_z;refine tk 3 (yS m Y k) rfl (by kernel_rfl) (fun _ _ _ h=>h) (fun _ _=>by kernel_rfl) b ?_)| (refine tk 3 (yS j X i) rfl (by kernel_rfl) (fun _ _ _ h=>h) (fun _ _=>by kernel_rfl) b ?_)
   refine tq 5 (yi E) rfl (fun _ _=>by kernel_rfl) b ?_
   refine wpAnyH_ready (rs:=[4]) (by kernel_rfl) (by simp) ?_;refine AllReadyH.cons rfl (fun K p=> ?_) AllReadyH.nil
   go_simp
   refine(HP.out _ _ _ _ _ a5 ap aq).mono ?_;rintro zz ct ⟨co,rfl,al,W⟩;have b9:=a3.l W;have bs:=b8.l W;have bz:=ap.l W;have c0:=aq.l W;have ax:=aa a5 W;obtain⟨G,F,N⟩:=al.shape;subst N;clear a3 b8 ap aq a5 W HP;refine p.out _ _ b9 (fun az=> ?_)
   clear p K
   first| (rename Mgk 0=>_z;refine tk 6 (ydV q (yS G Z F) E) rfl (by kernel_rfl) (fun _ _ _ h=>h) (fun _ _=>by kernel_rfl) az ?_)| (refine tk 6 (ydV r (yS G Z F) E) rfl (by kernel_rfl) (fun _ _ _ h=>h) (fun _ _=>by kernel_rfl) az ?_)
   refine wpAnyH_ready (rs:=[7]) (by kernel_rfl) (by simp) ?_;refine AllReadyH.cons rfl (fun K p=> ?_) AllReadyH.nil
   go_simp
   refine(HB.out _ _ _ ax al).mono ?_;rintro zz a0 ⟨cp,rfl,an,I,hF⟩;have ba:=b9.l I;have R:=bs.l I;have be:=bz.l I;have bf:=c0.l I;have bg:=al.l I;have bj:=aa ax I;obtain⟨D,C,N⟩:=an.shape;subst N;clear b9 bs bz c0 al ax I HB;refine p.out _ _ ba (fun c5=> ?_)
   clear p K;refine wpAnyH_ready (rs:=[8]) (by kernel_rfl) (by simp) ?_;refine AllReadyH.cons rfl (fun K p=> ?_) AllReadyH.nil
   have J:But (w.heap.size+1+1) a0 (a0.setCells (w.heap.size+1+1) 0 (ydL t.s (yS D t.n C) t.e)):=de _ _ _ _;have b2:a0.there (w.heap.size+1+1) 0 3:=dD R;have bt:au (a0.setCells (w.heap.size+1+1) 0 (ydL t.s (yS D t.n C) t.e)) (w.heap.size+1+1) 43 (ydL t.s (yS D t.n C) t.e):=R.sets _ rfl;have ca:=J.rd be (cq be (Dg.norm_dg _ _ (by omega)) R (fun x v n hn=>by simp at v;rcases v with rfl|rfl|rfl<;>simp;all_goals omega))
   have cb:=J.rd bf (cq bf (Dg.norm_dg _ _ (by omega)) R (fun x v n hn=>by simp at v;rcases v with rfl|rfl|rfl<;>simp;all_goals omega))
   have cc:=J.rd bg (cq bg (Dg.norm_dg _ _ (by omega)) R (fun x v n hn=>by simp at v;rcases v with rfl|rfl|rfl<;>simp;all_goals omega))
   have c1:=J.rd an (cq an (Dg.norm_dg _ _ (by omega)) R (fun x v n hn=>by simp at v;rcases v with rfl|rfl|rfl<;>simp;all_goals omega))
   have bv:=J.loc ba (by omega);have bl:=J.below bj (by omega);rw[if_pos (by kernel_rfl)]
   first| (rename Mgk 0=>_z;refine wp_store_mid 43 (.tmp 4) (.tmp 65) rfl (w.heap.size+1+1) 0 (ydA t.s (yS D t.n C) t.e) (by kernel_rfl) (by kernel_rfl) b2 (by kernel_rfl) (by simp[Value.oneCell']) ?_)| (refine wp_store_mid 43 (.tmp 4) (.tmp 73) rfl (w.heap.size+1+1) 0 (ydA t.s (yS D t.n C) t.e) (by kernel_rfl) (by kernel_rfl) b2 (by kernel_rfl) (by simp[Value.oneCell']) ?_)
   refine p.out _ _ bv (fun c6=> ?_)
   clear p K;clear R be bf bg an ba bj J b2;refine wpAnyH_done (by kernel_rfl) ?_ _;clear b az c5 c6;change Exit.then _ _ _ _ (World.setCells a0 (w.heap.size+1+1) 0 (ydL t.s (yS D t.n C) t.e));generalize World.setCells a0 (w.heap.size+1+1) 0 (ydL t.s (yS D t.n C) t.e)=cd at bv bt ca cb cc c1 bl⊢;simp only[Act.put,List.getElem_toArray,List.getElem_cons_succ,List.getElem_cons_zero];have hl:=run_loadVar_mid (P:=Tryz.prog) _ (w.heap.size+1+1) 0 43 (ydL t.s (yS D t.n C) t.e) _ bt.range underlying43 rfl (by kernel_rfl)
   go_wp2
   exact bodyPost_ret (br results50 rfl hl) rfl ⟨_,rfl,c1,hF.out,bl⟩
end Go.Proofs.YthhiidikgchdeabGreatDoor

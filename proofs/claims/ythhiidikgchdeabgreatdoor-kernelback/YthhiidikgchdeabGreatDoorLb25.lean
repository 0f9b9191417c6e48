/- Texts laid together. -/
import Derived.Test.YthhiidikgchdeabGreatDoorLb18
set_option maxRecDepth 100000
set_option maxHeartbeats 3200000
namespace Go.Proofs.YthhiidikgchdeabGreatDoor
open _root_.Go.Proofs.Tryz
open Go.RowKit
theorem refDP_same (i p E da db ma mb:Int)(h:Bool)(z J:Option Addr)(g k y I:Nat)(X Y Z:Nat)(t:ak)(w:World)(hc:((g:Int)==0)=false∧((k:Int)==0)=false∧min i p=E∨((g:Int)==0)=true∧((k:Int)==0)=false∧p=E∨((g:Int)==0)=false∧((k:Int)==0)=true∧i=E∨((g:Int)==0)=true∧((k:Int)==0)=true∧i=E)(c4:IntKind.i64.wrap (i-E)=da)(c5:IntKind.i64.wrap (p-E)=db)(c6:max 0 da=ma)(ca:max 0 db=mb)
  (T: ∀b,yB w b→yC 90 #[.slice z g y,yi ma] b (cG b X))
  (U: ∀b,yB w b→yC 90 #[.slice J k I,yi mb] b (cG b Y))
  (R: ∀M L O N b,yB w b→Rd b .i64 (yS M X L) (Dg.dg 65536 X)→Rd b .i64 (yS O Y N) (Dg.dg 65536 Y)→yC 91 #[yS M X L,yS O Y N] b (cG b Z))
  (Q: ∀zo zc b,yB w b→Rd b .i64 (yS zo Z zc) (Dg.dg 65536 Z)→yC 48 #[ydV h (yS zo Z zc) E] b (Xi w.heap.size b t)):
  yC 50 #[ydV h (.slice z g y) i,ydV h (.slice J k I) p] w (di w t):=by
 replace T:Hid _:=T;replace U:Hid _:=U;replace R:Hid _:=R;replace Q:Hid _:=Q;obtain⟨W5,a1,q1,q2,q3,b4⟩:=lG w (ydL h (.slice z g y) i) 43 (ydL h (.slice J k I) p) 43 (ydL false yN 0) 43;replace a1:Hid _:=a1
 go_enter func50,ntmps50
 go_upto_region 1 with fail
 rw[a1.out];clear a1;have c7:=q1.c 1 rfl;have c8:=q1.c 2 rfl;have c9:=q2.c 1 rfl;have bb:=q2.c 2 rfl
 rcases hc with⟨an,ap,D⟩| ⟨an,ap,D⟩| ⟨an,ap,D⟩| ⟨an,ap,D⟩
 all_goals try rw[D] at c8
 all_goals try rw[D] at bb
 all_goals
  go_upto_region 6 with fail
  clear D;clear c7 c8 c9 bb;have G:yB W5 W5.drew:=(Below.refl _ _).drew;have a2:=q1.l G;have a3:=q2.l G;have aq:=q3.l G;have W:=aa b4 G;clear q1 q2 q3 b4 G;refine wp_region_held_drew (S:=fun wq=>au wq w.heap.size 43 (ydL h (.slice z g y) i)∧au wq (w.heap.size+1) 43 (ydL h (.slice J k I) p)) (by kernel_rfl) ⟨a2,a3⟩ (fun a=> ?_)
  generalize W5.drew=c2 at a2 a3 aq W a⊢;refine tq 0 (.pointer (some ⟨w.heap.size,1,none⟩)) rfl (fun _ _=>by kernel_rfl) a ?_
  refine tq 1 (.slice z g y) rfl (fun _ j=>gU 41 (.tmp 25) rfl w.heap.size 1 (by kernel_rfl) _ _ underlying41 rfl (j.1.c 1 rfl)) a ?_
  refine tq 2 (.pointer (some ⟨w.heap.size,2,none⟩)) rfl (fun _ _=>by kernel_rfl) a ?_
  refine tq 3 (yi i) rfl (fun _ j=>gU 3 (.tmp 27) rfl w.heap.size 2 (by kernel_rfl) _ _ underlying3 rfl (j.1.c 2 rfl)) a ?_
  refine tq 4 (yi E) rfl (fun _ _=>by kernel_rfl) a ?_
  refine tq 5 (yi da) rfl (fun _ _=>by go_simp) a ?_
  refine tq 6 (yi ma) rfl (fun _ _=>by go_simp) a ?_
  refine tq 8 (.pointer (some ⟨w.heap.size+1,1,none⟩)) rfl (fun _ _=>by kernel_rfl) a ?_
  refine tq 9 (.slice J k I) rfl (fun _ j=>gU 41 (.tmp 33) rfl (w.heap.size+1) 1 (by kernel_rfl) _ _ underlying41 rfl (j.2.c 1 rfl)) a ?_
  refine tq 10 (.pointer (some ⟨w.heap.size+1,2,none⟩)) rfl (fun _ _=>by kernel_rfl) a ?_
  refine tq 11 (yi p) rfl (fun _ j=>gU 3 (.tmp 35) rfl (w.heap.size+1) 2 (by kernel_rfl) _ _ underlying3 rfl (j.2.c 2 rfl)) a ?_
  refine tq 12 (yi E) rfl (fun _ _=>by kernel_rfl) a ?_
  refine tq 13 (yi db) rfl (fun _ _=>by go_simp) a ?_
  refine tq 14 (yi mb) rfl (fun _ _=>by go_simp) a ?_
  refine wpAnyH_ready (rs:=[7]) (by kernel_rfl) (by simp) ?_;refine AllReadyH.cons rfl (fun K d=> ?_) AllReadyH.nil
  go_simp
  refine(T.out _ W).mono ?_;rintro zz cg ⟨cb,rfl,b1,H⟩;have ar:=a2.l H;have av:=a3.l H;have bf:=aq.l H;have ad:=aa W H;obtain⟨M,L,q⟩:=b1.shape;subst q;clear a2 a3 aq W H T;refine d.out _ _ ⟨ar,av⟩ (fun bt=> ?_)
  clear d K;refine wpAnyH_ready (rs:=[15]) (by kernel_rfl) (by simp) ?_;refine AllReadyH.cons rfl (fun K d=> ?_) AllReadyH.nil
  go_simp
  refine(U.out _ ad).mono ?_;rintro zz b7 ⟨cc,rfl,b2,B⟩;have a4:=ar.l B;have ax:=av.l B;have bg:=bf.l B;have bl:=b1.l B;have b8:=aa ad B;obtain⟨O,N,q⟩:=b2.shape;subst q;clear ar av bf b1 ad B U;refine d.out _ _ ⟨a4,ax⟩ (fun al=> ?_)
  clear d K;refine tq 16 (yS M X L) rfl (fun _ _=>by kernel_rfl) al ?_
  refine tq 17 (yS O Y N) rfl (fun _ _=>by kernel_rfl) al ?_
  refine wpAnyH_done (by kernel_rfl) ?_ _;clear a bt al;simp only[Act.put,List.getElem_toArray,List.getElem_cons_succ,List.getElem_cons_zero,List.setIfInBounds_toArray,List.set_cons_zero,List.set_cons_succ];have bq:=a4.c 0 rfl;have bs:=ax.c 0 rfl
  go_upto_region 8 with fail
  clear bq bs;have A:yB b7 b7.drew:=(Below.refl _ _).drew;have a5:=a4.l A;have ay:=bg.l A;have a8:=bl.l A;have a9:=b2.l A;have a0:=aa b8 A;clear a4 ax bg bl b2 b8 A;refine wp_region_held_drew (S:=fun wq=>au wq w.heap.size 43 (ydL h (.slice z g y) i)) (by kernel_rfl) a5 (fun a=> ?_)
  generalize b7.drew=c3 at a5 ay a8 a9 a0 a⊢;refine tq 0 (.pointer (some ⟨w.heap.size,0,none⟩)) rfl (fun _ _=>by kernel_rfl) a ?_
  refine tq 1 (.bool h) rfl (fun _ j=>gU 4 (.tmp 46) rfl w.heap.size 0 (by kernel_rfl) _ _ underlying4 rfl (j.c 0 rfl)) a ?_
  refine tq 2 (yS M X L) rfl (fun _ _=>by kernel_rfl) a ?_
  refine tq 3 (yS O Y N) rfl (fun _ _=>by kernel_rfl) a ?_
  refine tq 5 (yi E) rfl (fun _ _=>by kernel_rfl) a ?_
  refine wpAnyH_ready (rs:=[4]) (by kernel_rfl) (by simp) ?_;refine AllReadyH.cons rfl (fun K d=> ?_) AllReadyH.nil
  go_simp
  refine(R.out _ _ _ _ _ a0 a8 a9).mono ?_;rintro zz ch ⟨cd,rfl,a6,C⟩;have az:=a5.l C;have bh:=ay.l C;have bm:=a8.l C;have bn:=a9.l C;have ae:=aa a0 C;obtain⟨zo,zc,q⟩:=a6.shape;subst q;clear a5 ay a8 a9 a0 C R;refine d.out _ _ az (fun bd=> ?_)
  clear d K;refine tq 6 (ydV h (yS zo Z zc) E) rfl (fun _ _=>by kernel_rfl) bd ?_
  refine wpAnyH_ready (rs:=[7]) (by kernel_rfl) (by simp) ?_;refine AllReadyH.cons rfl (fun K d=> ?_) AllReadyH.nil
  go_simp
  refine(Q.out _ _ _ ae a6).mono ?_;rintro zz F ⟨ce,rfl,a7,m,hF⟩;have b0:=az.l m;have r:=bh.l m;have b3:=bm.l m;have b5:=bn.l m;have b6:=a6.l m;have b9:=aa ae m;obtain⟨v,u,q⟩:=a7.shape;subst q;clear az bh bm bn a6 ae m Q;refine d.out _ _ b0 (fun bv=> ?_)
  clear d K;refine wpAnyH_ready (rs:=[8]) (by kernel_rfl) (by simp) ?_;refine AllReadyH.cons rfl (fun K d=> ?_) AllReadyH.nil
  have o:But (w.heap.size+1+1) F (F.setCells (w.heap.size+1+1) 0 (ydL t.s (yS v t.n u) t.e)):=de _ _ _ _;have be:F.there (w.heap.size+1+1) 0 3:=dD r;have bi:au (F.setCells (w.heap.size+1+1) 0 (ydL t.s (yS v t.n u) t.e)) (w.heap.size+1+1) 43 (ydL t.s (yS v t.n u) t.e):=r.sets _ rfl;have bx:=o.rd b3 (cq b3 (Dg.norm_dg _ _ (by omega)) r (fun x f n hn=>by simp at f;rcases f with rfl|rfl|rfl<;>simp;all_goals omega))
  have bz:=o.rd b5 (cq b5 (Dg.norm_dg _ _ (by omega)) r (fun x f n hn=>by simp at f;rcases f with rfl|rfl|rfl<;>simp;all_goals omega))
  have c0:=o.rd b6 (cq b6 (Dg.norm_dg _ _ (by omega)) r (fun x f n hn=>by simp at f;rcases f with rfl|rfl|rfl<;>simp;all_goals omega))
  have bp:=o.rd a7 (cq a7 (Dg.norm_dg _ _ (by omega)) r (fun x f n hn=>by simp at f;rcases f with rfl|rfl|rfl<;>simp;all_goals omega))
  have bj:=o.loc b0 (by omega);have ba:=o.below b9 (by omega);rw[if_pos (by kernel_rfl)];refine wp_store_mid 43 (.tmp 4) (.tmp 53) rfl (w.heap.size+1+1) 0 (ydA t.s (yS v t.n u) t.e) (by kernel_rfl) (by kernel_rfl) be (by kernel_rfl) (by simp[Value.oneCell']) ?_;refine d.out _ _ bj (fun bw=> ?_)
  clear d K;clear r b3 b5 b6 a7 b0 b9 o be;refine wpAnyH_done (by kernel_rfl) ?_ _;clear a bd bv bw;change Exit.then _ _ _ _ (World.setCells F (w.heap.size+1+1) 0 (ydL t.s (yS v t.n u) t.e));generalize World.setCells F (w.heap.size+1+1) 0 (ydL t.s (yS v t.n u) t.e)=c1 at bj bi bx bz c0 bp ba⊢;simp only[Act.put,List.getElem_toArray,List.getElem_cons_succ,List.getElem_cons_zero];have hl:=run_loadVar_mid (P:=Tryz.prog) _ (w.heap.size+1+1) 0 43 (ydL t.s (yS v t.n u) t.e) _ bi.range underlying43 rfl (by kernel_rfl)
  go_wp2
  exact bodyPost_ret (br results50 rfl hl) rfl ⟨_,rfl,bp,hF.out,ba⟩
end Go.Proofs.YthhiidikgchdeabGreatDoor

/-
  Texts laid together: Co11, Co16, Gh3.
-/
import Derived.Test.YtddkchlamdhgcaaGreatDoorSu12
import Derived.Test.YtddkchlamdhgcaaGreatDoorSu15
set_option maxRecDepth 100000
set_option maxHeartbeats 6400000
namespace Go.Proofs.YtddkchlamdhgcaaGreatDoor
open _root_.Go.Proofs.Tryz
open Go.RowKit
theorem KP (R D L G fam sz ex on wr:Int)(gr ng:Bool)(F:Nat)(e f:Int)(w:World)(HO:yJ 123 #[ylV R D L G gr sz ex fam F] (yi on))(HW:yJ 124 #[ylV R D L G gr sz ex fam F] (.int .u64 wr))(h1:on=e)(h2:f≠wr)(_h0:(on==0)=false):yC 112 #[ylV R D L G gr sz ex fam F,yfV ng e f] w (yR w (yi 4)):=by
 have hsf:=cD;replace HO:Hid _:=HO;replace HW:Hid _:=HW;have l0:=(ah w (ylL R D L G gr sz ex fam F) 116).l (af _ (.cells (yfA ng e f) 119));have m0:=ah (w.alloc (.cells (ylA R D L G gr sz ex fam F) 116)) (yfL ng e f) 119;have b0:=aa (af w (.cells (ylA R D L G gr sz ex fam F) 116)) (af _ (.cells (yfA ng e f) 119));rw[World.size_alloc] at m0;subst h1;have hfb:(f==wr)=false:=by simpa using h2
 clear h2;obtain⟨x0,x1,x2,x3,x4,x5,x6,x7,x8⟩:=l0.cs9;obtain⟨u0,u1,u2⟩:=m0.cs3
 go_enter func112,ntmps112
 go_wp2_with fail
 go_region_held3 (fun wq=>(wq.cell? ⟨w.heap.size,0,none⟩=some (yi R)∧wq.cell? ⟨w.heap.size,1,none⟩=some (yi D)∧wq.cell? ⟨w.heap.size,2,none⟩=some (yi L)∧wq.cell? ⟨w.heap.size,3,none⟩=some (yi G)∧wq.cell? ⟨w.heap.size,4,none⟩=some (.bool gr)∧wq.cell? ⟨w.heap.size,5,none⟩=some (yi sz)∧wq.cell? ⟨w.heap.size,6,none⟩=some (yi ex)∧wq.cell? ⟨w.heap.size,7,none⟩=some (yi fam)∧wq.cell? ⟨w.heap.size,8,none⟩=some (.func (.func F) #[] #[]))∧(wq.cell? ⟨w.heap.size+1,0,none⟩=some (.bool ng)∧wq.cell? ⟨w.heap.size+1,1,none⟩=some (yi on)∧wq.cell? ⟨w.heap.size+1,2,none⟩=some (.int .u64 f))) (go_keep) (first
  | (go_at_call 123;refine(HO.out _).mono ?_;rintro z w2 ⟨rfl,b2⟩;have l2:=l0.drew.l b2;have m2:=m0.drew.l b2;have b02:=aa b0.drew b2;obtain⟨y0,y1,y2,y3,y4,y5,y6,y7,y8⟩:=l2.cs9;obtain⟨v0,v1,v2⟩:=m2.cs3)
  | (go_at_call 124;refine(HW.out _).mono ?_;rintro z w3 ⟨rfl,b3⟩;have l3:=l2.l b3;have m3:=m2.l b3;have b03:=aa b02 b3;obtain⟨z0,z1,z2,z3,z4,z5,z6,z7,z8⟩:=l3.cs9;obtain⟨t0,t1,t2⟩:=m3.cs3))
 go_wp2_with fail
 refine wp_region_held_drew (S:=(fun wq=>(wq.cell? ⟨w.heap.size,0,none⟩=some (yi R)∧wq.cell? ⟨w.heap.size,1,none⟩=some (yi D)∧wq.cell? ⟨w.heap.size,2,none⟩=some (yi L)∧wq.cell? ⟨w.heap.size,3,none⟩=some (yi G)∧wq.cell? ⟨w.heap.size,4,none⟩=some (.bool gr)∧wq.cell? ⟨w.heap.size,5,none⟩=some (yi sz)∧wq.cell? ⟨w.heap.size,6,none⟩=some (yi ex)∧wq.cell? ⟨w.heap.size,7,none⟩=some (yi fam)∧wq.cell? ⟨w.heap.size,8,none⟩=some (.func (.func F) #[] #[]))∧(wq.cell? ⟨w.heap.size+1,0,none⟩=some (.bool ng)∧wq.cell? ⟨w.heap.size+1,1,none⟩=some (yi on)∧wq.cell? ⟨w.heap.size+1,2,none⟩=some (.int .u64 f)))) (by kernel_rfl) ⟨⟨l3.drew.c 0 rfl,l3.drew.c 1 rfl,l3.drew.c 2 rfl,l3.drew.c 3 rfl,l3.drew.c 4 rfl,l3.drew.c 5 rfl,l3.drew.c 6 rfl,l3.drew.c 7 rfl,l3.drew.c 8 rfl⟩,m3.drew.c 0 rfl,m3.drew.c 1 rfl,m3.drew.c 2 rfl⟩ (fun hS0=> ?_)
 refine tq 0 (.pointer (some ⟨w.heap.size+1,1,none⟩)) rfl (fun w0 _=>by go_simp) hS0 ?_
 refine tq 1 (yi on) rfl (fun w0 hw0=>by obtain⟨⟨p0,p1,p2,p3,p4,p5,p6,p7,p8⟩,q0,q1,q2⟩:=hw0;go_simp) hS0 ?_
 refine tq 2 ((ylV R D L G gr sz ex fam F)) rfl (fun w0 hw0=>by obtain⟨⟨p0,p1,p2,p3,p4,p5,p6,p7,p8⟩,q0,q1,q2⟩:=hw0;go_simp) hS0 ?_
 refine wpAnyH_ready (rs:=[3]) (by kernel_rfl) (by simp) ?_;refine AllReadyH.cons rfl (fun K hK=> ?_) AllReadyH.nil
 go_simp
 refine(HO.out _).mono ?_;rintro z w4 ⟨rfl,b4⟩;have l4:=l3.drew.l b4;have m4:=m3.drew.l b4;have b04:=aa b03.drew b4;refine hK.out _ _ ⟨⟨l4.c 0 rfl,l4.c 1 rfl,l4.c 2 rfl,l4.c 3 rfl,l4.c 4 rfl,l4.c 5 rfl,l4.c 6 rfl,l4.c 7 rfl,l4.c 8 rfl⟩,m4.c 0 rfl,m4.c 1 rfl,m4.c 2 rfl⟩ (fun hS3=> ?_)
 clear hK K;refine tq 4 (.bool true) rfl (fun w0 _=>by go_simp) hS3 ?_
 refine tq 5 (.bool true) rfl (fun w0 _=>by go_simp) hS3 ?_
 refine wpAnyH_take (i:=6) (v:=undef) rfl (by kernel_rfl) (by kernel_rfl) (by kernel_rfl) (fun _ _ _ h=>h) (Or.inr ⟨by kernel_rfl,rfl⟩) hS3 ?_
 refine wpAnyH_take (i:=7) (v:=undef) rfl (by kernel_rfl) (by kernel_rfl) (by kernel_rfl) (fun _ _ _ h=>h) (Or.inr ⟨by kernel_rfl,rfl⟩) hS3 ?_
 refine wpAnyH_take (i:=8) (v:=undef) rfl (by kernel_rfl) (by kernel_rfl) (by kernel_rfl) (fun _ _ _ h=>h) (Or.inr ⟨by kernel_rfl,rfl⟩) hS3 ?_
 refine wpAnyH_take (i:=9) (v:=undef) rfl (by kernel_rfl) (by kernel_rfl) (by kernel_rfl) (fun _ _ _ h=>h) (Or.inr ⟨by kernel_rfl,rfl⟩) hS3 ?_
 refine wpAnyH_take (i:=10) (v:=undef) rfl (by kernel_rfl) (by kernel_rfl) (by kernel_rfl) (fun _ _ _ h=>h) (Or.inr ⟨by kernel_rfl,rfl⟩) hS3 ?_
 refine wpAnyH_take (i:=11) (v:=undef) rfl (by kernel_rfl) (by kernel_rfl) (by kernel_rfl) (fun _ _ _ h=>h) (Or.inr ⟨by kernel_rfl,rfl⟩) hS3 ?_
 refine wpAnyH_take (i:=12) (v:=undef) rfl (by kernel_rfl) (by kernel_rfl) (by kernel_rfl) (fun _ _ _ h=>h) (Or.inr ⟨by kernel_rfl,rfl⟩) hS3 ?_
 refine wpAnyH_take (i:=13) (v:=undef) rfl (by kernel_rfl) (by kernel_rfl) (by kernel_rfl) (fun _ _ _ h=>h) (Or.inr ⟨by kernel_rfl,rfl⟩) hS3 ?_
 refine tq 14 (.bool true) rfl (fun w0 _=>by go_simp) hS3 ?_
 refine tq 15 (.bool true) rfl (fun w0 _=>by go_simp) hS3 ?_
 simp only[Act.put,List.getElem_toArray,List.getElem_cons_succ,List.getElem_cons_zero,List.setIfInBounds_toArray,List.set_cons_zero,List.set_cons_succ];refine wpAnyH_done (by kernel_rfl) ?_ _
 go_wp2
 go_ret
 exact⟨rfl,b04⟩
theorem Rb (R D L G fam sz ex on wr:Int)(gr ng:Bool)(F:Nat)(e f:Int)(w:World)(HO:yJ 123 #[ylV R D L G gr sz ex fam F] (yi on))(HW:yJ 124 #[ylV R D L G gr sz ex fam F] (.int .u64 wr))(h1:e≠0)(h2:e≠on)(h3:bits .and .u64 f wr=wr):yC 112 #[ylV R D L G gr sz ex fam F,yfV ng e f] w (yR w (yi 2)):=by
 have hsf:=cD;replace HO:Hid _:=HO;replace HW:Hid _:=HW;have l0:=(ah w (ylL R D L G gr sz ex fam F) 116).l (af _ (.cells (yfA ng e f) 119));have m0:=ah (w.alloc (.cells (ylA R D L G gr sz ex fam F) 116)) (yfL ng e f) 119;have b0:=aa (af w (.cells (ylA R D L G gr sz ex fam F) 116)) (af _ (.cells (yfA ng e f) 119));rw[World.size_alloc] at m0;have he0:(e==0)=false:=by simpa using h1
 have he1:(e==on)=false:=by simpa using h2
 clear h1 h2;obtain⟨x0,x1,x2,x3,x4,x5,x6,x7,x8⟩:=l0.cs9;obtain⟨u0,u1,u2⟩:=m0.cs3
 go_enter func112,ntmps112
 go_wp2_with fail
 refine wp_region_held_drew (S:=(fun wq=>(wq.cell? ⟨w.heap.size,0,none⟩=some (yi R)∧wq.cell? ⟨w.heap.size,1,none⟩=some (yi D)∧wq.cell? ⟨w.heap.size,2,none⟩=some (yi L)∧wq.cell? ⟨w.heap.size,3,none⟩=some (yi G)∧wq.cell? ⟨w.heap.size,4,none⟩=some (.bool gr)∧wq.cell? ⟨w.heap.size,5,none⟩=some (yi sz)∧wq.cell? ⟨w.heap.size,6,none⟩=some (yi ex)∧wq.cell? ⟨w.heap.size,7,none⟩=some (yi fam)∧wq.cell? ⟨w.heap.size,8,none⟩=some (.func (.func F) #[] #[]))∧(wq.cell? ⟨w.heap.size+1,0,none⟩=some (.bool ng)∧wq.cell? ⟨w.heap.size+1,1,none⟩=some (yi e)∧wq.cell? ⟨w.heap.size+1,2,none⟩=some (.int .u64 f)))) (by kernel_rfl) ⟨⟨l0.drew.c 0 rfl,l0.drew.c 1 rfl,l0.drew.c 2 rfl,l0.drew.c 3 rfl,l0.drew.c 4 rfl,l0.drew.c 5 rfl,l0.drew.c 6 rfl,l0.drew.c 7 rfl,l0.drew.c 8 rfl⟩,m0.drew.c 0 rfl,m0.drew.c 1 rfl,m0.drew.c 2 rfl⟩ (fun hS0=> ?_)
 refine tq 0 (.pointer (some ⟨w.heap.size+1,1,none⟩)) rfl (fun w0 _=>by go_simp) hS0 ?_
 refine tq 1 (yi e) rfl (fun w0 hw0=>by obtain⟨⟨p0,p1,p2,p3,p4,p5,p6,p7,p8⟩,q0,q1,q2⟩:=hw0;go_simp) hS0 ?_
 refine tq 2 ((ylV R D L G gr sz ex fam F)) rfl (fun w0 hw0=>by obtain⟨⟨p0,p1,p2,p3,p4,p5,p6,p7,p8⟩,q0,q1,q2⟩:=hw0;go_simp) hS0 ?_
 refine wpAnyH_ready (rs:=[3]) (by kernel_rfl) (by simp) ?_;refine AllReadyH.cons rfl (fun K hK=> ?_) AllReadyH.nil
 go_simp
 refine(HO.out _).mono ?_;rintro z w1 ⟨rfl,b1⟩;have l1:=l0.drew.l b1;have m1:=m0.drew.l b1;have b01:=aa b0.drew b1;refine hK.out _ _ ⟨⟨l1.c 0 rfl,l1.c 1 rfl,l1.c 2 rfl,l1.c 3 rfl,l1.c 4 rfl,l1.c 5 rfl,l1.c 6 rfl,l1.c 7 rfl,l1.c 8 rfl⟩,m1.c 0 rfl,m1.c 1 rfl,m1.c 2 rfl⟩ (fun hS3=> ?_)
 clear hK K;refine tq 4 (.bool false) rfl (fun w0 _=>by go_simp) hS3 ?_
 refine tq 5 (.bool false) rfl (fun w0 _=>by go_simp) hS3 ?_
 refine wpAnyH_take (i:=6) (v:=undef) rfl (by kernel_rfl) (by kernel_rfl) (by kernel_rfl) (fun _ _ _ h=>h) (Or.inr ⟨by kernel_rfl,rfl⟩) hS3 ?_
 refine wpAnyH_take (i:=7) (v:=undef) rfl (by kernel_rfl) (by kernel_rfl) (by kernel_rfl) (fun _ _ _ h=>h) (Or.inr ⟨by kernel_rfl,rfl⟩) hS3 ?_
 refine wpAnyH_take (i:=8) (v:=undef) rfl (by kernel_rfl) (by kernel_rfl) (by kernel_rfl) (fun _ _ _ h=>h) (Or.inr ⟨by kernel_rfl,rfl⟩) hS3 ?_
 refine wpAnyH_take (i:=9) (v:=undef) rfl (by kernel_rfl) (by kernel_rfl) (by kernel_rfl) (fun _ _ _ h=>h) (Or.inr ⟨by kernel_rfl,rfl⟩) hS3 ?_
 refine wpAnyH_take (i:=10) (v:=undef) rfl (by kernel_rfl) (by kernel_rfl) (by kernel_rfl) (fun _ _ _ h=>h) (Or.inr ⟨by kernel_rfl,rfl⟩) hS3 ?_
 refine tq 11 (.bool false) rfl (fun w0 _=>by go_simp) hS3 ?_
 refine tq 12 (.bool false) rfl (fun w0 _=>by go_simp) hS3 ?_
 simp only[Act.put,List.getElem_toArray,List.getElem_cons_succ,List.getElem_cons_zero,List.setIfInBounds_toArray,List.set_cons_zero,List.set_cons_succ];refine wpAnyH_done (by kernel_rfl) ?_ _
 go_wp2_with fail
 go_region_held3 (fun wq=>(wq.cell? ⟨w.heap.size,0,none⟩=some (yi R)∧wq.cell? ⟨w.heap.size,1,none⟩=some (yi D)∧wq.cell? ⟨w.heap.size,2,none⟩=some (yi L)∧wq.cell? ⟨w.heap.size,3,none⟩=some (yi G)∧wq.cell? ⟨w.heap.size,4,none⟩=some (.bool gr)∧wq.cell? ⟨w.heap.size,5,none⟩=some (yi sz)∧wq.cell? ⟨w.heap.size,6,none⟩=some (yi ex)∧wq.cell? ⟨w.heap.size,7,none⟩=some (yi fam)∧wq.cell? ⟨w.heap.size,8,none⟩=some (.func (.func F) #[] #[]))∧(wq.cell? ⟨w.heap.size+1,0,none⟩=some (.bool ng)∧wq.cell? ⟨w.heap.size+1,1,none⟩=some (yi e)∧wq.cell? ⟨w.heap.size+1,2,none⟩=some (.int .u64 f))) (go_keep) (first
  | (go_at_call 123;refine(HO.out _).mono ?_;rintro z w2 ⟨rfl,b2⟩;have l2:=l1.drew.l b2;have m2:=m1.drew.l b2;have b02:=aa b01.drew b2;obtain⟨y0,y1,y2,y3,y4,y5,y6,y7,y8⟩:=l2.cs9;obtain⟨v0,v1,v2⟩:=m2.cs3)
  | (go_at_call 124;have hgd:=b02;clear hgd;refine(HW.out _).mono ?_;rintro z w3 ⟨rfl,b3⟩;have l3:=l2.l b3;have m3:=m2.l b3;have b03:=aa b02 b3;obtain⟨z0,z1,z2,z3,z4,z5,z6,z7,z8⟩:=l3.cs9;obtain⟨t0,t1,t2⟩:=m3.cs3;clear b02)
  | (go_at_call 124;refine(HW.out _).mono ?_;rintro z w4 ⟨rfl,b4⟩;have l4:=l3.l b4;have m4:=m3.l b4;have b04:=aa b03 b4;obtain⟨a0,a1,a2,a3,a4,a5,a6,a7,a8⟩:=l4.cs9;obtain⟨c0,c1,c2⟩:=m4.cs3))
 all_goals go_wp2
 all_goals go_ret
 all_goals exact⟨rfl,b04⟩
theorem adw (R D L G fam sz ex on wr:Int)(gr ng:Bool)(F:Nat)(e f:Int)(w:World)(HO:yJ 123 #[ylV R D L G gr sz ex fam F] (yi on))(HW:yJ 124 #[ylV R D L G gr sz ex fam F] (.int .u64 wr))(h1:e≠0)(h2:e≠on)(h3:bits .and .u64 f wr=0)(_h4:((0:Int)==wr)=false):yC 112 #[ylV R D L G gr sz ex fam F,yfV ng e f] w (yR w (yi 4)):=by
 have hsf:=cD;replace HO:Hid _:=HO;replace HW:Hid _:=HW;have l0:=(ah w (ylL R D L G gr sz ex fam F) 116).l (af _ (.cells (yfA ng e f) 119));have m0:=ah (w.alloc (.cells (ylA R D L G gr sz ex fam F) 116)) (yfL ng e f) 119;have b0:=aa (af w (.cells (ylA R D L G gr sz ex fam F) 116)) (af _ (.cells (yfA ng e f) 119));rw[World.size_alloc] at m0;have he0:(e==0)=false:=by simpa using h1
 have he1:(e==on)=false:=by simpa using h2
 clear h1 h2;obtain⟨x0,x1,x2,x3,x4,x5,x6,x7,x8⟩:=l0.cs9;obtain⟨u0,u1,u2⟩:=m0.cs3
 go_enter func112,ntmps112
 go_wp2_with fail
 refine wp_region_held_drew (S:=(fun wq=>(wq.cell? ⟨w.heap.size,0,none⟩=some (yi R)∧wq.cell? ⟨w.heap.size,1,none⟩=some (yi D)∧wq.cell? ⟨w.heap.size,2,none⟩=some (yi L)∧wq.cell? ⟨w.heap.size,3,none⟩=some (yi G)∧wq.cell? ⟨w.heap.size,4,none⟩=some (.bool gr)∧wq.cell? ⟨w.heap.size,5,none⟩=some (yi sz)∧wq.cell? ⟨w.heap.size,6,none⟩=some (yi ex)∧wq.cell? ⟨w.heap.size,7,none⟩=some (yi fam)∧wq.cell? ⟨w.heap.size,8,none⟩=some (.func (.func F) #[] #[]))∧(wq.cell? ⟨w.heap.size+1,0,none⟩=some (.bool ng)∧wq.cell? ⟨w.heap.size+1,1,none⟩=some (yi e)∧wq.cell? ⟨w.heap.size+1,2,none⟩=some (.int .u64 f)))) (by kernel_rfl) ⟨⟨l0.drew.c 0 rfl,l0.drew.c 1 rfl,l0.drew.c 2 rfl,l0.drew.c 3 rfl,l0.drew.c 4 rfl,l0.drew.c 5 rfl,l0.drew.c 6 rfl,l0.drew.c 7 rfl,l0.drew.c 8 rfl⟩,m0.drew.c 0 rfl,m0.drew.c 1 rfl,m0.drew.c 2 rfl⟩ (fun hS0=> ?_)
 refine tq 0 (.pointer (some ⟨w.heap.size+1,1,none⟩)) rfl (fun w0 _=>by go_simp) hS0 ?_
 refine tq 1 (yi e) rfl (fun w0 hw0=>by obtain⟨⟨p0,p1,p2,p3,p4,p5,p6,p7,p8⟩,q0,q1,q2⟩:=hw0;go_simp) hS0 ?_
 refine tq 2 ((ylV R D L G gr sz ex fam F)) rfl (fun w0 hw0=>by obtain⟨⟨p0,p1,p2,p3,p4,p5,p6,p7,p8⟩,q0,q1,q2⟩:=hw0;go_simp) hS0 ?_
 refine wpAnyH_ready (rs:=[3]) (by kernel_rfl) (by simp) ?_;refine AllReadyH.cons rfl (fun K hK=> ?_) AllReadyH.nil
 go_simp
 refine(HO.out _).mono ?_;rintro z w1 ⟨rfl,b1⟩;have l1:=l0.drew.l b1;have m1:=m0.drew.l b1;have b01:=aa b0.drew b1;refine hK.out _ _ ⟨⟨l1.c 0 rfl,l1.c 1 rfl,l1.c 2 rfl,l1.c 3 rfl,l1.c 4 rfl,l1.c 5 rfl,l1.c 6 rfl,l1.c 7 rfl,l1.c 8 rfl⟩,m1.c 0 rfl,m1.c 1 rfl,m1.c 2 rfl⟩ (fun hS3=> ?_)
 clear hK K;refine tq 4 (.bool false) rfl (fun w0 _=>by go_simp) hS3 ?_
 refine tq 5 (.bool false) rfl (fun w0 _=>by go_simp) hS3 ?_
 refine wpAnyH_take (i:=6) (v:=undef) rfl (by kernel_rfl) (by kernel_rfl) (by kernel_rfl) (fun _ _ _ h=>h) (Or.inr ⟨by kernel_rfl,rfl⟩) hS3 ?_
 refine wpAnyH_take (i:=7) (v:=undef) rfl (by kernel_rfl) (by kernel_rfl) (by kernel_rfl) (fun _ _ _ h=>h) (Or.inr ⟨by kernel_rfl,rfl⟩) hS3 ?_
 refine wpAnyH_take (i:=8) (v:=undef) rfl (by kernel_rfl) (by kernel_rfl) (by kernel_rfl) (fun _ _ _ h=>h) (Or.inr ⟨by kernel_rfl,rfl⟩) hS3 ?_
 refine wpAnyH_take (i:=9) (v:=undef) rfl (by kernel_rfl) (by kernel_rfl) (by kernel_rfl) (fun _ _ _ h=>h) (Or.inr ⟨by kernel_rfl,rfl⟩) hS3 ?_
 refine wpAnyH_take (i:=10) (v:=undef) rfl (by kernel_rfl) (by kernel_rfl) (by kernel_rfl) (fun _ _ _ h=>h) (Or.inr ⟨by kernel_rfl,rfl⟩) hS3 ?_
 refine tq 11 (.bool false) rfl (fun w0 _=>by go_simp) hS3 ?_
 refine tq 12 (.bool false) rfl (fun w0 _=>by go_simp) hS3 ?_
 simp only[Act.put,List.getElem_toArray,List.getElem_cons_succ,List.getElem_cons_zero,List.setIfInBounds_toArray,List.set_cons_zero,List.set_cons_succ];refine wpAnyH_done (by kernel_rfl) ?_ _
 go_wp2_with fail
 go_region_held3 (fun wq=>(wq.cell? ⟨w.heap.size,0,none⟩=some (yi R)∧wq.cell? ⟨w.heap.size,1,none⟩=some (yi D)∧wq.cell? ⟨w.heap.size,2,none⟩=some (yi L)∧wq.cell? ⟨w.heap.size,3,none⟩=some (yi G)∧wq.cell? ⟨w.heap.size,4,none⟩=some (.bool gr)∧wq.cell? ⟨w.heap.size,5,none⟩=some (yi sz)∧wq.cell? ⟨w.heap.size,6,none⟩=some (yi ex)∧wq.cell? ⟨w.heap.size,7,none⟩=some (yi fam)∧wq.cell? ⟨w.heap.size,8,none⟩=some (.func (.func F) #[] #[]))∧(wq.cell? ⟨w.heap.size+1,0,none⟩=some (.bool ng)∧wq.cell? ⟨w.heap.size+1,1,none⟩=some (yi e)∧wq.cell? ⟨w.heap.size+1,2,none⟩=some (.int .u64 f))) (go_keep) (first
  | (go_at_call 123;refine(HO.out _).mono ?_;rintro z w2 ⟨rfl,b2⟩;have l2:=l1.drew.l b2;have m2:=m1.drew.l b2;have b02:=aa b01.drew b2;obtain⟨y0,y1,y2,y3,y4,y5,y6,y7,y8⟩:=l2.cs9;obtain⟨v0,v1,v2⟩:=m2.cs3)
  | (go_at_call 124;have hgd:=b02;clear hgd;refine(HW.out _).mono ?_;rintro z w3 ⟨rfl,b3⟩;have l3:=l2.l b3;have m3:=m2.l b3;have b03:=aa b02 b3;obtain⟨z0,z1,z2,z3,z4,z5,z6,z7,z8⟩:=l3.cs9;obtain⟨t0,t1,t2⟩:=m3.cs3;clear b02)
  | (go_at_call 124;refine(HW.out _).mono ?_;rintro z w4 ⟨rfl,b4⟩;have l4:=l3.l b4;have m4:=m3.l b4;have b04:=aa b03 b4;obtain⟨a0,a1,a2,a3,a4,a5,a6,a7,a8⟩:=l4.cs9;obtain⟨c0,c1,c2⟩:=m4.cs3))
 all_goals go_wp2
 all_goals go_ret
 all_goals exact⟨rfl,b04⟩
theorem We (R sz ex:Nat)(D L G fam:Int)(gr:Bool)(F:Nat)(ng:Bool)(e f d:Nat)(p:Int)(w:World)(hR:2≤R)(hR2:R≤16)(hd0:0<d)(hd:d<18446744073709551616)(hp1: -100000≤p)(hp2:p≤100000)
  (HC:yJ 78 #[ylV R D L G gr sz ex fam F,yfV ng e f] (yi 2))
  (HP:yJ 80 #[ylV R D L G gr sz ex fam F,yfV ng e f] (.tuple #[.int .u64 d,yi p])):
  yC 56 #[ylV R D L G gr sz ex fam F,yfV ng e f] w (iT w 2 ng (lJ R 64 d p).1 (lJ R 64 d p).2):=by
 have hsf:=cD;have bl:=af w (.cells (ylA R D L G gr sz ex fam F) 116);have bf:=af (w.alloc (.cells (ylA R D L G gr sz ex fam F) 116)) (.cells (yfA ng e f) 119);have bz:=af ((w.alloc (.cells (ylA R D L G gr sz ex fam F) 116)).alloc (.cells (yfA ng e f) 119)) (.cells (yvA 0 false yN 0) 68);have l0:=((ah w (ylL R D L G gr sz ex fam F) 116).l bf).l bz;have m0:=(ah (w.alloc (.cells (ylA R D L G gr sz ex fam F) 116)) (yfL ng e f) 119).l bz;have v0:=ah ((w.alloc (.cells (ylA R D L G gr sz ex fam F) 116)).alloc (.cells (yfA ng e f) 119)) (yvL 0 false yN 0) 68;have b0:=aa (aa bl bf) bz;rw[World.size_alloc] at m0;rw[World.size_alloc,World.size_alloc] at v0;clear bl bf bz;have HC':Hid _:=HC;have HP':Hid _:=HP;obtain⟨m,hm⟩: ∃m,(lJ R 64 d p).1=m:=⟨_,rfl⟩;obtain⟨pw,hpw⟩: ∃m,(lJ R 64 d p).2=m:=⟨_,rfl⟩;have HS:Hid (lJ R 64 d p=(m,pw)):=Prod.ext hm hpw;rw[hm,hpw];clear hm hpw HC HP
 go_enter func56,ntmps56
 go_wp2_with fail
 refine(HC'.out _).mono ?_;rintro z w1 ⟨rfl,b1⟩;have bq:=af w1 (.cells (yvA 2 false yN 0) 68);have l1:=(l0.l b1).l bq;have m1:=(m0.l b1).l bq;have v1:=(v0.l b1).l bq;have q1:=ah w1 (yvL 2 false yN 0) 68;have b01:=aa (aa b0 b1) bq;have hq3:w.heap.size+3≤w1.heap.size:=(v0.l b1).lt;obtain⟨x0,x1,x2,x3,x4,x5,x6,x7,x8⟩:=l1.cs9;obtain⟨y0,y1,y2⟩:=m1.cs3;clear l0 m0 v0 b0 b1 bq
 go_wp2_with fail
 refine(HP'.out _).mono ?_;rintro z w2 ⟨rfl,b2⟩;have l2:=l1.l b2;have m2:=m1.l b2;have v2:=v1.l b2;have q2:=q1.l b2;have b02:=aa b01 b2;clear l1 m1 v1 q1 b01 b2 x0 x1 x2 x3 x4 x5 x6 x7 x8 y0 y1 y2;generalize w1.heap.size=q at*;have x0:=l2.c 0 rfl;have hwR:IntKind.u64.wrap R=(R:Int):=IntWalk.u64_in _ ⟨by omega,by omega⟩;have hRn:((R:Int) != 0)=true:=by rw[bne_iff_ne];omega
 go_wp2
 go_loop [6,7] (fun dv pv=> ∃(n y:Nat) (r:Int),Hid (lJ R n y r=(m,pw)∧y<2^n)∧n≤64∧0<y∧y<18446744073709551616∧r+n≤p+64∧p≤r∧dv= .int .u64 y∧pv=yi r) (fun dv _=>(intOf dv).toNat)
 case atStart=>exact⟨64,d,p,⟨HS.out,hd⟩,by omega,hd0,hd,by omega,by omega,rfl,rfl⟩
 case round=>
  obtain⟨n,y,r,HY,hn,hy0,hy,hr1,hr2,rfl,rfl⟩:=hrel;obtain⟨t,ht⟩: ∃t,y % R=t:=⟨_,rfl⟩;obtain⟨u,hu⟩: ∃u,y/R=u:=⟨_,rfl⟩;have htI:(y:Int) % (R:Int)=(t:Int):=by rw[←ht];exact(Int.natCast_emod y R).symm
  have huI:(y:Int)/(R:Int)=(u:Int):=by rw[←hu];exact(Int.natCast_ediv y R).symm
  by_cases ht0:t=0
  ·subst ht0
   have hul:u<y:=by rw[←hu];exact Nat.div_lt_self hy0 hR
   have hu0:0<u:=by
    rw[←hu];exact Nat.div_pos (Nat.le_of_dvd hy0 (Nat.dvd_of_mod_eq_zero ht)) (by omega)
   have HH:Hid (_∧_):=⟨ht,hu⟩;clear ht hu
   go_wp2
   obtain⟨ht,hu⟩:=HH.out;obtain⟨hs1,hs2⟩:=HY.out;obtain⟨n',rfl⟩: ∃n',n=n'+1:=by
    cases n with
    |zero=>simp at hs2;omega
    |succ n'=>exact⟨n',rfl⟩
   rw[lJ,if_pos ht,hu] at hs1;refine⟨⟨n',u,r+1,⟨hs1, ?_⟩,by omega,hu0,by omega,by omega,by omega,rfl,rfl⟩, ?_⟩
   ·rw[Nat.pow_succ] at hs2
    have h2:y/R≤y/2:=Nat.div_le_div_left hR (by omega);omega
   ·simp only[intOf]
    omega
  ·have ht1:((t:Int)==0)=false:=by simp;omega
   have HH:Hid (_∧_):=⟨ht,hu⟩;obtain⟨hs1,hs2⟩:=HY.out;obtain⟨n',rfl⟩: ∃n',n=n'+1:=by
    cases n with
    |zero=>simp at hs2;omega
    |succ n'=>exact⟨n',rfl⟩
   rw[lJ,if_neg (by omega),Prod.mk.injEq] at hs1;obtain⟨rfl,rfl⟩:=hs1;clear ht hu huI hs2 HY HH HS;obtain⟨y0,y1,y2⟩:=m2.cs3;obtain⟨u0,u1,u2,u3⟩:=q2.cs4;have k1:=q2.f 1;have k2:=q2.f 2;have k3:=q2.f 3;have q2d:=q2.drew;have q2a:=q2d.set 1 (.bool ng);have q2b:=q2d.set 3 (yi r);have q2ab:=q2a.set 3 (yi r);have q2ba:=q2b.set 1 (.bool ng);have hne:q≠w.heap.size+1:=by omega
   have hnv:q≠w.heap.size+1+1:=by omega
   have m2d:=m2.drew;have m2a:=m2d.off hne 1 (.bool ng);have m2b:=m2d.off hne 3 (yi r);have m2ab:=m2a.off hne 3 (yi r);have m2ba:=m2b.off hne 1 (.bool ng);have v2d:=v2.drew;have v2a:=v2d.off hnv 1 (.bool ng);have v2b:=v2d.off hnv 3 (yi r);have v2ab:=v2a.off hnv 3 (yi r);have v2ba:=v2b.off hnv 1 (.bool ng);have hbq:w.heap.size≤q:=by omega
   have b2d:=b02.drew;have b2a:=(ag _ q 1 (.bool ng)).below b2d hbq;have b2b:=(ag _ q 3 (yi r)).below b2d hbq;have b2ab:=(ag _ q 3 (yi r)).below b2a hbq;have b2ba:=(ag _ q 1 (.bool ng)).below b2b hbq;have HFW:Hid (∀w1,yC 67 #[.int .u64 y] w1 fun z w'=> ∃v,z= .returned v∧Own w' w1.heap.size 135 .u32 v (Dg.dg 4294967296 y)∧yB w1 w'):=fun w1=>KH y hy w1
   go_wp2_with fail
   go_region_held3 (fun wq=>wq.cell? ⟨w.heap.size+1,0,none⟩=some (.bool ng)∧wq.cell? ⟨w.heap.size+1,1,none⟩=some (yi e)∧wq.cell? ⟨w.heap.size+1,2,none⟩=some (.int .u64 f)) (go_keep) (first
    | (go_at_call 67;refine(HFW.out _).mono ?_;rintro z w3 ⟨v,rfl,own3,b3⟩;obtain⟨so,sc,hvs⟩:=own3.rd.shape;subst hvs;(first| (have q3:=q2d.l b3;have m3:=m2d.l b3;have v3:=v2d.l b3;have b03:=aa b2d b3)| (have q3:=q2a.l b3;have m3:=m2a.l b3;have v3:=v2a.l b3;have b03:=aa b2a b3)| (have q3:=q2b.l b3;have m3:=m2b.l b3;have v3:=v2b.l b3;have b03:=aa b2b b3)| (have q3:=q2ab.l b3;have m3:=m2ab.l b3;have v3:=v2ab.l b3;have b03:=aa b2ab b3)| (have q3:=q2ba.l b3;have m3:=m2ba.l b3;have v3:=v2ba.l b3;have b03:=aa b2ba b3));obtain⟨t0,t1,t2⟩:=m3.cs3;obtain⟨s0,s1,s2,s3⟩:=q3.cs4;have j1:=q3.f 1;have j2:=q3.f 2;have j3:=q3.f 3))
   have bu4:=((ag w3 q 1 (.bool ng)).trans (ag _ q 2 (yT so y sc))).trans (ag _ q 3 (yi r));have q4:au (((w3.setCell ⟨q,1,none⟩ (.bool ng)).setCell ⟨q,2,none⟩ (yT so y sc)).setCell ⟨q,3,none⟩ (yi r)) q 68 (yvL 2 ng (yT so y sc) r):=((q3.set 1 (.bool ng)).set 2 (yT so y sc)).set 3 (yi r);have v4:=((v3.off hnv 1 (.bool ng)).off hnv 2 (yT so y sc)).off hnv 3 (yi r);have b04:=bu4.below b03 hbq;have own4:=(bu4.own own3 q3 (by decide)).rd;have ov4:=cq own4 (Dg.norm_dg _ _ (by omega)) v4 (fun x hx n hn=>by simp at hx;rcases hx with rfl|rfl|rfl|rfl<;>simp)
   generalize(((w3.setCell ⟨q,1,none⟩ (.bool ng)).setCell ⟨q,2,none⟩ (yT so y sc)).setCell ⟨q,3,none⟩ (yi r))=w4 at*;clear b3 q3 m3 v3 own3 bu4 t0 t1 t2 s0 s1 s2 s3 j1 j2 j3 u0 u1 u2 u3 k1 k2 k3 y0 y1 y2 x0 q2d q2a q2b q2ab q2ba m2d m2a m2b m2ab m2ba v2d v2a v2b v2ab v2ba b2d b2a b2b b2ab b2ba q2 m2 v2 l2 b02 b03;obtain⟨s0,s1,s2,s3⟩:=q4.cs4;obtain⟨t0,t1,t2,t3⟩:=v4.cs4;have j0:=v4.f 0;have j1:=v4.f 1;have j2:=v4.f 2;have j3:=v4.f 3;have bu5:=(((ag w4 (w.heap.size+1+1) 0 (yi 2)).trans (ag _ (w.heap.size+1+1) 1 (.bool ng))).trans (ag _ (w.heap.size+1+1) 2 (yT so y sc))).trans (ag _ (w.heap.size+1+1) 3 (yi r));have cR:au ((((w4.setCell ⟨w.heap.size+1+1,0,none⟩ (yi 2)).setCell ⟨w.heap.size+1+1,1,none⟩ (.bool ng)).setCell ⟨w.heap.size+1+1,2,none⟩ (yT so y sc)).setCell ⟨w.heap.size+1+1,3,none⟩ (yi r)) (w.heap.size+1+1) 68 (yvL 2 ng (yT so y sc) r):=(((v4.set 0 (yi 2)).set 1 (.bool ng)).set 2 (yT so y sc)).set 3 (yi r);have bR:=bu5.below b04 (by omega);have rR:=bu5.rd own4 ov4;have hl:=run_loadVar_mid (P:=Tryz.prog) _ (w.heap.size+1+1) 0 68 (yvL 2 ng (yT so y sc) r) _ cR.range underlying68 rfl (by kernel_rfl);have HH:Hid (_∧_∧_):=⟨hl,rR,bR⟩;clear hl rR bR cR bu5 own4 ov4 b04 q4 v4
   go_wp2
   obtain⟨hl,rR,bR⟩:=HH.out;exact bodyPost_ret (br results56 rfl hl) rfl ⟨_,rfl,rR,bR⟩
theorem TI {w wb:World}{hd:Bool}{rd:Nat}{rk:Int}{so:Option Addr}{sc:Nat}(hc:au wb (w.heap.size+1+1) 145 [yN,yi 0])(ho:Own wb w.heap.size 135 .u32 (yT so rd sc) (Dg.dg 4294967296 rd))(hb:yB w wb):
  Xn w (.pointer (some ⟨wb.heap.size,0,none⟩)) (.bool hd) hd rd rk (wb.alloc (.cells #[yT so rd sc,yi rk] 145)):=by
 have ba:=af wb (.cells #[yT so rd sc,yi rk] 145);have:=hc.lt;exact⟨_,so,sc,rfl,rfl,by omega,by omega,ah wb [yT so rd sc,yi rk] 145,ho.l ba,hc.l ba,aa hb ba⟩
theorem acT (R D L G:Int)(gr s:Bool)(ao:Option Addr)(la ca:Nat)(e dc gc c:Int)(hd:Bool)(rd:Nat)(rk:Int)(w:World)
  (HA: ¬dc=0→hd=false∧rd=0∧rk=0∧c=dc) (HB:dc=0→ ¬gc=0→hd=false∧rd=0∧rk=0∧c=gc) (HC:dc=0→gc=0→c=0)
  (HD:yH w 107 #[ydV s (.slice ao la ca) e] (yi dc))
  (HG:yJ 89 #[ygV R D L G gr] (yi gc))
  (HO:yJ 109 #[ydV s (.slice ao la ca) e] (ydV s (.slice ao la ca) e))
  (HF:dc=0→gc=0→ ∀w1,yB w w1→yC 108 #[ygV R D L G gr,ydV s (.slice ao la ca) e] w1 (D7 w1 hd rd rk)):
  yC 72 #[ydV s (.slice ao la ca) e,ygV R D L G gr] w (DM w hd rd rk c):=by
 replace HA:Hid _:=HA;replace HB:Hid _:=HB;replace HC:Hid _:=HC;replace HD:Hid _:=HD;replace HG:Hid _:=HG;replace HO:Hid _:=HO;replace HF:Hid _:=HF;have b1:=aa (aa (af w (.cells (ydA s (.slice ao la ca) e) 76)) (af _ (.cells (ygA R D L G gr) 40))) (af _ (.cells #[yN,yi 0] 145));have q1:=((ah w (ydL s (.slice ao la ca) e) 76).l (af _ (.cells (ygA R D L G gr) 40))).l (af _ (.cells #[yN,yi 0] 145));have g1:=(ah (w.alloc (.cells (ydA s (.slice ao la ca) e) 76)) (ygL R D L G gr) 40).l (af _ (.cells #[yN,yi 0] 145));have c1:=ah ((w.alloc (.cells (ydA s (.slice ao la ca) e) 76)).alloc (.cells (ygA R D L G gr) 40)) [yN,yi 0] 145;simp only[World.size_alloc] at g1 c1
 by_cases hdc:dc=0
 ·have HB1:Hid _:=HB.out hdc
  have HC1:Hid _:=HC.out hdc;have HF1:Hid _:=HF.out hdc;clear HA HB HC HF;subst hdc
  by_cases hgc:gc=0
  ·have hc:=HC1.out hgc
   have HF2:Hid _:=HF1.out hgc;clear HB1 HC1 HF1;subst hgc hc;obtain⟨y0,y1,y2⟩:=q1.cs3
   go_enter func72,ntmps72
   go_wp2_with fail
   refine(HD.out _ b1).mono ?_;rintro z w2 ⟨rfl,bb2⟩;clear y0 y1 y2;have g_2:=g1.l bb2;have q_2:=q1.l bb2;have c_2:=c1.l bb2;have b0_2:=aa b1 bb2;clear g1 q1 c1 b1 bb2;obtain⟨x0,x1,x2,x3,x4⟩:=g_2.cs5
   go_wp2_with fail
   refine(HG.out _).mono ?_;rintro z w3 ⟨rfl,bb3⟩;have g_3:=g_2.l bb3;have q_3:=q_2.l bb3;have c_3:=c_2.l bb3;have b0_3:=aa b0_2 bb3;clear g_2 q_2 c_2 b0_2 bb3;clear x0 x1 x2 x3 x4;have hR3:w.heap.size+1+1<w3.heap.size:=c_3.lt;have be:yB w3 (w3.alloc (.cells #[yN,yi 0] 145)).drew:=(af w3 (.cells #[yN,yi 0] 145)).drew;have g_e:=g_3.l be;have q_e:=q_3.l be;have c_e:=c_3.l be;have n_e:=(ah w3 [yN,yi 0] 145).drew;have b_e:=aa b0_3 be;have bd_3:yB w3 w3.drew:=(Below.refl _ _).drew;have g_4:=g_3.l bd_3;have q_4:=q_3.l bd_3;have c_4:=c_3.l bd_3;have b0_4:=aa b0_3 bd_3;clear g_3 q_3 c_3 b0_3 bd_3;obtain⟨x0,x1,x2,x3,x4⟩:=g_4.cs5;obtain⟨y0,y1,y2⟩:=q_4.cs3;have nn0:w3.heap.size≠w.heap.size+1:=by omega
   have nn1:w3.heap.size≠w.heap.size:=by omega
   obtain⟨xe0,xe1,xe2,xe3,xe4⟩:=g_e.cs5;obtain⟨ye0,ye1,ye2⟩:=q_e.cs3
   go_upto_region 7 with fail
   go_cut [9,10] (fun s9 s10 wx=>Xn w s9 s10 hd rd rk wx)
   case first=>
    go_wp2_with fail
    go_region_held3 (fun wq=>(wq.cell? ⟨w.heap.size+1,0,none⟩=some (yi R)∧wq.cell? ⟨w.heap.size+1,1,none⟩=some (yi D)∧wq.cell? ⟨w.heap.size+1,2,none⟩=some (yi L)∧wq.cell? ⟨w.heap.size+1,3,none⟩=some (yi G)∧wq.cell? ⟨w.heap.size+1,4,none⟩=some (.bool gr))∧wq.cell? ⟨w.heap.size,0,none⟩=some (.bool s)∧wq.cell? ⟨w.heap.size,1,none⟩=some (.slice ao la ca)∧wq.cell? ⟨w.heap.size,2,none⟩=some (yi e)) (go_keep) (first
     | (go_at_call 109;refine(HO.out _).mono ?_;rintro z wa ⟨rfl,ba⟩;have g_wa:=g_4.l ba;have q_wa:=q_4.l ba;have c_wa:=c_4.l ba;have b_wa:=aa b0_4 ba;obtain⟨xwa0,xwa1,xwa2,xwa3,xwa4⟩:=g_wa.cs5;obtain⟨ywa0,ywa1,ywa2⟩:=q_wa.cs3;have m0_wa:=World.new_ne wa _ xwa0;have m1_wa:=World.new_ne wa _ ywa0;have zab:=af wa (.cells #[yN,yi 0] 145);have zag:=g_wa.l zab;have zaq:=q_wa.l zab;obtain⟨zax0,zax1,zax2,zax3,zax4⟩:=zag.cs5;obtain⟨zay0,zay1,zay2⟩:=zaq.cs3)
     | (go_at_call 109;refine(HO.out _).mono ?_;rintro z wa ⟨rfl,ba⟩;have g_wa:=g_e.l ba;have q_wa:=q_e.l ba;have c_wa:=c_e.l ba;have n_wa:=n_e.l ba;have b_wa:=aa b_e ba;obtain⟨xwa0,xwa1,xwa2,xwa3,xwa4⟩:=g_wa.cs5;obtain⟨ywa0,ywa1,ywa2⟩:=q_wa.cs3;have m0_wa:=World.new_ne wa _ xwa0;have m1_wa:=World.new_ne wa _ ywa0)
     | (go_at_call 108;have n_x:=n_wa;clear n_x;refine(HF2.out _ b_wa).mono ?_;rintro z wb ⟨u,rfl,ou,bb⟩;have oL:=ou.lower b_wa.size;have g_wb:=g_wa.l bb;have q_wb:=q_wa.l bb;have c_wb:=c_wa.l bb;have n_wb:=n_wa.l bb;have b_wb:=aa b_wa bb;obtain⟨so,sc,hu⟩:=ou.rd.shape;subst hu;obtain⟨xwb0,xwb1,xwb2,xwb3,xwb4⟩:=g_wb.cs5;obtain⟨ywb0,ywb1,ywb2⟩:=q_wb.cs3;have m0_wb:=World.new_ne wb _ xwb0;have m1_wb:=World.new_ne wb _ ywb0;obtain⟨d0,d1⟩:=n_wb.cs2;have f0:=n_wb.f 0;have f1:=n_wb.f 1)
     | (go_at_call 108;refine(HF2.out _ b_wa).mono ?_;rintro z wb ⟨u,rfl,ou,bb⟩;have oL:=ou.lower b_wa.size;have g_wb:=g_wa.l bb;have q_wb:=q_wa.l bb;have c_wb:=c_wa.l bb;have b_wb:=aa b_wa bb;obtain⟨so,sc,hu⟩:=ou.rd.shape;subst hu;obtain⟨xwb0,xwb1,xwb2,xwb3,xwb4⟩:=g_wb.cs5;obtain⟨ywb0,ywb1,ywb2⟩:=q_wb.cs3;have m0_wb:=World.new_ne wb _ xwb0;have m1_wb:=World.new_ne wb _ ywb0;have zbb:=af wb (.cells #[yN,yi 0] 145);have zbg:=g_wb.l zbb;have zbq:=q_wb.l zbb;obtain⟨zbx0,zbx1,zbx2,zbx3,zbx4⟩:=zbg.cs5;obtain⟨zby0,zby1,zby2⟩:=zbq.cs3;have zcb:=af wb (.cells #[yT so rd sc,yi rk] 145);have zcg:=g_wb.l zcb;have zcq:=q_wb.l zcb;obtain⟨zcx0,zcx1,zcx2,zcx3,zcx4⟩:=zcg.cs5;obtain⟨zcy0,zcy1,zcy2⟩:=zcq.cs3)
     | (go_at_call 108;have bn:=af wa (.cells #[yN,yi 0] 145);refine(HF2.out _ (aa b_wa bn)).mono ?_;rintro z wb ⟨u,rfl,ou,bb⟩;have oL:=ou.lower (aa b_wa bn).size;have hRa:w.heap.size+1+1<wa.heap.size:=c_wa.lt;have kk0:wa.heap.size≠w.heap.size+1:=(by omega);have kk1:wa.heap.size≠w.heap.size:=(by omega);have g_wb:=(g_wa.l bn).l bb;have q_wb:=(q_wa.l bn).l bb;have c_wb:=(c_wa.l bn).l bb;have n_wb:=(ah wa [yN,yi 0] 145).l bb;have b_wb:=aa (aa b_wa bn) bb;obtain⟨so,sc,hu⟩:=ou.rd.shape;subst hu;obtain⟨xwb0,xwb1,xwb2,xwb3,xwb4⟩:=g_wb.cs5;obtain⟨ywb0,ywb1,ywb2⟩:=q_wb.cs3;have m0_wb:=World.new_ne wb _ xwb0;have m1_wb:=World.new_ne wb _ ywb0;obtain⟨d0,d1⟩:=n_wb.cs2;have f0:=n_wb.f 0;have f1:=n_wb.f 1))
    all_goals (go_wp2_with fail)
    all_goals (first
     | (go_meet;exact TI c_wb oL b_wb)
     | (go_meet;exact Is c_wb n_wb oL b_wb (by omega) (by omega))
     | (go_meet;exact Is c_wb n_wb oL b_wb (by omega) (by omega)))
   case rest=>
    obtain⟨pb,so,sc,rfl,rfl,hpb,hpw,n9,o9,c9,b9⟩:=hcut;clear g_4 q_4 c_4 b0_4 g_e q_e c_e n_e b_e be nn0 nn1 x0 x1 x2 x3 x4 y0 y1 y2 xe0 xe1 xe2 xe3 xe4 ye0 ye1 ye2;obtain⟨p0,p1⟩:=n9.cs2;have d0:=c9.c 0 rfl;have f0:=c9.f 0;have d1:=c9.c 1 rfl;have f1:=c9.f 1
    go_wp2
    have bu:But (w.heap.size+1+1) wc ((wc.setCell ⟨w.heap.size+1+1,0,none⟩ (yT so rd sc)).setCell ⟨w.heap.size+1+1,1,none⟩ (yi rk)):=(ag wc (w.heap.size+1+1) 0 (yT so rd sc)).trans (ag _ (w.heap.size+1+1) 1 (yi rk));have cX:au ((wc.setCell ⟨w.heap.size+1+1,0,none⟩ (yT so rd sc)).setCell ⟨w.heap.size+1+1,1,none⟩ (yi rk)) (w.heap.size+1+1) 145 [yT so rd sc,yi rk]:=(c9.set 0 (yT so rd sc)).set 1 (yi rk);have bX:=bu.below b9 (show w.heap.size≤w.heap.size+1+1 by omega)
    have oX:=bu.own o9 c9 (by decide);obtain⟨s0,s1⟩:=cX.cs2;refine bodyPost_ret (v:= .tuple #[.agg #[yT so rd sc,yi rk],.bool hd,yi 0]) (by simp[results,results72,go_sem,s0,s1]) rfl ?_;exact⟨_,rfl,oX,bX⟩
  ·obtain⟨h1,h2,h3,h4⟩:=HB1.out hgc
   clear HB1 HC1 HF1;have hgf:(gc==0)=false:=by simp[hgc]
   subst h1 h2 h3 h4;obtain⟨y0,y1,y2⟩:=q1.cs3
   go_enter func72,ntmps72
   go_wp2_with fail
   refine(HD.out _ b1).mono ?_;rintro z w2 ⟨rfl,bb2⟩;clear y0 y1 y2;have g_2:=g1.l bb2;have q_2:=q1.l bb2;have c_2:=c1.l bb2;have b0_2:=aa b1 bb2;clear g1 q1 c1 b1 bb2;obtain⟨x0,x1,x2,x3,x4⟩:=g_2.cs5
   go_wp2_with fail
   refine(HG.out _).mono ?_;rintro z w3 ⟨rfl,bb3⟩;have g_3:=g_2.l bb3;have q_3:=q_2.l bb3;have c_3:=c_2.l bb3;have b0_3:=aa b0_2 bb3;clear g_2 q_2 c_2 b0_2 bb3;clear x0 x1 x2 x3 x4;have d0:=c_3.c 0 rfl;have f0:=c_3.f 0;have d1:=c_3.c 1 rfl;have f1:=c_3.f 1
   go_wp2
   have bu:But (w.heap.size+1+1) w3 ((w3.setCell ⟨w.heap.size+1+1,0,none⟩ yN).setCell ⟨w.heap.size+1+1,1,none⟩ (yi 0)):=(ag w3 (w.heap.size+1+1) 0 yN).trans (ag _ (w.heap.size+1+1) 1 (yi 0));have cX:au ((w3.setCell ⟨w.heap.size+1+1,0,none⟩ yN).setCell ⟨w.heap.size+1+1,1,none⟩ (yi 0)) (w.heap.size+1+1) 145 [yN,yi 0]:=(c_3.set 0 yN).set 1 (yi 0);have bX:=bu.below b0_3 (show w.heap.size≤w.heap.size+1+1 by omega)
   obtain⟨s0,s1⟩:=cX.cs2;refine bodyPost_ret (v:= .tuple #[.agg #[yN,yi 0],.bool false,yi c]) (by simp[results,results72,go_sem,s0,s1]) rfl ?_;exact⟨_,rfl,aQ _ _ _ _,bX⟩
 ·obtain⟨h1,h2,h3,h4⟩:=HA.out hdc
  clear HA HB HC HF;have hdf:(dc==0)=false:=by simp[hdc]
  subst h1 h2 h3 h4;obtain⟨y0,y1,y2⟩:=q1.cs3
  go_enter func72,ntmps72
  go_wp2_with fail
  refine(HD.out _ b1).mono ?_;rintro z w2 ⟨rfl,bb2⟩;clear y0 y1 y2;have g_2:=g1.l bb2;have q_2:=q1.l bb2;have c_2:=c1.l bb2;have b0_2:=aa b1 bb2;clear g1 q1 c1 b1 bb2;have d0:=c_2.c 0 rfl;have f0:=c_2.f 0;have d1:=c_2.c 1 rfl;have f1:=c_2.f 1
  go_wp2
  have bu:But (w.heap.size+1+1) w2 ((w2.setCell ⟨w.heap.size+1+1,0,none⟩ yN).setCell ⟨w.heap.size+1+1,1,none⟩ (yi 0)):=(ag w2 (w.heap.size+1+1) 0 yN).trans (ag _ (w.heap.size+1+1) 1 (yi 0));have cX:au ((w2.setCell ⟨w.heap.size+1+1,0,none⟩ yN).setCell ⟨w.heap.size+1+1,1,none⟩ (yi 0)) (w.heap.size+1+1) 145 [yN,yi 0]:=(c_2.set 0 yN).set 1 (yi 0);have bX:=bu.below b0_2 (show w.heap.size≤w.heap.size+1+1 by omega)
  obtain⟨s0,s1⟩:=cX.cs2;refine bodyPost_ret (v:= .tuple #[.agg #[yN,yi 0],.bool false,yi c]) (by simp[results,results72,go_sem,s0,s1]) rfl ?_;exact⟨_,rfl,aQ _ _ _ _,bX⟩
end Go.Proofs.YtddkchlamdhgcaaGreatDoor

/-
  Texts laid together: Co11.
-/
import Derived.Test.YtpainhklfoaniaaGreatDoorSc07
set_option maxRecDepth 100000
set_option maxHeartbeats 3200000
namespace Go.Proofs.YtpainhklfoaniaaGreatDoor
open _root_.Go.Proofs.Tryz
open Go.RowKit
theorem zD (R D L G fam sz ex:Int)(gr ng:Bool)(F:Nat)(e f:Int)(w:World)(c:Int)(h0:e=0)(hc:(if f=0 then 1 else 2)=c):yC 127 #[ylV R D L G gr sz ex fam F,yfV ng e f] w (yR w (yi c)):=by
 have hsf:=cD;have l0:=(ah w (ylL R D L G gr sz ex fam F) 131).l (af _ (.cells (yfA ng e f) 133));have m0:=ah (w.alloc (.cells (ylA R D L G gr sz ex fam F) 131)) (yfL ng e f) 133;have b0:=aa (af w (.cells (ylA R D L G gr sz ex fam F) 131)) (af _ (.cells (yfA ng e f) 133));rw[World.size_alloc] at m0;subst h0 hc;have hz:=fun b=>Aj b
 by_cases hf:f=0
 ·subst hf
  have HZ:Hid (∀w1,yC 128 #[.bool true] w1 fun z w'=>z= .returned (yi 1)∧w'=w1):=hz true
  clear hz
  go_enter func127,ntmps127
  go_wp2_with fail
  refine(HZ.out _).mono ?_;rintro z w1 ⟨rfl,rfl⟩
  go_wp2
  go_ret
  exact⟨rfl,b0⟩
 ·have hfb:(f==0)=false:=by simpa using hf
  have HZ:Hid (∀w1,yC 128 #[.bool false] w1 fun z w'=>z= .returned (yi 2)∧w'=w1):=hz false
  rw[if_neg hf];clear hz hf
  go_enter func127,ntmps127
  go_wp2_with fail
  refine(HZ.out _).mono ?_;rintro z w1 ⟨rfl,rfl⟩
  go_wp2
  go_ret
  exact⟨rfl,b0⟩
theorem Ra (R D L G fam sz ex on wr:Int)(gr ng:Bool)(F:Nat)(e f:Int)(w:World)(HO:yJ 138 #[ylV R D L G gr sz ex fam F] (yi on))(HW:yJ 139 #[ylV R D L G gr sz ex fam F] (.int .u64 wr))(h1:on=e)(h2:wr=f)(_h0:(on==0)=false):yC 127 #[ylV R D L G gr sz ex fam F,yfV ng e f] w (yR w (yi 3)):=by
 have hsf:=cD;replace HO:Hid _:=HO;replace HW:Hid _:=HW;have l0:=(ah w (ylL R D L G gr sz ex fam F) 131).l (af _ (.cells (yfA ng e f) 133));have m0:=ah (w.alloc (.cells (ylA R D L G gr sz ex fam F) 131)) (yfL ng e f) 133;have b0:=aa (af w (.cells (ylA R D L G gr sz ex fam F) 131)) (af _ (.cells (yfA ng e f) 133));rw[World.size_alloc] at m0;subst h1 h2;obtain⟨x0,x1,x2,x3,x4,x5,x6,x7,x8⟩:=l0.cs9;obtain⟨u0,u1,u2⟩:=m0.cs3
 go_enter func127,ntmps127
 go_wp2_with fail
 go_region_held3 (fun wq=>(wq.cell? ⟨w.heap.size,0,none⟩=some (yi R)∧wq.cell? ⟨w.heap.size,1,none⟩=some (yi D)∧wq.cell? ⟨w.heap.size,2,none⟩=some (yi L)∧wq.cell? ⟨w.heap.size,3,none⟩=some (yi G)∧wq.cell? ⟨w.heap.size,4,none⟩=some (.bool gr)∧wq.cell? ⟨w.heap.size,5,none⟩=some (yi sz)∧wq.cell? ⟨w.heap.size,6,none⟩=some (yi ex)∧wq.cell? ⟨w.heap.size,7,none⟩=some (yi fam)∧wq.cell? ⟨w.heap.size,8,none⟩=some (.func (.func F) #[] #[]))∧(wq.cell? ⟨w.heap.size+1,0,none⟩=some (.bool ng)∧wq.cell? ⟨w.heap.size+1,1,none⟩=some (yi on)∧wq.cell? ⟨w.heap.size+1,2,none⟩=some (.int .u64 wr))) (go_keep) (first
  | (go_at_call 138;refine(HO.out _).mono ?_;rintro z w2 ⟨rfl,b2⟩;have l2:=l0.drew.l b2;have m2:=m0.drew.l b2;have b02:=aa b0.drew b2;obtain⟨y0,y1,y2,y3,y4,y5,y6,y7,y8⟩:=l2.cs9;obtain⟨v0,v1,v2⟩:=m2.cs3)
  | (go_at_call 139;refine(HW.out _).mono ?_;rintro z w3 ⟨rfl,b3⟩;have l3:=l2.l b3;have m3:=m2.l b3;have b03:=aa b02 b3;obtain⟨z0,z1,z2,z3,z4,z5,z6,z7,z8⟩:=l3.cs9;obtain⟨t0,t1,t2⟩:=m3.cs3))
 all_goals go_wp2
 all_goals go_ret
 all_goals exact⟨rfl,b03⟩
theorem KP (R D L G fam sz ex on wr:Int)(gr ng:Bool)(F:Nat)(e f:Int)(w:World)(HO:yJ 138 #[ylV R D L G gr sz ex fam F] (yi on))(HW:yJ 139 #[ylV R D L G gr sz ex fam F] (.int .u64 wr))(h1:on=e)(h2:f≠wr)(_h0:(on==0)=false):yC 127 #[ylV R D L G gr sz ex fam F,yfV ng e f] w (yR w (yi 4)):=by
 have hsf:=cD;replace HO:Hid _:=HO;replace HW:Hid _:=HW;have l0:=(ah w (ylL R D L G gr sz ex fam F) 131).l (af _ (.cells (yfA ng e f) 133));have m0:=ah (w.alloc (.cells (ylA R D L G gr sz ex fam F) 131)) (yfL ng e f) 133;have b0:=aa (af w (.cells (ylA R D L G gr sz ex fam F) 131)) (af _ (.cells (yfA ng e f) 133));rw[World.size_alloc] at m0;subst h1;have hfb:(f==wr)=false:=by simpa using h2
 clear h2;obtain⟨x0,x1,x2,x3,x4,x5,x6,x7,x8⟩:=l0.cs9;obtain⟨u0,u1,u2⟩:=m0.cs3
 go_enter func127,ntmps127
 go_wp2_with fail
 go_region_held3 (fun wq=>(wq.cell? ⟨w.heap.size,0,none⟩=some (yi R)∧wq.cell? ⟨w.heap.size,1,none⟩=some (yi D)∧wq.cell? ⟨w.heap.size,2,none⟩=some (yi L)∧wq.cell? ⟨w.heap.size,3,none⟩=some (yi G)∧wq.cell? ⟨w.heap.size,4,none⟩=some (.bool gr)∧wq.cell? ⟨w.heap.size,5,none⟩=some (yi sz)∧wq.cell? ⟨w.heap.size,6,none⟩=some (yi ex)∧wq.cell? ⟨w.heap.size,7,none⟩=some (yi fam)∧wq.cell? ⟨w.heap.size,8,none⟩=some (.func (.func F) #[] #[]))∧(wq.cell? ⟨w.heap.size+1,0,none⟩=some (.bool ng)∧wq.cell? ⟨w.heap.size+1,1,none⟩=some (yi on)∧wq.cell? ⟨w.heap.size+1,2,none⟩=some (.int .u64 f))) (go_keep) (first
  | (go_at_call 138;refine(HO.out _).mono ?_;rintro z w2 ⟨rfl,b2⟩;have l2:=l0.drew.l b2;have m2:=m0.drew.l b2;have b02:=aa b0.drew b2;obtain⟨y0,y1,y2,y3,y4,y5,y6,y7,y8⟩:=l2.cs9;obtain⟨v0,v1,v2⟩:=m2.cs3)
  | (go_at_call 139;refine(HW.out _).mono ?_;rintro z w3 ⟨rfl,b3⟩;have l3:=l2.l b3;have m3:=m2.l b3;have b03:=aa b02 b3;obtain⟨z0,z1,z2,z3,z4,z5,z6,z7,z8⟩:=l3.cs9;obtain⟨t0,t1,t2⟩:=m3.cs3))
 go_wp2_with fail
 refine wp_region_held_drew (S:=(fun wq=>(wq.cell? ⟨w.heap.size,0,none⟩=some (yi R)∧wq.cell? ⟨w.heap.size,1,none⟩=some (yi D)∧wq.cell? ⟨w.heap.size,2,none⟩=some (yi L)∧wq.cell? ⟨w.heap.size,3,none⟩=some (yi G)∧wq.cell? ⟨w.heap.size,4,none⟩=some (.bool gr)∧wq.cell? ⟨w.heap.size,5,none⟩=some (yi sz)∧wq.cell? ⟨w.heap.size,6,none⟩=some (yi ex)∧wq.cell? ⟨w.heap.size,7,none⟩=some (yi fam)∧wq.cell? ⟨w.heap.size,8,none⟩=some (.func (.func F) #[] #[]))∧(wq.cell? ⟨w.heap.size+1,0,none⟩=some (.bool ng)∧wq.cell? ⟨w.heap.size+1,1,none⟩=some (yi on)∧wq.cell? ⟨w.heap.size+1,2,none⟩=some (.int .u64 f)))) (by kernel_rfl) ⟨⟨l3.drew.c 0 rfl,l3.drew.c 1 rfl,l3.drew.c 2 rfl,l3.drew.c 3 rfl,l3.drew.c 4 rfl,l3.drew.c 5 rfl,l3.drew.c 6 rfl,l3.drew.c 7 rfl,l3.drew.c 8 rfl⟩,m3.drew.c 0 rfl,m3.drew.c 1 rfl,m3.drew.c 2 rfl⟩ (fun hS0=> ?_)
 refine tq 0 (.pointer (some ⟨w.heap.size+1,1,none⟩)) rfl (fun w0 _=>by go_simp) hS0 ?_
 refine tq 1 (yi on) rfl (fun w0 hw0=>by obtain⟨⟨p0,p1,p2,p3,p4,p5,p6,p7,p8⟩,q0,q1,q2⟩:=hw0;go_simp) hS0 ?_
 refine tq 2 ((ylV R D L G gr sz ex fam F)) rfl (fun w0 hw0=>by obtain⟨⟨p0,p1,p2,p3,p4,p5,p6,p7,p8⟩,q0,q1,q2⟩:=hw0;go_simp) hS0 ?_
 refine wpAnyH_ready (rs:=[3]) (by kernel_rfl) (by simp) ?_;refine AllReadyH.cons rfl (fun K hK=> ?_) AllReadyH.nil
 go_simp
 refine(HO.out _).mono ?_;rintro z w4 ⟨rfl,b4⟩;have l4:=l3.drew.l b4;have m4:=m3.drew.l b4;have b04:=aa b03.drew b4;refine hK.out _ _ ⟨⟨l4.c 0 rfl,l4.c 1 rfl,l4.c 2 rfl,l4.c 3 rfl,l4.c 4 rfl,l4.c 5 rfl,l4.c 6 rfl,l4.c 7 rfl,l4.c 8 rfl⟩,m4.c 0 rfl,m4.c 1 rfl,m4.c 2 rfl⟩ (fun hS3=> ?_)
 clear hK K;refine tq 4 (.bool true) rfl (fun w0 _=>by go_simp) hS3 ?_
 refine tq 5 (.bool true) rfl (fun w0 _=>by go_simp) hS3 ?_
 refine wpAnyH_take (i:=6) (v:=undef) rfl (by kernel_rfl) (by kernel_rfl) (by kernel_rfl) (fun _ _ _ h=>h) (Or.inr ⟨by kernel_rfl,rfl⟩) hS3 ?_
 refine wpAnyH_take (i:=7) (v:=undef) rfl (by kernel_rfl) (by kernel_rfl) (by kernel_rfl) (fun _ _ _ h=>h) (Or.inr ⟨by kernel_rfl,rfl⟩) hS3 ?_
 refine wpAnyH_take (i:=8) (v:=undef) rfl (by kernel_rfl) (by kernel_rfl) (by kernel_rfl) (fun _ _ _ h=>h) (Or.inr ⟨by kernel_rfl,rfl⟩) hS3 ?_
 refine wpAnyH_take (i:=9) (v:=undef) rfl (by kernel_rfl) (by kernel_rfl) (by kernel_rfl) (fun _ _ _ h=>h) (Or.inr ⟨by kernel_rfl,rfl⟩) hS3 ?_
 refine wpAnyH_take (i:=10) (v:=undef) rfl (by kernel_rfl) (by kernel_rfl) (by kernel_rfl) (fun _ _ _ h=>h) (Or.inr ⟨by kernel_rfl,rfl⟩) hS3 ?_
 refine wpAnyH_take (i:=11) (v:=undef) rfl (by kernel_rfl) (by kernel_rfl) (by kernel_rfl) (fun _ _ _ h=>h) (Or.inr ⟨by kernel_rfl,rfl⟩) hS3 ?_
 refine wpAnyH_take (i:=12) (v:=undef) rfl (by kernel_rfl) (by kernel_rfl) (by kernel_rfl) (fun _ _ _ h=>h) (Or.inr ⟨by kernel_rfl,rfl⟩) hS3 ?_
 refine wpAnyH_take (i:=13) (v:=undef) rfl (by kernel_rfl) (by kernel_rfl) (by kernel_rfl) (fun _ _ _ h=>h) (Or.inr ⟨by kernel_rfl,rfl⟩) hS3 ?_
 refine tq 14 (.bool true) rfl (fun w0 _=>by go_simp) hS3 ?_
 refine tq 15 (.bool true) rfl (fun w0 _=>by go_simp) hS3 ?_
 simp only[Act.put,List.getElem_toArray,List.getElem_cons_succ,List.getElem_cons_zero,List.setIfInBounds_toArray,List.set_cons_zero,List.set_cons_succ];refine wpAnyH_done (by kernel_rfl) ?_ _
 go_wp2
 go_ret
 exact⟨rfl,b04⟩
theorem Rb (R D L G fam sz ex on wr:Int)(gr ng:Bool)(F:Nat)(e f:Int)(w:World)(HO:yJ 138 #[ylV R D L G gr sz ex fam F] (yi on))(HW:yJ 139 #[ylV R D L G gr sz ex fam F] (.int .u64 wr))(h1:e≠0)(h2:e≠on)(h3:bits .and .u64 f wr=wr):yC 127 #[ylV R D L G gr sz ex fam F,yfV ng e f] w (yR w (yi 2)):=by
 have hsf:=cD;replace HO:Hid _:=HO;replace HW:Hid _:=HW;have l0:=(ah w (ylL R D L G gr sz ex fam F) 131).l (af _ (.cells (yfA ng e f) 133));have m0:=ah (w.alloc (.cells (ylA R D L G gr sz ex fam F) 131)) (yfL ng e f) 133;have b0:=aa (af w (.cells (ylA R D L G gr sz ex fam F) 131)) (af _ (.cells (yfA ng e f) 133));rw[World.size_alloc] at m0;have he0:(e==0)=false:=by simpa using h1
 have he1:(e==on)=false:=by simpa using h2
 clear h1 h2;obtain⟨x0,x1,x2,x3,x4,x5,x6,x7,x8⟩:=l0.cs9;obtain⟨u0,u1,u2⟩:=m0.cs3
 go_enter func127,ntmps127
 go_wp2_with fail
 refine wp_region_held_drew (S:=(fun wq=>(wq.cell? ⟨w.heap.size,0,none⟩=some (yi R)∧wq.cell? ⟨w.heap.size,1,none⟩=some (yi D)∧wq.cell? ⟨w.heap.size,2,none⟩=some (yi L)∧wq.cell? ⟨w.heap.size,3,none⟩=some (yi G)∧wq.cell? ⟨w.heap.size,4,none⟩=some (.bool gr)∧wq.cell? ⟨w.heap.size,5,none⟩=some (yi sz)∧wq.cell? ⟨w.heap.size,6,none⟩=some (yi ex)∧wq.cell? ⟨w.heap.size,7,none⟩=some (yi fam)∧wq.cell? ⟨w.heap.size,8,none⟩=some (.func (.func F) #[] #[]))∧(wq.cell? ⟨w.heap.size+1,0,none⟩=some (.bool ng)∧wq.cell? ⟨w.heap.size+1,1,none⟩=some (yi e)∧wq.cell? ⟨w.heap.size+1,2,none⟩=some (.int .u64 f)))) (by kernel_rfl) ⟨⟨l0.drew.c 0 rfl,l0.drew.c 1 rfl,l0.drew.c 2 rfl,l0.drew.c 3 rfl,l0.drew.c 4 rfl,l0.drew.c 5 rfl,l0.drew.c 6 rfl,l0.drew.c 7 rfl,l0.drew.c 8 rfl⟩,m0.drew.c 0 rfl,m0.drew.c 1 rfl,m0.drew.c 2 rfl⟩ (fun hS0=> ?_)
 refine tq 0 (.pointer (some ⟨w.heap.size+1,1,none⟩)) rfl (fun w0 _=>by go_simp) hS0 ?_
 refine tq 1 (yi e) rfl (fun w0 hw0=>by obtain⟨⟨p0,p1,p2,p3,p4,p5,p6,p7,p8⟩,q0,q1,q2⟩:=hw0;go_simp) hS0 ?_
 refine tq 2 ((ylV R D L G gr sz ex fam F)) rfl (fun w0 hw0=>by obtain⟨⟨p0,p1,p2,p3,p4,p5,p6,p7,p8⟩,q0,q1,q2⟩:=hw0;go_simp) hS0 ?_
 refine wpAnyH_ready (rs:=[3]) (by kernel_rfl) (by simp) ?_;refine AllReadyH.cons rfl (fun K hK=> ?_) AllReadyH.nil
 go_simp
 refine(HO.out _).mono ?_;rintro z w1 ⟨rfl,b1⟩;have l1:=l0.drew.l b1;have m1:=m0.drew.l b1;have b01:=aa b0.drew b1;refine hK.out _ _ ⟨⟨l1.c 0 rfl,l1.c 1 rfl,l1.c 2 rfl,l1.c 3 rfl,l1.c 4 rfl,l1.c 5 rfl,l1.c 6 rfl,l1.c 7 rfl,l1.c 8 rfl⟩,m1.c 0 rfl,m1.c 1 rfl,m1.c 2 rfl⟩ (fun hS3=> ?_)
 clear hK K;refine tq 4 (.bool false) rfl (fun w0 _=>by go_simp) hS3 ?_
 refine tq 5 (.bool false) rfl (fun w0 _=>by go_simp) hS3 ?_
 refine wpAnyH_take (i:=6) (v:=undef) rfl (by kernel_rfl) (by kernel_rfl) (by kernel_rfl) (fun _ _ _ h=>h) (Or.inr ⟨by kernel_rfl,rfl⟩) hS3 ?_
 refine wpAnyH_take (i:=7) (v:=undef) rfl (by kernel_rfl) (by kernel_rfl) (by kernel_rfl) (fun _ _ _ h=>h) (Or.inr ⟨by kernel_rfl,rfl⟩) hS3 ?_
 refine wpAnyH_take (i:=8) (v:=undef) rfl (by kernel_rfl) (by kernel_rfl) (by kernel_rfl) (fun _ _ _ h=>h) (Or.inr ⟨by kernel_rfl,rfl⟩) hS3 ?_
 refine wpAnyH_take (i:=9) (v:=undef) rfl (by kernel_rfl) (by kernel_rfl) (by kernel_rfl) (fun _ _ _ h=>h) (Or.inr ⟨by kernel_rfl,rfl⟩) hS3 ?_
 refine wpAnyH_take (i:=10) (v:=undef) rfl (by kernel_rfl) (by kernel_rfl) (by kernel_rfl) (fun _ _ _ h=>h) (Or.inr ⟨by kernel_rfl,rfl⟩) hS3 ?_
 refine tq 11 (.bool false) rfl (fun w0 _=>by go_simp) hS3 ?_
 refine tq 12 (.bool false) rfl (fun w0 _=>by go_simp) hS3 ?_
 simp only[Act.put,List.getElem_toArray,List.getElem_cons_succ,List.getElem_cons_zero,List.setIfInBounds_toArray,List.set_cons_zero,List.set_cons_succ];refine wpAnyH_done (by kernel_rfl) ?_ _
 go_wp2_with fail
 go_region_held3 (fun wq=>(wq.cell? ⟨w.heap.size,0,none⟩=some (yi R)∧wq.cell? ⟨w.heap.size,1,none⟩=some (yi D)∧wq.cell? ⟨w.heap.size,2,none⟩=some (yi L)∧wq.cell? ⟨w.heap.size,3,none⟩=some (yi G)∧wq.cell? ⟨w.heap.size,4,none⟩=some (.bool gr)∧wq.cell? ⟨w.heap.size,5,none⟩=some (yi sz)∧wq.cell? ⟨w.heap.size,6,none⟩=some (yi ex)∧wq.cell? ⟨w.heap.size,7,none⟩=some (yi fam)∧wq.cell? ⟨w.heap.size,8,none⟩=some (.func (.func F) #[] #[]))∧(wq.cell? ⟨w.heap.size+1,0,none⟩=some (.bool ng)∧wq.cell? ⟨w.heap.size+1,1,none⟩=some (yi e)∧wq.cell? ⟨w.heap.size+1,2,none⟩=some (.int .u64 f))) (go_keep) (first
  | (go_at_call 138;refine(HO.out _).mono ?_;rintro z w2 ⟨rfl,b2⟩;have l2:=l1.drew.l b2;have m2:=m1.drew.l b2;have b02:=aa b01.drew b2;obtain⟨y0,y1,y2,y3,y4,y5,y6,y7,y8⟩:=l2.cs9;obtain⟨v0,v1,v2⟩:=m2.cs3)
  | (go_at_call 139;have hgd:=b02;clear hgd;refine(HW.out _).mono ?_;rintro z w3 ⟨rfl,b3⟩;have l3:=l2.l b3;have m3:=m2.l b3;have b03:=aa b02 b3;obtain⟨z0,z1,z2,z3,z4,z5,z6,z7,z8⟩:=l3.cs9;obtain⟨t0,t1,t2⟩:=m3.cs3;clear b02)
  | (go_at_call 139;refine(HW.out _).mono ?_;rintro z w4 ⟨rfl,b4⟩;have l4:=l3.l b4;have m4:=m3.l b4;have b04:=aa b03 b4;obtain⟨a0,a1,a2,a3,a4,a5,a6,a7,a8⟩:=l4.cs9;obtain⟨c0,c1,c2⟩:=m4.cs3))
 all_goals go_wp2
 all_goals go_ret
 all_goals exact⟨rfl,b04⟩
theorem adw (R D L G fam sz ex on wr:Int)(gr ng:Bool)(F:Nat)(e f:Int)(w:World)(HO:yJ 138 #[ylV R D L G gr sz ex fam F] (yi on))(HW:yJ 139 #[ylV R D L G gr sz ex fam F] (.int .u64 wr))(h1:e≠0)(h2:e≠on)(h3:bits .and .u64 f wr=0)(_h4:((0:Int)==wr)=false):yC 127 #[ylV R D L G gr sz ex fam F,yfV ng e f] w (yR w (yi 4)):=by
 have hsf:=cD;replace HO:Hid _:=HO;replace HW:Hid _:=HW;have l0:=(ah w (ylL R D L G gr sz ex fam F) 131).l (af _ (.cells (yfA ng e f) 133));have m0:=ah (w.alloc (.cells (ylA R D L G gr sz ex fam F) 131)) (yfL ng e f) 133;have b0:=aa (af w (.cells (ylA R D L G gr sz ex fam F) 131)) (af _ (.cells (yfA ng e f) 133));rw[World.size_alloc] at m0;have he0:(e==0)=false:=by simpa using h1
 have he1:(e==on)=false:=by simpa using h2
 clear h1 h2;obtain⟨x0,x1,x2,x3,x4,x5,x6,x7,x8⟩:=l0.cs9;obtain⟨u0,u1,u2⟩:=m0.cs3
 go_enter func127,ntmps127
 go_wp2_with fail
 refine wp_region_held_drew (S:=(fun wq=>(wq.cell? ⟨w.heap.size,0,none⟩=some (yi R)∧wq.cell? ⟨w.heap.size,1,none⟩=some (yi D)∧wq.cell? ⟨w.heap.size,2,none⟩=some (yi L)∧wq.cell? ⟨w.heap.size,3,none⟩=some (yi G)∧wq.cell? ⟨w.heap.size,4,none⟩=some (.bool gr)∧wq.cell? ⟨w.heap.size,5,none⟩=some (yi sz)∧wq.cell? ⟨w.heap.size,6,none⟩=some (yi ex)∧wq.cell? ⟨w.heap.size,7,none⟩=some (yi fam)∧wq.cell? ⟨w.heap.size,8,none⟩=some (.func (.func F) #[] #[]))∧(wq.cell? ⟨w.heap.size+1,0,none⟩=some (.bool ng)∧wq.cell? ⟨w.heap.size+1,1,none⟩=some (yi e)∧wq.cell? ⟨w.heap.size+1,2,none⟩=some (.int .u64 f)))) (by kernel_rfl) ⟨⟨l0.drew.c 0 rfl,l0.drew.c 1 rfl,l0.drew.c 2 rfl,l0.drew.c 3 rfl,l0.drew.c 4 rfl,l0.drew.c 5 rfl,l0.drew.c 6 rfl,l0.drew.c 7 rfl,l0.drew.c 8 rfl⟩,m0.drew.c 0 rfl,m0.drew.c 1 rfl,m0.drew.c 2 rfl⟩ (fun hS0=> ?_)
 refine tq 0 (.pointer (some ⟨w.heap.size+1,1,none⟩)) rfl (fun w0 _=>by go_simp) hS0 ?_
 refine tq 1 (yi e) rfl (fun w0 hw0=>by obtain⟨⟨p0,p1,p2,p3,p4,p5,p6,p7,p8⟩,q0,q1,q2⟩:=hw0;go_simp) hS0 ?_
 refine tq 2 ((ylV R D L G gr sz ex fam F)) rfl (fun w0 hw0=>by obtain⟨⟨p0,p1,p2,p3,p4,p5,p6,p7,p8⟩,q0,q1,q2⟩:=hw0;go_simp) hS0 ?_
 refine wpAnyH_ready (rs:=[3]) (by kernel_rfl) (by simp) ?_;refine AllReadyH.cons rfl (fun K hK=> ?_) AllReadyH.nil
 go_simp
 refine(HO.out _).mono ?_;rintro z w1 ⟨rfl,b1⟩;have l1:=l0.drew.l b1;have m1:=m0.drew.l b1;have b01:=aa b0.drew b1;refine hK.out _ _ ⟨⟨l1.c 0 rfl,l1.c 1 rfl,l1.c 2 rfl,l1.c 3 rfl,l1.c 4 rfl,l1.c 5 rfl,l1.c 6 rfl,l1.c 7 rfl,l1.c 8 rfl⟩,m1.c 0 rfl,m1.c 1 rfl,m1.c 2 rfl⟩ (fun hS3=> ?_)
 clear hK K;refine tq 4 (.bool false) rfl (fun w0 _=>by go_simp) hS3 ?_
 refine tq 5 (.bool false) rfl (fun w0 _=>by go_simp) hS3 ?_
 refine wpAnyH_take (i:=6) (v:=undef) rfl (by kernel_rfl) (by kernel_rfl) (by kernel_rfl) (fun _ _ _ h=>h) (Or.inr ⟨by kernel_rfl,rfl⟩) hS3 ?_
 refine wpAnyH_take (i:=7) (v:=undef) rfl (by kernel_rfl) (by kernel_rfl) (by kernel_rfl) (fun _ _ _ h=>h) (Or.inr ⟨by kernel_rfl,rfl⟩) hS3 ?_
 refine wpAnyH_take (i:=8) (v:=undef) rfl (by kernel_rfl) (by kernel_rfl) (by kernel_rfl) (fun _ _ _ h=>h) (Or.inr ⟨by kernel_rfl,rfl⟩) hS3 ?_
 refine wpAnyH_take (i:=9) (v:=undef) rfl (by kernel_rfl) (by kernel_rfl) (by kernel_rfl) (fun _ _ _ h=>h) (Or.inr ⟨by kernel_rfl,rfl⟩) hS3 ?_
 refine wpAnyH_take (i:=10) (v:=undef) rfl (by kernel_rfl) (by kernel_rfl) (by kernel_rfl) (fun _ _ _ h=>h) (Or.inr ⟨by kernel_rfl,rfl⟩) hS3 ?_
 refine tq 11 (.bool false) rfl (fun w0 _=>by go_simp) hS3 ?_
 refine tq 12 (.bool false) rfl (fun w0 _=>by go_simp) hS3 ?_
 simp only[Act.put,List.getElem_toArray,List.getElem_cons_succ,List.getElem_cons_zero,List.setIfInBounds_toArray,List.set_cons_zero,List.set_cons_succ];refine wpAnyH_done (by kernel_rfl) ?_ _
 go_wp2_with fail
 go_region_held3 (fun wq=>(wq.cell? ⟨w.heap.size,0,none⟩=some (yi R)∧wq.cell? ⟨w.heap.size,1,none⟩=some (yi D)∧wq.cell? ⟨w.heap.size,2,none⟩=some (yi L)∧wq.cell? ⟨w.heap.size,3,none⟩=some (yi G)∧wq.cell? ⟨w.heap.size,4,none⟩=some (.bool gr)∧wq.cell? ⟨w.heap.size,5,none⟩=some (yi sz)∧wq.cell? ⟨w.heap.size,6,none⟩=some (yi ex)∧wq.cell? ⟨w.heap.size,7,none⟩=some (yi fam)∧wq.cell? ⟨w.heap.size,8,none⟩=some (.func (.func F) #[] #[]))∧(wq.cell? ⟨w.heap.size+1,0,none⟩=some (.bool ng)∧wq.cell? ⟨w.heap.size+1,1,none⟩=some (yi e)∧wq.cell? ⟨w.heap.size+1,2,none⟩=some (.int .u64 f))) (go_keep) (first
  | (go_at_call 138;refine(HO.out _).mono ?_;rintro z w2 ⟨rfl,b2⟩;have l2:=l1.drew.l b2;have m2:=m1.drew.l b2;have b02:=aa b01.drew b2;obtain⟨y0,y1,y2,y3,y4,y5,y6,y7,y8⟩:=l2.cs9;obtain⟨v0,v1,v2⟩:=m2.cs3)
  | (go_at_call 139;have hgd:=b02;clear hgd;refine(HW.out _).mono ?_;rintro z w3 ⟨rfl,b3⟩;have l3:=l2.l b3;have m3:=m2.l b3;have b03:=aa b02 b3;obtain⟨z0,z1,z2,z3,z4,z5,z6,z7,z8⟩:=l3.cs9;obtain⟨t0,t1,t2⟩:=m3.cs3;clear b02)
  | (go_at_call 139;refine(HW.out _).mono ?_;rintro z w4 ⟨rfl,b4⟩;have l4:=l3.l b4;have m4:=m3.l b4;have b04:=aa b03 b4;obtain⟨a0,a1,a2,a3,a4,a5,a6,a7,a8⟩:=l4.cs9;obtain⟨c0,c1,c2⟩:=m4.cs3))
 all_goals go_wp2
 all_goals go_ret
 all_goals exact⟨rfl,b04⟩
theorem SK (f n:Nat):f&&& 2^n=if f.testBit n then 2^n else 0:=by
 apply Nat.eq_of_testBit_eq;intro i;rw[Nat.testBit_and,Nat.testBit_two_pow]
 by_cases hi:n=i
 ·subst hi
  cases h:f.testBit n
  ·simp
  ·simp
 ·cases h:f.testBit n
  ·simp[hi]
  ·simp[hi]
theorem ab0 (f:Nat)(h:f<18446744073709551616):bits .and .u64 f 9223372036854775808=if f<9223372036854775808 then 0 else 9223372036854775808:=by
 have e1:=u64_and_nat f 9223372036854775808 h (by omega);rw[show 9223372036854775808=((9223372036854775808:Nat):Int) from rfl,e1]
 have e2:=SK f 63;rw[Nat.testBit_eq_decide_div_mod_eq,show(2:Nat)^63=9223372036854775808 from rfl] at e2
 rw[e2]
 by_cases c:f<9223372036854775808
 ·rw[if_pos c,show f/9223372036854775808=0 from by omega]
  rfl
 ·rw[if_neg c,show f/9223372036854775808=1 from by omega]
  rfl
theorem NR (f:Nat)(h:f<18446744073709551616):bits .and .u64 f 0=0:=by
 have e1:=u64_and_nat f 0 h (by omega);rw[Nat.and_zero] at e1;exact e1
def dh (k:Nat)(ng:Bool)(e f:Nat):Nat:=
 if k≤3 then(if e=0 then(if f=0 then 1 else 2) else if e=kp k then(if f=(if k=3 then 2^63 else 0) then 3 else 4) else if k=3∧f<2^63 then 4 else 2)
 else if k≤5 then(if f=0 then 1 else 2)
 else if e=0 then(if ng then 5 else 1) else 2
theorem afs (ng:Bool)(e f:Nat)(w:World)(hf:f<18446744073709551616):yC 127 #[.agg #[yi 2,yi 24,yi (-149),yi 104,.bool true,yi 4,yi 8,yi 1,.func (.func 132) #[] #[]],yfV ng e f] w (yR w (yi ((dh 1 ng e f:Nat):Int))):=by
 unfold dh;rw[if_pos (by decide),show kp 1=255 from rfl]
 by_cases h0:e=0
 ·subst h0
  rw[if_pos rfl]
  by_cases hz:f=0
  ·subst hz
   exact zD _ _ _ _ _ _ _ _ ng _ 0 0 w _ rfl rfl
  ·rw[if_neg hz]
   exact zD _ _ _ _ _ _ _ _ ng _ 0 f w _ rfl (if_neg (by omega))
 ·rw[if_neg h0]
  by_cases h1:e=255
  ·subst h1
   rw[if_pos rfl]
   by_cases h2:f=(if 1=3 then 2^63 else 0)
   ·rw[if_pos h2]
    exact Ra _ _ _ _ _ _ _ 255 0 _ ng _ _ f w (jy 1 (by decide)) (gj 1 (by decide)) rfl (by rw[h2];rfl) (by decide)
   ·rw[if_neg h2]
    exact KP _ _ _ _ _ _ _ 255 0 _ ng _ _ f w (jy 1 (by decide)) (gj 1 (by decide)) rfl (fun c=>h2 (by rw[show(if 1=3 then 2^63 else 0)=0 from rfl];omega)) (by decide)
  ·rw[if_neg h1]
   rw[if_neg (fun c=>by omega)]
   exact Rb _ _ _ _ _ _ _ 255 0 _ ng _ _ f w (jy 1 (by decide)) (gj 1 (by decide)) (by omega) (by omega) (NR f hf)
theorem aft (ng:Bool)(e f:Nat)(w:World)(hf:f<18446744073709551616):yC 127 #[.agg #[yi 2,yi 53,yi (-1074),yi 971,.bool true,yi 8,yi 11,yi 1,.func (.func 132) #[] #[]],yfV ng e f] w (yR w (yi ((dh 2 ng e f:Nat):Int))):=by
 unfold dh;rw[if_pos (by decide),show kp 2=2047 from rfl]
 by_cases h0:e=0
 ·subst h0
  rw[if_pos rfl]
  by_cases hz:f=0
  ·subst hz
   exact zD _ _ _ _ _ _ _ _ ng _ 0 0 w _ rfl rfl
  ·rw[if_neg hz]
   exact zD _ _ _ _ _ _ _ _ ng _ 0 f w _ rfl (if_neg (by omega))
 ·rw[if_neg h0]
  by_cases h1:e=2047
  ·subst h1
   rw[if_pos rfl]
   by_cases h2:f=(if 2=3 then 2^63 else 0)
   ·rw[if_pos h2]
    exact Ra _ _ _ _ _ _ _ 2047 0 _ ng _ _ f w (jy 2 (by decide)) (gj 2 (by decide)) rfl (by rw[h2];rfl) (by decide)
   ·rw[if_neg h2]
    exact KP _ _ _ _ _ _ _ 2047 0 _ ng _ _ f w (jy 2 (by decide)) (gj 2 (by decide)) rfl (fun c=>h2 (by rw[show(if 2=3 then 2^63 else 0)=0 from rfl];omega)) (by decide)
  ·rw[if_neg h1]
   rw[if_neg (fun c=>by omega)]
   exact Rb _ _ _ _ _ _ _ 2047 0 _ ng _ _ f w (jy 2 (by decide)) (gj 2 (by decide)) (by omega) (by omega) (NR f hf)
theorem afu (ng:Bool)(e f:Nat)(w:World)(hf:f<18446744073709551616):yC 127 #[.agg #[yi 2,yi 64,yi (-16445),yi 16320,.bool true,yi 10,yi 15,yi 1,.func (.func 133) #[] #[]],yfV ng e f] w (yR w (yi ((dh 3 ng e f:Nat):Int))):=by
 unfold dh;rw[if_pos (by decide),show kp 3=32767 from rfl]
 by_cases h0:e=0
 ·subst h0
  rw[if_pos rfl]
  by_cases hz:f=0
  ·subst hz
   exact zD _ _ _ _ _ _ _ _ ng _ 0 0 w _ rfl rfl
  ·rw[if_neg hz]
   exact zD _ _ _ _ _ _ _ _ ng _ 0 f w _ rfl (if_neg (by omega))
 ·rw[if_neg h0]
  by_cases h1:e=32767
  ·subst h1
   rw[if_pos rfl]
   by_cases h2:f=(if 3=3 then 2^63 else 0)
   ·rw[if_pos h2]
    exact Ra _ _ _ _ _ _ _ 32767 9223372036854775808 _ ng _ _ f w (jy 3 (by decide)) (gj 3 (by decide)) rfl (by rw[h2];rfl) (by decide)
   ·rw[if_neg h2]
    exact KP _ _ _ _ _ _ _ 32767 9223372036854775808 _ ng _ _ f w (jy 3 (by decide)) (gj 3 (by decide)) rfl (fun c=>h2 (by rw[show(if 3=3 then 2^63 else 0)=9223372036854775808 from rfl];omega)) (by decide)
  ·rw[if_neg h1]
   have ha:=ab0 f hf
   by_cases h3:f<9223372036854775808
   ·rw[if_pos ⟨rfl,h3⟩]
    rw[if_pos h3] at ha;exact adw _ _ _ _ _ _ _ 32767 9223372036854775808 _ ng _ _ f w (jy 3 (by decide)) (gj 3 (by decide)) (by omega) (by omega) ha (by decide)
   ·rw[if_neg (fun c=>h3 c.2)]
    rw[if_neg h3] at ha;exact Rb _ _ _ _ _ _ _ 32767 9223372036854775808 _ ng _ _ f w (jy 3 (by decide)) (gj 3 (by decide)) (by omega) (by omega) ha
end Go.Proofs.YtpainhklfoaniaaGreatDoor

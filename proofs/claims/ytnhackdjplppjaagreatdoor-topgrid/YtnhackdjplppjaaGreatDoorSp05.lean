/-
  Texts laid together: Co11, Co12, Co6.
-/
import Derived.Laws.IdiomStrings
import Derived.Test.YtnhackdjplppjaaGreatDoorSp04
set_option maxRecDepth 100000
namespace Go.Proofs.YtnhackdjplppjaaGreatDoor
open Go.RowKit
set_option maxHeartbeats 3200000 in
theorem ci_zero (R D L G fam sz ex:Int) (gr ng:Bool) (F:Nat) (e f:Int) (w:World) (c:Int) (h0:e=0) (hc:(if f=0 then 1 else 2)=c):Calls Tryz.prog 194 #[ylV R D L G gr sz ex fam F,yfV ng e f] w fun z w'=>z= .returned (yi c)∧Below w.heap.size w w':=by
 have hsf:=hsf_z;have l0:=(locE_new w (ylL R D L G gr sz ex fam F) 144).later (below_alloc _ (.cells (yfL ng e f).toArray 147));have m0:=locE_new (w.alloc (.cells (ylL R D L G gr sz ex fam F).toArray 144)) (yfL ng e f) 147;have b0:=below_trans (below_alloc w (.cells (ylL R D L G gr sz ex fam F).toArray 144)) (below_alloc _ (.cells (yfL ng e f).toArray 147));rw[World.size_alloc] at m0;subst h0 hc;have hz:=fun b=>zeroOr_any b
 by_cases hf:f=0
 ·subst hf
  have HZ:Hid (∀w1,Calls Tryz.prog 195 #[.bool true] w1 fun z w'=>z= .returned (yi 1)∧w'=w1):=hz true
  clear hz
  go_enter Tryz.func194,Tryz.ntmps194
  go_wp2_with fail
  refine(HZ.out _).mono ?_;rintro z w1 ⟨rfl,rfl⟩
  go_wp2
  go_ret
  exact⟨rfl,b0⟩
 ·have hfb:(f==0)=false:=by simpa using hf
  have HZ:Hid (∀w1,Calls Tryz.prog 195 #[.bool false] w1 fun z w'=>z= .returned (yi 2)∧w'=w1):=hz false
  rw[if_neg hf];clear hz hf
  go_enter Tryz.func194,Tryz.ntmps194
  go_wp2_with fail
  refine(HZ.out _).mono ?_;rintro z w1 ⟨rfl,rfl⟩
  go_wp2
  go_ret
  exact⟨rfl,b0⟩
set_option maxHeartbeats 3200000 in
theorem ci_inf (R D L G fam sz ex on wr:Int) (gr ng:Bool) (F:Nat) (e f:Int) (w:World) (HO: ∀w1,Calls Tryz.prog 205 #[ylV R D L G gr sz ex fam F] w1 fun z w'=>z= .returned (yi on)∧Below w1.heap.size w1 w') (HW: ∀w1,Calls Tryz.prog 206 #[ylV R D L G gr sz ex fam F] w1 fun z w'=>z= .returned (.int .u64 wr)∧Below w1.heap.size w1 w') (h1:on=e) (h2:wr=f) (_h0:(on==0)=false):Calls Tryz.prog 194 #[ylV R D L G gr sz ex fam F,yfV ng e f] w fun z w'=>z= .returned (yi 3)∧Below w.heap.size w w':=by
 have hsf:=hsf_z;replace HO:Hid _:=HO;replace HW:Hid _:=HW;have l0:=(locE_new w (ylL R D L G gr sz ex fam F) 144).later (below_alloc _ (.cells (yfL ng e f).toArray 147));have m0:=locE_new (w.alloc (.cells (ylL R D L G gr sz ex fam F).toArray 144)) (yfL ng e f) 147;have b0:=below_trans (below_alloc w (.cells (ylL R D L G gr sz ex fam F).toArray 144)) (below_alloc _ (.cells (yfL ng e f).toArray 147));rw[World.size_alloc] at m0;subst h1 h2;obtain⟨x0,x1,x2,x3,x4,x5,x6,x7,x8⟩:=l0.cs9;obtain⟨u0,u1,u2⟩:=m0.cs3
 go_enter Tryz.func194,Tryz.ntmps194
 go_wp2_with fail
 go_region_held3 (fun wq=>(wq.cell? ⟨w.heap.size,0,none⟩=some (yi R)∧wq.cell? ⟨w.heap.size,1,none⟩=some (yi D)∧wq.cell? ⟨w.heap.size,2,none⟩=some (yi L)∧wq.cell? ⟨w.heap.size,3,none⟩=some (yi G)∧wq.cell? ⟨w.heap.size,4,none⟩=some (.bool gr)∧wq.cell? ⟨w.heap.size,5,none⟩=some (yi sz)∧wq.cell? ⟨w.heap.size,6,none⟩=some (yi ex)∧wq.cell? ⟨w.heap.size,7,none⟩=some (yi fam)∧wq.cell? ⟨w.heap.size,8,none⟩=some (.func (.func F) #[] #[]))∧(wq.cell? ⟨w.heap.size+1,0,none⟩=some (.bool ng)∧wq.cell? ⟨w.heap.size+1,1,none⟩=some (yi on)∧wq.cell? ⟨w.heap.size+1,2,none⟩=some (.int .u64 wr))) (go_keep) (first
  | (go_at_call 205;refine(HO.out _).mono ?_;rintro z w2 ⟨rfl,b2⟩;have l2:=l0.drew.later b2;have m2:=m0.drew.later b2;have b02:=below_trans b0.drew b2;obtain⟨y0,y1,y2,y3,y4,y5,y6,y7,y8⟩:=l2.cs9;obtain⟨v0,v1,v2⟩:=m2.cs3)
  | (go_at_call 206;refine(HW.out _).mono ?_;rintro z w3 ⟨rfl,b3⟩;have l3:=l2.later b3;have m3:=m2.later b3;have b03:=below_trans b02 b3;obtain⟨z0,z1,z2,z3,z4,z5,z6,z7,z8⟩:=l3.cs9;obtain⟨t0,t1,t2⟩:=m3.cs3))
 all_goals go_wp2
 all_goals go_ret
 all_goals exact⟨rfl,b03⟩
set_option maxHeartbeats 3200000 in
theorem ci_none (R D L G fam sz ex on wr:Int) (gr ng:Bool) (F:Nat) (e f:Int) (w:World) (HO: ∀w1,Calls Tryz.prog 205 #[ylV R D L G gr sz ex fam F] w1 fun z w'=>z= .returned (yi on)∧Below w1.heap.size w1 w') (HW: ∀w1,Calls Tryz.prog 206 #[ylV R D L G gr sz ex fam F] w1 fun z w'=>z= .returned (.int .u64 wr)∧Below w1.heap.size w1 w') (h1:on=e) (h2:f≠wr) (_h0:(on==0)=false):Calls Tryz.prog 194 #[ylV R D L G gr sz ex fam F,yfV ng e f] w fun z w'=>z= .returned (yi 4)∧Below w.heap.size w w':=by
 have hsf:=hsf_z;replace HO:Hid _:=HO;replace HW:Hid _:=HW;have l0:=(locE_new w (ylL R D L G gr sz ex fam F) 144).later (below_alloc _ (.cells (yfL ng e f).toArray 147));have m0:=locE_new (w.alloc (.cells (ylL R D L G gr sz ex fam F).toArray 144)) (yfL ng e f) 147;have b0:=below_trans (below_alloc w (.cells (ylL R D L G gr sz ex fam F).toArray 144)) (below_alloc _ (.cells (yfL ng e f).toArray 147));rw[World.size_alloc] at m0;subst h1;have hfb:(f==wr)=false:=by simpa using h2
 clear h2;obtain⟨x0,x1,x2,x3,x4,x5,x6,x7,x8⟩:=l0.cs9;obtain⟨u0,u1,u2⟩:=m0.cs3
 go_enter Tryz.func194,Tryz.ntmps194
 go_wp2_with fail
 go_region_held3 (fun wq=>(wq.cell? ⟨w.heap.size,0,none⟩=some (yi R)∧wq.cell? ⟨w.heap.size,1,none⟩=some (yi D)∧wq.cell? ⟨w.heap.size,2,none⟩=some (yi L)∧wq.cell? ⟨w.heap.size,3,none⟩=some (yi G)∧wq.cell? ⟨w.heap.size,4,none⟩=some (.bool gr)∧wq.cell? ⟨w.heap.size,5,none⟩=some (yi sz)∧wq.cell? ⟨w.heap.size,6,none⟩=some (yi ex)∧wq.cell? ⟨w.heap.size,7,none⟩=some (yi fam)∧wq.cell? ⟨w.heap.size,8,none⟩=some (.func (.func F) #[] #[]))∧(wq.cell? ⟨w.heap.size+1,0,none⟩=some (.bool ng)∧wq.cell? ⟨w.heap.size+1,1,none⟩=some (yi on)∧wq.cell? ⟨w.heap.size+1,2,none⟩=some (.int .u64 f))) (go_keep) (first
  | (go_at_call 205;refine(HO.out _).mono ?_;rintro z w2 ⟨rfl,b2⟩;have l2:=l0.drew.later b2;have m2:=m0.drew.later b2;have b02:=below_trans b0.drew b2;obtain⟨y0,y1,y2,y3,y4,y5,y6,y7,y8⟩:=l2.cs9;obtain⟨v0,v1,v2⟩:=m2.cs3)
  | (go_at_call 206;refine(HW.out _).mono ?_;rintro z w3 ⟨rfl,b3⟩;have l3:=l2.later b3;have m3:=m2.later b3;have b03:=below_trans b02 b3;obtain⟨z0,z1,z2,z3,z4,z5,z6,z7,z8⟩:=l3.cs9;obtain⟨t0,t1,t2⟩:=m3.cs3))
 go_wp2_with fail
 refine wp_region_held_drew (S:=(fun wq=>(wq.cell? ⟨w.heap.size,0,none⟩=some (yi R)∧wq.cell? ⟨w.heap.size,1,none⟩=some (yi D)∧wq.cell? ⟨w.heap.size,2,none⟩=some (yi L)∧wq.cell? ⟨w.heap.size,3,none⟩=some (yi G)∧wq.cell? ⟨w.heap.size,4,none⟩=some (.bool gr)∧wq.cell? ⟨w.heap.size,5,none⟩=some (yi sz)∧wq.cell? ⟨w.heap.size,6,none⟩=some (yi ex)∧wq.cell? ⟨w.heap.size,7,none⟩=some (yi fam)∧wq.cell? ⟨w.heap.size,8,none⟩=some (.func (.func F) #[] #[]))∧(wq.cell? ⟨w.heap.size+1,0,none⟩=some (.bool ng)∧wq.cell? ⟨w.heap.size+1,1,none⟩=some (yi on)∧wq.cell? ⟨w.heap.size+1,2,none⟩=some (.int .u64 f)))) (by kernel_rfl) ⟨⟨l3.drew.cell 0 rfl,l3.drew.cell 1 rfl,l3.drew.cell 2 rfl,l3.drew.cell 3 rfl,l3.drew.cell 4 rfl,l3.drew.cell 5 rfl,l3.drew.cell 6 rfl,l3.drew.cell 7 rfl,l3.drew.cell 8 rfl⟩,m3.drew.cell 0 rfl,m3.drew.cell 1 rfl,m3.drew.cell 2 rfl⟩ (fun hS0=> ?_)
 refine wpAnyH_take (i:=0) (v:= .pointer (some ⟨w.heap.size+1,1,none⟩)) rfl (by kernel_rfl) (by kernel_rfl) (by kernel_rfl) (fun _ _ _ h=>h) (Or.inl ⟨by kernel_rfl,fun w0 _=>by go_simp⟩) hS0 ?_
 refine wpAnyH_take (i:=1) (v:=yi on) rfl (by kernel_rfl) (by kernel_rfl) (by kernel_rfl) (fun _ _ _ h=>h) (Or.inl ⟨by kernel_rfl,fun w0 hw0=>by obtain⟨⟨p0,p1,p2,p3,p4,p5,p6,p7,p8⟩,q0,q1,q2⟩:=hw0;go_simp⟩) hS0 ?_
 refine wpAnyH_take (i:=2) (v:=(ylV R D L G gr sz ex fam F)) rfl (by kernel_rfl) (by kernel_rfl) (by kernel_rfl) (fun _ _ _ h=>h) (Or.inl ⟨by kernel_rfl,fun w0 hw0=>by obtain⟨⟨p0,p1,p2,p3,p4,p5,p6,p7,p8⟩,q0,q1,q2⟩:=hw0;go_simp⟩) hS0 ?_
 refine wpAnyH_ready (rs:=[3]) (by kernel_rfl) (by simp) ?_;refine AllReadyH.cons rfl (fun K hK=> ?_) AllReadyH.nil
 go_simp
 refine(HO.out _).mono ?_;rintro z w4 ⟨rfl,b4⟩;have l4:=l3.drew.later b4;have m4:=m3.drew.later b4;have b04:=below_trans b03.drew b4;refine hK.out _ _ ⟨⟨l4.cell 0 rfl,l4.cell 1 rfl,l4.cell 2 rfl,l4.cell 3 rfl,l4.cell 4 rfl,l4.cell 5 rfl,l4.cell 6 rfl,l4.cell 7 rfl,l4.cell 8 rfl⟩,m4.cell 0 rfl,m4.cell 1 rfl,m4.cell 2 rfl⟩ (fun hS3=> ?_)
 clear hK K;refine wpAnyH_take (i:=4) (v:= .bool true) rfl (by kernel_rfl) (by kernel_rfl) (by kernel_rfl) (fun _ _ _ h=>h) (Or.inl ⟨by kernel_rfl,fun w0 _=>by go_simp⟩) hS3 ?_
 refine wpAnyH_take (i:=5) (v:= .bool true) rfl (by kernel_rfl) (by kernel_rfl) (by kernel_rfl) (fun _ _ _ h=>h) (Or.inl ⟨by kernel_rfl,fun w0 _=>by go_simp⟩) hS3 ?_
 refine wpAnyH_take (i:=6) (v:=undef) rfl (by kernel_rfl) (by kernel_rfl) (by kernel_rfl) (fun _ _ _ h=>h) (Or.inr ⟨by kernel_rfl,rfl⟩) hS3 ?_
 refine wpAnyH_take (i:=7) (v:=undef) rfl (by kernel_rfl) (by kernel_rfl) (by kernel_rfl) (fun _ _ _ h=>h) (Or.inr ⟨by kernel_rfl,rfl⟩) hS3 ?_
 refine wpAnyH_take (i:=8) (v:=undef) rfl (by kernel_rfl) (by kernel_rfl) (by kernel_rfl) (fun _ _ _ h=>h) (Or.inr ⟨by kernel_rfl,rfl⟩) hS3 ?_
 refine wpAnyH_take (i:=9) (v:=undef) rfl (by kernel_rfl) (by kernel_rfl) (by kernel_rfl) (fun _ _ _ h=>h) (Or.inr ⟨by kernel_rfl,rfl⟩) hS3 ?_
 refine wpAnyH_take (i:=10) (v:=undef) rfl (by kernel_rfl) (by kernel_rfl) (by kernel_rfl) (fun _ _ _ h=>h) (Or.inr ⟨by kernel_rfl,rfl⟩) hS3 ?_
 refine wpAnyH_take (i:=11) (v:=undef) rfl (by kernel_rfl) (by kernel_rfl) (by kernel_rfl) (fun _ _ _ h=>h) (Or.inr ⟨by kernel_rfl,rfl⟩) hS3 ?_
 refine wpAnyH_take (i:=12) (v:=undef) rfl (by kernel_rfl) (by kernel_rfl) (by kernel_rfl) (fun _ _ _ h=>h) (Or.inr ⟨by kernel_rfl,rfl⟩) hS3 ?_
 refine wpAnyH_take (i:=13) (v:=undef) rfl (by kernel_rfl) (by kernel_rfl) (by kernel_rfl) (fun _ _ _ h=>h) (Or.inr ⟨by kernel_rfl,rfl⟩) hS3 ?_
 refine wpAnyH_take (i:=14) (v:= .bool true) rfl (by kernel_rfl) (by kernel_rfl) (by kernel_rfl) (fun _ _ _ h=>h) (Or.inl ⟨by kernel_rfl,fun w0 _=>by go_simp⟩) hS3 ?_
 refine wpAnyH_take (i:=15) (v:= .bool true) rfl (by kernel_rfl) (by kernel_rfl) (by kernel_rfl) (fun _ _ _ h=>h) (Or.inl ⟨by kernel_rfl,fun w0 _=>by go_simp⟩) hS3 ?_
 simp only[Act.put,List.getElem_toArray,List.getElem_cons_succ,List.getElem_cons_zero,List.setIfInBounds_toArray,List.set_cons_zero,List.set_cons_succ];refine wpAnyH_done (by kernel_rfl) ?_ _
 go_wp2
 go_ret
 exact⟨rfl,b04⟩
set_option maxHeartbeats 3200000 in
theorem ci_num (R D L G fam sz ex on wr:Int) (gr ng:Bool) (F:Nat) (e f:Int) (w:World) (HO: ∀w1,Calls Tryz.prog 205 #[ylV R D L G gr sz ex fam F] w1 fun z w'=>z= .returned (yi on)∧Below w1.heap.size w1 w') (HW: ∀w1,Calls Tryz.prog 206 #[ylV R D L G gr sz ex fam F] w1 fun z w'=>z= .returned (.int .u64 wr)∧Below w1.heap.size w1 w') (h1:e≠0) (h2:e≠on) (h3:bits .and .u64 f wr=wr):Calls Tryz.prog 194 #[ylV R D L G gr sz ex fam F,yfV ng e f] w fun z w'=>z= .returned (yi 2)∧Below w.heap.size w w':=by
 have hsf:=hsf_z;replace HO:Hid _:=HO;replace HW:Hid _:=HW;have l0:=(locE_new w (ylL R D L G gr sz ex fam F) 144).later (below_alloc _ (.cells (yfL ng e f).toArray 147));have m0:=locE_new (w.alloc (.cells (ylL R D L G gr sz ex fam F).toArray 144)) (yfL ng e f) 147;have b0:=below_trans (below_alloc w (.cells (ylL R D L G gr sz ex fam F).toArray 144)) (below_alloc _ (.cells (yfL ng e f).toArray 147));rw[World.size_alloc] at m0;have he0:(e==0)=false:=by simpa using h1
 have he1:(e==on)=false:=by simpa using h2
 clear h1 h2;obtain⟨x0,x1,x2,x3,x4,x5,x6,x7,x8⟩:=l0.cs9;obtain⟨u0,u1,u2⟩:=m0.cs3
 go_enter Tryz.func194,Tryz.ntmps194
 go_wp2_with fail
 refine wp_region_held_drew (S:=(fun wq=>(wq.cell? ⟨w.heap.size,0,none⟩=some (yi R)∧wq.cell? ⟨w.heap.size,1,none⟩=some (yi D)∧wq.cell? ⟨w.heap.size,2,none⟩=some (yi L)∧wq.cell? ⟨w.heap.size,3,none⟩=some (yi G)∧wq.cell? ⟨w.heap.size,4,none⟩=some (.bool gr)∧wq.cell? ⟨w.heap.size,5,none⟩=some (yi sz)∧wq.cell? ⟨w.heap.size,6,none⟩=some (yi ex)∧wq.cell? ⟨w.heap.size,7,none⟩=some (yi fam)∧wq.cell? ⟨w.heap.size,8,none⟩=some (.func (.func F) #[] #[]))∧(wq.cell? ⟨w.heap.size+1,0,none⟩=some (.bool ng)∧wq.cell? ⟨w.heap.size+1,1,none⟩=some (yi e)∧wq.cell? ⟨w.heap.size+1,2,none⟩=some (.int .u64 f)))) (by kernel_rfl) ⟨⟨l0.drew.cell 0 rfl,l0.drew.cell 1 rfl,l0.drew.cell 2 rfl,l0.drew.cell 3 rfl,l0.drew.cell 4 rfl,l0.drew.cell 5 rfl,l0.drew.cell 6 rfl,l0.drew.cell 7 rfl,l0.drew.cell 8 rfl⟩,m0.drew.cell 0 rfl,m0.drew.cell 1 rfl,m0.drew.cell 2 rfl⟩ (fun hS0=> ?_)
 refine wpAnyH_take (i:=0) (v:= .pointer (some ⟨w.heap.size+1,1,none⟩)) rfl (by kernel_rfl) (by kernel_rfl) (by kernel_rfl) (fun _ _ _ h=>h) (Or.inl ⟨by kernel_rfl,fun w0 _=>by go_simp⟩) hS0 ?_
 refine wpAnyH_take (i:=1) (v:=yi e) rfl (by kernel_rfl) (by kernel_rfl) (by kernel_rfl) (fun _ _ _ h=>h) (Or.inl ⟨by kernel_rfl,fun w0 hw0=>by obtain⟨⟨p0,p1,p2,p3,p4,p5,p6,p7,p8⟩,q0,q1,q2⟩:=hw0;go_simp⟩) hS0 ?_
 refine wpAnyH_take (i:=2) (v:=(ylV R D L G gr sz ex fam F)) rfl (by kernel_rfl) (by kernel_rfl) (by kernel_rfl) (fun _ _ _ h=>h) (Or.inl ⟨by kernel_rfl,fun w0 hw0=>by obtain⟨⟨p0,p1,p2,p3,p4,p5,p6,p7,p8⟩,q0,q1,q2⟩:=hw0;go_simp⟩) hS0 ?_
 refine wpAnyH_ready (rs:=[3]) (by kernel_rfl) (by simp) ?_;refine AllReadyH.cons rfl (fun K hK=> ?_) AllReadyH.nil
 go_simp
 refine(HO.out _).mono ?_;rintro z w1 ⟨rfl,b1⟩;have l1:=l0.drew.later b1;have m1:=m0.drew.later b1;have b01:=below_trans b0.drew b1;refine hK.out _ _ ⟨⟨l1.cell 0 rfl,l1.cell 1 rfl,l1.cell 2 rfl,l1.cell 3 rfl,l1.cell 4 rfl,l1.cell 5 rfl,l1.cell 6 rfl,l1.cell 7 rfl,l1.cell 8 rfl⟩,m1.cell 0 rfl,m1.cell 1 rfl,m1.cell 2 rfl⟩ (fun hS3=> ?_)
 clear hK K;refine wpAnyH_take (i:=4) (v:= .bool false) rfl (by kernel_rfl) (by kernel_rfl) (by kernel_rfl) (fun _ _ _ h=>h) (Or.inl ⟨by kernel_rfl,fun w0 _=>by go_simp⟩) hS3 ?_
 refine wpAnyH_take (i:=5) (v:= .bool false) rfl (by kernel_rfl) (by kernel_rfl) (by kernel_rfl) (fun _ _ _ h=>h) (Or.inl ⟨by kernel_rfl,fun w0 _=>by go_simp⟩) hS3 ?_
 refine wpAnyH_take (i:=6) (v:=undef) rfl (by kernel_rfl) (by kernel_rfl) (by kernel_rfl) (fun _ _ _ h=>h) (Or.inr ⟨by kernel_rfl,rfl⟩) hS3 ?_
 refine wpAnyH_take (i:=7) (v:=undef) rfl (by kernel_rfl) (by kernel_rfl) (by kernel_rfl) (fun _ _ _ h=>h) (Or.inr ⟨by kernel_rfl,rfl⟩) hS3 ?_
 refine wpAnyH_take (i:=8) (v:=undef) rfl (by kernel_rfl) (by kernel_rfl) (by kernel_rfl) (fun _ _ _ h=>h) (Or.inr ⟨by kernel_rfl,rfl⟩) hS3 ?_
 refine wpAnyH_take (i:=9) (v:=undef) rfl (by kernel_rfl) (by kernel_rfl) (by kernel_rfl) (fun _ _ _ h=>h) (Or.inr ⟨by kernel_rfl,rfl⟩) hS3 ?_
 refine wpAnyH_take (i:=10) (v:=undef) rfl (by kernel_rfl) (by kernel_rfl) (by kernel_rfl) (fun _ _ _ h=>h) (Or.inr ⟨by kernel_rfl,rfl⟩) hS3 ?_
 refine wpAnyH_take (i:=11) (v:= .bool false) rfl (by kernel_rfl) (by kernel_rfl) (by kernel_rfl) (fun _ _ _ h=>h) (Or.inl ⟨by kernel_rfl,fun w0 _=>by go_simp⟩) hS3 ?_
 refine wpAnyH_take (i:=12) (v:= .bool false) rfl (by kernel_rfl) (by kernel_rfl) (by kernel_rfl) (fun _ _ _ h=>h) (Or.inl ⟨by kernel_rfl,fun w0 _=>by go_simp⟩) hS3 ?_
 simp only[Act.put,List.getElem_toArray,List.getElem_cons_succ,List.getElem_cons_zero,List.setIfInBounds_toArray,List.set_cons_zero,List.set_cons_succ];refine wpAnyH_done (by kernel_rfl) ?_ _
 go_wp2_with fail
 go_region_held3 (fun wq=>(wq.cell? ⟨w.heap.size,0,none⟩=some (yi R)∧wq.cell? ⟨w.heap.size,1,none⟩=some (yi D)∧wq.cell? ⟨w.heap.size,2,none⟩=some (yi L)∧wq.cell? ⟨w.heap.size,3,none⟩=some (yi G)∧wq.cell? ⟨w.heap.size,4,none⟩=some (.bool gr)∧wq.cell? ⟨w.heap.size,5,none⟩=some (yi sz)∧wq.cell? ⟨w.heap.size,6,none⟩=some (yi ex)∧wq.cell? ⟨w.heap.size,7,none⟩=some (yi fam)∧wq.cell? ⟨w.heap.size,8,none⟩=some (.func (.func F) #[] #[]))∧(wq.cell? ⟨w.heap.size+1,0,none⟩=some (.bool ng)∧wq.cell? ⟨w.heap.size+1,1,none⟩=some (yi e)∧wq.cell? ⟨w.heap.size+1,2,none⟩=some (.int .u64 f))) (go_keep) (first
  | (go_at_call 205;refine(HO.out _).mono ?_;rintro z w2 ⟨rfl,b2⟩;have l2:=l1.drew.later b2;have m2:=m1.drew.later b2;have b02:=below_trans b01.drew b2;obtain⟨y0,y1,y2,y3,y4,y5,y6,y7,y8⟩:=l2.cs9;obtain⟨v0,v1,v2⟩:=m2.cs3)
  | (go_at_call 206;have hgd:=b02;clear hgd;refine(HW.out _).mono ?_;rintro z w3 ⟨rfl,b3⟩;have l3:=l2.later b3;have m3:=m2.later b3;have b03:=below_trans b02 b3;obtain⟨z0,z1,z2,z3,z4,z5,z6,z7,z8⟩:=l3.cs9;obtain⟨t0,t1,t2⟩:=m3.cs3;clear b02)
  | (go_at_call 206;refine(HW.out _).mono ?_;rintro z w4 ⟨rfl,b4⟩;have l4:=l3.later b4;have m4:=m3.later b4;have b04:=below_trans b03 b4;obtain⟨a0,a1,a2,a3,a4,a5,a6,a7,a8⟩:=l4.cs9;obtain⟨c0,c1,c2⟩:=m4.cs3))
 all_goals go_wp2
 all_goals go_ret
 all_goals exact⟨rfl,b04⟩
set_option maxHeartbeats 3200000 in
theorem ci_mis (R D L G fam sz ex on wr:Int) (gr ng:Bool) (F:Nat) (e f:Int) (w:World) (HO: ∀w1,Calls Tryz.prog 205 #[ylV R D L G gr sz ex fam F] w1 fun z w'=>z= .returned (yi on)∧Below w1.heap.size w1 w') (HW: ∀w1,Calls Tryz.prog 206 #[ylV R D L G gr sz ex fam F] w1 fun z w'=>z= .returned (.int .u64 wr)∧Below w1.heap.size w1 w') (h1:e≠0) (h2:e≠on) (h3:bits .and .u64 f wr=0) (_h4:((0:Int)==wr)=false):Calls Tryz.prog 194 #[ylV R D L G gr sz ex fam F,yfV ng e f] w fun z w'=>z= .returned (yi 4)∧Below w.heap.size w w':=by
 have hsf:=hsf_z;replace HO:Hid _:=HO;replace HW:Hid _:=HW;have l0:=(locE_new w (ylL R D L G gr sz ex fam F) 144).later (below_alloc _ (.cells (yfL ng e f).toArray 147));have m0:=locE_new (w.alloc (.cells (ylL R D L G gr sz ex fam F).toArray 144)) (yfL ng e f) 147;have b0:=below_trans (below_alloc w (.cells (ylL R D L G gr sz ex fam F).toArray 144)) (below_alloc _ (.cells (yfL ng e f).toArray 147));rw[World.size_alloc] at m0;have he0:(e==0)=false:=by simpa using h1
 have he1:(e==on)=false:=by simpa using h2
 clear h1 h2;obtain⟨x0,x1,x2,x3,x4,x5,x6,x7,x8⟩:=l0.cs9;obtain⟨u0,u1,u2⟩:=m0.cs3
 go_enter Tryz.func194,Tryz.ntmps194
 go_wp2_with fail
 refine wp_region_held_drew (S:=(fun wq=>(wq.cell? ⟨w.heap.size,0,none⟩=some (yi R)∧wq.cell? ⟨w.heap.size,1,none⟩=some (yi D)∧wq.cell? ⟨w.heap.size,2,none⟩=some (yi L)∧wq.cell? ⟨w.heap.size,3,none⟩=some (yi G)∧wq.cell? ⟨w.heap.size,4,none⟩=some (.bool gr)∧wq.cell? ⟨w.heap.size,5,none⟩=some (yi sz)∧wq.cell? ⟨w.heap.size,6,none⟩=some (yi ex)∧wq.cell? ⟨w.heap.size,7,none⟩=some (yi fam)∧wq.cell? ⟨w.heap.size,8,none⟩=some (.func (.func F) #[] #[]))∧(wq.cell? ⟨w.heap.size+1,0,none⟩=some (.bool ng)∧wq.cell? ⟨w.heap.size+1,1,none⟩=some (yi e)∧wq.cell? ⟨w.heap.size+1,2,none⟩=some (.int .u64 f)))) (by kernel_rfl) ⟨⟨l0.drew.cell 0 rfl,l0.drew.cell 1 rfl,l0.drew.cell 2 rfl,l0.drew.cell 3 rfl,l0.drew.cell 4 rfl,l0.drew.cell 5 rfl,l0.drew.cell 6 rfl,l0.drew.cell 7 rfl,l0.drew.cell 8 rfl⟩,m0.drew.cell 0 rfl,m0.drew.cell 1 rfl,m0.drew.cell 2 rfl⟩ (fun hS0=> ?_)
 refine wpAnyH_take (i:=0) (v:= .pointer (some ⟨w.heap.size+1,1,none⟩)) rfl (by kernel_rfl) (by kernel_rfl) (by kernel_rfl) (fun _ _ _ h=>h) (Or.inl ⟨by kernel_rfl,fun w0 _=>by go_simp⟩) hS0 ?_
 refine wpAnyH_take (i:=1) (v:=yi e) rfl (by kernel_rfl) (by kernel_rfl) (by kernel_rfl) (fun _ _ _ h=>h) (Or.inl ⟨by kernel_rfl,fun w0 hw0=>by obtain⟨⟨p0,p1,p2,p3,p4,p5,p6,p7,p8⟩,q0,q1,q2⟩:=hw0;go_simp⟩) hS0 ?_
 refine wpAnyH_take (i:=2) (v:=(ylV R D L G gr sz ex fam F)) rfl (by kernel_rfl) (by kernel_rfl) (by kernel_rfl) (fun _ _ _ h=>h) (Or.inl ⟨by kernel_rfl,fun w0 hw0=>by obtain⟨⟨p0,p1,p2,p3,p4,p5,p6,p7,p8⟩,q0,q1,q2⟩:=hw0;go_simp⟩) hS0 ?_
 refine wpAnyH_ready (rs:=[3]) (by kernel_rfl) (by simp) ?_;refine AllReadyH.cons rfl (fun K hK=> ?_) AllReadyH.nil
 go_simp
 refine(HO.out _).mono ?_;rintro z w1 ⟨rfl,b1⟩;have l1:=l0.drew.later b1;have m1:=m0.drew.later b1;have b01:=below_trans b0.drew b1;refine hK.out _ _ ⟨⟨l1.cell 0 rfl,l1.cell 1 rfl,l1.cell 2 rfl,l1.cell 3 rfl,l1.cell 4 rfl,l1.cell 5 rfl,l1.cell 6 rfl,l1.cell 7 rfl,l1.cell 8 rfl⟩,m1.cell 0 rfl,m1.cell 1 rfl,m1.cell 2 rfl⟩ (fun hS3=> ?_)
 clear hK K;refine wpAnyH_take (i:=4) (v:= .bool false) rfl (by kernel_rfl) (by kernel_rfl) (by kernel_rfl) (fun _ _ _ h=>h) (Or.inl ⟨by kernel_rfl,fun w0 _=>by go_simp⟩) hS3 ?_
 refine wpAnyH_take (i:=5) (v:= .bool false) rfl (by kernel_rfl) (by kernel_rfl) (by kernel_rfl) (fun _ _ _ h=>h) (Or.inl ⟨by kernel_rfl,fun w0 _=>by go_simp⟩) hS3 ?_
 refine wpAnyH_take (i:=6) (v:=undef) rfl (by kernel_rfl) (by kernel_rfl) (by kernel_rfl) (fun _ _ _ h=>h) (Or.inr ⟨by kernel_rfl,rfl⟩) hS3 ?_
 refine wpAnyH_take (i:=7) (v:=undef) rfl (by kernel_rfl) (by kernel_rfl) (by kernel_rfl) (fun _ _ _ h=>h) (Or.inr ⟨by kernel_rfl,rfl⟩) hS3 ?_
 refine wpAnyH_take (i:=8) (v:=undef) rfl (by kernel_rfl) (by kernel_rfl) (by kernel_rfl) (fun _ _ _ h=>h) (Or.inr ⟨by kernel_rfl,rfl⟩) hS3 ?_
 refine wpAnyH_take (i:=9) (v:=undef) rfl (by kernel_rfl) (by kernel_rfl) (by kernel_rfl) (fun _ _ _ h=>h) (Or.inr ⟨by kernel_rfl,rfl⟩) hS3 ?_
 refine wpAnyH_take (i:=10) (v:=undef) rfl (by kernel_rfl) (by kernel_rfl) (by kernel_rfl) (fun _ _ _ h=>h) (Or.inr ⟨by kernel_rfl,rfl⟩) hS3 ?_
 refine wpAnyH_take (i:=11) (v:= .bool false) rfl (by kernel_rfl) (by kernel_rfl) (by kernel_rfl) (fun _ _ _ h=>h) (Or.inl ⟨by kernel_rfl,fun w0 _=>by go_simp⟩) hS3 ?_
 refine wpAnyH_take (i:=12) (v:= .bool false) rfl (by kernel_rfl) (by kernel_rfl) (by kernel_rfl) (fun _ _ _ h=>h) (Or.inl ⟨by kernel_rfl,fun w0 _=>by go_simp⟩) hS3 ?_
 simp only[Act.put,List.getElem_toArray,List.getElem_cons_succ,List.getElem_cons_zero,List.setIfInBounds_toArray,List.set_cons_zero,List.set_cons_succ];refine wpAnyH_done (by kernel_rfl) ?_ _
 go_wp2_with fail
 go_region_held3 (fun wq=>(wq.cell? ⟨w.heap.size,0,none⟩=some (yi R)∧wq.cell? ⟨w.heap.size,1,none⟩=some (yi D)∧wq.cell? ⟨w.heap.size,2,none⟩=some (yi L)∧wq.cell? ⟨w.heap.size,3,none⟩=some (yi G)∧wq.cell? ⟨w.heap.size,4,none⟩=some (.bool gr)∧wq.cell? ⟨w.heap.size,5,none⟩=some (yi sz)∧wq.cell? ⟨w.heap.size,6,none⟩=some (yi ex)∧wq.cell? ⟨w.heap.size,7,none⟩=some (yi fam)∧wq.cell? ⟨w.heap.size,8,none⟩=some (.func (.func F) #[] #[]))∧(wq.cell? ⟨w.heap.size+1,0,none⟩=some (.bool ng)∧wq.cell? ⟨w.heap.size+1,1,none⟩=some (yi e)∧wq.cell? ⟨w.heap.size+1,2,none⟩=some (.int .u64 f))) (go_keep) (first
  | (go_at_call 205;refine(HO.out _).mono ?_;rintro z w2 ⟨rfl,b2⟩;have l2:=l1.drew.later b2;have m2:=m1.drew.later b2;have b02:=below_trans b01.drew b2;obtain⟨y0,y1,y2,y3,y4,y5,y6,y7,y8⟩:=l2.cs9;obtain⟨v0,v1,v2⟩:=m2.cs3)
  | (go_at_call 206;have hgd:=b02;clear hgd;refine(HW.out _).mono ?_;rintro z w3 ⟨rfl,b3⟩;have l3:=l2.later b3;have m3:=m2.later b3;have b03:=below_trans b02 b3;obtain⟨z0,z1,z2,z3,z4,z5,z6,z7,z8⟩:=l3.cs9;obtain⟨t0,t1,t2⟩:=m3.cs3;clear b02)
  | (go_at_call 206;refine(HW.out _).mono ?_;rintro z w4 ⟨rfl,b4⟩;have l4:=l3.later b4;have m4:=m3.later b4;have b04:=below_trans b03 b4;obtain⟨a0,a1,a2,a3,a4,a5,a6,a7,a8⟩:=l4.cs9;obtain⟨c0,c1,c2⟩:=m4.cs3))
 all_goals go_wp2
 all_goals go_ret
 all_goals exact⟨rfl,b04⟩
theorem and_bit (f n:Nat):f&&& 2^n=if f.testBit n then 2^n else 0:=by
 apply Nat.eq_of_testBit_eq;intro i;rw[Nat.testBit_and,Nat.testBit_two_pow]
 by_cases hi:n=i
 ·subst hi
  cases h:f.testBit n
  ·simp
  ·simp
 ·cases h:f.testBit n
  ·simp[hi]
  ·simp[hi]
theorem and_top (f:Nat) (h:f<18446744073709551616):bits .and .u64 (f:Int) 9223372036854775808=if f<9223372036854775808 then 0 else 9223372036854775808:=by
 have e1:=u64_and_nat f 9223372036854775808 h (by omega);rw[show(9223372036854775808:Int)=((9223372036854775808:Nat):Int) from rfl,e1]
 have e2:=and_bit f 63;rw[Nat.testBit_eq_decide_div_mod_eq,show(2:Nat)^63=9223372036854775808 from rfl] at e2
 rw[e2]
 by_cases c:f<9223372036854775808
 ·rw[if_pos c,show f/9223372036854775808=0 from by omega]
  rfl
 ·rw[if_neg c,show f/9223372036854775808=1 from by omega]
  rfl
theorem and_none (f:Nat) (h:f<18446744073709551616):bits .and .u64 (f:Int) 0=0:=by
 have e1:=u64_and_nat f 0 h (by omega);rw[Nat.and_zero] at e1;exact e1
def clsN (k:Nat) (ng:Bool) (e f:Nat):Nat:=
 if k≤3 then(if e=0 then(if f=0 then 1 else 2) else if e=onesN k then(if f=(if k=3 then 2^63 else 0) then 3 else 4) else if k=3∧f<2^63 then 4 else 2)
 else if k≤5 then(if f=0 then 1 else 2)
 else if e=0 then(if ng then 5 else 1) else 2
theorem ci_1 (ng:Bool) (e f:Nat) (w:World) (hf:f<18446744073709551616):Calls Tryz.prog 194 #[.agg #[yi 2,yi 24,yi (-149),yi 104,.bool true,yi 4,yi 8,yi 1,.func (.func 200) #[] #[]],yfV ng (e:Int) (f:Int)] w fun z w'=>z= .returned (yi ((clsN 1 ng e f:Nat):Int))∧Below w.heap.size w w':=by
 unfold clsN;rw[if_pos (by decide),show onesN 1=255 from rfl]
 by_cases h0:e=0
 ·subst h0
  rw[if_pos rfl]
  by_cases hz:f=0
  ·subst hz
   exact ci_zero _ _ _ _ _ _ _ _ ng _ 0 0 w _ rfl rfl
  ·rw[if_neg hz]
   exact ci_zero _ _ _ _ _ _ _ _ ng _ 0 (f:Int) w _ rfl (if_neg (by omega))
 ·rw[if_neg h0]
  by_cases h1:e=255
  ·subst h1
   rw[if_pos rfl]
   by_cases h2:f=(if 1=3 then 2^63 else 0)
   ·rw[if_pos h2]
    exact ci_inf _ _ _ _ _ _ _ 255 0 _ ng _ _ (f:Int) w (lones_any 1 (by decide)) (lwritten_any 1 (by decide)) rfl (by rw[h2];rfl) (by decide)
   ·rw[if_neg h2]
    exact ci_none _ _ _ _ _ _ _ 255 0 _ ng _ _ (f:Int) w (lones_any 1 (by decide)) (lwritten_any 1 (by decide)) rfl (fun c=>h2 (by rw[show(if 1=3 then 2^63 else 0)=0 from rfl];omega)) (by decide)
  ·rw[if_neg h1]
   rw[if_neg (fun c=>by omega)]
   exact ci_num _ _ _ _ _ _ _ 255 0 _ ng _ _ (f:Int) w (lones_any 1 (by decide)) (lwritten_any 1 (by decide)) (by omega) (by omega) (and_none f hf)
theorem ci_2 (ng:Bool) (e f:Nat) (w:World) (hf:f<18446744073709551616):Calls Tryz.prog 194 #[.agg #[yi 2,yi 53,yi (-1074),yi 971,.bool true,yi 8,yi 11,yi 1,.func (.func 200) #[] #[]],yfV ng (e:Int) (f:Int)] w fun z w'=>z= .returned (yi ((clsN 2 ng e f:Nat):Int))∧Below w.heap.size w w':=by
 unfold clsN;rw[if_pos (by decide),show onesN 2=2047 from rfl]
 by_cases h0:e=0
 ·subst h0
  rw[if_pos rfl]
  by_cases hz:f=0
  ·subst hz
   exact ci_zero _ _ _ _ _ _ _ _ ng _ 0 0 w _ rfl rfl
  ·rw[if_neg hz]
   exact ci_zero _ _ _ _ _ _ _ _ ng _ 0 (f:Int) w _ rfl (if_neg (by omega))
 ·rw[if_neg h0]
  by_cases h1:e=2047
  ·subst h1
   rw[if_pos rfl]
   by_cases h2:f=(if 2=3 then 2^63 else 0)
   ·rw[if_pos h2]
    exact ci_inf _ _ _ _ _ _ _ 2047 0 _ ng _ _ (f:Int) w (lones_any 2 (by decide)) (lwritten_any 2 (by decide)) rfl (by rw[h2];rfl) (by decide)
   ·rw[if_neg h2]
    exact ci_none _ _ _ _ _ _ _ 2047 0 _ ng _ _ (f:Int) w (lones_any 2 (by decide)) (lwritten_any 2 (by decide)) rfl (fun c=>h2 (by rw[show(if 2=3 then 2^63 else 0)=0 from rfl];omega)) (by decide)
  ·rw[if_neg h1]
   rw[if_neg (fun c=>by omega)]
   exact ci_num _ _ _ _ _ _ _ 2047 0 _ ng _ _ (f:Int) w (lones_any 2 (by decide)) (lwritten_any 2 (by decide)) (by omega) (by omega) (and_none f hf)
theorem ci_3 (ng:Bool) (e f:Nat) (w:World) (hf:f<18446744073709551616):Calls Tryz.prog 194 #[.agg #[yi 2,yi 64,yi (-16445),yi 16320,.bool true,yi 10,yi 15,yi 1,.func (.func 201) #[] #[]],yfV ng (e:Int) (f:Int)] w fun z w'=>z= .returned (yi ((clsN 3 ng e f:Nat):Int))∧Below w.heap.size w w':=by
 unfold clsN;rw[if_pos (by decide),show onesN 3=32767 from rfl]
 by_cases h0:e=0
 ·subst h0
  rw[if_pos rfl]
  by_cases hz:f=0
  ·subst hz
   exact ci_zero _ _ _ _ _ _ _ _ ng _ 0 0 w _ rfl rfl
  ·rw[if_neg hz]
   exact ci_zero _ _ _ _ _ _ _ _ ng _ 0 (f:Int) w _ rfl (if_neg (by omega))
 ·rw[if_neg h0]
  by_cases h1:e=32767
  ·subst h1
   rw[if_pos rfl]
   by_cases h2:f=(if 3=3 then 2^63 else 0)
   ·rw[if_pos h2]
    exact ci_inf _ _ _ _ _ _ _ 32767 9223372036854775808 _ ng _ _ (f:Int) w (lones_any 3 (by decide)) (lwritten_any 3 (by decide)) rfl (by rw[h2];rfl) (by decide)
   ·rw[if_neg h2]
    exact ci_none _ _ _ _ _ _ _ 32767 9223372036854775808 _ ng _ _ (f:Int) w (lones_any 3 (by decide)) (lwritten_any 3 (by decide)) rfl (fun c=>h2 (by rw[show(if 3=3 then 2^63 else 0)=9223372036854775808 from rfl];omega)) (by decide)
  ·rw[if_neg h1]
   have ha:=and_top f hf
   by_cases h3:f<9223372036854775808
   ·rw[if_pos ⟨rfl,h3⟩]
    rw[if_pos h3] at ha;exact ci_mis _ _ _ _ _ _ _ 32767 9223372036854775808 _ ng _ _ (f:Int) w (lones_any 3 (by decide)) (lwritten_any 3 (by decide)) (by omega) (by omega) ha (by decide)
   ·rw[if_neg (fun c=>h3 c.2)]
    rw[if_neg h3] at ha;exact ci_num _ _ _ _ _ _ _ 32767 9223372036854775808 _ ng _ _ (f:Int) w (lones_any 3 (by decide)) (lwritten_any 3 (by decide)) (by omega) (by omega) ha
end Go.Proofs.YtnhackdjplppjaaGreatDoor
namespace Go.Proofs.YtnhackdjplppjaaGreatDoor
open Go.RowKit
set_option maxHeartbeats 1600000 in
theorem lclass_A (R D L G sz ex c:Int) (gr ng:Bool) (F e f:Nat) (w:World) (HC: ∀w1,Calls Tryz.prog 194 #[ylV R D L G gr sz ex 1 F,yfV ng (e:Int) (f:Int)] w1 fun z w'=>z= .returned (yi c)∧Below w1.heap.size w1 w'):Calls Tryz.prog 149 #[ylV R D L G gr sz ex 1 F,yfV ng (e:Int) (f:Int)] w fun z w'=>z= .returned (yi c)∧Below w.heap.size w w':=by
 replace HC:Hid _:=HC;have hsf:=hsf_z;have l0:=(locE_new w (ylL R D L G gr sz ex 1 F) 144).later (below_alloc _ (.cells (yfL ng (e:Int) (f:Int)).toArray 147));have m0:=locE_new (w.alloc (.cells (ylL R D L G gr sz ex 1 F).toArray 144)) (yfL ng (e:Int) (f:Int)) 147;have b0:=below_trans (below_alloc w (.cells (ylL R D L G gr sz ex 1 F).toArray 144)) (below_alloc _ (.cells (yfL ng (e:Int) (f:Int)).toArray 147));rw[World.size_alloc] at m0
 go_enter Tryz.func149,Tryz.ntmps149
 go_wp2_with fail
 refine(HC.out _).mono ?_;rintro z w1 ⟨rfl,b1⟩
 go_wp2
 go_ret
 exact⟨rfl,below_trans b0 b1⟩
set_option maxHeartbeats 1600000 in
theorem lclass_B (R D L G sz ex:Int) (gr ng:Bool) (F e f:Nat) (w:World):Calls Tryz.prog 149 #[ylV R D L G gr sz ex 2 F,yfV ng (e:Int) (f:Int)] w fun z w'=>z= .returned (yi (((if f=0 then 1 else 2:Nat):Nat):Int))∧Below w.heap.size w w':=by
 have hsf:=hsf_z;have l0:=(locE_new w (ylL R D L G gr sz ex 2 F) 144).later (below_alloc _ (.cells (yfL ng (e:Int) (f:Int)).toArray 147));have m0:=locE_new (w.alloc (.cells (ylL R D L G gr sz ex 2 F).toArray 144)) (yfL ng (e:Int) (f:Int)) 147;have b0:=below_trans (below_alloc w (.cells (ylL R D L G gr sz ex 2 F).toArray 144)) (below_alloc _ (.cells (yfL ng (e:Int) (f:Int)).toArray 147));rw[World.size_alloc] at m0;have HZ:Hid (∀b w1,Calls Tryz.prog 195 #[.bool b] w1 fun z w'=>z= .returned (yi (if b then 1 else 2))∧w'=w1):=fun b w1=>zeroOr_any b w1
 by_cases h:f=0
 ·subst h
  go_enter Tryz.func149,Tryz.ntmps149
  go_wp2_with fail
  refine(HZ.out true _).mono ?_;rintro z w1 ⟨rfl,rfl⟩
  go_wp2
  go_ret
  exact⟨rfl,b0⟩
 ·have h1:((f:Int)==0)=false:=by simp;omega
  rw[if_neg h];clear h
  go_enter Tryz.func149,Tryz.ntmps149
  go_wp2_with fail
  refine(HZ.out false _).mono ?_;rintro z w1 ⟨rfl,rfl⟩
  go_wp2
  go_ret
  exact⟨rfl,b0⟩
set_option maxHeartbeats 1600000 in
theorem lclass_C (R D L G sz ex:Int) (gr ng:Bool) (F e f:Nat) (w:World):Calls Tryz.prog 149 #[ylV R D L G gr sz ex 3 F,yfV ng (e:Int) (f:Int)] w fun z w'=>z= .returned (yi (((if e=0 then(if ng then 5 else 1) else 2:Nat):Nat):Int))∧Below w.heap.size w w':=by
 have hsf:=hsf_z;have l0:=(locE_new w (ylL R D L G gr sz ex 3 F) 144).later (below_alloc _ (.cells (yfL ng (e:Int) (f:Int)).toArray 147));have m0:=locE_new (w.alloc (.cells (ylL R D L G gr sz ex 3 F).toArray 144)) (yfL ng (e:Int) (f:Int)) 147;have b0:=below_trans (below_alloc w (.cells (ylL R D L G gr sz ex 3 F).toArray 144)) (below_alloc _ (.cells (yfL ng (e:Int) (f:Int)).toArray 147));rw[World.size_alloc] at m0;have HZ:Hid (∀b w1,Calls Tryz.prog 195 #[.bool b] w1 fun z w'=>z= .returned (yi (if b then 1 else 2))∧w'=w1):=fun b w1=>zeroOr_any b w1
 by_cases h:e=0
 ·subst h
  rw[if_pos rfl]
  cases ng
  ·go_enter Tryz.func149,Tryz.ntmps149
   go_wp2_with fail
   refine(HZ.out true _).mono ?_;rintro z w1 ⟨rfl,rfl⟩
   go_wp2
   go_ret
   exact⟨rfl,b0⟩
  ·go_enter Tryz.func149,Tryz.ntmps149
   go_wp2
   go_ret
   exact⟨rfl,b0⟩
 ·have h1:((e:Int)==0)=false:=by simp;omega
  rw[if_neg h];clear h
  cases ng
  all_goals
   go_enter Tryz.func149,Tryz.ntmps149
   go_wp2_with fail
   refine(HZ.out false _).mono ?_;rintro z w1 ⟨rfl,rfl⟩
   go_wp2
   go_ret
   exact⟨rfl,b0⟩
theorem lclass_any (k:Nat) (hk:1≤k∧k≤8) (ng:Bool) (e f:Nat) (w:World) (hf:f<18446744073709551616):Calls Tryz.prog 149 #[.agg (layV k).toArray,yfV ng (e:Int) (f:Int)] w fun z w'=>z= .returned (yi ((clsN k ng e f:Nat):Int))∧Below w.heap.size w w':=by
 rcases eight hk with rfl|rfl|rfl|rfl|rfl|rfl|rfl|rfl
 ·exact lclass_A _ _ _ _ _ _ _ _ ng _ e f w (fun w1=>ci_1 ng e f w1 hf)
 ·exact lclass_A _ _ _ _ _ _ _ _ ng _ e f w (fun w1=>ci_2 ng e f w1 hf)
 ·exact lclass_A _ _ _ _ _ _ _ _ ng _ e f w (fun w1=>ci_3 ng e f w1 hf)
 iterate 2 exact lclass_B _ _ _ _ _ _ _ ng _ e f w
 all_goals exact lclass_C _ _ _ _ _ _ _ ng _ e f w
def plcN (k e f:Nat):Nat:=if rdN k=16 then f else if e=0 then f else f|||leadN k
def plcP (k e:Nat):Int:=if rdN k=16 then lsI k+e else if e=0 then lsI k else lsI k+e-1
set_option maxHeartbeats 1600000 in
theorem lplace_16 (D L G sz ex fam:Int) (gr ng:Bool) (F e f:Nat) (w:World) (hw1:IntKind.i64.wrap (L+(e:Int))=L+(e:Int)):Calls Tryz.prog 151 #[ylV 16 D L G gr sz ex fam F,yfV ng (e:Int) (f:Int)] w fun z w'=>z= .returned (.tuple #[.int .u64 (f:Int),yi (L+(e:Int))])∧Below w.heap.size w w':=by
 have hsf:=hsf_z;have l0:=(locE_new w (ylL 16 D L G gr sz ex fam F) 144).later (below_alloc _ (.cells (yfL ng (e:Int) (f:Int)).toArray 147));have m0:=locE_new (w.alloc (.cells (ylL 16 D L G gr sz ex fam F).toArray 144)) (yfL ng (e:Int) (f:Int)) 147;have b0:=below_trans (below_alloc w (.cells (ylL 16 D L G gr sz ex fam F).toArray 144)) (below_alloc _ (.cells (yfL ng (e:Int) (f:Int)).toArray 147));rw[World.size_alloc] at m0
 go_enter Tryz.func151,Tryz.ntmps151
 go_wp2
 go_quiet (fail)
 go_wp2
 go_ret2
 exact⟨by first|rfl| (rw[hw1];rfl)|simp[hw1,Act.put],below_drewN b0 _⟩
set_option maxHeartbeats 1600000 in
theorem lplace_0 (D L G sz ex fam:Int) (gr ng:Bool) (F f:Nat) (w:World):Calls Tryz.prog 151 #[ylV 2 D L G gr sz ex fam F,yfV ng 0 (f:Int)] w fun z w'=>z= .returned (.tuple #[.int .u64 (f:Int),yi L])∧Below w.heap.size w w':=by
 have hsf:=hsf_z;have l0:=(locE_new w (ylL 2 D L G gr sz ex fam F) 144).later (below_alloc _ (.cells (yfL ng 0 (f:Int)).toArray 147));have m0:=locE_new (w.alloc (.cells (ylL 2 D L G gr sz ex fam F).toArray 144)) (yfL ng 0 (f:Int)) 147;have b0:=below_trans (below_alloc w (.cells (ylL 2 D L G gr sz ex fam F).toArray 144)) (below_alloc _ (.cells (yfL ng 0 (f:Int)).toArray 147));rw[World.size_alloc] at m0
 go_enter Tryz.func151,Tryz.ntmps151
 go_wp2
 go_quiet (fail)
 go_wp2
 go_ret2
 exact⟨rfl,below_drewN b0 _⟩
set_option maxHeartbeats 1600000 in
theorem lplace_2 (D L G sz ex fam ld o:Int) (gr ng:Bool) (F e f:Nat) (w:World) (h1:((e:Int)==0)=false) (ho:bits .or .u64 (f:Int) ld=o)
  (hw1:IntKind.i64.wrap (L+(e:Int))=L+(e:Int)) (hw2:IntKind.i64.wrap (L+(e:Int)-1)=L+(e:Int)-1)
  (HL: ∀w1,Calls Tryz.prog 198 #[ylV 2 D L G gr sz ex fam F] w1 fun z w'=>z= .returned (.int .u64 ld)∧Below w1.heap.size w1 w'):
  Calls Tryz.prog 151 #[ylV 2 D L G gr sz ex fam F,yfV ng (e:Int) (f:Int)] w fun z w'=>z= .returned (.tuple #[.int .u64 o,yi (L+(e:Int)-1)])∧Below w.heap.size w w':=by
 replace HL:Hid _:=HL;have hsf:=hsf_z;have l0:=(locE_new w (ylL 2 D L G gr sz ex fam F) 144).later (below_alloc _ (.cells (yfL ng (e:Int) (f:Int)).toArray 147));have m0:=locE_new (w.alloc (.cells (ylL 2 D L G gr sz ex fam F).toArray 144)) (yfL ng (e:Int) (f:Int)) 147;have b0:=below_trans (below_alloc w (.cells (ylL 2 D L G gr sz ex fam F).toArray 144)) (below_alloc _ (.cells (yfL ng (e:Int) (f:Int)).toArray 147));rw[World.size_alloc] at m0;obtain⟨x0,x1,x2,x3,x4,x5,x6,x7,x8⟩:=l0.cs9;obtain⟨u0,u1,u2⟩:=m0.cs3
 go_enter Tryz.func151,Tryz.ntmps151
 go_wp2_with fail
 go_region_held3 (fun wq=>(wq.cell? ⟨w.heap.size,0,none⟩=some (yi 2)∧wq.cell? ⟨w.heap.size,1,none⟩=some (yi D)∧wq.cell? ⟨w.heap.size,2,none⟩=some (yi L)∧wq.cell? ⟨w.heap.size,3,none⟩=some (yi G)∧wq.cell? ⟨w.heap.size,4,none⟩=some (.bool gr)∧wq.cell? ⟨w.heap.size,5,none⟩=some (yi sz)∧wq.cell? ⟨w.heap.size,6,none⟩=some (yi ex)∧wq.cell? ⟨w.heap.size,7,none⟩=some (yi fam)∧wq.cell? ⟨w.heap.size,8,none⟩=some (.func (.func F) #[] #[]))∧(wq.cell? ⟨w.heap.size+1,0,none⟩=some (.bool ng)∧wq.cell? ⟨w.heap.size+1,1,none⟩=some (yi (e:Int))∧wq.cell? ⟨w.heap.size+1,2,none⟩=some (.int .u64 (f:Int)))) (go_keep) (first
  | (go_at_call 198;refine(HL.out _).mono ?_;rintro z w2 ⟨rfl,b2⟩;have l2:=l0.drew.later b2;have m2:=m0.drew.later b2;have b02:=below_trans b0.drew b2;obtain⟨y0,y1,y2,y3,y4,y5,y6,y7,y8⟩:=l2.cs9;obtain⟨v0,v1,v2⟩:=m2.cs3))
 all_goals go_wp2
 all_goals go_ret2
 all_goals exact⟨by first|rfl|simp[Act.put],b02⟩
theorem lplace_any (k:Nat) (hk:1≤k∧k≤8) (ng:Bool) (e f:Nat) (w:World) (hf:f<18446744073709551616) (he:e<65536):Calls Tryz.prog 151 #[.agg (layV k).toArray,yfV ng (e:Int) (f:Int)] w fun z w'=>z= .returned (.tuple #[.int .u64 ((plcN k e f:Nat):Int),yi (plcP k e)])∧Below w.heap.size w w':=by
 have hls: -100000≤lsI k∧lsI k≤100000:=by rcases eight hk with rfl|rfl|rfl|rfl|rfl|rfl|rfl|rfl<;>decide
 have hw1:IntKind.i64.wrap (lsI k+(e:Int))=lsI k+(e:Int):=IntWalk.i64_in _ ⟨by omega,by omega⟩;have hw2:IntKind.i64.wrap (lsI k+(e:Int)-1)=lsI k+(e:Int)-1:=IntWalk.i64_in _ ⟨by omega,by omega⟩;have ho:bits .or .u64 (f:Int) (leadN k:Int)=((f|||leadN k:Nat):Int):=u64_or_nat f (leadN k) hf (by rcases eight hk with rfl|rfl|rfl|rfl|rfl|rfl|rfl|rfl<;>decide)
 have HL:=fun w1=>llead_any k hk w1
 unfold plcN plcP
 by_cases hr:rdN k=16
 ·rw[if_pos hr,if_pos hr]
  rcases eight hk with rfl|rfl|rfl|rfl|rfl|rfl|rfl|rfl
  all_goals first|exact absurd hr (by decide)|exact lplace_16 _ _ _ _ _ _ _ ng _ e f w hw1
 ·rw[if_neg hr,if_neg hr]
  by_cases h:e=0
  ·subst h
   rw[if_pos rfl,if_pos rfl]
   rcases eight hk with rfl|rfl|rfl|rfl|rfl|rfl|rfl|rfl
   all_goals first|exact absurd rfl hr|exact lplace_0 _ _ _ _ _ _ _ ng _ f w
  ·rw[if_neg h,if_neg h]
   have h1:((e:Int)==0)=false:=by simp;omega
   rcases eight hk with rfl|rfl|rfl|rfl|rfl|rfl|rfl|rfl
   all_goals first|exact absurd rfl hr|exact lplace_2 _ _ _ _ _ _ _ _ _ ng _ e f w h1 ho hw1 hw2 HL
end Go.Proofs.YtnhackdjplppjaaGreatDoor
namespace Go.Proofs.YtnhackdjplppjaaGreatDoor
open Go.RowKit
structure BRow (w:World) (g:Nat) (zs:List Nat):Prop where
 cell: ∀i,i<zs.length→w.cell? ⟨g,i,none⟩=some (.int .u8 ((zs.getD i 0:Nat):Int))
 free: ∀i,i<zs.length→w.frozen? ⟨g,i,none⟩=false
 lt:g<w.heap.size
theorem frozen_of_heap {w w':World} {g i:Nat} (h:w'.heap[g]? =w.heap[g]?):w'.frozen? ⟨g,i,none⟩=w.frozen? ⟨g,i,none⟩:=by
 unfold World.frozen?;simp only[h]
theorem BRow.later {w w':World} {g:Nat} {zs:List Nat} (h:BRow w g zs) (hb:Below w.heap.size w w'):BRow w' g zs:=
 ⟨fun i hi=>cell_later hb (h.cell i hi),fun i hi=>(frozen_of_heap (hb.block g h.lt)).trans (h.free i hi),Nat.lt_of_lt_of_le h.lt hb.size⟩
theorem BRow.drew {w:World} {g:Nat} {zs:List Nat} (h:BRow w g zs):BRow w.drew g zs:=h.later (Below.refl _ _).drew
theorem frozen_set (w:World) (b o:Nat) (v:Value) (g i:Nat):(w.setCell ⟨b,o,none⟩ v).frozen? ⟨g,i,none⟩=w.frozen? ⟨g,i,none⟩:=
 World.frozen?_setCells b [v] o w ⟨g,i,none⟩
theorem BRow.store {w:World} {g:Nat} {zs:List Nat} (h:BRow w g zs) (j x:Nat):BRow (w.setCell ⟨g,j,none⟩ (.int .u8 (x:Int))) g (zs.set j x):=by
 refine⟨fun i hi=> ?_,fun i hi=> ?_,by simpa[World.setCell] using h.lt⟩
 ·rw[List.length_set] at hi
  by_cases e:j=i
  ·subst e
   rw[World.cell?_setCell_same (h:=h.cell j hi)];simp[List.getD_eq_getElem?_getD,hi]
  ·rw[World.cell?_setCell_other (h:=by intro k;cases k;exact e rfl),h.cell i hi]
   simp[List.getD_eq_getElem?_getD,e]
 ·rw[List.length_set] at hi
  rw[frozen_set];exact h.free i hi
theorem own_brow {w:World} {base e:Nat} {g n cap:Nat} {zs:List Nat} (h:Own w base e .u8 (.slice (some ⟨g,0,none⟩) n cap) zs):BRow w g zs:=
 ⟨fun i hi=>h.cell i hi,fun i _=>h.free i,h.block.2⟩
def bytesOf (s:ByteArray):List Nat:=s.data.toList.map (fun b=>b.toNat)
theorem bytesOf_len (s:ByteArray):(bytesOf s).length=s.size:=by
 unfold bytesOf;rw[List.length_map,Array.length_toList];rfl
theorem bytesOf_small (s:ByteArray):Dg.Small 256 (bytesOf s):=by
 intro i;unfold bytesOf;simp only[List.getD_eq_getElem?_getD,List.getElem?_map]
 cases h:s.data.toList[i]? with
 |none=>simp
 |some b=>simpa using b.toNat_lt
def bitB (zs:List Nat) (i:Nat):Nat:=zs.getD (i/8) 0/2^ (7-i % 8) % 2
def bitsV (zs:List Nat) (f:Nat):Nat→Nat
 |0=>0
 |n+1=>2*bitsV zs f n+bitB zs (f+n)
theorem bitB_lt (zs:List Nat) (i:Nat):bitB zs i<2:=Nat.mod_lt _ (by omega)
theorem bitsV_lt (zs:List Nat) (f:Nat): ∀n,bitsV zs f n<2^n
 |0=>by simp[bitsV]
 |n+1=>by
  have h1:=bitsV_lt zs f n;have h2:=bitB_lt zs (f+n);rw[Nat.pow_succ];simp only[bitsV];omega
end Go.Proofs.YtnhackdjplppjaaGreatDoor

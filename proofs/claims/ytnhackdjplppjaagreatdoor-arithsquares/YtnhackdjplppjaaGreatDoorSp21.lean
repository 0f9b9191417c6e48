/-
  Texts laid together: Co20, Co21.
-/
import Derived.Test.YtnhackdjplppjaaGreatDoorSp20
set_option maxRecDepth 100000
namespace Go.Proofs.YtnhackdjplppjaaGreatDoor
open Go.RowKit
structure SpcF (w:World) (lv:List Value) (w':World):Prop where
 l:LocE w' w.heap.size 144 lv
 m:LocE w' (w.heap.size+1) 147 (yfL false 0 0)
 b:Below w.heap.size w w'
theorem SpcF.later {w w1 w2:World} {lv:List Value} (h:SpcF w lv w1) (b:Below w1.heap.size w1 w2):SpcF w lv w2:=⟨h.l.later b,h.m.later b,below_trans h.b b⟩
set_option maxHeartbeats 3200000 in
theorem special_zero (R D L G fam:Int) (gr:Bool) (sz ex:Nat) (F:Nat) (w:World):Calls Tryz.prog 156 #[ylV R D L G gr (sz:Int) (ex:Int) fam F,yi 1] w fun z w'=>z= .returned (.tuple #[yfV false 0 0,.bool true])∧Below w.heap.size w w':=by
 have hsf:=hsf_z;have bf:=below_alloc (w.alloc (.cells (ylL R D L G gr (sz:Int) (ex:Int) fam F).toArray 144)) (.cells (yfL false 0 0).toArray 147);have l0:=(locE_new w (ylL R D L G gr (sz:Int) (ex:Int) fam F) 144).later bf;have m0:=locE_new (w.alloc (.cells (ylL R D L G gr (sz:Int) (ex:Int) fam F).toArray 144)) (yfL false 0 0) 147;have b0:=below_trans (below_alloc w (.cells (ylL R D L G gr (sz:Int) (ex:Int) fam F).toArray 144)) bf;rw[World.size_alloc] at m0;clear bf;obtain⟨x0,x1,x2,x3,x4,x5,x6,x7,x8⟩:=l0.cs9;obtain⟨u0,u1,u2⟩:=m0.cs3;have j0:=m0.free 0;have j1:=m0.free 1;have j2:=m0.free 2;have cR:=locE_new (w.alloc (.cells (ylL R D L G gr (sz:Int) (ex:Int) fam F).toArray 144)) (yfL false 0 0) 147;rw[World.size_alloc] at cR;have bR:=below_trans (below_alloc w (.cells (ylL R D L G gr (sz:Int) (ex:Int) fam F).toArray 144)) (below_alloc _ (.cells (yfL false 0 0).toArray 147));have hl:=run_loadVar_mid (P:=Tryz.prog) _ (w.heap.size+1) 0 147 (yfL false 0 0) _ cR.range Tryz.underlying147 rfl (by kernel_rfl);have HH:Hid (_∧_):=⟨hl,bR⟩;clear hl bR cR
 go_enter Tryz.func156,Tryz.ntmps156
 go_wp2
 obtain⟨hl,bR⟩:=HH.out;exact bodyPost_ret (results_two Tryz.results156 rfl rfl hl) rfl ⟨rfl,bR⟩
set_option maxHeartbeats 3200000 in
theorem special_no3 (R D L G fam:Int) (gr:Bool) (sz ex:Nat) (F:Nat) (w:World) (hfa:(fam==1)=false):Calls Tryz.prog 156 #[ylV R D L G gr (sz:Int) (ex:Int) fam F,yi 3] w fun z w'=>z= .returned (.tuple #[yfV false 0 0,.bool false])∧Below w.heap.size w w':=by
 have hsf:=hsf_z;have bf:=below_alloc (w.alloc (.cells (ylL R D L G gr (sz:Int) (ex:Int) fam F).toArray 144)) (.cells (yfL false 0 0).toArray 147);have l0:=(locE_new w (ylL R D L G gr (sz:Int) (ex:Int) fam F) 144).later bf;have m0:=locE_new (w.alloc (.cells (ylL R D L G gr (sz:Int) (ex:Int) fam F).toArray 144)) (yfL false 0 0) 147;have b0:=below_trans (below_alloc w (.cells (ylL R D L G gr (sz:Int) (ex:Int) fam F).toArray 144)) bf;rw[World.size_alloc] at m0;clear bf;obtain⟨x0,x1,x2,x3,x4,x5,x6,x7,x8⟩:=l0.cs9;obtain⟨u0,u1,u2⟩:=m0.cs3;have j0:=m0.free 0;have j1:=m0.free 1;have j2:=m0.free 2;have cR:=locE_new (w.alloc (.cells (ylL R D L G gr (sz:Int) (ex:Int) fam F).toArray 144)) (yfL false 0 0) 147;rw[World.size_alloc] at cR;have bR:=below_trans (below_alloc w (.cells (ylL R D L G gr (sz:Int) (ex:Int) fam F).toArray 144)) (below_alloc _ (.cells (yfL false 0 0).toArray 147));have hl:=run_loadVar_mid (P:=Tryz.prog) _ (w.heap.size+1) 0 147 (yfL false 0 0) _ cR.range Tryz.underlying147 rfl (by kernel_rfl);have HH:Hid (_∧_):=⟨hl,bR⟩;clear hl bR cR
 go_enter Tryz.func156,Tryz.ntmps156
 go_wp2
 obtain⟨hl,bR⟩:=HH.out;exact bodyPost_ret (results_two Tryz.results156 rfl rfl hl) rfl ⟨rfl,bR⟩
set_option maxHeartbeats 3200000 in
theorem special_no4 (R D L G fam:Int) (gr:Bool) (sz ex:Nat) (F:Nat) (w:World) (hfa:(fam==1)=false):Calls Tryz.prog 156 #[ylV R D L G gr (sz:Int) (ex:Int) fam F,yi 4] w fun z w'=>z= .returned (.tuple #[yfV false 0 0,.bool false])∧Below w.heap.size w w':=by
 have hsf:=hsf_z;have bf:=below_alloc (w.alloc (.cells (ylL R D L G gr (sz:Int) (ex:Int) fam F).toArray 144)) (.cells (yfL false 0 0).toArray 147);have l0:=(locE_new w (ylL R D L G gr (sz:Int) (ex:Int) fam F) 144).later bf;have m0:=locE_new (w.alloc (.cells (ylL R D L G gr (sz:Int) (ex:Int) fam F).toArray 144)) (yfL false 0 0) 147;have b0:=below_trans (below_alloc w (.cells (ylL R D L G gr (sz:Int) (ex:Int) fam F).toArray 144)) bf;rw[World.size_alloc] at m0;clear bf;obtain⟨x0,x1,x2,x3,x4,x5,x6,x7,x8⟩:=l0.cs9;obtain⟨u0,u1,u2⟩:=m0.cs3;have j0:=m0.free 0;have j1:=m0.free 1;have j2:=m0.free 2;have cR:=locE_new (w.alloc (.cells (ylL R D L G gr (sz:Int) (ex:Int) fam F).toArray 144)) (yfL false 0 0) 147;rw[World.size_alloc] at cR;have bR:=below_trans (below_alloc w (.cells (ylL R D L G gr (sz:Int) (ex:Int) fam F).toArray 144)) (below_alloc _ (.cells (yfL false 0 0).toArray 147));have hl:=run_loadVar_mid (P:=Tryz.prog) _ (w.heap.size+1) 0 147 (yfL false 0 0) _ cR.range Tryz.underlying147 rfl (by kernel_rfl);have HH:Hid (_∧_):=⟨hl,bR⟩;clear hl bR cR
 go_enter Tryz.func156,Tryz.ntmps156
 go_wp2
 obtain⟨hl,bR⟩:=HH.out;exact bodyPost_ret (results_two Tryz.results156 rfl rfl hl) rfl ⟨rfl,bR⟩
set_option maxHeartbeats 3200000 in
theorem special_no5 (R D L G fam:Int) (gr:Bool) (sz ex:Nat) (F:Nat) (w:World) (hfa:(fam==3)=false):Calls Tryz.prog 156 #[ylV R D L G gr (sz:Int) (ex:Int) fam F,yi 5] w fun z w'=>z= .returned (.tuple #[yfV false 0 0,.bool false])∧Below w.heap.size w w':=by
 have hsf:=hsf_z;have bf:=below_alloc (w.alloc (.cells (ylL R D L G gr (sz:Int) (ex:Int) fam F).toArray 144)) (.cells (yfL false 0 0).toArray 147);have l0:=(locE_new w (ylL R D L G gr (sz:Int) (ex:Int) fam F) 144).later bf;have m0:=locE_new (w.alloc (.cells (ylL R D L G gr (sz:Int) (ex:Int) fam F).toArray 144)) (yfL false 0 0) 147;have b0:=below_trans (below_alloc w (.cells (ylL R D L G gr (sz:Int) (ex:Int) fam F).toArray 144)) bf;rw[World.size_alloc] at m0;clear bf;obtain⟨x0,x1,x2,x3,x4,x5,x6,x7,x8⟩:=l0.cs9;obtain⟨u0,u1,u2⟩:=m0.cs3;have j0:=m0.free 0;have j1:=m0.free 1;have j2:=m0.free 2;have cR:=locE_new (w.alloc (.cells (ylL R D L G gr (sz:Int) (ex:Int) fam F).toArray 144)) (yfL false 0 0) 147;rw[World.size_alloc] at cR;have bR:=below_trans (below_alloc w (.cells (ylL R D L G gr (sz:Int) (ex:Int) fam F).toArray 144)) (below_alloc _ (.cells (yfL false 0 0).toArray 147));have hl:=run_loadVar_mid (P:=Tryz.prog) _ (w.heap.size+1) 0 147 (yfL false 0 0) _ cR.range Tryz.underlying147 rfl (by kernel_rfl);have HH:Hid (_∧_):=⟨hl,bR⟩;clear hl bR cR
 go_enter Tryz.func156,Tryz.ntmps156
 go_wp2
 obtain⟨hl,bR⟩:=HH.out;exact bodyPost_ret (results_two Tryz.results156 rfl rfl hl) rfl ⟨rfl,bR⟩
set_option maxHeartbeats 3200000 in
theorem special_res (R D L G fam:Int) (gr:Bool) (sz ex:Nat) (F:Nat) (w:World) (hfa:fam=3):Calls Tryz.prog 156 #[ylV R D L G gr (sz:Int) (ex:Int) fam F,yi 5] w fun z w'=>z= .returned (.tuple #[yfV true 0 0,.bool true])∧Below w.heap.size w w':=by
 subst hfa;have hsf:=hsf_z;have bf:=below_alloc (w.alloc (.cells (ylL R D L G gr (sz:Int) (ex:Int) 3 F).toArray 144)) (.cells (yfL false 0 0).toArray 147);have l0:=(locE_new w (ylL R D L G gr (sz:Int) (ex:Int) 3 F) 144).later bf;have m0:=locE_new (w.alloc (.cells (ylL R D L G gr (sz:Int) (ex:Int) 3 F).toArray 144)) (yfL false 0 0) 147;have b0:=below_trans (below_alloc w (.cells (ylL R D L G gr (sz:Int) (ex:Int) 3 F).toArray 144)) bf;rw[World.size_alloc] at m0;clear bf;obtain⟨x0,x1,x2,x3,x4,x5,x6,x7,x8⟩:=l0.cs9;obtain⟨u0,u1,u2⟩:=m0.cs3;have j0:=m0.free 0;have j1:=m0.free 1;have j2:=m0.free 2;have cR:=locE_new (w.alloc (.cells (ylL R D L G gr (sz:Int) (ex:Int) 3 F).toArray 144)) (yfL true 0 0) 147;rw[World.size_alloc] at cR;have bR:=below_trans (below_alloc w (.cells (ylL R D L G gr (sz:Int) (ex:Int) 3 F).toArray 144)) (below_alloc _ (.cells (yfL true 0 0).toArray 147));have hl:=run_loadVar_mid (P:=Tryz.prog) _ (w.heap.size+1) 0 147 (yfL true 0 0) _ cR.range Tryz.underlying147 rfl (by kernel_rfl);have HH:Hid (_∧_):=⟨hl,bR⟩;clear hl bR cR
 go_enter Tryz.func156,Tryz.ntmps156
 go_wp2
 obtain⟨hl,bR⟩:=HH.out;exact bodyPost_ret (results_two Tryz.results156 rfl rfl hl) rfl ⟨rfl,bR⟩
set_option maxHeartbeats 3200000 in
theorem special_inf (R D L G:Int) (gr:Bool) (sz ex:Nat) (F:Nat) (w:World) (on wr:Nat)
  (Hones: ∀w1,Calls Tryz.prog 205 #[ylV R D L G gr (sz:Int) (ex:Int) 1 F] w1 fun z w'=>z= .returned (yi (on:Int))∧Below w1.heap.size w1 w')
  (Hwritten: ∀w1,Calls Tryz.prog 206 #[ylV R D L G gr (sz:Int) (ex:Int) 1 F] w1 fun z w'=>z= .returned (.int .u64 (wr:Int))∧Below w1.heap.size w1 w'):Calls Tryz.prog 156 #[ylV R D L G gr (sz:Int) (ex:Int) 1 F,yi 3] w fun z w'=>z= .returned (.tuple #[yfV false (on:Int) (wr:Int),.bool true])∧Below w.heap.size w w':=by
 have hsf:=hsf_z;have bf:=below_alloc (w.alloc (.cells (ylL R D L G gr (sz:Int) (ex:Int) 1 F).toArray 144)) (.cells (yfL false 0 0).toArray 147);have l0:=(locE_new w (ylL R D L G gr (sz:Int) (ex:Int) 1 F) 144).later bf;have m0:=locE_new (w.alloc (.cells (ylL R D L G gr (sz:Int) (ex:Int) 1 F).toArray 144)) (yfL false 0 0) 147;have b0:=below_trans (below_alloc w (.cells (ylL R D L G gr (sz:Int) (ex:Int) 1 F).toArray 144)) bf;rw[World.size_alloc] at m0;clear bf;obtain⟨x0,x1,x2,x3,x4,x5,x6,x7,x8⟩:=l0.cs9;obtain⟨u0,u1,u2⟩:=m0.cs3;have j0:=m0.free 0;have j1:=m0.free 1;have j2:=m0.free 2;have Hones':Hid _:=Hones;have Hwritten':Hid _:=Hwritten;have CX:SpcF w (ylL R D L G gr (sz:Int) (ex:Int) 1 F) _:=⟨l0.drew,m0.drew,b0.drew⟩;clear l0 m0 b0 Hones Hwritten
 go_enter Tryz.func156,Tryz.ntmps156
 go_wp2_with fail
 go_region_held3 (fun wq=>wq.cell? ⟨w.heap.size,0,none⟩=some (yi R)∧wq.cell? ⟨w.heap.size,1,none⟩=some (yi D)∧wq.cell? ⟨w.heap.size,2,none⟩=some (yi L)∧wq.cell? ⟨w.heap.size,3,none⟩=some (yi G)∧wq.cell? ⟨w.heap.size,4,none⟩=some (.bool gr)∧wq.cell? ⟨w.heap.size,5,none⟩=some (yi (sz:Int))∧wq.cell? ⟨w.heap.size,6,none⟩=some (yi (ex:Int))∧wq.cell? ⟨w.heap.size,7,none⟩=some (yi 1)∧wq.cell? ⟨w.heap.size,8,none⟩=some (.func (.func F) #[] #[])) (go_keep) (first
  | (go_at_call 205;refine(Hones'.out _).mono ?_;rintro z wones ⟨rfl,bb⟩;have CY:=CX.later bb;clear CX;have CX:=CY;clear CY bb;obtain⟨lq,mq,-⟩:=id CX;obtain⟨x0,x1,x2,x3,x4,x5,x6,x7,x8⟩:=lq.cs9;obtain⟨u0,u1,u2⟩:=mq.cs3;have j0:=mq.free 0;have j1:=mq.free 1;have j2:=mq.free 2;clear lq mq)
  | (go_at_call 206;refine(Hwritten'.out _).mono ?_;rintro z wwritten ⟨rfl,bb⟩;have CY:=CX.later bb;clear CX;have CX:=CY;clear CY bb;obtain⟨lq,mq,-⟩:=id CX;obtain⟨x0,x1,x2,x3,x4,x5,x6,x7,x8⟩:=lq.cs9;obtain⟨u0,u1,u2⟩:=mq.cs3;have j0:=mq.free 0;have j1:=mq.free 1;have j2:=mq.free 2;clear lq mq))
 have mz:=CX.m;have bz:=CX.b;have bu:=((but_set wwritten (w.heap.size+1) 0 (.bool false)).trans (but_set _ (w.heap.size+1) 1 (yi (on:Int)))).trans (but_set _ (w.heap.size+1) 2 (.int .u64 (wr:Int)));have cR:LocE (((wwritten.setCell ⟨w.heap.size+1,0,none⟩ (.bool false)).setCell ⟨w.heap.size+1,1,none⟩ (yi (on:Int))).setCell ⟨w.heap.size+1,2,none⟩ (.int .u64 (wr:Int))) (w.heap.size+1) 147 (yfL false (on:Int) (wr:Int)):=(((mz.set 0 (.bool false)).set 1 (yi (on:Int))).set 2 (.int .u64 (wr:Int)));have bR:=bu.below bz (by omega);have hl:=run_loadVar_mid (P:=Tryz.prog) _ (w.heap.size+1) 0 147 (yfL false (on:Int) (wr:Int)) _ cR.range Tryz.underlying147 rfl (by kernel_rfl);have HH:Hid (_∧_):=⟨hl,bR⟩;clear hl bR cR bu;clear mz bz CX
 go_wp2
 obtain⟨hl,bR⟩:=HH.out;exact bodyPost_ret (results_two Tryz.results156 rfl rfl hl) rfl ⟨rfl,bR⟩
set_option maxHeartbeats 3200000 in
theorem special_nan (R D L G:Int) (gr:Bool) (sz ex:Nat) (F:Nat) (w:World) (on wr ld:Nat) (hwl:wr<18446744073709551616) (hld:ld<18446744073709551616)
  (Hones: ∀w1,Calls Tryz.prog 205 #[ylV R D L G gr (sz:Int) (ex:Int) 1 F] w1 fun z w'=>z= .returned (yi (on:Int))∧Below w1.heap.size w1 w')
  (Hwritten: ∀w1,Calls Tryz.prog 206 #[ylV R D L G gr (sz:Int) (ex:Int) 1 F] w1 fun z w'=>z= .returned (.int .u64 (wr:Int))∧Below w1.heap.size w1 w')
  (Hlead: ∀w1,Calls Tryz.prog 198 #[ylV R D L G gr (sz:Int) (ex:Int) 1 F] w1 fun z w'=>z= .returned (.int .u64 (ld:Int))∧Below w1.heap.size w1 w'):Calls Tryz.prog 156 #[ylV R D L G gr (sz:Int) (ex:Int) 1 F,yi 4] w fun z w'=>z= .returned (.tuple #[yfV false (on:Int) ((wr|||ld/2:Nat):Int),.bool true])∧Below w.heap.size w w':=by
 have hsf:=hsf_z;have bf:=below_alloc (w.alloc (.cells (ylL R D L G gr (sz:Int) (ex:Int) 1 F).toArray 144)) (.cells (yfL false 0 0).toArray 147);have l0:=(locE_new w (ylL R D L G gr (sz:Int) (ex:Int) 1 F) 144).later bf;have m0:=locE_new (w.alloc (.cells (ylL R D L G gr (sz:Int) (ex:Int) 1 F).toArray 144)) (yfL false 0 0) 147;have b0:=below_trans (below_alloc w (.cells (ylL R D L G gr (sz:Int) (ex:Int) 1 F).toArray 144)) bf;rw[World.size_alloc] at m0;clear bf;obtain⟨x0,x1,x2,x3,x4,x5,x6,x7,x8⟩:=l0.cs9;obtain⟨u0,u1,u2⟩:=m0.cs3;have j0:=m0.free 0;have j1:=m0.free 1;have j2:=m0.free 2;have Hones':Hid _:=Hones;have Hwritten':Hid _:=Hwritten;have Hlead':Hid _:=Hlead;have hor:bits .or .u64 (wr:Int) ((ld/2:Nat):Int)=((wr|||ld/2:Nat):Int):=u64_or_nat wr (ld/2) hwl (by omega)
 have hhf:(ld:Int)/2=((ld/2:Nat):Int):=by omega
 obtain⟨fr,hfr⟩: ∃x,wr|||ld/2=x:=⟨_,rfl⟩
 rw[hfr] at hor⊢;generalize ld/2=lh at*;clear hfr;have CX:SpcF w (ylL R D L G gr (sz:Int) (ex:Int) 1 F) _:=⟨l0.drew,m0.drew,b0.drew⟩;clear l0 m0 b0 Hones Hwritten Hlead
 go_enter Tryz.func156,Tryz.ntmps156
 go_wp2_with fail
 go_region_held3 (fun wq=>wq.cell? ⟨w.heap.size,0,none⟩=some (yi R)∧wq.cell? ⟨w.heap.size,1,none⟩=some (yi D)∧wq.cell? ⟨w.heap.size,2,none⟩=some (yi L)∧wq.cell? ⟨w.heap.size,3,none⟩=some (yi G)∧wq.cell? ⟨w.heap.size,4,none⟩=some (.bool gr)∧wq.cell? ⟨w.heap.size,5,none⟩=some (yi (sz:Int))∧wq.cell? ⟨w.heap.size,6,none⟩=some (yi (ex:Int))∧wq.cell? ⟨w.heap.size,7,none⟩=some (yi 1)∧wq.cell? ⟨w.heap.size,8,none⟩=some (.func (.func F) #[] #[])) (go_keep) (first
  | (go_at_call 205;refine(Hones'.out _).mono ?_;rintro z wones ⟨rfl,bb⟩;have CY:=CX.later bb;clear CX;have CX:=CY;clear CY bb;obtain⟨lq,mq,-⟩:=id CX;obtain⟨x0,x1,x2,x3,x4,x5,x6,x7,x8⟩:=lq.cs9;obtain⟨u0,u1,u2⟩:=mq.cs3;have j0:=mq.free 0;have j1:=mq.free 1;have j2:=mq.free 2;clear lq mq)
  | (go_at_call 206;refine(Hwritten'.out _).mono ?_;rintro z wwritten ⟨rfl,bb⟩;have CY:=CX.later bb;clear CX;have CX:=CY;clear CY bb;obtain⟨lq,mq,-⟩:=id CX;obtain⟨x0,x1,x2,x3,x4,x5,x6,x7,x8⟩:=lq.cs9;obtain⟨u0,u1,u2⟩:=mq.cs3;have j0:=mq.free 0;have j1:=mq.free 1;have j2:=mq.free 2;clear lq mq)
  | (go_at_call 198;refine(Hlead'.out _).mono ?_;rintro z wlead ⟨rfl,bb⟩;have CY:=CX.later bb;clear CX;have CX:=CY;clear CY bb;obtain⟨lq,mq,-⟩:=id CX;obtain⟨x0,x1,x2,x3,x4,x5,x6,x7,x8⟩:=lq.cs9;obtain⟨u0,u1,u2⟩:=mq.cs3;have j0:=mq.free 0;have j1:=mq.free 1;have j2:=mq.free 2;clear lq mq))
 have mz:=CX.m;have bz:=CX.b;have bu:=((but_set wlead (w.heap.size+1) 0 (.bool false)).trans (but_set _ (w.heap.size+1) 1 (yi (on:Int)))).trans (but_set _ (w.heap.size+1) 2 (.int .u64 (fr:Int)));have cR:LocE (((wlead.setCell ⟨w.heap.size+1,0,none⟩ (.bool false)).setCell ⟨w.heap.size+1,1,none⟩ (yi (on:Int))).setCell ⟨w.heap.size+1,2,none⟩ (.int .u64 (fr:Int))) (w.heap.size+1) 147 (yfL false (on:Int) (fr:Int)):=(((mz.set 0 (.bool false)).set 1 (yi (on:Int))).set 2 (.int .u64 (fr:Int)));have bR:=bu.below bz (by omega);have hl:=run_loadVar_mid (P:=Tryz.prog) _ (w.heap.size+1) 0 147 (yfL false (on:Int) (fr:Int)) _ cR.range Tryz.underlying147 rfl (by kernel_rfl);have HH:Hid (_∧_):=⟨hl,bR⟩;clear hl bR cR bu;clear mz bz CX
 go_wp2
 obtain⟨hl,bR⟩:=HH.out;exact bodyPost_ret (results_two Tryz.results156 rfl rfl hl) rfl ⟨rfl,bR⟩
def spcOk (k c:Nat):Bool:=c==1||(c==3||c==4)&&decide (k≤3)||c==5&&decide (6≤k)
def spcG (k c:Nat):Bool:=c==5&&decide (6≤k)
def spcE (k c:Nat):Nat:=if(c=3∨c=4)∧k≤3 then onesN k else 0
def spcF (k c:Nat):Nat:=if k≤3 then(if c=3 then wrN k else if c=4 then wrN k|||leadN k/2 else 0) else 0
theorem special_any (k c:Nat) (hk:1≤k∧k≤8) (hc:c=1∨c=3∨c=4∨c=5) (w:World):
  Calls Tryz.prog 156 #[.agg (layV k).toArray,yi (c:Int)] w fun z w'=>z= .returned (.tuple #[yfV (spcG k c) ((spcE k c:Nat):Int) ((spcF k c:Nat):Int),.bool (spcOk k c)])∧Below w.heap.size w w':=by
 have HO:=fun w1=>lones_any k hk w1
 have HW:=fun w1=>lwritten_any k hk w1
 have HL:=fun w1=>llead_any k hk w1
 rcases hc with rfl|rfl|rfl|rfl
 ·rw[show spcG k 1=false from rfl,show spcE k 1=0 from if_neg (fun h=>by omega),show spcF k 1=0 from by unfold spcF;simp,show spcOk k 1=true from rfl]
  rcases eight hk with rfl|rfl|rfl|rfl|rfl|rfl|rfl|rfl
  all_goals exact special_zero _ _ _ _ _ _ _ _ _ w
 ·rw[show spcG k 3=false from rfl]
  by_cases h3:k≤3
  ·rw[show spcE k 3=onesN k from if_pos ⟨.inl rfl,h3⟩,show spcF k 3=wrN k from by unfold spcF;rw[if_pos h3,if_pos rfl],show spcOk k 3=true from by simp[spcOk,h3]]
   generalize onesN k=on at*;generalize wrN k=wr at*
   rcases(by omega:k=1∨k=2∨k=3) with rfl|rfl|rfl
   all_goals exact special_inf _ _ _ _ _ _ _ _ w _ _ HO HW
  ·rw[show spcE k 3=0 from if_neg (fun h=>h3 h.2),show spcF k 3=0 from if_neg h3,show spcOk k 3=false from by simp[spcOk,h3]]
   rcases(by omega:k=4∨k=5∨k=6∨k=7∨k=8) with rfl|rfl|rfl|rfl|rfl
   all_goals exact special_no3 _ _ _ _ _ _ _ _ _ w rfl
 ·rw[show spcG k 4=false from rfl]
  by_cases h3:k≤3
  ·rw[show spcE k 4=onesN k from if_pos ⟨.inr rfl,h3⟩,show spcF k 4=wrN k|||leadN k/2 from by unfold spcF;rw[if_pos h3,if_neg (by omega),if_pos rfl],show spcOk k 4=true from by simp[spcOk,h3]]
   have hw:wrN k<18446744073709551616:=by rcases(by omega:k=1∨k=2∨k=3) with rfl|rfl|rfl<;>decide
   have hl:leadN k<18446744073709551616:=by rcases(by omega:k=1∨k=2∨k=3) with rfl|rfl|rfl<;>decide
   generalize onesN k=on at*;generalize wrN k=wr at*;generalize leadN k=ld at*
   rcases(by omega:k=1∨k=2∨k=3) with rfl|rfl|rfl
   all_goals exact special_nan _ _ _ _ _ _ _ _ w _ _ _ hw hl HO HW HL
  ·rw[show spcE k 4=0 from if_neg (fun h=>h3 h.2),show spcF k 4=0 from if_neg h3,show spcOk k 4=false from by simp[spcOk,h3]]
   rcases(by omega:k=4∨k=5∨k=6∨k=7∨k=8) with rfl|rfl|rfl|rfl|rfl
   all_goals exact special_no4 _ _ _ _ _ _ _ _ _ w rfl
 ·rw[show spcE k 5=0 from if_neg (fun h=>by omega),show spcF k 5=0 from by unfold spcF;simp]
  by_cases h6:6≤k
  ·rw[show spcG k 5=true from by simp[spcG,h6],show spcOk k 5=true from by simp[spcOk,h6]]
   rcases(by omega:k=6∨k=7∨k=8) with rfl|rfl|rfl
   all_goals exact special_res _ _ _ _ _ _ _ _ _ w rfl
  ·rw[show spcG k 5=false from by simp[spcG,h6],show spcOk k 5=false from by simp[spcOk,h6]]
   rcases(by omega:k=1∨k=2∨k=3∨k=4∨k=5) with rfl|rfl|rfl|rfl|rfl
   all_goals exact special_no5 _ _ _ _ _ _ _ _ _ w rfl
def sgnOk (k c:Nat):Bool:=c==3||c==1&&decide (k≤5)
set_option maxHeartbeats 1600000 in
theorem signed_W (R D L G fam:Int) (gr:Bool) (sz ex:Nat) (F:Nat) (c:Int) (q3 q1 qf:Bool) (w:World) (h3:(c==3)=q3) (h1:(c==1)=q1) (hf:(fam != 3)=qf):Calls Tryz.prog 157 #[ylV R D L G gr (sz:Int) (ex:Int) fam F,yi c] w fun z w'=>z= .returned (.bool (q3||q1&&qf))∧Below w.heap.size w w':=by
 have hsf:=hsf_z;have b0:=below_alloc w (.cells (ylL R D L G gr (sz:Int) (ex:Int) fam F).toArray 144)
 cases q3<;>cases q1<;>cases qf
 all_goals go_enter Tryz.func157,Tryz.ntmps157
 all_goals go_wp2
 all_goals go_ret
 all_goals exact⟨rfl,b0⟩
theorem signed_any (k c:Nat) (hk:1≤k∧k≤8) (hc:c=1∨c=3∨c=4∨c=5) (w:World):
  Calls Tryz.prog 157 #[.agg (layV k).toArray,yi (c:Int)] w fun z w'=>z= .returned (.bool (sgnOk k c))∧Below w.heap.size w w':=by
 rcases eight hk with rfl|rfl|rfl|rfl|rfl|rfl|rfl|rfl
 all_goals rcases hc with rfl|rfl|rfl|rfl
 all_goals first
  |exact signed_W _ _ _ _ _ _ _ _ _ _ _ _ true w rfl rfl rfl
  |exact signed_W _ _ _ _ _ _ _ _ _ _ _ _ false w rfl rfl rfl
end Go.Proofs.YtnhackdjplppjaaGreatDoor
namespace Go.Proofs.YtnhackdjplppjaaGreatDoor
open Go.RowKit
set_option maxHeartbeats 3200000 in
theorem other_none (R D L G fam:Int) (gr:Bool) (sz ex:Nat) (F:Nat) (c p:Int) (ng:Bool) (ao:Option Addr) (dn dc:Nat) (sg0:Bool) (se sf:Nat) (w:World)
  (HS: ∀w1,Calls Tryz.prog 156 #[ylV R D L G gr (sz:Int) (ex:Int) fam F,yi c] w1 fun z w'=>z= .returned (.tuple #[yfV sg0 (se:Int) (sf:Int),.bool false])∧Below w1.heap.size w1 w'):
  Calls Tryz.prog 100 #[ylV R D L G gr (sz:Int) (ex:Int) fam F,yvV c ng (.slice ao dn dc) p] w fun z w'=>z= .returned (.tuple #[.string ⟨#[]⟩,yi 5])∧Below w.heap.size w w':=by
 have hsf:=hsf_z;have bf:=below_alloc (w.alloc (.cells (ylL R D L G gr (sz:Int) (ex:Int) fam F).toArray 144)) (.cells (yvL c ng (.slice ao dn dc) p).toArray 73);have l0:=(locE_new w (ylL R D L G gr (sz:Int) (ex:Int) fam F) 144).later bf;have m0:=locE_new (w.alloc (.cells (ylL R D L G gr (sz:Int) (ex:Int) fam F).toArray 144)) (yvL c ng (.slice ao dn dc) p) 73;have b0:=below_trans (below_alloc w (.cells (ylL R D L G gr (sz:Int) (ex:Int) fam F).toArray 144)) bf;rw[World.size_alloc] at m0;have HS':Hid _:=HS;clear HS bf
 go_enter Tryz.func100,Tryz.ntmps100
 go_wp2_with fail
 refine(HS'.out _).mono ?_;rintro z w1 ⟨rfl,b1⟩;have bq:=below_alloc w1 (.cells (yfL sg0 (se:Int) (sf:Int)).toArray 147);have l1:=(l0.later b1).later bq;have m1:=(m0.later b1).later bq;have q1:=locE_new w1 (yfL sg0 (se:Int) (sf:Int)) 147;have b01:=below_trans (below_trans b0 b1) bq;obtain⟨x0,x1,x2,x3,x4,x5,x6,x7,x8⟩:=l1.cs9;obtain⟨u0,u1,u2,u3⟩:=m1.cs4;obtain⟨s0,s1,s2⟩:=q1.cs3;clear l0 m0 b0 b1 bq HS'
 go_wp2
 go_ret2
 exact⟨rfl,b01⟩
set_option maxHeartbeats 3200000 in
theorem other_digits (R D L G fam:Int) (gr:Bool) (sz ex:Nat) (F:Nat) (c p:Int) (ng:Bool) (ao:Option Addr) (dn dc:Nat) (sg0:Bool) (se sf:Nat) (w:World)
  (HS: ∀w1,Calls Tryz.prog 156 #[ylV R D L G gr (sz:Int) (ex:Int) fam F,yi c] w1 fun z w'=>z= .returned (.tuple #[yfV sg0 (se:Int) (sf:Int),.bool true])∧Below w1.heap.size w1 w') (hd:0<dn):
  Calls Tryz.prog 100 #[ylV R D L G gr (sz:Int) (ex:Int) fam F,yvV c ng (.slice ao dn dc) p] w fun z w'=>z= .returned (.tuple #[.string ⟨#[]⟩,yi 4])∧Below w.heap.size w w':=by
 have hdI:(0:Int)< (dn:Int):=by omega
 have hsf:=hsf_z;have bf:=below_alloc (w.alloc (.cells (ylL R D L G gr (sz:Int) (ex:Int) fam F).toArray 144)) (.cells (yvL c ng (.slice ao dn dc) p).toArray 73);have l0:=(locE_new w (ylL R D L G gr (sz:Int) (ex:Int) fam F) 144).later bf;have m0:=locE_new (w.alloc (.cells (ylL R D L G gr (sz:Int) (ex:Int) fam F).toArray 144)) (yvL c ng (.slice ao dn dc) p) 73;have b0:=below_trans (below_alloc w (.cells (ylL R D L G gr (sz:Int) (ex:Int) fam F).toArray 144)) bf;rw[World.size_alloc] at m0;have HS':Hid _:=HS;clear HS bf
 go_enter Tryz.func100,Tryz.ntmps100
 go_wp2_with fail
 refine(HS'.out _).mono ?_;rintro z w1 ⟨rfl,b1⟩;have bq:=below_alloc w1 (.cells (yfL sg0 (se:Int) (sf:Int)).toArray 147);have l1:=(l0.later b1).later bq;have m1:=(m0.later b1).later bq;have q1:=locE_new w1 (yfL sg0 (se:Int) (sf:Int)) 147;have b01:=below_trans (below_trans b0 b1) bq;obtain⟨x0,x1,x2,x3,x4,x5,x6,x7,x8⟩:=l1.cs9;obtain⟨u0,u1,u2,u3⟩:=m1.cs4;obtain⟨s0,s1,s2⟩:=q1.cs3;clear l0 m0 b0 b1 bq HS'
 go_wp2
 go_ret2
 exact⟨rfl,b01⟩
set_option maxHeartbeats 3200000 in
theorem other_power (R D L G fam:Int) (gr:Bool) (sz ex:Nat) (F:Nat) (c p:Int) (ng:Bool) (ao:Option Addr) (dn dc:Nat) (sg0:Bool) (se sf:Nat) (w:World)
  (HS: ∀w1,Calls Tryz.prog 156 #[ylV R D L G gr (sz:Int) (ex:Int) fam F,yi c] w1 fun z w'=>z= .returned (.tuple #[yfV sg0 (se:Int) (sf:Int),.bool true])∧Below w1.heap.size w1 w') (hd:dn=0) (hp:p≠0):
  Calls Tryz.prog 100 #[ylV R D L G gr (sz:Int) (ex:Int) fam F,yvV c ng (.slice ao dn dc) p] w fun z w'=>z= .returned (.tuple #[.string ⟨#[]⟩,yi 4])∧Below w.heap.size w w':=by
 subst hd;have hpb:(p==0)=false:=by simpa using hp
 have hsf:=hsf_z;have bf:=below_alloc (w.alloc (.cells (ylL R D L G gr (sz:Int) (ex:Int) fam F).toArray 144)) (.cells (yvL c ng (.slice ao 0 dc) p).toArray 73);have l0:=(locE_new w (ylL R D L G gr (sz:Int) (ex:Int) fam F) 144).later bf;have m0:=locE_new (w.alloc (.cells (ylL R D L G gr (sz:Int) (ex:Int) fam F).toArray 144)) (yvL c ng (.slice ao 0 dc) p) 73;have b0:=below_trans (below_alloc w (.cells (ylL R D L G gr (sz:Int) (ex:Int) fam F).toArray 144)) bf;rw[World.size_alloc] at m0;have HS':Hid _:=HS;clear HS bf
 go_enter Tryz.func100,Tryz.ntmps100
 go_wp2_with fail
 refine(HS'.out _).mono ?_;rintro z w1 ⟨rfl,b1⟩;have bq:=below_alloc w1 (.cells (yfL sg0 (se:Int) (sf:Int)).toArray 147);have l1:=(l0.later b1).later bq;have m1:=(m0.later b1).later bq;have q1:=locE_new w1 (yfL sg0 (se:Int) (sf:Int)) 147;have b01:=below_trans (below_trans b0 b1) bq;obtain⟨x0,x1,x2,x3,x4,x5,x6,x7,x8⟩:=l1.cs9;obtain⟨u0,u1,u2,u3⟩:=m1.cs4;obtain⟨s0,s1,s2⟩:=q1.cs3;clear l0 m0 b0 b1 bq HS'
 go_wp2
 go_ret2
 exact⟨rfl,b01⟩
set_option maxHeartbeats 3200000 in
theorem other_sign (R D L G fam:Int) (gr:Bool) (sz ex:Nat) (F:Nat) (c p:Int) (ng:Bool) (ao:Option Addr) (dn dc:Nat) (sg0:Bool) (se sf:Nat) (w:World)
  (HS: ∀w1,Calls Tryz.prog 156 #[ylV R D L G gr (sz:Int) (ex:Int) fam F,yi c] w1 fun z w'=>z= .returned (.tuple #[yfV sg0 (se:Int) (sf:Int),.bool true])∧Below w1.heap.size w1 w')
  (HG: ∀w1,Calls Tryz.prog 157 #[ylV R D L G gr (sz:Int) (ex:Int) fam F,yi c] w1 fun z w'=>z= .returned (.bool false)∧Below w1.heap.size w1 w') (hd:dn=0) (hp:p=0) (hn:ng=true):
  Calls Tryz.prog 100 #[ylV R D L G gr (sz:Int) (ex:Int) fam F,yvV c ng (.slice ao dn dc) p] w fun z w'=>z= .returned (.tuple #[.string ⟨#[]⟩,yi 4])∧Below w.heap.size w w':=by
 subst hd hp hn;have HG':Hid _:=HG;have hsf:=hsf_z;have bf:=below_alloc (w.alloc (.cells (ylL R D L G gr (sz:Int) (ex:Int) fam F).toArray 144)) (.cells (yvL c true (.slice ao 0 dc) 0).toArray 73);have l0:=(locE_new w (ylL R D L G gr (sz:Int) (ex:Int) fam F) 144).later bf;have m0:=locE_new (w.alloc (.cells (ylL R D L G gr (sz:Int) (ex:Int) fam F).toArray 144)) (yvL c true (.slice ao 0 dc) 0) 73;have b0:=below_trans (below_alloc w (.cells (ylL R D L G gr (sz:Int) (ex:Int) fam F).toArray 144)) bf;rw[World.size_alloc] at m0;have HS':Hid _:=HS;clear HS bf
 go_enter Tryz.func100,Tryz.ntmps100
 go_wp2_with fail
 refine(HS'.out _).mono ?_;rintro z w1 ⟨rfl,b1⟩;have bq:=below_alloc w1 (.cells (yfL sg0 (se:Int) (sf:Int)).toArray 147);have l1:=(l0.later b1).later bq;have m1:=(m0.later b1).later bq;have q1:=locE_new w1 (yfL sg0 (se:Int) (sf:Int)) 147;have b01:=below_trans (below_trans b0 b1) bq;obtain⟨x0,x1,x2,x3,x4,x5,x6,x7,x8⟩:=l1.cs9;obtain⟨u0,u1,u2,u3⟩:=m1.cs4;obtain⟨s0,s1,s2⟩:=q1.cs3;clear l0 m0 b0 b1 bq HS'
 go_wp2_with fail
 refine(HG'.out _).mono ?_;rintro z w2 ⟨rfl,b2⟩;have l2:=l1.later b2;have m2:=m1.later b2;have q2:=q1.later b2;have b02:=below_trans b01 b2;clear l1 m1 q1 b01 b2 x0 x1 x2 x3 x4 x5 x6 x7 x8 u0 u1 u2 u3 s0 s1 s2;obtain⟨x0,x1,x2,x3,x4,x5,x6,x7,x8⟩:=l2.cs9;obtain⟨u0,u1,u2,u3⟩:=m2.cs4;obtain⟨s0,s1,s2⟩:=q2.cs3
 go_wp2
 go_ret2
 exact⟨rfl,b02⟩
set_option maxHeartbeats 3200000 in
theorem other_ok0 (R D L G fam:Int) (gr:Bool) (sz ex:Nat) (F:Nat) (c p:Int) (ng:Bool) (ao:Option Addr) (dn dc:Nat) (sg0:Bool) (se sf:Nat) (w:World)
  (HS: ∀w1,Calls Tryz.prog 156 #[ylV R D L G gr (sz:Int) (ex:Int) fam F,yi c] w1 fun z w'=>z= .returned (.tuple #[yfV sg0 (se:Int) (sf:Int),.bool true])∧Below w1.heap.size w1 w')
  (st:ByteArray) (HW: ∀w1,Calls Tryz.prog 158 #[ylV R D L G gr (sz:Int) (ex:Int) fam F,yfV (sg0||ng) (se:Int) (sf:Int)] w1 fun z w'=>z= .returned (.string st)∧Below w1.heap.size w1 w') (hd:dn=0) (hp:p=0) (hn:ng=false):
  Calls Tryz.prog 100 #[ylV R D L G gr (sz:Int) (ex:Int) fam F,yvV c ng (.slice ao dn dc) p] w fun z w'=>z= .returned (.tuple #[.string st,yi 0])∧Below w.heap.size w w':=by
 subst hd hp hn;have HW':Hid _:=HW;have hsf:=hsf_z;have bf:=below_alloc (w.alloc (.cells (ylL R D L G gr (sz:Int) (ex:Int) fam F).toArray 144)) (.cells (yvL c false (.slice ao 0 dc) 0).toArray 73);have l0:=(locE_new w (ylL R D L G gr (sz:Int) (ex:Int) fam F) 144).later bf;have m0:=locE_new (w.alloc (.cells (ylL R D L G gr (sz:Int) (ex:Int) fam F).toArray 144)) (yvL c false (.slice ao 0 dc) 0) 73;have b0:=below_trans (below_alloc w (.cells (ylL R D L G gr (sz:Int) (ex:Int) fam F).toArray 144)) bf;rw[World.size_alloc] at m0;have HS':Hid _:=HS;clear HS bf
 go_enter Tryz.func100,Tryz.ntmps100
 go_wp2_with fail
 refine(HS'.out _).mono ?_;rintro z w1 ⟨rfl,b1⟩;have bq:=below_alloc w1 (.cells (yfL sg0 (se:Int) (sf:Int)).toArray 147);have l1:=(l0.later b1).later bq;have m1:=(m0.later b1).later bq;have q1:=locE_new w1 (yfL sg0 (se:Int) (sf:Int)) 147;have b01:=below_trans (below_trans b0 b1) bq;obtain⟨x0,x1,x2,x3,x4,x5,x6,x7,x8⟩:=l1.cs9;obtain⟨u0,u1,u2,u3⟩:=m1.cs4;obtain⟨s0,s1,s2⟩:=q1.cs3;clear l0 m0 b0 b1 bq HS';clear HW
 cases sg0
 all_goals go_wp2_with fail
 all_goals (refine(HW'.out _).mono ?_;rintro z w3 ⟨rfl,b3⟩;go_wp2;go_ret2;exact⟨rfl,below_trans b01 b3⟩)
set_option maxHeartbeats 3200000 in
theorem other_ok1 (R D L G fam:Int) (gr:Bool) (sz ex:Nat) (F:Nat) (c p:Int) (ng:Bool) (ao:Option Addr) (dn dc:Nat) (sg0:Bool) (se sf:Nat) (w:World)
  (HS: ∀w1,Calls Tryz.prog 156 #[ylV R D L G gr (sz:Int) (ex:Int) fam F,yi c] w1 fun z w'=>z= .returned (.tuple #[yfV sg0 (se:Int) (sf:Int),.bool true])∧Below w1.heap.size w1 w')
  (HG: ∀w1,Calls Tryz.prog 157 #[ylV R D L G gr (sz:Int) (ex:Int) fam F,yi c] w1 fun z w'=>z= .returned (.bool true)∧Below w1.heap.size w1 w')
  (st:ByteArray) (HW: ∀w1,Calls Tryz.prog 158 #[ylV R D L G gr (sz:Int) (ex:Int) fam F,yfV (sg0||ng) (se:Int) (sf:Int)] w1 fun z w'=>z= .returned (.string st)∧Below w1.heap.size w1 w') (hd:dn=0) (hp:p=0) (hn:ng=true):
  Calls Tryz.prog 100 #[ylV R D L G gr (sz:Int) (ex:Int) fam F,yvV c ng (.slice ao dn dc) p] w fun z w'=>z= .returned (.tuple #[.string st,yi 0])∧Below w.heap.size w w':=by
 subst hd hp hn;have HG':Hid _:=HG;have HW':Hid _:=HW;have hsf:=hsf_z;have bf:=below_alloc (w.alloc (.cells (ylL R D L G gr (sz:Int) (ex:Int) fam F).toArray 144)) (.cells (yvL c true (.slice ao 0 dc) 0).toArray 73);have l0:=(locE_new w (ylL R D L G gr (sz:Int) (ex:Int) fam F) 144).later bf;have m0:=locE_new (w.alloc (.cells (ylL R D L G gr (sz:Int) (ex:Int) fam F).toArray 144)) (yvL c true (.slice ao 0 dc) 0) 73;have b0:=below_trans (below_alloc w (.cells (ylL R D L G gr (sz:Int) (ex:Int) fam F).toArray 144)) bf;rw[World.size_alloc] at m0;have HS':Hid _:=HS;clear HS bf
 go_enter Tryz.func100,Tryz.ntmps100
 go_wp2_with fail
 refine(HS'.out _).mono ?_;rintro z w1 ⟨rfl,b1⟩;have bq:=below_alloc w1 (.cells (yfL sg0 (se:Int) (sf:Int)).toArray 147);have l1:=(l0.later b1).later bq;have m1:=(m0.later b1).later bq;have q1:=locE_new w1 (yfL sg0 (se:Int) (sf:Int)) 147;have b01:=below_trans (below_trans b0 b1) bq;obtain⟨x0,x1,x2,x3,x4,x5,x6,x7,x8⟩:=l1.cs9;obtain⟨u0,u1,u2,u3⟩:=m1.cs4;obtain⟨s0,s1,s2⟩:=q1.cs3;have hlw:w.heap.size<w1.heap.size:=(l0.later b1).lt;clear l0 m0 b0 b1 bq HS'
 go_wp2_with fail
 refine(HG'.out _).mono ?_;rintro z w2 ⟨rfl,b2⟩;have l2:=l1.later b2;have m2:=m1.later b2;have q2:=q1.later b2;have b02:=below_trans b01 b2;clear l1 m1 q1 b01 b2 x0 x1 x2 x3 x4 x5 x6 x7 x8 u0 u1 u2 u3 s0 s1 s2;obtain⟨x0,x1,x2,x3,x4,x5,x6,x7,x8⟩:=l2.cs9;obtain⟨u0,u1,u2,u3⟩:=m2.cs4;obtain⟨s0,s1,s2⟩:=q2.cs3;have k0:=q2.free 0;have hne0:w1.heap.size≠w.heap.size:=Nat.ne_of_gt hlw;have b03:=(but_set _ w1.heap.size 0 (.bool true)).below b02 (Nat.le_of_lt hlw);clear HW HG
 cases sg0
 all_goals go_wp2_with fail
 all_goals (refine(HW'.out _).mono ?_;rintro z w3 ⟨rfl,b3⟩;go_wp2;go_ret2;exact⟨rfl,below_trans b03 b3⟩)
def othE (k c dn:Nat) (ng:Bool) (p:Int):Int:=if spcOk k c=false then 5 else if 0<dn∨p≠0∨ng=true∧sgnOk k c=false then 4 else 0
def othS (k c dn:Nat) (ng:Bool) (p:Int):ByteArray:=if othE k c dn ng p=0 then strOf (wrtB k (spcG k c||ng) (spcE k c) (spcF k c)) else⟨#[]⟩
theorem spcE_small {k:Nat} (c:Nat) (hk:1≤k∧k≤8):spcE k c<65536:=by
 have h:onesN k<65536:=by rcases eight hk with rfl|rfl|rfl|rfl|rfl|rfl|rfl|rfl<;>decide
 unfold spcE
 split<;>omega
theorem spcF_small {k:Nat} (c:Nat) (hk:1≤k∧k≤8):spcF k c<18446744073709551616:=by
 have h1:wrN k<2^64:=by rcases eight hk with rfl|rfl|rfl|rfl|rfl|rfl|rfl|rfl<;>decide
 have h2:leadN k<2^64:=by rcases eight hk with rfl|rfl|rfl|rfl|rfl|rfl|rfl|rfl<;>decide
 unfold spcF
 split
 ·split
  ·exact h1
  ·split
   ·exact Nat.or_lt_two_pow (n:=64) h1 (by omega)
   ·omega
 ·omega
theorem encodeOther_any (k c:Nat) (hk:1≤k∧k≤8) (hc:c=1∨c=3∨c=4∨c=5) (ng:Bool) (ao:Option Addr) (dn dc:Nat) (p:Int) (w:World):
  Calls Tryz.prog 100 #[.agg (layV k).toArray,yvV (c:Int) ng (.slice ao dn dc) p] w fun z w'=>z= .returned (.tuple #[.string (othS k c dn ng p),yi (othE k c dn ng p)])∧Below w.heap.size w w':=by
 have HS:=fun w1=>special_any k c hk hc w1
 have HG:=fun w1=>signed_any k c hk hc w1
 have HW:=fun w1=>cwrite_any k hk (spcG k c||ng) (spcE k c) (spcF k c) w1 (spcE_small c hk) (spcF_small c hk)
 have key: ∀er,othE k c dn ng p=er→othS k c dn ng p=if er=0 then strOf (wrtB k (spcG k c||ng) (spcE k c) (spcF k c)) else⟨#[]⟩:=fun er h=>by unfold othS;rw[h]
 by_cases hok:spcOk k c=false
 ·have hE:othE k c dn ng p=5:=by unfold othE;rw[if_pos hok]
  rw[key 5 hE,hE,if_neg (by omega)];rw[hok] at HS;generalize spcG k c=sg0 at*;generalize spcE k c=se at*;generalize spcF k c=sf at*;clear HG HW key hE hok
  rcases eight hk with rfl|rfl|rfl|rfl|rfl|rfl|rfl|rfl
  all_goals exact other_none _ _ _ _ _ _ _ _ _ _ p ng ao dn dc sg0 se sf w HS
 ·have hok':spcOk k c=true:=by simpa using hok
  rw[hok'] at HS
  by_cases h1:0<dn
  ·have hE:othE k c dn ng p=4:=by unfold othE;rw[if_neg hok,if_pos (.inl h1)]
   rw[key 4 hE,hE,if_neg (by omega)];generalize spcG k c=sg0 at*;generalize spcE k c=se at*;generalize spcF k c=sf at*;clear HG HW key hE hok hok'
   rcases eight hk with rfl|rfl|rfl|rfl|rfl|rfl|rfl|rfl
   all_goals exact other_digits _ _ _ _ _ _ _ _ _ _ p ng ao dn dc sg0 se sf w HS h1
  ·have hd:dn=0:=by omega
   by_cases h2:p=0
   ·by_cases h3:ng=true∧sgnOk k c=false
    ·have hE:othE k c dn ng p=4:=by unfold othE;rw[if_neg hok,if_pos (.inr (.inr h3))]
     rw[key 4 hE,hE,if_neg (by omega)];rw[h3.2] at HG;have hng:=h3.1;generalize spcG k c=sg0 at*;generalize spcE k c=se at*;generalize spcF k c=sf at*;clear HW key hE hok hok' h3
     rcases eight hk with rfl|rfl|rfl|rfl|rfl|rfl|rfl|rfl
     all_goals exact other_sign _ _ _ _ _ _ _ _ _ _ p ng ao dn dc sg0 se sf w HS HG hd h2 hng
    ·have hE:othE k c dn ng p=0:=by
      unfold othE;rw[if_neg hok,if_neg];rintro(h|h|h)
      ·exact h1 h
      ·exact h h2
      ·exact h3 h
     rw[key 0 hE,hE,if_pos rfl];have hsg:ng=true→sgnOk k c=true:=fun h=>by
      cases hs:sgnOk k c
      ·exact absurd ⟨h,hs⟩ h3
      ·rfl
     generalize strOf (wrtB k (spcG k c||ng) (spcE k c) (spcF k c))=st at*
     generalize spcG k c=sg0 at*;generalize spcE k c=se at*;generalize spcF k c=sf at*;clear key hE hok hok' h3
     cases ng
     ·rcases eight hk with rfl|rfl|rfl|rfl|rfl|rfl|rfl|rfl
      all_goals exact other_ok0 _ _ _ _ _ _ _ _ _ _ p false ao dn dc sg0 se sf w HS st HW hd h2 rfl
     ·rw[hsg rfl] at HG
      rcases eight hk with rfl|rfl|rfl|rfl|rfl|rfl|rfl|rfl
      all_goals exact other_ok1 _ _ _ _ _ _ _ _ _ _ p true ao dn dc sg0 se sf w HS HG st HW hd h2 rfl
   ·have hE:othE k c dn ng p=4:=by unfold othE;rw[if_neg hok,if_pos (.inr (.inl h2))]
    rw[key 4 hE,hE,if_neg (by omega)];generalize spcG k c=sg0 at*;generalize spcE k c=se at*;generalize spcF k c=sf at*;clear HG HW key hE hok hok'
    rcases eight hk with rfl|rfl|rfl|rfl|rfl|rfl|rfl|rfl
    all_goals exact other_power _ _ _ _ _ _ _ _ _ _ p ng ao dn dc sg0 se sf w HS hd h2
end Go.Proofs.YtnhackdjplppjaaGreatDoor

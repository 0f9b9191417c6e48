/-
  Texts laid together: Co9, Co20.
-/
import Derived.Test.YtpgijbdgljkeeaaGreatDoorUx14
import Derived.Test.YtpgijbdgljkeeaaGreatDoorUx15
set_option maxRecDepth 100000
set_option maxHeartbeats 3200000
namespace Go.Proofs.YtpgijbdgljkeeaaGreatDoor
open _root_.Go.Proofs.Tryz
open Go.RowKit
theorem L6 (R D L G sz ex fam fr:Int)(gr:Bool)(F:Nat)(w:World)(hlt:fr<D)
  (HF:yJ 154 #[ylV R D L G gr sz ex fam F] (yi fr)):
  yC 192 #[ylV R D L G gr sz ex fam F] w (yR w (.int .u64 0)):=by
 have hsf:=cD;replace HF:Hid _:=HF;have l0:=ah w (ylL R D L G gr sz ex fam F) 124;have b0:=af w (.cells (ylA R D L G gr sz ex fam F) 124);obtain⟨x0,x1,x2,x3,x4,x5,x6,x7,x8⟩:=l0.cs9
 go_enter func192,ntmps192
 go_wp2_with fail
 go_region_held3 (fun wq=>wq.cell? ⟨w.heap.size,0,none⟩=some (yi R)∧wq.cell? ⟨w.heap.size,1,none⟩=some (yi D)∧wq.cell? ⟨w.heap.size,2,none⟩=some (yi L)∧wq.cell? ⟨w.heap.size,3,none⟩=some (yi G)∧wq.cell? ⟨w.heap.size,4,none⟩=some (.bool gr)∧wq.cell? ⟨w.heap.size,5,none⟩=some (yi sz)∧wq.cell? ⟨w.heap.size,6,none⟩=some (yi ex)∧wq.cell? ⟨w.heap.size,7,none⟩=some (yi fam)∧wq.cell? ⟨w.heap.size,8,none⟩=some (.func (.func F) #[] #[])) (go_keep) (first
  | (go_at_call 154;refine(HF.out _).mono ?_;rintro z w2 ⟨rfl,b2⟩;have l2:=l0.drew.l b2;obtain⟨y0,y1,y2,y3,y4,y5,y6,y7,y8⟩:=l2.cs9))
 all_goals go_wp2
 all_goals go_ret
 all_goals exact⟨rfl,aa b0.drew b2⟩
theorem L7 (R D L G sz ex fam fr ld:Int)(gr:Bool)(F:Nat)(w:World)(hlt: ¬fr<D)
  (HF:yJ 154 #[ylV R D L G gr sz ex fam F] (yi fr))
  (HL:yJ 155 #[ylV R D L G gr sz ex fam F] (.int .u64 ld)):
  yC 192 #[ylV R D L G gr sz ex fam F] w (yR w (.int .u64 ld)):=by
 have hsf:=cD;replace HF:Hid _:=HF;replace HL:Hid _:=HL;have l0:=ah w (ylL R D L G gr sz ex fam F) 124;have b0:=af w (.cells (ylA R D L G gr sz ex fam F) 124);obtain⟨x0,x1,x2,x3,x4,x5,x6,x7,x8⟩:=l0.cs9
 go_enter func192,ntmps192
 go_wp2_with fail
 go_region_held3 (fun wq=>wq.cell? ⟨w.heap.size,0,none⟩=some (yi R)∧wq.cell? ⟨w.heap.size,1,none⟩=some (yi D)∧wq.cell? ⟨w.heap.size,2,none⟩=some (yi L)∧wq.cell? ⟨w.heap.size,3,none⟩=some (yi G)∧wq.cell? ⟨w.heap.size,4,none⟩=some (.bool gr)∧wq.cell? ⟨w.heap.size,5,none⟩=some (yi sz)∧wq.cell? ⟨w.heap.size,6,none⟩=some (yi ex)∧wq.cell? ⟨w.heap.size,7,none⟩=some (yi fam)∧wq.cell? ⟨w.heap.size,8,none⟩=some (.func (.func F) #[] #[])) (go_keep) (first
  | (go_at_call 154;refine(HF.out _).mono ?_;rintro z w2 ⟨rfl,b2⟩;have l2:=l0.drew.l b2;obtain⟨y0,y1,y2,y3,y4,y5,y6,y7,y8⟩:=l2.cs9))
 all_goals go_wp2_with fail
 all_goals (refine(HL.out _).mono ?_;rintro z w3 ⟨rfl,b3⟩;go_wp2;go_ret;exact⟨rfl,aa (aa b0.drew b2) b3⟩)
theorem MN (R D L G:Int)(gr:Bool)(sz ex:Nat)(F:Nat)(w:World)(on wr:Nat)
  (Hones:yJ 191 #[ylV R D L G gr sz ex 1 F] (yi on))
  (Hwritten:yJ 192 #[ylV R D L G gr sz ex 1 F] (.int .u64 wr)):yC 148 #[ylV R D L G gr sz ex 1 F,yi 3] w (yR w (.tuple #[yfV false on wr,.bool true])):=by
 have hsf:=cD;have bf:=af (w.alloc (.cells (ylA R D L G gr sz ex 1 F) 124)) (.cells (yfA false 0 0) 127);have l0:=(ah w (ylL R D L G gr sz ex 1 F) 124).l bf;have m0:=ah (w.alloc (.cells (ylA R D L G gr sz ex 1 F) 124)) (yfL false 0 0) 127;have b0:=aa (af w (.cells (ylA R D L G gr sz ex 1 F) 124)) bf;rw[World.size_alloc] at m0;clear bf;obtain⟨x0,x1,x2,x3,x4,x5,x6,x7,x8⟩:=l0.cs9;obtain⟨u0,u1,u2⟩:=m0.cs3;have j0:=m0.f 0;have j1:=m0.f 1;have j2:=m0.f 2;have Hones':Hid _:=Hones;have Hwritten':Hid _:=Hwritten;have CX:XU w (ylL R D L G gr sz ex 1 F) _:=⟨l0.drew,m0.drew,b0.drew⟩;clear l0 m0 b0 Hones Hwritten
 go_enter func148,ntmps148
 go_wp2_with fail
 go_region_held3 (fun wq=>wq.cell? ⟨w.heap.size,0,none⟩=some (yi R)∧wq.cell? ⟨w.heap.size,1,none⟩=some (yi D)∧wq.cell? ⟨w.heap.size,2,none⟩=some (yi L)∧wq.cell? ⟨w.heap.size,3,none⟩=some (yi G)∧wq.cell? ⟨w.heap.size,4,none⟩=some (.bool gr)∧wq.cell? ⟨w.heap.size,5,none⟩=some (yi sz)∧wq.cell? ⟨w.heap.size,6,none⟩=some (yi ex)∧wq.cell? ⟨w.heap.size,7,none⟩=some (yi 1)∧wq.cell? ⟨w.heap.size,8,none⟩=some (.func (.func F) #[] #[])) (go_keep) (first
  | (go_at_call 191;refine(Hones'.out _).mono ?_;rintro z wones ⟨rfl,bb⟩;have CY:=CX.l bb;clear CX;have CX:=CY;clear CY bb;obtain⟨lq,mq,-⟩:=id CX;obtain⟨x0,x1,x2,x3,x4,x5,x6,x7,x8⟩:=lq.cs9;obtain⟨u0,u1,u2⟩:=mq.cs3;have j0:=mq.f 0;have j1:=mq.f 1;have j2:=mq.f 2;clear lq mq)
  | (go_at_call 192;refine(Hwritten'.out _).mono ?_;rintro z wwritten ⟨rfl,bb⟩;have CY:=CX.l bb;clear CX;have CX:=CY;clear CY bb;obtain⟨lq,mq,-⟩:=id CX;obtain⟨x0,x1,x2,x3,x4,x5,x6,x7,x8⟩:=lq.cs9;obtain⟨u0,u1,u2⟩:=mq.cs3;have j0:=mq.f 0;have j1:=mq.f 1;have j2:=mq.f 2;clear lq mq))
 have mz:=CX.m;have bz:=CX.b;have bu:=((ag wwritten (w.heap.size+1) 0 (.bool false)).trans (ag _ (w.heap.size+1) 1 (yi on))).trans (ag _ (w.heap.size+1) 2 (.int .u64 wr));have cR:au (((wwritten.setCell ⟨w.heap.size+1,0,none⟩ (.bool false)).setCell ⟨w.heap.size+1,1,none⟩ (yi on)).setCell ⟨w.heap.size+1,2,none⟩ (.int .u64 wr)) (w.heap.size+1) 127 (yfL false on wr):=(((mz.set 0 (.bool false)).set 1 (yi on)).set 2 (.int .u64 wr));have bR:=bu.below bz (by omega);have hl:=run_loadVar_mid (P:=Tryz.prog) _ (w.heap.size+1) 0 127 (yfL false on wr) _ cR.range underlying127 rfl (by kernel_rfl);have HH:Hid (_∧_):=⟨hl,bR⟩;clear hl bR cR bu;clear mz bz CX
 go_wp2
 obtain⟨hl,bR⟩:=HH.out;exact bodyPost_ret (aj results148 rfl rfl hl) rfl ⟨rfl,bR⟩
theorem MO (R D L G:Int)(gr:Bool)(sz ex:Nat)(F:Nat)(w:World)(on wr ld:Nat)(hwl:wr<18446744073709551616)(hld:ld<18446744073709551616)
  (Hones:yJ 191 #[ylV R D L G gr sz ex 1 F] (yi on))
  (Hwritten:yJ 192 #[ylV R D L G gr sz ex 1 F] (.int .u64 wr))
  (Hlead:yJ 155 #[ylV R D L G gr sz ex 1 F] (.int .u64 ld)):yC 148 #[ylV R D L G gr sz ex 1 F,yi 4] w (yR w (.tuple #[yfV false on ((wr|||ld/2:Nat):Int),.bool true])):=by
 have hsf:=cD;have bf:=af (w.alloc (.cells (ylA R D L G gr sz ex 1 F) 124)) (.cells (yfA false 0 0) 127);have l0:=(ah w (ylL R D L G gr sz ex 1 F) 124).l bf;have m0:=ah (w.alloc (.cells (ylA R D L G gr sz ex 1 F) 124)) (yfL false 0 0) 127;have b0:=aa (af w (.cells (ylA R D L G gr sz ex 1 F) 124)) bf;rw[World.size_alloc] at m0;clear bf;obtain⟨x0,x1,x2,x3,x4,x5,x6,x7,x8⟩:=l0.cs9;obtain⟨u0,u1,u2⟩:=m0.cs3;have j0:=m0.f 0;have j1:=m0.f 1;have j2:=m0.f 2;have Hones':Hid _:=Hones;have Hwritten':Hid _:=Hwritten;have Hlead':Hid _:=Hlead;have hor:bits .or .u64 wr ((ld/2:Nat):Int)=((wr|||ld/2:Nat):Int):=u64_or_nat wr (ld/2) hwl (by omega)
 have hhf:(ld:Int)/2=((ld/2:Nat):Int):=by omega
 obtain⟨fr,hfr⟩: ∃x,wr|||ld/2=x:=⟨_,rfl⟩
 rw[hfr] at hor⊢;generalize ld/2=lh at*;clear hfr;have CX:XU w (ylL R D L G gr sz ex 1 F) _:=⟨l0.drew,m0.drew,b0.drew⟩;clear l0 m0 b0 Hones Hwritten Hlead
 go_enter func148,ntmps148
 go_wp2_with fail
 go_region_held3 (fun wq=>wq.cell? ⟨w.heap.size,0,none⟩=some (yi R)∧wq.cell? ⟨w.heap.size,1,none⟩=some (yi D)∧wq.cell? ⟨w.heap.size,2,none⟩=some (yi L)∧wq.cell? ⟨w.heap.size,3,none⟩=some (yi G)∧wq.cell? ⟨w.heap.size,4,none⟩=some (.bool gr)∧wq.cell? ⟨w.heap.size,5,none⟩=some (yi sz)∧wq.cell? ⟨w.heap.size,6,none⟩=some (yi ex)∧wq.cell? ⟨w.heap.size,7,none⟩=some (yi 1)∧wq.cell? ⟨w.heap.size,8,none⟩=some (.func (.func F) #[] #[])) (go_keep) (first
  | (go_at_call 191;refine(Hones'.out _).mono ?_;rintro z wones ⟨rfl,bb⟩;have CY:=CX.l bb;clear CX;have CX:=CY;clear CY bb;obtain⟨lq,mq,-⟩:=id CX;obtain⟨x0,x1,x2,x3,x4,x5,x6,x7,x8⟩:=lq.cs9;obtain⟨u0,u1,u2⟩:=mq.cs3;have j0:=mq.f 0;have j1:=mq.f 1;have j2:=mq.f 2;clear lq mq)
  | (go_at_call 192;refine(Hwritten'.out _).mono ?_;rintro z wwritten ⟨rfl,bb⟩;have CY:=CX.l bb;clear CX;have CX:=CY;clear CY bb;obtain⟨lq,mq,-⟩:=id CX;obtain⟨x0,x1,x2,x3,x4,x5,x6,x7,x8⟩:=lq.cs9;obtain⟨u0,u1,u2⟩:=mq.cs3;have j0:=mq.f 0;have j1:=mq.f 1;have j2:=mq.f 2;clear lq mq)
  | (go_at_call 155;refine(Hlead'.out _).mono ?_;rintro z wlead ⟨rfl,bb⟩;have CY:=CX.l bb;clear CX;have CX:=CY;clear CY bb;obtain⟨lq,mq,-⟩:=id CX;obtain⟨x0,x1,x2,x3,x4,x5,x6,x7,x8⟩:=lq.cs9;obtain⟨u0,u1,u2⟩:=mq.cs3;have j0:=mq.f 0;have j1:=mq.f 1;have j2:=mq.f 2;clear lq mq))
 have mz:=CX.m;have bz:=CX.b;have bu:=((ag wlead (w.heap.size+1) 0 (.bool false)).trans (ag _ (w.heap.size+1) 1 (yi on))).trans (ag _ (w.heap.size+1) 2 (.int .u64 (fr:Int)));have cR:au (((wlead.setCell ⟨w.heap.size+1,0,none⟩ (.bool false)).setCell ⟨w.heap.size+1,1,none⟩ (yi on)).setCell ⟨w.heap.size+1,2,none⟩ (.int .u64 (fr:Int))) (w.heap.size+1) 127 (yfL false on (fr:Int)):=(((mz.set 0 (.bool false)).set 1 (yi on)).set 2 (.int .u64 (fr:Int)));have bR:=bu.below bz (by omega);have hl:=run_loadVar_mid (P:=Tryz.prog) _ (w.heap.size+1) 0 127 (yfL false on (fr:Int)) _ cR.range underlying127 rfl (by kernel_rfl);have HH:Hid (_∧_):=⟨hl,bR⟩;clear hl bR cR bu;clear mz bz CX
 go_wp2
 obtain⟨hl,bR⟩:=HH.out;exact bodyPost_ret (aj results148 rfl rfl hl) rfl ⟨rfl,bR⟩
end Go.Proofs.YtpgijbdgljkeeaaGreatDoor

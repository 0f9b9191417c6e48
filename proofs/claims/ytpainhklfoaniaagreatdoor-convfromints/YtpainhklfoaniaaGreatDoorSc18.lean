/-
  Texts laid together: Co20.
-/
import Derived.Test.YtpainhklfoaniaaGreatDoorSc07
set_option maxRecDepth 100000
set_option maxHeartbeats 3200000
namespace Go.Proofs.YtpainhklfoaniaaGreatDoor
open _root_.Go.Proofs.Tryz
open Go.RowKit
structure XU (w:World) (lv:List Value) (w':World):Prop where
 ly:au w' w.heap.size 131 lv
 m:au w' (w.heap.size+1) 133 (yfL false 0 0)
 b:yB w w'
theorem XU.l {w w1 w2:World}{lv:List Value}(h:XU w lv w1)(b:yB w1 w2):XU w lv w2:=⟨h.ly.l b,h.m.l b,aa h.b b⟩
theorem Ku (R D L G fam:Int)(gr:Bool)(sz ex:Nat)(F:Nat)(w:World):yC 100 #[ylV R D L G gr sz ex fam F,yi 1] w (yR w (.tuple #[yfV false 0 0,.bool true])):=by
 have hsf:=cD;have bf:=af (w.alloc (.cells (ylA R D L G gr sz ex fam F) 131)) (.cells (yfA false 0 0) 133);have l0:=(ah w (ylL R D L G gr sz ex fam F) 131).l bf;have m0:=ah (w.alloc (.cells (ylA R D L G gr sz ex fam F) 131)) (yfL false 0 0) 133;have b0:=aa (af w (.cells (ylA R D L G gr sz ex fam F) 131)) bf;rw[World.size_alloc] at m0;clear bf;obtain⟨x0,x1,x2,x3,x4,x5,x6,x7,x8⟩:=l0.cs9;obtain⟨u0,u1,u2⟩:=m0.cs3;have j0:=m0.f 0;have j1:=m0.f 1;have j2:=m0.f 2;have cR:=ah (w.alloc (.cells (ylA R D L G gr sz ex fam F) 131)) (yfL false 0 0) 133;rw[World.size_alloc] at cR;have bR:=aa (af w (.cells (ylA R D L G gr sz ex fam F) 131)) (af _ (.cells (yfA false 0 0) 133));have hl:=run_loadVar_mid (P:=Tryz.prog) _ (w.heap.size+1) 0 133 (yfL false 0 0) _ cR.range underlying133 rfl (by kernel_rfl);have HH:Hid (_∧_):=⟨hl,bR⟩;clear hl bR cR
 go_enter func100,ntmps100
 go_wp2
 obtain⟨hl,bR⟩:=HH.out;exact bodyPost_ret (aj results100 rfl rfl hl) rfl ⟨rfl,bR⟩
theorem MJ (R D L G fam:Int)(gr:Bool)(sz ex:Nat)(F:Nat)(w:World)(hfa:(fam==1)=false):yC 100 #[ylV R D L G gr sz ex fam F,yi 3] w (yR w (.tuple #[yfV false 0 0,.bool false])):=by
 have hsf:=cD;have bf:=af (w.alloc (.cells (ylA R D L G gr sz ex fam F) 131)) (.cells (yfA false 0 0) 133);have l0:=(ah w (ylL R D L G gr sz ex fam F) 131).l bf;have m0:=ah (w.alloc (.cells (ylA R D L G gr sz ex fam F) 131)) (yfL false 0 0) 133;have b0:=aa (af w (.cells (ylA R D L G gr sz ex fam F) 131)) bf;rw[World.size_alloc] at m0;clear bf;obtain⟨x0,x1,x2,x3,x4,x5,x6,x7,x8⟩:=l0.cs9;obtain⟨u0,u1,u2⟩:=m0.cs3;have j0:=m0.f 0;have j1:=m0.f 1;have j2:=m0.f 2;have cR:=ah (w.alloc (.cells (ylA R D L G gr sz ex fam F) 131)) (yfL false 0 0) 133;rw[World.size_alloc] at cR;have bR:=aa (af w (.cells (ylA R D L G gr sz ex fam F) 131)) (af _ (.cells (yfA false 0 0) 133));have hl:=run_loadVar_mid (P:=Tryz.prog) _ (w.heap.size+1) 0 133 (yfL false 0 0) _ cR.range underlying133 rfl (by kernel_rfl);have HH:Hid (_∧_):=⟨hl,bR⟩;clear hl bR cR
 go_enter func100,ntmps100
 go_wp2
 obtain⟨hl,bR⟩:=HH.out;exact bodyPost_ret (aj results100 rfl rfl hl) rfl ⟨rfl,bR⟩
theorem MK (R D L G fam:Int)(gr:Bool)(sz ex:Nat)(F:Nat)(w:World)(hfa:(fam==1)=false):yC 100 #[ylV R D L G gr sz ex fam F,yi 4] w (yR w (.tuple #[yfV false 0 0,.bool false])):=by
 have hsf:=cD;have bf:=af (w.alloc (.cells (ylA R D L G gr sz ex fam F) 131)) (.cells (yfA false 0 0) 133);have l0:=(ah w (ylL R D L G gr sz ex fam F) 131).l bf;have m0:=ah (w.alloc (.cells (ylA R D L G gr sz ex fam F) 131)) (yfL false 0 0) 133;have b0:=aa (af w (.cells (ylA R D L G gr sz ex fam F) 131)) bf;rw[World.size_alloc] at m0;clear bf;obtain⟨x0,x1,x2,x3,x4,x5,x6,x7,x8⟩:=l0.cs9;obtain⟨u0,u1,u2⟩:=m0.cs3;have j0:=m0.f 0;have j1:=m0.f 1;have j2:=m0.f 2;have cR:=ah (w.alloc (.cells (ylA R D L G gr sz ex fam F) 131)) (yfL false 0 0) 133;rw[World.size_alloc] at cR;have bR:=aa (af w (.cells (ylA R D L G gr sz ex fam F) 131)) (af _ (.cells (yfA false 0 0) 133));have hl:=run_loadVar_mid (P:=Tryz.prog) _ (w.heap.size+1) 0 133 (yfL false 0 0) _ cR.range underlying133 rfl (by kernel_rfl);have HH:Hid (_∧_):=⟨hl,bR⟩;clear hl bR cR
 go_enter func100,ntmps100
 go_wp2
 obtain⟨hl,bR⟩:=HH.out;exact bodyPost_ret (aj results100 rfl rfl hl) rfl ⟨rfl,bR⟩
theorem ML (R D L G fam:Int)(gr:Bool)(sz ex:Nat)(F:Nat)(w:World)(hfa:(fam==3)=false):yC 100 #[ylV R D L G gr sz ex fam F,yi 5] w (yR w (.tuple #[yfV false 0 0,.bool false])):=by
 have hsf:=cD;have bf:=af (w.alloc (.cells (ylA R D L G gr sz ex fam F) 131)) (.cells (yfA false 0 0) 133);have l0:=(ah w (ylL R D L G gr sz ex fam F) 131).l bf;have m0:=ah (w.alloc (.cells (ylA R D L G gr sz ex fam F) 131)) (yfL false 0 0) 133;have b0:=aa (af w (.cells (ylA R D L G gr sz ex fam F) 131)) bf;rw[World.size_alloc] at m0;clear bf;obtain⟨x0,x1,x2,x3,x4,x5,x6,x7,x8⟩:=l0.cs9;obtain⟨u0,u1,u2⟩:=m0.cs3;have j0:=m0.f 0;have j1:=m0.f 1;have j2:=m0.f 2;have cR:=ah (w.alloc (.cells (ylA R D L G gr sz ex fam F) 131)) (yfL false 0 0) 133;rw[World.size_alloc] at cR;have bR:=aa (af w (.cells (ylA R D L G gr sz ex fam F) 131)) (af _ (.cells (yfA false 0 0) 133));have hl:=run_loadVar_mid (P:=Tryz.prog) _ (w.heap.size+1) 0 133 (yfL false 0 0) _ cR.range underlying133 rfl (by kernel_rfl);have HH:Hid (_∧_):=⟨hl,bR⟩;clear hl bR cR
 go_enter func100,ntmps100
 go_wp2
 obtain⟨hl,bR⟩:=HH.out;exact bodyPost_ret (aj results100 rfl rfl hl) rfl ⟨rfl,bR⟩
theorem MM (R D L G fam:Int)(gr:Bool)(sz ex:Nat)(F:Nat)(w:World)(hfa:fam=3):yC 100 #[ylV R D L G gr sz ex fam F,yi 5] w (yR w (.tuple #[yfV true 0 0,.bool true])):=by
 subst hfa;have hsf:=cD;have bf:=af (w.alloc (.cells (ylA R D L G gr sz ex 3 F) 131)) (.cells (yfA false 0 0) 133);have l0:=(ah w (ylL R D L G gr sz ex 3 F) 131).l bf;have m0:=ah (w.alloc (.cells (ylA R D L G gr sz ex 3 F) 131)) (yfL false 0 0) 133;have b0:=aa (af w (.cells (ylA R D L G gr sz ex 3 F) 131)) bf;rw[World.size_alloc] at m0;clear bf;obtain⟨x0,x1,x2,x3,x4,x5,x6,x7,x8⟩:=l0.cs9;obtain⟨u0,u1,u2⟩:=m0.cs3;have j0:=m0.f 0;have j1:=m0.f 1;have j2:=m0.f 2;have cR:=ah (w.alloc (.cells (ylA R D L G gr sz ex 3 F) 131)) (yfL true 0 0) 133;rw[World.size_alloc] at cR;have bR:=aa (af w (.cells (ylA R D L G gr sz ex 3 F) 131)) (af _ (.cells (yfA true 0 0) 133));have hl:=run_loadVar_mid (P:=Tryz.prog) _ (w.heap.size+1) 0 133 (yfL true 0 0) _ cR.range underlying133 rfl (by kernel_rfl);have HH:Hid (_∧_):=⟨hl,bR⟩;clear hl bR cR
 go_enter func100,ntmps100
 go_wp2
 obtain⟨hl,bR⟩:=HH.out;exact bodyPost_ret (aj results100 rfl rfl hl) rfl ⟨rfl,bR⟩
theorem MN (R D L G:Int)(gr:Bool)(sz ex:Nat)(F:Nat)(w:World)(on wr:Nat)
  (Hones:yJ 138 #[ylV R D L G gr sz ex 1 F] (yi on))
  (Hwritten:yJ 139 #[ylV R D L G gr sz ex 1 F] (.int .u64 wr)):yC 100 #[ylV R D L G gr sz ex 1 F,yi 3] w (yR w (.tuple #[yfV false on wr,.bool true])):=by
 have hsf:=cD;have bf:=af (w.alloc (.cells (ylA R D L G gr sz ex 1 F) 131)) (.cells (yfA false 0 0) 133);have l0:=(ah w (ylL R D L G gr sz ex 1 F) 131).l bf;have m0:=ah (w.alloc (.cells (ylA R D L G gr sz ex 1 F) 131)) (yfL false 0 0) 133;have b0:=aa (af w (.cells (ylA R D L G gr sz ex 1 F) 131)) bf;rw[World.size_alloc] at m0;clear bf;obtain⟨x0,x1,x2,x3,x4,x5,x6,x7,x8⟩:=l0.cs9;obtain⟨u0,u1,u2⟩:=m0.cs3;have j0:=m0.f 0;have j1:=m0.f 1;have j2:=m0.f 2;have Hones':Hid _:=Hones;have Hwritten':Hid _:=Hwritten;have CX:XU w (ylL R D L G gr sz ex 1 F) _:=⟨l0.drew,m0.drew,b0.drew⟩;clear l0 m0 b0 Hones Hwritten
 go_enter func100,ntmps100
 go_wp2_with fail
 go_region_held3 (fun wq=>wq.cell? ⟨w.heap.size,0,none⟩=some (yi R)∧wq.cell? ⟨w.heap.size,1,none⟩=some (yi D)∧wq.cell? ⟨w.heap.size,2,none⟩=some (yi L)∧wq.cell? ⟨w.heap.size,3,none⟩=some (yi G)∧wq.cell? ⟨w.heap.size,4,none⟩=some (.bool gr)∧wq.cell? ⟨w.heap.size,5,none⟩=some (yi sz)∧wq.cell? ⟨w.heap.size,6,none⟩=some (yi ex)∧wq.cell? ⟨w.heap.size,7,none⟩=some (yi 1)∧wq.cell? ⟨w.heap.size,8,none⟩=some (.func (.func F) #[] #[])) (go_keep) (first
  | (go_at_call 138;refine(Hones'.out _).mono ?_;rintro z wones ⟨rfl,bb⟩;have CY:=CX.l bb;clear CX;have CX:=CY;clear CY bb;obtain⟨lq,mq,-⟩:=id CX;obtain⟨x0,x1,x2,x3,x4,x5,x6,x7,x8⟩:=lq.cs9;obtain⟨u0,u1,u2⟩:=mq.cs3;have j0:=mq.f 0;have j1:=mq.f 1;have j2:=mq.f 2;clear lq mq)
  | (go_at_call 139;refine(Hwritten'.out _).mono ?_;rintro z wwritten ⟨rfl,bb⟩;have CY:=CX.l bb;clear CX;have CX:=CY;clear CY bb;obtain⟨lq,mq,-⟩:=id CX;obtain⟨x0,x1,x2,x3,x4,x5,x6,x7,x8⟩:=lq.cs9;obtain⟨u0,u1,u2⟩:=mq.cs3;have j0:=mq.f 0;have j1:=mq.f 1;have j2:=mq.f 2;clear lq mq))
 have mz:=CX.m;have bz:=CX.b;have bu:=((ag wwritten (w.heap.size+1) 0 (.bool false)).trans (ag _ (w.heap.size+1) 1 (yi on))).trans (ag _ (w.heap.size+1) 2 (.int .u64 wr));have cR:au (((wwritten.setCell ⟨w.heap.size+1,0,none⟩ (.bool false)).setCell ⟨w.heap.size+1,1,none⟩ (yi on)).setCell ⟨w.heap.size+1,2,none⟩ (.int .u64 wr)) (w.heap.size+1) 133 (yfL false on wr):=(((mz.set 0 (.bool false)).set 1 (yi on)).set 2 (.int .u64 wr));have bR:=bu.below bz (by omega);have hl:=run_loadVar_mid (P:=Tryz.prog) _ (w.heap.size+1) 0 133 (yfL false on wr) _ cR.range underlying133 rfl (by kernel_rfl);have HH:Hid (_∧_):=⟨hl,bR⟩;clear hl bR cR bu;clear mz bz CX
 go_wp2
 obtain⟨hl,bR⟩:=HH.out;exact bodyPost_ret (aj results100 rfl rfl hl) rfl ⟨rfl,bR⟩
theorem MO (R D L G:Int)(gr:Bool)(sz ex:Nat)(F:Nat)(w:World)(on wr ld:Nat)(hwl:wr<18446744073709551616)(hld:ld<18446744073709551616)
  (Hones:yJ 138 #[ylV R D L G gr sz ex 1 F] (yi on))
  (Hwritten:yJ 139 #[ylV R D L G gr sz ex 1 F] (.int .u64 wr))
  (Hlead:yJ 131 #[ylV R D L G gr sz ex 1 F] (.int .u64 ld)):yC 100 #[ylV R D L G gr sz ex 1 F,yi 4] w (yR w (.tuple #[yfV false on ((wr|||ld/2:Nat):Int),.bool true])):=by
 have hsf:=cD;have bf:=af (w.alloc (.cells (ylA R D L G gr sz ex 1 F) 131)) (.cells (yfA false 0 0) 133);have l0:=(ah w (ylL R D L G gr sz ex 1 F) 131).l bf;have m0:=ah (w.alloc (.cells (ylA R D L G gr sz ex 1 F) 131)) (yfL false 0 0) 133;have b0:=aa (af w (.cells (ylA R D L G gr sz ex 1 F) 131)) bf;rw[World.size_alloc] at m0;clear bf;obtain⟨x0,x1,x2,x3,x4,x5,x6,x7,x8⟩:=l0.cs9;obtain⟨u0,u1,u2⟩:=m0.cs3;have j0:=m0.f 0;have j1:=m0.f 1;have j2:=m0.f 2;have Hones':Hid _:=Hones;have Hwritten':Hid _:=Hwritten;have Hlead':Hid _:=Hlead;have hor:bits .or .u64 wr ((ld/2:Nat):Int)=((wr|||ld/2:Nat):Int):=u64_or_nat wr (ld/2) hwl (by omega)
 have hhf:(ld:Int)/2=((ld/2:Nat):Int):=by omega
 obtain⟨fr,hfr⟩: ∃x,wr|||ld/2=x:=⟨_,rfl⟩
 rw[hfr] at hor⊢;generalize ld/2=lh at*;clear hfr;have CX:XU w (ylL R D L G gr sz ex 1 F) _:=⟨l0.drew,m0.drew,b0.drew⟩;clear l0 m0 b0 Hones Hwritten Hlead
 go_enter func100,ntmps100
 go_wp2_with fail
 go_region_held3 (fun wq=>wq.cell? ⟨w.heap.size,0,none⟩=some (yi R)∧wq.cell? ⟨w.heap.size,1,none⟩=some (yi D)∧wq.cell? ⟨w.heap.size,2,none⟩=some (yi L)∧wq.cell? ⟨w.heap.size,3,none⟩=some (yi G)∧wq.cell? ⟨w.heap.size,4,none⟩=some (.bool gr)∧wq.cell? ⟨w.heap.size,5,none⟩=some (yi sz)∧wq.cell? ⟨w.heap.size,6,none⟩=some (yi ex)∧wq.cell? ⟨w.heap.size,7,none⟩=some (yi 1)∧wq.cell? ⟨w.heap.size,8,none⟩=some (.func (.func F) #[] #[])) (go_keep) (first
  | (go_at_call 138;refine(Hones'.out _).mono ?_;rintro z wones ⟨rfl,bb⟩;have CY:=CX.l bb;clear CX;have CX:=CY;clear CY bb;obtain⟨lq,mq,-⟩:=id CX;obtain⟨x0,x1,x2,x3,x4,x5,x6,x7,x8⟩:=lq.cs9;obtain⟨u0,u1,u2⟩:=mq.cs3;have j0:=mq.f 0;have j1:=mq.f 1;have j2:=mq.f 2;clear lq mq)
  | (go_at_call 139;refine(Hwritten'.out _).mono ?_;rintro z wwritten ⟨rfl,bb⟩;have CY:=CX.l bb;clear CX;have CX:=CY;clear CY bb;obtain⟨lq,mq,-⟩:=id CX;obtain⟨x0,x1,x2,x3,x4,x5,x6,x7,x8⟩:=lq.cs9;obtain⟨u0,u1,u2⟩:=mq.cs3;have j0:=mq.f 0;have j1:=mq.f 1;have j2:=mq.f 2;clear lq mq)
  | (go_at_call 131;refine(Hlead'.out _).mono ?_;rintro z wlead ⟨rfl,bb⟩;have CY:=CX.l bb;clear CX;have CX:=CY;clear CY bb;obtain⟨lq,mq,-⟩:=id CX;obtain⟨x0,x1,x2,x3,x4,x5,x6,x7,x8⟩:=lq.cs9;obtain⟨u0,u1,u2⟩:=mq.cs3;have j0:=mq.f 0;have j1:=mq.f 1;have j2:=mq.f 2;clear lq mq))
 have mz:=CX.m;have bz:=CX.b;have bu:=((ag wlead (w.heap.size+1) 0 (.bool false)).trans (ag _ (w.heap.size+1) 1 (yi on))).trans (ag _ (w.heap.size+1) 2 (.int .u64 (fr:Int)));have cR:au (((wlead.setCell ⟨w.heap.size+1,0,none⟩ (.bool false)).setCell ⟨w.heap.size+1,1,none⟩ (yi on)).setCell ⟨w.heap.size+1,2,none⟩ (.int .u64 (fr:Int))) (w.heap.size+1) 133 (yfL false on (fr:Int)):=(((mz.set 0 (.bool false)).set 1 (yi on)).set 2 (.int .u64 (fr:Int)));have bR:=bu.below bz (by omega);have hl:=run_loadVar_mid (P:=Tryz.prog) _ (w.heap.size+1) 0 133 (yfL false on (fr:Int)) _ cR.range underlying133 rfl (by kernel_rfl);have HH:Hid (_∧_):=⟨hl,bR⟩;clear hl bR cR bu;clear mz bz CX
 go_wp2
 obtain⟨hl,bR⟩:=HH.out;exact bodyPost_ret (aj results100 rfl rfl hl) rfl ⟨rfl,bR⟩
def iR (k c:Nat):Bool:=c==1||(c==3||c==4)&&decide (k≤3)||c==5&&decide (6≤k)
def pI (k c:Nat):Bool:=c==5&&decide (6≤k)
def pg (k c:Nat):Nat:=if(c=3∨c=4)∧k≤3 then kp k else 0
def lS (k c:Nat):Nat:=if k≤3 then(if c=3 then wrN k else if c=4 then wrN k|||gW k/2 else 0) else 0
theorem MP (k c:Nat)(hk:1≤k∧k≤8)(hc:c=1∨c=3∨c=4∨c=5)(w:World):
  yC 100 #[.agg (tS k).toArray,yi c] w (yR w (.tuple #[yfV (pI k c) ((pg k c:Nat):Int) ((lS k c:Nat):Int),.bool (iR k c)])):=by
 have HO:=fun w1=>jy k hk w1
 have HW:=fun w1=>gj k hk w1
 have HL:=fun w1=>xX k hk w1
 rcases hc with rfl|rfl|rfl|rfl
 ·rw[show pI k 1=false from rfl,show pg k 1=0 from if_neg (fun h=>by omega),show lS k 1=0 from by unfold lS;simp,show iR k 1=true from rfl]
  rcases bO hk with rfl|rfl|rfl|rfl|rfl|rfl|rfl|rfl
  all_goals exact Ku _ _ _ _ _ _ _ _ _ w
 ·rw[show pI k 3=false from rfl]
  by_cases h3:k≤3
  ·rw[show pg k 3=kp k from if_pos ⟨.inl rfl,h3⟩,show lS k 3=wrN k from by unfold lS;rw[if_pos h3,if_pos rfl],show iR k 3=true from by simp[iR,h3]]
   generalize kp k=on at*;generalize wrN k=wr at*
   rcases(by omega:k=1∨k=2∨k=3) with rfl|rfl|rfl
   all_goals exact MN _ _ _ _ _ _ _ _ w _ _ HO HW
  ·rw[show pg k 3=0 from if_neg (fun h=>h3 h.2),show lS k 3=0 from if_neg h3,show iR k 3=false from by simp[iR,h3]]
   rcases(by omega:k=4∨k=5∨k=6∨k=7∨k=8) with rfl|rfl|rfl|rfl|rfl
   all_goals exact MJ _ _ _ _ _ _ _ _ _ w rfl
 ·rw[show pI k 4=false from rfl]
  by_cases h3:k≤3
  ·rw[show pg k 4=kp k from if_pos ⟨.inr rfl,h3⟩,show lS k 4=wrN k|||gW k/2 from by unfold lS;rw[if_pos h3,if_neg (by omega),if_pos rfl],show iR k 4=true from by simp[iR,h3]]
   have hw:wrN k<18446744073709551616:=by rcases(by omega:k=1∨k=2∨k=3) with rfl|rfl|rfl<;>decide
   have hl:gW k<18446744073709551616:=by rcases(by omega:k=1∨k=2∨k=3) with rfl|rfl|rfl<;>decide
   generalize kp k=on at*;generalize wrN k=wr at*;generalize gW k=ld at*
   rcases(by omega:k=1∨k=2∨k=3) with rfl|rfl|rfl
   all_goals exact MO _ _ _ _ _ _ _ _ w _ _ _ hw hl HO HW HL
  ·rw[show pg k 4=0 from if_neg (fun h=>h3 h.2),show lS k 4=0 from if_neg h3,show iR k 4=false from by simp[iR,h3]]
   rcases(by omega:k=4∨k=5∨k=6∨k=7∨k=8) with rfl|rfl|rfl|rfl|rfl
   all_goals exact MK _ _ _ _ _ _ _ _ _ w rfl
 ·rw[show pg k 5=0 from if_neg (fun h=>by omega),show lS k 5=0 from by unfold lS;simp]
  by_cases h6:6≤k
  ·rw[show pI k 5=true from by simp[pI,h6],show iR k 5=true from by simp[iR,h6]]
   rcases(by omega:k=6∨k=7∨k=8) with rfl|rfl|rfl
   all_goals exact MM _ _ _ _ _ _ _ _ _ w rfl
  ·rw[show pI k 5=false from by simp[pI,h6],show iR k 5=false from by simp[iR,h6]]
   rcases(by omega:k=1∨k=2∨k=3∨k=4∨k=5) with rfl|rfl|rfl|rfl|rfl
   all_goals exact ML _ _ _ _ _ _ _ _ _ w rfl
def Bk (k c:Nat):Bool:=c==3||c==1&&decide (k≤5)
theorem MQ (R D L G fam:Int)(gr:Bool)(sz ex:Nat)(F:Nat)(c:Int)(q3 q1 qf:Bool)(w:World)(h3:(c==3)=q3)(h1:(c==1)=q1)(hf:(fam != 3)=qf):yC 101 #[ylV R D L G gr sz ex fam F,yi c] w (yR w (.bool (q3||q1&&qf))):=by
 have hsf:=cD;have b0:=af w (.cells (ylA R D L G gr sz ex fam F) 131)
 cases q3<;>cases q1<;>cases qf
 all_goals go_enter func101,ntmps101
 all_goals go_wp2
 all_goals go_ret
 all_goals exact⟨rfl,b0⟩
theorem Qa (k c:Nat)(hk:1≤k∧k≤8)(hc:c=1∨c=3∨c=4∨c=5)(w:World):
  yC 101 #[.agg (tS k).toArray,yi c] w (yR w (.bool (Bk k c))):=by
 rcases bO hk with rfl|rfl|rfl|rfl|rfl|rfl|rfl|rfl
 all_goals rcases hc with rfl|rfl|rfl|rfl
 all_goals first
  |exact MQ _ _ _ _ _ _ _ _ _ _ _ _ true w rfl rfl rfl
  |exact MQ _ _ _ _ _ _ _ _ _ _ _ _ false w rfl rfl rfl
end Go.Proofs.YtpainhklfoaniaaGreatDoor

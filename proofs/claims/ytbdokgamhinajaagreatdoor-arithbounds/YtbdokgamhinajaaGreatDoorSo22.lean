/-
  Texts laid together: Co20, Co21.
-/
import Derived.Test.YtbdokgamhinajaaGreatDoorSo21
set_option maxRecDepth 100000
set_option maxHeartbeats 3200000
namespace Go.Proofs.YtbdokgamhinajaaGreatDoor
open _root_.Go.Proofs.Tryz
open Go.RowKit
structure XU (w:World) (lv:List Value) (w':World):Prop where
 ly:au w' w.heap.size 170 lv
 m:au w' (w.heap.size+1) 208 (yfL false 0 0)
 b:yB w w'
theorem XU.l {w w1 w2:World}{lv:List Value}(h:XU w lv w1)(b:yB w1 w2):XU w lv w2:=⟨h.ly.l b,h.m.l b,aa h.b b⟩
theorem Ku (R D L G fam:Int)(gr:Bool)(sz ex:Nat)(F:Nat)(w:World):yC 158 #[ylV R D L G gr sz ex fam F,yi 1] w (yR w (.tuple #[yfV false 0 0,.bool true])):=by
 have hsf:=cD;have bf:=af (w.alloc (.cells (ylA R D L G gr sz ex fam F) 170)) (.cells (yfA false 0 0) 208);have l0:=(ah w (ylL R D L G gr sz ex fam F) 170).l bf;have m0:=ah (w.alloc (.cells (ylA R D L G gr sz ex fam F) 170)) (yfL false 0 0) 208;have b0:=aa (af w (.cells (ylA R D L G gr sz ex fam F) 170)) bf;rw[World.size_alloc] at m0;clear bf;obtain⟨x0,x1,x2,x3,x4,x5,x6,x7,x8⟩:=l0.cs9;obtain⟨u0,u1,u2⟩:=m0.cs3;have j0:=m0.f 0;have j1:=m0.f 1;have j2:=m0.f 2;have cR:=ah (w.alloc (.cells (ylA R D L G gr sz ex fam F) 170)) (yfL false 0 0) 208;rw[World.size_alloc] at cR;have bR:=aa (af w (.cells (ylA R D L G gr sz ex fam F) 170)) (af _ (.cells (yfA false 0 0) 208));have hl:=run_loadVar_mid (P:=Tryz.prog) _ (w.heap.size+1) 0 208 (yfL false 0 0) _ cR.range underlying208 rfl (by kernel_rfl);have HH:Hid (_∧_):=⟨hl,bR⟩;clear hl bR cR
 go_enter func158,ntmps158
 go_wp2
 obtain⟨hl,bR⟩:=HH.out;exact bodyPost_ret (aj results158 rfl rfl hl) rfl ⟨rfl,bR⟩
theorem MJ (R D L G fam:Int)(gr:Bool)(sz ex:Nat)(F:Nat)(w:World)(hfa:(fam==1)=false):yC 158 #[ylV R D L G gr sz ex fam F,yi 3] w (yR w (.tuple #[yfV false 0 0,.bool false])):=by
 have hsf:=cD;have bf:=af (w.alloc (.cells (ylA R D L G gr sz ex fam F) 170)) (.cells (yfA false 0 0) 208);have l0:=(ah w (ylL R D L G gr sz ex fam F) 170).l bf;have m0:=ah (w.alloc (.cells (ylA R D L G gr sz ex fam F) 170)) (yfL false 0 0) 208;have b0:=aa (af w (.cells (ylA R D L G gr sz ex fam F) 170)) bf;rw[World.size_alloc] at m0;clear bf;obtain⟨x0,x1,x2,x3,x4,x5,x6,x7,x8⟩:=l0.cs9;obtain⟨u0,u1,u2⟩:=m0.cs3;have j0:=m0.f 0;have j1:=m0.f 1;have j2:=m0.f 2;have cR:=ah (w.alloc (.cells (ylA R D L G gr sz ex fam F) 170)) (yfL false 0 0) 208;rw[World.size_alloc] at cR;have bR:=aa (af w (.cells (ylA R D L G gr sz ex fam F) 170)) (af _ (.cells (yfA false 0 0) 208));have hl:=run_loadVar_mid (P:=Tryz.prog) _ (w.heap.size+1) 0 208 (yfL false 0 0) _ cR.range underlying208 rfl (by kernel_rfl);have HH:Hid (_∧_):=⟨hl,bR⟩;clear hl bR cR
 go_enter func158,ntmps158
 go_wp2
 obtain⟨hl,bR⟩:=HH.out;exact bodyPost_ret (aj results158 rfl rfl hl) rfl ⟨rfl,bR⟩
theorem MK (R D L G fam:Int)(gr:Bool)(sz ex:Nat)(F:Nat)(w:World)(hfa:(fam==1)=false):yC 158 #[ylV R D L G gr sz ex fam F,yi 4] w (yR w (.tuple #[yfV false 0 0,.bool false])):=by
 have hsf:=cD;have bf:=af (w.alloc (.cells (ylA R D L G gr sz ex fam F) 170)) (.cells (yfA false 0 0) 208);have l0:=(ah w (ylL R D L G gr sz ex fam F) 170).l bf;have m0:=ah (w.alloc (.cells (ylA R D L G gr sz ex fam F) 170)) (yfL false 0 0) 208;have b0:=aa (af w (.cells (ylA R D L G gr sz ex fam F) 170)) bf;rw[World.size_alloc] at m0;clear bf;obtain⟨x0,x1,x2,x3,x4,x5,x6,x7,x8⟩:=l0.cs9;obtain⟨u0,u1,u2⟩:=m0.cs3;have j0:=m0.f 0;have j1:=m0.f 1;have j2:=m0.f 2;have cR:=ah (w.alloc (.cells (ylA R D L G gr sz ex fam F) 170)) (yfL false 0 0) 208;rw[World.size_alloc] at cR;have bR:=aa (af w (.cells (ylA R D L G gr sz ex fam F) 170)) (af _ (.cells (yfA false 0 0) 208));have hl:=run_loadVar_mid (P:=Tryz.prog) _ (w.heap.size+1) 0 208 (yfL false 0 0) _ cR.range underlying208 rfl (by kernel_rfl);have HH:Hid (_∧_):=⟨hl,bR⟩;clear hl bR cR
 go_enter func158,ntmps158
 go_wp2
 obtain⟨hl,bR⟩:=HH.out;exact bodyPost_ret (aj results158 rfl rfl hl) rfl ⟨rfl,bR⟩
theorem ML (R D L G fam:Int)(gr:Bool)(sz ex:Nat)(F:Nat)(w:World)(hfa:(fam==3)=false):yC 158 #[ylV R D L G gr sz ex fam F,yi 5] w (yR w (.tuple #[yfV false 0 0,.bool false])):=by
 have hsf:=cD;have bf:=af (w.alloc (.cells (ylA R D L G gr sz ex fam F) 170)) (.cells (yfA false 0 0) 208);have l0:=(ah w (ylL R D L G gr sz ex fam F) 170).l bf;have m0:=ah (w.alloc (.cells (ylA R D L G gr sz ex fam F) 170)) (yfL false 0 0) 208;have b0:=aa (af w (.cells (ylA R D L G gr sz ex fam F) 170)) bf;rw[World.size_alloc] at m0;clear bf;obtain⟨x0,x1,x2,x3,x4,x5,x6,x7,x8⟩:=l0.cs9;obtain⟨u0,u1,u2⟩:=m0.cs3;have j0:=m0.f 0;have j1:=m0.f 1;have j2:=m0.f 2;have cR:=ah (w.alloc (.cells (ylA R D L G gr sz ex fam F) 170)) (yfL false 0 0) 208;rw[World.size_alloc] at cR;have bR:=aa (af w (.cells (ylA R D L G gr sz ex fam F) 170)) (af _ (.cells (yfA false 0 0) 208));have hl:=run_loadVar_mid (P:=Tryz.prog) _ (w.heap.size+1) 0 208 (yfL false 0 0) _ cR.range underlying208 rfl (by kernel_rfl);have HH:Hid (_∧_):=⟨hl,bR⟩;clear hl bR cR
 go_enter func158,ntmps158
 go_wp2
 obtain⟨hl,bR⟩:=HH.out;exact bodyPost_ret (aj results158 rfl rfl hl) rfl ⟨rfl,bR⟩
theorem MM (R D L G fam:Int)(gr:Bool)(sz ex:Nat)(F:Nat)(w:World)(hfa:fam=3):yC 158 #[ylV R D L G gr sz ex fam F,yi 5] w (yR w (.tuple #[yfV true 0 0,.bool true])):=by
 subst hfa;have hsf:=cD;have bf:=af (w.alloc (.cells (ylA R D L G gr sz ex 3 F) 170)) (.cells (yfA false 0 0) 208);have l0:=(ah w (ylL R D L G gr sz ex 3 F) 170).l bf;have m0:=ah (w.alloc (.cells (ylA R D L G gr sz ex 3 F) 170)) (yfL false 0 0) 208;have b0:=aa (af w (.cells (ylA R D L G gr sz ex 3 F) 170)) bf;rw[World.size_alloc] at m0;clear bf;obtain⟨x0,x1,x2,x3,x4,x5,x6,x7,x8⟩:=l0.cs9;obtain⟨u0,u1,u2⟩:=m0.cs3;have j0:=m0.f 0;have j1:=m0.f 1;have j2:=m0.f 2;have cR:=ah (w.alloc (.cells (ylA R D L G gr sz ex 3 F) 170)) (yfL true 0 0) 208;rw[World.size_alloc] at cR;have bR:=aa (af w (.cells (ylA R D L G gr sz ex 3 F) 170)) (af _ (.cells (yfA true 0 0) 208));have hl:=run_loadVar_mid (P:=Tryz.prog) _ (w.heap.size+1) 0 208 (yfL true 0 0) _ cR.range underlying208 rfl (by kernel_rfl);have HH:Hid (_∧_):=⟨hl,bR⟩;clear hl bR cR
 go_enter func158,ntmps158
 go_wp2
 obtain⟨hl,bR⟩:=HH.out;exact bodyPost_ret (aj results158 rfl rfl hl) rfl ⟨rfl,bR⟩
theorem MN (R D L G:Int)(gr:Bool)(sz ex:Nat)(F:Nat)(w:World)(on wr:Nat)
  (Hones:yJ 179 #[ylV R D L G gr sz ex 1 F] (yi on))
  (Hwritten:yJ 180 #[ylV R D L G gr sz ex 1 F] (.int .u64 wr)):yC 158 #[ylV R D L G gr sz ex 1 F,yi 3] w (yR w (.tuple #[yfV false on wr,.bool true])):=by
 have hsf:=cD;have bf:=af (w.alloc (.cells (ylA R D L G gr sz ex 1 F) 170)) (.cells (yfA false 0 0) 208);have l0:=(ah w (ylL R D L G gr sz ex 1 F) 170).l bf;have m0:=ah (w.alloc (.cells (ylA R D L G gr sz ex 1 F) 170)) (yfL false 0 0) 208;have b0:=aa (af w (.cells (ylA R D L G gr sz ex 1 F) 170)) bf;rw[World.size_alloc] at m0;clear bf;obtain⟨x0,x1,x2,x3,x4,x5,x6,x7,x8⟩:=l0.cs9;obtain⟨u0,u1,u2⟩:=m0.cs3;have j0:=m0.f 0;have j1:=m0.f 1;have j2:=m0.f 2;have Hones':Hid _:=Hones;have Hwritten':Hid _:=Hwritten;have CX:XU w (ylL R D L G gr sz ex 1 F) _:=⟨l0.drew,m0.drew,b0.drew⟩;clear l0 m0 b0 Hones Hwritten
 go_enter func158,ntmps158
 go_wp2_with fail
 go_region_held3 (fun wq=>wq.cell? ⟨w.heap.size,0,none⟩=some (yi R)∧wq.cell? ⟨w.heap.size,1,none⟩=some (yi D)∧wq.cell? ⟨w.heap.size,2,none⟩=some (yi L)∧wq.cell? ⟨w.heap.size,3,none⟩=some (yi G)∧wq.cell? ⟨w.heap.size,4,none⟩=some (.bool gr)∧wq.cell? ⟨w.heap.size,5,none⟩=some (yi sz)∧wq.cell? ⟨w.heap.size,6,none⟩=some (yi ex)∧wq.cell? ⟨w.heap.size,7,none⟩=some (yi 1)∧wq.cell? ⟨w.heap.size,8,none⟩=some (.func (.func F) #[] #[])) (go_keep) (first
  | (go_at_call 179;refine(Hones'.out _).mono ?_;rintro z wones ⟨rfl,bb⟩;have CY:=CX.l bb;clear CX;have CX:=CY;clear CY bb;obtain⟨lq,mq,-⟩:=id CX;obtain⟨x0,x1,x2,x3,x4,x5,x6,x7,x8⟩:=lq.cs9;obtain⟨u0,u1,u2⟩:=mq.cs3;have j0:=mq.f 0;have j1:=mq.f 1;have j2:=mq.f 2;clear lq mq)
  | (go_at_call 180;refine(Hwritten'.out _).mono ?_;rintro z wwritten ⟨rfl,bb⟩;have CY:=CX.l bb;clear CX;have CX:=CY;clear CY bb;obtain⟨lq,mq,-⟩:=id CX;obtain⟨x0,x1,x2,x3,x4,x5,x6,x7,x8⟩:=lq.cs9;obtain⟨u0,u1,u2⟩:=mq.cs3;have j0:=mq.f 0;have j1:=mq.f 1;have j2:=mq.f 2;clear lq mq))
 have mz:=CX.m;have bz:=CX.b;have bu:=((ag wwritten (w.heap.size+1) 0 (.bool false)).trans (ag _ (w.heap.size+1) 1 (yi on))).trans (ag _ (w.heap.size+1) 2 (.int .u64 wr));have cR:au (((wwritten.setCell ⟨w.heap.size+1,0,none⟩ (.bool false)).setCell ⟨w.heap.size+1,1,none⟩ (yi on)).setCell ⟨w.heap.size+1,2,none⟩ (.int .u64 wr)) (w.heap.size+1) 208 (yfL false on wr):=(((mz.set 0 (.bool false)).set 1 (yi on)).set 2 (.int .u64 wr));have bR:=bu.below bz (by omega);have hl:=run_loadVar_mid (P:=Tryz.prog) _ (w.heap.size+1) 0 208 (yfL false on wr) _ cR.range underlying208 rfl (by kernel_rfl);have HH:Hid (_∧_):=⟨hl,bR⟩;clear hl bR cR bu;clear mz bz CX
 go_wp2
 obtain⟨hl,bR⟩:=HH.out;exact bodyPost_ret (aj results158 rfl rfl hl) rfl ⟨rfl,bR⟩
theorem MO (R D L G:Int)(gr:Bool)(sz ex:Nat)(F:Nat)(w:World)(on wr ld:Nat)(hwl:wr<18446744073709551616)(hld:ld<18446744073709551616)
  (Hones:yJ 179 #[ylV R D L G gr sz ex 1 F] (yi on))
  (Hwritten:yJ 180 #[ylV R D L G gr sz ex 1 F] (.int .u64 wr))
  (Hlead:yJ 181 #[ylV R D L G gr sz ex 1 F] (.int .u64 ld)):yC 158 #[ylV R D L G gr sz ex 1 F,yi 4] w (yR w (.tuple #[yfV false on ((wr|||ld/2:Nat):Int),.bool true])):=by
 have hsf:=cD;have bf:=af (w.alloc (.cells (ylA R D L G gr sz ex 1 F) 170)) (.cells (yfA false 0 0) 208);have l0:=(ah w (ylL R D L G gr sz ex 1 F) 170).l bf;have m0:=ah (w.alloc (.cells (ylA R D L G gr sz ex 1 F) 170)) (yfL false 0 0) 208;have b0:=aa (af w (.cells (ylA R D L G gr sz ex 1 F) 170)) bf;rw[World.size_alloc] at m0;clear bf;obtain⟨x0,x1,x2,x3,x4,x5,x6,x7,x8⟩:=l0.cs9;obtain⟨u0,u1,u2⟩:=m0.cs3;have j0:=m0.f 0;have j1:=m0.f 1;have j2:=m0.f 2;have Hones':Hid _:=Hones;have Hwritten':Hid _:=Hwritten;have Hlead':Hid _:=Hlead;have hor:bits .or .u64 wr ((ld/2:Nat):Int)=((wr|||ld/2:Nat):Int):=u64_or_nat wr (ld/2) hwl (by omega)
 have hhf:(ld:Int)/2=((ld/2:Nat):Int):=by omega
 obtain⟨fr,hfr⟩: ∃x,wr|||ld/2=x:=⟨_,rfl⟩
 rw[hfr] at hor⊢;generalize ld/2=lh at*;clear hfr;have CX:XU w (ylL R D L G gr sz ex 1 F) _:=⟨l0.drew,m0.drew,b0.drew⟩;clear l0 m0 b0 Hones Hwritten Hlead
 go_enter func158,ntmps158
 go_wp2_with fail
 go_region_held3 (fun wq=>wq.cell? ⟨w.heap.size,0,none⟩=some (yi R)∧wq.cell? ⟨w.heap.size,1,none⟩=some (yi D)∧wq.cell? ⟨w.heap.size,2,none⟩=some (yi L)∧wq.cell? ⟨w.heap.size,3,none⟩=some (yi G)∧wq.cell? ⟨w.heap.size,4,none⟩=some (.bool gr)∧wq.cell? ⟨w.heap.size,5,none⟩=some (yi sz)∧wq.cell? ⟨w.heap.size,6,none⟩=some (yi ex)∧wq.cell? ⟨w.heap.size,7,none⟩=some (yi 1)∧wq.cell? ⟨w.heap.size,8,none⟩=some (.func (.func F) #[] #[])) (go_keep) (first
  | (go_at_call 179;refine(Hones'.out _).mono ?_;rintro z wones ⟨rfl,bb⟩;have CY:=CX.l bb;clear CX;have CX:=CY;clear CY bb;obtain⟨lq,mq,-⟩:=id CX;obtain⟨x0,x1,x2,x3,x4,x5,x6,x7,x8⟩:=lq.cs9;obtain⟨u0,u1,u2⟩:=mq.cs3;have j0:=mq.f 0;have j1:=mq.f 1;have j2:=mq.f 2;clear lq mq)
  | (go_at_call 180;refine(Hwritten'.out _).mono ?_;rintro z wwritten ⟨rfl,bb⟩;have CY:=CX.l bb;clear CX;have CX:=CY;clear CY bb;obtain⟨lq,mq,-⟩:=id CX;obtain⟨x0,x1,x2,x3,x4,x5,x6,x7,x8⟩:=lq.cs9;obtain⟨u0,u1,u2⟩:=mq.cs3;have j0:=mq.f 0;have j1:=mq.f 1;have j2:=mq.f 2;clear lq mq)
  | (go_at_call 181;refine(Hlead'.out _).mono ?_;rintro z wlead ⟨rfl,bb⟩;have CY:=CX.l bb;clear CX;have CX:=CY;clear CY bb;obtain⟨lq,mq,-⟩:=id CX;obtain⟨x0,x1,x2,x3,x4,x5,x6,x7,x8⟩:=lq.cs9;obtain⟨u0,u1,u2⟩:=mq.cs3;have j0:=mq.f 0;have j1:=mq.f 1;have j2:=mq.f 2;clear lq mq))
 have mz:=CX.m;have bz:=CX.b;have bu:=((ag wlead (w.heap.size+1) 0 (.bool false)).trans (ag _ (w.heap.size+1) 1 (yi on))).trans (ag _ (w.heap.size+1) 2 (.int .u64 (fr:Int)));have cR:au (((wlead.setCell ⟨w.heap.size+1,0,none⟩ (.bool false)).setCell ⟨w.heap.size+1,1,none⟩ (yi on)).setCell ⟨w.heap.size+1,2,none⟩ (.int .u64 (fr:Int))) (w.heap.size+1) 208 (yfL false on (fr:Int)):=(((mz.set 0 (.bool false)).set 1 (yi on)).set 2 (.int .u64 (fr:Int)));have bR:=bu.below bz (by omega);have hl:=run_loadVar_mid (P:=Tryz.prog) _ (w.heap.size+1) 0 208 (yfL false on (fr:Int)) _ cR.range underlying208 rfl (by kernel_rfl);have HH:Hid (_∧_):=⟨hl,bR⟩;clear hl bR cR bu;clear mz bz CX
 go_wp2
 obtain⟨hl,bR⟩:=HH.out;exact bodyPost_ret (aj results158 rfl rfl hl) rfl ⟨rfl,bR⟩
def iR (k c:Nat):Bool:=c==1||(c==3||c==4)&&decide (k≤3)||c==5&&decide (6≤k)
def pI (k c:Nat):Bool:=c==5&&decide (6≤k)
def pg (k c:Nat):Nat:=if(c=3∨c=4)∧k≤3 then kp k else 0
def lS (k c:Nat):Nat:=if k≤3 then(if c=3 then wrN k else if c=4 then wrN k|||gW k/2 else 0) else 0
theorem MP (k c:Nat)(hk:1≤k∧k≤8)(hc:c=1∨c=3∨c=4∨c=5)(w:World):
  yC 158 #[.agg (tS k).toArray,yi c] w (yR w (.tuple #[yfV (pI k c) ((pg k c:Nat):Int) ((lS k c:Nat):Int),.bool (iR k c)])):=by
 have HO:=fun w1=>jy k hk w1
 have HW:=fun w1=>gj k hk w1
 have HL:=fun w1=>xX k hk w1
 rcases hc with rfl|rfl|rfl|rfl
 ·rw[show pI k 1=false from rfl,show pg k 1=0 from if_neg (fun h=>by omega),show lS k 1=0 from by unfold lS;simp,show iR k 1=true from rfl]
  rcases bO hk with rfl|rfl|rfl|rfl|rfl|rfl|rfl|rfl
  all_goals exact Ku _ _ _ _ _ _ _ _ _ w
 ·rw[show pI k 3=false from rfl]
  by_cases h3:k≤3
  ·rw[show pg k 3=kp k from if_pos ⟨.inl rfl,h3⟩,show lS k 3=wrN k from by unfold lS;rw[if_pos h3,if_pos rfl],show iR k 3=true from by simp[iR,h3]]
   generalize kp k=on at*;generalize wrN k=wr at*
   rcases(by omega:k=1∨k=2∨k=3) with rfl|rfl|rfl
   all_goals exact MN _ _ _ _ _ _ _ _ w _ _ HO HW
  ·rw[show pg k 3=0 from if_neg (fun h=>h3 h.2),show lS k 3=0 from if_neg h3,show iR k 3=false from by simp[iR,h3]]
   rcases(by omega:k=4∨k=5∨k=6∨k=7∨k=8) with rfl|rfl|rfl|rfl|rfl
   all_goals exact MJ _ _ _ _ _ _ _ _ _ w rfl
 ·rw[show pI k 4=false from rfl]
  by_cases h3:k≤3
  ·rw[show pg k 4=kp k from if_pos ⟨.inr rfl,h3⟩,show lS k 4=wrN k|||gW k/2 from by unfold lS;rw[if_pos h3,if_neg (by omega),if_pos rfl],show iR k 4=true from by simp[iR,h3]]
   have hw:wrN k<18446744073709551616:=by rcases(by omega:k=1∨k=2∨k=3) with rfl|rfl|rfl<;>decide
   have hl:gW k<18446744073709551616:=by rcases(by omega:k=1∨k=2∨k=3) with rfl|rfl|rfl<;>decide
   generalize kp k=on at*;generalize wrN k=wr at*;generalize gW k=ld at*
   rcases(by omega:k=1∨k=2∨k=3) with rfl|rfl|rfl
   all_goals exact MO _ _ _ _ _ _ _ _ w _ _ _ hw hl HO HW HL
  ·rw[show pg k 4=0 from if_neg (fun h=>h3 h.2),show lS k 4=0 from if_neg h3,show iR k 4=false from by simp[iR,h3]]
   rcases(by omega:k=4∨k=5∨k=6∨k=7∨k=8) with rfl|rfl|rfl|rfl|rfl
   all_goals exact MK _ _ _ _ _ _ _ _ _ w rfl
 ·rw[show pg k 5=0 from if_neg (fun h=>by omega),show lS k 5=0 from by unfold lS;simp]
  by_cases h6:6≤k
  ·rw[show pI k 5=true from by simp[pI,h6],show iR k 5=true from by simp[iR,h6]]
   rcases(by omega:k=6∨k=7∨k=8) with rfl|rfl|rfl
   all_goals exact MM _ _ _ _ _ _ _ _ _ w rfl
  ·rw[show pI k 5=false from by simp[pI,h6],show iR k 5=false from by simp[iR,h6]]
   rcases(by omega:k=1∨k=2∨k=3∨k=4∨k=5) with rfl|rfl|rfl|rfl|rfl
   all_goals exact ML _ _ _ _ _ _ _ _ _ w rfl
def Bk (k c:Nat):Bool:=c==3||c==1&&decide (k≤5)
theorem MQ (R D L G fam:Int)(gr:Bool)(sz ex:Nat)(F:Nat)(c:Int)(q3 q1 qf:Bool)(w:World)(h3:(c==3)=q3)(h1:(c==1)=q1)(hf:(fam != 3)=qf):yC 159 #[ylV R D L G gr sz ex fam F,yi c] w (yR w (.bool (q3||q1&&qf))):=by
 have hsf:=cD;have b0:=af w (.cells (ylA R D L G gr sz ex fam F) 170)
 cases q3<;>cases q1<;>cases qf
 all_goals go_enter func159,ntmps159
 all_goals go_wp2
 all_goals go_ret
 all_goals exact⟨rfl,b0⟩
theorem Qa (k c:Nat)(hk:1≤k∧k≤8)(hc:c=1∨c=3∨c=4∨c=5)(w:World):
  yC 159 #[.agg (tS k).toArray,yi c] w (yR w (.bool (Bk k c))):=by
 rcases bO hk with rfl|rfl|rfl|rfl|rfl|rfl|rfl|rfl
 all_goals rcases hc with rfl|rfl|rfl|rfl
 all_goals first
  |exact MQ _ _ _ _ _ _ _ _ _ _ _ _ true w rfl rfl rfl
  |exact MQ _ _ _ _ _ _ _ _ _ _ _ _ false w rfl rfl rfl
theorem P8 (R D L G fam:Int)(gr:Bool)(sz ex:Nat)(F:Nat)(c p:Int)(ng:Bool)(ao:Option Addr)(dn dc:Nat)(sg0:Bool)(se sf:Nat)(w:World)
  (HS:yJ 158 #[ylV R D L G gr sz ex fam F,yi c] (.tuple #[yfV sg0 se sf,.bool false])):
  yC 134 #[ylV R D L G gr sz ex fam F,yvV c ng (.slice ao dn dc) p] w (yR w (.tuple #[.string ⟨#[]⟩,yi 5])):=by
 have hsf:=cD;have bf:=af (w.alloc (.cells (ylA R D L G gr sz ex fam F) 170)) (.cells (yvA c ng (.slice ao dn dc) p) 100);have l0:=(ah w (ylL R D L G gr sz ex fam F) 170).l bf;have m0:=ah (w.alloc (.cells (ylA R D L G gr sz ex fam F) 170)) (yvL c ng (.slice ao dn dc) p) 100;have b0:=aa (af w (.cells (ylA R D L G gr sz ex fam F) 170)) bf;rw[World.size_alloc] at m0;have HS':Hid _:=HS;clear HS bf
 go_enter func134,ntmps134
 go_wp2_with fail
 refine(HS'.out _).mono ?_;rintro z w1 ⟨rfl,b1⟩;have bq:=af w1 (.cells (yfA sg0 se sf) 208);have l1:=(l0.l b1).l bq;have m1:=(m0.l b1).l bq;have q1:=ah w1 (yfL sg0 se sf) 208;have b01:=aa (aa b0 b1) bq;obtain⟨x0,x1,x2,x3,x4,x5,x6,x7,x8⟩:=l1.cs9;obtain⟨u0,u1,u2,u3⟩:=m1.cs4;obtain⟨s0,s1,s2⟩:=q1.cs3;clear l0 m0 b0 b1 bq HS'
 go_wp2
 go_ret2
 exact⟨rfl,b01⟩
theorem Kt (R D L G fam:Int)(gr:Bool)(sz ex:Nat)(F:Nat)(c p:Int)(ng:Bool)(ao:Option Addr)(dn dc:Nat)(sg0:Bool)(se sf:Nat)(w:World)
  (HS:yJ 158 #[ylV R D L G gr sz ex fam F,yi c] (.tuple #[yfV sg0 se sf,.bool true])) (hd:0<dn):
  yC 134 #[ylV R D L G gr sz ex fam F,yvV c ng (.slice ao dn dc) p] w (yR w (.tuple #[.string ⟨#[]⟩,yi 4])):=by
 have hdI:(0:Int)< (dn:Int):=by omega
 have hsf:=cD;have bf:=af (w.alloc (.cells (ylA R D L G gr sz ex fam F) 170)) (.cells (yvA c ng (.slice ao dn dc) p) 100);have l0:=(ah w (ylL R D L G gr sz ex fam F) 170).l bf;have m0:=ah (w.alloc (.cells (ylA R D L G gr sz ex fam F) 170)) (yvL c ng (.slice ao dn dc) p) 100;have b0:=aa (af w (.cells (ylA R D L G gr sz ex fam F) 170)) bf;rw[World.size_alloc] at m0;have HS':Hid _:=HS;clear HS bf
 go_enter func134,ntmps134
 go_wp2_with fail
 refine(HS'.out _).mono ?_;rintro z w1 ⟨rfl,b1⟩;have bq:=af w1 (.cells (yfA sg0 se sf) 208);have l1:=(l0.l b1).l bq;have m1:=(m0.l b1).l bq;have q1:=ah w1 (yfL sg0 se sf) 208;have b01:=aa (aa b0 b1) bq;obtain⟨x0,x1,x2,x3,x4,x5,x6,x7,x8⟩:=l1.cs9;obtain⟨u0,u1,u2,u3⟩:=m1.cs4;obtain⟨s0,s1,s2⟩:=q1.cs3;clear l0 m0 b0 b1 bq HS'
 go_wp2
 go_ret2
 exact⟨rfl,b01⟩
theorem MI (R D L G fam:Int)(gr:Bool)(sz ex:Nat)(F:Nat)(c p:Int)(ng:Bool)(ao:Option Addr)(dn dc:Nat)(sg0:Bool)(se sf:Nat)(w:World)
  (HS:yJ 158 #[ylV R D L G gr sz ex fam F,yi c] (.tuple #[yfV sg0 se sf,.bool true])) (hd:dn=0) (hp:p≠0):
  yC 134 #[ylV R D L G gr sz ex fam F,yvV c ng (.slice ao dn dc) p] w (yR w (.tuple #[.string ⟨#[]⟩,yi 4])):=by
 subst hd;have hpb:(p==0)=false:=by simpa using hp
 have hsf:=cD;have bf:=af (w.alloc (.cells (ylA R D L G gr sz ex fam F) 170)) (.cells (yvA c ng (.slice ao 0 dc) p) 100);have l0:=(ah w (ylL R D L G gr sz ex fam F) 170).l bf;have m0:=ah (w.alloc (.cells (ylA R D L G gr sz ex fam F) 170)) (yvL c ng (.slice ao 0 dc) p) 100;have b0:=aa (af w (.cells (ylA R D L G gr sz ex fam F) 170)) bf;rw[World.size_alloc] at m0;have HS':Hid _:=HS;clear HS bf
 go_enter func134,ntmps134
 go_wp2_with fail
 refine(HS'.out _).mono ?_;rintro z w1 ⟨rfl,b1⟩;have bq:=af w1 (.cells (yfA sg0 se sf) 208);have l1:=(l0.l b1).l bq;have m1:=(m0.l b1).l bq;have q1:=ah w1 (yfL sg0 se sf) 208;have b01:=aa (aa b0 b1) bq;obtain⟨x0,x1,x2,x3,x4,x5,x6,x7,x8⟩:=l1.cs9;obtain⟨u0,u1,u2,u3⟩:=m1.cs4;obtain⟨s0,s1,s2⟩:=q1.cs3;clear l0 m0 b0 b1 bq HS'
 go_wp2
 go_ret2
 exact⟨rfl,b01⟩
theorem P9 (R D L G fam:Int)(gr:Bool)(sz ex:Nat)(F:Nat)(c p:Int)(ng:Bool)(ao:Option Addr)(dn dc:Nat)(sg0:Bool)(se sf:Nat)(w:World)
  (HS:yJ 158 #[ylV R D L G gr sz ex fam F,yi c] (.tuple #[yfV sg0 se sf,.bool true]))
  (HG:yJ 159 #[ylV R D L G gr sz ex fam F,yi c] (.bool false)) (hd:dn=0) (hp:p=0) (hn:ng=true):
  yC 134 #[ylV R D L G gr sz ex fam F,yvV c ng (.slice ao dn dc) p] w (yR w (.tuple #[.string ⟨#[]⟩,yi 4])):=by
 subst hd hp hn;have HG':Hid _:=HG;have hsf:=cD;have bf:=af (w.alloc (.cells (ylA R D L G gr sz ex fam F) 170)) (.cells (yvA c true (.slice ao 0 dc) 0) 100);have l0:=(ah w (ylL R D L G gr sz ex fam F) 170).l bf;have m0:=ah (w.alloc (.cells (ylA R D L G gr sz ex fam F) 170)) (yvL c true (.slice ao 0 dc) 0) 100;have b0:=aa (af w (.cells (ylA R D L G gr sz ex fam F) 170)) bf;rw[World.size_alloc] at m0;have HS':Hid _:=HS;clear HS bf
 go_enter func134,ntmps134
 go_wp2_with fail
 refine(HS'.out _).mono ?_;rintro z w1 ⟨rfl,b1⟩;have bq:=af w1 (.cells (yfA sg0 se sf) 208);have l1:=(l0.l b1).l bq;have m1:=(m0.l b1).l bq;have q1:=ah w1 (yfL sg0 se sf) 208;have b01:=aa (aa b0 b1) bq;obtain⟨x0,x1,x2,x3,x4,x5,x6,x7,x8⟩:=l1.cs9;obtain⟨u0,u1,u2,u3⟩:=m1.cs4;obtain⟨s0,s1,s2⟩:=q1.cs3;clear l0 m0 b0 b1 bq HS'
 go_wp2_with fail
 refine(HG'.out _).mono ?_;rintro z w2 ⟨rfl,b2⟩;have l2:=l1.l b2;have m2:=m1.l b2;have q2:=q1.l b2;have b02:=aa b01 b2;clear l1 m1 q1 b01 b2 x0 x1 x2 x3 x4 x5 x6 x7 x8 u0 u1 u2 u3 s0 s1 s2;obtain⟨x0,x1,x2,x3,x4,x5,x6,x7,x8⟩:=l2.cs9;obtain⟨u0,u1,u2,u3⟩:=m2.cs4;obtain⟨s0,s1,s2⟩:=q2.cs3
 go_wp2
 go_ret2
 exact⟨rfl,b02⟩
theorem Ui (R D L G fam:Int)(gr:Bool)(sz ex:Nat)(F:Nat)(c p:Int)(ng:Bool)(ao:Option Addr)(dn dc:Nat)(sg0:Bool)(se sf:Nat)(w:World)
  (HS:yJ 158 #[ylV R D L G gr sz ex fam F,yi c] (.tuple #[yfV sg0 se sf,.bool true]))
  (st:ByteArray) (HW:yJ 160 #[ylV R D L G gr sz ex fam F,yfV (sg0||ng) se sf] (.string st)) (hd:dn=0) (hp:p=0) (hn:ng=false):
  yC 134 #[ylV R D L G gr sz ex fam F,yvV c ng (.slice ao dn dc) p] w (yR w (.tuple #[.string st,yi 0])):=by
 subst hd hp hn;have HW':Hid _:=HW;have hsf:=cD;have bf:=af (w.alloc (.cells (ylA R D L G gr sz ex fam F) 170)) (.cells (yvA c false (.slice ao 0 dc) 0) 100);have l0:=(ah w (ylL R D L G gr sz ex fam F) 170).l bf;have m0:=ah (w.alloc (.cells (ylA R D L G gr sz ex fam F) 170)) (yvL c false (.slice ao 0 dc) 0) 100;have b0:=aa (af w (.cells (ylA R D L G gr sz ex fam F) 170)) bf;rw[World.size_alloc] at m0;have HS':Hid _:=HS;clear HS bf
 go_enter func134,ntmps134
 go_wp2_with fail
 refine(HS'.out _).mono ?_;rintro z w1 ⟨rfl,b1⟩;have bq:=af w1 (.cells (yfA sg0 se sf) 208);have l1:=(l0.l b1).l bq;have m1:=(m0.l b1).l bq;have q1:=ah w1 (yfL sg0 se sf) 208;have b01:=aa (aa b0 b1) bq;obtain⟨x0,x1,x2,x3,x4,x5,x6,x7,x8⟩:=l1.cs9;obtain⟨u0,u1,u2,u3⟩:=m1.cs4;obtain⟨s0,s1,s2⟩:=q1.cs3;clear l0 m0 b0 b1 bq HS';clear HW
 cases sg0
 all_goals go_wp2_with fail
 all_goals (refine(HW'.out _).mono ?_;rintro z w3 ⟨rfl,b3⟩;go_wp2;go_ret2;exact⟨rfl,aa b01 b3⟩)
theorem Uj (R D L G fam:Int)(gr:Bool)(sz ex:Nat)(F:Nat)(c p:Int)(ng:Bool)(ao:Option Addr)(dn dc:Nat)(sg0:Bool)(se sf:Nat)(w:World)
  (HS:yJ 158 #[ylV R D L G gr sz ex fam F,yi c] (.tuple #[yfV sg0 se sf,.bool true]))
  (HG:yJ 159 #[ylV R D L G gr sz ex fam F,yi c] (.bool true))
  (st:ByteArray) (HW:yJ 160 #[ylV R D L G gr sz ex fam F,yfV (sg0||ng) se sf] (.string st)) (hd:dn=0) (hp:p=0) (hn:ng=true):
  yC 134 #[ylV R D L G gr sz ex fam F,yvV c ng (.slice ao dn dc) p] w (yR w (.tuple #[.string st,yi 0])):=by
 subst hd hp hn;have HG':Hid _:=HG;have HW':Hid _:=HW;have hsf:=cD;have bf:=af (w.alloc (.cells (ylA R D L G gr sz ex fam F) 170)) (.cells (yvA c true (.slice ao 0 dc) 0) 100);have l0:=(ah w (ylL R D L G gr sz ex fam F) 170).l bf;have m0:=ah (w.alloc (.cells (ylA R D L G gr sz ex fam F) 170)) (yvL c true (.slice ao 0 dc) 0) 100;have b0:=aa (af w (.cells (ylA R D L G gr sz ex fam F) 170)) bf;rw[World.size_alloc] at m0;have HS':Hid _:=HS;clear HS bf
 go_enter func134,ntmps134
 go_wp2_with fail
 refine(HS'.out _).mono ?_;rintro z w1 ⟨rfl,b1⟩;have bq:=af w1 (.cells (yfA sg0 se sf) 208);have l1:=(l0.l b1).l bq;have m1:=(m0.l b1).l bq;have q1:=ah w1 (yfL sg0 se sf) 208;have b01:=aa (aa b0 b1) bq;obtain⟨x0,x1,x2,x3,x4,x5,x6,x7,x8⟩:=l1.cs9;obtain⟨u0,u1,u2,u3⟩:=m1.cs4;obtain⟨s0,s1,s2⟩:=q1.cs3;have hlw:w.heap.size<w1.heap.size:=(l0.l b1).lt;clear l0 m0 b0 b1 bq HS'
 go_wp2_with fail
 refine(HG'.out _).mono ?_;rintro z w2 ⟨rfl,b2⟩;have l2:=l1.l b2;have m2:=m1.l b2;have q2:=q1.l b2;have b02:=aa b01 b2;clear l1 m1 q1 b01 b2 x0 x1 x2 x3 x4 x5 x6 x7 x8 u0 u1 u2 u3 s0 s1 s2;obtain⟨x0,x1,x2,x3,x4,x5,x6,x7,x8⟩:=l2.cs9;obtain⟨u0,u1,u2,u3⟩:=m2.cs4;obtain⟨s0,s1,s2⟩:=q2.cs3;have k0:=q2.f 0;have hne0:w1.heap.size≠w.heap.size:=Nat.ne_of_gt hlw;have b03:=(ag _ w1.heap.size 0 (.bool true)).below b02 (Nat.le_of_lt hlw);clear HW HG
 cases sg0
 all_goals go_wp2_with fail
 all_goals (refine(HW'.out _).mono ?_;rintro z w3 ⟨rfl,b3⟩;go_wp2;go_ret2;exact⟨rfl,aa b03 b3⟩)
def qX (k c dn:Nat)(ng:Bool)(p:Int):Int:=if iR k c=false then 5 else if 0<dn∨p≠0∨ng=true∧Bk k c=false then 4 else 0
def Fv (k c dn:Nat)(ng:Bool)(p:Int):ByteArray:=if qX k c dn ng p=0 then cF (kU k (pI k c||ng) (pg k c) (lS k c)) else⟨#[]⟩
theorem Fw {k:Nat}(c:Nat)(hk:1≤k∧k≤8):pg k c<65536:=by
 have h:kp k<65536:=by rcases bO hk with rfl|rfl|rfl|rfl|rfl|rfl|rfl|rfl<;>decide
 unfold pg
 split<;>omega
theorem Fx {k:Nat}(c:Nat)(hk:1≤k∧k≤8):lS k c<18446744073709551616:=by
 have h1:wrN k<2^64:=by rcases bO hk with rfl|rfl|rfl|rfl|rfl|rfl|rfl|rfl<;>decide
 have h2:gW k<2^64:=by rcases bO hk with rfl|rfl|rfl|rfl|rfl|rfl|rfl|rfl<;>decide
 unfold lS
 split
 ·split
  ·exact h1
  ·split
   ·exact Nat.or_lt_two_pow (n:=64) h1 (by omega)
   ·omega
 ·omega
theorem wE (k c:Nat)(hk:1≤k∧k≤8)(hc:c=1∨c=3∨c=4∨c=5)(ng:Bool)(ao:Option Addr)(dn dc:Nat)(p:Int)(w:World):
  yC 134 #[.agg (tS k).toArray,yvV c ng (.slice ao dn dc) p] w (yR w (.tuple #[.string (Fv k c dn ng p),yi (qX k c dn ng p)])):=by
 have HS:=fun w1=>MP k c hk hc w1
 have HG:=fun w1=>Qa k c hk hc w1
 have HW:=fun w1=>Aq k hk (pI k c||ng) (pg k c) (lS k c) w1 (Fw c hk) (Fx c hk)
 have key: ∀er,qX k c dn ng p=er→Fv k c dn ng p=if er=0 then cF (kU k (pI k c||ng) (pg k c) (lS k c)) else⟨#[]⟩:=fun er h=>by unfold Fv;rw[h]
 by_cases hok:iR k c=false
 ·have hE:qX k c dn ng p=5:=by unfold qX;rw[if_pos hok]
  rw[key 5 hE,hE,if_neg (by omega)];rw[hok] at HS;generalize pI k c=sg0 at*;generalize pg k c=se at*;generalize lS k c=sf at*;clear HG HW key hE hok
  rcases bO hk with rfl|rfl|rfl|rfl|rfl|rfl|rfl|rfl
  all_goals exact P8 _ _ _ _ _ _ _ _ _ _ p ng ao dn dc sg0 se sf w HS
 ·have hok':iR k c=true:=by simpa using hok
  rw[hok'] at HS
  by_cases h1:0<dn
  ·have hE:qX k c dn ng p=4:=by unfold qX;rw[if_neg hok,if_pos (.inl h1)]
   rw[key 4 hE,hE,if_neg (by omega)];generalize pI k c=sg0 at*;generalize pg k c=se at*;generalize lS k c=sf at*;clear HG HW key hE hok hok'
   rcases bO hk with rfl|rfl|rfl|rfl|rfl|rfl|rfl|rfl
   all_goals exact Kt _ _ _ _ _ _ _ _ _ _ p ng ao dn dc sg0 se sf w HS h1
  ·have hd:dn=0:=by omega
   by_cases h2:p=0
   ·by_cases h3:ng=true∧Bk k c=false
    ·have hE:qX k c dn ng p=4:=by unfold qX;rw[if_neg hok,if_pos (.inr (.inr h3))]
     rw[key 4 hE,hE,if_neg (by omega)];rw[h3.2] at HG;have hng:=h3.1;generalize pI k c=sg0 at*;generalize pg k c=se at*;generalize lS k c=sf at*;clear HW key hE hok hok' h3
     rcases bO hk with rfl|rfl|rfl|rfl|rfl|rfl|rfl|rfl
     all_goals exact P9 _ _ _ _ _ _ _ _ _ _ p ng ao dn dc sg0 se sf w HS HG hd h2 hng
    ·have hE:qX k c dn ng p=0:=by
      unfold qX;rw[if_neg hok,if_neg];rintro(h|h|h)
      ·exact h1 h
      ·exact h h2
      ·exact h3 h
     rw[key 0 hE,hE,if_pos rfl];have hsg:ng=true→Bk k c=true:=fun h=>by
      cases hs:Bk k c
      ·exact absurd ⟨h,hs⟩ h3
      ·rfl
     generalize cF (kU k (pI k c||ng) (pg k c) (lS k c))=st at*
     generalize pI k c=sg0 at*;generalize pg k c=se at*;generalize lS k c=sf at*;clear key hE hok hok' h3
     cases ng
     ·rcases bO hk with rfl|rfl|rfl|rfl|rfl|rfl|rfl|rfl
      all_goals exact Ui _ _ _ _ _ _ _ _ _ _ p false ao dn dc sg0 se sf w HS st HW hd h2 rfl
     ·rw[hsg rfl] at HG
      rcases bO hk with rfl|rfl|rfl|rfl|rfl|rfl|rfl|rfl
      all_goals exact Uj _ _ _ _ _ _ _ _ _ _ p true ao dn dc sg0 se sf w HS HG st HW hd h2 rfl
   ·have hE:qX k c dn ng p=4:=by unfold qX;rw[if_neg hok,if_pos (.inr (.inl h2))]
    rw[key 4 hE,hE,if_neg (by omega)];generalize pI k c=sg0 at*;generalize pg k c=se at*;generalize lS k c=sf at*;clear HG HW key hE hok hok'
    rcases bO hk with rfl|rfl|rfl|rfl|rfl|rfl|rfl|rfl
    all_goals exact MI _ _ _ _ _ _ _ _ _ _ p ng ao dn dc sg0 se sf w HS hd h2
end Go.Proofs.YtbdokgamhinajaaGreatDoor

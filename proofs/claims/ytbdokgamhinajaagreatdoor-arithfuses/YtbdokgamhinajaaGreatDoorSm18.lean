/-
  Texts laid together: Co4, Co5, Cr1.
-/
import Derived.Test.YtbdokgamhinajaaGreatDoorSm07
set_option maxRecDepth 100000
set_option maxHeartbeats 3200000
namespace Go.Proofs.YtbdokgamhinajaaGreatDoor
open _root_.Go.Proofs.Tryz
open Go.RowKit
theorem vU (n:Int)(w:World)(h:dK n=0):yC 83 #[yi n] w (yR w (.tuple #[ygV 0 0 0 0 false,yi 6])):=by
 have HL:Hid (yJ 117 #[yi n] (.tuple #[yzV 0 0 0 0 false 0 0 0,yi 6])):=fun w1=>lR n w1 h
 have hsf:=cD;have hsn:=gn;have l0:=ah w (ygL 0 0 0 0 false) 48;have b0:=af w (.cells (ygA 0 0 0 0 false) 48)
 go_enter func83,ntmps83
 go_wp2_with fail
 refine(HL.out _).mono ?_;rintro z w2 ⟨rfl,b2⟩;have l3:=(l0.l b2).l (af w2 (.cells (yzA 0 0 0 0 false 0 0 0) 170));have cR:au ((((((w2.alloc (.cells (yzA 0 0 0 0 false 0 0 0) 170)).setCell ⟨w.heap.size,0,none⟩ (yi 0)).setCell ⟨w.heap.size,1,none⟩ (yi 0)).setCell ⟨w.heap.size,2,none⟩ (yi 0)).setCell ⟨w.heap.size,3,none⟩ (yi 0)).setCell ⟨w.heap.size,4,none⟩ (.bool false)) w.heap.size 48 (ygL 0 0 0 0 false):=(((((l3.set 0 (yi 0)).set 1 (yi 0)).set 2 (yi 0)).set 3 (yi 0)).set 4 (.bool false));have bR:=(((((ag (w2.alloc (.cells (yzA 0 0 0 0 false 0 0 0) 170)) w.heap.size 0 (yi 0)).trans (ag _ w.heap.size 1 (yi 0))).trans (ag _ w.heap.size 2 (yi 0))).trans (ag _ w.heap.size 3 (yi 0))).trans (ag _ w.heap.size 4 (.bool false))).below (aa (aa b0 b2) (af w2 (.cells (yzA 0 0 0 0 false 0 0 0) 170))) (Nat.le_refl _);have hl:=run_loadVar_mid (P:=Tryz.prog) _ w.heap.size 0 48 (ygL 0 0 0 0 false) _ cR.range underlying48 rfl (by kernel_rfl);have HH:Hid (_∧_):=⟨hl,bR⟩;have x0:=l3.c 0 rfl;have f0:=l3.f 0;have x1:=l3.c 1 rfl;have f1:=l3.f 1;have x2:=l3.c 2 rfl;have f2:=l3.f 2;have x3:=l3.c 3 rfl;have f3:=l3.f 3;have x4:=l3.c 4 rfl;have f4:=l3.f 4;have hne:w2.heap.size≠w.heap.size:=Nat.ne_of_gt (l0.l b2).lt;clear hl bR cR l0 l3 b0 b2 HL
 go_wp2
 obtain⟨hl,bR⟩:=HH.out;exact bodyPost_ret (aj results83 rfl rfl hl) rfl ⟨rfl,bR⟩
theorem SN (w:World):yC 83 #[yi 1] w (yR w (.tuple #[ygV 2 24 (-149) 104 true,yi 0])):=by
 have HL:Hid (yJ 117 #[yi 1] (.tuple #[.agg #[yi 2,yi 24,yi (-149),yi 104,.bool true,yi 4,yi 8,yi 1,.func (.func 172) #[] #[]],yi 0])):=fun w1=>uU w1
 have hsf:=cD;have hsn:=gn;have l0:=ah w (ygL 0 0 0 0 false) 48;have b0:=af w (.cells (ygA 0 0 0 0 false) 48)
 go_enter func83,ntmps83
 go_wp2_with fail
 refine(HL.out _).mono ?_;rintro z w2 ⟨rfl,b2⟩;have l3:=(l0.l b2).l (af w2 (.cells #[yi 2,yi 24,yi (-149),yi 104,.bool true,yi 4,yi 8,yi 1,.func (.func 172) #[] #[]] 170));have cR:au ((((((w2.alloc (.cells #[yi 2,yi 24,yi (-149),yi 104,.bool true,yi 4,yi 8,yi 1,.func (.func 172) #[] #[]] 170)).setCell ⟨w.heap.size,0,none⟩ (yi 2)).setCell ⟨w.heap.size,1,none⟩ (yi 24)).setCell ⟨w.heap.size,2,none⟩ (yi (-149))).setCell ⟨w.heap.size,3,none⟩ (yi 104)).setCell ⟨w.heap.size,4,none⟩ (.bool true)) w.heap.size 48 (ygL 2 24 (-149) 104 true):=(((((l3.set 0 (yi 2)).set 1 (yi 24)).set 2 (yi (-149))).set 3 (yi 104)).set 4 (.bool true));have bR:=(((((ag (w2.alloc (.cells #[yi 2,yi 24,yi (-149),yi 104,.bool true,yi 4,yi 8,yi 1,.func (.func 172) #[] #[]] 170)) w.heap.size 0 (yi 2)).trans (ag _ w.heap.size 1 (yi 24))).trans (ag _ w.heap.size 2 (yi (-149)))).trans (ag _ w.heap.size 3 (yi 104))).trans (ag _ w.heap.size 4 (.bool true))).below (aa (aa b0 b2) (af w2 (.cells #[yi 2,yi 24,yi (-149),yi 104,.bool true,yi 4,yi 8,yi 1,.func (.func 172) #[] #[]] 170))) (Nat.le_refl _);have hl:=run_loadVar_mid (P:=Tryz.prog) _ w.heap.size 0 48 (ygL 2 24 (-149) 104 true) _ cR.range underlying48 rfl (by kernel_rfl);have HH:Hid (_∧_):=⟨hl,bR⟩;have x0:=l3.c 0 rfl;have f0:=l3.f 0;have x1:=l3.c 1 rfl;have f1:=l3.f 1;have x2:=l3.c 2 rfl;have f2:=l3.f 2;have x3:=l3.c 3 rfl;have f3:=l3.f 3;have x4:=l3.c 4 rfl;have f4:=l3.f 4;have hne:w2.heap.size≠w.heap.size:=Nat.ne_of_gt (l0.l b2).lt;clear hl bR cR l0 l3 b0 b2 HL
 go_wp2
 obtain⟨hl,bR⟩:=HH.out;exact bodyPost_ret (aj results83 rfl rfl hl) rfl ⟨rfl,bR⟩
theorem SO (w:World):yC 83 #[yi 2] w (yR w (.tuple #[ygV 2 53 (-1074) 971 true,yi 0])):=by
 have HL:Hid (yJ 117 #[yi 2] (.tuple #[.agg #[yi 2,yi 53,yi (-1074),yi 971,.bool true,yi 8,yi 11,yi 1,.func (.func 172) #[] #[]],yi 0])):=fun w1=>uV w1
 have hsf:=cD;have hsn:=gn;have l0:=ah w (ygL 0 0 0 0 false) 48;have b0:=af w (.cells (ygA 0 0 0 0 false) 48)
 go_enter func83,ntmps83
 go_wp2_with fail
 refine(HL.out _).mono ?_;rintro z w2 ⟨rfl,b2⟩;have l3:=(l0.l b2).l (af w2 (.cells #[yi 2,yi 53,yi (-1074),yi 971,.bool true,yi 8,yi 11,yi 1,.func (.func 172) #[] #[]] 170));have cR:au ((((((w2.alloc (.cells #[yi 2,yi 53,yi (-1074),yi 971,.bool true,yi 8,yi 11,yi 1,.func (.func 172) #[] #[]] 170)).setCell ⟨w.heap.size,0,none⟩ (yi 2)).setCell ⟨w.heap.size,1,none⟩ (yi 53)).setCell ⟨w.heap.size,2,none⟩ (yi (-1074))).setCell ⟨w.heap.size,3,none⟩ (yi 971)).setCell ⟨w.heap.size,4,none⟩ (.bool true)) w.heap.size 48 (ygL 2 53 (-1074) 971 true):=(((((l3.set 0 (yi 2)).set 1 (yi 53)).set 2 (yi (-1074))).set 3 (yi 971)).set 4 (.bool true));have bR:=(((((ag (w2.alloc (.cells #[yi 2,yi 53,yi (-1074),yi 971,.bool true,yi 8,yi 11,yi 1,.func (.func 172) #[] #[]] 170)) w.heap.size 0 (yi 2)).trans (ag _ w.heap.size 1 (yi 53))).trans (ag _ w.heap.size 2 (yi (-1074)))).trans (ag _ w.heap.size 3 (yi 971))).trans (ag _ w.heap.size 4 (.bool true))).below (aa (aa b0 b2) (af w2 (.cells #[yi 2,yi 53,yi (-1074),yi 971,.bool true,yi 8,yi 11,yi 1,.func (.func 172) #[] #[]] 170))) (Nat.le_refl _);have hl:=run_loadVar_mid (P:=Tryz.prog) _ w.heap.size 0 48 (ygL 2 53 (-1074) 971 true) _ cR.range underlying48 rfl (by kernel_rfl);have HH:Hid (_∧_):=⟨hl,bR⟩;have x0:=l3.c 0 rfl;have f0:=l3.f 0;have x1:=l3.c 1 rfl;have f1:=l3.f 1;have x2:=l3.c 2 rfl;have f2:=l3.f 2;have x3:=l3.c 3 rfl;have f3:=l3.f 3;have x4:=l3.c 4 rfl;have f4:=l3.f 4;have hne:w2.heap.size≠w.heap.size:=Nat.ne_of_gt (l0.l b2).lt;clear hl bR cR l0 l3 b0 b2 HL
 go_wp2
 obtain⟨hl,bR⟩:=HH.out;exact bodyPost_ret (aj results83 rfl rfl hl) rfl ⟨rfl,bR⟩
theorem SP (w:World):yC 83 #[yi 3] w (yR w (.tuple #[ygV 2 64 (-16445) 16320 true,yi 0])):=by
 have HL:Hid (yJ 117 #[yi 3] (.tuple #[.agg #[yi 2,yi 64,yi (-16445),yi 16320,.bool true,yi 10,yi 15,yi 1,.func (.func 173) #[] #[]],yi 0])):=fun w1=>uW w1
 have hsf:=cD;have hsn:=gn;have l0:=ah w (ygL 0 0 0 0 false) 48;have b0:=af w (.cells (ygA 0 0 0 0 false) 48)
 go_enter func83,ntmps83
 go_wp2_with fail
 refine(HL.out _).mono ?_;rintro z w2 ⟨rfl,b2⟩;have l3:=(l0.l b2).l (af w2 (.cells #[yi 2,yi 64,yi (-16445),yi 16320,.bool true,yi 10,yi 15,yi 1,.func (.func 173) #[] #[]] 170));have cR:au ((((((w2.alloc (.cells #[yi 2,yi 64,yi (-16445),yi 16320,.bool true,yi 10,yi 15,yi 1,.func (.func 173) #[] #[]] 170)).setCell ⟨w.heap.size,0,none⟩ (yi 2)).setCell ⟨w.heap.size,1,none⟩ (yi 64)).setCell ⟨w.heap.size,2,none⟩ (yi (-16445))).setCell ⟨w.heap.size,3,none⟩ (yi 16320)).setCell ⟨w.heap.size,4,none⟩ (.bool true)) w.heap.size 48 (ygL 2 64 (-16445) 16320 true):=(((((l3.set 0 (yi 2)).set 1 (yi 64)).set 2 (yi (-16445))).set 3 (yi 16320)).set 4 (.bool true));have bR:=(((((ag (w2.alloc (.cells #[yi 2,yi 64,yi (-16445),yi 16320,.bool true,yi 10,yi 15,yi 1,.func (.func 173) #[] #[]] 170)) w.heap.size 0 (yi 2)).trans (ag _ w.heap.size 1 (yi 64))).trans (ag _ w.heap.size 2 (yi (-16445)))).trans (ag _ w.heap.size 3 (yi 16320))).trans (ag _ w.heap.size 4 (.bool true))).below (aa (aa b0 b2) (af w2 (.cells #[yi 2,yi 64,yi (-16445),yi 16320,.bool true,yi 10,yi 15,yi 1,.func (.func 173) #[] #[]] 170))) (Nat.le_refl _);have hl:=run_loadVar_mid (P:=Tryz.prog) _ w.heap.size 0 48 (ygL 2 64 (-16445) 16320 true) _ cR.range underlying48 rfl (by kernel_rfl);have HH:Hid (_∧_):=⟨hl,bR⟩;have x0:=l3.c 0 rfl;have f0:=l3.f 0;have x1:=l3.c 1 rfl;have f1:=l3.f 1;have x2:=l3.c 2 rfl;have f2:=l3.f 2;have x3:=l3.c 3 rfl;have f3:=l3.f 3;have x4:=l3.c 4 rfl;have f4:=l3.f 4;have hne:w2.heap.size≠w.heap.size:=Nat.ne_of_gt (l0.l b2).lt;clear hl bR cR l0 l3 b0 b2 HL
 go_wp2
 obtain⟨hl,bR⟩:=HH.out;exact bodyPost_ret (aj results83 rfl rfl hl) rfl ⟨rfl,bR⟩
theorem SQ (w:World):yC 83 #[yi 4] w (yR w (.tuple #[ygV 16 6 (-70) 57 false,yi 0])):=by
 have HL:Hid (yJ 117 #[yi 4] (.tuple #[.agg #[yi 16,yi 6,yi (-70),yi 57,.bool false,yi 4,yi 7,yi 2,.func (.func 172) #[] #[]],yi 0])):=fun w1=>uX w1
 have hsf:=cD;have hsn:=gn;have l0:=ah w (ygL 0 0 0 0 false) 48;have b0:=af w (.cells (ygA 0 0 0 0 false) 48)
 go_enter func83,ntmps83
 go_wp2_with fail
 refine(HL.out _).mono ?_;rintro z w2 ⟨rfl,b2⟩;have l3:=(l0.l b2).l (af w2 (.cells #[yi 16,yi 6,yi (-70),yi 57,.bool false,yi 4,yi 7,yi 2,.func (.func 172) #[] #[]] 170));have cR:au ((((((w2.alloc (.cells #[yi 16,yi 6,yi (-70),yi 57,.bool false,yi 4,yi 7,yi 2,.func (.func 172) #[] #[]] 170)).setCell ⟨w.heap.size,0,none⟩ (yi 16)).setCell ⟨w.heap.size,1,none⟩ (yi 6)).setCell ⟨w.heap.size,2,none⟩ (yi (-70))).setCell ⟨w.heap.size,3,none⟩ (yi 57)).setCell ⟨w.heap.size,4,none⟩ (.bool false)) w.heap.size 48 (ygL 16 6 (-70) 57 false):=(((((l3.set 0 (yi 16)).set 1 (yi 6)).set 2 (yi (-70))).set 3 (yi 57)).set 4 (.bool false));have bR:=(((((ag (w2.alloc (.cells #[yi 16,yi 6,yi (-70),yi 57,.bool false,yi 4,yi 7,yi 2,.func (.func 172) #[] #[]] 170)) w.heap.size 0 (yi 16)).trans (ag _ w.heap.size 1 (yi 6))).trans (ag _ w.heap.size 2 (yi (-70)))).trans (ag _ w.heap.size 3 (yi 57))).trans (ag _ w.heap.size 4 (.bool false))).below (aa (aa b0 b2) (af w2 (.cells #[yi 16,yi 6,yi (-70),yi 57,.bool false,yi 4,yi 7,yi 2,.func (.func 172) #[] #[]] 170))) (Nat.le_refl _);have hl:=run_loadVar_mid (P:=Tryz.prog) _ w.heap.size 0 48 (ygL 16 6 (-70) 57 false) _ cR.range underlying48 rfl (by kernel_rfl);have HH:Hid (_∧_):=⟨hl,bR⟩;have x0:=l3.c 0 rfl;have f0:=l3.f 0;have x1:=l3.c 1 rfl;have f1:=l3.f 1;have x2:=l3.c 2 rfl;have f2:=l3.f 2;have x3:=l3.c 3 rfl;have f3:=l3.f 3;have x4:=l3.c 4 rfl;have f4:=l3.f 4;have hne:w2.heap.size≠w.heap.size:=Nat.ne_of_gt (l0.l b2).lt;clear hl bR cR l0 l3 b0 b2 HL
 go_wp2
 obtain⟨hl,bR⟩:=HH.out;exact bodyPost_ret (aj results83 rfl rfl hl) rfl ⟨rfl,bR⟩
theorem SR (w:World):yC 83 #[yi 5] w (yR w (.tuple #[ygV 16 14 (-78) 49 false,yi 0])):=by
 have HL:Hid (yJ 117 #[yi 5] (.tuple #[.agg #[yi 16,yi 14,yi (-78),yi 49,.bool false,yi 8,yi 7,yi 2,.func (.func 172) #[] #[]],yi 0])):=fun w1=>uY w1
 have hsf:=cD;have hsn:=gn;have l0:=ah w (ygL 0 0 0 0 false) 48;have b0:=af w (.cells (ygA 0 0 0 0 false) 48)
 go_enter func83,ntmps83
 go_wp2_with fail
 refine(HL.out _).mono ?_;rintro z w2 ⟨rfl,b2⟩;have l3:=(l0.l b2).l (af w2 (.cells #[yi 16,yi 14,yi (-78),yi 49,.bool false,yi 8,yi 7,yi 2,.func (.func 172) #[] #[]] 170));have cR:au ((((((w2.alloc (.cells #[yi 16,yi 14,yi (-78),yi 49,.bool false,yi 8,yi 7,yi 2,.func (.func 172) #[] #[]] 170)).setCell ⟨w.heap.size,0,none⟩ (yi 16)).setCell ⟨w.heap.size,1,none⟩ (yi 14)).setCell ⟨w.heap.size,2,none⟩ (yi (-78))).setCell ⟨w.heap.size,3,none⟩ (yi 49)).setCell ⟨w.heap.size,4,none⟩ (.bool false)) w.heap.size 48 (ygL 16 14 (-78) 49 false):=(((((l3.set 0 (yi 16)).set 1 (yi 14)).set 2 (yi (-78))).set 3 (yi 49)).set 4 (.bool false));have bR:=(((((ag (w2.alloc (.cells #[yi 16,yi 14,yi (-78),yi 49,.bool false,yi 8,yi 7,yi 2,.func (.func 172) #[] #[]] 170)) w.heap.size 0 (yi 16)).trans (ag _ w.heap.size 1 (yi 14))).trans (ag _ w.heap.size 2 (yi (-78)))).trans (ag _ w.heap.size 3 (yi 49))).trans (ag _ w.heap.size 4 (.bool false))).below (aa (aa b0 b2) (af w2 (.cells #[yi 16,yi 14,yi (-78),yi 49,.bool false,yi 8,yi 7,yi 2,.func (.func 172) #[] #[]] 170))) (Nat.le_refl _);have hl:=run_loadVar_mid (P:=Tryz.prog) _ w.heap.size 0 48 (ygL 16 14 (-78) 49 false) _ cR.range underlying48 rfl (by kernel_rfl);have HH:Hid (_∧_):=⟨hl,bR⟩;have x0:=l3.c 0 rfl;have f0:=l3.f 0;have x1:=l3.c 1 rfl;have f1:=l3.f 1;have x2:=l3.c 2 rfl;have f2:=l3.f 2;have x3:=l3.c 3 rfl;have f3:=l3.f 3;have x4:=l3.c 4 rfl;have f4:=l3.f 4;have hne:w2.heap.size≠w.heap.size:=Nat.ne_of_gt (l0.l b2).lt;clear hl bR cR l0 l3 b0 b2 HL
 go_wp2
 obtain⟨hl,bR⟩:=HH.out;exact bodyPost_ret (aj results83 rfl rfl hl) rfl ⟨rfl,bR⟩
theorem SS (w:World):yC 83 #[yi 6] w (yR w (.tuple #[ygV 2 24 (-151) 103 false,yi 0])):=by
 have HL:Hid (yJ 117 #[yi 6] (.tuple #[.agg #[yi 2,yi 24,yi (-151),yi 103,.bool false,yi 4,yi 8,yi 3,.func (.func 175) #[] #[]],yi 0])):=fun w1=>uZ w1
 have hsf:=cD;have hsn:=gn;have l0:=ah w (ygL 0 0 0 0 false) 48;have b0:=af w (.cells (ygA 0 0 0 0 false) 48)
 go_enter func83,ntmps83
 go_wp2_with fail
 refine(HL.out _).mono ?_;rintro z w2 ⟨rfl,b2⟩;have l3:=(l0.l b2).l (af w2 (.cells #[yi 2,yi 24,yi (-151),yi 103,.bool false,yi 4,yi 8,yi 3,.func (.func 175) #[] #[]] 170));have cR:au ((((((w2.alloc (.cells #[yi 2,yi 24,yi (-151),yi 103,.bool false,yi 4,yi 8,yi 3,.func (.func 175) #[] #[]] 170)).setCell ⟨w.heap.size,0,none⟩ (yi 2)).setCell ⟨w.heap.size,1,none⟩ (yi 24)).setCell ⟨w.heap.size,2,none⟩ (yi (-151))).setCell ⟨w.heap.size,3,none⟩ (yi 103)).setCell ⟨w.heap.size,4,none⟩ (.bool false)) w.heap.size 48 (ygL 2 24 (-151) 103 false):=(((((l3.set 0 (yi 2)).set 1 (yi 24)).set 2 (yi (-151))).set 3 (yi 103)).set 4 (.bool false));have bR:=(((((ag (w2.alloc (.cells #[yi 2,yi 24,yi (-151),yi 103,.bool false,yi 4,yi 8,yi 3,.func (.func 175) #[] #[]] 170)) w.heap.size 0 (yi 2)).trans (ag _ w.heap.size 1 (yi 24))).trans (ag _ w.heap.size 2 (yi (-151)))).trans (ag _ w.heap.size 3 (yi 103))).trans (ag _ w.heap.size 4 (.bool false))).below (aa (aa b0 b2) (af w2 (.cells #[yi 2,yi 24,yi (-151),yi 103,.bool false,yi 4,yi 8,yi 3,.func (.func 175) #[] #[]] 170))) (Nat.le_refl _);have hl:=run_loadVar_mid (P:=Tryz.prog) _ w.heap.size 0 48 (ygL 2 24 (-151) 103 false) _ cR.range underlying48 rfl (by kernel_rfl);have HH:Hid (_∧_):=⟨hl,bR⟩;have x0:=l3.c 0 rfl;have f0:=l3.f 0;have x1:=l3.c 1 rfl;have f1:=l3.f 1;have x2:=l3.c 2 rfl;have f2:=l3.f 2;have x3:=l3.c 3 rfl;have f3:=l3.f 3;have x4:=l3.c 4 rfl;have f4:=l3.f 4;have hne:w2.heap.size≠w.heap.size:=Nat.ne_of_gt (l0.l b2).lt;clear hl bR cR l0 l3 b0 b2 HL
 go_wp2
 obtain⟨hl,bR⟩:=HH.out;exact bodyPost_ret (aj results83 rfl rfl hl) rfl ⟨rfl,bR⟩
theorem ST (w:World):yC 83 #[yi 7] w (yR w (.tuple #[ygV 2 56 (-183) 71 false,yi 0])):=by
 have HL:Hid (yJ 117 #[yi 7] (.tuple #[.agg #[yi 2,yi 56,yi (-183),yi 71,.bool false,yi 8,yi 8,yi 3,.func (.func 175) #[] #[]],yi 0])):=fun w1=>vf w1
 have hsf:=cD;have hsn:=gn;have l0:=ah w (ygL 0 0 0 0 false) 48;have b0:=af w (.cells (ygA 0 0 0 0 false) 48)
 go_enter func83,ntmps83
 go_wp2_with fail
 refine(HL.out _).mono ?_;rintro z w2 ⟨rfl,b2⟩;have l3:=(l0.l b2).l (af w2 (.cells #[yi 2,yi 56,yi (-183),yi 71,.bool false,yi 8,yi 8,yi 3,.func (.func 175) #[] #[]] 170));have cR:au ((((((w2.alloc (.cells #[yi 2,yi 56,yi (-183),yi 71,.bool false,yi 8,yi 8,yi 3,.func (.func 175) #[] #[]] 170)).setCell ⟨w.heap.size,0,none⟩ (yi 2)).setCell ⟨w.heap.size,1,none⟩ (yi 56)).setCell ⟨w.heap.size,2,none⟩ (yi (-183))).setCell ⟨w.heap.size,3,none⟩ (yi 71)).setCell ⟨w.heap.size,4,none⟩ (.bool false)) w.heap.size 48 (ygL 2 56 (-183) 71 false):=(((((l3.set 0 (yi 2)).set 1 (yi 56)).set 2 (yi (-183))).set 3 (yi 71)).set 4 (.bool false));have bR:=(((((ag (w2.alloc (.cells #[yi 2,yi 56,yi (-183),yi 71,.bool false,yi 8,yi 8,yi 3,.func (.func 175) #[] #[]] 170)) w.heap.size 0 (yi 2)).trans (ag _ w.heap.size 1 (yi 56))).trans (ag _ w.heap.size 2 (yi (-183)))).trans (ag _ w.heap.size 3 (yi 71))).trans (ag _ w.heap.size 4 (.bool false))).below (aa (aa b0 b2) (af w2 (.cells #[yi 2,yi 56,yi (-183),yi 71,.bool false,yi 8,yi 8,yi 3,.func (.func 175) #[] #[]] 170))) (Nat.le_refl _);have hl:=run_loadVar_mid (P:=Tryz.prog) _ w.heap.size 0 48 (ygL 2 56 (-183) 71 false) _ cR.range underlying48 rfl (by kernel_rfl);have HH:Hid (_∧_):=⟨hl,bR⟩;have x0:=l3.c 0 rfl;have f0:=l3.f 0;have x1:=l3.c 1 rfl;have f1:=l3.f 1;have x2:=l3.c 2 rfl;have f2:=l3.f 2;have x3:=l3.c 3 rfl;have f3:=l3.f 3;have x4:=l3.c 4 rfl;have f4:=l3.f 4;have hne:w2.heap.size≠w.heap.size:=Nat.ne_of_gt (l0.l b2).lt;clear hl bR cR l0 l3 b0 b2 HL
 go_wp2
 obtain⟨hl,bR⟩:=HH.out;exact bodyPost_ret (aj results83 rfl rfl hl) rfl ⟨rfl,bR⟩
theorem SU (w:World):yC 83 #[yi 8] w (yR w (.tuple #[ygV 2 53 (-1076) 970 false,yi 0])):=by
 have HL:Hid (yJ 117 #[yi 8] (.tuple #[.agg #[yi 2,yi 53,yi (-1076),yi 970,.bool false,yi 8,yi 11,yi 3,.func (.func 175) #[] #[]],yi 0])):=fun w1=>vh w1
 have hsf:=cD;have hsn:=gn;have l0:=ah w (ygL 0 0 0 0 false) 48;have b0:=af w (.cells (ygA 0 0 0 0 false) 48)
 go_enter func83,ntmps83
 go_wp2_with fail
 refine(HL.out _).mono ?_;rintro z w2 ⟨rfl,b2⟩;have l3:=(l0.l b2).l (af w2 (.cells #[yi 2,yi 53,yi (-1076),yi 970,.bool false,yi 8,yi 11,yi 3,.func (.func 175) #[] #[]] 170));have cR:au ((((((w2.alloc (.cells #[yi 2,yi 53,yi (-1076),yi 970,.bool false,yi 8,yi 11,yi 3,.func (.func 175) #[] #[]] 170)).setCell ⟨w.heap.size,0,none⟩ (yi 2)).setCell ⟨w.heap.size,1,none⟩ (yi 53)).setCell ⟨w.heap.size,2,none⟩ (yi (-1076))).setCell ⟨w.heap.size,3,none⟩ (yi 970)).setCell ⟨w.heap.size,4,none⟩ (.bool false)) w.heap.size 48 (ygL 2 53 (-1076) 970 false):=(((((l3.set 0 (yi 2)).set 1 (yi 53)).set 2 (yi (-1076))).set 3 (yi 970)).set 4 (.bool false));have bR:=(((((ag (w2.alloc (.cells #[yi 2,yi 53,yi (-1076),yi 970,.bool false,yi 8,yi 11,yi 3,.func (.func 175) #[] #[]] 170)) w.heap.size 0 (yi 2)).trans (ag _ w.heap.size 1 (yi 53))).trans (ag _ w.heap.size 2 (yi (-1076)))).trans (ag _ w.heap.size 3 (yi 970))).trans (ag _ w.heap.size 4 (.bool false))).below (aa (aa b0 b2) (af w2 (.cells #[yi 2,yi 53,yi (-1076),yi 970,.bool false,yi 8,yi 11,yi 3,.func (.func 175) #[] #[]] 170))) (Nat.le_refl _);have hl:=run_loadVar_mid (P:=Tryz.prog) _ w.heap.size 0 48 (ygL 2 53 (-1076) 970 false) _ cR.range underlying48 rfl (by kernel_rfl);have HH:Hid (_∧_):=⟨hl,bR⟩;have x0:=l3.c 0 rfl;have f0:=l3.f 0;have x1:=l3.c 1 rfl;have f1:=l3.f 1;have x2:=l3.c 2 rfl;have f2:=l3.f 2;have x3:=l3.c 3 rfl;have f3:=l3.f 3;have x4:=l3.c 4 rfl;have f4:=l3.f 4;have hne:w2.heap.size≠w.heap.size:=Nat.ne_of_gt (l0.l b2).lt;clear hl bR cR l0 l3 b0 b2 HL
 go_wp2
 obtain⟨hl,bR⟩:=HH.out;exact bodyPost_ret (aj results83 rfl rfl hl) rfl ⟨rfl,bR⟩
theorem nD (a b c d e f g:Int)(w:World):yC 47 #[yi a,yi b,yi c,yi d,yi e,yi f,yi g] w (yR w (yhV a b c 2 d e f (g==1) g)):=by
 go_enter func47,ntmps47
 go_wp2
 go_returns
 exact⟨rfl,af _ _⟩
theorem oT (n:Int)(w:World)(h:dK n=0):yC 18 #[yi n] w (yR w (.tuple #[yhV 0 0 0 0 0 0 0 false 0,.bool false])):=by
 have hn:n<1∨8<n:=by
  unfold dK at h
  by_cases c:n<1∨8<n
  ·exact c
  ·rw[if_neg c] at h
   split at h
   ·omega
   ·split at h<;>omega
 clear h;have e1:(n==1)=false:=by simp;omega
 have e2:(n==2)=false:=by simp;omega
 have e3:(n==3)=false:=by simp;omega
 have e4:(n==4)=false:=by simp;omega
 have e5:(n==5)=false:=by simp;omega
 have e6:(n==6)=false:=by simp;omega
 have e7:(n==7)=false:=by simp;omega
 have e8:(n==8)=false:=by simp;omega
 have l0:=ah w (yhL 0 0 0 0 0 0 0 false 0) 50;have b0:=af w (.cells (yhA 0 0 0 0 0 0 0 false 0) 50);have hl:=run_loadVar_mid (P:=Tryz.prog) _ w.heap.size 0 50 (yhL 0 0 0 0 0 0 0 false 0) _ l0.range underlying50 rfl (by kernel_rfl);have HH:Hid (_∧_):=⟨hl,b0⟩;clear hl b0 l0
 go_enter func18,ntmps18
 go_wp2
 obtain⟨hl,bR⟩:=HH.out;exact bodyPost_ret (aj results18 rfl rfl hl) rfl ⟨rfl,bR⟩
theorem Ly (w:World):yC 18 #[yi 1] w (yR w (.tuple #[yhV 4 8 23 2 24 (-149) 104 true 1,.bool true])):=by
 have HT:Hid (yJ 47 #[yi 4,yi 8,yi 23,yi 24,yi (-149),yi 104,yi 1] (yhV 4 8 23 2 24 (-149) 104 true 1)):=fun w1=>nD _ _ _ _ _ _ _ w1
 have l0:=ah w (yhL 0 0 0 0 0 0 0 false 0) 50;have b0:=af w (.cells (yhA 0 0 0 0 0 0 0 false 0) 50)
 go_enter func18,ntmps18
 go_wp2_with fail
 refine(HT.out _).mono ?_;rintro z w2 ⟨rfl,b2⟩;have l2:=l0.l b2;have cR:au (((((((((w2.setCell ⟨w.heap.size,0,none⟩ (yi 4)).setCell ⟨w.heap.size,1,none⟩ (yi 8)).setCell ⟨w.heap.size,2,none⟩ (yi 23)).setCell ⟨w.heap.size,3,none⟩ (yi 2)).setCell ⟨w.heap.size,4,none⟩ (yi 24)).setCell ⟨w.heap.size,5,none⟩ (yi (-149))).setCell ⟨w.heap.size,6,none⟩ (yi 104)).setCell ⟨w.heap.size,7,none⟩ (.bool true)).setCell ⟨w.heap.size,8,none⟩ (yi 1)) w.heap.size 50 (yhL 4 8 23 2 24 (-149) 104 true 1):=(((((((((l2.set 0 (yi 4)).set 1 (yi 8)).set 2 (yi 23)).set 3 (yi 2)).set 4 (yi 24)).set 5 (yi (-149))).set 6 (yi 104)).set 7 (.bool true)).set 8 (yi 1));have bR:=(((((((((ag w2 w.heap.size 0 (yi 4)).trans (ag _ w.heap.size 1 (yi 8))).trans (ag _ w.heap.size 2 (yi 23))).trans (ag _ w.heap.size 3 (yi 2))).trans (ag _ w.heap.size 4 (yi 24))).trans (ag _ w.heap.size 5 (yi (-149)))).trans (ag _ w.heap.size 6 (yi 104))).trans (ag _ w.heap.size 7 (.bool true))).trans (ag _ w.heap.size 8 (yi 1))).below (aa b0 b2) (Nat.le_refl _);have hl:=run_loadVar_mid (P:=Tryz.prog) _ w.heap.size 0 50 (yhL 4 8 23 2 24 (-149) 104 true 1) _ cR.range underlying50 rfl (by kernel_rfl);have HH:Hid (_∧_):=⟨hl,bR⟩;have x0:=l2.c 0 rfl;have f0:=l2.f 0;have x1:=l2.c 1 rfl;have f1:=l2.f 1;have x2:=l2.c 2 rfl;have f2:=l2.f 2;have x3:=l2.c 3 rfl;have f3:=l2.f 3;have x4:=l2.c 4 rfl;have f4:=l2.f 4;have x5:=l2.c 5 rfl;have f5:=l2.f 5;have x6:=l2.c 6 rfl;have f6:=l2.f 6;have x7:=l2.c 7 rfl;have f7:=l2.f 7;have x8:=l2.c 8 rfl;have f8:=l2.f 8;clear hl bR cR l0 l2 b0 b2 HT
 go_wp2
 obtain⟨hl,bR⟩:=HH.out;exact bodyPost_ret (aj results18 rfl rfl hl) rfl ⟨rfl,bR⟩
theorem Lz (w:World):yC 18 #[yi 2] w (yR w (.tuple #[yhV 8 11 52 2 53 (-1074) 971 true 1,.bool true])):=by
 have HT:Hid (yJ 47 #[yi 8,yi 11,yi 52,yi 53,yi (-1074),yi 971,yi 1] (yhV 8 11 52 2 53 (-1074) 971 true 1)):=fun w1=>nD _ _ _ _ _ _ _ w1
 have l0:=ah w (yhL 0 0 0 0 0 0 0 false 0) 50;have b0:=af w (.cells (yhA 0 0 0 0 0 0 0 false 0) 50)
 go_enter func18,ntmps18
 go_wp2_with fail
 refine(HT.out _).mono ?_;rintro z w2 ⟨rfl,b2⟩;have l2:=l0.l b2;have cR:au (((((((((w2.setCell ⟨w.heap.size,0,none⟩ (yi 8)).setCell ⟨w.heap.size,1,none⟩ (yi 11)).setCell ⟨w.heap.size,2,none⟩ (yi 52)).setCell ⟨w.heap.size,3,none⟩ (yi 2)).setCell ⟨w.heap.size,4,none⟩ (yi 53)).setCell ⟨w.heap.size,5,none⟩ (yi (-1074))).setCell ⟨w.heap.size,6,none⟩ (yi 971)).setCell ⟨w.heap.size,7,none⟩ (.bool true)).setCell ⟨w.heap.size,8,none⟩ (yi 1)) w.heap.size 50 (yhL 8 11 52 2 53 (-1074) 971 true 1):=(((((((((l2.set 0 (yi 8)).set 1 (yi 11)).set 2 (yi 52)).set 3 (yi 2)).set 4 (yi 53)).set 5 (yi (-1074))).set 6 (yi 971)).set 7 (.bool true)).set 8 (yi 1));have bR:=(((((((((ag w2 w.heap.size 0 (yi 8)).trans (ag _ w.heap.size 1 (yi 11))).trans (ag _ w.heap.size 2 (yi 52))).trans (ag _ w.heap.size 3 (yi 2))).trans (ag _ w.heap.size 4 (yi 53))).trans (ag _ w.heap.size 5 (yi (-1074)))).trans (ag _ w.heap.size 6 (yi 971))).trans (ag _ w.heap.size 7 (.bool true))).trans (ag _ w.heap.size 8 (yi 1))).below (aa b0 b2) (Nat.le_refl _);have hl:=run_loadVar_mid (P:=Tryz.prog) _ w.heap.size 0 50 (yhL 8 11 52 2 53 (-1074) 971 true 1) _ cR.range underlying50 rfl (by kernel_rfl);have HH:Hid (_∧_):=⟨hl,bR⟩;have x0:=l2.c 0 rfl;have f0:=l2.f 0;have x1:=l2.c 1 rfl;have f1:=l2.f 1;have x2:=l2.c 2 rfl;have f2:=l2.f 2;have x3:=l2.c 3 rfl;have f3:=l2.f 3;have x4:=l2.c 4 rfl;have f4:=l2.f 4;have x5:=l2.c 5 rfl;have f5:=l2.f 5;have x6:=l2.c 6 rfl;have f6:=l2.f 6;have x7:=l2.c 7 rfl;have f7:=l2.f 7;have x8:=l2.c 8 rfl;have f8:=l2.f 8;clear hl bR cR l0 l2 b0 b2 HT
 go_wp2
 obtain⟨hl,bR⟩:=HH.out;exact bodyPost_ret (aj results18 rfl rfl hl) rfl ⟨rfl,bR⟩
theorem LA (w:World):yC 18 #[yi 3] w (yR w (.tuple #[yhV 10 15 64 2 64 (-16445) 16320 true 1,.bool true])):=by
 have HT:Hid (yJ 47 #[yi 10,yi 15,yi 64,yi 64,yi (-16445),yi 16320,yi 1] (yhV 10 15 64 2 64 (-16445) 16320 true 1)):=fun w1=>nD _ _ _ _ _ _ _ w1
 have l0:=ah w (yhL 0 0 0 0 0 0 0 false 0) 50;have b0:=af w (.cells (yhA 0 0 0 0 0 0 0 false 0) 50)
 go_enter func18,ntmps18
 go_wp2_with fail
 refine(HT.out _).mono ?_;rintro z w2 ⟨rfl,b2⟩;have l2:=l0.l b2;have cR:au (((((((((w2.setCell ⟨w.heap.size,0,none⟩ (yi 10)).setCell ⟨w.heap.size,1,none⟩ (yi 15)).setCell ⟨w.heap.size,2,none⟩ (yi 64)).setCell ⟨w.heap.size,3,none⟩ (yi 2)).setCell ⟨w.heap.size,4,none⟩ (yi 64)).setCell ⟨w.heap.size,5,none⟩ (yi (-16445))).setCell ⟨w.heap.size,6,none⟩ (yi 16320)).setCell ⟨w.heap.size,7,none⟩ (.bool true)).setCell ⟨w.heap.size,8,none⟩ (yi 1)) w.heap.size 50 (yhL 10 15 64 2 64 (-16445) 16320 true 1):=(((((((((l2.set 0 (yi 10)).set 1 (yi 15)).set 2 (yi 64)).set 3 (yi 2)).set 4 (yi 64)).set 5 (yi (-16445))).set 6 (yi 16320)).set 7 (.bool true)).set 8 (yi 1));have bR:=(((((((((ag w2 w.heap.size 0 (yi 10)).trans (ag _ w.heap.size 1 (yi 15))).trans (ag _ w.heap.size 2 (yi 64))).trans (ag _ w.heap.size 3 (yi 2))).trans (ag _ w.heap.size 4 (yi 64))).trans (ag _ w.heap.size 5 (yi (-16445)))).trans (ag _ w.heap.size 6 (yi 16320))).trans (ag _ w.heap.size 7 (.bool true))).trans (ag _ w.heap.size 8 (yi 1))).below (aa b0 b2) (Nat.le_refl _);have hl:=run_loadVar_mid (P:=Tryz.prog) _ w.heap.size 0 50 (yhL 10 15 64 2 64 (-16445) 16320 true 1) _ cR.range underlying50 rfl (by kernel_rfl);have HH:Hid (_∧_):=⟨hl,bR⟩;have x0:=l2.c 0 rfl;have f0:=l2.f 0;have x1:=l2.c 1 rfl;have f1:=l2.f 1;have x2:=l2.c 2 rfl;have f2:=l2.f 2;have x3:=l2.c 3 rfl;have f3:=l2.f 3;have x4:=l2.c 4 rfl;have f4:=l2.f 4;have x5:=l2.c 5 rfl;have f5:=l2.f 5;have x6:=l2.c 6 rfl;have f6:=l2.f 6;have x7:=l2.c 7 rfl;have f7:=l2.f 7;have x8:=l2.c 8 rfl;have f8:=l2.f 8;clear hl bR cR l0 l2 b0 b2 HT
 go_wp2
 obtain⟨hl,bR⟩:=HH.out;exact bodyPost_ret (aj results18 rfl rfl hl) rfl ⟨rfl,bR⟩
theorem LC (w:World):yC 18 #[yi 4] w (yR w (.tuple #[yhV 4 7 24 16 6 (-70) 57 false 2,.bool true])):=by
 have l0:=ah w (yhL 4 7 24 16 6 (-70) 57 false 2) 50;have b0:=af w (.cells (yhA 4 7 24 16 6 (-70) 57 false 2) 50);have hl:=run_loadVar_mid (P:=Tryz.prog) _ w.heap.size 0 50 (yhL 4 7 24 16 6 (-70) 57 false 2) _ l0.range underlying50 rfl (by kernel_rfl);have HH:Hid (_∧_):=⟨hl,b0⟩;clear hl b0 l0
 go_enter func18,ntmps18
 go_wp2
 obtain⟨hl,bR⟩:=HH.out;exact bodyPost_ret (aj results18 rfl rfl hl) rfl ⟨rfl,bR⟩
theorem LD (w:World):yC 18 #[yi 5] w (yR w (.tuple #[yhV 8 7 56 16 14 (-78) 49 false 2,.bool true])):=by
 have l0:=ah w (yhL 8 7 56 16 14 (-78) 49 false 2) 50;have b0:=af w (.cells (yhA 8 7 56 16 14 (-78) 49 false 2) 50);have hl:=run_loadVar_mid (P:=Tryz.prog) _ w.heap.size 0 50 (yhL 8 7 56 16 14 (-78) 49 false 2) _ l0.range underlying50 rfl (by kernel_rfl);have HH:Hid (_∧_):=⟨hl,b0⟩;clear hl b0 l0
 go_enter func18,ntmps18
 go_wp2
 obtain⟨hl,bR⟩:=HH.out;exact bodyPost_ret (aj results18 rfl rfl hl) rfl ⟨rfl,bR⟩
theorem LE (w:World):yC 18 #[yi 6] w (yR w (.tuple #[yhV 4 8 23 2 24 (-151) 103 false 3,.bool true])):=by
 have HT:Hid (yJ 47 #[yi 4,yi 8,yi 23,yi 24,yi (-151),yi 103,yi 3] (yhV 4 8 23 2 24 (-151) 103 false 3)):=fun w1=>nD _ _ _ _ _ _ _ w1
 have l0:=ah w (yhL 0 0 0 0 0 0 0 false 0) 50;have b0:=af w (.cells (yhA 0 0 0 0 0 0 0 false 0) 50)
 go_enter func18,ntmps18
 go_wp2_with fail
 refine(HT.out _).mono ?_;rintro z w2 ⟨rfl,b2⟩;have l2:=l0.l b2;have cR:au (((((((((w2.setCell ⟨w.heap.size,0,none⟩ (yi 4)).setCell ⟨w.heap.size,1,none⟩ (yi 8)).setCell ⟨w.heap.size,2,none⟩ (yi 23)).setCell ⟨w.heap.size,3,none⟩ (yi 2)).setCell ⟨w.heap.size,4,none⟩ (yi 24)).setCell ⟨w.heap.size,5,none⟩ (yi (-151))).setCell ⟨w.heap.size,6,none⟩ (yi 103)).setCell ⟨w.heap.size,7,none⟩ (.bool false)).setCell ⟨w.heap.size,8,none⟩ (yi 3)) w.heap.size 50 (yhL 4 8 23 2 24 (-151) 103 false 3):=(((((((((l2.set 0 (yi 4)).set 1 (yi 8)).set 2 (yi 23)).set 3 (yi 2)).set 4 (yi 24)).set 5 (yi (-151))).set 6 (yi 103)).set 7 (.bool false)).set 8 (yi 3));have bR:=(((((((((ag w2 w.heap.size 0 (yi 4)).trans (ag _ w.heap.size 1 (yi 8))).trans (ag _ w.heap.size 2 (yi 23))).trans (ag _ w.heap.size 3 (yi 2))).trans (ag _ w.heap.size 4 (yi 24))).trans (ag _ w.heap.size 5 (yi (-151)))).trans (ag _ w.heap.size 6 (yi 103))).trans (ag _ w.heap.size 7 (.bool false))).trans (ag _ w.heap.size 8 (yi 3))).below (aa b0 b2) (Nat.le_refl _);have hl:=run_loadVar_mid (P:=Tryz.prog) _ w.heap.size 0 50 (yhL 4 8 23 2 24 (-151) 103 false 3) _ cR.range underlying50 rfl (by kernel_rfl);have HH:Hid (_∧_):=⟨hl,bR⟩;have x0:=l2.c 0 rfl;have f0:=l2.f 0;have x1:=l2.c 1 rfl;have f1:=l2.f 1;have x2:=l2.c 2 rfl;have f2:=l2.f 2;have x3:=l2.c 3 rfl;have f3:=l2.f 3;have x4:=l2.c 4 rfl;have f4:=l2.f 4;have x5:=l2.c 5 rfl;have f5:=l2.f 5;have x6:=l2.c 6 rfl;have f6:=l2.f 6;have x7:=l2.c 7 rfl;have f7:=l2.f 7;have x8:=l2.c 8 rfl;have f8:=l2.f 8;clear hl bR cR l0 l2 b0 b2 HT
 go_wp2
 obtain⟨hl,bR⟩:=HH.out;exact bodyPost_ret (aj results18 rfl rfl hl) rfl ⟨rfl,bR⟩
theorem LF (w:World):yC 18 #[yi 7] w (yR w (.tuple #[yhV 8 8 55 2 56 (-183) 71 false 3,.bool true])):=by
 have HT:Hid (yJ 47 #[yi 8,yi 8,yi 55,yi 56,yi (-183),yi 71,yi 3] (yhV 8 8 55 2 56 (-183) 71 false 3)):=fun w1=>nD _ _ _ _ _ _ _ w1
 have l0:=ah w (yhL 0 0 0 0 0 0 0 false 0) 50;have b0:=af w (.cells (yhA 0 0 0 0 0 0 0 false 0) 50)
 go_enter func18,ntmps18
 go_wp2_with fail
 refine(HT.out _).mono ?_;rintro z w2 ⟨rfl,b2⟩;have l2:=l0.l b2;have cR:au (((((((((w2.setCell ⟨w.heap.size,0,none⟩ (yi 8)).setCell ⟨w.heap.size,1,none⟩ (yi 8)).setCell ⟨w.heap.size,2,none⟩ (yi 55)).setCell ⟨w.heap.size,3,none⟩ (yi 2)).setCell ⟨w.heap.size,4,none⟩ (yi 56)).setCell ⟨w.heap.size,5,none⟩ (yi (-183))).setCell ⟨w.heap.size,6,none⟩ (yi 71)).setCell ⟨w.heap.size,7,none⟩ (.bool false)).setCell ⟨w.heap.size,8,none⟩ (yi 3)) w.heap.size 50 (yhL 8 8 55 2 56 (-183) 71 false 3):=(((((((((l2.set 0 (yi 8)).set 1 (yi 8)).set 2 (yi 55)).set 3 (yi 2)).set 4 (yi 56)).set 5 (yi (-183))).set 6 (yi 71)).set 7 (.bool false)).set 8 (yi 3));have bR:=(((((((((ag w2 w.heap.size 0 (yi 8)).trans (ag _ w.heap.size 1 (yi 8))).trans (ag _ w.heap.size 2 (yi 55))).trans (ag _ w.heap.size 3 (yi 2))).trans (ag _ w.heap.size 4 (yi 56))).trans (ag _ w.heap.size 5 (yi (-183)))).trans (ag _ w.heap.size 6 (yi 71))).trans (ag _ w.heap.size 7 (.bool false))).trans (ag _ w.heap.size 8 (yi 3))).below (aa b0 b2) (Nat.le_refl _);have hl:=run_loadVar_mid (P:=Tryz.prog) _ w.heap.size 0 50 (yhL 8 8 55 2 56 (-183) 71 false 3) _ cR.range underlying50 rfl (by kernel_rfl);have HH:Hid (_∧_):=⟨hl,bR⟩;have x0:=l2.c 0 rfl;have f0:=l2.f 0;have x1:=l2.c 1 rfl;have f1:=l2.f 1;have x2:=l2.c 2 rfl;have f2:=l2.f 2;have x3:=l2.c 3 rfl;have f3:=l2.f 3;have x4:=l2.c 4 rfl;have f4:=l2.f 4;have x5:=l2.c 5 rfl;have f5:=l2.f 5;have x6:=l2.c 6 rfl;have f6:=l2.f 6;have x7:=l2.c 7 rfl;have f7:=l2.f 7;have x8:=l2.c 8 rfl;have f8:=l2.f 8;clear hl bR cR l0 l2 b0 b2 HT
 go_wp2
 obtain⟨hl,bR⟩:=HH.out;exact bodyPost_ret (aj results18 rfl rfl hl) rfl ⟨rfl,bR⟩
theorem LH (w:World):yC 18 #[yi 8] w (yR w (.tuple #[yhV 8 11 52 2 53 (-1076) 970 false 3,.bool true])):=by
 have HT:Hid (yJ 47 #[yi 8,yi 11,yi 52,yi 53,yi (-1076),yi 970,yi 3] (yhV 8 11 52 2 53 (-1076) 970 false 3)):=fun w1=>nD _ _ _ _ _ _ _ w1
 have l0:=ah w (yhL 0 0 0 0 0 0 0 false 0) 50;have b0:=af w (.cells (yhA 0 0 0 0 0 0 0 false 0) 50)
 go_enter func18,ntmps18
 go_wp2_with fail
 refine(HT.out _).mono ?_;rintro z w2 ⟨rfl,b2⟩;have l2:=l0.l b2;have cR:au (((((((((w2.setCell ⟨w.heap.size,0,none⟩ (yi 8)).setCell ⟨w.heap.size,1,none⟩ (yi 11)).setCell ⟨w.heap.size,2,none⟩ (yi 52)).setCell ⟨w.heap.size,3,none⟩ (yi 2)).setCell ⟨w.heap.size,4,none⟩ (yi 53)).setCell ⟨w.heap.size,5,none⟩ (yi (-1076))).setCell ⟨w.heap.size,6,none⟩ (yi 970)).setCell ⟨w.heap.size,7,none⟩ (.bool false)).setCell ⟨w.heap.size,8,none⟩ (yi 3)) w.heap.size 50 (yhL 8 11 52 2 53 (-1076) 970 false 3):=(((((((((l2.set 0 (yi 8)).set 1 (yi 11)).set 2 (yi 52)).set 3 (yi 2)).set 4 (yi 53)).set 5 (yi (-1076))).set 6 (yi 970)).set 7 (.bool false)).set 8 (yi 3));have bR:=(((((((((ag w2 w.heap.size 0 (yi 8)).trans (ag _ w.heap.size 1 (yi 11))).trans (ag _ w.heap.size 2 (yi 52))).trans (ag _ w.heap.size 3 (yi 2))).trans (ag _ w.heap.size 4 (yi 53))).trans (ag _ w.heap.size 5 (yi (-1076)))).trans (ag _ w.heap.size 6 (yi 970))).trans (ag _ w.heap.size 7 (.bool false))).trans (ag _ w.heap.size 8 (yi 3))).below (aa b0 b2) (Nat.le_refl _);have hl:=run_loadVar_mid (P:=Tryz.prog) _ w.heap.size 0 50 (yhL 8 11 52 2 53 (-1076) 970 false 3) _ cR.range underlying50 rfl (by kernel_rfl);have HH:Hid (_∧_):=⟨hl,bR⟩;have x0:=l2.c 0 rfl;have f0:=l2.f 0;have x1:=l2.c 1 rfl;have f1:=l2.f 1;have x2:=l2.c 2 rfl;have f2:=l2.f 2;have x3:=l2.c 3 rfl;have f3:=l2.f 3;have x4:=l2.c 4 rfl;have f4:=l2.f 4;have x5:=l2.c 5 rfl;have f5:=l2.f 5;have x6:=l2.c 6 rfl;have f6:=l2.f 6;have x7:=l2.c 7 rfl;have f7:=l2.f 7;have x8:=l2.c 8 rfl;have f8:=l2.f 8;clear hl bR cR l0 l2 b0 b2 HT
 go_wp2
 obtain⟨hl,bR⟩:=HH.out;exact bodyPost_ret (aj results18 rfl rfl hl) rfl ⟨rfl,bR⟩
def afl:Nat→List Value
 |1=>(yhL 4 8 23 2 24 (-149) 104 true 1)
 |2=>(yhL 8 11 52 2 53 (-1074) 971 true 1)
 |3=>(yhL 10 15 64 2 64 (-16445) 16320 true 1)
 |4=>(yhL 4 7 24 16 6 (-70) 57 false 2)
 |5=>(yhL 8 7 56 16 14 (-78) 49 false 2)
 |6=>(yhL 4 8 23 2 24 (-151) 103 false 3)
 |7=>(yhL 8 8 55 2 56 (-183) 71 false 3)
 |8=>(yhL 8 11 52 2 53 (-1076) 970 false 3)
 |_=>(yhL 0 0 0 0 0 0 0 false 0)
theorem qU (k:Nat)(hk:1≤k∧k≤8)(w:World):yC 18 #[yi k] w (yR w (.tuple #[.agg (afl k).toArray,.bool true])):=by
 rcases bO hk with rfl|rfl|rfl|rfl|rfl|rfl|rfl|rfl
 ·exact Ly w
 ·exact Lz w
 ·exact LA w
 ·exact LC w
 ·exact LD w
 ·exact LE w
 ·exact LF w
 ·exact LH w
def plN (k i:Nat):Nat:=if k=3 then szN k-1-i else if 6≤k then i+1-2*(i % 2) else i
theorem Kh (k:Nat)(zs:List Nat)(i:Nat)(hk:zs.length=szN k)(hi:i<zs.length):(jT k zs).getD i 0=zs.getD (plN k i) 0:=by
 unfold jT plN
 by_cases h3:k=3
 ·rw[if_pos h3,if_pos h3,List.getD_eq_getElem?_getD,List.getElem?_reverse hi,←List.getD_eq_getElem?_getD,hk]
 ·rw[if_neg h3,if_neg h3]
  by_cases h6:6≤k
  ·rw[if_pos h6,if_pos h6,Fl zs i hi]
  ·rw[if_neg h6,if_neg h6]
theorem Co {k i:Nat}(hk:1≤k∧k≤8)(hi:i<szN k):plN k i<szN k:=by
 obtain⟨m,hm⟩:=(fZ hk).2.2.2.2.1;unfold plN
 split
 ·omega
 ·split<;>omega
theorem sM (n:Int)(sz ex fr:Nat)(R D L G fam:Int)(gr:Bool)(i:Nat)(w:World)(hi:i<sz)(hsz:sz≤10)
  (HF:yJ 18 #[yi n] (.tuple #[yhV sz ex fr R D L G gr fam,.bool true])):
  yC 110 #[yi n,yi i] w (yR w (yi (if n=3 then sz-1-i else if fam=3 then i+1-2*((i:Int) % 2) else i))):=by
 have HF':Hid _:=HF;clear HF
 by_cases h3:n=3
 ·subst h3
  rw[if_pos rfl]
  go_enter func110,ntmps110
  go_wp2_with fail
  refine(HF'.out _).mono ?_;rintro z w1 ⟨rfl,b1⟩
  go_wp2
  go_ret
  exact⟨by go_num,aa b1 (af _ _)⟩
 ·have hn:(n==3)=false:=by simpa using h3
  rw[if_neg h3]
  by_cases hf:fam=3
  ·subst hf
   rw[if_pos rfl];clear h3
   go_enter func110,ntmps110
   go_wp2_with fail
   refine(HF'.out _).mono ?_;rintro z w1 ⟨rfl,b1⟩
   go_wp2
   go_ret
   exact⟨by go_num,aa b1 (af _ _)⟩
  ·have hfb:(fam==3)=false:=by simpa using hf
   rw[if_neg hf];clear h3 hf
   go_enter func110,ntmps110
   go_wp2_with fail
   refine(HF'.out _).mono ?_;rintro z w1 ⟨rfl,b1⟩
   go_wp2
   go_ret
   exact⟨rfl,aa b1 (af _ _)⟩
theorem IF (k:Nat)(hk:1≤k∧k≤8)(i:Nat)(hi:i<szN k)(w:World):yC 110 #[yi k,yi i] w (yR w (yi ((plN k i:Nat):Int))):=by
 have HF:=fun w1=>qU k hk w1
 have hsz:=(fZ hk).2.2.1;have key: ∀x:Int,((plN k i:Nat):Int)=x→yC 110 #[yi k,yi i] w ((yR w (yi x)))→yC 110 #[yi k,yi i] w ((yR w (yi ((plN k i:Nat):Int)))):=fun x hx h=>by rw[hx];exact h
 rcases bO hk with rfl|rfl|rfl|rfl|rfl|rfl|rfl|rfl
 ·exact key _ (by unfold plN;simp) (sM _ _ _ _ _ _ _ _ _ _ i w hi hsz HF)
 ·exact key _ (by unfold plN;simp) (sM _ _ _ _ _ _ _ _ _ _ i w hi hsz HF)
 ·exact key _ (by unfold plN;simp only[szN] at hi⊢;simp;omega) (sM _ _ _ _ _ _ _ _ _ _ i w hi hsz HF)
 ·exact key _ (by unfold plN;simp) (sM _ _ _ _ _ _ _ _ _ _ i w hi hsz HF)
 ·exact key _ (by unfold plN;simp) (sM _ _ _ _ _ _ _ _ _ _ i w hi hsz HF)
 ·exact key _ (by unfold plN;simp;omega) (sM _ _ _ _ _ _ _ _ _ _ i w hi hsz HF)
 ·exact key _ (by unfold plN;simp;omega) (sM _ _ _ _ _ _ _ _ _ _ i w hi hsz HF)
 ·exact key _ (by unfold plN;simp;omega) (sM _ _ _ _ _ _ _ _ _ _ i w hi hsz HF)
theorem T3 (n:Int)(s:ByteArray)(w:World)(h:dK n=0):yC 32 #[yi n,.string s] w (yR w (yi 6)):=by
 have HF:Hid (yJ 18 #[yi n] (.tuple #[yhV 0 0 0 0 0 0 0 false 0,.bool false])):=fun w1=>oT n w1 h
 clear h
 go_enter func32,ntmps32
 go_wp2_with fail
 refine(HF.out _).mono ?_;rintro z w1 ⟨rfl,b1⟩
 go_wp2
 go_ret
 exact⟨rfl,aa b1 (af _ _)⟩
theorem acZ (n:Int)(sz ex fr:Nat)(R D L G fam:Int)(gr:Bool)(s:ByteArray)(w:World)
  (HF:yJ 18 #[yi n] (.tuple #[yhV sz ex fr R D L G gr fam,.bool true])):
  yC 32 #[yi n,.string s] w (yR w (yi (if s.size=sz then 0 else 1))):=by
 have HF':Hid _:=HF;clear HF
 by_cases hs:s.size=sz
 ·rw[if_pos hs]
  go_enter func32,ntmps32
  go_wp2_with fail
  refine(HF'.out _).mono ?_;rintro z w1 ⟨rfl,b1⟩
  go_wp2
  go_ret
  exact⟨rfl,aa b1 (af _ _)⟩
 ·rw[if_neg hs]
  have hb:((s.size:Int)==(sz:Int))=false:=by simp;omega
  clear hs
  go_enter func32,ntmps32
  go_wp2_with fail
  refine(HF'.out _).mono ?_;rintro z w1 ⟨rfl,b1⟩
  go_wp2
  go_ret
  exact⟨rfl,aa b1 (af _ _)⟩
end Go.Proofs.YtbdokgamhinajaaGreatDoor

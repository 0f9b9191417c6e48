/-
  Texts laid together: Co5, Cr1, Cr2.
-/
import Derived.Test.YtpainhklfoaniaaGreatDoorSc10
set_option maxRecDepth 100000
set_option maxHeartbeats 6400000
namespace Go.Proofs.YtpainhklfoaniaaGreatDoor
open _root_.Go.Proofs.Tryz
open Go.RowKit
theorem nD (a b c d e f g:Int)(w:World):yC 43 #[yi a,yi b,yi c,yi d,yi e,yi f,yi g] w (yR w (yhV a b c 2 d e f (g==1) g)):=by
 go_enter func43,ntmps43
 go_wp2
 go_returns
 exact⟨rfl,af _ _⟩
theorem oT (n:Int)(w:World)(h:dK n=0):yC 10 #[yi n] w (yR w (.tuple #[yhV 0 0 0 0 0 0 0 false 0,.bool false])):=by
 have hn:n<1∨8<n:=by
  unfold dK at h
  by_cases c:n<1∨8<n
  ·exact c
  ·rw[if_neg c] at h
   split at h
   ·omega
   ·split at h<;>omega
 clear h;have e1:(n==1)=false:=by simp;omega
 have e2:(n==2)=false:=by simp;omega
 have e3:(n==3)=false:=by simp;omega
 have e4:(n==4)=false:=by simp;omega
 have e5:(n==5)=false:=by simp;omega
 have e6:(n==6)=false:=by simp;omega
 have e7:(n==7)=false:=by simp;omega
 have e8:(n==8)=false:=by simp;omega
 have l0:=ah w (yhL 0 0 0 0 0 0 0 false 0) 28;have b0:=af w (.cells (yhA 0 0 0 0 0 0 0 false 0) 28);have hl:=run_loadVar_mid (P:=Tryz.prog) _ w.heap.size 0 28 (yhL 0 0 0 0 0 0 0 false 0) _ l0.range underlying28 rfl (by kernel_rfl);have HH:Hid (_∧_):=⟨hl,b0⟩;clear hl b0 l0
 go_enter func10,ntmps10
 go_wp2
 obtain⟨hl,bR⟩:=HH.out;exact bodyPost_ret (aj results10 rfl rfl hl) rfl ⟨rfl,bR⟩
theorem Ly (w:World):yC 10 #[yi 1] w (yR w (.tuple #[yhV 4 8 23 2 24 (-149) 104 true 1,.bool true])):=by
 have HT:Hid (yJ 43 #[yi 4,yi 8,yi 23,yi 24,yi (-149),yi 104,yi 1] (yhV 4 8 23 2 24 (-149) 104 true 1)):=fun w1=>nD _ _ _ _ _ _ _ w1
 have l0:=ah w (yhL 0 0 0 0 0 0 0 false 0) 28;have b0:=af w (.cells (yhA 0 0 0 0 0 0 0 false 0) 28)
 go_enter func10,ntmps10
 go_wp2_with fail
 refine(HT.out _).mono ?_;rintro z w2 ⟨rfl,b2⟩;have l2:=l0.l b2;have cR:au (((((((((w2.setCell ⟨w.heap.size,0,none⟩ (yi 4)).setCell ⟨w.heap.size,1,none⟩ (yi 8)).setCell ⟨w.heap.size,2,none⟩ (yi 23)).setCell ⟨w.heap.size,3,none⟩ (yi 2)).setCell ⟨w.heap.size,4,none⟩ (yi 24)).setCell ⟨w.heap.size,5,none⟩ (yi (-149))).setCell ⟨w.heap.size,6,none⟩ (yi 104)).setCell ⟨w.heap.size,7,none⟩ (.bool true)).setCell ⟨w.heap.size,8,none⟩ (yi 1)) w.heap.size 28 (yhL 4 8 23 2 24 (-149) 104 true 1):=(((((((((l2.set 0 (yi 4)).set 1 (yi 8)).set 2 (yi 23)).set 3 (yi 2)).set 4 (yi 24)).set 5 (yi (-149))).set 6 (yi 104)).set 7 (.bool true)).set 8 (yi 1));have bR:=(((((((((ag w2 w.heap.size 0 (yi 4)).trans (ag _ w.heap.size 1 (yi 8))).trans (ag _ w.heap.size 2 (yi 23))).trans (ag _ w.heap.size 3 (yi 2))).trans (ag _ w.heap.size 4 (yi 24))).trans (ag _ w.heap.size 5 (yi (-149)))).trans (ag _ w.heap.size 6 (yi 104))).trans (ag _ w.heap.size 7 (.bool true))).trans (ag _ w.heap.size 8 (yi 1))).below (aa b0 b2) (Nat.le_refl _);have hl:=run_loadVar_mid (P:=Tryz.prog) _ w.heap.size 0 28 (yhL 4 8 23 2 24 (-149) 104 true 1) _ cR.range underlying28 rfl (by kernel_rfl);have HH:Hid (_∧_):=⟨hl,bR⟩;have x0:=l2.c 0 rfl;have f0:=l2.f 0;have x1:=l2.c 1 rfl;have f1:=l2.f 1;have x2:=l2.c 2 rfl;have f2:=l2.f 2;have x3:=l2.c 3 rfl;have f3:=l2.f 3;have x4:=l2.c 4 rfl;have f4:=l2.f 4;have x5:=l2.c 5 rfl;have f5:=l2.f 5;have x6:=l2.c 6 rfl;have f6:=l2.f 6;have x7:=l2.c 7 rfl;have f7:=l2.f 7;have x8:=l2.c 8 rfl;have f8:=l2.f 8;clear hl bR cR l0 l2 b0 b2 HT
 go_wp2
 obtain⟨hl,bR⟩:=HH.out;exact bodyPost_ret (aj results10 rfl rfl hl) rfl ⟨rfl,bR⟩
theorem Lz (w:World):yC 10 #[yi 2] w (yR w (.tuple #[yhV 8 11 52 2 53 (-1074) 971 true 1,.bool true])):=by
 have HT:Hid (yJ 43 #[yi 8,yi 11,yi 52,yi 53,yi (-1074),yi 971,yi 1] (yhV 8 11 52 2 53 (-1074) 971 true 1)):=fun w1=>nD _ _ _ _ _ _ _ w1
 have l0:=ah w (yhL 0 0 0 0 0 0 0 false 0) 28;have b0:=af w (.cells (yhA 0 0 0 0 0 0 0 false 0) 28)
 go_enter func10,ntmps10
 go_wp2_with fail
 refine(HT.out _).mono ?_;rintro z w2 ⟨rfl,b2⟩;have l2:=l0.l b2;have cR:au (((((((((w2.setCell ⟨w.heap.size,0,none⟩ (yi 8)).setCell ⟨w.heap.size,1,none⟩ (yi 11)).setCell ⟨w.heap.size,2,none⟩ (yi 52)).setCell ⟨w.heap.size,3,none⟩ (yi 2)).setCell ⟨w.heap.size,4,none⟩ (yi 53)).setCell ⟨w.heap.size,5,none⟩ (yi (-1074))).setCell ⟨w.heap.size,6,none⟩ (yi 971)).setCell ⟨w.heap.size,7,none⟩ (.bool true)).setCell ⟨w.heap.size,8,none⟩ (yi 1)) w.heap.size 28 (yhL 8 11 52 2 53 (-1074) 971 true 1):=(((((((((l2.set 0 (yi 8)).set 1 (yi 11)).set 2 (yi 52)).set 3 (yi 2)).set 4 (yi 53)).set 5 (yi (-1074))).set 6 (yi 971)).set 7 (.bool true)).set 8 (yi 1));have bR:=(((((((((ag w2 w.heap.size 0 (yi 8)).trans (ag _ w.heap.size 1 (yi 11))).trans (ag _ w.heap.size 2 (yi 52))).trans (ag _ w.heap.size 3 (yi 2))).trans (ag _ w.heap.size 4 (yi 53))).trans (ag _ w.heap.size 5 (yi (-1074)))).trans (ag _ w.heap.size 6 (yi 971))).trans (ag _ w.heap.size 7 (.bool true))).trans (ag _ w.heap.size 8 (yi 1))).below (aa b0 b2) (Nat.le_refl _);have hl:=run_loadVar_mid (P:=Tryz.prog) _ w.heap.size 0 28 (yhL 8 11 52 2 53 (-1074) 971 true 1) _ cR.range underlying28 rfl (by kernel_rfl);have HH:Hid (_∧_):=⟨hl,bR⟩;have x0:=l2.c 0 rfl;have f0:=l2.f 0;have x1:=l2.c 1 rfl;have f1:=l2.f 1;have x2:=l2.c 2 rfl;have f2:=l2.f 2;have x3:=l2.c 3 rfl;have f3:=l2.f 3;have x4:=l2.c 4 rfl;have f4:=l2.f 4;have x5:=l2.c 5 rfl;have f5:=l2.f 5;have x6:=l2.c 6 rfl;have f6:=l2.f 6;have x7:=l2.c 7 rfl;have f7:=l2.f 7;have x8:=l2.c 8 rfl;have f8:=l2.f 8;clear hl bR cR l0 l2 b0 b2 HT
 go_wp2
 obtain⟨hl,bR⟩:=HH.out;exact bodyPost_ret (aj results10 rfl rfl hl) rfl ⟨rfl,bR⟩
theorem LA (w:World):yC 10 #[yi 3] w (yR w (.tuple #[yhV 10 15 64 2 64 (-16445) 16320 true 1,.bool true])):=by
 have HT:Hid (yJ 43 #[yi 10,yi 15,yi 64,yi 64,yi (-16445),yi 16320,yi 1] (yhV 10 15 64 2 64 (-16445) 16320 true 1)):=fun w1=>nD _ _ _ _ _ _ _ w1
 have l0:=ah w (yhL 0 0 0 0 0 0 0 false 0) 28;have b0:=af w (.cells (yhA 0 0 0 0 0 0 0 false 0) 28)
 go_enter func10,ntmps10
 go_wp2_with fail
 refine(HT.out _).mono ?_;rintro z w2 ⟨rfl,b2⟩;have l2:=l0.l b2;have cR:au (((((((((w2.setCell ⟨w.heap.size,0,none⟩ (yi 10)).setCell ⟨w.heap.size,1,none⟩ (yi 15)).setCell ⟨w.heap.size,2,none⟩ (yi 64)).setCell ⟨w.heap.size,3,none⟩ (yi 2)).setCell ⟨w.heap.size,4,none⟩ (yi 64)).setCell ⟨w.heap.size,5,none⟩ (yi (-16445))).setCell ⟨w.heap.size,6,none⟩ (yi 16320)).setCell ⟨w.heap.size,7,none⟩ (.bool true)).setCell ⟨w.heap.size,8,none⟩ (yi 1)) w.heap.size 28 (yhL 10 15 64 2 64 (-16445) 16320 true 1):=(((((((((l2.set 0 (yi 10)).set 1 (yi 15)).set 2 (yi 64)).set 3 (yi 2)).set 4 (yi 64)).set 5 (yi (-16445))).set 6 (yi 16320)).set 7 (.bool true)).set 8 (yi 1));have bR:=(((((((((ag w2 w.heap.size 0 (yi 10)).trans (ag _ w.heap.size 1 (yi 15))).trans (ag _ w.heap.size 2 (yi 64))).trans (ag _ w.heap.size 3 (yi 2))).trans (ag _ w.heap.size 4 (yi 64))).trans (ag _ w.heap.size 5 (yi (-16445)))).trans (ag _ w.heap.size 6 (yi 16320))).trans (ag _ w.heap.size 7 (.bool true))).trans (ag _ w.heap.size 8 (yi 1))).below (aa b0 b2) (Nat.le_refl _);have hl:=run_loadVar_mid (P:=Tryz.prog) _ w.heap.size 0 28 (yhL 10 15 64 2 64 (-16445) 16320 true 1) _ cR.range underlying28 rfl (by kernel_rfl);have HH:Hid (_∧_):=⟨hl,bR⟩;have x0:=l2.c 0 rfl;have f0:=l2.f 0;have x1:=l2.c 1 rfl;have f1:=l2.f 1;have x2:=l2.c 2 rfl;have f2:=l2.f 2;have x3:=l2.c 3 rfl;have f3:=l2.f 3;have x4:=l2.c 4 rfl;have f4:=l2.f 4;have x5:=l2.c 5 rfl;have f5:=l2.f 5;have x6:=l2.c 6 rfl;have f6:=l2.f 6;have x7:=l2.c 7 rfl;have f7:=l2.f 7;have x8:=l2.c 8 rfl;have f8:=l2.f 8;clear hl bR cR l0 l2 b0 b2 HT
 go_wp2
 obtain⟨hl,bR⟩:=HH.out;exact bodyPost_ret (aj results10 rfl rfl hl) rfl ⟨rfl,bR⟩
theorem LC (w:World):yC 10 #[yi 4] w (yR w (.tuple #[yhV 4 7 24 16 6 (-70) 57 false 2,.bool true])):=by
 have l0:=ah w (yhL 4 7 24 16 6 (-70) 57 false 2) 28;have b0:=af w (.cells (yhA 4 7 24 16 6 (-70) 57 false 2) 28);have hl:=run_loadVar_mid (P:=Tryz.prog) _ w.heap.size 0 28 (yhL 4 7 24 16 6 (-70) 57 false 2) _ l0.range underlying28 rfl (by kernel_rfl);have HH:Hid (_∧_):=⟨hl,b0⟩;clear hl b0 l0
 go_enter func10,ntmps10
 go_wp2
 obtain⟨hl,bR⟩:=HH.out;exact bodyPost_ret (aj results10 rfl rfl hl) rfl ⟨rfl,bR⟩
theorem LD (w:World):yC 10 #[yi 5] w (yR w (.tuple #[yhV 8 7 56 16 14 (-78) 49 false 2,.bool true])):=by
 have l0:=ah w (yhL 8 7 56 16 14 (-78) 49 false 2) 28;have b0:=af w (.cells (yhA 8 7 56 16 14 (-78) 49 false 2) 28);have hl:=run_loadVar_mid (P:=Tryz.prog) _ w.heap.size 0 28 (yhL 8 7 56 16 14 (-78) 49 false 2) _ l0.range underlying28 rfl (by kernel_rfl);have HH:Hid (_∧_):=⟨hl,b0⟩;clear hl b0 l0
 go_enter func10,ntmps10
 go_wp2
 obtain⟨hl,bR⟩:=HH.out;exact bodyPost_ret (aj results10 rfl rfl hl) rfl ⟨rfl,bR⟩
theorem LE (w:World):yC 10 #[yi 6] w (yR w (.tuple #[yhV 4 8 23 2 24 (-151) 103 false 3,.bool true])):=by
 have HT:Hid (yJ 43 #[yi 4,yi 8,yi 23,yi 24,yi (-151),yi 103,yi 3] (yhV 4 8 23 2 24 (-151) 103 false 3)):=fun w1=>nD _ _ _ _ _ _ _ w1
 have l0:=ah w (yhL 0 0 0 0 0 0 0 false 0) 28;have b0:=af w (.cells (yhA 0 0 0 0 0 0 0 false 0) 28)
 go_enter func10,ntmps10
 go_wp2_with fail
 refine(HT.out _).mono ?_;rintro z w2 ⟨rfl,b2⟩;have l2:=l0.l b2;have cR:au (((((((((w2.setCell ⟨w.heap.size,0,none⟩ (yi 4)).setCell ⟨w.heap.size,1,none⟩ (yi 8)).setCell ⟨w.heap.size,2,none⟩ (yi 23)).setCell ⟨w.heap.size,3,none⟩ (yi 2)).setCell ⟨w.heap.size,4,none⟩ (yi 24)).setCell ⟨w.heap.size,5,none⟩ (yi (-151))).setCell ⟨w.heap.size,6,none⟩ (yi 103)).setCell ⟨w.heap.size,7,none⟩ (.bool false)).setCell ⟨w.heap.size,8,none⟩ (yi 3)) w.heap.size 28 (yhL 4 8 23 2 24 (-151) 103 false 3):=(((((((((l2.set 0 (yi 4)).set 1 (yi 8)).set 2 (yi 23)).set 3 (yi 2)).set 4 (yi 24)).set 5 (yi (-151))).set 6 (yi 103)).set 7 (.bool false)).set 8 (yi 3));have bR:=(((((((((ag w2 w.heap.size 0 (yi 4)).trans (ag _ w.heap.size 1 (yi 8))).trans (ag _ w.heap.size 2 (yi 23))).trans (ag _ w.heap.size 3 (yi 2))).trans (ag _ w.heap.size 4 (yi 24))).trans (ag _ w.heap.size 5 (yi (-151)))).trans (ag _ w.heap.size 6 (yi 103))).trans (ag _ w.heap.size 7 (.bool false))).trans (ag _ w.heap.size 8 (yi 3))).below (aa b0 b2) (Nat.le_refl _);have hl:=run_loadVar_mid (P:=Tryz.prog) _ w.heap.size 0 28 (yhL 4 8 23 2 24 (-151) 103 false 3) _ cR.range underlying28 rfl (by kernel_rfl);have HH:Hid (_∧_):=⟨hl,bR⟩;have x0:=l2.c 0 rfl;have f0:=l2.f 0;have x1:=l2.c 1 rfl;have f1:=l2.f 1;have x2:=l2.c 2 rfl;have f2:=l2.f 2;have x3:=l2.c 3 rfl;have f3:=l2.f 3;have x4:=l2.c 4 rfl;have f4:=l2.f 4;have x5:=l2.c 5 rfl;have f5:=l2.f 5;have x6:=l2.c 6 rfl;have f6:=l2.f 6;have x7:=l2.c 7 rfl;have f7:=l2.f 7;have x8:=l2.c 8 rfl;have f8:=l2.f 8;clear hl bR cR l0 l2 b0 b2 HT
 go_wp2
 obtain⟨hl,bR⟩:=HH.out;exact bodyPost_ret (aj results10 rfl rfl hl) rfl ⟨rfl,bR⟩
theorem LF (w:World):yC 10 #[yi 7] w (yR w (.tuple #[yhV 8 8 55 2 56 (-183) 71 false 3,.bool true])):=by
 have HT:Hid (yJ 43 #[yi 8,yi 8,yi 55,yi 56,yi (-183),yi 71,yi 3] (yhV 8 8 55 2 56 (-183) 71 false 3)):=fun w1=>nD _ _ _ _ _ _ _ w1
 have l0:=ah w (yhL 0 0 0 0 0 0 0 false 0) 28;have b0:=af w (.cells (yhA 0 0 0 0 0 0 0 false 0) 28)
 go_enter func10,ntmps10
 go_wp2_with fail
 refine(HT.out _).mono ?_;rintro z w2 ⟨rfl,b2⟩;have l2:=l0.l b2;have cR:au (((((((((w2.setCell ⟨w.heap.size,0,none⟩ (yi 8)).setCell ⟨w.heap.size,1,none⟩ (yi 8)).setCell ⟨w.heap.size,2,none⟩ (yi 55)).setCell ⟨w.heap.size,3,none⟩ (yi 2)).setCell ⟨w.heap.size,4,none⟩ (yi 56)).setCell ⟨w.heap.size,5,none⟩ (yi (-183))).setCell ⟨w.heap.size,6,none⟩ (yi 71)).setCell ⟨w.heap.size,7,none⟩ (.bool false)).setCell ⟨w.heap.size,8,none⟩ (yi 3)) w.heap.size 28 (yhL 8 8 55 2 56 (-183) 71 false 3):=(((((((((l2.set 0 (yi 8)).set 1 (yi 8)).set 2 (yi 55)).set 3 (yi 2)).set 4 (yi 56)).set 5 (yi (-183))).set 6 (yi 71)).set 7 (.bool false)).set 8 (yi 3));have bR:=(((((((((ag w2 w.heap.size 0 (yi 8)).trans (ag _ w.heap.size 1 (yi 8))).trans (ag _ w.heap.size 2 (yi 55))).trans (ag _ w.heap.size 3 (yi 2))).trans (ag _ w.heap.size 4 (yi 56))).trans (ag _ w.heap.size 5 (yi (-183)))).trans (ag _ w.heap.size 6 (yi 71))).trans (ag _ w.heap.size 7 (.bool false))).trans (ag _ w.heap.size 8 (yi 3))).below (aa b0 b2) (Nat.le_refl _);have hl:=run_loadVar_mid (P:=Tryz.prog) _ w.heap.size 0 28 (yhL 8 8 55 2 56 (-183) 71 false 3) _ cR.range underlying28 rfl (by kernel_rfl);have HH:Hid (_∧_):=⟨hl,bR⟩;have x0:=l2.c 0 rfl;have f0:=l2.f 0;have x1:=l2.c 1 rfl;have f1:=l2.f 1;have x2:=l2.c 2 rfl;have f2:=l2.f 2;have x3:=l2.c 3 rfl;have f3:=l2.f 3;have x4:=l2.c 4 rfl;have f4:=l2.f 4;have x5:=l2.c 5 rfl;have f5:=l2.f 5;have x6:=l2.c 6 rfl;have f6:=l2.f 6;have x7:=l2.c 7 rfl;have f7:=l2.f 7;have x8:=l2.c 8 rfl;have f8:=l2.f 8;clear hl bR cR l0 l2 b0 b2 HT
 go_wp2
 obtain⟨hl,bR⟩:=HH.out;exact bodyPost_ret (aj results10 rfl rfl hl) rfl ⟨rfl,bR⟩
theorem LH (w:World):yC 10 #[yi 8] w (yR w (.tuple #[yhV 8 11 52 2 53 (-1076) 970 false 3,.bool true])):=by
 have HT:Hid (yJ 43 #[yi 8,yi 11,yi 52,yi 53,yi (-1076),yi 970,yi 3] (yhV 8 11 52 2 53 (-1076) 970 false 3)):=fun w1=>nD _ _ _ _ _ _ _ w1
 have l0:=ah w (yhL 0 0 0 0 0 0 0 false 0) 28;have b0:=af w (.cells (yhA 0 0 0 0 0 0 0 false 0) 28)
 go_enter func10,ntmps10
 go_wp2_with fail
 refine(HT.out _).mono ?_;rintro z w2 ⟨rfl,b2⟩;have l2:=l0.l b2;have cR:au (((((((((w2.setCell ⟨w.heap.size,0,none⟩ (yi 8)).setCell ⟨w.heap.size,1,none⟩ (yi 11)).setCell ⟨w.heap.size,2,none⟩ (yi 52)).setCell ⟨w.heap.size,3,none⟩ (yi 2)).setCell ⟨w.heap.size,4,none⟩ (yi 53)).setCell ⟨w.heap.size,5,none⟩ (yi (-1076))).setCell ⟨w.heap.size,6,none⟩ (yi 970)).setCell ⟨w.heap.size,7,none⟩ (.bool false)).setCell ⟨w.heap.size,8,none⟩ (yi 3)) w.heap.size 28 (yhL 8 11 52 2 53 (-1076) 970 false 3):=(((((((((l2.set 0 (yi 8)).set 1 (yi 11)).set 2 (yi 52)).set 3 (yi 2)).set 4 (yi 53)).set 5 (yi (-1076))).set 6 (yi 970)).set 7 (.bool false)).set 8 (yi 3));have bR:=(((((((((ag w2 w.heap.size 0 (yi 8)).trans (ag _ w.heap.size 1 (yi 11))).trans (ag _ w.heap.size 2 (yi 52))).trans (ag _ w.heap.size 3 (yi 2))).trans (ag _ w.heap.size 4 (yi 53))).trans (ag _ w.heap.size 5 (yi (-1076)))).trans (ag _ w.heap.size 6 (yi 970))).trans (ag _ w.heap.size 7 (.bool false))).trans (ag _ w.heap.size 8 (yi 3))).below (aa b0 b2) (Nat.le_refl _);have hl:=run_loadVar_mid (P:=Tryz.prog) _ w.heap.size 0 28 (yhL 8 11 52 2 53 (-1076) 970 false 3) _ cR.range underlying28 rfl (by kernel_rfl);have HH:Hid (_∧_):=⟨hl,bR⟩;have x0:=l2.c 0 rfl;have f0:=l2.f 0;have x1:=l2.c 1 rfl;have f1:=l2.f 1;have x2:=l2.c 2 rfl;have f2:=l2.f 2;have x3:=l2.c 3 rfl;have f3:=l2.f 3;have x4:=l2.c 4 rfl;have f4:=l2.f 4;have x5:=l2.c 5 rfl;have f5:=l2.f 5;have x6:=l2.c 6 rfl;have f6:=l2.f 6;have x7:=l2.c 7 rfl;have f7:=l2.f 7;have x8:=l2.c 8 rfl;have f8:=l2.f 8;clear hl bR cR l0 l2 b0 b2 HT
 go_wp2
 obtain⟨hl,bR⟩:=HH.out;exact bodyPost_ret (aj results10 rfl rfl hl) rfl ⟨rfl,bR⟩
def afl:Nat→List Value
 |1=>(yhL 4 8 23 2 24 (-149) 104 true 1)
 |2=>(yhL 8 11 52 2 53 (-1074) 971 true 1)
 |3=>(yhL 10 15 64 2 64 (-16445) 16320 true 1)
 |4=>(yhL 4 7 24 16 6 (-70) 57 false 2)
 |5=>(yhL 8 7 56 16 14 (-78) 49 false 2)
 |6=>(yhL 4 8 23 2 24 (-151) 103 false 3)
 |7=>(yhL 8 8 55 2 56 (-183) 71 false 3)
 |8=>(yhL 8 11 52 2 53 (-1076) 970 false 3)
 |_=>(yhL 0 0 0 0 0 0 0 false 0)
theorem qU (k:Nat)(hk:1≤k∧k≤8)(w:World):yC 10 #[yi k] w (yR w (.tuple #[.agg (afl k).toArray,.bool true])):=by
 rcases bO hk with rfl|rfl|rfl|rfl|rfl|rfl|rfl|rfl
 ·exact Ly w
 ·exact Lz w
 ·exact LA w
 ·exact LC w
 ·exact LD w
 ·exact LE w
 ·exact LF w
 ·exact LH w
def plN (k i:Nat):Nat:=if k=3 then szN k-1-i else if 6≤k then i+1-2*(i % 2) else i
theorem Kh (k:Nat)(zs:List Nat)(i:Nat)(hk:zs.length=szN k)(hi:i<zs.length):(jT k zs).getD i 0=zs.getD (plN k i) 0:=by
 unfold jT plN
 by_cases h3:k=3
 ·rw[if_pos h3,if_pos h3,List.getD_eq_getElem?_getD,List.getElem?_reverse hi,←List.getD_eq_getElem?_getD,hk]
 ·rw[if_neg h3,if_neg h3]
  by_cases h6:6≤k
  ·rw[if_pos h6,if_pos h6,Fl zs i hi]
  ·rw[if_neg h6,if_neg h6]
theorem Co {k i:Nat}(hk:1≤k∧k≤8)(hi:i<szN k):plN k i<szN k:=by
 obtain⟨m,hm⟩:=(fZ hk).2.2.2.2.1;unfold plN
 split
 ·omega
 ·split<;>omega
theorem sM (n:Int)(sz ex fr:Nat)(R D L G fam:Int)(gr:Bool)(i:Nat)(w:World)(hi:i<sz)(hsz:sz≤10)
  (HF:yJ 10 #[yi n] (.tuple #[yhV sz ex fr R D L G gr fam,.bool true])):
  yC 79 #[yi n,yi i] w (yR w (yi (if n=3 then sz-1-i else if fam=3 then i+1-2*((i:Int) % 2) else i))):=by
 have HF':Hid _:=HF;clear HF
 by_cases h3:n=3
 ·subst h3
  rw[if_pos rfl]
  go_enter func79,ntmps79
  go_wp2_with fail
  refine(HF'.out _).mono ?_;rintro z w1 ⟨rfl,b1⟩
  go_wp2
  go_ret
  exact⟨by go_num,aa b1 (af _ _)⟩
 ·have hn:(n==3)=false:=by simpa using h3
  rw[if_neg h3]
  by_cases hf:fam=3
  ·subst hf
   rw[if_pos rfl];clear h3
   go_enter func79,ntmps79
   go_wp2_with fail
   refine(HF'.out _).mono ?_;rintro z w1 ⟨rfl,b1⟩
   go_wp2
   go_ret
   exact⟨by go_num,aa b1 (af _ _)⟩
  ·have hfb:(fam==3)=false:=by simpa using hf
   rw[if_neg hf];clear h3 hf
   go_enter func79,ntmps79
   go_wp2_with fail
   refine(HF'.out _).mono ?_;rintro z w1 ⟨rfl,b1⟩
   go_wp2
   go_ret
   exact⟨rfl,aa b1 (af _ _)⟩
theorem IF (k:Nat)(hk:1≤k∧k≤8)(i:Nat)(hi:i<szN k)(w:World):yC 79 #[yi k,yi i] w (yR w (yi ((plN k i:Nat):Int))):=by
 have HF:=fun w1=>qU k hk w1
 have hsz:=(fZ hk).2.2.1;have key: ∀x:Int,((plN k i:Nat):Int)=x→yC 79 #[yi k,yi i] w ((yR w (yi x)))→yC 79 #[yi k,yi i] w ((yR w (yi ((plN k i:Nat):Int)))):=fun x hx h=>by rw[hx];exact h
 rcases bO hk with rfl|rfl|rfl|rfl|rfl|rfl|rfl|rfl
 ·exact key _ (by unfold plN;simp) (sM _ _ _ _ _ _ _ _ _ _ i w hi hsz HF)
 ·exact key _ (by unfold plN;simp) (sM _ _ _ _ _ _ _ _ _ _ i w hi hsz HF)
 ·exact key _ (by unfold plN;simp only[szN] at hi⊢;simp;omega) (sM _ _ _ _ _ _ _ _ _ _ i w hi hsz HF)
 ·exact key _ (by unfold plN;simp) (sM _ _ _ _ _ _ _ _ _ _ i w hi hsz HF)
 ·exact key _ (by unfold plN;simp) (sM _ _ _ _ _ _ _ _ _ _ i w hi hsz HF)
 ·exact key _ (by unfold plN;simp;omega) (sM _ _ _ _ _ _ _ _ _ _ i w hi hsz HF)
 ·exact key _ (by unfold plN;simp;omega) (sM _ _ _ _ _ _ _ _ _ _ i w hi hsz HF)
 ·exact key _ (by unfold plN;simp;omega) (sM _ _ _ _ _ _ _ _ _ _ i w hi hsz HF)
theorem T3 (n:Int)(s:ByteArray)(w:World)(h:dK n=0):yC 11 #[yi n,.string s] w (yR w (yi 6)):=by
 have HF:Hid (yJ 10 #[yi n] (.tuple #[yhV 0 0 0 0 0 0 0 false 0,.bool false])):=fun w1=>oT n w1 h
 clear h
 go_enter func11,ntmps11
 go_wp2_with fail
 refine(HF.out _).mono ?_;rintro z w1 ⟨rfl,b1⟩
 go_wp2
 go_ret
 exact⟨rfl,aa b1 (af _ _)⟩
theorem acZ (n:Int)(sz ex fr:Nat)(R D L G fam:Int)(gr:Bool)(s:ByteArray)(w:World)
  (HF:yJ 10 #[yi n] (.tuple #[yhV sz ex fr R D L G gr fam,.bool true])):
  yC 11 #[yi n,.string s] w (yR w (yi (if s.size=sz then 0 else 1))):=by
 have HF':Hid _:=HF;clear HF
 by_cases hs:s.size=sz
 ·rw[if_pos hs]
  go_enter func11,ntmps11
  go_wp2_with fail
  refine(HF'.out _).mono ?_;rintro z w1 ⟨rfl,b1⟩
  go_wp2
  go_ret
  exact⟨rfl,aa b1 (af _ _)⟩
 ·rw[if_neg hs]
  have hb:((s.size:Int)==(sz:Int))=false:=by simp;omega
  clear hs
  go_enter func11,ntmps11
  go_wp2_with fail
  refine(HF'.out _).mono ?_;rintro z w1 ⟨rfl,b1⟩
  go_wp2
  go_ret
  exact⟨rfl,aa b1 (af _ _)⟩
def jp (w:World)(base:Nat)(v:Value)(bs:List Bool):Prop:=w.ownsRow base 4 1 v bs.length (bs.map Value.bool)
theorem Tryz.infoB:(Tryz.prog.info? 4).map (fun i=>(i.zero,i.size,i.bytes))=some (some (.bool false),1,1):=by kernel_rfl
def qV (ts:List Nat):Nat→List Bool
 |0=>[]
 |n+1=>qV ts n++[decide (fU ts n=1)]
theorem kS (ts:List Nat): ∀n,(qV ts n).length=n
 |0=>rfl
 |n+1=>by rw[qV,List.length_append,kS ts n];rfl
theorem wW (ts:List Nat): ∀n i,i<n→(qV ts n)[i]? =some (decide (fU ts i=1))
 |0,_,h=>absurd h (Nat.not_lt_zero _)
 |n+1,i,h=>by
  rw[qV]
  by_cases hi:i<n
  ·rw[List.getElem?_append_left (by rw[kS];exact hi)]
   exact wW ts n i hi
  ·have:i=n:=by omega
   subst this;rw[List.getElem?_append_right (by rw[kS];exact Nat.le_refl _),kS,Nat.sub_self];rfl
theorem Mu {P:Program}(t:TypeId)(s:ByteArray)(p:Nat)(h:P.underlying t=some .string)(hp:p<s.size)(W:World):
  (Instr.index t (.string s) (yi p)).run P W= .ok (.int .u8 (((jr s).getD p 0:Nat):Int)) W:=by
 rw[run_index_string W t s .i64 p h,dif_pos ⟨by omega,by omega⟩]
 congr 2
 have hp':p<s.data.size:=hp;rw[jr,List.getD_eq_getElem?_getD,List.getElem?_map,Array.getElem?_toList,Array.getElem?_eq_getElem hp'];rfl
theorem Mv {w wr w3:World}{x:Bool}{es:List Bool}{lv v':Value}(bel:yB w wr)(ownL:jp wr w.heap.size lv es)
  (hown':w3.ownsRow w.heap.size 4 1 v' (es.length+1) ((es.map Value.bool)++[.bool x]))
  (hgrow:(wr.alloc (.cells #[.bool x] 4)).grownBy w3 lv.ownBlock):
  jp w3 w.heap.size v' (es++[x])∧yB w w3:=by
 have b1:yB wr (wr.alloc (.cells #[.bool x] 4)):=(Below.refl _ _).alloc (Nat.le_refl _) _;refine⟨?_, ?_⟩
 ·unfold jp
  simpa using hown'
 ·refine(aa bel b1).grown hgrow (Nat.le_trans bel.size b1.size) (fun k hk=> ?_)
  exact(World.ownsRow.lt ownL k hk).1
theorem jp.l {w w':World}{base:Nat}{v:Value}{bs:List Bool}(h:jp w base v bs)(hb:yB w w'):jp w' base v bs:=by
 obtain⟨hl,h2⟩:=h;refine⟨hl, ?_⟩
 rcases h2 with h2| ⟨g,cap,cur,hv,hbg,hh,r⟩
 ·exact .inl h2
 ·refine .inr ⟨g,cap,cur,hv,hbg, ?_,r⟩
  rw[hb.block g ?_]
  ·exact hh
  ·rw[Array.getElem?_eq_some_iff] at hh
   exact hh.1
theorem T7: ∀j,j<8→2^ (7-j)/2=if j+1<8 then 2^ (7-(j+1)) else 0:=by decide
theorem P3 (k:Nat)(hk:1≤k∧k≤8)(s:ByteArray)(w:World)(hs:s.size=szN k):
  yC 44 #[yi k,.string s] w fun z w'=> ∃v,z= .returned v∧jp w' w.heap.size v (qV (wG k s) (8*szN k))∧yB w w':=by
 obtain⟨i0,hi,hz0,hz1,hz2⟩:=info_parts Tryz.infoB;have HP:Hid (∀(i:Nat) w1,i<szN k→yC 79 #[yi k,yi i] w1 (yR w1 (yi ((plN k i:Nat):Int)))):=fun i w1 h=>IF k hk i h w1
 have HX:Hid (∀p W,p<s.size→(Instr.index 9 (.string s) (yi (p:Int))).run Tryz.prog W= .ok (.int .u8 (((jr s).getD p 0:Nat):Int)) W):=fun p W h=>Mu 9 s p underlying9 h W
 have HT:Hid (∀i,i<szN k→(wG k s).getD i 0=(jr s).getD (plN k i) 0∧plN k i<szN k):=fun i h=>⟨Kh k _ i (by rw[oV,hs]) (by rw[oV,hs];exact h),Co hk h⟩
 have hsm:=xi k _ (zU s);have HSM:Hid (Dg.Small 256 (wG k s)):=hsm;have hsz:=(fZ hk).2.2.1;obtain⟨sz,esz⟩: ∃x,szN k=x:=⟨_,rfl⟩;obtain⟨ts,ets⟩: ∃x,wG k s=x:=⟨_,rfl⟩;rw[esz] at HP HT hsz hs⊢;rw[ets] at HT HSM⊢;clear hsm esz ets hk
 go_enter func44,ntmps44
 go_wp2
 go_loopw [5,6] (fun ov iv wr=> ∃i:Nat,i≤sz∧iv=yi i∧jp wr w.heap.size ov (qV ts (8*i))∧yB w wr) (fun _ iv _=>sz-(intOf iv).toNat)
 case atStart=>exact⟨0,by omega,rfl,World.ownsRow_nil _ _ _ 1,Below.refl _ _⟩
 case round=>
  obtain⟨i,hi1,rfl,own,bel⟩:=hrel
  by_cases hlt:i<sz
  ·have hx:=HX.out (plN k i)
   obtain⟨ht1,ht2⟩:=HT.out i hlt;have hx:=fun W=>HX.out (plN k i) W (by omega)
   rw[←ht1] at hx;have hc:=HSM.out i;obtain⟨c,ec⟩: ∃c,ts.getD i 0=c:=⟨_,rfl⟩;obtain⟨pp,ep⟩: ∃c,plN k i=c:=⟨_,rfl⟩;have hp:=fun w1=>HP.out i w1 hlt
   rw[ep] at hx hp;rw[ec] at hx hc;have HPP:Hid _:=hp;have HC:Hid (ts.getD i 0=c):=ec;have hwc:IntKind.i64.wrap (c:Int)=(c:Int):=IntWalk.i64_in _ ⟨by omega,by omega⟩;clear hp ht1 ht2 ep ec
   go_wp2_with fail
   refine(HPP.out _).mono ?_;rintro z w2 ⟨rfl,b2⟩;have own2:=own.l b2;have bel2:=aa bel b2;clear own bel b2 HPP
   go_wp2
   go_loopw [5,8] (fun ov kv wr=> ∃j kk:Nat,j≤8∧Hid (kk=if j<8 then 2^ (7-j) else 0)∧kv=yi (kk:Int)∧kk≤128∧jp wr w.heap.size ov (qV ts (8*i+j))∧yB w wr) (fun _ kv _=>(intOf kv).toNat)
   case atStart=>exact⟨0,128,by omega,rfl,rfl,by omega,own2,bel2⟩
   case round=>
    obtain⟨j,kk,hj,HK,rfl,hkl,own,bel⟩:=hrel
    by_cases hj8:j<8
    ·have hkk:kk=2^ (7-j):=by have:=HK.out;rwa [if_pos hj8] at this
     have hk0:0<kk:=by rw[hkk];exact Nat.pow_pos (by omega)
     obtain⟨b,eb⟩: ∃b,decide (fU ts (8*i+j)=1)=b:=⟨_,rfl⟩;have hbit:fU ts (8*i+j)=c/kk % 2:=by
      unfold fU;rw[show(8*i+j)/8=i from by omega,show(8*i+j) % 8=j from by omega,HC.out,hkk]
     have hsu:qV ts (8*i+(j+1))=qV ts (8*i+j)++[b]:=by rw[←eb,show 8*i+(j+1)=8*i+j+1 from by omega];rfl
     obtain⟨r,er⟩: ∃r,c/kk % 2=r:=⟨_,rfl⟩;obtain⟨q,eq⟩: ∃q,c/kk=q:=⟨_,rfl⟩;have hqI:(c:Int)/(kk:Int)=(q:Int):=by rw[←eq];exact(Int.natCast_ediv c kk).symm
     have hql:q<256:=by rw[←eq];exact Nat.lt_of_le_of_lt (Nat.div_le_self _ _) hc
     have hrI:(q:Int) % 2=(r:Int):=by rw[←er,eq];omega
     have hbI:((r:Int)==1)=b:=by
      rw[←eb,hbit,er]
      by_cases h:r=1
      ·subst h;rfl
      ·rw[decide_eq_false h];simp;omega
     have hkI:((kk:Int) != 0)=true:=by rw[bne_iff_ne];omega
     have hhf:(kk:Int)/2=((kk/2:Nat):Int):=by omega
     have hst:=T7 j hj8;rw[←hkk] at hst;have HST:Hid (_∧_):=⟨hst,hsu⟩;have hlen:=kS ts (8*i+j);obtain⟨es,ees⟩: ∃es,qV ts (8*i+j)=es:=⟨_,rfl⟩;rw[ees] at own hlen HST;have hel:es.length≤200:=by omega
     obtain⟨kh,ekh⟩: ∃x,kk/2=x:=⟨_,rfl⟩;rw[ekh] at hhf HST;have hkh:kh<kk:=by omega
     have hbs:=bel.size;clear eb hbit hsu er eq hst hlen ees ekh hkk HK
     go_wp2_with (at_builtin;refine wpList_append_own _ rfl _ _ 96 rfl w.heap.size 4 i0 (.bool false) 1 1 underlying96 hi hz0 hz1 hz2 rfl (by decide) _ _ _ rfl (World.ownsRow.alloc own _) ⟨wr.heap.size,0,none⟩ 1 1 [.bool b] rfl rfl ?c1 ?c2 ?c3 ?c4 ?c5 ?_)
     case c1=>exact cell_one_new _ _ _
     case c2=>intro u hu;simp at hu;subst hu;rfl
     case c3=>unfold maxLen;omega
     case c4=>omega
     case c5=>simp;omega
     intro v' w3 hown' hgrow _;have R:=Mv bel own hown' hgrow;clear hown' hgrow own
     go_wp2
     go_roundw
     case rel=>exact⟨j+1,kh,by omega,HST.out.1,rfl,by omega,by rw[HST.out.2];exact R.1,R.2⟩
     case measure=>simp[intOf];omega
    ·have hk0:kk=0:=by have:=HK.out;rwa [if_neg hj8] at this
     have HJ:Hid (j=8):=(by omega:j=8);subst hk0
     go_wp2
     go_roundw
     case rel=>
      have:=HJ.out;subst this;exact⟨i+1,by omega,by go_num,own,bel⟩
     case measure=>simp[intOf];omega
  ·have HI:Hid (i=sz):=(by omega:i=sz)
   go_wp2
   go_ret
   have:=HI.out;subst this;exact⟨_,rfl,own,bel⟩
end Go.Proofs.YtpainhklfoaniaaGreatDoor

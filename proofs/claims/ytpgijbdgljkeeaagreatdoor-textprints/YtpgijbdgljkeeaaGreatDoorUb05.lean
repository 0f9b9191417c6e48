/-
  Texts laid together: Co5, Cr1, Cr2, Cr3, Cr4, Ef2.
-/
import Derived.Test.YtpgijbdgljkeeaaGreatDoorUb02
set_option maxRecDepth 100000
set_option maxHeartbeats 6400000
namespace Go.Proofs.YtpgijbdgljkeeaaGreatDoor
open _root_.Go.Proofs.Tryz
open Go.RowKit
theorem nD (a b c d e f g:Int)(w:World):yC 40 #[yi a,yi b,yi c,yi d,yi e,yi f,yi g] w (yR w (yhV a b c 2 d e f (g==1) g)):=by
 go_enter func40,ntmps40
 go_wp2
 go_returns
 exact⟨rfl,af _ _⟩
theorem oT (n:Int)(w:World)(h:dK n=0):yC 14 #[yi n] w (yR w (.tuple #[yhV 0 0 0 0 0 0 0 false 0,.bool false])):=by
 have hn:n<1∨8<n:=by
  unfold dK at h
  by_cases c:n<1∨8<n
  ·exact c
  ·rw[if_neg c] at h
   split at h
   ·omega
   ·split at h<;>omega
 clear h;have e1:(n==1)=false:=by simp;omega
 have e2:(n==2)=false:=by simp;omega
 have e3:(n==3)=false:=by simp;omega
 have e4:(n==4)=false:=by simp;omega
 have e5:(n==5)=false:=by simp;omega
 have e6:(n==6)=false:=by simp;omega
 have e7:(n==7)=false:=by simp;omega
 have e8:(n==8)=false:=by simp;omega
 have l0:=ah w (yhL 0 0 0 0 0 0 0 false 0) 42;have b0:=af w (.cells (yhA 0 0 0 0 0 0 0 false 0) 42);have hl:=run_loadVar_mid (P:=Tryz.prog) _ w.heap.size 0 42 (yhL 0 0 0 0 0 0 0 false 0) _ l0.range underlying42 rfl (by kernel_rfl);have HH:Hid (_∧_):=⟨hl,b0⟩;clear hl b0 l0
 go_enter func14,ntmps14
 go_wp2
 obtain⟨hl,bR⟩:=HH.out;exact bodyPost_ret (aj results14 rfl rfl hl) rfl ⟨rfl,bR⟩
theorem Ly (w:World):yC 14 #[yi 1] w (yR w (.tuple #[yhV 4 8 23 2 24 (-149) 104 true 1,.bool true])):=by
 have HT:Hid (yJ 40 #[yi 4,yi 8,yi 23,yi 24,yi (-149),yi 104,yi 1] (yhV 4 8 23 2 24 (-149) 104 true 1)):=fun w1=>nD _ _ _ _ _ _ _ w1
 have l0:=ah w (yhL 0 0 0 0 0 0 0 false 0) 42;have b0:=af w (.cells (yhA 0 0 0 0 0 0 0 false 0) 42)
 go_enter func14,ntmps14
 go_wp2_with fail
 refine(HT.out _).mono ?_;rintro z w2 ⟨rfl,b2⟩;have l2:=l0.l b2;have cR:au (((((((((w2.setCell ⟨w.heap.size,0,none⟩ (yi 4)).setCell ⟨w.heap.size,1,none⟩ (yi 8)).setCell ⟨w.heap.size,2,none⟩ (yi 23)).setCell ⟨w.heap.size,3,none⟩ (yi 2)).setCell ⟨w.heap.size,4,none⟩ (yi 24)).setCell ⟨w.heap.size,5,none⟩ (yi (-149))).setCell ⟨w.heap.size,6,none⟩ (yi 104)).setCell ⟨w.heap.size,7,none⟩ (.bool true)).setCell ⟨w.heap.size,8,none⟩ (yi 1)) w.heap.size 42 (yhL 4 8 23 2 24 (-149) 104 true 1):=(((((((((l2.set 0 (yi 4)).set 1 (yi 8)).set 2 (yi 23)).set 3 (yi 2)).set 4 (yi 24)).set 5 (yi (-149))).set 6 (yi 104)).set 7 (.bool true)).set 8 (yi 1));have bR:=(((((((((ag w2 w.heap.size 0 (yi 4)).trans (ag _ w.heap.size 1 (yi 8))).trans (ag _ w.heap.size 2 (yi 23))).trans (ag _ w.heap.size 3 (yi 2))).trans (ag _ w.heap.size 4 (yi 24))).trans (ag _ w.heap.size 5 (yi (-149)))).trans (ag _ w.heap.size 6 (yi 104))).trans (ag _ w.heap.size 7 (.bool true))).trans (ag _ w.heap.size 8 (yi 1))).below (aa b0 b2) (Nat.le_refl _);have hl:=run_loadVar_mid (P:=Tryz.prog) _ w.heap.size 0 42 (yhL 4 8 23 2 24 (-149) 104 true 1) _ cR.range underlying42 rfl (by kernel_rfl);have HH:Hid (_∧_):=⟨hl,bR⟩;have x0:=l2.c 0 rfl;have f0:=l2.f 0;have x1:=l2.c 1 rfl;have f1:=l2.f 1;have x2:=l2.c 2 rfl;have f2:=l2.f 2;have x3:=l2.c 3 rfl;have f3:=l2.f 3;have x4:=l2.c 4 rfl;have f4:=l2.f 4;have x5:=l2.c 5 rfl;have f5:=l2.f 5;have x6:=l2.c 6 rfl;have f6:=l2.f 6;have x7:=l2.c 7 rfl;have f7:=l2.f 7;have x8:=l2.c 8 rfl;have f8:=l2.f 8;clear hl bR cR l0 l2 b0 b2 HT
 go_wp2
 obtain⟨hl,bR⟩:=HH.out;exact bodyPost_ret (aj results14 rfl rfl hl) rfl ⟨rfl,bR⟩
theorem Lz (w:World):yC 14 #[yi 2] w (yR w (.tuple #[yhV 8 11 52 2 53 (-1074) 971 true 1,.bool true])):=by
 have HT:Hid (yJ 40 #[yi 8,yi 11,yi 52,yi 53,yi (-1074),yi 971,yi 1] (yhV 8 11 52 2 53 (-1074) 971 true 1)):=fun w1=>nD _ _ _ _ _ _ _ w1
 have l0:=ah w (yhL 0 0 0 0 0 0 0 false 0) 42;have b0:=af w (.cells (yhA 0 0 0 0 0 0 0 false 0) 42)
 go_enter func14,ntmps14
 go_wp2_with fail
 refine(HT.out _).mono ?_;rintro z w2 ⟨rfl,b2⟩;have l2:=l0.l b2;have cR:au (((((((((w2.setCell ⟨w.heap.size,0,none⟩ (yi 8)).setCell ⟨w.heap.size,1,none⟩ (yi 11)).setCell ⟨w.heap.size,2,none⟩ (yi 52)).setCell ⟨w.heap.size,3,none⟩ (yi 2)).setCell ⟨w.heap.size,4,none⟩ (yi 53)).setCell ⟨w.heap.size,5,none⟩ (yi (-1074))).setCell ⟨w.heap.size,6,none⟩ (yi 971)).setCell ⟨w.heap.size,7,none⟩ (.bool true)).setCell ⟨w.heap.size,8,none⟩ (yi 1)) w.heap.size 42 (yhL 8 11 52 2 53 (-1074) 971 true 1):=(((((((((l2.set 0 (yi 8)).set 1 (yi 11)).set 2 (yi 52)).set 3 (yi 2)).set 4 (yi 53)).set 5 (yi (-1074))).set 6 (yi 971)).set 7 (.bool true)).set 8 (yi 1));have bR:=(((((((((ag w2 w.heap.size 0 (yi 8)).trans (ag _ w.heap.size 1 (yi 11))).trans (ag _ w.heap.size 2 (yi 52))).trans (ag _ w.heap.size 3 (yi 2))).trans (ag _ w.heap.size 4 (yi 53))).trans (ag _ w.heap.size 5 (yi (-1074)))).trans (ag _ w.heap.size 6 (yi 971))).trans (ag _ w.heap.size 7 (.bool true))).trans (ag _ w.heap.size 8 (yi 1))).below (aa b0 b2) (Nat.le_refl _);have hl:=run_loadVar_mid (P:=Tryz.prog) _ w.heap.size 0 42 (yhL 8 11 52 2 53 (-1074) 971 true 1) _ cR.range underlying42 rfl (by kernel_rfl);have HH:Hid (_∧_):=⟨hl,bR⟩;have x0:=l2.c 0 rfl;have f0:=l2.f 0;have x1:=l2.c 1 rfl;have f1:=l2.f 1;have x2:=l2.c 2 rfl;have f2:=l2.f 2;have x3:=l2.c 3 rfl;have f3:=l2.f 3;have x4:=l2.c 4 rfl;have f4:=l2.f 4;have x5:=l2.c 5 rfl;have f5:=l2.f 5;have x6:=l2.c 6 rfl;have f6:=l2.f 6;have x7:=l2.c 7 rfl;have f7:=l2.f 7;have x8:=l2.c 8 rfl;have f8:=l2.f 8;clear hl bR cR l0 l2 b0 b2 HT
 go_wp2
 obtain⟨hl,bR⟩:=HH.out;exact bodyPost_ret (aj results14 rfl rfl hl) rfl ⟨rfl,bR⟩
theorem LA (w:World):yC 14 #[yi 3] w (yR w (.tuple #[yhV 10 15 64 2 64 (-16445) 16320 true 1,.bool true])):=by
 have HT:Hid (yJ 40 #[yi 10,yi 15,yi 64,yi 64,yi (-16445),yi 16320,yi 1] (yhV 10 15 64 2 64 (-16445) 16320 true 1)):=fun w1=>nD _ _ _ _ _ _ _ w1
 have l0:=ah w (yhL 0 0 0 0 0 0 0 false 0) 42;have b0:=af w (.cells (yhA 0 0 0 0 0 0 0 false 0) 42)
 go_enter func14,ntmps14
 go_wp2_with fail
 refine(HT.out _).mono ?_;rintro z w2 ⟨rfl,b2⟩;have l2:=l0.l b2;have cR:au (((((((((w2.setCell ⟨w.heap.size,0,none⟩ (yi 10)).setCell ⟨w.heap.size,1,none⟩ (yi 15)).setCell ⟨w.heap.size,2,none⟩ (yi 64)).setCell ⟨w.heap.size,3,none⟩ (yi 2)).setCell ⟨w.heap.size,4,none⟩ (yi 64)).setCell ⟨w.heap.size,5,none⟩ (yi (-16445))).setCell ⟨w.heap.size,6,none⟩ (yi 16320)).setCell ⟨w.heap.size,7,none⟩ (.bool true)).setCell ⟨w.heap.size,8,none⟩ (yi 1)) w.heap.size 42 (yhL 10 15 64 2 64 (-16445) 16320 true 1):=(((((((((l2.set 0 (yi 10)).set 1 (yi 15)).set 2 (yi 64)).set 3 (yi 2)).set 4 (yi 64)).set 5 (yi (-16445))).set 6 (yi 16320)).set 7 (.bool true)).set 8 (yi 1));have bR:=(((((((((ag w2 w.heap.size 0 (yi 10)).trans (ag _ w.heap.size 1 (yi 15))).trans (ag _ w.heap.size 2 (yi 64))).trans (ag _ w.heap.size 3 (yi 2))).trans (ag _ w.heap.size 4 (yi 64))).trans (ag _ w.heap.size 5 (yi (-16445)))).trans (ag _ w.heap.size 6 (yi 16320))).trans (ag _ w.heap.size 7 (.bool true))).trans (ag _ w.heap.size 8 (yi 1))).below (aa b0 b2) (Nat.le_refl _);have hl:=run_loadVar_mid (P:=Tryz.prog) _ w.heap.size 0 42 (yhL 10 15 64 2 64 (-16445) 16320 true 1) _ cR.range underlying42 rfl (by kernel_rfl);have HH:Hid (_∧_):=⟨hl,bR⟩;have x0:=l2.c 0 rfl;have f0:=l2.f 0;have x1:=l2.c 1 rfl;have f1:=l2.f 1;have x2:=l2.c 2 rfl;have f2:=l2.f 2;have x3:=l2.c 3 rfl;have f3:=l2.f 3;have x4:=l2.c 4 rfl;have f4:=l2.f 4;have x5:=l2.c 5 rfl;have f5:=l2.f 5;have x6:=l2.c 6 rfl;have f6:=l2.f 6;have x7:=l2.c 7 rfl;have f7:=l2.f 7;have x8:=l2.c 8 rfl;have f8:=l2.f 8;clear hl bR cR l0 l2 b0 b2 HT
 go_wp2
 obtain⟨hl,bR⟩:=HH.out;exact bodyPost_ret (aj results14 rfl rfl hl) rfl ⟨rfl,bR⟩
theorem LC (w:World):yC 14 #[yi 4] w (yR w (.tuple #[yhV 4 7 24 16 6 (-70) 57 false 2,.bool true])):=by
 have l0:=ah w (yhL 4 7 24 16 6 (-70) 57 false 2) 42;have b0:=af w (.cells (yhA 4 7 24 16 6 (-70) 57 false 2) 42);have hl:=run_loadVar_mid (P:=Tryz.prog) _ w.heap.size 0 42 (yhL 4 7 24 16 6 (-70) 57 false 2) _ l0.range underlying42 rfl (by kernel_rfl);have HH:Hid (_∧_):=⟨hl,b0⟩;clear hl b0 l0
 go_enter func14,ntmps14
 go_wp2
 obtain⟨hl,bR⟩:=HH.out;exact bodyPost_ret (aj results14 rfl rfl hl) rfl ⟨rfl,bR⟩
theorem LD (w:World):yC 14 #[yi 5] w (yR w (.tuple #[yhV 8 7 56 16 14 (-78) 49 false 2,.bool true])):=by
 have l0:=ah w (yhL 8 7 56 16 14 (-78) 49 false 2) 42;have b0:=af w (.cells (yhA 8 7 56 16 14 (-78) 49 false 2) 42);have hl:=run_loadVar_mid (P:=Tryz.prog) _ w.heap.size 0 42 (yhL 8 7 56 16 14 (-78) 49 false 2) _ l0.range underlying42 rfl (by kernel_rfl);have HH:Hid (_∧_):=⟨hl,b0⟩;clear hl b0 l0
 go_enter func14,ntmps14
 go_wp2
 obtain⟨hl,bR⟩:=HH.out;exact bodyPost_ret (aj results14 rfl rfl hl) rfl ⟨rfl,bR⟩
theorem LE (w:World):yC 14 #[yi 6] w (yR w (.tuple #[yhV 4 8 23 2 24 (-151) 103 false 3,.bool true])):=by
 have HT:Hid (yJ 40 #[yi 4,yi 8,yi 23,yi 24,yi (-151),yi 103,yi 3] (yhV 4 8 23 2 24 (-151) 103 false 3)):=fun w1=>nD _ _ _ _ _ _ _ w1
 have l0:=ah w (yhL 0 0 0 0 0 0 0 false 0) 42;have b0:=af w (.cells (yhA 0 0 0 0 0 0 0 false 0) 42)
 go_enter func14,ntmps14
 go_wp2_with fail
 refine(HT.out _).mono ?_;rintro z w2 ⟨rfl,b2⟩;have l2:=l0.l b2;have cR:au (((((((((w2.setCell ⟨w.heap.size,0,none⟩ (yi 4)).setCell ⟨w.heap.size,1,none⟩ (yi 8)).setCell ⟨w.heap.size,2,none⟩ (yi 23)).setCell ⟨w.heap.size,3,none⟩ (yi 2)).setCell ⟨w.heap.size,4,none⟩ (yi 24)).setCell ⟨w.heap.size,5,none⟩ (yi (-151))).setCell ⟨w.heap.size,6,none⟩ (yi 103)).setCell ⟨w.heap.size,7,none⟩ (.bool false)).setCell ⟨w.heap.size,8,none⟩ (yi 3)) w.heap.size 42 (yhL 4 8 23 2 24 (-151) 103 false 3):=(((((((((l2.set 0 (yi 4)).set 1 (yi 8)).set 2 (yi 23)).set 3 (yi 2)).set 4 (yi 24)).set 5 (yi (-151))).set 6 (yi 103)).set 7 (.bool false)).set 8 (yi 3));have bR:=(((((((((ag w2 w.heap.size 0 (yi 4)).trans (ag _ w.heap.size 1 (yi 8))).trans (ag _ w.heap.size 2 (yi 23))).trans (ag _ w.heap.size 3 (yi 2))).trans (ag _ w.heap.size 4 (yi 24))).trans (ag _ w.heap.size 5 (yi (-151)))).trans (ag _ w.heap.size 6 (yi 103))).trans (ag _ w.heap.size 7 (.bool false))).trans (ag _ w.heap.size 8 (yi 3))).below (aa b0 b2) (Nat.le_refl _);have hl:=run_loadVar_mid (P:=Tryz.prog) _ w.heap.size 0 42 (yhL 4 8 23 2 24 (-151) 103 false 3) _ cR.range underlying42 rfl (by kernel_rfl);have HH:Hid (_∧_):=⟨hl,bR⟩;have x0:=l2.c 0 rfl;have f0:=l2.f 0;have x1:=l2.c 1 rfl;have f1:=l2.f 1;have x2:=l2.c 2 rfl;have f2:=l2.f 2;have x3:=l2.c 3 rfl;have f3:=l2.f 3;have x4:=l2.c 4 rfl;have f4:=l2.f 4;have x5:=l2.c 5 rfl;have f5:=l2.f 5;have x6:=l2.c 6 rfl;have f6:=l2.f 6;have x7:=l2.c 7 rfl;have f7:=l2.f 7;have x8:=l2.c 8 rfl;have f8:=l2.f 8;clear hl bR cR l0 l2 b0 b2 HT
 go_wp2
 obtain⟨hl,bR⟩:=HH.out;exact bodyPost_ret (aj results14 rfl rfl hl) rfl ⟨rfl,bR⟩
theorem LF (w:World):yC 14 #[yi 7] w (yR w (.tuple #[yhV 8 8 55 2 56 (-183) 71 false 3,.bool true])):=by
 have HT:Hid (yJ 40 #[yi 8,yi 8,yi 55,yi 56,yi (-183),yi 71,yi 3] (yhV 8 8 55 2 56 (-183) 71 false 3)):=fun w1=>nD _ _ _ _ _ _ _ w1
 have l0:=ah w (yhL 0 0 0 0 0 0 0 false 0) 42;have b0:=af w (.cells (yhA 0 0 0 0 0 0 0 false 0) 42)
 go_enter func14,ntmps14
 go_wp2_with fail
 refine(HT.out _).mono ?_;rintro z w2 ⟨rfl,b2⟩;have l2:=l0.l b2;have cR:au (((((((((w2.setCell ⟨w.heap.size,0,none⟩ (yi 8)).setCell ⟨w.heap.size,1,none⟩ (yi 8)).setCell ⟨w.heap.size,2,none⟩ (yi 55)).setCell ⟨w.heap.size,3,none⟩ (yi 2)).setCell ⟨w.heap.size,4,none⟩ (yi 56)).setCell ⟨w.heap.size,5,none⟩ (yi (-183))).setCell ⟨w.heap.size,6,none⟩ (yi 71)).setCell ⟨w.heap.size,7,none⟩ (.bool false)).setCell ⟨w.heap.size,8,none⟩ (yi 3)) w.heap.size 42 (yhL 8 8 55 2 56 (-183) 71 false 3):=(((((((((l2.set 0 (yi 8)).set 1 (yi 8)).set 2 (yi 55)).set 3 (yi 2)).set 4 (yi 56)).set 5 (yi (-183))).set 6 (yi 71)).set 7 (.bool false)).set 8 (yi 3));have bR:=(((((((((ag w2 w.heap.size 0 (yi 8)).trans (ag _ w.heap.size 1 (yi 8))).trans (ag _ w.heap.size 2 (yi 55))).trans (ag _ w.heap.size 3 (yi 2))).trans (ag _ w.heap.size 4 (yi 56))).trans (ag _ w.heap.size 5 (yi (-183)))).trans (ag _ w.heap.size 6 (yi 71))).trans (ag _ w.heap.size 7 (.bool false))).trans (ag _ w.heap.size 8 (yi 3))).below (aa b0 b2) (Nat.le_refl _);have hl:=run_loadVar_mid (P:=Tryz.prog) _ w.heap.size 0 42 (yhL 8 8 55 2 56 (-183) 71 false 3) _ cR.range underlying42 rfl (by kernel_rfl);have HH:Hid (_∧_):=⟨hl,bR⟩;have x0:=l2.c 0 rfl;have f0:=l2.f 0;have x1:=l2.c 1 rfl;have f1:=l2.f 1;have x2:=l2.c 2 rfl;have f2:=l2.f 2;have x3:=l2.c 3 rfl;have f3:=l2.f 3;have x4:=l2.c 4 rfl;have f4:=l2.f 4;have x5:=l2.c 5 rfl;have f5:=l2.f 5;have x6:=l2.c 6 rfl;have f6:=l2.f 6;have x7:=l2.c 7 rfl;have f7:=l2.f 7;have x8:=l2.c 8 rfl;have f8:=l2.f 8;clear hl bR cR l0 l2 b0 b2 HT
 go_wp2
 obtain⟨hl,bR⟩:=HH.out;exact bodyPost_ret (aj results14 rfl rfl hl) rfl ⟨rfl,bR⟩
theorem LH (w:World):yC 14 #[yi 8] w (yR w (.tuple #[yhV 8 11 52 2 53 (-1076) 970 false 3,.bool true])):=by
 have HT:Hid (yJ 40 #[yi 8,yi 11,yi 52,yi 53,yi (-1076),yi 970,yi 3] (yhV 8 11 52 2 53 (-1076) 970 false 3)):=fun w1=>nD _ _ _ _ _ _ _ w1
 have l0:=ah w (yhL 0 0 0 0 0 0 0 false 0) 42;have b0:=af w (.cells (yhA 0 0 0 0 0 0 0 false 0) 42)
 go_enter func14,ntmps14
 go_wp2_with fail
 refine(HT.out _).mono ?_;rintro z w2 ⟨rfl,b2⟩;have l2:=l0.l b2;have cR:au (((((((((w2.setCell ⟨w.heap.size,0,none⟩ (yi 8)).setCell ⟨w.heap.size,1,none⟩ (yi 11)).setCell ⟨w.heap.size,2,none⟩ (yi 52)).setCell ⟨w.heap.size,3,none⟩ (yi 2)).setCell ⟨w.heap.size,4,none⟩ (yi 53)).setCell ⟨w.heap.size,5,none⟩ (yi (-1076))).setCell ⟨w.heap.size,6,none⟩ (yi 970)).setCell ⟨w.heap.size,7,none⟩ (.bool false)).setCell ⟨w.heap.size,8,none⟩ (yi 3)) w.heap.size 42 (yhL 8 11 52 2 53 (-1076) 970 false 3):=(((((((((l2.set 0 (yi 8)).set 1 (yi 11)).set 2 (yi 52)).set 3 (yi 2)).set 4 (yi 53)).set 5 (yi (-1076))).set 6 (yi 970)).set 7 (.bool false)).set 8 (yi 3));have bR:=(((((((((ag w2 w.heap.size 0 (yi 8)).trans (ag _ w.heap.size 1 (yi 11))).trans (ag _ w.heap.size 2 (yi 52))).trans (ag _ w.heap.size 3 (yi 2))).trans (ag _ w.heap.size 4 (yi 53))).trans (ag _ w.heap.size 5 (yi (-1076)))).trans (ag _ w.heap.size 6 (yi 970))).trans (ag _ w.heap.size 7 (.bool false))).trans (ag _ w.heap.size 8 (yi 3))).below (aa b0 b2) (Nat.le_refl _);have hl:=run_loadVar_mid (P:=Tryz.prog) _ w.heap.size 0 42 (yhL 8 11 52 2 53 (-1076) 970 false 3) _ cR.range underlying42 rfl (by kernel_rfl);have HH:Hid (_∧_):=⟨hl,bR⟩;have x0:=l2.c 0 rfl;have f0:=l2.f 0;have x1:=l2.c 1 rfl;have f1:=l2.f 1;have x2:=l2.c 2 rfl;have f2:=l2.f 2;have x3:=l2.c 3 rfl;have f3:=l2.f 3;have x4:=l2.c 4 rfl;have f4:=l2.f 4;have x5:=l2.c 5 rfl;have f5:=l2.f 5;have x6:=l2.c 6 rfl;have f6:=l2.f 6;have x7:=l2.c 7 rfl;have f7:=l2.f 7;have x8:=l2.c 8 rfl;have f8:=l2.f 8;clear hl bR cR l0 l2 b0 b2 HT
 go_wp2
 obtain⟨hl,bR⟩:=HH.out;exact bodyPost_ret (aj results14 rfl rfl hl) rfl ⟨rfl,bR⟩
def afl:Nat→List Value
 |1=>(yhL 4 8 23 2 24 (-149) 104 true 1)
 |2=>(yhL 8 11 52 2 53 (-1074) 971 true 1)
 |3=>(yhL 10 15 64 2 64 (-16445) 16320 true 1)
 |4=>(yhL 4 7 24 16 6 (-70) 57 false 2)
 |5=>(yhL 8 7 56 16 14 (-78) 49 false 2)
 |6=>(yhL 4 8 23 2 24 (-151) 103 false 3)
 |7=>(yhL 8 8 55 2 56 (-183) 71 false 3)
 |8=>(yhL 8 11 52 2 53 (-1076) 970 false 3)
 |_=>(yhL 0 0 0 0 0 0 0 false 0)
theorem qU (k:Nat)(hk:1≤k∧k≤8)(w:World):yC 14 #[yi k] w (yR w (.tuple #[.agg (afl k).toArray,.bool true])):=by
 rcases bO hk with rfl|rfl|rfl|rfl|rfl|rfl|rfl|rfl
 ·exact Ly w
 ·exact Lz w
 ·exact LA w
 ·exact LC w
 ·exact LD w
 ·exact LE w
 ·exact LF w
 ·exact LH w
def plN (k i:Nat):Nat:=if k=3 then szN k-1-i else if 6≤k then i+1-2*(i % 2) else i
theorem Kh (k:Nat)(zs:List Nat)(i:Nat)(hk:zs.length=szN k)(hi:i<zs.length):(jT k zs).getD i 0=zs.getD (plN k i) 0:=by
 unfold jT plN
 by_cases h3:k=3
 ·rw[if_pos h3,if_pos h3,List.getD_eq_getElem?_getD,List.getElem?_reverse hi,←List.getD_eq_getElem?_getD,hk]
 ·rw[if_neg h3,if_neg h3]
  by_cases h6:6≤k
  ·rw[if_pos h6,if_pos h6,Fl zs i hi]
  ·rw[if_neg h6,if_neg h6]
theorem Co {k i:Nat}(hk:1≤k∧k≤8)(hi:i<szN k):plN k i<szN k:=by
 obtain⟨m,hm⟩:=(fZ hk).2.2.2.2.1;unfold plN
 split
 ·omega
 ·split<;>omega
theorem sM (n:Int)(sz ex fr:Nat)(R D L G fam:Int)(gr:Bool)(i:Nat)(w:World)(hi:i<sz)(hsz:sz≤10)
  (HF:yJ 14 #[yi n] (.tuple #[yhV sz ex fr R D L G gr fam,.bool true])):
  yC 105 #[yi n,yi i] w (yR w (yi (if n=3 then sz-1-i else if fam=3 then i+1-2*((i:Int) % 2) else i))):=by
 have HF':Hid _:=HF;clear HF
 by_cases h3:n=3
 ·subst h3
  rw[if_pos rfl]
  go_enter func105,ntmps105
  go_wp2_with fail
  refine(HF'.out _).mono ?_;rintro z w1 ⟨rfl,b1⟩
  go_wp2
  go_ret
  exact⟨by go_num,aa b1 (af _ _)⟩
 ·have hn:(n==3)=false:=by simpa using h3
  rw[if_neg h3]
  by_cases hf:fam=3
  ·subst hf
   rw[if_pos rfl];clear h3
   go_enter func105,ntmps105
   go_wp2_with fail
   refine(HF'.out _).mono ?_;rintro z w1 ⟨rfl,b1⟩
   go_wp2
   go_ret
   exact⟨by go_num,aa b1 (af _ _)⟩
  ·have hfb:(fam==3)=false:=by simpa using hf
   rw[if_neg hf];clear h3 hf
   go_enter func105,ntmps105
   go_wp2_with fail
   refine(HF'.out _).mono ?_;rintro z w1 ⟨rfl,b1⟩
   go_wp2
   go_ret
   exact⟨rfl,aa b1 (af _ _)⟩
theorem IF (k:Nat)(hk:1≤k∧k≤8)(i:Nat)(hi:i<szN k)(w:World):yC 105 #[yi k,yi i] w (yR w (yi ((plN k i:Nat):Int))):=by
 have HF:=fun w1=>qU k hk w1
 have hsz:=(fZ hk).2.2.1;have key: ∀x:Int,((plN k i:Nat):Int)=x→yC 105 #[yi k,yi i] w ((yR w (yi x)))→yC 105 #[yi k,yi i] w ((yR w (yi ((plN k i:Nat):Int)))):=fun x hx h=>by rw[hx];exact h
 rcases bO hk with rfl|rfl|rfl|rfl|rfl|rfl|rfl|rfl
 ·exact key _ (by unfold plN;simp) (sM _ _ _ _ _ _ _ _ _ _ i w hi hsz HF)
 ·exact key _ (by unfold plN;simp) (sM _ _ _ _ _ _ _ _ _ _ i w hi hsz HF)
 ·exact key _ (by unfold plN;simp only[szN] at hi⊢;simp;omega) (sM _ _ _ _ _ _ _ _ _ _ i w hi hsz HF)
 ·exact key _ (by unfold plN;simp) (sM _ _ _ _ _ _ _ _ _ _ i w hi hsz HF)
 ·exact key _ (by unfold plN;simp) (sM _ _ _ _ _ _ _ _ _ _ i w hi hsz HF)
 ·exact key _ (by unfold plN;simp;omega) (sM _ _ _ _ _ _ _ _ _ _ i w hi hsz HF)
 ·exact key _ (by unfold plN;simp;omega) (sM _ _ _ _ _ _ _ _ _ _ i w hi hsz HF)
 ·exact key _ (by unfold plN;simp;omega) (sM _ _ _ _ _ _ _ _ _ _ i w hi hsz HF)
theorem T3 (n:Int)(s:ByteArray)(w:World)(h:dK n=0):yC 20 #[yi n,.string s] w (yR w (yi 6)):=by
 have HF:Hid (yJ 14 #[yi n] (.tuple #[yhV 0 0 0 0 0 0 0 false 0,.bool false])):=fun w1=>oT n w1 h
 clear h
 go_enter func20,ntmps20
 go_wp2_with fail
 refine(HF.out _).mono ?_;rintro z w1 ⟨rfl,b1⟩
 go_wp2
 go_ret
 exact⟨rfl,aa b1 (af _ _)⟩
theorem acZ (n:Int)(sz ex fr:Nat)(R D L G fam:Int)(gr:Bool)(s:ByteArray)(w:World)
  (HF:yJ 14 #[yi n] (.tuple #[yhV sz ex fr R D L G gr fam,.bool true])):
  yC 20 #[yi n,.string s] w (yR w (yi (if s.size=sz then 0 else 1))):=by
 have HF':Hid _:=HF;clear HF
 by_cases hs:s.size=sz
 ·rw[if_pos hs]
  go_enter func20,ntmps20
  go_wp2_with fail
  refine(HF'.out _).mono ?_;rintro z w1 ⟨rfl,b1⟩
  go_wp2
  go_ret
  exact⟨rfl,aa b1 (af _ _)⟩
 ·rw[if_neg hs]
  have hb:((s.size:Int)==(sz:Int))=false:=by simp;omega
  clear hs
  go_enter func20,ntmps20
  go_wp2_with fail
  refine(HF'.out _).mono ?_;rintro z w1 ⟨rfl,b1⟩
  go_wp2
  go_ret
  exact⟨rfl,aa b1 (af _ _)⟩
def qV (ts:List Nat):Nat→List Bool
 |0=>[]
 |n+1=>qV ts n++[decide (fU ts n=1)]
theorem kS (ts:List Nat): ∀n,(qV ts n).length=n
 |0=>rfl
 |n+1=>by rw[qV,List.length_append,kS ts n];rfl
theorem wW (ts:List Nat): ∀n i,i<n→(qV ts n)[i]? =some (decide (fU ts i=1))
 |0,_,h=>absurd h (Nat.not_lt_zero _)
 |n+1,i,h=>by
  rw[qV]
  by_cases hi:i<n
  ·rw[List.getElem?_append_left (by rw[kS];exact hi)]
   exact wW ts n i hi
  ·have:i=n:=by omega
   subst this;rw[List.getElem?_append_right (by rw[kS];exact Nat.le_refl _),kS,Nat.sub_self];rfl
theorem Mu {P:Program}(t:TypeId)(s:ByteArray)(p:Nat)(h:P.underlying t=some .string)(hp:p<s.size)(W:World):
  (Instr.index t (.string s) (yi p)).run P W= .ok (.int .u8 (((jr s).getD p 0:Nat):Int)) W:=by
 rw[run_index_string W t s .i64 p h,dif_pos ⟨by omega,by omega⟩]
 congr 2
 have hp':p<s.data.size:=hp;rw[jr,List.getD_eq_getElem?_getD,List.getElem?_map,Array.getElem?_toList,Array.getElem?_eq_getElem hp'];rfl
theorem Mv {w wr w3:World}{x:Bool}{es:List Bool}{lv v':Value}(bel:yB w wr)(ownL:jp wr w.heap.size lv es)
  (hown':w3.ownsRow w.heap.size 4 1 v' (es.length+1) ((es.map Value.bool)++[.bool x]))
  (hgrow:(wr.alloc (.cells #[.bool x] 4)).grownBy w3 lv.ownBlock):
  jp w3 w.heap.size v' (es++[x])∧yB w w3:=by
 have b1:yB wr (wr.alloc (.cells #[.bool x] 4)):=(Below.refl _ _).alloc (Nat.le_refl _) _;refine⟨?_, ?_⟩
 ·unfold jp
  simpa using hown'
 ·refine(aa bel b1).grown hgrow (Nat.le_trans bel.size b1.size) (fun k hk=> ?_)
  exact(World.ownsRow.lt ownL k hk).1
theorem T7: ∀j,j<8→2^ (7-j)/2=if j+1<8 then 2^ (7-(j+1)) else 0:=by decide
theorem P3 (k:Nat)(hk:1≤k∧k≤8)(s:ByteArray)(w:World)(hs:s.size=szN k):
  yC 48 #[yi k,.string s] w fun z w'=> ∃v,z= .returned v∧jp w' w.heap.size v (qV (wG k s) (8*szN k))∧yB w w':=by
 obtain⟨i0,hi,hz0,hz1,hz2⟩:=info_parts Tryz.infoB;have HP:Hid (∀(i:Nat) w1,i<szN k→yC 105 #[yi k,yi i] w1 (yR w1 (yi ((plN k i:Nat):Int)))):=fun i w1 h=>IF k hk i h w1
 have HX:Hid (∀p W,p<s.size→(Instr.index 9 (.string s) (yi (p:Int))).run Tryz.prog W= .ok (.int .u8 (((jr s).getD p 0:Nat):Int)) W):=fun p W h=>Mu 9 s p underlying9 h W
 have HT:Hid (∀i,i<szN k→(wG k s).getD i 0=(jr s).getD (plN k i) 0∧plN k i<szN k):=fun i h=>⟨Kh k _ i (by rw[oV,hs]) (by rw[oV,hs];exact h),Co hk h⟩
 have hsm:=xi k _ (zU s);have HSM:Hid (Dg.Small 256 (wG k s)):=hsm;have hsz:=(fZ hk).2.2.1;obtain⟨sz,esz⟩: ∃x,szN k=x:=⟨_,rfl⟩;obtain⟨ts,ets⟩: ∃x,wG k s=x:=⟨_,rfl⟩;rw[esz] at HP HT hsz hs⊢;rw[ets] at HT HSM⊢;clear hsm esz ets hk
 go_enter func48,ntmps48
 go_wp2
 go_loopw [5,6] (fun ov iv wr=> ∃i:Nat,i≤sz∧iv=yi i∧jp wr w.heap.size ov (qV ts (8*i))∧yB w wr) (fun _ iv _=>sz-(intOf iv).toNat)
 case atStart=>exact⟨0,by omega,rfl,World.ownsRow_nil _ _ _ 1,Below.refl _ _⟩
 case round=>
  obtain⟨i,hi1,rfl,own,bel⟩:=hrel
  by_cases hlt:i<sz
  ·have hx:=HX.out (plN k i)
   obtain⟨ht1,ht2⟩:=HT.out i hlt;have hx:=fun W=>HX.out (plN k i) W (by omega)
   rw[←ht1] at hx;have hc:=HSM.out i;obtain⟨c,ec⟩: ∃c,ts.getD i 0=c:=⟨_,rfl⟩;obtain⟨pp,ep⟩: ∃c,plN k i=c:=⟨_,rfl⟩;have hp:=fun w1=>HP.out i w1 hlt
   rw[ep] at hx hp;rw[ec] at hx hc;have HPP:Hid _:=hp;have HC:Hid (ts.getD i 0=c):=ec;have hwc:IntKind.i64.wrap (c:Int)=(c:Int):=IntWalk.i64_in _ ⟨by omega,by omega⟩;clear hp ht1 ht2 ep ec
   go_wp2_with fail
   refine(HPP.out _).mono ?_;rintro z w2 ⟨rfl,b2⟩;have own2:=own.l b2;have bel2:=aa bel b2;clear own bel b2 HPP
   go_wp2
   go_loopw [5,8] (fun ov kv wr=> ∃j kk:Nat,j≤8∧Hid (kk=if j<8 then 2^ (7-j) else 0)∧kv=yi (kk:Int)∧kk≤128∧jp wr w.heap.size ov (qV ts (8*i+j))∧yB w wr) (fun _ kv _=>(intOf kv).toNat)
   case atStart=>exact⟨0,128,by omega,rfl,rfl,by omega,own2,bel2⟩
   case round=>
    obtain⟨j,kk,hj,HK,rfl,hkl,own,bel⟩:=hrel
    by_cases hj8:j<8
    ·have hkk:kk=2^ (7-j):=by have:=HK.out;rwa [if_pos hj8] at this
     have hk0:0<kk:=by rw[hkk];exact Nat.pow_pos (by omega)
     obtain⟨b,eb⟩: ∃b,decide (fU ts (8*i+j)=1)=b:=⟨_,rfl⟩;have hbit:fU ts (8*i+j)=c/kk % 2:=by
      unfold fU;rw[show(8*i+j)/8=i from by omega,show(8*i+j) % 8=j from by omega,HC.out,hkk]
     have hsu:qV ts (8*i+(j+1))=qV ts (8*i+j)++[b]:=by rw[←eb,show 8*i+(j+1)=8*i+j+1 from by omega];rfl
     obtain⟨r,er⟩: ∃r,c/kk % 2=r:=⟨_,rfl⟩;obtain⟨q,eq⟩: ∃q,c/kk=q:=⟨_,rfl⟩;have hqI:(c:Int)/(kk:Int)=(q:Int):=by rw[←eq];exact(Int.natCast_ediv c kk).symm
     have hql:q<256:=by rw[←eq];exact Nat.lt_of_le_of_lt (Nat.div_le_self _ _) hc
     have hrI:(q:Int) % 2=(r:Int):=by rw[←er,eq];omega
     have hbI:((r:Int)==1)=b:=by
      rw[←eb,hbit,er]
      by_cases h:r=1
      ·subst h;rfl
      ·rw[decide_eq_false h];simp;omega
     have hkI:((kk:Int) != 0)=true:=by rw[bne_iff_ne];omega
     have hhf:(kk:Int)/2=((kk/2:Nat):Int):=by omega
     have hst:=T7 j hj8;rw[←hkk] at hst;have HST:Hid (_∧_):=⟨hst,hsu⟩;have hlen:=kS ts (8*i+j);obtain⟨es,ees⟩: ∃es,qV ts (8*i+j)=es:=⟨_,rfl⟩;rw[ees] at own hlen HST;have hel:es.length≤200:=by omega
     obtain⟨kh,ekh⟩: ∃x,kk/2=x:=⟨_,rfl⟩;rw[ekh] at hhf HST;have hkh:kh<kk:=by omega
     have hbs:=bel.size;clear eb hbit hsu er eq hst hlen ees ekh hkk HK
     go_wp2_with (at_builtin;refine wpList_append_own _ rfl _ _ 105 rfl w.heap.size 4 i0 (.bool false) 1 1 underlying105 hi hz0 hz1 hz2 rfl (by decide) _ _ _ rfl (World.ownsRow.alloc own _) ⟨wr.heap.size,0,none⟩ 1 1 [.bool b] rfl rfl ?c1 ?c2 ?c3 ?c4 ?c5 ?_)
     case c1=>exact cell_one_new _ _ _
     case c2=>intro u hu;simp at hu;subst hu;rfl
     case c3=>unfold maxLen;omega
     case c4=>omega
     case c5=>simp;omega
     intro v' w3 hown' hgrow _;have R:=Mv bel own hown' hgrow;clear hown' hgrow own
     go_wp2
     go_roundw
     case rel=>exact⟨j+1,kh,by omega,HST.out.1,rfl,by omega,by rw[HST.out.2];exact R.1,R.2⟩
     case measure=>simp[intOf];omega
    ·have hk0:kk=0:=by have:=HK.out;rwa [if_neg hj8] at this
     have HJ:Hid (j=8):=(by omega:j=8);subst hk0
     go_wp2
     go_roundw
     case rel=>
      have:=HJ.out;subst this;exact⟨i+1,by omega,by go_num,own,bel⟩
     case measure=>simp[intOf];omega
  ·have HI:Hid (i=sz):=(by omega:i=sz)
   go_wp2
   go_ret
   have:=HI.out;subst this;exact⟨_,rfl,own,bel⟩
def jY (bf:Nat→Bool):Nat→Nat
 |0=>0
 |n+1=>jY bf n*2+if bf n then 1 else 0
theorem DZ (bf:Nat→Bool): ∀n,jY bf n<2^n
 |0=>by simp[jY]
 |n+1=>by
  have:=DZ bf n;rw[jY,Nat.pow_succ]
  split<;>omega
theorem uz (ts:List Nat)(f:Nat): ∀n,jY (fun i=>decide (fU ts (f+i)=1)) n=eH ts f n
 |0=>rfl
 |n+1=>by
  rw[jY,eH,uz ts f n];have:=xW ts (f+n)
  by_cases h:fU ts (f+n)=1
  ·rw[h];simp;omega
  ·rw[show fU ts (f+n)=0 from by omega];simp;omega
theorem pV (b off n cap:Nat)(bf:Nat→Bool)(w:World)(hn:n≤64)(hc: ∀i,i<n→w.cell? ⟨b,off+i,none⟩=some (.bool (bf i))):
  yC 49 #[.slice (some ⟨b,off,none⟩) n cap] w (cG w (jY bf n)):=by
 have HCC:Hid _:=hc;clear hc
 go_enter func49,ntmps49
 go_wp2
 go_loopw [3,4] (fun av iv wr=> ∃k:Nat,k≤n∧iv=yi (k:Int)∧Rd wr .i64 av (Dg.dg 65536 (jY bf k))∧yB w wr) (fun _ iv _=>n-(intOf iv).toNat)
 case atStart=>exact⟨0,Nat.zero_le _,rfl,(aQ _ 0 0 _).rd,Below.refl _ _⟩
 case round=>
  obtain⟨k,hk,rfl,hr,bel⟩:=hrel;obtain⟨m,em⟩: ∃m,jY bf k=m:=⟨_,rfl⟩;rw[em] at hr;obtain⟨ao,ca,rfl⟩:=hr.shape
  by_cases hlt:k<n
  ·have hcell:=HCC.out k hlt
   have hvl:=DZ bf k;have hpw:(2:Nat)^k≤2^63:=Nat.pow_le_pow_right (by omega) (by omega);have hsv:jY bf (k+1)=jY bf k*2+if bf k then 1 else 0:=rfl
   rw[em] at hvl hsv;have hln:(Dg.dg 65536 m).length≤4:=Dg.dg_len_le 65536 m 4 (by omega) (by omega);have hln2:(Dg.dg 65536 (m*2)).length≤4:=Dg.dg_len_le 65536 (m*2) 4 (by omega) (by omega);obtain⟨bb,ebb⟩: ∃x,bf k=x:=⟨_,rfl⟩;rw[ebb] at hcell hsv;have HSV:Hid (jY bf (k+1)=m*2+if bb then 1 else 0):=hsv
   have a1:=af wr (.cells #[yi 2] 3);have r2:Rd (wr.alloc (.cells #[yi 2] 3)) .i64 (.slice (some ⟨wr.heap.size,0,none⟩) 1 1) [2]:=cE (w:=wr) (k:= .i64) (e:=3) [2] #[yi 2] rfl (by unfold maxLen;simp);have ht:=fN _ _ _ [2] _ (hr.l a1) r2 (Dg.small_dg 65536 m (by omega)) (fun i=>by
    match i with
    |0=>decide
    |i+1=>simp) (by omega) (by simp)
   rw[Dg.vl_dg 65536 m (by omega),show Dg.vl 65536 [2]=2 from rfl] at ht
   have HT:Hid (yC 34 #[yS ao m ca,.slice (some ⟨wr.heap.size,0,none⟩) 1 1] (wr.alloc (.cells #[yi 2] 3)) (cG (wr.alloc (.cells #[yi 2] 3)) (m*2))):=ht;have c0:=cell_later bel hcell;have bw:=aa bel a1;clear ht hsv ebb em hvl hpw
   go_wp2_with fail
   refine Calls.mono HT.out ?_;rintro z w2 ⟨v2,rfl,rd2,b2⟩;obtain⟨vo,vc,hv2⟩:=rd2.shape;subst hv2;have c2:=cell_later b2 (cell_later a1 c0);have bw2:=aa bw b2
   cases bb
   ·go_wp2
    go_roundw
    case rel=>exact⟨k+1,by omega,by go_num,by rw[HSV.out];exact rd2,bw2⟩
    case measure=>simp[intOf];omega
   ·have a3:=af w2 (.cells #[yi 1] 3)
    have r1:Rd (w2.alloc (.cells #[yi 1] 3)) .i64 (.slice (some ⟨w2.heap.size,0,none⟩) 1 1) [1]:=cE (w:=w2) (k:= .i64) (e:=3) [1] #[yi 1] rfl (by unfold maxLen;simp);have hp:=ew _ _ _ [1] _ (rd2.l a3) r1 (Dg.small_dg 65536 (m*2) (by omega)) (fun i=>by
     match i with
     |0=>decide
     |i+1=>simp) (Dg.norm_dg 65536 (m*2) (by omega)) (fun _=>by simp) (by omega) (by simp)
    rw[Dg.vl_dg 65536 (m*2) (by omega),show Dg.vl 65536 [1]=1 from rfl] at hp
    have HP:Hid (yC 53 #[.slice vo (Dg.dg 65536 (m*2)).length vc,.slice (some ⟨w2.heap.size,0,none⟩) 1 1] (w2.alloc (.cells #[yi 1] 3)) (cG (w2.alloc (.cells #[yi 1] 3)) (m*2+1))):=hp;have bw3:=aa bw2 a3;clear hp
    go_wp2_with fail
    refine Calls.mono HP.out ?_;rintro z w4 ⟨v4,rfl,rd4,b4⟩
    go_wp2
    go_roundw
    case rel=>exact⟨k+1,by omega,by go_num,by rw[HSV.out];exact rd4,aa bw3 b4⟩
    case measure=>simp[intOf];omega
  ·have HK:Hid (k=n∧jY bf k=m):=⟨by omega,em⟩
   clear em
   go_wp2
   go_ret
   obtain⟨h1,h2⟩:=HK.out;subst h1 h2;exact⟨_,rfl,hr,bel⟩
theorem eG (R D L G:Int)(gr:Bool)(w:World):
  yC 52 #[ygV R D L G gr] w (yR w (yi (wdI R))):=by
 have bA:=af w (.cells (ygA R D L G gr) 40);unfold wdI
 by_cases h:R=16
 ·rw[if_pos h]
  subst h
  go_enter func52,ntmps52
  go_wp2
  go_ret
  exact⟨rfl,bA⟩
 ·rw[if_neg h]
  have e:(R==16)=false:=by simp;exact h
  go_enter func52,ntmps52
  go_wp2
  go_ret
  exact⟨rfl,bA⟩
def Hf (w:World)(c:Int)(ng:Bool)(t:ak)(z:Ending)(w':World):Prop:=
 ∃s,z= .returned (yoV c ng t.s s t.e)∧Rd w' .i64 s (Dg.dg 65536 t.n)∧yB w w'∧Far w.heap.size s
def Xi (B:Nat)(w:World)(t:ak)(z:Ending)(w':World):Prop:=
 ∃s,z= .returned (ydV t.s s t.e)∧Rd w' .i64 s (Dg.dg 65536 t.n)∧yB w w'∧Hid (Far B s)
theorem di.hid {B:Nat}{w:World}{t:ak}{e:Ending}{w':World}(hb:B≤w.heap.size)(h:di w t e w'):Xi B w t e w':=by
 obtain⟨s,h1,h2,h3,h4⟩:=h;exact⟨s,h1,h2,h4,(fun a n c h=>Nat.le_trans hb (h3 a n c h):Far B s)⟩
theorem lO (B:Nat):Far B yN:=fun _ _ _ h=>by cases h
theorem EE (a:ak):(bare a).n=0↔a.n=0:=by
 by_cases h:a.n=0
 ·unfold bare
  rw[if_pos h];exact⟨fun _=>h,fun _=>rfl⟩
 ·unfold bare
  rw[if_neg h];obtain⟨m,hm⟩:=fO h;have:=lI hm;exact⟨fun h2=>by simp only at h2;omega,fun h2=>absurd h2 h⟩
theorem O9 {a t:ak}(e:bare a=t)(h:t.n=0):t.s=false∧t.e=0:=by
 subst e;have h0:=(EE a).1 h;unfold bare;rw[if_pos h0];exact⟨rfl,rfl⟩
theorem sL (sz ex fr:Nat)(R D L G fam wd:Int)(gr ng:Bool)(bn bf:Nat)(m:Nat)(p:Int)(v:Value)(w:World)
  (hr:Rd w .i64 v (Dg.dg 65536 m)) (hm:m<340282366920938463463374607431768211456) (hn:w.cell? ⟨bn,0,none⟩=some (.bool ng)) (hf:au w bf 42 (yhL sz ex fr R D L G gr fam)) (hw1:1≤wd) (hw4:wd≤4) (hp1: -100000≤p) (hp2:p≤100000)
  (HWI:yJ 52 #[ygV R D L G gr] (yi wd)):
  yC 51 #[v,yi p,.pointer (some ⟨bn,0,none⟩),.pointer (some ⟨bf,0,none⟩)] w (Hf w (if m=0 then 1 else 2) ng (bare ⟨ng,m,wd*p⟩)):=by
 have HW:Hid _:=HWI;clear HWI;obtain⟨ao,ca,rfl⟩:=hr.shape;have hln:(Dg.dg 65536 m).length≤8:=Dg.dg_len_le 65536 m 8 (by omega) hm;have b0:=af w (.cells (yoA 0 false false yN 0) 49);have F0:TG w bn bf ng (yhL sz ex fr R D L G gr fam) (yS ao m ca) m (w.alloc (.cells (yoA 0 false false yN 0) 49)).drew:=(⟨ah w _ _,hf.l b0,cell_later b0 hn,b0,hr.l b0⟩:TG w bn bf ng (yhL sz ex fr R D L G gr fam) (yS ao m ca) m (w.alloc (.cells (yoA 0 false false yN 0) 49))).l (Below.refl _ _).drew;have F00:TG w bn bf ng (yhL sz ex fr R D L G gr fam) (yS ao m ca) m (w.alloc (.cells (yoA 0 false false yN 0) 49)):=⟨ah w _ _,hf.l b0,cell_later b0 hn,b0,hr.l b0⟩;have F0a:=(F00.l (af _ (.cells (ydA false yN 0) 47))).l (Below.refl _ _).drew;have d0a:=(ah (w.alloc (.cells (yoA 0 false false yN 0) 49)) (ydL false yN 0) 47).drew;rw[World.size_alloc] at d0a;have na:=F0a.n;obtain⟨xa0,xa1,xa2,xa3,xa4,xa5,xa6,xa7,xa8⟩:=F0a.f.cs9;have hp3: -400000≤wd*p:=by
  rcases(by omega:wd=1∨wd=2∨wd=3∨wd=4) with h|h|h|h<;>subst h<;>omega
 have hp4:wd*p≤400000:=by
  rcases(by omega:wd=1∨wd=2∨wd=3∨wd=4) with h|h|h|h<;>subst h<;>omega
 obtain⟨E,hE⟩: ∃E,wd*p=E:=⟨_,rfl⟩;rw[hE] at hp3 hp4⊢;have hwr:IntKind.i64.wrap (wd*p)=E:=by rw[hE];exact IntWalk.i64_in _ ⟨by omega,by omega⟩
 have HB:Hid (∀w1,yB w w1→yC 32 #[ydV ng (yS ao m ca) E] w1 (Xi w.heap.size w1 (bare ⟨ng,m,E⟩))):=fun w1 b1=>Calls.mono (lA _ ⟨ng,m,E⟩ w1 ⟨_,rfl,hr.l b1⟩ (by show(Dg.dg 65536 m).length≤100000;omega) (by show-1000000≤E;omega) (by show E≤1000000;omega)) fun _ _ h=>h.hid b1.size
 have hbz:(bare ⟨ng,m,E⟩).n=0↔m=0:=EE ⟨ng,m,E⟩;obtain⟨⟨ts,tn',te⟩,hT⟩: ∃t,bare ⟨ng,m,E⟩=t:=⟨_,rfl⟩;have hfl:tn'=0→ts=false∧te=0:=fun h=>O9 hT h
 rw[hT] at HB hbz⊢;simp only at hbz;obtain⟨cl,hcl⟩: ∃x:Int,(if m=0 then 1 else 2)=x:=⟨_,rfl⟩
 rw[hcl];have HCL:Hid (_∧_∧_):=⟨hcl,hbz,hfl⟩;clear hE hT hcl hbz hfl;have n0:=F0.n;have hbn:bn<w.heap.size:=World.block_lt_of_cell? w ⟨bn,0,none⟩ hn;have hbf:bf<w.heap.size:=hf.lt;have hn3:w.heap.size+1≠bn:=by omega
 have hn4:w.heap.size+1≠bf:=by omega
 obtain⟨x0,x1,x2,x3,x4,x5,x6,x7,x8⟩:=F0.f.cs9
 go_enter func51,ntmps51
 go_wp2_with fail
 go_region_held3 (fun wq=>wq.cell? ⟨bn,0,none⟩=some (.bool ng)∧wq.cell? ⟨bf,0,none⟩=some (yi sz)∧wq.cell? ⟨bf,1,none⟩=some (yi ex)∧wq.cell? ⟨bf,2,none⟩=some (yi fr)∧wq.cell? ⟨bf,3,none⟩=some (yi R)∧wq.cell? ⟨bf,4,none⟩=some (yi D)∧wq.cell? ⟨bf,5,none⟩=some (yi L)∧wq.cell? ⟨bf,6,none⟩=some (yi G)∧wq.cell? ⟨bf,7,none⟩=some (.bool gr)∧wq.cell? ⟨bf,8,none⟩=some (yi fam)) (go_keep) (first
  | (go_at_call 52;refine(HW.out _).mono ?_;rintro z w1 ⟨rfl,b1⟩;(first| (have F1:=F0.l b1;have d1b:=ah w1 (ydL false yN 0) 47;have F1b:=F1.l (af _ (.cells (ydA false yN 0) 47)))| (have F1:=F0a.l b1;have d1:=d0a.l b1));have n1:=F1.n;obtain⟨y0,y1,y2,y3,y4,y5,y6,y7,y8⟩:=F1.f.cs9;have hn1:=World.new_ne w1 ⟨bn,0,none⟩ n1;have hn2:=World.new_ne w1 ⟨bf,0,none⟩ y0)
  | (go_at_call 32;(first| (with_reducible (refine(HB.out _ F1.b).mono ?_))| (with_reducible (refine(HB.out _ F1b.b).mono ?_)));rintro z w2 ⟨s2,rfl,r2,b2,f2⟩;obtain⟨so,sc,hs2⟩:=r2.shape;subst hs2;(first| (have F2:=F1.l b2)| (have F2:=F1b.l b2));(first| (have d2:=d1.l b2;obtain⟨e0,e1,e2⟩:=d2.cs3;have g0:=d2.f 0;have g1:=d2.f 1;have g2:=d2.f 2)| (have d2:=d1b.l b2;obtain⟨e0,e1,e2⟩:=d2.cs3;have g0:=d2.f 0;have g1:=d2.f 1;have g2:=d2.f 2)|skip);have n2:=F2.n;obtain⟨z0,z1,z2,z3,z4,z5,z6,z7,z8⟩:=F2.f.cs9))
 ·have b3':=af w2 (.cells (ydA ts (yS so tn' sc) te) 47)
  have d3:=ah w2 (ydL ts (yS so tn' sc) te) 47;have q3:=F2.q.l b3';have n3:=cell_later b3' F2.n;have b3:=aa F2.b b3';have r3:=r2.l b3';have hnq:w2.heap.size≠w.heap.size:=Nat.ne_of_gt F2.q.lt;clear b3';generalize(w2.alloc (.cells (ydA ts (yS so tn' sc) te) 47))=w3 at*;clear F0 F00 F0a d0a F1 F2 r2 x0 xa0 y0 z0 x1 xa1 y1 z1 x2 xa2 y2 z2 x3 xa3 y3 z3 x4 xa4 y4 z4 x5 xa5 y5 z5 x6 xa6 y6 z6 x7 xa7 y7 z7 x8 xa8 y8 z8 n0 na n1 n2 d1b F1b;generalize w2.heap.size=dq at*;obtain⟨cd0,cd1,cd2⟩:=d3.cs3;obtain⟨cq0,cq1,cq2,cq3,cq4⟩:=q3.cs5;have j0:=q3.f 0;have j1:=q3.f 1;have j2:=q3.f 2;have j3:=q3.f 3;have j4:=q3.f 4
  by_cases hz:tn'=0
  ·subst hz
   obtain⟨hc1,hc2,hc3⟩:=HCL.out;have hm0:=hc2.1 rfl;obtain⟨hc4,hc5⟩:=hc3 rfl;rw[if_pos hm0] at hc1;subst hc1 hc4 hc5;have bu:=((((ag w3 w.heap.size 0 (yi 1)).trans (ag _ w.heap.size 1 (.bool ng))).trans (ag _ w.heap.size 2 (.bool false))).trans (ag _ w.heap.size 3 yN)).trans (ag _ w.heap.size 4 (yi 0));have cR:au (((((w3.setCell ⟨w.heap.size,0,none⟩ (yi 1)).setCell ⟨w.heap.size,1,none⟩ (.bool ng)).setCell ⟨w.heap.size,2,none⟩ (.bool false)).setCell ⟨w.heap.size,3,none⟩ yN).setCell ⟨w.heap.size,4,none⟩ (yi 0)) w.heap.size 49 (yoL 1 ng false yN 0):=(((((q3.set 0 (yi 1)).set 1 (.bool ng)).set 2 (.bool false)).set 3 yN).set 4 (yi 0));have bR:=bu.below b3 (Nat.le_refl _);have rR:=aN (((((w3.setCell ⟨w.heap.size,0,none⟩ (yi 1)).setCell ⟨w.heap.size,1,none⟩ (.bool ng)).setCell ⟨w.heap.size,2,none⟩ (.bool false)).setCell ⟨w.heap.size,3,none⟩ yN).setCell ⟨w.heap.size,4,none⟩ (yi 0)) .i64;have hl:=run_loadVar_mid (P:=Tryz.prog) _ w.heap.size 0 49 (yoL 1 ng false yN 0) _ cR.range underlying49 rfl (by kernel_rfl);have HH:Hid (_∧_∧_):=⟨hl,rR,bR⟩;clear hl rR bR cR bu q3 b3 r3
   go_wp2
   obtain⟨hl,rR,bR⟩:=HH.out;exact bodyPost_ret (br results51 rfl hl) rfl ⟨_,rfl,rR,bR,lO _⟩
  ·have hz0:(((Dg.dg 65536 tn').length:Int)==0)=false:=by simp[Dg.dg_nil_iff 65536 tn' (by omega)];exact hz
   obtain⟨hc1,hc2,-⟩:=HCL.out;have hm0:m≠0:=fun h=>hz (hc2.2 h)
   rw[if_neg hm0] at hc1;subst hc1;have bu:=((((ag w3 w.heap.size 0 (yi 2)).trans (ag _ w.heap.size 1 (.bool ng))).trans (ag _ w.heap.size 2 (.bool ts))).trans (ag _ w.heap.size 3 (yS so tn' sc))).trans (ag _ w.heap.size 4 (yi te));have cR:au (((((w3.setCell ⟨w.heap.size,0,none⟩ (yi 2)).setCell ⟨w.heap.size,1,none⟩ (.bool ng)).setCell ⟨w.heap.size,2,none⟩ (.bool ts)).setCell ⟨w.heap.size,3,none⟩ (yS so tn' sc)).setCell ⟨w.heap.size,4,none⟩ (yi te)) w.heap.size 49 (yoL 2 ng ts (yS so tn' sc) te):=(((((q3.set 0 (yi 2)).set 1 (.bool ng)).set 2 (.bool ts)).set 3 (yS so tn' sc)).set 4 (yi te));have bR:=bu.below b3 (Nat.le_refl _);have ov:=cq r3 (Dg.norm_dg _ _ (by omega)) q3 (fun x hx n hn=>by simp at hx;rcases hx with rfl|rfl|rfl|rfl|rfl<;>simp;all_goals omega)
   have rR:=bu.rd r3 ov;have hl:=run_loadVar_mid (P:=Tryz.prog) _ w.heap.size 0 49 (yoL 2 ng ts (yS so tn' sc) te) _ cR.range underlying49 rfl (by kernel_rfl);have HH:Hid (_∧_∧_):=⟨hl,rR,bR⟩;clear hl rR bR cR bu q3 b3 r3
   go_wp2
   obtain⟨hl,rR,bR⟩:=HH.out;exact bodyPost_ret (br results51 rfl hl) rfl ⟨_,rfl,rR,bR,f2.out⟩
 ·have hnq:w1.heap.size≠w.heap.size:=Nat.ne_of_gt F1.q.lt
  have hdb:w.heap.size≤w1.heap.size:=Nat.le_of_lt F1.q.lt;have bu3:=((ag w2 w1.heap.size 0 (.bool ts)).trans (ag _ w1.heap.size 1 (yS so tn' sc))).trans (ag _ w1.heap.size 2 (yi te));have d3:au (((w2.setCell ⟨w1.heap.size,0,none⟩ (.bool ts)).setCell ⟨w1.heap.size,1,none⟩ (yS so tn' sc)).setCell ⟨w1.heap.size,2,none⟩ (yi te)) w1.heap.size 47 (ydL ts (yS so tn' sc) te):=(((d2.set 0 (.bool ts)).set 1 (yS so tn' sc)).set 2 (yi te));have q3:=((F2.q.off hnq 0 (.bool ts)).off hnq 1 (yS so tn' sc)).off hnq 2 (yi te);have n3:=(bu3.c (a:=⟨bn,0,none⟩) (by show bn≠w1.heap.size;omega)).trans F2.n
  have b3:=bu3.below F2.b hdb;have r3:=bu3.rd r2 (cq r2 (Dg.norm_dg _ _ (by omega)) d2 (fun x hx n hn=>by simp at hx;rcases hx with rfl|rfl|rfl<;>simp;all_goals omega))
  clear bu3;generalize(((w2.setCell ⟨w1.heap.size,0,none⟩ (.bool ts)).setCell ⟨w1.heap.size,1,none⟩ (yS so tn' sc)).setCell ⟨w1.heap.size,2,none⟩ (yi te))=w3 at*;clear F0 F00 F0a d0a F1 F2 r2 x0 xa0 y0 z0 x1 xa1 y1 z1 x2 xa2 y2 z2 x3 xa3 y3 z3 x4 xa4 y4 z4 x5 xa5 y5 z5 x6 xa6 y6 z6 x7 xa7 y7 z7 x8 xa8 y8 z8 n0 na n1 n2 d2 e0 e1 e2 g0 g1 g2 d1b F1b;generalize w1.heap.size=dq at*;obtain⟨cd0,cd1,cd2⟩:=d3.cs3;obtain⟨cq0,cq1,cq2,cq3,cq4⟩:=q3.cs5;have j0:=q3.f 0;have j1:=q3.f 1;have j2:=q3.f 2;have j3:=q3.f 3;have j4:=q3.f 4
  by_cases hz:tn'=0
  ·subst hz
   obtain⟨hc1,hc2,hc3⟩:=HCL.out;have hm0:=hc2.1 rfl;obtain⟨hc4,hc5⟩:=hc3 rfl;rw[if_pos hm0] at hc1;subst hc1 hc4 hc5;have bu:=((((ag w3 w.heap.size 0 (yi 1)).trans (ag _ w.heap.size 1 (.bool ng))).trans (ag _ w.heap.size 2 (.bool false))).trans (ag _ w.heap.size 3 yN)).trans (ag _ w.heap.size 4 (yi 0));have cR:au (((((w3.setCell ⟨w.heap.size,0,none⟩ (yi 1)).setCell ⟨w.heap.size,1,none⟩ (.bool ng)).setCell ⟨w.heap.size,2,none⟩ (.bool false)).setCell ⟨w.heap.size,3,none⟩ yN).setCell ⟨w.heap.size,4,none⟩ (yi 0)) w.heap.size 49 (yoL 1 ng false yN 0):=(((((q3.set 0 (yi 1)).set 1 (.bool ng)).set 2 (.bool false)).set 3 yN).set 4 (yi 0));have bR:=bu.below b3 (Nat.le_refl _);have rR:=aN (((((w3.setCell ⟨w.heap.size,0,none⟩ (yi 1)).setCell ⟨w.heap.size,1,none⟩ (.bool ng)).setCell ⟨w.heap.size,2,none⟩ (.bool false)).setCell ⟨w.heap.size,3,none⟩ yN).setCell ⟨w.heap.size,4,none⟩ (yi 0)) .i64;have hl:=run_loadVar_mid (P:=Tryz.prog) _ w.heap.size 0 49 (yoL 1 ng false yN 0) _ cR.range underlying49 rfl (by kernel_rfl);have HH:Hid (_∧_∧_):=⟨hl,rR,bR⟩;clear hl rR bR cR bu q3 b3 r3
   go_wp2
   obtain⟨hl,rR,bR⟩:=HH.out;exact bodyPost_ret (br results51 rfl hl) rfl ⟨_,rfl,rR,bR,lO _⟩
  ·have hz0:(((Dg.dg 65536 tn').length:Int)==0)=false:=by simp[Dg.dg_nil_iff 65536 tn' (by omega)];exact hz
   obtain⟨hc1,hc2,-⟩:=HCL.out;have hm0:m≠0:=fun h=>hz (hc2.2 h)
   rw[if_neg hm0] at hc1;subst hc1;have bu:=((((ag w3 w.heap.size 0 (yi 2)).trans (ag _ w.heap.size 1 (.bool ng))).trans (ag _ w.heap.size 2 (.bool ts))).trans (ag _ w.heap.size 3 (yS so tn' sc))).trans (ag _ w.heap.size 4 (yi te));have cR:au (((((w3.setCell ⟨w.heap.size,0,none⟩ (yi 2)).setCell ⟨w.heap.size,1,none⟩ (.bool ng)).setCell ⟨w.heap.size,2,none⟩ (.bool ts)).setCell ⟨w.heap.size,3,none⟩ (yS so tn' sc)).setCell ⟨w.heap.size,4,none⟩ (yi te)) w.heap.size 49 (yoL 2 ng ts (yS so tn' sc) te):=(((((q3.set 0 (yi 2)).set 1 (.bool ng)).set 2 (.bool ts)).set 3 (yS so tn' sc)).set 4 (yi te));have bR:=bu.below b3 (Nat.le_refl _);have ov:=cq r3 (Dg.norm_dg _ _ (by omega)) q3 (fun x hx n hn=>by simp at hx;rcases hx with rfl|rfl|rfl|rfl|rfl<;>simp;all_goals omega)
   have rR:=bu.rd r3 ov;have hl:=run_loadVar_mid (P:=Tryz.prog) _ w.heap.size 0 49 (yoL 2 ng ts (yS so tn' sc) te) _ cR.range underlying49 rfl (by kernel_rfl);have HH:Hid (_∧_∧_):=⟨hl,rR,bR⟩;clear hl rR bR cR bu q3 b3 r3
   go_wp2
   obtain⟨hl,rR,bR⟩:=HH.out;exact bodyPost_ret (br results51 rfl hl) rfl ⟨_,rfl,rR,bR,f2.out⟩
 ·have hnq:(w.heap.size+1)≠w.heap.size:=Nat.succ_ne_self _
  have hdb:w.heap.size≤(w.heap.size+1):=Nat.le_succ _;have bu3:=((ag w2 (w.heap.size+1) 0 (.bool ts)).trans (ag _ (w.heap.size+1) 1 (yS so tn' sc))).trans (ag _ (w.heap.size+1) 2 (yi te));have d3:au (((w2.setCell ⟨w.heap.size+1,0,none⟩ (.bool ts)).setCell ⟨w.heap.size+1,1,none⟩ (yS so tn' sc)).setCell ⟨w.heap.size+1,2,none⟩ (yi te)) (w.heap.size+1) 47 (ydL ts (yS so tn' sc) te):=(((d2.set 0 (.bool ts)).set 1 (yS so tn' sc)).set 2 (yi te));have q3:=((F2.q.off hnq 0 (.bool ts)).off hnq 1 (yS so tn' sc)).off hnq 2 (yi te);have n3:=(bu3.c (a:=⟨bn,0,none⟩) (by show bn≠(w.heap.size+1);omega)).trans F2.n
  have b3:=bu3.below F2.b hdb;have r3:=bu3.rd r2 (cq r2 (Dg.norm_dg _ _ (by omega)) d2 (fun x hx n hn=>by simp at hx;rcases hx with rfl|rfl|rfl<;>simp;all_goals omega))
  clear bu3;generalize(((w2.setCell ⟨w.heap.size+1,0,none⟩ (.bool ts)).setCell ⟨w.heap.size+1,1,none⟩ (yS so tn' sc)).setCell ⟨w.heap.size+1,2,none⟩ (yi te))=w3 at*;clear F0 F00 F0a d0a F1 F2 r2 x0 xa0 y0 z0 x1 xa1 y1 z1 x2 xa2 y2 z2 x3 xa3 y3 z3 x4 xa4 y4 z4 x5 xa5 y5 z5 x6 xa6 y6 z6 x7 xa7 y7 z7 x8 xa8 y8 z8 n0 na n1 n2 d2 e0 e1 e2 g0 g1 g2 d1;generalize(w.heap.size+1)=dq at*;obtain⟨cd0,cd1,cd2⟩:=d3.cs3;obtain⟨cq0,cq1,cq2,cq3,cq4⟩:=q3.cs5;have j0:=q3.f 0;have j1:=q3.f 1;have j2:=q3.f 2;have j3:=q3.f 3;have j4:=q3.f 4
  by_cases hz:tn'=0
  ·subst hz
   obtain⟨hc1,hc2,hc3⟩:=HCL.out;have hm0:=hc2.1 rfl;obtain⟨hc4,hc5⟩:=hc3 rfl;rw[if_pos hm0] at hc1;subst hc1 hc4 hc5;have bu:=((((ag w3 w.heap.size 0 (yi 1)).trans (ag _ w.heap.size 1 (.bool ng))).trans (ag _ w.heap.size 2 (.bool false))).trans (ag _ w.heap.size 3 yN)).trans (ag _ w.heap.size 4 (yi 0));have cR:au (((((w3.setCell ⟨w.heap.size,0,none⟩ (yi 1)).setCell ⟨w.heap.size,1,none⟩ (.bool ng)).setCell ⟨w.heap.size,2,none⟩ (.bool false)).setCell ⟨w.heap.size,3,none⟩ yN).setCell ⟨w.heap.size,4,none⟩ (yi 0)) w.heap.size 49 (yoL 1 ng false yN 0):=(((((q3.set 0 (yi 1)).set 1 (.bool ng)).set 2 (.bool false)).set 3 yN).set 4 (yi 0));have bR:=bu.below b3 (Nat.le_refl _);have rR:=aN (((((w3.setCell ⟨w.heap.size,0,none⟩ (yi 1)).setCell ⟨w.heap.size,1,none⟩ (.bool ng)).setCell ⟨w.heap.size,2,none⟩ (.bool false)).setCell ⟨w.heap.size,3,none⟩ yN).setCell ⟨w.heap.size,4,none⟩ (yi 0)) .i64;have hl:=run_loadVar_mid (P:=Tryz.prog) _ w.heap.size 0 49 (yoL 1 ng false yN 0) _ cR.range underlying49 rfl (by kernel_rfl);have HH:Hid (_∧_∧_):=⟨hl,rR,bR⟩;clear hl rR bR cR bu q3 b3 r3
   go_wp2
   obtain⟨hl,rR,bR⟩:=HH.out;exact bodyPost_ret (br results51 rfl hl) rfl ⟨_,rfl,rR,bR,lO _⟩
  ·have hz0:(((Dg.dg 65536 tn').length:Int)==0)=false:=by simp[Dg.dg_nil_iff 65536 tn' (by omega)];exact hz
   obtain⟨hc1,hc2,-⟩:=HCL.out;have hm0:m≠0:=fun h=>hz (hc2.2 h)
   rw[if_neg hm0] at hc1;subst hc1;have bu:=((((ag w3 w.heap.size 0 (yi 2)).trans (ag _ w.heap.size 1 (.bool ng))).trans (ag _ w.heap.size 2 (.bool ts))).trans (ag _ w.heap.size 3 (yS so tn' sc))).trans (ag _ w.heap.size 4 (yi te));have cR:au (((((w3.setCell ⟨w.heap.size,0,none⟩ (yi 2)).setCell ⟨w.heap.size,1,none⟩ (.bool ng)).setCell ⟨w.heap.size,2,none⟩ (.bool ts)).setCell ⟨w.heap.size,3,none⟩ (yS so tn' sc)).setCell ⟨w.heap.size,4,none⟩ (yi te)) w.heap.size 49 (yoL 2 ng ts (yS so tn' sc) te):=(((((q3.set 0 (yi 2)).set 1 (.bool ng)).set 2 (.bool ts)).set 3 (yS so tn' sc)).set 4 (yi te));have bR:=bu.below b3 (Nat.le_refl _);have ov:=cq r3 (Dg.norm_dg _ _ (by omega)) q3 (fun x hx n hn=>by simp at hx;rcases hx with rfl|rfl|rfl|rfl|rfl<;>simp;all_goals omega)
   have rR:=bu.rd r3 ov;have hl:=run_loadVar_mid (P:=Tryz.prog) _ w.heap.size 0 49 (yoL 2 ng ts (yS so tn' sc) te) _ cR.range underlying49 rfl (by kernel_rfl);have HH:Hid (_∧_∧_):=⟨hl,rR,bR⟩;clear hl rR bR cR bu q3 b3 r3
   go_wp2
   obtain⟨hl,rR,bR⟩:=HH.out;exact bodyPost_ret (br results51 rfl hl) rfl ⟨_,rfl,rR,bR,f2.out⟩
theorem vK (v:Value)(a:Nat)(w:World)(h:Rd w .i64 v (Dg.dg 65536 a))(hl:(Dg.dg 65536 a).length≤2000000):yC 86 #[v] w (yR w (yi (bitLen a:Int))):=by
 have:=kF _ _ w h (Dg.small_dg _ _ (by omega)) (Dg.norm_dg _ _ (by omega)) (by omega);rw[Dg.vl_dg _ _ (by omega)] at this;refine this.mono ?_;rintro z w' ⟨rfl,rfl⟩;exact⟨rfl,Below.refl _ _⟩
end Go.Proofs.YtpgijbdgljkeeaaGreatDoor

/-
  Texts laid together: Co5, Cr1, Cr3, Cr4, Gh5, Dn2, Gk3, Gk6, Ce2.
-/
import Derived.Test.YtpgijbdgljkeeaaGreatDoorUc03
set_option maxRecDepth 100000
set_option maxHeartbeats 3200000
namespace Go.Proofs.YtpgijbdgljkeeaaGreatDoor
open _root_.Go.Proofs.Tryz
open Go.RowKit
theorem nD (a b c d e f g:Int)(w:World):yC 40 #[yi a,yi b,yi c,yi d,yi e,yi f,yi g] w (yR w (yhV a b c 2 d e f (g==1) g)):=by
 go_enter func40,ntmps40
 go_wp2
 go_returns
 exact⟨rfl,af _ _⟩
theorem oT (n:Int)(w:World)(h:dK n=0):yC 14 #[yi n] w (yR w (.tuple #[yhV 0 0 0 0 0 0 0 false 0,.bool false])):=by
 have hn:n<1∨8<n:=by
  unfold dK at h
  by_cases c:n<1∨8<n
  ·exact c
  ·rw[if_neg c] at h
   split at h
   ·omega
   ·split at h<;>omega
 clear h;have e1:(n==1)=false:=by simp;omega
 have e2:(n==2)=false:=by simp;omega
 have e3:(n==3)=false:=by simp;omega
 have e4:(n==4)=false:=by simp;omega
 have e5:(n==5)=false:=by simp;omega
 have e6:(n==6)=false:=by simp;omega
 have e7:(n==7)=false:=by simp;omega
 have e8:(n==8)=false:=by simp;omega
 have l0:=ah w (yhL 0 0 0 0 0 0 0 false 0) 42;have b0:=af w (.cells (yhA 0 0 0 0 0 0 0 false 0) 42);have hl:=run_loadVar_mid (P:=Tryz.prog) _ w.heap.size 0 42 (yhL 0 0 0 0 0 0 0 false 0) _ l0.range underlying42 rfl (by kernel_rfl);have HH:Hid (_∧_):=⟨hl,b0⟩;clear hl b0 l0
 go_enter func14,ntmps14
 go_wp2
 obtain⟨hl,bR⟩:=HH.out;exact bodyPost_ret (aj results14 rfl rfl hl) rfl ⟨rfl,bR⟩
theorem Ly (w:World):yC 14 #[yi 1] w (yR w (.tuple #[yhV 4 8 23 2 24 (-149) 104 true 1,.bool true])):=by
 have HT:Hid (yJ 40 #[yi 4,yi 8,yi 23,yi 24,yi (-149),yi 104,yi 1] (yhV 4 8 23 2 24 (-149) 104 true 1)):=fun w1=>nD _ _ _ _ _ _ _ w1
 have l0:=ah w (yhL 0 0 0 0 0 0 0 false 0) 42;have b0:=af w (.cells (yhA 0 0 0 0 0 0 0 false 0) 42)
 go_enter func14,ntmps14
 go_wp2_with fail
 refine(HT.out _).mono ?_;rintro z w2 ⟨rfl,b2⟩;have l2:=l0.l b2;have cR:au (((((((((w2.setCell ⟨w.heap.size,0,none⟩ (yi 4)).setCell ⟨w.heap.size,1,none⟩ (yi 8)).setCell ⟨w.heap.size,2,none⟩ (yi 23)).setCell ⟨w.heap.size,3,none⟩ (yi 2)).setCell ⟨w.heap.size,4,none⟩ (yi 24)).setCell ⟨w.heap.size,5,none⟩ (yi (-149))).setCell ⟨w.heap.size,6,none⟩ (yi 104)).setCell ⟨w.heap.size,7,none⟩ (.bool true)).setCell ⟨w.heap.size,8,none⟩ (yi 1)) w.heap.size 42 (yhL 4 8 23 2 24 (-149) 104 true 1):=(((((((((l2.set 0 (yi 4)).set 1 (yi 8)).set 2 (yi 23)).set 3 (yi 2)).set 4 (yi 24)).set 5 (yi (-149))).set 6 (yi 104)).set 7 (.bool true)).set 8 (yi 1));have bR:=(((((((((ag w2 w.heap.size 0 (yi 4)).trans (ag _ w.heap.size 1 (yi 8))).trans (ag _ w.heap.size 2 (yi 23))).trans (ag _ w.heap.size 3 (yi 2))).trans (ag _ w.heap.size 4 (yi 24))).trans (ag _ w.heap.size 5 (yi (-149)))).trans (ag _ w.heap.size 6 (yi 104))).trans (ag _ w.heap.size 7 (.bool true))).trans (ag _ w.heap.size 8 (yi 1))).below (aa b0 b2) (Nat.le_refl _);have hl:=run_loadVar_mid (P:=Tryz.prog) _ w.heap.size 0 42 (yhL 4 8 23 2 24 (-149) 104 true 1) _ cR.range underlying42 rfl (by kernel_rfl);have HH:Hid (_∧_):=⟨hl,bR⟩;have x0:=l2.c 0 rfl;have f0:=l2.f 0;have x1:=l2.c 1 rfl;have f1:=l2.f 1;have x2:=l2.c 2 rfl;have f2:=l2.f 2;have x3:=l2.c 3 rfl;have f3:=l2.f 3;have x4:=l2.c 4 rfl;have f4:=l2.f 4;have x5:=l2.c 5 rfl;have f5:=l2.f 5;have x6:=l2.c 6 rfl;have f6:=l2.f 6;have x7:=l2.c 7 rfl;have f7:=l2.f 7;have x8:=l2.c 8 rfl;have f8:=l2.f 8;clear hl bR cR l0 l2 b0 b2 HT
 go_wp2
 obtain⟨hl,bR⟩:=HH.out;exact bodyPost_ret (aj results14 rfl rfl hl) rfl ⟨rfl,bR⟩
theorem Lz (w:World):yC 14 #[yi 2] w (yR w (.tuple #[yhV 8 11 52 2 53 (-1074) 971 true 1,.bool true])):=by
 have HT:Hid (yJ 40 #[yi 8,yi 11,yi 52,yi 53,yi (-1074),yi 971,yi 1] (yhV 8 11 52 2 53 (-1074) 971 true 1)):=fun w1=>nD _ _ _ _ _ _ _ w1
 have l0:=ah w (yhL 0 0 0 0 0 0 0 false 0) 42;have b0:=af w (.cells (yhA 0 0 0 0 0 0 0 false 0) 42)
 go_enter func14,ntmps14
 go_wp2_with fail
 refine(HT.out _).mono ?_;rintro z w2 ⟨rfl,b2⟩;have l2:=l0.l b2;have cR:au (((((((((w2.setCell ⟨w.heap.size,0,none⟩ (yi 8)).setCell ⟨w.heap.size,1,none⟩ (yi 11)).setCell ⟨w.heap.size,2,none⟩ (yi 52)).setCell ⟨w.heap.size,3,none⟩ (yi 2)).setCell ⟨w.heap.size,4,none⟩ (yi 53)).setCell ⟨w.heap.size,5,none⟩ (yi (-1074))).setCell ⟨w.heap.size,6,none⟩ (yi 971)).setCell ⟨w.heap.size,7,none⟩ (.bool true)).setCell ⟨w.heap.size,8,none⟩ (yi 1)) w.heap.size 42 (yhL 8 11 52 2 53 (-1074) 971 true 1):=(((((((((l2.set 0 (yi 8)).set 1 (yi 11)).set 2 (yi 52)).set 3 (yi 2)).set 4 (yi 53)).set 5 (yi (-1074))).set 6 (yi 971)).set 7 (.bool true)).set 8 (yi 1));have bR:=(((((((((ag w2 w.heap.size 0 (yi 8)).trans (ag _ w.heap.size 1 (yi 11))).trans (ag _ w.heap.size 2 (yi 52))).trans (ag _ w.heap.size 3 (yi 2))).trans (ag _ w.heap.size 4 (yi 53))).trans (ag _ w.heap.size 5 (yi (-1074)))).trans (ag _ w.heap.size 6 (yi 971))).trans (ag _ w.heap.size 7 (.bool true))).trans (ag _ w.heap.size 8 (yi 1))).below (aa b0 b2) (Nat.le_refl _);have hl:=run_loadVar_mid (P:=Tryz.prog) _ w.heap.size 0 42 (yhL 8 11 52 2 53 (-1074) 971 true 1) _ cR.range underlying42 rfl (by kernel_rfl);have HH:Hid (_∧_):=⟨hl,bR⟩;have x0:=l2.c 0 rfl;have f0:=l2.f 0;have x1:=l2.c 1 rfl;have f1:=l2.f 1;have x2:=l2.c 2 rfl;have f2:=l2.f 2;have x3:=l2.c 3 rfl;have f3:=l2.f 3;have x4:=l2.c 4 rfl;have f4:=l2.f 4;have x5:=l2.c 5 rfl;have f5:=l2.f 5;have x6:=l2.c 6 rfl;have f6:=l2.f 6;have x7:=l2.c 7 rfl;have f7:=l2.f 7;have x8:=l2.c 8 rfl;have f8:=l2.f 8;clear hl bR cR l0 l2 b0 b2 HT
 go_wp2
 obtain⟨hl,bR⟩:=HH.out;exact bodyPost_ret (aj results14 rfl rfl hl) rfl ⟨rfl,bR⟩
theorem LA (w:World):yC 14 #[yi 3] w (yR w (.tuple #[yhV 10 15 64 2 64 (-16445) 16320 true 1,.bool true])):=by
 have HT:Hid (yJ 40 #[yi 10,yi 15,yi 64,yi 64,yi (-16445),yi 16320,yi 1] (yhV 10 15 64 2 64 (-16445) 16320 true 1)):=fun w1=>nD _ _ _ _ _ _ _ w1
 have l0:=ah w (yhL 0 0 0 0 0 0 0 false 0) 42;have b0:=af w (.cells (yhA 0 0 0 0 0 0 0 false 0) 42)
 go_enter func14,ntmps14
 go_wp2_with fail
 refine(HT.out _).mono ?_;rintro z w2 ⟨rfl,b2⟩;have l2:=l0.l b2;have cR:au (((((((((w2.setCell ⟨w.heap.size,0,none⟩ (yi 10)).setCell ⟨w.heap.size,1,none⟩ (yi 15)).setCell ⟨w.heap.size,2,none⟩ (yi 64)).setCell ⟨w.heap.size,3,none⟩ (yi 2)).setCell ⟨w.heap.size,4,none⟩ (yi 64)).setCell ⟨w.heap.size,5,none⟩ (yi (-16445))).setCell ⟨w.heap.size,6,none⟩ (yi 16320)).setCell ⟨w.heap.size,7,none⟩ (.bool true)).setCell ⟨w.heap.size,8,none⟩ (yi 1)) w.heap.size 42 (yhL 10 15 64 2 64 (-16445) 16320 true 1):=(((((((((l2.set 0 (yi 10)).set 1 (yi 15)).set 2 (yi 64)).set 3 (yi 2)).set 4 (yi 64)).set 5 (yi (-16445))).set 6 (yi 16320)).set 7 (.bool true)).set 8 (yi 1));have bR:=(((((((((ag w2 w.heap.size 0 (yi 10)).trans (ag _ w.heap.size 1 (yi 15))).trans (ag _ w.heap.size 2 (yi 64))).trans (ag _ w.heap.size 3 (yi 2))).trans (ag _ w.heap.size 4 (yi 64))).trans (ag _ w.heap.size 5 (yi (-16445)))).trans (ag _ w.heap.size 6 (yi 16320))).trans (ag _ w.heap.size 7 (.bool true))).trans (ag _ w.heap.size 8 (yi 1))).below (aa b0 b2) (Nat.le_refl _);have hl:=run_loadVar_mid (P:=Tryz.prog) _ w.heap.size 0 42 (yhL 10 15 64 2 64 (-16445) 16320 true 1) _ cR.range underlying42 rfl (by kernel_rfl);have HH:Hid (_∧_):=⟨hl,bR⟩;have x0:=l2.c 0 rfl;have f0:=l2.f 0;have x1:=l2.c 1 rfl;have f1:=l2.f 1;have x2:=l2.c 2 rfl;have f2:=l2.f 2;have x3:=l2.c 3 rfl;have f3:=l2.f 3;have x4:=l2.c 4 rfl;have f4:=l2.f 4;have x5:=l2.c 5 rfl;have f5:=l2.f 5;have x6:=l2.c 6 rfl;have f6:=l2.f 6;have x7:=l2.c 7 rfl;have f7:=l2.f 7;have x8:=l2.c 8 rfl;have f8:=l2.f 8;clear hl bR cR l0 l2 b0 b2 HT
 go_wp2
 obtain⟨hl,bR⟩:=HH.out;exact bodyPost_ret (aj results14 rfl rfl hl) rfl ⟨rfl,bR⟩
theorem LC (w:World):yC 14 #[yi 4] w (yR w (.tuple #[yhV 4 7 24 16 6 (-70) 57 false 2,.bool true])):=by
 have l0:=ah w (yhL 4 7 24 16 6 (-70) 57 false 2) 42;have b0:=af w (.cells (yhA 4 7 24 16 6 (-70) 57 false 2) 42);have hl:=run_loadVar_mid (P:=Tryz.prog) _ w.heap.size 0 42 (yhL 4 7 24 16 6 (-70) 57 false 2) _ l0.range underlying42 rfl (by kernel_rfl);have HH:Hid (_∧_):=⟨hl,b0⟩;clear hl b0 l0
 go_enter func14,ntmps14
 go_wp2
 obtain⟨hl,bR⟩:=HH.out;exact bodyPost_ret (aj results14 rfl rfl hl) rfl ⟨rfl,bR⟩
theorem LD (w:World):yC 14 #[yi 5] w (yR w (.tuple #[yhV 8 7 56 16 14 (-78) 49 false 2,.bool true])):=by
 have l0:=ah w (yhL 8 7 56 16 14 (-78) 49 false 2) 42;have b0:=af w (.cells (yhA 8 7 56 16 14 (-78) 49 false 2) 42);have hl:=run_loadVar_mid (P:=Tryz.prog) _ w.heap.size 0 42 (yhL 8 7 56 16 14 (-78) 49 false 2) _ l0.range underlying42 rfl (by kernel_rfl);have HH:Hid (_∧_):=⟨hl,b0⟩;clear hl b0 l0
 go_enter func14,ntmps14
 go_wp2
 obtain⟨hl,bR⟩:=HH.out;exact bodyPost_ret (aj results14 rfl rfl hl) rfl ⟨rfl,bR⟩
theorem LE (w:World):yC 14 #[yi 6] w (yR w (.tuple #[yhV 4 8 23 2 24 (-151) 103 false 3,.bool true])):=by
 have HT:Hid (yJ 40 #[yi 4,yi 8,yi 23,yi 24,yi (-151),yi 103,yi 3] (yhV 4 8 23 2 24 (-151) 103 false 3)):=fun w1=>nD _ _ _ _ _ _ _ w1
 have l0:=ah w (yhL 0 0 0 0 0 0 0 false 0) 42;have b0:=af w (.cells (yhA 0 0 0 0 0 0 0 false 0) 42)
 go_enter func14,ntmps14
 go_wp2_with fail
 refine(HT.out _).mono ?_;rintro z w2 ⟨rfl,b2⟩;have l2:=l0.l b2;have cR:au (((((((((w2.setCell ⟨w.heap.size,0,none⟩ (yi 4)).setCell ⟨w.heap.size,1,none⟩ (yi 8)).setCell ⟨w.heap.size,2,none⟩ (yi 23)).setCell ⟨w.heap.size,3,none⟩ (yi 2)).setCell ⟨w.heap.size,4,none⟩ (yi 24)).setCell ⟨w.heap.size,5,none⟩ (yi (-151))).setCell ⟨w.heap.size,6,none⟩ (yi 103)).setCell ⟨w.heap.size,7,none⟩ (.bool false)).setCell ⟨w.heap.size,8,none⟩ (yi 3)) w.heap.size 42 (yhL 4 8 23 2 24 (-151) 103 false 3):=(((((((((l2.set 0 (yi 4)).set 1 (yi 8)).set 2 (yi 23)).set 3 (yi 2)).set 4 (yi 24)).set 5 (yi (-151))).set 6 (yi 103)).set 7 (.bool false)).set 8 (yi 3));have bR:=(((((((((ag w2 w.heap.size 0 (yi 4)).trans (ag _ w.heap.size 1 (yi 8))).trans (ag _ w.heap.size 2 (yi 23))).trans (ag _ w.heap.size 3 (yi 2))).trans (ag _ w.heap.size 4 (yi 24))).trans (ag _ w.heap.size 5 (yi (-151)))).trans (ag _ w.heap.size 6 (yi 103))).trans (ag _ w.heap.size 7 (.bool false))).trans (ag _ w.heap.size 8 (yi 3))).below (aa b0 b2) (Nat.le_refl _);have hl:=run_loadVar_mid (P:=Tryz.prog) _ w.heap.size 0 42 (yhL 4 8 23 2 24 (-151) 103 false 3) _ cR.range underlying42 rfl (by kernel_rfl);have HH:Hid (_∧_):=⟨hl,bR⟩;have x0:=l2.c 0 rfl;have f0:=l2.f 0;have x1:=l2.c 1 rfl;have f1:=l2.f 1;have x2:=l2.c 2 rfl;have f2:=l2.f 2;have x3:=l2.c 3 rfl;have f3:=l2.f 3;have x4:=l2.c 4 rfl;have f4:=l2.f 4;have x5:=l2.c 5 rfl;have f5:=l2.f 5;have x6:=l2.c 6 rfl;have f6:=l2.f 6;have x7:=l2.c 7 rfl;have f7:=l2.f 7;have x8:=l2.c 8 rfl;have f8:=l2.f 8;clear hl bR cR l0 l2 b0 b2 HT
 go_wp2
 obtain⟨hl,bR⟩:=HH.out;exact bodyPost_ret (aj results14 rfl rfl hl) rfl ⟨rfl,bR⟩
theorem LF (w:World):yC 14 #[yi 7] w (yR w (.tuple #[yhV 8 8 55 2 56 (-183) 71 false 3,.bool true])):=by
 have HT:Hid (yJ 40 #[yi 8,yi 8,yi 55,yi 56,yi (-183),yi 71,yi 3] (yhV 8 8 55 2 56 (-183) 71 false 3)):=fun w1=>nD _ _ _ _ _ _ _ w1
 have l0:=ah w (yhL 0 0 0 0 0 0 0 false 0) 42;have b0:=af w (.cells (yhA 0 0 0 0 0 0 0 false 0) 42)
 go_enter func14,ntmps14
 go_wp2_with fail
 refine(HT.out _).mono ?_;rintro z w2 ⟨rfl,b2⟩;have l2:=l0.l b2;have cR:au (((((((((w2.setCell ⟨w.heap.size,0,none⟩ (yi 8)).setCell ⟨w.heap.size,1,none⟩ (yi 8)).setCell ⟨w.heap.size,2,none⟩ (yi 55)).setCell ⟨w.heap.size,3,none⟩ (yi 2)).setCell ⟨w.heap.size,4,none⟩ (yi 56)).setCell ⟨w.heap.size,5,none⟩ (yi (-183))).setCell ⟨w.heap.size,6,none⟩ (yi 71)).setCell ⟨w.heap.size,7,none⟩ (.bool false)).setCell ⟨w.heap.size,8,none⟩ (yi 3)) w.heap.size 42 (yhL 8 8 55 2 56 (-183) 71 false 3):=(((((((((l2.set 0 (yi 8)).set 1 (yi 8)).set 2 (yi 55)).set 3 (yi 2)).set 4 (yi 56)).set 5 (yi (-183))).set 6 (yi 71)).set 7 (.bool false)).set 8 (yi 3));have bR:=(((((((((ag w2 w.heap.size 0 (yi 8)).trans (ag _ w.heap.size 1 (yi 8))).trans (ag _ w.heap.size 2 (yi 55))).trans (ag _ w.heap.size 3 (yi 2))).trans (ag _ w.heap.size 4 (yi 56))).trans (ag _ w.heap.size 5 (yi (-183)))).trans (ag _ w.heap.size 6 (yi 71))).trans (ag _ w.heap.size 7 (.bool false))).trans (ag _ w.heap.size 8 (yi 3))).below (aa b0 b2) (Nat.le_refl _);have hl:=run_loadVar_mid (P:=Tryz.prog) _ w.heap.size 0 42 (yhL 8 8 55 2 56 (-183) 71 false 3) _ cR.range underlying42 rfl (by kernel_rfl);have HH:Hid (_∧_):=⟨hl,bR⟩;have x0:=l2.c 0 rfl;have f0:=l2.f 0;have x1:=l2.c 1 rfl;have f1:=l2.f 1;have x2:=l2.c 2 rfl;have f2:=l2.f 2;have x3:=l2.c 3 rfl;have f3:=l2.f 3;have x4:=l2.c 4 rfl;have f4:=l2.f 4;have x5:=l2.c 5 rfl;have f5:=l2.f 5;have x6:=l2.c 6 rfl;have f6:=l2.f 6;have x7:=l2.c 7 rfl;have f7:=l2.f 7;have x8:=l2.c 8 rfl;have f8:=l2.f 8;clear hl bR cR l0 l2 b0 b2 HT
 go_wp2
 obtain⟨hl,bR⟩:=HH.out;exact bodyPost_ret (aj results14 rfl rfl hl) rfl ⟨rfl,bR⟩
theorem LH (w:World):yC 14 #[yi 8] w (yR w (.tuple #[yhV 8 11 52 2 53 (-1076) 970 false 3,.bool true])):=by
 have HT:Hid (yJ 40 #[yi 8,yi 11,yi 52,yi 53,yi (-1076),yi 970,yi 3] (yhV 8 11 52 2 53 (-1076) 970 false 3)):=fun w1=>nD _ _ _ _ _ _ _ w1
 have l0:=ah w (yhL 0 0 0 0 0 0 0 false 0) 42;have b0:=af w (.cells (yhA 0 0 0 0 0 0 0 false 0) 42)
 go_enter func14,ntmps14
 go_wp2_with fail
 refine(HT.out _).mono ?_;rintro z w2 ⟨rfl,b2⟩;have l2:=l0.l b2;have cR:au (((((((((w2.setCell ⟨w.heap.size,0,none⟩ (yi 8)).setCell ⟨w.heap.size,1,none⟩ (yi 11)).setCell ⟨w.heap.size,2,none⟩ (yi 52)).setCell ⟨w.heap.size,3,none⟩ (yi 2)).setCell ⟨w.heap.size,4,none⟩ (yi 53)).setCell ⟨w.heap.size,5,none⟩ (yi (-1076))).setCell ⟨w.heap.size,6,none⟩ (yi 970)).setCell ⟨w.heap.size,7,none⟩ (.bool false)).setCell ⟨w.heap.size,8,none⟩ (yi 3)) w.heap.size 42 (yhL 8 11 52 2 53 (-1076) 970 false 3):=(((((((((l2.set 0 (yi 8)).set 1 (yi 11)).set 2 (yi 52)).set 3 (yi 2)).set 4 (yi 53)).set 5 (yi (-1076))).set 6 (yi 970)).set 7 (.bool false)).set 8 (yi 3));have bR:=(((((((((ag w2 w.heap.size 0 (yi 8)).trans (ag _ w.heap.size 1 (yi 11))).trans (ag _ w.heap.size 2 (yi 52))).trans (ag _ w.heap.size 3 (yi 2))).trans (ag _ w.heap.size 4 (yi 53))).trans (ag _ w.heap.size 5 (yi (-1076)))).trans (ag _ w.heap.size 6 (yi 970))).trans (ag _ w.heap.size 7 (.bool false))).trans (ag _ w.heap.size 8 (yi 3))).below (aa b0 b2) (Nat.le_refl _);have hl:=run_loadVar_mid (P:=Tryz.prog) _ w.heap.size 0 42 (yhL 8 11 52 2 53 (-1076) 970 false 3) _ cR.range underlying42 rfl (by kernel_rfl);have HH:Hid (_∧_):=⟨hl,bR⟩;have x0:=l2.c 0 rfl;have f0:=l2.f 0;have x1:=l2.c 1 rfl;have f1:=l2.f 1;have x2:=l2.c 2 rfl;have f2:=l2.f 2;have x3:=l2.c 3 rfl;have f3:=l2.f 3;have x4:=l2.c 4 rfl;have f4:=l2.f 4;have x5:=l2.c 5 rfl;have f5:=l2.f 5;have x6:=l2.c 6 rfl;have f6:=l2.f 6;have x7:=l2.c 7 rfl;have f7:=l2.f 7;have x8:=l2.c 8 rfl;have f8:=l2.f 8;clear hl bR cR l0 l2 b0 b2 HT
 go_wp2
 obtain⟨hl,bR⟩:=HH.out;exact bodyPost_ret (aj results14 rfl rfl hl) rfl ⟨rfl,bR⟩
def afl:Nat→List Value
 |1=>(yhL 4 8 23 2 24 (-149) 104 true 1)
 |2=>(yhL 8 11 52 2 53 (-1074) 971 true 1)
 |3=>(yhL 10 15 64 2 64 (-16445) 16320 true 1)
 |4=>(yhL 4 7 24 16 6 (-70) 57 false 2)
 |5=>(yhL 8 7 56 16 14 (-78) 49 false 2)
 |6=>(yhL 4 8 23 2 24 (-151) 103 false 3)
 |7=>(yhL 8 8 55 2 56 (-183) 71 false 3)
 |8=>(yhL 8 11 52 2 53 (-1076) 970 false 3)
 |_=>(yhL 0 0 0 0 0 0 0 false 0)
theorem qU (k:Nat)(hk:1≤k∧k≤8)(w:World):yC 14 #[yi k] w (yR w (.tuple #[.agg (afl k).toArray,.bool true])):=by
 rcases bO hk with rfl|rfl|rfl|rfl|rfl|rfl|rfl|rfl
 ·exact Ly w
 ·exact Lz w
 ·exact LA w
 ·exact LC w
 ·exact LD w
 ·exact LE w
 ·exact LF w
 ·exact LH w
def plN (k i:Nat):Nat:=if k=3 then szN k-1-i else if 6≤k then i+1-2*(i % 2) else i
theorem Kh (k:Nat)(zs:List Nat)(i:Nat)(hk:zs.length=szN k)(hi:i<zs.length):(jT k zs).getD i 0=zs.getD (plN k i) 0:=by
 unfold jT plN
 by_cases h3:k=3
 ·rw[if_pos h3,if_pos h3,List.getD_eq_getElem?_getD,List.getElem?_reverse hi,←List.getD_eq_getElem?_getD,hk]
 ·rw[if_neg h3,if_neg h3]
  by_cases h6:6≤k
  ·rw[if_pos h6,if_pos h6,Fl zs i hi]
  ·rw[if_neg h6,if_neg h6]
theorem Co {k i:Nat}(hk:1≤k∧k≤8)(hi:i<szN k):plN k i<szN k:=by
 obtain⟨m,hm⟩:=(fZ hk).2.2.2.2.1;unfold plN
 split
 ·omega
 ·split<;>omega
theorem sM (n:Int)(sz ex fr:Nat)(R D L G fam:Int)(gr:Bool)(i:Nat)(w:World)(hi:i<sz)(hsz:sz≤10)
  (HF:yJ 14 #[yi n] (.tuple #[yhV sz ex fr R D L G gr fam,.bool true])):
  yC 105 #[yi n,yi i] w (yR w (yi (if n=3 then sz-1-i else if fam=3 then i+1-2*((i:Int) % 2) else i))):=by
 have HF':Hid _:=HF;clear HF
 by_cases h3:n=3
 ·subst h3
  rw[if_pos rfl]
  go_enter func105,ntmps105
  go_wp2_with fail
  refine(HF'.out _).mono ?_;rintro z w1 ⟨rfl,b1⟩
  go_wp2
  go_ret
  exact⟨by go_num,aa b1 (af _ _)⟩
 ·have hn:(n==3)=false:=by simpa using h3
  rw[if_neg h3]
  by_cases hf:fam=3
  ·subst hf
   rw[if_pos rfl];clear h3
   go_enter func105,ntmps105
   go_wp2_with fail
   refine(HF'.out _).mono ?_;rintro z w1 ⟨rfl,b1⟩
   go_wp2
   go_ret
   exact⟨by go_num,aa b1 (af _ _)⟩
  ·have hfb:(fam==3)=false:=by simpa using hf
   rw[if_neg hf];clear h3 hf
   go_enter func105,ntmps105
   go_wp2_with fail
   refine(HF'.out _).mono ?_;rintro z w1 ⟨rfl,b1⟩
   go_wp2
   go_ret
   exact⟨rfl,aa b1 (af _ _)⟩
theorem IF (k:Nat)(hk:1≤k∧k≤8)(i:Nat)(hi:i<szN k)(w:World):yC 105 #[yi k,yi i] w (yR w (yi ((plN k i:Nat):Int))):=by
 have HF:=fun w1=>qU k hk w1
 have hsz:=(fZ hk).2.2.1;have key: ∀x:Int,((plN k i:Nat):Int)=x→yC 105 #[yi k,yi i] w ((yR w (yi x)))→yC 105 #[yi k,yi i] w ((yR w (yi ((plN k i:Nat):Int)))):=fun x hx h=>by rw[hx];exact h
 rcases bO hk with rfl|rfl|rfl|rfl|rfl|rfl|rfl|rfl
 ·exact key _ (by unfold plN;simp) (sM _ _ _ _ _ _ _ _ _ _ i w hi hsz HF)
 ·exact key _ (by unfold plN;simp) (sM _ _ _ _ _ _ _ _ _ _ i w hi hsz HF)
 ·exact key _ (by unfold plN;simp only[szN] at hi⊢;simp;omega) (sM _ _ _ _ _ _ _ _ _ _ i w hi hsz HF)
 ·exact key _ (by unfold plN;simp) (sM _ _ _ _ _ _ _ _ _ _ i w hi hsz HF)
 ·exact key _ (by unfold plN;simp) (sM _ _ _ _ _ _ _ _ _ _ i w hi hsz HF)
 ·exact key _ (by unfold plN;simp;omega) (sM _ _ _ _ _ _ _ _ _ _ i w hi hsz HF)
 ·exact key _ (by unfold plN;simp;omega) (sM _ _ _ _ _ _ _ _ _ _ i w hi hsz HF)
 ·exact key _ (by unfold plN;simp;omega) (sM _ _ _ _ _ _ _ _ _ _ i w hi hsz HF)
def jY (bf:Nat→Bool):Nat→Nat
 |0=>0
 |n+1=>jY bf n*2+if bf n then 1 else 0
theorem DZ (bf:Nat→Bool): ∀n,jY bf n<2^n
 |0=>by simp[jY]
 |n+1=>by
  have:=DZ bf n;rw[jY,Nat.pow_succ]
  split<;>omega
theorem eG (R D L G:Int)(gr:Bool)(w:World):
  yC 52 #[ygV R D L G gr] w (yR w (yi (wdI R))):=by
 have bA:=af w (.cells (ygA R D L G gr) 40);unfold wdI
 by_cases h:R=16
 ·rw[if_pos h]
  subst h
  go_enter func52,ntmps52
  go_wp2
  go_ret
  exact⟨rfl,bA⟩
 ·rw[if_neg h]
  have e:(R==16)=false:=by simp;exact h
  go_enter func52,ntmps52
  go_wp2
  go_ret
  exact⟨rfl,bA⟩
theorem BE {a L:Nat}(h:(Dg.dg 65536 a).length≤L):bitLen a≤16*L:=by
 refine bF a _ ?_;rw[Nat.pow_mul];have h1:=Dg.vl_lt 65536 _ (Dg.small_dg 65536 a (by omega));rw[Dg.vl_dg _ _ (by omega)] at h1;exact Nat.lt_of_lt_of_le h1 (Nat.pow_le_pow_right (by omega) h)
theorem Gh (R D e:Int)(bl:Nat)(h: -79000≤e+bl):(e+(bl:Int)-1+80000).tdiv (ai R)-(80000:Int).tdiv (ai R)-D+1=aT R D (e+(bl:Int)-1):=by
 rw[Int.tdiv_eq_ediv_of_nonneg (by omega),Int.tdiv_eq_ediv_of_nonneg (by omega)];unfold aT ai
 split<;>simp<;>omega
theorem nE {t:ak}(h:t.n≠0):t.e≤(bare t).e∧(bare t).e=t.e+tz t.n:=by
 unfold bare;rw[if_neg h];exact⟨by show t.e≤t.e+(tz t.n:Int);omega,rfl⟩
def ia (R D L G:Int)(gr:Bool)(d:Nat)(p:Int):Prop:=
 (d=0∧p=0)∨(d≠0∧L≤p∧p≤G∧d<2^ (ai R*D.toNat)∧(2^ (ai R*(D-1).toNat)≤d∨(gr=true∧p=L)))
theorem qj {R D L G:Int}{gr:Bool}{d:Nat}{p:Int}(hg:bk R D L G=0)(h:ia R D L G gr d p):
  (Dg.dg 4294967296 d).length≤15∧ -17000≤p∧p≤17000∧ -17000≤(ai R:Int)*p∧(ai R:Int)*p≤17000∧tz d≤480:=by
 obtain⟨hR,d1,d2,l1,l2,g1,g2,lg,l16⟩:=cB hg
 rcases h with⟨rfl,rfl⟩| ⟨h0,h1,h2,h3,-⟩
 ·refine⟨Nat.zero_le _,by omega,by omega,by simp,by simp, ?_⟩
  exact Nat.le_trans (gZ 0 0 (Nat.le_refl _)) (by omega)
 ·have hw:=Nat.mul_le_mul (eN R).2 (show D.toNat≤120 by omega)
  have hl:(Dg.dg 4294967296 d).length≤15:=jq h3 (by omega);have:=gZ d 15 hl;refine⟨hl,by omega,by omega, ?_, ?_,by omega⟩<;>(unfold ai;split<;>simp<;>omega)
theorem Af {R D L G:Int}{gr s:Bool}{d:Nat}{p:Int}(hg:bk R D L G=0)(h:ia R D L G gr d p):
  cC (ix (Dg.dg 4294967296 d) p R D L G) ⟨s,Dg.vl 4294967296 (Dg.dg 4294967296 d),(ai R:Int)*p⟩=(bare ⟨s,d,(ai R:Int)*p⟩,0):=by
 obtain⟨l,p1,p2,w1,w2,tzl⟩:=qj hg h;have hp:ix (Dg.dg 4294967296 d) p R D L G=0:=kA ((bL (nt (n:=d) (e:=0) (by omega) (by omega) (by omega))).1) hg (by unfold eJ;simp;omega);rw[hp,Dg.vl_dg _ _ (by omega)]
 show bU _=_
 refine wK ?_ ?_ ?_
 ·exact Nat.le_trans (aH _ _ d (by omega) (kR _)) (by omega)
 ·by_cases h0:d=0
  ·simp[bare,h0]
  ·have:=(nE (t:=⟨s,d,(ai R:Int)*p⟩) h0).2
   simp only at this;omega
 ·by_cases h0:d=0
  ·simp[bare,h0]
  ·have:=(nE (t:=⟨s,d,(ai R:Int)*p⟩) h0).2
   simp only at this;omega
theorem nN {R D L G:Int}(gr:Bool)(t:ak)(hLG:L≤G):dA R D L G gr (bare t).n (bare t).e=dA R D L G gr t.n t.e:=by
 rw[←jK gr t hLG,←jK gr (bare t) hLG,iH]
theorem mI {R D L G:Int}{gr s:Bool}{d:Nat}{p:Int}(hg:bk R D L G=0)(h:ia R D L G gr d p):dA R D L G gr (bare ⟨s,d,(ai R:Int)*p⟩).n (bare ⟨s,d,(ai R:Int)*p⟩).e=true:=by
 obtain⟨-,d1,-,-,-,-,-,lg,-⟩:=cB hg;rw[nN gr _ lg]
 rcases h with⟨rfl,rfl⟩| ⟨h0,h1,h2,h3,h4⟩
 ·exact tO R D L G gr _
 ·rw[tN d1 h3 h1 h4 h0]
  exact decide_eq_true h2
def bnL (a many:Nat):List Bool:=(List.range many).map fun i=>decide (a/2^ (many-1-i) % 2=1)
theorem wk (a many:Nat):(bnL a many).length=many:=by simp[bnL]
theorem ach {w:World}{base g n:Nat}{bs:List Bool}(h:jp w base (.slice (some ⟨g,0,none⟩) n n) bs)(hn:n=bs.length){k:IntKind}{v:Value}{zs:List Nat}(hr:Rd w k v zs):wF g v zs:=fun hp a m c hv=>by
 subst hn;obtain⟨ao,cap,rfl,_,_,h3⟩:=hr;obtain⟨b,off,rfl,hc⟩:=h3 hp
 cases hv
 show b≠g
 intro e;subst e;have h0:=hc 0 hp
 rcases h.2 with⟨hv,_⟩| ⟨g',cap',cur,hv,hb,hh,hnc,hcm,hcs,htake⟩
 ·simp at hv
 ·simp only[Value.slice.injEq,Option.some.injEq,Addr.mk.injEq,and_true,true_and] at hv
  obtain⟨rfl,rfl⟩:=hv;have hcur:cur.toList=bs.map Value.bool:=by
   rw[←htake,List.take_of_length_le (by rw[Array.length_toList,hcs];omega)]
  unfold World.cell? at h0;simp only[hh] at h0;rw[←Array.getElem?_toList,hcur,List.getElem?_map] at h0
  cases hx:bs[off+0]? with
  |none=>rw[hx] at h0;simp at h0
  |some y=>rw[hx] at h0;simp at h0
def BnI (a many j:Nat)(cur:List Bool):Prop:=
 cur.length=many∧ ∀i,i<many→cur.getD i false=if many-j≤i then decide (a/2^ (many-1-i) % 2=1) else false
theorem ZS {a many j:Nat}{cur:List Bool}(h:BnI a many j cur)(hj:j<many):BnI a many (j+1) (cur.set (many-1-j) (decide (a/2^j % 2=1))):=by
 obtain⟨h1,h2⟩:=h;refine⟨by simpa using h1,fun i hi=> ?_⟩
 by_cases e:many-1-j=i
 ·rw[e,List.getD_eq_getElem?_getD,List.getElem?_set_self (by omega),if_pos (by omega),show many-1-i=j from by omega]
  rfl
 ·rw[List.getD_eq_getElem?_getD,List.getElem?_set_ne e,←List.getD_eq_getElem?_getD,h2 i hi]
  by_cases c:many-j≤i
  ·rw[if_pos c,if_pos (by omega)]
  ·rw[if_neg c,if_neg (by omega)]
theorem aci {a many:Nat}{cur:List Bool}(h:BnI a many many cur):cur=bnL a many:=by
 obtain⟨h1,h2⟩:=h;apply List.ext_getElem (by rw[wk];exact h1);intro i hi1 hi2;have:=h2 i (by omega);rw[if_pos (by omega),List.getD_eq_getElem?_getD,List.getElem?_eq_getElem hi1] at this;simp only[Option.getD_some] at this;rw[this];simp[bnL]
theorem Do (va:Value)(a many:Nat)(w:World)(ha:Rd w .i64 va (Dg.dg 65536 a))(hal:a<340282366920938463463374607431768211456)(hm:many≤100)(hm1:1≤many):
  yC 90 #[va,yi many] w fun z w'=> ∃g,z= .returned (.slice (some ⟨g,0,none⟩) many many)∧jp w' w.heap.size (.slice (some ⟨g,0,none⟩) many many) (bnL a many)∧yB w w':=by
 obtain⟨i0,hi,hz0,hz1,hz2⟩:=info_parts Tryz.infoB;obtain⟨ao,ca,rfl⟩:=ha.shape;have HI:Hid (∀(v u:Value) (x:Nat) w1,x<340282366920938463463374607431768211456→Rd w1 .i64 v (Dg.dg 65536 x)→Rd w1 .i64 u [2]→yC 35 #[v,u] w1 (JI w1 (x/2) (x % 2))):=fun v u x w1 hx h1 h2=>by
  have h2':Rd w1 .i64 u (Dg.dg 65536 2):=by
   rw[show Dg.dg 65536 2=[2] from by
    have:=Dg.dg_vl 65536 (by omega) [2] (fun i=>by
     match i with
     |0=>decide
     |i+1=>simp) (fun _=>by simp)
    simpa[Dg.vl] using this]
   exact h2
  have hl:=Dg.dg_len_le 65536 x 8 (by omega) hx;have hl2:=Dg.dg_len_le 65536 2 1 (by omega) (by omega);exact qM v u x 2 w1 h1 h2' (by omega) (by omega) (by omega)
 go_enter func90,ntmps90
 go_wp2_with (at_make;refine wpList_make_full _ rfl _ _ 105 rfl w.heap.size 4 i0 (.bool false) 1 underlying105 hi hz0 hz1 _ _ _ _ many rfl rfl (by omega) (by omega) ?b2 ?b3 (Nat.le_refl _) ?_)
 case b2=>rw[hz2];omega
 case b3=>unfold maxLen;omega
 intro w0 hown hgrow;have own0:jp w0 w.heap.size (.slice (some ⟨w.heap.size,0,none⟩) many many) (List.replicate many false):=by
  rw[toList_madeCells_one] at hown
  simpa[jp] using hown
 have b0:yB w w0:=(Below.refl _ _).grown hgrow (Nat.le_refl _) (fun k h=>by cases h)
 have r0:=ha.l b0;clear hown hgrow
 go_wp2
 go_loopw [0,6] (fun av iv wr=> ∃(j x:Nat) (cur:List Bool),j≤many∧iv=yi ((many:Int)-1-j)∧Rd wr .i64 av (Dg.dg 65536 x)∧Hid (x=a/2^j)∧jp wr w.heap.size (.slice (some ⟨w.heap.size,0,none⟩) many many) cur∧BnI a many j cur∧yB w wr) (fun _ iv _=>(intOf iv+1).toNat)
 case atStart=>exact⟨0,a,List.replicate many false,by omega,by go_num,r0,by show a=a/2^0;simp,own0,⟨by simp,fun i hi=>by rw[if_neg (by omega)];simp[List.getD_eq_getElem?_getD,hi]⟩,b0⟩
 case round=>
  obtain⟨j,x,cur,hj,rfl,rx,HX,own,hI,bel⟩:=hrel;have hcl:=hI.1
  by_cases hlt:j<many
  ·obtain⟨i,ei⟩: ∃i,many-1-j=i:=⟨_,rfl⟩
   have hiI:(many:Int)-1-(j:Int)=(i:Int):=by omega
   have hst:=ZS hI hlt;rw[ei] at hst;rw[hiI];have hxe:=HX.out;have hxl:x<340282366920938463463374607431768211456:=by rw[hxe];exact Nat.lt_of_le_of_lt (Nat.div_le_self _ _) hal
   rw[←hxe] at hst;have hx2:x/2=a/2^ (j+1):=by rw[hxe,Nat.div_div_eq_div_mul,Nat.pow_succ]
   have a1:=af wr (.cells #[yi 2] 3);have r2:Rd (wr.alloc (.cells #[yi 2] 3)) .i64 (.slice (some ⟨wr.heap.size,0,none⟩) 1 1) [2]:=cE (w:=wr) (k:= .i64) (e:=3) [2] #[yi 2] rfl (by unfold maxLen;simp);obtain⟨xo,xc,hvx⟩:=rx.shape;subst hvx;have HT:Hid (yC 35 #[yS xo x xc,.slice (some ⟨wr.heap.size,0,none⟩) 1 1] (wr.alloc (.cells #[yi 2] 3)) (JI (wr.alloc (.cells #[yi 2] 3)) (x/2) (x % 2))):=HI.out _ _ x _ hxl (rx.l a1) r2;have HH:Hid (_∧_∧_):=⟨hst,hx2,hiI⟩;have own1:=own.l a1;have bel1:=aa bel a1;have hil:i<many:=by omega
   clear hst hx2 hiI hxe HX ei hI own bel
   go_wp2_with fail
   refine Calls.mono HT.out ?_;rintro z w2 ⟨vq,vr,rfl,rq,rr,b2⟩;obtain⟨qo,qc,hq⟩:=rq.shape;subst hq;obtain⟨ro,rc,hr⟩:=rr.shape;subst hr;have own2:=own1.l b2;have bel2:=aa bel1 b2;have hc2:=own2.c (by omega) i (by omega);have hf2:=own2.f (by omega) i;have hbb:decide (0< (Dg.dg 65536 (x % 2)).length)=decide (x % 2=1):=by
    rcases(show x % 2=0∨x % 2=1 by omega) with h|h
    ·rw[h];rfl
    ·rw[h]
     have:Dg.dg 65536 1≠[]:=by rw[Ne,Dg.dg_nil_iff 65536 1 (by omega)];omega
     have hp:=List.length_pos_iff.2 this;rw[decide_eq_true (by omega)];rfl
   obtain⟨bb,ebb⟩: ∃y,decide (x % 2=1)=y:=⟨_,rfl⟩;rw[ebb] at hbb HH;have bu:=ag w2 w.heap.size i (.bool bb);have rq3:=bu.rd rq (ach own2 (by omega) rq);have own3:=own2.store (by omega) i bb;have bel3:=bu.below bel2 (Nat.le_refl _);have HR:Hid (_∧_∧_∧_):=⟨rq3,own3,bel3,hbb⟩;clear hbb ebb rr bu rq3 own3 bel3 rq own1 bel1 own2 bel2 b2 a1 r2 HT rx
   go_wp2
   go_roundw
   case rel=>
    obtain⟨hst,hx2,hiI⟩:=HH.out;obtain⟨rq3,own3,bel3,hbb⟩:=HR.out;rw[hbb];exact⟨j+1,x/2,_,by omega,by congr 1;omega,rq3,hx2,own3,hst,bel3⟩
   case measure=>simp only[intOf];omega
  ·have hd: ¬((0:Int)≤(many:Int)-1-(j:Int)):=by omega
   have HJ:Hid (j=many):=(by omega:j=many)
   go_wp2
   go_ret
   have h1:=HJ.out;subst h1;rw[aci hI] at own;exact⟨_,rfl,own,bel⟩
end Go.Proofs.YtpgijbdgljkeeaaGreatDoor

/-
  Texts laid together: Co3, Co14, Co17, Co18, Co4, Eb2, As3.
-/
import Derived.Test.YtddkchlamdhgcaaGreatDoorSu35
import Derived.Test.YtddkchlamdhgcaaGreatDoorSu36
set_option maxRecDepth 100000
set_option maxHeartbeats 3200000
namespace Go.Proofs.YtddkchlamdhgcaaGreatDoor
open _root_.Go.Proofs.Tryz
open Go.RowKit
theorem uU (w:World):yC 57 #[yi 1] w (tC w 1 0):=
 kC 1 _ _ _ _ _ _ _ 1 _ _ _ w rfl (jk 1) jG (fun W=>by kernel_rfl)
theorem uV (w:World):yC 57 #[yi 2] w (tC w 2 0):=
 kC 2 _ _ _ _ _ _ _ 1 _ _ _ w rfl (jk 2) jG (fun W=>by kernel_rfl)
theorem uW (w:World):yC 57 #[yi 3] w (tC w 3 0):=
 kC 3 _ _ _ _ _ _ _ 1 _ _ _ w rfl (jk 3) jG (fun W=>by kernel_rfl)
theorem uX (w:World):yC 57 #[yi 4] w (tC w 4 0):=
 kC 4 _ _ _ _ _ _ _ 2 _ _ _ w rfl (jk 4) jG (fun W=>by kernel_rfl)
theorem uY (w:World):yC 57 #[yi 5] w (tC w 5 0):=
 kC 5 _ _ _ _ _ _ _ 2 _ _ _ w rfl (jk 5) jG (fun W=>by kernel_rfl)
theorem uZ (w:World):yC 57 #[yi 6] w (tC w 6 0):=
 kC 6 _ _ _ _ _ _ _ 3 _ _ _ w rfl (jk 6) jG (fun W=>by kernel_rfl)
theorem vf (w:World):yC 57 #[yi 7] w (tC w 7 0):=
 kC 7 _ _ _ _ _ _ _ 3 _ _ _ w rfl (jk 7) jG (fun W=>by kernel_rfl)
theorem vh (w:World):yC 57 #[yi 8] w (tC w 8 0):=
 kC 8 _ _ _ _ _ _ _ 3 _ _ _ w rfl (jk 8) jG (fun W=>by kernel_rfl)
theorem VY (k:Nat)(hk:1≤k∧k≤8)(s:ByteArray)(w:World)(hs:s.size=szN k):
  yC 79 #[.agg (tS k).toArray,.string s] w (yR w (yfV (aZ k s) ((aR k s:Nat):Int) ((aU k s:Nat):Int))):=by
 obtain⟨h1,h2,h3,h4,h5,-⟩:=fZ hk;have hb:=oV s;have HT: ∀g cap w1,ik w1 g (jr s)→yC (C9 k) #[.slice (some ⟨g,0,none⟩) (szN k) cap] w1 fun z w'=>z= .returned (.tuple #[])∧ik w' g (wG k s)∧w1.grownBy w' (some g):=fun g cap w1 h=>by
  have:=IV k g cap (jr s) w1 h (by omega) (by rw[hb,hs];exact h5);rw[hb,hs] at this;exact this
 have HF:=fun w1=>tm k hk w1
 have hl:(wG k s).length=szN k:=by rw[wG,nM,hb,hs]
 have hm:=xi k _ (zU s);have HE:=fun args W=>Db k args W
 unfold aZ aR aU
 rcases bO hk with rfl|rfl|rfl|rfl|rfl|rfl|rfl|rfl
 all_goals exact acf _ _ _ _ _ _ _ _ _ _ s _ w hs hl hm h1 h2 h3 h4 HT HF HE
theorem pU (k:Nat)(hk:1≤k∧k≤8)(w:World):yC 57 #[yi k] w (tC w k 0):=by
 rcases bO hk with rfl|rfl|rfl|rfl|rfl|rfl|rfl|rfl
 ·exact uU w
 ·exact uV w
 ·exact uW w
 ·exact uX w
 ·exact uY w
 ·exact uZ w
 ·exact vf w
 ·exact vh w
theorem uM (n:Int)(s:ByteArray)(w:World)(h:dF n s=0):
  yC 55 #[yi n,.string s] w (yR w (.tuple #[.agg (tS n.toNat).toArray,yfV (aZ n.toNat s) ((aR n.toNat s:Nat):Int) ((aU n.toNat s:Nat):Int),yi 0])):=by
 unfold dF at h
 by_cases hf:dK n=0
 ·rw[if_pos hf] at h
  omega
 ·rw[if_neg hf] at h
  obtain⟨h1,h2,h3⟩:=fF hf;obtain⟨k,rfl⟩: ∃k:Nat,n=(k:Int):=⟨n.toNat,h3.symm⟩;rw[Int.toNat_natCast] at h h1 h2⊢;have hs:s.size=szN k:=by
   by_cases c:s.size=szN k
   ·exact c
   ·rw[if_neg c] at h
    omega
  have HL:=fun w1=>pU k ⟨h1,h2⟩ w1
  have HR:=fun w1=>VY k ⟨h1,h2⟩ s w1 hs
  generalize aZ k s=ng at*;generalize aR k s=e at*;generalize aU k s=f at*
  rcases bO ⟨h1,h2⟩ with rfl|rfl|rfl|rfl|rfl|rfl|rfl|rfl
  all_goals exact N7 _ _ _ _ _ _ _ _ _ _ ng e f s w hs HL HR
theorem tA (n:Int)(s:ByteArray)(w:World)(h:dF n s≠0):
  yC 55 #[yi n,.string s] w (yR w (.tuple #[yzV 0 0 0 0 false 0 0 0,yfV false 0 0,yi (dF n s)])):=by
 unfold dF at h⊢
 by_cases hf:dK n=0
 ·rw[if_pos hf]
  exact GA n s w (fun w1=>lR n w1 hf)
 ·rw[if_neg hf] at h⊢
  obtain⟨h1,h2,h3⟩:=fF hf;obtain⟨k,rfl⟩: ∃k:Nat,n=(k:Int):=⟨n.toNat,h3.symm⟩;rw[Int.toNat_natCast] at h h1 h2⊢
  by_cases hs:s.size=szN k
  ·rw[if_pos hs] at h
   omega
  ·rw[if_neg hs]
   have HL:=fun w1=>pU k ⟨h1,h2⟩ w1
   rcases bO ⟨h1,h2⟩ with rfl|rfl|rfl|rfl|rfl|rfl|rfl|rfl
   all_goals exact H6 _ _ _ _ _ _ _ _ _ _ s w hs HL
theorem SN (w:World):yC 43 #[yi 1] w (yR w (.tuple #[ygV 2 24 (-149) 104 true,yi 0])):=by
 have HL:Hid (yJ 57 #[yi 1] (.tuple #[.agg #[yi 2,yi 24,yi (-149),yi 104,.bool true,yi 4,yi 8,yi 1,.func (.func 117) #[] #[]],yi 0])):=fun w1=>uU w1
 have hsf:=cD;have hsn:=gn;have l0:=ah w (ygL 0 0 0 0 false) 40;have b0:=af w (.cells (ygA 0 0 0 0 false) 40)
 go_enter func43,ntmps43
 go_wp2_with fail
 refine(HL.out _).mono ?_;rintro z w2 ⟨rfl,b2⟩;have l3:=(l0.l b2).l (af w2 (.cells #[yi 2,yi 24,yi (-149),yi 104,.bool true,yi 4,yi 8,yi 1,.func (.func 117) #[] #[]] 116));have cR:au ((((((w2.alloc (.cells #[yi 2,yi 24,yi (-149),yi 104,.bool true,yi 4,yi 8,yi 1,.func (.func 117) #[] #[]] 116)).setCell ⟨w.heap.size,0,none⟩ (yi 2)).setCell ⟨w.heap.size,1,none⟩ (yi 24)).setCell ⟨w.heap.size,2,none⟩ (yi (-149))).setCell ⟨w.heap.size,3,none⟩ (yi 104)).setCell ⟨w.heap.size,4,none⟩ (.bool true)) w.heap.size 40 (ygL 2 24 (-149) 104 true):=(((((l3.set 0 (yi 2)).set 1 (yi 24)).set 2 (yi (-149))).set 3 (yi 104)).set 4 (.bool true));have bR:=(((((ag (w2.alloc (.cells #[yi 2,yi 24,yi (-149),yi 104,.bool true,yi 4,yi 8,yi 1,.func (.func 117) #[] #[]] 116)) w.heap.size 0 (yi 2)).trans (ag _ w.heap.size 1 (yi 24))).trans (ag _ w.heap.size 2 (yi (-149)))).trans (ag _ w.heap.size 3 (yi 104))).trans (ag _ w.heap.size 4 (.bool true))).below (aa (aa b0 b2) (af w2 (.cells #[yi 2,yi 24,yi (-149),yi 104,.bool true,yi 4,yi 8,yi 1,.func (.func 117) #[] #[]] 116))) (Nat.le_refl _);have hl:=run_loadVar_mid (P:=Tryz.prog) _ w.heap.size 0 40 (ygL 2 24 (-149) 104 true) _ cR.range underlying40 rfl (by kernel_rfl);have HH:Hid (_∧_):=⟨hl,bR⟩;have x0:=l3.c 0 rfl;have f0:=l3.f 0;have x1:=l3.c 1 rfl;have f1:=l3.f 1;have x2:=l3.c 2 rfl;have f2:=l3.f 2;have x3:=l3.c 3 rfl;have f3:=l3.f 3;have x4:=l3.c 4 rfl;have f4:=l3.f 4;have hne:w2.heap.size≠w.heap.size:=Nat.ne_of_gt (l0.l b2).lt;clear hl bR cR l0 l3 b0 b2 HL
 go_wp2
 obtain⟨hl,bR⟩:=HH.out;exact bodyPost_ret (aj results43 rfl rfl hl) rfl ⟨rfl,bR⟩
theorem SO (w:World):yC 43 #[yi 2] w (yR w (.tuple #[ygV 2 53 (-1074) 971 true,yi 0])):=by
 have HL:Hid (yJ 57 #[yi 2] (.tuple #[.agg #[yi 2,yi 53,yi (-1074),yi 971,.bool true,yi 8,yi 11,yi 1,.func (.func 117) #[] #[]],yi 0])):=fun w1=>uV w1
 have hsf:=cD;have hsn:=gn;have l0:=ah w (ygL 0 0 0 0 false) 40;have b0:=af w (.cells (ygA 0 0 0 0 false) 40)
 go_enter func43,ntmps43
 go_wp2_with fail
 refine(HL.out _).mono ?_;rintro z w2 ⟨rfl,b2⟩;have l3:=(l0.l b2).l (af w2 (.cells #[yi 2,yi 53,yi (-1074),yi 971,.bool true,yi 8,yi 11,yi 1,.func (.func 117) #[] #[]] 116));have cR:au ((((((w2.alloc (.cells #[yi 2,yi 53,yi (-1074),yi 971,.bool true,yi 8,yi 11,yi 1,.func (.func 117) #[] #[]] 116)).setCell ⟨w.heap.size,0,none⟩ (yi 2)).setCell ⟨w.heap.size,1,none⟩ (yi 53)).setCell ⟨w.heap.size,2,none⟩ (yi (-1074))).setCell ⟨w.heap.size,3,none⟩ (yi 971)).setCell ⟨w.heap.size,4,none⟩ (.bool true)) w.heap.size 40 (ygL 2 53 (-1074) 971 true):=(((((l3.set 0 (yi 2)).set 1 (yi 53)).set 2 (yi (-1074))).set 3 (yi 971)).set 4 (.bool true));have bR:=(((((ag (w2.alloc (.cells #[yi 2,yi 53,yi (-1074),yi 971,.bool true,yi 8,yi 11,yi 1,.func (.func 117) #[] #[]] 116)) w.heap.size 0 (yi 2)).trans (ag _ w.heap.size 1 (yi 53))).trans (ag _ w.heap.size 2 (yi (-1074)))).trans (ag _ w.heap.size 3 (yi 971))).trans (ag _ w.heap.size 4 (.bool true))).below (aa (aa b0 b2) (af w2 (.cells #[yi 2,yi 53,yi (-1074),yi 971,.bool true,yi 8,yi 11,yi 1,.func (.func 117) #[] #[]] 116))) (Nat.le_refl _);have hl:=run_loadVar_mid (P:=Tryz.prog) _ w.heap.size 0 40 (ygL 2 53 (-1074) 971 true) _ cR.range underlying40 rfl (by kernel_rfl);have HH:Hid (_∧_):=⟨hl,bR⟩;have x0:=l3.c 0 rfl;have f0:=l3.f 0;have x1:=l3.c 1 rfl;have f1:=l3.f 1;have x2:=l3.c 2 rfl;have f2:=l3.f 2;have x3:=l3.c 3 rfl;have f3:=l3.f 3;have x4:=l3.c 4 rfl;have f4:=l3.f 4;have hne:w2.heap.size≠w.heap.size:=Nat.ne_of_gt (l0.l b2).lt;clear hl bR cR l0 l3 b0 b2 HL
 go_wp2
 obtain⟨hl,bR⟩:=HH.out;exact bodyPost_ret (aj results43 rfl rfl hl) rfl ⟨rfl,bR⟩
theorem SP (w:World):yC 43 #[yi 3] w (yR w (.tuple #[ygV 2 64 (-16445) 16320 true,yi 0])):=by
 have HL:Hid (yJ 57 #[yi 3] (.tuple #[.agg #[yi 2,yi 64,yi (-16445),yi 16320,.bool true,yi 10,yi 15,yi 1,.func (.func 118) #[] #[]],yi 0])):=fun w1=>uW w1
 have hsf:=cD;have hsn:=gn;have l0:=ah w (ygL 0 0 0 0 false) 40;have b0:=af w (.cells (ygA 0 0 0 0 false) 40)
 go_enter func43,ntmps43
 go_wp2_with fail
 refine(HL.out _).mono ?_;rintro z w2 ⟨rfl,b2⟩;have l3:=(l0.l b2).l (af w2 (.cells #[yi 2,yi 64,yi (-16445),yi 16320,.bool true,yi 10,yi 15,yi 1,.func (.func 118) #[] #[]] 116));have cR:au ((((((w2.alloc (.cells #[yi 2,yi 64,yi (-16445),yi 16320,.bool true,yi 10,yi 15,yi 1,.func (.func 118) #[] #[]] 116)).setCell ⟨w.heap.size,0,none⟩ (yi 2)).setCell ⟨w.heap.size,1,none⟩ (yi 64)).setCell ⟨w.heap.size,2,none⟩ (yi (-16445))).setCell ⟨w.heap.size,3,none⟩ (yi 16320)).setCell ⟨w.heap.size,4,none⟩ (.bool true)) w.heap.size 40 (ygL 2 64 (-16445) 16320 true):=(((((l3.set 0 (yi 2)).set 1 (yi 64)).set 2 (yi (-16445))).set 3 (yi 16320)).set 4 (.bool true));have bR:=(((((ag (w2.alloc (.cells #[yi 2,yi 64,yi (-16445),yi 16320,.bool true,yi 10,yi 15,yi 1,.func (.func 118) #[] #[]] 116)) w.heap.size 0 (yi 2)).trans (ag _ w.heap.size 1 (yi 64))).trans (ag _ w.heap.size 2 (yi (-16445)))).trans (ag _ w.heap.size 3 (yi 16320))).trans (ag _ w.heap.size 4 (.bool true))).below (aa (aa b0 b2) (af w2 (.cells #[yi 2,yi 64,yi (-16445),yi 16320,.bool true,yi 10,yi 15,yi 1,.func (.func 118) #[] #[]] 116))) (Nat.le_refl _);have hl:=run_loadVar_mid (P:=Tryz.prog) _ w.heap.size 0 40 (ygL 2 64 (-16445) 16320 true) _ cR.range underlying40 rfl (by kernel_rfl);have HH:Hid (_∧_):=⟨hl,bR⟩;have x0:=l3.c 0 rfl;have f0:=l3.f 0;have x1:=l3.c 1 rfl;have f1:=l3.f 1;have x2:=l3.c 2 rfl;have f2:=l3.f 2;have x3:=l3.c 3 rfl;have f3:=l3.f 3;have x4:=l3.c 4 rfl;have f4:=l3.f 4;have hne:w2.heap.size≠w.heap.size:=Nat.ne_of_gt (l0.l b2).lt;clear hl bR cR l0 l3 b0 b2 HL
 go_wp2
 obtain⟨hl,bR⟩:=HH.out;exact bodyPost_ret (aj results43 rfl rfl hl) rfl ⟨rfl,bR⟩
theorem SQ (w:World):yC 43 #[yi 4] w (yR w (.tuple #[ygV 16 6 (-70) 57 false,yi 0])):=by
 have HL:Hid (yJ 57 #[yi 4] (.tuple #[.agg #[yi 16,yi 6,yi (-70),yi 57,.bool false,yi 4,yi 7,yi 2,.func (.func 117) #[] #[]],yi 0])):=fun w1=>uX w1
 have hsf:=cD;have hsn:=gn;have l0:=ah w (ygL 0 0 0 0 false) 40;have b0:=af w (.cells (ygA 0 0 0 0 false) 40)
 go_enter func43,ntmps43
 go_wp2_with fail
 refine(HL.out _).mono ?_;rintro z w2 ⟨rfl,b2⟩;have l3:=(l0.l b2).l (af w2 (.cells #[yi 16,yi 6,yi (-70),yi 57,.bool false,yi 4,yi 7,yi 2,.func (.func 117) #[] #[]] 116));have cR:au ((((((w2.alloc (.cells #[yi 16,yi 6,yi (-70),yi 57,.bool false,yi 4,yi 7,yi 2,.func (.func 117) #[] #[]] 116)).setCell ⟨w.heap.size,0,none⟩ (yi 16)).setCell ⟨w.heap.size,1,none⟩ (yi 6)).setCell ⟨w.heap.size,2,none⟩ (yi (-70))).setCell ⟨w.heap.size,3,none⟩ (yi 57)).setCell ⟨w.heap.size,4,none⟩ (.bool false)) w.heap.size 40 (ygL 16 6 (-70) 57 false):=(((((l3.set 0 (yi 16)).set 1 (yi 6)).set 2 (yi (-70))).set 3 (yi 57)).set 4 (.bool false));have bR:=(((((ag (w2.alloc (.cells #[yi 16,yi 6,yi (-70),yi 57,.bool false,yi 4,yi 7,yi 2,.func (.func 117) #[] #[]] 116)) w.heap.size 0 (yi 16)).trans (ag _ w.heap.size 1 (yi 6))).trans (ag _ w.heap.size 2 (yi (-70)))).trans (ag _ w.heap.size 3 (yi 57))).trans (ag _ w.heap.size 4 (.bool false))).below (aa (aa b0 b2) (af w2 (.cells #[yi 16,yi 6,yi (-70),yi 57,.bool false,yi 4,yi 7,yi 2,.func (.func 117) #[] #[]] 116))) (Nat.le_refl _);have hl:=run_loadVar_mid (P:=Tryz.prog) _ w.heap.size 0 40 (ygL 16 6 (-70) 57 false) _ cR.range underlying40 rfl (by kernel_rfl);have HH:Hid (_∧_):=⟨hl,bR⟩;have x0:=l3.c 0 rfl;have f0:=l3.f 0;have x1:=l3.c 1 rfl;have f1:=l3.f 1;have x2:=l3.c 2 rfl;have f2:=l3.f 2;have x3:=l3.c 3 rfl;have f3:=l3.f 3;have x4:=l3.c 4 rfl;have f4:=l3.f 4;have hne:w2.heap.size≠w.heap.size:=Nat.ne_of_gt (l0.l b2).lt;clear hl bR cR l0 l3 b0 b2 HL
 go_wp2
 obtain⟨hl,bR⟩:=HH.out;exact bodyPost_ret (aj results43 rfl rfl hl) rfl ⟨rfl,bR⟩
theorem SR (w:World):yC 43 #[yi 5] w (yR w (.tuple #[ygV 16 14 (-78) 49 false,yi 0])):=by
 have HL:Hid (yJ 57 #[yi 5] (.tuple #[.agg #[yi 16,yi 14,yi (-78),yi 49,.bool false,yi 8,yi 7,yi 2,.func (.func 117) #[] #[]],yi 0])):=fun w1=>uY w1
 have hsf:=cD;have hsn:=gn;have l0:=ah w (ygL 0 0 0 0 false) 40;have b0:=af w (.cells (ygA 0 0 0 0 false) 40)
 go_enter func43,ntmps43
 go_wp2_with fail
 refine(HL.out _).mono ?_;rintro z w2 ⟨rfl,b2⟩;have l3:=(l0.l b2).l (af w2 (.cells #[yi 16,yi 14,yi (-78),yi 49,.bool false,yi 8,yi 7,yi 2,.func (.func 117) #[] #[]] 116));have cR:au ((((((w2.alloc (.cells #[yi 16,yi 14,yi (-78),yi 49,.bool false,yi 8,yi 7,yi 2,.func (.func 117) #[] #[]] 116)).setCell ⟨w.heap.size,0,none⟩ (yi 16)).setCell ⟨w.heap.size,1,none⟩ (yi 14)).setCell ⟨w.heap.size,2,none⟩ (yi (-78))).setCell ⟨w.heap.size,3,none⟩ (yi 49)).setCell ⟨w.heap.size,4,none⟩ (.bool false)) w.heap.size 40 (ygL 16 14 (-78) 49 false):=(((((l3.set 0 (yi 16)).set 1 (yi 14)).set 2 (yi (-78))).set 3 (yi 49)).set 4 (.bool false));have bR:=(((((ag (w2.alloc (.cells #[yi 16,yi 14,yi (-78),yi 49,.bool false,yi 8,yi 7,yi 2,.func (.func 117) #[] #[]] 116)) w.heap.size 0 (yi 16)).trans (ag _ w.heap.size 1 (yi 14))).trans (ag _ w.heap.size 2 (yi (-78)))).trans (ag _ w.heap.size 3 (yi 49))).trans (ag _ w.heap.size 4 (.bool false))).below (aa (aa b0 b2) (af w2 (.cells #[yi 16,yi 14,yi (-78),yi 49,.bool false,yi 8,yi 7,yi 2,.func (.func 117) #[] #[]] 116))) (Nat.le_refl _);have hl:=run_loadVar_mid (P:=Tryz.prog) _ w.heap.size 0 40 (ygL 16 14 (-78) 49 false) _ cR.range underlying40 rfl (by kernel_rfl);have HH:Hid (_∧_):=⟨hl,bR⟩;have x0:=l3.c 0 rfl;have f0:=l3.f 0;have x1:=l3.c 1 rfl;have f1:=l3.f 1;have x2:=l3.c 2 rfl;have f2:=l3.f 2;have x3:=l3.c 3 rfl;have f3:=l3.f 3;have x4:=l3.c 4 rfl;have f4:=l3.f 4;have hne:w2.heap.size≠w.heap.size:=Nat.ne_of_gt (l0.l b2).lt;clear hl bR cR l0 l3 b0 b2 HL
 go_wp2
 obtain⟨hl,bR⟩:=HH.out;exact bodyPost_ret (aj results43 rfl rfl hl) rfl ⟨rfl,bR⟩
theorem SS (w:World):yC 43 #[yi 6] w (yR w (.tuple #[ygV 2 24 (-151) 103 false,yi 0])):=by
 have HL:Hid (yJ 57 #[yi 6] (.tuple #[.agg #[yi 2,yi 24,yi (-151),yi 103,.bool false,yi 4,yi 8,yi 3,.func (.func 120) #[] #[]],yi 0])):=fun w1=>uZ w1
 have hsf:=cD;have hsn:=gn;have l0:=ah w (ygL 0 0 0 0 false) 40;have b0:=af w (.cells (ygA 0 0 0 0 false) 40)
 go_enter func43,ntmps43
 go_wp2_with fail
 refine(HL.out _).mono ?_;rintro z w2 ⟨rfl,b2⟩;have l3:=(l0.l b2).l (af w2 (.cells #[yi 2,yi 24,yi (-151),yi 103,.bool false,yi 4,yi 8,yi 3,.func (.func 120) #[] #[]] 116));have cR:au ((((((w2.alloc (.cells #[yi 2,yi 24,yi (-151),yi 103,.bool false,yi 4,yi 8,yi 3,.func (.func 120) #[] #[]] 116)).setCell ⟨w.heap.size,0,none⟩ (yi 2)).setCell ⟨w.heap.size,1,none⟩ (yi 24)).setCell ⟨w.heap.size,2,none⟩ (yi (-151))).setCell ⟨w.heap.size,3,none⟩ (yi 103)).setCell ⟨w.heap.size,4,none⟩ (.bool false)) w.heap.size 40 (ygL 2 24 (-151) 103 false):=(((((l3.set 0 (yi 2)).set 1 (yi 24)).set 2 (yi (-151))).set 3 (yi 103)).set 4 (.bool false));have bR:=(((((ag (w2.alloc (.cells #[yi 2,yi 24,yi (-151),yi 103,.bool false,yi 4,yi 8,yi 3,.func (.func 120) #[] #[]] 116)) w.heap.size 0 (yi 2)).trans (ag _ w.heap.size 1 (yi 24))).trans (ag _ w.heap.size 2 (yi (-151)))).trans (ag _ w.heap.size 3 (yi 103))).trans (ag _ w.heap.size 4 (.bool false))).below (aa (aa b0 b2) (af w2 (.cells #[yi 2,yi 24,yi (-151),yi 103,.bool false,yi 4,yi 8,yi 3,.func (.func 120) #[] #[]] 116))) (Nat.le_refl _);have hl:=run_loadVar_mid (P:=Tryz.prog) _ w.heap.size 0 40 (ygL 2 24 (-151) 103 false) _ cR.range underlying40 rfl (by kernel_rfl);have HH:Hid (_∧_):=⟨hl,bR⟩;have x0:=l3.c 0 rfl;have f0:=l3.f 0;have x1:=l3.c 1 rfl;have f1:=l3.f 1;have x2:=l3.c 2 rfl;have f2:=l3.f 2;have x3:=l3.c 3 rfl;have f3:=l3.f 3;have x4:=l3.c 4 rfl;have f4:=l3.f 4;have hne:w2.heap.size≠w.heap.size:=Nat.ne_of_gt (l0.l b2).lt;clear hl bR cR l0 l3 b0 b2 HL
 go_wp2
 obtain⟨hl,bR⟩:=HH.out;exact bodyPost_ret (aj results43 rfl rfl hl) rfl ⟨rfl,bR⟩
theorem ST (w:World):yC 43 #[yi 7] w (yR w (.tuple #[ygV 2 56 (-183) 71 false,yi 0])):=by
 have HL:Hid (yJ 57 #[yi 7] (.tuple #[.agg #[yi 2,yi 56,yi (-183),yi 71,.bool false,yi 8,yi 8,yi 3,.func (.func 120) #[] #[]],yi 0])):=fun w1=>vf w1
 have hsf:=cD;have hsn:=gn;have l0:=ah w (ygL 0 0 0 0 false) 40;have b0:=af w (.cells (ygA 0 0 0 0 false) 40)
 go_enter func43,ntmps43
 go_wp2_with fail
 refine(HL.out _).mono ?_;rintro z w2 ⟨rfl,b2⟩;have l3:=(l0.l b2).l (af w2 (.cells #[yi 2,yi 56,yi (-183),yi 71,.bool false,yi 8,yi 8,yi 3,.func (.func 120) #[] #[]] 116));have cR:au ((((((w2.alloc (.cells #[yi 2,yi 56,yi (-183),yi 71,.bool false,yi 8,yi 8,yi 3,.func (.func 120) #[] #[]] 116)).setCell ⟨w.heap.size,0,none⟩ (yi 2)).setCell ⟨w.heap.size,1,none⟩ (yi 56)).setCell ⟨w.heap.size,2,none⟩ (yi (-183))).setCell ⟨w.heap.size,3,none⟩ (yi 71)).setCell ⟨w.heap.size,4,none⟩ (.bool false)) w.heap.size 40 (ygL 2 56 (-183) 71 false):=(((((l3.set 0 (yi 2)).set 1 (yi 56)).set 2 (yi (-183))).set 3 (yi 71)).set 4 (.bool false));have bR:=(((((ag (w2.alloc (.cells #[yi 2,yi 56,yi (-183),yi 71,.bool false,yi 8,yi 8,yi 3,.func (.func 120) #[] #[]] 116)) w.heap.size 0 (yi 2)).trans (ag _ w.heap.size 1 (yi 56))).trans (ag _ w.heap.size 2 (yi (-183)))).trans (ag _ w.heap.size 3 (yi 71))).trans (ag _ w.heap.size 4 (.bool false))).below (aa (aa b0 b2) (af w2 (.cells #[yi 2,yi 56,yi (-183),yi 71,.bool false,yi 8,yi 8,yi 3,.func (.func 120) #[] #[]] 116))) (Nat.le_refl _);have hl:=run_loadVar_mid (P:=Tryz.prog) _ w.heap.size 0 40 (ygL 2 56 (-183) 71 false) _ cR.range underlying40 rfl (by kernel_rfl);have HH:Hid (_∧_):=⟨hl,bR⟩;have x0:=l3.c 0 rfl;have f0:=l3.f 0;have x1:=l3.c 1 rfl;have f1:=l3.f 1;have x2:=l3.c 2 rfl;have f2:=l3.f 2;have x3:=l3.c 3 rfl;have f3:=l3.f 3;have x4:=l3.c 4 rfl;have f4:=l3.f 4;have hne:w2.heap.size≠w.heap.size:=Nat.ne_of_gt (l0.l b2).lt;clear hl bR cR l0 l3 b0 b2 HL
 go_wp2
 obtain⟨hl,bR⟩:=HH.out;exact bodyPost_ret (aj results43 rfl rfl hl) rfl ⟨rfl,bR⟩
theorem SU (w:World):yC 43 #[yi 8] w (yR w (.tuple #[ygV 2 53 (-1076) 970 false,yi 0])):=by
 have HL:Hid (yJ 57 #[yi 8] (.tuple #[.agg #[yi 2,yi 53,yi (-1076),yi 970,.bool false,yi 8,yi 11,yi 3,.func (.func 120) #[] #[]],yi 0])):=fun w1=>vh w1
 have hsf:=cD;have hsn:=gn;have l0:=ah w (ygL 0 0 0 0 false) 40;have b0:=af w (.cells (ygA 0 0 0 0 false) 40)
 go_enter func43,ntmps43
 go_wp2_with fail
 refine(HL.out _).mono ?_;rintro z w2 ⟨rfl,b2⟩;have l3:=(l0.l b2).l (af w2 (.cells #[yi 2,yi 53,yi (-1076),yi 970,.bool false,yi 8,yi 11,yi 3,.func (.func 120) #[] #[]] 116));have cR:au ((((((w2.alloc (.cells #[yi 2,yi 53,yi (-1076),yi 970,.bool false,yi 8,yi 11,yi 3,.func (.func 120) #[] #[]] 116)).setCell ⟨w.heap.size,0,none⟩ (yi 2)).setCell ⟨w.heap.size,1,none⟩ (yi 53)).setCell ⟨w.heap.size,2,none⟩ (yi (-1076))).setCell ⟨w.heap.size,3,none⟩ (yi 970)).setCell ⟨w.heap.size,4,none⟩ (.bool false)) w.heap.size 40 (ygL 2 53 (-1076) 970 false):=(((((l3.set 0 (yi 2)).set 1 (yi 53)).set 2 (yi (-1076))).set 3 (yi 970)).set 4 (.bool false));have bR:=(((((ag (w2.alloc (.cells #[yi 2,yi 53,yi (-1076),yi 970,.bool false,yi 8,yi 11,yi 3,.func (.func 120) #[] #[]] 116)) w.heap.size 0 (yi 2)).trans (ag _ w.heap.size 1 (yi 53))).trans (ag _ w.heap.size 2 (yi (-1076)))).trans (ag _ w.heap.size 3 (yi 970))).trans (ag _ w.heap.size 4 (.bool false))).below (aa (aa b0 b2) (af w2 (.cells #[yi 2,yi 53,yi (-1076),yi 970,.bool false,yi 8,yi 11,yi 3,.func (.func 120) #[] #[]] 116))) (Nat.le_refl _);have hl:=run_loadVar_mid (P:=Tryz.prog) _ w.heap.size 0 40 (ygL 2 53 (-1076) 970 false) _ cR.range underlying40 rfl (by kernel_rfl);have HH:Hid (_∧_):=⟨hl,bR⟩;have x0:=l3.c 0 rfl;have f0:=l3.f 0;have x1:=l3.c 1 rfl;have f1:=l3.f 1;have x2:=l3.c 2 rfl;have f2:=l3.f 2;have x3:=l3.c 3 rfl;have f3:=l3.f 3;have x4:=l3.c 4 rfl;have f4:=l3.f 4;have hne:w2.heap.size≠w.heap.size:=Nat.ne_of_gt (l0.l b2).lt;clear hl bR cR l0 l3 b0 b2 HL
 go_wp2
 obtain⟨hl,bR⟩:=HH.out;exact bodyPost_ret (aj results43 rfl rfl hl) rfl ⟨rfl,bR⟩
theorem Q9 {k:Nat}(hk:1≤k∧k≤8){ng:Bool}{xs:List Nat}{p:Int}(sa:Dg.Small 4294967296 xs)(hx:chk xs=0)(hE:enE k ng xs p=0):
  (enS k ng xs p).size=szN k∧aZ k (enS k ng xs p)=ng∧aR k (enS k ng xs p)<2^exN k∧aU k (enS k ng xs p)<2^frN k∧dh k ng (aR k (enS k ng xs p)) (aU k (enS k ng xs p))=2∧iI k (aR k (enS k ng xs p)) (aU k (enS k ng xs p))≠0∧
   bare ⟨ng,iI k (aR k (enS k ng xs p)) (aU k (enS k ng xs p)),(ai (rdN k):Int)*ii k (aR k (enS k ng xs p))⟩=bare ⟨ng,Dg.vl 4294967296 xs,(ai (rdN k):Int)*p⟩:=by
 obtain⟨f1,f2,f3,f4,f5,f6,f7,f8,f9,f10,f11,hgc⟩:=eR hk;have hp: ¬(p< -20000∨20000<p):=fun h=>by
  unfold enE at hE;rw[if_pos h] at hE;omega
 have hl:xs.length≠0:=fun h=>by
  unfold enE at hE;rw[if_neg hp,if_pos h] at hE;omega
 have hvn:=JN hx hl;have hnum:=mY hk (ng:=ng) hx hl hp;have hin:inR (rdN k) (dgN k) (lsI k) (gsI k) (decide (k≤3)) (bare ⟨ng,Dg.vl 4294967296 xs,(ai (rdN k):Int)*p⟩).n (bare ⟨ng,Dg.vl 4294967296 xs,(ai (rdN k):Int)*p⟩).e=true:=by
  refine Decidable.byContradiction fun c=> ?_
  rw[hE,if_neg c] at hnum;omega
 have hbn:(bare ⟨ng,Dg.vl 4294967296 xs,(ai (rdN k):Int)*p⟩).n≠0:=fun hv=>hvn ((fI _).1 hv)
 have hbs:(bare ⟨ng,Dg.vl 4294967296 xs,(ai (rdN k):Int)*p⟩).s=ng:=qr hvn;have hbb:=iH ⟨ng,Dg.vl 4294967296 xs,(ai (rdN k):Int)*p⟩;have hheld:dA (rdN k) (dgN k) (lsI k) (gsI k) (decide (k≤3)) (bare ⟨ng,Dg.vl 4294967296 xs,(ai (rdN k):Int)*p⟩).n (bare ⟨ng,Dg.vl 4294967296 xs,(ai (rdN k):Int)*p⟩).e=true:=by
  rw[nN _ _ f7,←jK _ _ f7];exact hin
 have hS:enS k ng xs p=cF (kU k (plT k (bare ⟨ng,Dg.vl 4294967296 xs,(ai (rdN k):Int)*p⟩).s (bare ⟨ng,Dg.vl 4294967296 xs,(ai (rdN k):Int)*p⟩).n (bare ⟨ng,Dg.vl 4294967296 xs,(ai (rdN k):Int)*p⟩).e).s (heE (rdN k) (lsI k) (gW k) (plT k (bare ⟨ng,Dg.vl 4294967296 xs,(ai (rdN k):Int)*p⟩).s (bare ⟨ng,Dg.vl 4294967296 xs,(ai (rdN k):Int)*p⟩).n (bare ⟨ng,Dg.vl 4294967296 xs,(ai (rdN k):Int)*p⟩).e)) (plT k (bare ⟨ng,Dg.vl 4294967296 xs,(ai (rdN k):Int)*p⟩).s (bare ⟨ng,Dg.vl 4294967296 xs,(ai (rdN k):Int)*p⟩).n (bare ⟨ng,Dg.vl 4294967296 xs,(ai (rdN k):Int)*p⟩).e).d):=by
  unfold enS;rw[if_pos hE,(AW (k:=k) (ng:=ng) hx hl hp sa hE).1]
 rw[hbs] at hS;generalize bare ⟨ng,Dg.vl 4294967296 xs,(ai (rdN k):Int)*p⟩=T at*;obtain⟨p1,p2,p3,p4⟩:=oj (s:=ng) (way:=3) (by omega:(1:Int)≤(dgN k:Int)) f7 hbn hheld;obtain⟨ho,hu,hbr⟩:=mC (s:=ng) (way:=3) (by omega:(1:Int)≤(dgN k:Int)) f7 hbn hheld;have hsp:=(nW (by omega) f7 hbn (by omega) ho hu).resolve_left (fun c=>p4 (by rw[←p2];exact c.1))
 have hpl:cI (rdN k) (dgN k) (lsI k) (gsI k) (decide (k≤3)) ng T.n 1 T.e 3=plT k ng T.n T.e:=rfl;rw[hpl] at p1 hbr hsp;generalize plT k ng T.n T.e=pt at*;obtain⟨q0,q1,q2,q3,q4⟩:=hsp;have hdg:((dgN k:Int)-1).toNat=dgN k-1:=by omega
 rw[Int.toNat_natCast] at q3;rw[hdg] at q4;obtain⟨r1,r2,r3,r4⟩:=CQ hk ng pt q1 q2 q0 q3 (q4.imp_right (fun h=>⟨by simpa using h.1,h.2⟩))
 obtain⟨w1,w2,w3,w4⟩:=mS hk pt.s (heE (rdN k) (lsI k) (gW k) pt) pt.d;rw[Nat.mod_eq_of_lt r1] at w2;rw[hS,w1,w2,w3,w4];refine⟨rfl,p1,r1,Nat.mod_lt _ (Nat.pow_pos (by omega)),r2,by rw[r3];exact q0, ?_⟩;rw[r3,r4];rw[p1] at hbr;rw[hbr];have:(⟨ng,T.n,T.e⟩:ak)=T:=by
  cases T
  simp only at hbs⊢;rw[hbs]
 rw[this,hbb]
theorem adn (n wy R D L G:Int)(gr ng:Bool)(w:World)
  (HN:yJ 77 #[yi 3] (yi 5)):
  yC 110 #[ykV n wy 3 R D L G gr,.bool ng] w (iT w 5 false 0 0):=by
 replace HN:Hid _:=HN;have ad:=af w (.cells (ykA n wy 3 R D L G gr) 150);have av:=af (w.alloc (.cells (ykA n wy 3 R D L G gr) 150)) (.cells (yvA 0 false yN 0) 68);have d0:=(ah w (ykL n wy 3 R D L G gr) 150).l av;have v0:=ah (w.alloc (.cells (ykA n wy 3 R D L G gr) 150)) (yvL 0 false yN 0) 68;rw[World.size_alloc] at v0;have b0:=aa ad av;clear ad av
 go_enter func110,ntmps110
 go_upto_block 0 with fail
 generalize(w.alloc (.cells (ykA n wy 3 R D L G gr) 150)).alloc (.cells (yvA 0 false yN 0) 68)=W0 at d0 v0 b0⊢;obtain⟨y0,y1,y2,y3,y4,y5,y6,y7⟩:=d0.cs8
 go_wp2_with fail
 refine(HN.out _).mono ?_;rintro z w1 ⟨rfl,b1⟩;have v1:=v0.l b1;have b01:=aa b0 b1;clear y0 y1 y2 y3 y4 y5 y6 y7 d0 v0 b0 b1;have cR:au ((((w1.setCell ⟨w.heap.size+1,0,none⟩ (yi 5)).setCell ⟨w.heap.size+1,1,none⟩ (.bool false)).setCell ⟨w.heap.size+1,2,none⟩ yN).setCell ⟨w.heap.size+1,3,none⟩ (yi 0)) (w.heap.size+1) 68 (yvL 5 false yN 0):=((((v1.set 0 (yi 5)).set 1 (.bool false)).set 2 yN).set 3 (yi 0));have bu:=(((ag w1 (w.heap.size+1) 0 (yi 5)).trans (ag _ (w.heap.size+1) 1 (.bool false))).trans (ag _ (w.heap.size+1) 2 yN)).trans (ag _ (w.heap.size+1) 3 (yi 0));have bR:=bu.below b01 (by omega);have hl:=run_loadVar_mid (P:=Tryz.prog) _ (w.heap.size+1) 0 68 (yvL 5 false yN 0) _ cR.range underlying68 rfl (by kernel_rfl);have HH:Hid (_∧_):=⟨hl,bR⟩;obtain⟨z0,z1,z2,z3⟩:=v1.cs4;have fz0:=v1.f 0;have fz1:=v1.f 1;have fz2:=v1.f 2;have fz3:=v1.f 3;clear hl bR bu cR;clear v1 b01
 go_wp2
 obtain⟨hl,bR⟩:=HH.out;exact bodyPost_ret (br results110 rfl hl) rfl ⟨_,rfl,aN _ _,bR⟩
theorem abM (n wy R D L G:Int)(gr ng:Bool)(w:World)
  (HO:yJ 140 #[ykV n wy 1 R D L G gr,.bool ng] (.bool true)):
  yC 110 #[ykV n wy 1 R D L G gr,.bool ng] w (iT w 3 ng 0 0):=by
 replace HO:Hid _:=HO;have ad:=af w (.cells (ykA n wy 1 R D L G gr) 150);have av:=af (w.alloc (.cells (ykA n wy 1 R D L G gr) 150)) (.cells (yvA 0 false yN 0) 68);have d0:=(ah w (ykL n wy 1 R D L G gr) 150).l av;have v0:=ah (w.alloc (.cells (ykA n wy 1 R D L G gr) 150)) (yvL 0 false yN 0) 68;rw[World.size_alloc] at v0;have b0:=aa ad av;clear ad av
 go_enter func110,ntmps110
 go_upto_block 0 with fail
 generalize(w.alloc (.cells (ykA n wy 1 R D L G gr) 150)).alloc (.cells (yvA 0 false yN 0) 68)=W0 at d0 v0 b0⊢;obtain⟨y0,y1,y2,y3,y4,y5,y6,y7⟩:=d0.cs8
 go_wp2_with fail
 refine(HO.out _).mono ?_;rintro z w1 ⟨rfl,b1⟩;have v1:=v0.l b1;have b01:=aa b0 b1;clear y0 y1 y2 y3 y4 y5 y6 y7 d0 v0 b0 b1;have cR:au ((((w1.setCell ⟨w.heap.size+1,0,none⟩ (yi 3)).setCell ⟨w.heap.size+1,1,none⟩ (.bool ng)).setCell ⟨w.heap.size+1,2,none⟩ yN).setCell ⟨w.heap.size+1,3,none⟩ (yi 0)) (w.heap.size+1) 68 (yvL 3 ng yN 0):=((((v1.set 0 (yi 3)).set 1 (.bool ng)).set 2 yN).set 3 (yi 0));have bu:=(((ag w1 (w.heap.size+1) 0 (yi 3)).trans (ag _ (w.heap.size+1) 1 (.bool ng))).trans (ag _ (w.heap.size+1) 2 yN)).trans (ag _ (w.heap.size+1) 3 (yi 0));have bR:=bu.below b01 (by omega);have hl:=run_loadVar_mid (P:=Tryz.prog) _ (w.heap.size+1) 0 68 (yvL 3 ng yN 0) _ cR.range underlying68 rfl (by kernel_rfl);have HH:Hid (_∧_):=⟨hl,bR⟩;obtain⟨z0,z1,z2,z3⟩:=v1.cs4;have fz0:=v1.f 0;have fz1:=v1.f 1;have fz2:=v1.f 2;have fz3:=v1.f 3;clear hl bR bu cR;clear v1 b01
 go_wp2
 obtain⟨hl,bR⟩:=HH.out;exact bodyPost_ret (br results110 rfl hl) rfl ⟨_,rfl,aN _ _,bR⟩
theorem ado (n wy R D L G:Int)(gr ng:Bool)(m:Nat)(w:World)
  (HGr: ∀w1,yB w w1→yC 141 #[ykV n wy 2 R D L G gr,.bool ng] w1 (iT w1 2 ng m G)):
  yC 110 #[ykV n wy 2 R D L G gr,.bool ng] w (iT w 2 ng m G):=by
 replace HGr:Hid _:=HGr;have ad:=af w (.cells (ykA n wy 2 R D L G gr) 150);have av:=af (w.alloc (.cells (ykA n wy 2 R D L G gr) 150)) (.cells (yvA 0 false yN 0) 68);have d0:=(ah w (ykL n wy 2 R D L G gr) 150).l av;have v0:=ah (w.alloc (.cells (ykA n wy 2 R D L G gr) 150)) (yvL 0 false yN 0) 68;rw[World.size_alloc] at v0;have b0:=aa ad av;clear ad av
 go_enter func110,ntmps110
 go_upto_block 0 with fail
 generalize(w.alloc (.cells (ykA n wy 2 R D L G gr) 150)).alloc (.cells (yvA 0 false yN 0) 68)=W0 at d0 v0 b0⊢;obtain⟨y0,y1,y2,y3,y4,y5,y6,y7⟩:=d0.cs8
 go_wp2_with fail
 refine(HGr.out _ b0).mono ?_;rintro z w2 ⟨u,rfl,r2,b2⟩;obtain⟨mo,mc,hu⟩:=r2.shape;subst hu;have v2:=v0.l b2;have b02:=aa b0 b2;clear y0 y1 y2 y3 y4 y5 y6 y7 d0 v0 b0 b2;have cR:au ((((w2.setCell ⟨w.heap.size+1,0,none⟩ (yi 2)).setCell ⟨w.heap.size+1,1,none⟩ (.bool ng)).setCell ⟨w.heap.size+1,2,none⟩ (yT mo m mc)).setCell ⟨w.heap.size+1,3,none⟩ (yi G)) (w.heap.size+1) 68 (yvL 2 ng (yT mo m mc) G):=((((v2.set 0 (yi 2)).set 1 (.bool ng)).set 2 (yT mo m mc)).set 3 (yi G));have bu:=(((ag w2 (w.heap.size+1) 0 (yi 2)).trans (ag _ (w.heap.size+1) 1 (.bool ng))).trans (ag _ (w.heap.size+1) 2 (yT mo m mc))).trans (ag _ (w.heap.size+1) 3 (yi G));have bR:=bu.below b02 (by omega);have rR:=bu.rd r2 (aX r2 v2 (by simp));have hl:=run_loadVar_mid (P:=Tryz.prog) _ (w.heap.size+1) 0 68 (yvL 2 ng (yT mo m mc) G) _ cR.range underlying68 rfl (by kernel_rfl);have HH:Hid (_∧_∧_):=⟨hl,rR,bR⟩;obtain⟨z0,z1,z2,z3⟩:=v2.cs4;have fz0:=v2.f 0;have fz1:=v2.f 1;have fz2:=v2.f 2;have fz3:=v2.f 3;clear hl bR bu cR rR;clear v2 b02 r2
 go_wp2
 obtain⟨hl,rR,bR⟩:=HH.out;exact bodyPost_ret (br results110 rfl hl) rfl ⟨_,rfl,rR,bR⟩
end Go.Proofs.YtddkchlamdhgcaaGreatDoor

/-
  Texts laid together: Dy2, Lk, Dr1, Aw0, Co6, Co5, Cr1, Cr2, Cr4, Dp1c.
-/
import Derived.Test.YtddkchlamdhgcaaGreatDoorSu06
import Derived.Test.YtddkchlamdhgcaaGreatDoorSu09
set_option maxRecDepth 100000
set_option maxHeartbeats 6400000
namespace Go.Proofs.YtddkchlamdhgcaaGreatDoor
open _root_.Go.Proofs.Tryz
open Go.RowKit
theorem Dv.l {w w':World}{v:Value}{t:ak}(h:Dv w v t)(hb:yB w w'):Dv w' v t:=by
 obtain⟨s,hv,hr⟩:=h;exact⟨s,hv,hr.l hb⟩
theorem Loc.l {w w':World}{b:Nat}{v0 v1 v2:Value}(h:Loc w b v0 v1 v2)(hb:yB w w'):Loc w' b v0 v1 v2:=by
 obtain⟨hl,⟨c0,c1,c2⟩,f0,f1,f2⟩:=h;have hk:=hb.block b hl;refine⟨Nat.lt_of_lt_of_le hl hb.size,⟨cell_later hb c0,cell_later hb c1,cell_later hb c2⟩, ?_, ?_, ?_⟩
 ·rw[World.frozen?_of_block (w:=w) (a:=⟨b,0,none⟩) hk];exact f0
 ·rw[World.frozen?_of_block (w:=w) (a:=⟨b,1,none⟩) hk];exact f1
 ·rw[World.frozen?_of_block (w:=w) (a:=⟨b,2,none⟩) hk];exact f2
theorem au.l {w w':World}{b:Nat}{ty:TypeId}{vs:List Value}(h:au w b ty vs)(hb:yB w w'):au w' b ty vs:=(hb.block b h.lt).trans h
theorem au.drew {w:World}{b:Nat}{ty:TypeId}{vs:List Value}(h:au w b ty vs):au w.drew b ty vs:=h.l (Below.refl _ _).drew
theorem Rv.l {w w':World}{v:Value}{t:ak}(h:Rv w v t)(hb:yB w w'):Rv w' v t:=by
 obtain⟨s,hv,hr⟩:=h;exact⟨s,hv,hr.l hb⟩
theorem ZB.l {w w':World}{b:Nat}(h:ZB w b)(hb:yB w w'):ZB w' b:=by
 obtain⟨hl,ty,hh⟩:=h;exact⟨Nat.lt_of_lt_of_le hl hb.size,ty,(hb.block b hl).trans hh⟩
theorem iG (w:World)(c0:List Value)(t0:TypeId)(c1:List Value)(t1:TypeId): ∃W,(w.alloc (.cells c0.toArray t0)).alloc (.cells c1.toArray t1)=W∧au W w.heap.size t0 c0∧au W (w.heap.size+1) t1 c1∧yB w W:=by
 obtain⟨W,rfl,h0,b0⟩:=cA w c0 t0;have h1:=ah (w.alloc (.cells c0.toArray t0)) c1 t1;have b1:=af (w.alloc (.cells c0.toArray t0)) (.cells c1.toArray t1);rw[World.size_alloc] at h1;exact⟨_,rfl,h0.l b1,h1,aa b0 b1⟩
theorem lG (w:World)(c0:List Value)(t0:TypeId)(c1:List Value)(t1:TypeId)(c2:List Value)(t2:TypeId): ∃W,((w.alloc (.cells c0.toArray t0)).alloc (.cells c1.toArray t1)).alloc (.cells c2.toArray t2)=W∧au W w.heap.size t0 c0∧au W (w.heap.size+1) t1 c1∧au W (w.heap.size+1+1) t2 c2∧yB w W:=by
 obtain⟨W,rfl,h0,h1,b0⟩:=iG w c0 t0 c1 t1;have h2:=ah ((w.alloc (.cells c0.toArray t0)).alloc (.cells c1.toArray t1)) c2 t2;have b2:=af ((w.alloc (.cells c0.toArray t0)).alloc (.cells c1.toArray t1)) (.cells c2.toArray t2);rw[World.size_alloc,World.size_alloc] at h2;exact⟨_,rfl,h0.l b2,h1.l b2,h2,aa b0 b2⟩
theorem ik.l {w w':World}{g:Nat}{zs:List Nat}(h:ik w g zs)(hb:yB w w'):ik w' g zs:=
 ⟨fun i hi=>cell_later hb (h.c i hi),fun i hi=>(Eu (hb.block g h.lt)).trans (h.f i hi),Nat.lt_of_lt_of_le h.lt hb.size⟩
theorem ik.drew {w:World}{g:Nat}{zs:List Nat}(h:ik w g zs):ik w.drew g zs:=h.l (Below.refl _ _).drew
theorem Ly (w:World):yC 18 #[yi 1] w (yR w (.tuple #[yhV 4 8 23 2 24 (-149) 104 true 1,.bool true])):=by
 have HT:Hid (yJ 46 #[yi 4,yi 8,yi 23,yi 24,yi (-149),yi 104,yi 1] (yhV 4 8 23 2 24 (-149) 104 true 1)):=fun w1=>nD _ _ _ _ _ _ _ w1
 have l0:=ah w (yhL 0 0 0 0 0 0 0 false 0) 51;have b0:=af w (.cells (yhA 0 0 0 0 0 0 0 false 0) 51)
 go_enter func18,ntmps18
 go_wp2_with fail
 refine(HT.out _).mono ?_;rintro z w2 ⟨rfl,b2⟩;have l2:=l0.l b2;have cR:au (((((((((w2.setCell ⟨w.heap.size,0,none⟩ (yi 4)).setCell ⟨w.heap.size,1,none⟩ (yi 8)).setCell ⟨w.heap.size,2,none⟩ (yi 23)).setCell ⟨w.heap.size,3,none⟩ (yi 2)).setCell ⟨w.heap.size,4,none⟩ (yi 24)).setCell ⟨w.heap.size,5,none⟩ (yi (-149))).setCell ⟨w.heap.size,6,none⟩ (yi 104)).setCell ⟨w.heap.size,7,none⟩ (.bool true)).setCell ⟨w.heap.size,8,none⟩ (yi 1)) w.heap.size 51 (yhL 4 8 23 2 24 (-149) 104 true 1):=(((((((((l2.set 0 (yi 4)).set 1 (yi 8)).set 2 (yi 23)).set 3 (yi 2)).set 4 (yi 24)).set 5 (yi (-149))).set 6 (yi 104)).set 7 (.bool true)).set 8 (yi 1));have bR:=(((((((((ag w2 w.heap.size 0 (yi 4)).trans (ag _ w.heap.size 1 (yi 8))).trans (ag _ w.heap.size 2 (yi 23))).trans (ag _ w.heap.size 3 (yi 2))).trans (ag _ w.heap.size 4 (yi 24))).trans (ag _ w.heap.size 5 (yi (-149)))).trans (ag _ w.heap.size 6 (yi 104))).trans (ag _ w.heap.size 7 (.bool true))).trans (ag _ w.heap.size 8 (yi 1))).below (aa b0 b2) (Nat.le_refl _);have hl:=run_loadVar_mid (P:=Tryz.prog) _ w.heap.size 0 51 (yhL 4 8 23 2 24 (-149) 104 true 1) _ cR.range underlying51 rfl (by kernel_rfl);have HH:Hid (_∧_):=⟨hl,bR⟩;have x0:=l2.c 0 rfl;have f0:=l2.f 0;have x1:=l2.c 1 rfl;have f1:=l2.f 1;have x2:=l2.c 2 rfl;have f2:=l2.f 2;have x3:=l2.c 3 rfl;have f3:=l2.f 3;have x4:=l2.c 4 rfl;have f4:=l2.f 4;have x5:=l2.c 5 rfl;have f5:=l2.f 5;have x6:=l2.c 6 rfl;have f6:=l2.f 6;have x7:=l2.c 7 rfl;have f7:=l2.f 7;have x8:=l2.c 8 rfl;have f8:=l2.f 8;clear hl bR cR l0 l2 b0 b2 HT
 go_wp2
 obtain⟨hl,bR⟩:=HH.out;exact bodyPost_ret (aj results18 rfl rfl hl) rfl ⟨rfl,bR⟩
theorem Lz (w:World):yC 18 #[yi 2] w (yR w (.tuple #[yhV 8 11 52 2 53 (-1074) 971 true 1,.bool true])):=by
 have HT:Hid (yJ 46 #[yi 8,yi 11,yi 52,yi 53,yi (-1074),yi 971,yi 1] (yhV 8 11 52 2 53 (-1074) 971 true 1)):=fun w1=>nD _ _ _ _ _ _ _ w1
 have l0:=ah w (yhL 0 0 0 0 0 0 0 false 0) 51;have b0:=af w (.cells (yhA 0 0 0 0 0 0 0 false 0) 51)
 go_enter func18,ntmps18
 go_wp2_with fail
 refine(HT.out _).mono ?_;rintro z w2 ⟨rfl,b2⟩;have l2:=l0.l b2;have cR:au (((((((((w2.setCell ⟨w.heap.size,0,none⟩ (yi 8)).setCell ⟨w.heap.size,1,none⟩ (yi 11)).setCell ⟨w.heap.size,2,none⟩ (yi 52)).setCell ⟨w.heap.size,3,none⟩ (yi 2)).setCell ⟨w.heap.size,4,none⟩ (yi 53)).setCell ⟨w.heap.size,5,none⟩ (yi (-1074))).setCell ⟨w.heap.size,6,none⟩ (yi 971)).setCell ⟨w.heap.size,7,none⟩ (.bool true)).setCell ⟨w.heap.size,8,none⟩ (yi 1)) w.heap.size 51 (yhL 8 11 52 2 53 (-1074) 971 true 1):=(((((((((l2.set 0 (yi 8)).set 1 (yi 11)).set 2 (yi 52)).set 3 (yi 2)).set 4 (yi 53)).set 5 (yi (-1074))).set 6 (yi 971)).set 7 (.bool true)).set 8 (yi 1));have bR:=(((((((((ag w2 w.heap.size 0 (yi 8)).trans (ag _ w.heap.size 1 (yi 11))).trans (ag _ w.heap.size 2 (yi 52))).trans (ag _ w.heap.size 3 (yi 2))).trans (ag _ w.heap.size 4 (yi 53))).trans (ag _ w.heap.size 5 (yi (-1074)))).trans (ag _ w.heap.size 6 (yi 971))).trans (ag _ w.heap.size 7 (.bool true))).trans (ag _ w.heap.size 8 (yi 1))).below (aa b0 b2) (Nat.le_refl _);have hl:=run_loadVar_mid (P:=Tryz.prog) _ w.heap.size 0 51 (yhL 8 11 52 2 53 (-1074) 971 true 1) _ cR.range underlying51 rfl (by kernel_rfl);have HH:Hid (_∧_):=⟨hl,bR⟩;have x0:=l2.c 0 rfl;have f0:=l2.f 0;have x1:=l2.c 1 rfl;have f1:=l2.f 1;have x2:=l2.c 2 rfl;have f2:=l2.f 2;have x3:=l2.c 3 rfl;have f3:=l2.f 3;have x4:=l2.c 4 rfl;have f4:=l2.f 4;have x5:=l2.c 5 rfl;have f5:=l2.f 5;have x6:=l2.c 6 rfl;have f6:=l2.f 6;have x7:=l2.c 7 rfl;have f7:=l2.f 7;have x8:=l2.c 8 rfl;have f8:=l2.f 8;clear hl bR cR l0 l2 b0 b2 HT
 go_wp2
 obtain⟨hl,bR⟩:=HH.out;exact bodyPost_ret (aj results18 rfl rfl hl) rfl ⟨rfl,bR⟩
theorem LA (w:World):yC 18 #[yi 3] w (yR w (.tuple #[yhV 10 15 64 2 64 (-16445) 16320 true 1,.bool true])):=by
 have HT:Hid (yJ 46 #[yi 10,yi 15,yi 64,yi 64,yi (-16445),yi 16320,yi 1] (yhV 10 15 64 2 64 (-16445) 16320 true 1)):=fun w1=>nD _ _ _ _ _ _ _ w1
 have l0:=ah w (yhL 0 0 0 0 0 0 0 false 0) 51;have b0:=af w (.cells (yhA 0 0 0 0 0 0 0 false 0) 51)
 go_enter func18,ntmps18
 go_wp2_with fail
 refine(HT.out _).mono ?_;rintro z w2 ⟨rfl,b2⟩;have l2:=l0.l b2;have cR:au (((((((((w2.setCell ⟨w.heap.size,0,none⟩ (yi 10)).setCell ⟨w.heap.size,1,none⟩ (yi 15)).setCell ⟨w.heap.size,2,none⟩ (yi 64)).setCell ⟨w.heap.size,3,none⟩ (yi 2)).setCell ⟨w.heap.size,4,none⟩ (yi 64)).setCell ⟨w.heap.size,5,none⟩ (yi (-16445))).setCell ⟨w.heap.size,6,none⟩ (yi 16320)).setCell ⟨w.heap.size,7,none⟩ (.bool true)).setCell ⟨w.heap.size,8,none⟩ (yi 1)) w.heap.size 51 (yhL 10 15 64 2 64 (-16445) 16320 true 1):=(((((((((l2.set 0 (yi 10)).set 1 (yi 15)).set 2 (yi 64)).set 3 (yi 2)).set 4 (yi 64)).set 5 (yi (-16445))).set 6 (yi 16320)).set 7 (.bool true)).set 8 (yi 1));have bR:=(((((((((ag w2 w.heap.size 0 (yi 10)).trans (ag _ w.heap.size 1 (yi 15))).trans (ag _ w.heap.size 2 (yi 64))).trans (ag _ w.heap.size 3 (yi 2))).trans (ag _ w.heap.size 4 (yi 64))).trans (ag _ w.heap.size 5 (yi (-16445)))).trans (ag _ w.heap.size 6 (yi 16320))).trans (ag _ w.heap.size 7 (.bool true))).trans (ag _ w.heap.size 8 (yi 1))).below (aa b0 b2) (Nat.le_refl _);have hl:=run_loadVar_mid (P:=Tryz.prog) _ w.heap.size 0 51 (yhL 10 15 64 2 64 (-16445) 16320 true 1) _ cR.range underlying51 rfl (by kernel_rfl);have HH:Hid (_∧_):=⟨hl,bR⟩;have x0:=l2.c 0 rfl;have f0:=l2.f 0;have x1:=l2.c 1 rfl;have f1:=l2.f 1;have x2:=l2.c 2 rfl;have f2:=l2.f 2;have x3:=l2.c 3 rfl;have f3:=l2.f 3;have x4:=l2.c 4 rfl;have f4:=l2.f 4;have x5:=l2.c 5 rfl;have f5:=l2.f 5;have x6:=l2.c 6 rfl;have f6:=l2.f 6;have x7:=l2.c 7 rfl;have f7:=l2.f 7;have x8:=l2.c 8 rfl;have f8:=l2.f 8;clear hl bR cR l0 l2 b0 b2 HT
 go_wp2
 obtain⟨hl,bR⟩:=HH.out;exact bodyPost_ret (aj results18 rfl rfl hl) rfl ⟨rfl,bR⟩
theorem LE (w:World):yC 18 #[yi 6] w (yR w (.tuple #[yhV 4 8 23 2 24 (-151) 103 false 3,.bool true])):=by
 have HT:Hid (yJ 46 #[yi 4,yi 8,yi 23,yi 24,yi (-151),yi 103,yi 3] (yhV 4 8 23 2 24 (-151) 103 false 3)):=fun w1=>nD _ _ _ _ _ _ _ w1
 have l0:=ah w (yhL 0 0 0 0 0 0 0 false 0) 51;have b0:=af w (.cells (yhA 0 0 0 0 0 0 0 false 0) 51)
 go_enter func18,ntmps18
 go_wp2_with fail
 refine(HT.out _).mono ?_;rintro z w2 ⟨rfl,b2⟩;have l2:=l0.l b2;have cR:au (((((((((w2.setCell ⟨w.heap.size,0,none⟩ (yi 4)).setCell ⟨w.heap.size,1,none⟩ (yi 8)).setCell ⟨w.heap.size,2,none⟩ (yi 23)).setCell ⟨w.heap.size,3,none⟩ (yi 2)).setCell ⟨w.heap.size,4,none⟩ (yi 24)).setCell ⟨w.heap.size,5,none⟩ (yi (-151))).setCell ⟨w.heap.size,6,none⟩ (yi 103)).setCell ⟨w.heap.size,7,none⟩ (.bool false)).setCell ⟨w.heap.size,8,none⟩ (yi 3)) w.heap.size 51 (yhL 4 8 23 2 24 (-151) 103 false 3):=(((((((((l2.set 0 (yi 4)).set 1 (yi 8)).set 2 (yi 23)).set 3 (yi 2)).set 4 (yi 24)).set 5 (yi (-151))).set 6 (yi 103)).set 7 (.bool false)).set 8 (yi 3));have bR:=(((((((((ag w2 w.heap.size 0 (yi 4)).trans (ag _ w.heap.size 1 (yi 8))).trans (ag _ w.heap.size 2 (yi 23))).trans (ag _ w.heap.size 3 (yi 2))).trans (ag _ w.heap.size 4 (yi 24))).trans (ag _ w.heap.size 5 (yi (-151)))).trans (ag _ w.heap.size 6 (yi 103))).trans (ag _ w.heap.size 7 (.bool false))).trans (ag _ w.heap.size 8 (yi 3))).below (aa b0 b2) (Nat.le_refl _);have hl:=run_loadVar_mid (P:=Tryz.prog) _ w.heap.size 0 51 (yhL 4 8 23 2 24 (-151) 103 false 3) _ cR.range underlying51 rfl (by kernel_rfl);have HH:Hid (_∧_):=⟨hl,bR⟩;have x0:=l2.c 0 rfl;have f0:=l2.f 0;have x1:=l2.c 1 rfl;have f1:=l2.f 1;have x2:=l2.c 2 rfl;have f2:=l2.f 2;have x3:=l2.c 3 rfl;have f3:=l2.f 3;have x4:=l2.c 4 rfl;have f4:=l2.f 4;have x5:=l2.c 5 rfl;have f5:=l2.f 5;have x6:=l2.c 6 rfl;have f6:=l2.f 6;have x7:=l2.c 7 rfl;have f7:=l2.f 7;have x8:=l2.c 8 rfl;have f8:=l2.f 8;clear hl bR cR l0 l2 b0 b2 HT
 go_wp2
 obtain⟨hl,bR⟩:=HH.out;exact bodyPost_ret (aj results18 rfl rfl hl) rfl ⟨rfl,bR⟩
theorem LF (w:World):yC 18 #[yi 7] w (yR w (.tuple #[yhV 8 8 55 2 56 (-183) 71 false 3,.bool true])):=by
 have HT:Hid (yJ 46 #[yi 8,yi 8,yi 55,yi 56,yi (-183),yi 71,yi 3] (yhV 8 8 55 2 56 (-183) 71 false 3)):=fun w1=>nD _ _ _ _ _ _ _ w1
 have l0:=ah w (yhL 0 0 0 0 0 0 0 false 0) 51;have b0:=af w (.cells (yhA 0 0 0 0 0 0 0 false 0) 51)
 go_enter func18,ntmps18
 go_wp2_with fail
 refine(HT.out _).mono ?_;rintro z w2 ⟨rfl,b2⟩;have l2:=l0.l b2;have cR:au (((((((((w2.setCell ⟨w.heap.size,0,none⟩ (yi 8)).setCell ⟨w.heap.size,1,none⟩ (yi 8)).setCell ⟨w.heap.size,2,none⟩ (yi 55)).setCell ⟨w.heap.size,3,none⟩ (yi 2)).setCell ⟨w.heap.size,4,none⟩ (yi 56)).setCell ⟨w.heap.size,5,none⟩ (yi (-183))).setCell ⟨w.heap.size,6,none⟩ (yi 71)).setCell ⟨w.heap.size,7,none⟩ (.bool false)).setCell ⟨w.heap.size,8,none⟩ (yi 3)) w.heap.size 51 (yhL 8 8 55 2 56 (-183) 71 false 3):=(((((((((l2.set 0 (yi 8)).set 1 (yi 8)).set 2 (yi 55)).set 3 (yi 2)).set 4 (yi 56)).set 5 (yi (-183))).set 6 (yi 71)).set 7 (.bool false)).set 8 (yi 3));have bR:=(((((((((ag w2 w.heap.size 0 (yi 8)).trans (ag _ w.heap.size 1 (yi 8))).trans (ag _ w.heap.size 2 (yi 55))).trans (ag _ w.heap.size 3 (yi 2))).trans (ag _ w.heap.size 4 (yi 56))).trans (ag _ w.heap.size 5 (yi (-183)))).trans (ag _ w.heap.size 6 (yi 71))).trans (ag _ w.heap.size 7 (.bool false))).trans (ag _ w.heap.size 8 (yi 3))).below (aa b0 b2) (Nat.le_refl _);have hl:=run_loadVar_mid (P:=Tryz.prog) _ w.heap.size 0 51 (yhL 8 8 55 2 56 (-183) 71 false 3) _ cR.range underlying51 rfl (by kernel_rfl);have HH:Hid (_∧_):=⟨hl,bR⟩;have x0:=l2.c 0 rfl;have f0:=l2.f 0;have x1:=l2.c 1 rfl;have f1:=l2.f 1;have x2:=l2.c 2 rfl;have f2:=l2.f 2;have x3:=l2.c 3 rfl;have f3:=l2.f 3;have x4:=l2.c 4 rfl;have f4:=l2.f 4;have x5:=l2.c 5 rfl;have f5:=l2.f 5;have x6:=l2.c 6 rfl;have f6:=l2.f 6;have x7:=l2.c 7 rfl;have f7:=l2.f 7;have x8:=l2.c 8 rfl;have f8:=l2.f 8;clear hl bR cR l0 l2 b0 b2 HT
 go_wp2
 obtain⟨hl,bR⟩:=HH.out;exact bodyPost_ret (aj results18 rfl rfl hl) rfl ⟨rfl,bR⟩
theorem LH (w:World):yC 18 #[yi 8] w (yR w (.tuple #[yhV 8 11 52 2 53 (-1076) 970 false 3,.bool true])):=by
 have HT:Hid (yJ 46 #[yi 8,yi 11,yi 52,yi 53,yi (-1076),yi 970,yi 3] (yhV 8 11 52 2 53 (-1076) 970 false 3)):=fun w1=>nD _ _ _ _ _ _ _ w1
 have l0:=ah w (yhL 0 0 0 0 0 0 0 false 0) 51;have b0:=af w (.cells (yhA 0 0 0 0 0 0 0 false 0) 51)
 go_enter func18,ntmps18
 go_wp2_with fail
 refine(HT.out _).mono ?_;rintro z w2 ⟨rfl,b2⟩;have l2:=l0.l b2;have cR:au (((((((((w2.setCell ⟨w.heap.size,0,none⟩ (yi 8)).setCell ⟨w.heap.size,1,none⟩ (yi 11)).setCell ⟨w.heap.size,2,none⟩ (yi 52)).setCell ⟨w.heap.size,3,none⟩ (yi 2)).setCell ⟨w.heap.size,4,none⟩ (yi 53)).setCell ⟨w.heap.size,5,none⟩ (yi (-1076))).setCell ⟨w.heap.size,6,none⟩ (yi 970)).setCell ⟨w.heap.size,7,none⟩ (.bool false)).setCell ⟨w.heap.size,8,none⟩ (yi 3)) w.heap.size 51 (yhL 8 11 52 2 53 (-1076) 970 false 3):=(((((((((l2.set 0 (yi 8)).set 1 (yi 11)).set 2 (yi 52)).set 3 (yi 2)).set 4 (yi 53)).set 5 (yi (-1076))).set 6 (yi 970)).set 7 (.bool false)).set 8 (yi 3));have bR:=(((((((((ag w2 w.heap.size 0 (yi 8)).trans (ag _ w.heap.size 1 (yi 11))).trans (ag _ w.heap.size 2 (yi 52))).trans (ag _ w.heap.size 3 (yi 2))).trans (ag _ w.heap.size 4 (yi 53))).trans (ag _ w.heap.size 5 (yi (-1076)))).trans (ag _ w.heap.size 6 (yi 970))).trans (ag _ w.heap.size 7 (.bool false))).trans (ag _ w.heap.size 8 (yi 3))).below (aa b0 b2) (Nat.le_refl _);have hl:=run_loadVar_mid (P:=Tryz.prog) _ w.heap.size 0 51 (yhL 8 11 52 2 53 (-1076) 970 false 3) _ cR.range underlying51 rfl (by kernel_rfl);have HH:Hid (_∧_):=⟨hl,bR⟩;have x0:=l2.c 0 rfl;have f0:=l2.f 0;have x1:=l2.c 1 rfl;have f1:=l2.f 1;have x2:=l2.c 2 rfl;have f2:=l2.f 2;have x3:=l2.c 3 rfl;have f3:=l2.f 3;have x4:=l2.c 4 rfl;have f4:=l2.f 4;have x5:=l2.c 5 rfl;have f5:=l2.f 5;have x6:=l2.c 6 rfl;have f6:=l2.f 6;have x7:=l2.c 7 rfl;have f7:=l2.f 7;have x8:=l2.c 8 rfl;have f8:=l2.f 8;clear hl bR cR l0 l2 b0 b2 HT
 go_wp2
 obtain⟨hl,bR⟩:=HH.out;exact bodyPost_ret (aj results18 rfl rfl hl) rfl ⟨rfl,bR⟩
theorem qU (k:Nat)(hk:1≤k∧k≤8)(w:World):yC 18 #[yi k] w (yR w (.tuple #[.agg (afl k).toArray,.bool true])):=by
 rcases bO hk with rfl|rfl|rfl|rfl|rfl|rfl|rfl|rfl
 ·exact Ly w
 ·exact Lz w
 ·exact LA w
 ·exact LC w
 ·exact LD w
 ·exact LE w
 ·exact LF w
 ·exact LH w
theorem IF (k:Nat)(hk:1≤k∧k≤8)(i:Nat)(hi:i<szN k)(w:World):yC 73 #[yi k,yi i] w (yR w (yi ((plN k i:Nat):Int))):=by
 have HF:=fun w1=>qU k hk w1
 have hsz:=(fZ hk).2.2.1;have key: ∀x:Int,((plN k i:Nat):Int)=x→yC 73 #[yi k,yi i] w ((yR w (yi x)))→yC 73 #[yi k,yi i] w ((yR w (yi ((plN k i:Nat):Int)))):=fun x hx h=>by rw[hx];exact h
 rcases bO hk with rfl|rfl|rfl|rfl|rfl|rfl|rfl|rfl
 ·exact key _ (by unfold plN;simp) (sM _ _ _ _ _ _ _ _ _ _ i w hi hsz HF)
 ·exact key _ (by unfold plN;simp) (sM _ _ _ _ _ _ _ _ _ _ i w hi hsz HF)
 ·exact key _ (by unfold plN;simp only[szN] at hi⊢;simp;omega) (sM _ _ _ _ _ _ _ _ _ _ i w hi hsz HF)
 ·exact key _ (by unfold plN;simp) (sM _ _ _ _ _ _ _ _ _ _ i w hi hsz HF)
 ·exact key _ (by unfold plN;simp) (sM _ _ _ _ _ _ _ _ _ _ i w hi hsz HF)
 ·exact key _ (by unfold plN;simp;omega) (sM _ _ _ _ _ _ _ _ _ _ i w hi hsz HF)
 ·exact key _ (by unfold plN;simp;omega) (sM _ _ _ _ _ _ _ _ _ _ i w hi hsz HF)
 ·exact key _ (by unfold plN;simp;omega) (sM _ _ _ _ _ _ _ _ _ _ i w hi hsz HF)
def jp (w:World)(base:Nat)(v:Value)(bs:List Bool):Prop:=w.ownsRow base 4 1 v bs.length (bs.map Value.bool)
theorem Tryz.infoB:(Tryz.prog.info? 4).map (fun i=>(i.zero,i.size,i.bytes))=some (some (.bool false),1,1):=by kernel_rfl
def qV (ts:List Nat):Nat→List Bool
 |0=>[]
 |n+1=>qV ts n++[decide (fU ts n=1)]
theorem kS (ts:List Nat): ∀n,(qV ts n).length=n
 |0=>rfl
 |n+1=>by rw[qV,List.length_append,kS ts n];rfl
theorem wW (ts:List Nat): ∀n i,i<n→(qV ts n)[i]? =some (decide (fU ts i=1))
 |0,_,h=>absurd h (Nat.not_lt_zero _)
 |n+1,i,h=>by
  rw[qV]
  by_cases hi:i<n
  ·rw[List.getElem?_append_left (by rw[kS];exact hi)]
   exact wW ts n i hi
  ·have:i=n:=by omega
   subst this;rw[List.getElem?_append_right (by rw[kS];exact Nat.le_refl _),kS,Nat.sub_self];rfl
theorem Mu {P:Program}(t:TypeId)(s:ByteArray)(p:Nat)(h:P.underlying t=some .string)(hp:p<s.size)(W:World):
  (Instr.index t (.string s) (yi p)).run P W= .ok (.int .u8 (((jr s).getD p 0:Nat):Int)) W:=by
 rw[run_index_string W t s .i64 p h,dif_pos ⟨by omega,by omega⟩]
 congr 2
 have hp':p<s.data.size:=hp;rw[jr,List.getD_eq_getElem?_getD,List.getElem?_map,Array.getElem?_toList,Array.getElem?_eq_getElem hp'];rfl
theorem Mv {w wr w3:World}{x:Bool}{es:List Bool}{lv v':Value}(bel:yB w wr)(ownL:jp wr w.heap.size lv es)
  (hown':w3.ownsRow w.heap.size 4 1 v' (es.length+1) ((es.map Value.bool)++[.bool x]))
  (hgrow:(wr.alloc (.cells #[.bool x] 4)).grownBy w3 lv.ownBlock):
  jp w3 w.heap.size v' (es++[x])∧yB w w3:=by
 have b1:yB wr (wr.alloc (.cells #[.bool x] 4)):=(Below.refl _ _).alloc (Nat.le_refl _) _;refine⟨?_, ?_⟩
 ·unfold jp
  simpa using hown'
 ·refine(aa bel b1).grown hgrow (Nat.le_trans bel.size b1.size) (fun k hk=> ?_)
  exact(World.ownsRow.lt ownL k hk).1
theorem jp.l {w w':World}{base:Nat}{v:Value}{bs:List Bool}(h:jp w base v bs)(hb:yB w w'):jp w' base v bs:=by
 obtain⟨hl,h2⟩:=h;refine⟨hl, ?_⟩
 rcases h2 with h2| ⟨g,cap,cur,hv,hbg,hh,r⟩
 ·exact .inl h2
 ·refine .inr ⟨g,cap,cur,hv,hbg, ?_,r⟩
  rw[hb.block g ?_]
  ·exact hh
  ·rw[Array.getElem?_eq_some_iff] at hh
   exact hh.1
theorem T7: ∀j,j<8→2^ (7-j)/2=if j+1<8 then 2^ (7-(j+1)) else 0:=by decide
theorem P3 (k:Nat)(hk:1≤k∧k≤8)(s:ByteArray)(w:World)(hs:s.size=szN k):
  yC 47 #[yi k,.string s] w fun z w'=> ∃v,z= .returned v∧jp w' w.heap.size v (qV (wG k s) (8*szN k))∧yB w w':=by
 obtain⟨i0,hi,hz0,hz1,hz2⟩:=info_parts Tryz.infoB;have HP:Hid (∀(i:Nat) w1,i<szN k→yC 73 #[yi k,yi i] w1 (yR w1 (yi ((plN k i:Nat):Int)))):=fun i w1 h=>IF k hk i h w1
 have HX:Hid (∀p W,p<s.size→(Instr.index 9 (.string s) (yi (p:Int))).run Tryz.prog W= .ok (.int .u8 (((jr s).getD p 0:Nat):Int)) W):=fun p W h=>Mu 9 s p underlying9 h W
 have HT:Hid (∀i,i<szN k→(wG k s).getD i 0=(jr s).getD (plN k i) 0∧plN k i<szN k):=fun i h=>⟨Kh k _ i (by rw[oV,hs]) (by rw[oV,hs];exact h),Co hk h⟩
 have hsm:=xi k _ (zU s);have HSM:Hid (Dg.Small 256 (wG k s)):=hsm;have hsz:=(fZ hk).2.2.1;obtain⟨sz,esz⟩: ∃x,szN k=x:=⟨_,rfl⟩;obtain⟨ts,ets⟩: ∃x,wG k s=x:=⟨_,rfl⟩;rw[esz] at HP HT hsz hs⊢;rw[ets] at HT HSM⊢;clear hsm esz ets hk
 go_enter func47,ntmps47
 go_wp2
 go_loopw [5,6] (fun ov iv wr=> ∃i:Nat,i≤sz∧iv=yi i∧jp wr w.heap.size ov (qV ts (8*i))∧yB w wr) (fun _ iv _=>sz-(intOf iv).toNat)
 case atStart=>exact⟨0,by omega,rfl,World.ownsRow_nil _ _ _ 1,Below.refl _ _⟩
 case round=>
  obtain⟨i,hi1,rfl,own,bel⟩:=hrel
  by_cases hlt:i<sz
  ·have hx:=HX.out (plN k i)
   obtain⟨ht1,ht2⟩:=HT.out i hlt;have hx:=fun W=>HX.out (plN k i) W (by omega)
   rw[←ht1] at hx;have hc:=HSM.out i;obtain⟨c,ec⟩: ∃c,ts.getD i 0=c:=⟨_,rfl⟩;obtain⟨pp,ep⟩: ∃c,plN k i=c:=⟨_,rfl⟩;have hp:=fun w1=>HP.out i w1 hlt
   rw[ep] at hx hp;rw[ec] at hx hc;have HPP:Hid _:=hp;have HC:Hid (ts.getD i 0=c):=ec;have hwc:IntKind.i64.wrap (c:Int)=(c:Int):=IntWalk.i64_in _ ⟨by omega,by omega⟩;clear hp ht1 ht2 ep ec
   go_wp2_with fail
   refine(HPP.out _).mono ?_;rintro z w2 ⟨rfl,b2⟩;have own2:=own.l b2;have bel2:=aa bel b2;clear own bel b2 HPP
   go_wp2
   go_loopw [5,8] (fun ov kv wr=> ∃j kk:Nat,j≤8∧Hid (kk=if j<8 then 2^ (7-j) else 0)∧kv=yi (kk:Int)∧kk≤128∧jp wr w.heap.size ov (qV ts (8*i+j))∧yB w wr) (fun _ kv _=>(intOf kv).toNat)
   case atStart=>exact⟨0,128,by omega,rfl,rfl,by omega,own2,bel2⟩
   case round=>
    obtain⟨j,kk,hj,HK,rfl,hkl,own,bel⟩:=hrel
    by_cases hj8:j<8
    ·have hkk:kk=2^ (7-j):=by have:=HK.out;rwa [if_pos hj8] at this
     have hk0:0<kk:=by rw[hkk];exact Nat.pow_pos (by omega)
     obtain⟨b,eb⟩: ∃b,decide (fU ts (8*i+j)=1)=b:=⟨_,rfl⟩;have hbit:fU ts (8*i+j)=c/kk % 2:=by
      unfold fU;rw[show(8*i+j)/8=i from by omega,show(8*i+j) % 8=j from by omega,HC.out,hkk]
     have hsu:qV ts (8*i+(j+1))=qV ts (8*i+j)++[b]:=by rw[←eb,show 8*i+(j+1)=8*i+j+1 from by omega];rfl
     obtain⟨r,er⟩: ∃r,c/kk % 2=r:=⟨_,rfl⟩;obtain⟨q,eq⟩: ∃q,c/kk=q:=⟨_,rfl⟩;have hqI:(c:Int)/(kk:Int)=(q:Int):=by rw[←eq];exact(Int.natCast_ediv c kk).symm
     have hql:q<256:=by rw[←eq];exact Nat.lt_of_le_of_lt (Nat.div_le_self _ _) hc
     have hrI:(q:Int) % 2=(r:Int):=by rw[←er,eq];omega
     have hbI:((r:Int)==1)=b:=by
      rw[←eb,hbit,er]
      by_cases h:r=1
      ·subst h;rfl
      ·rw[decide_eq_false h];simp;omega
     have hkI:((kk:Int) != 0)=true:=by rw[bne_iff_ne];omega
     have hhf:(kk:Int)/2=((kk/2:Nat):Int):=by omega
     have hst:=T7 j hj8;rw[←hkk] at hst;have HST:Hid (_∧_):=⟨hst,hsu⟩;have hlen:=kS ts (8*i+j);obtain⟨es,ees⟩: ∃es,qV ts (8*i+j)=es:=⟨_,rfl⟩;rw[ees] at own hlen HST;have hel:es.length≤200:=by omega
     obtain⟨kh,ekh⟩: ∃x,kk/2=x:=⟨_,rfl⟩;rw[ekh] at hhf HST;have hkh:kh<kk:=by omega
     have hbs:=bel.size;clear eb hbit hsu er eq hst hlen ees ekh hkk HK
     go_wp2_with (at_builtin;refine wpList_append_own _ rfl _ _ 102 rfl w.heap.size 4 i0 (.bool false) 1 1 underlying102 hi hz0 hz1 hz2 rfl (by decide) _ _ _ rfl (World.ownsRow.alloc own _) ⟨wr.heap.size,0,none⟩ 1 1 [.bool b] rfl rfl ?c1 ?c2 ?c3 ?c4 ?c5 ?_)
     case c1=>exact cell_one_new _ _ _
     case c2=>intro u hu;simp at hu;subst hu;rfl
     case c3=>unfold maxLen;omega
     case c4=>omega
     case c5=>simp;omega
     intro v' w3 hown' hgrow _;have R:=Mv bel own hown' hgrow;clear hown' hgrow own
     go_wp2
     go_roundw
     case rel=>exact⟨j+1,kh,by omega,HST.out.1,rfl,by omega,by rw[HST.out.2];exact R.1,R.2⟩
     case measure=>simp[intOf];omega
    ·have hk0:kk=0:=by have:=HK.out;rwa [if_neg hj8] at this
     have HJ:Hid (j=8):=(by omega:j=8);subst hk0
     go_wp2
     go_roundw
     case rel=>
      have:=HJ.out;subst this;exact⟨i+1,by omega,by go_num,own,bel⟩
     case measure=>simp[intOf];omega
  ·have HI:Hid (i=sz):=(by omega:i=sz)
   go_wp2
   go_ret
   have:=HI.out;subst this;exact⟨_,rfl,own,bel⟩
theorem TG.l {w w1 w2:World}{bn bf:Nat}{ng:Bool}{fv:List Value}{v:Value}{m:Nat}(h:TG w bn bf ng fv v m w1)(b:yB w1 w2):TG w bn bf ng fv v m w2:=
 ⟨h.q.l b,h.f.l b,cell_later b h.n,aa h.b b,h.r.l b⟩
theorem refDP_less (ea eb E da db ma mb:Int)(sa sb:Bool)(ao bo:Option Addr)(la lb ac bc:Nat)(X Y Z:Nat)(t:ak)(w:World)(cm:Int)(hs:(sa==sb)=false)(hc: ¬cm≥0)(hc:((la:Int)==0)=false∧((lb:Int)==0)=false∧min ea eb=E∨((la:Int)==0)=true∧((lb:Int)==0)=false∧eb=E∨((la:Int)==0)=false∧((lb:Int)==0)=true∧ea=E∨((la:Int)==0)=true∧((lb:Int)==0)=true∧ea=E)(hda:IntKind.i64.wrap (ea-E)=da)(hdb:IntKind.i64.wrap (eb-E)=db)(hma:max 0 da=ma)(hmb:max 0 db=mb)
  (HU: ∀w1,yB w w1→yC 41 #[.slice ao la ac,yi ma] w1 (cG w1 X))
  (HV: ∀w1,yB w w1→yC 41 #[.slice bo lb bc,yi mb] w1 (cG w1 Y))
  (HC: ∀xo xc yo yc w1,yB w w1→Rd w1 .i64 (yS xo X xc) (Dg.dg 65536 X)→Rd w1 .i64 (yS yo Y yc) (Dg.dg 65536 Y)→yC 38 #[yS xo X xc,yS yo Y yc] w1 (yR w1 (yi cm)))
  (HP: ∀xo xc yo yc w1,yB w w1→Rd w1 .i64 (yS xo X xc) (Dg.dg 65536 X)→Rd w1 .i64 (yS yo Y yc) (Dg.dg 65536 Y)→yC 23 #[yS yo Y yc,yS xo X xc] w1 (cG w1 Z))
  (HB: ∀zo zc w1,yB w w1→Rd w1 .i64 (yS zo Z zc) (Dg.dg 65536 Z)→yC 24 #[ydV sb (yS zo Z zc) E] w1 (Xi w.heap.size w1 t)):
  yC 11 #[ydV sa (.slice ao la ac) ea,ydV sb (.slice bo lb bc) eb] w (di w t):=by
 replace HU:Hid _:=HU;replace HV:Hid _:=HV;replace HC:Hid _:=HC;replace HP:Hid _:=HP;replace HB:Hid _:=HB;obtain⟨W5,hW6,q1,q2,q3,b4⟩:=lG w (ydL sa (.slice ao la ac) ea) 30 (ydL sb (.slice bo lb bc) eb) 30 (ydL false yN 0) 30;replace hW6:Hid _:=hW6
 go_enter func11,ntmps11
 go_upto_region 1 with fail
 rw[hW6.out];clear hW6;have c7:=q1.c 1 rfl;have c8:=q1.c 2 rfl;have c9:=q2.c 1 rfl;have c10:=q2.c 2 rfl
 rcases hc with⟨hla,hlb,hE⟩| ⟨hla,hlb,hE⟩| ⟨hla,hlb,hE⟩| ⟨hla,hlb,hE⟩
 all_goals try rw[hE] at c8
 all_goals try rw[hE] at c10
 all_goals
  go_upto_region 6 with fail
  clear hE;clear c7 c8 c9 c10;have bW11:yB W5 W5.drew:=(Below.refl _ _).drew;have q12:=q1.l bW11;have q13:=q2.l bW11;have q14:=q3.l bW11;have b15:=aa b4 bW11;clear q1 q2 q3 b4 bW11;refine wp_region_held_drew (S:=fun wq=>au wq w.heap.size 30 (ydL sa (.slice ao la ac) ea)∧au wq (w.heap.size+1) 30 (ydL sb (.slice bo lb bc) eb)) (by kernel_rfl) ⟨q12,q13⟩ (fun hS0=> ?_)
  generalize W5.drew=WD16 at q12 q13 q14 b15 hS0⊢;refine tq 0 (.pointer (some ⟨w.heap.size,1,none⟩)) rfl (fun _ _=>by kernel_rfl) hS0 ?_
  refine tq 1 (.slice ao la ac) rfl (fun _ hw0=>gU 28 (.tmp 25) rfl w.heap.size 1 (by kernel_rfl) _ _ underlying28 rfl (hw0.1.c 1 rfl)) hS0 ?_
  refine tq 2 (.pointer (some ⟨w.heap.size,2,none⟩)) rfl (fun _ _=>by kernel_rfl) hS0 ?_
  refine tq 3 (yi ea) rfl (fun _ hw0=>gU 3 (.tmp 27) rfl w.heap.size 2 (by kernel_rfl) _ _ underlying3 rfl (hw0.1.c 2 rfl)) hS0 ?_
  refine tq 4 (yi E) rfl (fun _ _=>by kernel_rfl) hS0 ?_
  refine tq 5 (yi da) rfl (fun _ _=>by go_simp) hS0 ?_
  refine tq 6 (yi ma) rfl (fun _ _=>by go_simp) hS0 ?_
  refine tq 8 (.pointer (some ⟨w.heap.size+1,1,none⟩)) rfl (fun _ _=>by kernel_rfl) hS0 ?_
  refine tq 9 (.slice bo lb bc) rfl (fun _ hw0=>gU 28 (.tmp 33) rfl (w.heap.size+1) 1 (by kernel_rfl) _ _ underlying28 rfl (hw0.2.c 1 rfl)) hS0 ?_
  refine tq 10 (.pointer (some ⟨w.heap.size+1,2,none⟩)) rfl (fun _ _=>by kernel_rfl) hS0 ?_
  refine tq 11 (yi eb) rfl (fun _ hw0=>gU 3 (.tmp 35) rfl (w.heap.size+1) 2 (by kernel_rfl) _ _ underlying3 rfl (hw0.2.c 2 rfl)) hS0 ?_
  refine tq 12 (yi E) rfl (fun _ _=>by kernel_rfl) hS0 ?_
  refine tq 13 (yi db) rfl (fun _ _=>by go_simp) hS0 ?_
  refine tq 14 (yi mb) rfl (fun _ _=>by go_simp) hS0 ?_
  refine wpAnyH_ready (rs:=[7]) (by kernel_rfl) (by simp) ?_;refine AllReadyH.cons rfl (fun K hK=> ?_) AllReadyH.nil
  go_simp
  refine(HU.out _ b15).mono ?_;rintro zz w17 ⟨v119,rfl,r120,bb18⟩;have q21:=q12.l bb18;have q22:=q13.l bb18;have q23:=q14.l bb18;have b24:=aa b15 bb18;obtain⟨xo,xc,hv⟩:=r120.shape;subst hv;clear q12 q13 q14 b15 bb18 HU;refine hK.out _ _ ⟨q21,q22⟩ (fun hS25=> ?_)
  clear hK K;refine wpAnyH_ready (rs:=[15]) (by kernel_rfl) (by simp) ?_;refine AllReadyH.cons rfl (fun K hK=> ?_) AllReadyH.nil
  go_simp
  refine(HV.out _ b24).mono ?_;rintro zz w26 ⟨v128,rfl,r129,bb27⟩;have q30:=q21.l bb27;have q31:=q22.l bb27;have q32:=q23.l bb27;have r33:=r120.l bb27;have b34:=aa b24 bb27;obtain⟨yo,yc,hv⟩:=r129.shape;subst hv;clear q21 q22 q23 r120 b24 bb27 HV;refine hK.out _ _ ⟨q30,q31⟩ (fun hS35=> ?_)
  clear hK K;refine tq 16 (yS xo X xc) rfl (fun _ _=>by kernel_rfl) hS35 ?_
  refine tq 17 (yS yo Y yc) rfl (fun _ _=>by kernel_rfl) hS35 ?_
  refine wpAnyH_done (by kernel_rfl) ?_ _;clear hS0 hS25 hS35;simp only[Act.put,List.getElem_toArray,List.getElem_cons_succ,List.getElem_cons_zero,List.setIfInBounds_toArray,List.set_cons_zero,List.set_cons_succ];have c36:=q30.c 0 rfl;have c37:=q31.c 0 rfl
  go_wp2_with fail
  refine(HC.out _ _ _ _ _ b34 r33 r129).mono ?_;rintro zz w38 ⟨rfl,bb39⟩;have q40:=q31.l bb39;have q41:=q32.l bb39;have r42:=r33.l bb39;have r43:=r129.l bb39;have b44:=aa b34 bb39;clear q30 q31 q32 r33 r129 b34 bb39 HC c36 c37
  go_upto_region 11 with fail
  have bW45:yB w38 w38.drew:=(Below.refl _ _).drew;have q46:=q40.l bW45;have q47:=q41.l bW45;have r48:=r42.l bW45;have r49:=r43.l bW45;have b50:=aa b44 bW45;clear q40 q41 r42 r43 b44 bW45;refine wp_region_held_drew (S:=fun wq=>au wq (w.heap.size+1) 30 (ydL sb (.slice bo lb bc) eb)) (by kernel_rfl) q46 (fun hS0=> ?_)
  generalize w38.drew=WD51 at q46 q47 r48 r49 b50 hS0⊢;refine tq 0 (.pointer (some ⟨w.heap.size+1,0,none⟩)) rfl (fun _ _=>by kernel_rfl) hS0 ?_
  refine tq 1 (.bool sb) rfl (fun _ hw0=>gU 4 (.tmp 66) rfl (w.heap.size+1) 0 (by kernel_rfl) _ _ underlying4 rfl (hw0.c 0 rfl)) hS0 ?_
  refine tq 2 (yS yo Y yc) rfl (fun _ _=>by kernel_rfl) hS0 ?_
  refine tq 3 (yS xo X xc) rfl (fun _ _=>by kernel_rfl) hS0 ?_
  refine tq 5 (yi E) rfl (fun _ _=>by kernel_rfl) hS0 ?_
  refine wpAnyH_ready (rs:=[4]) (by kernel_rfl) (by simp) ?_;refine AllReadyH.cons rfl (fun K hK=> ?_) AllReadyH.nil
  go_simp
  refine(HP.out _ _ _ _ _ b50 r48 r49).mono ?_;rintro zz w52 ⟨v154,rfl,r155,bb53⟩;have q56:=q46.l bb53;have q57:=q47.l bb53;have r58:=r48.l bb53;have r59:=r49.l bb53;have b60:=aa b50 bb53;obtain⟨zo,zc,hv⟩:=r155.shape;subst hv;clear q46 q47 r48 r49 b50 bb53 HP;refine hK.out _ _ q56 (fun hS61=> ?_)
  clear hK K;refine tq 6 (ydV sb (yS zo Z zc) E) rfl (fun _ _=>by kernel_rfl) hS61 ?_
  refine wpAnyH_ready (rs:=[7]) (by kernel_rfl) (by simp) ?_;refine AllReadyH.cons rfl (fun K hK=> ?_) AllReadyH.nil
  go_simp
  refine(HB.out _ _ _ b60 r155).mono ?_;rintro zz w62 ⟨v164,rfl,r165,bb63,hF⟩;have q66:=q56.l bb63;have q67:=q57.l bb63;have r68:=r58.l bb63;have r69:=r59.l bb63;have r70:=r155.l bb63;have b71:=aa b60 bb63;obtain⟨uo,uc,hv⟩:=r165.shape;subst hv;clear q56 q57 r58 r59 r155 b60 bb63 HB;refine hK.out _ _ q66 (fun hS72=> ?_)
  clear hK K;refine wpAnyH_ready (rs:=[8]) (by kernel_rfl) (by simp) ?_;refine AllReadyH.cons rfl (fun K hK=> ?_) AllReadyH.nil
  have bu:But (w.heap.size+1+1) w62 (w62.setCells (w.heap.size+1+1) 0 (ydL t.s (yS uo t.n uc) t.e)):=de _ _ _ _;have hth:w62.there (w.heap.size+1+1) 0 3:=dD q67;have q73:au (w62.setCells (w.heap.size+1+1) 0 (ydL t.s (yS uo t.n uc) t.e)) (w.heap.size+1+1) 30 (ydL t.s (yS uo t.n uc) t.e):=q67.sets _ rfl;have r74:=bu.rd r68 (cq r68 (Dg.norm_dg _ _ (by omega)) q67 (fun x hx n hn=>by simp at hx;rcases hx with rfl|rfl|rfl<;>simp;all_goals omega))
  have r75:=bu.rd r69 (cq r69 (Dg.norm_dg _ _ (by omega)) q67 (fun x hx n hn=>by simp at hx;rcases hx with rfl|rfl|rfl<;>simp;all_goals omega))
  have r76:=bu.rd r70 (cq r70 (Dg.norm_dg _ _ (by omega)) q67 (fun x hx n hn=>by simp at hx;rcases hx with rfl|rfl|rfl<;>simp;all_goals omega))
  have r77:=bu.rd r165 (cq r165 (Dg.norm_dg _ _ (by omega)) q67 (fun x hx n hn=>by simp at hx;rcases hx with rfl|rfl|rfl<;>simp;all_goals omega))
  have q78:=bu.loc q66 (by omega);have b79:=bu.below b71 (by omega);rw[if_pos (by kernel_rfl)];refine wp_store_mid 30 (.tmp 4) (.tmp 73) rfl (w.heap.size+1+1) 0 (ydA t.s (yS uo t.n uc) t.e) (by kernel_rfl) (by kernel_rfl) hth (by kernel_rfl) (by simp[Value.oneCell']) ?_;refine hK.out _ _ q78 (fun hS80=> ?_)
  clear hK K;clear q67 r68 r69 r70 r165 q66 b71 bu hth;refine wpAnyH_done (by kernel_rfl) ?_ _;clear hS0 hS61 hS72 hS80;change Exit.then _ _ _ _ (World.setCells w62 (w.heap.size+1+1) 0 (ydL t.s (yS uo t.n uc) t.e));generalize World.setCells w62 (w.heap.size+1+1) 0 (ydL t.s (yS uo t.n uc) t.e)=W81 at q78 q73 r74 r75 r76 r77 b79⊢;simp only[Act.put,List.getElem_toArray,List.getElem_cons_succ,List.getElem_cons_zero];have hl:=run_loadVar_mid (P:=Tryz.prog) _ (w.heap.size+1+1) 0 30 (ydL t.s (yS uo t.n uc) t.e) _ q73.range underlying30 rfl (by kernel_rfl)
  go_wp2
  exact bodyPost_ret (br results11 rfl hl) rfl ⟨_,rfl,r77,hF.out,b79⟩
end Go.Proofs.YtddkchlamdhgcaaGreatDoor

/-
  Texts laid together: Fi2, Aw0, Ref7, Fro, IntoM.
-/
import Derived.Deep.RegionWith
import Derived.Test.YtpainhklfoaniaaGreatDoorSc22
set_option maxRecDepth 100000
set_option maxHeartbeats 3200000
namespace Go.Proofs.YtpainhklfoaniaaGreatDoor
open _root_.Go.Proofs.Tryz
open Go.RowKit
theorem aej (n f0 f1 f2 R D L G fam:Int)(gr ok ng:Bool)(w:World)(HF:yJ 10 #[yi n] (.tuple #[yhV f0 f1 f2 R D L G gr fam,.bool ok])):
  yC 49 #[yi n,.bool ng] w (yR w (yoV 1 (ng&&decide (fam=1)) false yN 0)):=by
 replace HF:Hid _:=HF
 cases ng
 ·rw[Bool.false_and]
  have a0:=af w (.cells (yoA 0 false false yN 0) 37);have q0:=ah w (yoL 0 false false yN 0) 37
  go_enter func49,ntmps49
  go_wp2_with fail
  refine(HF.out _).mono ?_;rintro z w1 ⟨rfl,b1⟩;have al:=af w1 (.cells (yhA f0 f1 f2 R D L G gr fam) 28);have d2:=ah w1 (yhL f0 f1 f2 R D L G gr fam) 28;have q2:=(q0.l b1).l al;have b2:=aa (aa a0 b1) al;have hne:w.heap.size≠w1.heap.size:=Nat.ne_of_lt (q0.l b1).lt;clear a0 q0 b1 al HF
  go_upto_region 2 with fail
  generalize w1.alloc (.cells (yhA f0 f1 f2 R D L G gr fam) 28)=W2 at d2 q2 b2⊢;generalize w1.heap.size=PF at d2 hne⊢;have xf:=d2.c 8 rfl;have cR:au (((((W2.setCell ⟨w.heap.size,0,none⟩ (yi 1)).setCell ⟨w.heap.size,1,none⟩ (.bool false)).setCell ⟨w.heap.size,2,none⟩ (.bool false)).setCell ⟨w.heap.size,3,none⟩ yN).setCell ⟨w.heap.size,4,none⟩ (yi 0)) (w.heap.size) 37 (yoL 1 false false yN 0):=(((((q2.set 0 (yi 1)).set 1 (.bool false)).set 2 (.bool false)).set 3 yN).set 4 (yi 0));have bu:=((((ag W2 (w.heap.size) 0 (yi 1)).trans (ag _ (w.heap.size) 1 (.bool false))).trans (ag _ (w.heap.size) 2 (.bool false))).trans (ag _ (w.heap.size) 3 yN)).trans (ag _ (w.heap.size) 4 (yi 0));have bR:=bu.below b2 (by omega);have hl:=run_loadVar_mid (P:=Tryz.prog) _ (w.heap.size) 0 37 (yoL 1 false false yN 0) _ cR.range underlying37 rfl (by kernel_rfl);have HH:Hid (_∧_):=⟨hl,bR⟩;obtain⟨z0,z1,z2,z3,z4⟩:=q2.cs5;have fz0:=q2.f 0;have fz1:=q2.f 1;have fz2:=q2.f 2;have fz3:=q2.f 3;have fz4:=q2.f 4;clear hl bR bu cR;clear q2 b2
  go_wp2
  obtain⟨hl,bR⟩:=HH.out;exact bodyPost_ret (br results49 rfl hl) rfl ⟨rfl,bR⟩
 ·rw[Bool.true_and]
  obtain⟨b,hb⟩: ∃b,(fam==1)=b:=⟨_,rfl⟩;have hd:decide (fam=1)=b:=by rw[←hb];rfl
  rw[hd];clear hd;have a0:=af w (.cells (yoA 0 false false yN 0) 37);have q0:=ah w (yoL 0 false false yN 0) 37
  go_enter func49,ntmps49
  go_wp2_with fail
  refine(HF.out _).mono ?_;rintro z w1 ⟨rfl,b1⟩;have al:=af w1 (.cells (yhA f0 f1 f2 R D L G gr fam) 28);have d2:=ah w1 (yhL f0 f1 f2 R D L G gr fam) 28;have q2:=(q0.l b1).l al;have b2:=aa (aa a0 b1) al;have hne:w.heap.size≠w1.heap.size:=Nat.ne_of_lt (q0.l b1).lt;clear a0 q0 b1 al HF
  go_upto_region 2 with fail
  generalize w1.alloc (.cells (yhA f0 f1 f2 R D L G gr fam) 28)=W2 at d2 q2 b2⊢;generalize w1.heap.size=PF at d2 hne⊢;have xf:=d2.c 8 rfl;have cR:au (((((W2.setCell ⟨w.heap.size,0,none⟩ (yi 1)).setCell ⟨w.heap.size,1,none⟩ (.bool b)).setCell ⟨w.heap.size,2,none⟩ (.bool false)).setCell ⟨w.heap.size,3,none⟩ yN).setCell ⟨w.heap.size,4,none⟩ (yi 0)) (w.heap.size) 37 (yoL 1 b false yN 0):=(((((q2.set 0 (yi 1)).set 1 (.bool b)).set 2 (.bool false)).set 3 yN).set 4 (yi 0));have bu:=((((ag W2 (w.heap.size) 0 (yi 1)).trans (ag _ (w.heap.size) 1 (.bool b))).trans (ag _ (w.heap.size) 2 (.bool false))).trans (ag _ (w.heap.size) 3 yN)).trans (ag _ (w.heap.size) 4 (yi 0));have bR:=bu.below b2 (by omega);have hl:=run_loadVar_mid (P:=Tryz.prog) _ (w.heap.size) 0 37 (yoL 1 b false yN 0) _ cR.range underlying37 rfl (by kernel_rfl);have HH:Hid (_∧_):=⟨hl,bR⟩;obtain⟨z0,z1,z2,z3,z4⟩:=q2.cs5;have fz0:=q2.f 0;have fz1:=q2.f 1;have fz2:=q2.f 2;have fz3:=q2.f 3;have fz4:=q2.f 4;clear hl bR bu cR;clear q2 b2
  go_wp2
  obtain⟨hl,bR⟩:=HH.out;exact bodyPost_ret (br results49 rfl hl) rfl ⟨rfl,bR⟩
theorem aa4 (n f0 f1 f2 R D L G:Int)(gr ok:Bool)(w:World)(HF:yJ 10 #[yi n] (.tuple #[yhV f0 f1 f2 R D L G gr 1,.bool ok])):
  yC 50 #[yi n] w (yR w (yoV 4 false false yN 0)):=by
 replace HF:Hid _:=HF;have a0:=af w (.cells (yoA 0 false false yN 0) 37);have q0:=ah w (yoL 0 false false yN 0) 37
 go_enter func50,ntmps50
 go_wp2_with fail
 refine(HF.out _).mono ?_;rintro z w1 ⟨rfl,b1⟩;have al:=af w1 (.cells (yhA f0 f1 f2 R D L G gr 1) 28);have d2:=ah w1 (yhL f0 f1 f2 R D L G gr 1) 28;have q2:=(q0.l b1).l al;have b2:=aa (aa a0 b1) al;have hne:w.heap.size≠w1.heap.size:=Nat.ne_of_lt (q0.l b1).lt;clear a0 q0 b1 al HF
 go_upto_region 2 with fail
 generalize w1.alloc (.cells (yhA f0 f1 f2 R D L G gr 1) 28)=W2 at d2 q2 b2⊢;generalize w1.heap.size=PF at d2 hne⊢;have xf:=d2.c 8 rfl;have al:=af W2 (.cells #[yi 0,yi 4,yi 1,yi 5] 3);have s3:=ah W2 [yi 0,yi 4,yi 1,yi 5] 3;have q3:=q2.l al;have d3:=d2.l al;have b3:=aa b2 al;have xf3:=d3.c 8 rfl;obtain⟨u0,u1,u2,u3⟩:=s3.cs4;have cR:au ((((((W2.alloc (.cells #[yi 0,yi 4,yi 1,yi 5] 3)).setCell ⟨w.heap.size,0,none⟩ (yi 4)).setCell ⟨w.heap.size,1,none⟩ (.bool false)).setCell ⟨w.heap.size,2,none⟩ (.bool false)).setCell ⟨w.heap.size,3,none⟩ yN).setCell ⟨w.heap.size,4,none⟩ (yi 0)) (w.heap.size) 37 (yoL 4 false false yN 0):=(((((q3.set 0 (yi 4)).set 1 (.bool false)).set 2 (.bool false)).set 3 yN).set 4 (yi 0));have bu:=((((ag (W2.alloc (.cells #[yi 0,yi 4,yi 1,yi 5] 3)) (w.heap.size) 0 (yi 4)).trans (ag _ (w.heap.size) 1 (.bool false))).trans (ag _ (w.heap.size) 2 (.bool false))).trans (ag _ (w.heap.size) 3 yN)).trans (ag _ (w.heap.size) 4 (yi 0));have bR:=bu.below b3 (by omega);have hl:=run_loadVar_mid (P:=Tryz.prog) _ (w.heap.size) 0 37 (yoL 4 false false yN 0) _ cR.range underlying37 rfl (by kernel_rfl);have HH:Hid (_∧_):=⟨hl,bR⟩;obtain⟨z0,z1,z2,z3,z4⟩:=q3.cs5;have fz0:=q3.f 0;have fz1:=q3.f 1;have fz2:=q3.f 2;have fz3:=q3.f 3;have fz4:=q3.f 4;clear hl bR bu cR;clear q2 b2 q3 b3 al s3
 go_wp2
 obtain⟨hl,bR⟩:=HH.out;exact bodyPost_ret (br results50 rfl hl) rfl ⟨rfl,bR⟩
theorem aa5 (n f0 f1 f2 R D L G:Int)(gr ok:Bool)(w:World)(HF:yJ 10 #[yi n] (.tuple #[yhV f0 f1 f2 R D L G gr 2,.bool ok])):
  yC 50 #[yi n] w (yR w (yoV 1 false false yN 0)):=by
 replace HF:Hid _:=HF;have a0:=af w (.cells (yoA 0 false false yN 0) 37);have q0:=ah w (yoL 0 false false yN 0) 37
 go_enter func50,ntmps50
 go_wp2_with fail
 refine(HF.out _).mono ?_;rintro z w1 ⟨rfl,b1⟩;have al:=af w1 (.cells (yhA f0 f1 f2 R D L G gr 2) 28);have d2:=ah w1 (yhL f0 f1 f2 R D L G gr 2) 28;have q2:=(q0.l b1).l al;have b2:=aa (aa a0 b1) al;have hne:w.heap.size≠w1.heap.size:=Nat.ne_of_lt (q0.l b1).lt;clear a0 q0 b1 al HF
 go_upto_region 2 with fail
 generalize w1.alloc (.cells (yhA f0 f1 f2 R D L G gr 2) 28)=W2 at d2 q2 b2⊢;generalize w1.heap.size=PF at d2 hne⊢;have xf:=d2.c 8 rfl;have al:=af W2 (.cells #[yi 0,yi 4,yi 1,yi 5] 3);have s3:=ah W2 [yi 0,yi 4,yi 1,yi 5] 3;have q3:=q2.l al;have d3:=d2.l al;have b3:=aa b2 al;have xf3:=d3.c 8 rfl;obtain⟨u0,u1,u2,u3⟩:=s3.cs4;have cR:au ((((((W2.alloc (.cells #[yi 0,yi 4,yi 1,yi 5] 3)).setCell ⟨w.heap.size,0,none⟩ (yi 1)).setCell ⟨w.heap.size,1,none⟩ (.bool false)).setCell ⟨w.heap.size,2,none⟩ (.bool false)).setCell ⟨w.heap.size,3,none⟩ yN).setCell ⟨w.heap.size,4,none⟩ (yi 0)) (w.heap.size) 37 (yoL 1 false false yN 0):=(((((q3.set 0 (yi 1)).set 1 (.bool false)).set 2 (.bool false)).set 3 yN).set 4 (yi 0));have bu:=((((ag (W2.alloc (.cells #[yi 0,yi 4,yi 1,yi 5] 3)) (w.heap.size) 0 (yi 1)).trans (ag _ (w.heap.size) 1 (.bool false))).trans (ag _ (w.heap.size) 2 (.bool false))).trans (ag _ (w.heap.size) 3 yN)).trans (ag _ (w.heap.size) 4 (yi 0));have bR:=bu.below b3 (by omega);have hl:=run_loadVar_mid (P:=Tryz.prog) _ (w.heap.size) 0 37 (yoL 1 false false yN 0) _ cR.range underlying37 rfl (by kernel_rfl);have HH:Hid (_∧_):=⟨hl,bR⟩;obtain⟨z0,z1,z2,z3,z4⟩:=q3.cs5;have fz0:=q3.f 0;have fz1:=q3.f 1;have fz2:=q3.f 2;have fz3:=q3.f 3;have fz4:=q3.f 4;clear hl bR bu cR;clear q2 b2 q3 b3 al s3
 go_wp2
 obtain⟨hl,bR⟩:=HH.out;exact bodyPost_ret (br results50 rfl hl) rfl ⟨rfl,bR⟩
theorem aa6 (n f0 f1 f2 R D L G:Int)(gr ok:Bool)(w:World)(HF:yJ 10 #[yi n] (.tuple #[yhV f0 f1 f2 R D L G gr 3,.bool ok])):
  yC 50 #[yi n] w (yR w (yoV 5 false false yN 0)):=by
 replace HF:Hid _:=HF;have a0:=af w (.cells (yoA 0 false false yN 0) 37);have q0:=ah w (yoL 0 false false yN 0) 37
 go_enter func50,ntmps50
 go_wp2_with fail
 refine(HF.out _).mono ?_;rintro z w1 ⟨rfl,b1⟩;have al:=af w1 (.cells (yhA f0 f1 f2 R D L G gr 3) 28);have d2:=ah w1 (yhL f0 f1 f2 R D L G gr 3) 28;have q2:=(q0.l b1).l al;have b2:=aa (aa a0 b1) al;have hne:w.heap.size≠w1.heap.size:=Nat.ne_of_lt (q0.l b1).lt;clear a0 q0 b1 al HF
 go_upto_region 2 with fail
 generalize w1.alloc (.cells (yhA f0 f1 f2 R D L G gr 3) 28)=W2 at d2 q2 b2⊢;generalize w1.heap.size=PF at d2 hne⊢;have xf:=d2.c 8 rfl;have al:=af W2 (.cells #[yi 0,yi 4,yi 1,yi 5] 3);have s3:=ah W2 [yi 0,yi 4,yi 1,yi 5] 3;have q3:=q2.l al;have d3:=d2.l al;have b3:=aa b2 al;have xf3:=d3.c 8 rfl;obtain⟨u0,u1,u2,u3⟩:=s3.cs4;have cR:au ((((((W2.alloc (.cells #[yi 0,yi 4,yi 1,yi 5] 3)).setCell ⟨w.heap.size,0,none⟩ (yi 5)).setCell ⟨w.heap.size,1,none⟩ (.bool false)).setCell ⟨w.heap.size,2,none⟩ (.bool false)).setCell ⟨w.heap.size,3,none⟩ yN).setCell ⟨w.heap.size,4,none⟩ (yi 0)) (w.heap.size) 37 (yoL 5 false false yN 0):=(((((q3.set 0 (yi 5)).set 1 (.bool false)).set 2 (.bool false)).set 3 yN).set 4 (yi 0));have bu:=((((ag (W2.alloc (.cells #[yi 0,yi 4,yi 1,yi 5] 3)) (w.heap.size) 0 (yi 5)).trans (ag _ (w.heap.size) 1 (.bool false))).trans (ag _ (w.heap.size) 2 (.bool false))).trans (ag _ (w.heap.size) 3 yN)).trans (ag _ (w.heap.size) 4 (yi 0));have bR:=bu.below b3 (by omega);have hl:=run_loadVar_mid (P:=Tryz.prog) _ (w.heap.size) 0 37 (yoL 5 false false yN 0) _ cR.range underlying37 rfl (by kernel_rfl);have HH:Hid (_∧_):=⟨hl,bR⟩;obtain⟨z0,z1,z2,z3,z4⟩:=q3.cs5;have fz0:=q3.f 0;have fz1:=q3.f 1;have fz2:=q3.f 2;have fz3:=q3.f 3;have fz4:=q3.f 4;clear hl bR bu cR;clear q2 b2 q3 b3 al s3
 go_wp2
 obtain⟨hl,bR⟩:=HH.out;exact bodyPost_ret (br results50 rfl hl) rfl ⟨rfl,bR⟩
def RVF (w:World)(c:Int)(g:Bool)(t:ak)(fl:Int)(z:Ending)(w':World):Prop:=
 ∃s,z= .returned (.tuple #[yoV c g t.s s t.e,yi fl])∧Rd w' .i64 s (Dg.dg 65536 t.n)∧yB w w'
theorem cA (w:World)(c0:List Value)(t0:TypeId): ∃W,w.alloc (.cells c0.toArray t0)=W∧au W w.heap.size t0 c0∧yB w W:=
 ⟨_,rfl,ah w c0 t0,af w _⟩
theorem iG (w:World)(c0:List Value)(t0:TypeId)(c1:List Value)(t1:TypeId): ∃W,(w.alloc (.cells c0.toArray t0)).alloc (.cells c1.toArray t1)=W∧au W w.heap.size t0 c0∧au W (w.heap.size+1) t1 c1∧yB w W:=by
 obtain⟨W,rfl,h0,b0⟩:=cA w c0 t0;have h1:=ah (w.alloc (.cells c0.toArray t0)) c1 t1;have b1:=af (w.alloc (.cells c0.toArray t0)) (.cells c1.toArray t1);rw[World.size_alloc] at h1;exact⟨_,rfl,h0.l b1,h1,aa b0 b1⟩
theorem lG (w:World)(c0:List Value)(t0:TypeId)(c1:List Value)(t1:TypeId)(c2:List Value)(t2:TypeId): ∃W,((w.alloc (.cells c0.toArray t0)).alloc (.cells c1.toArray t1)).alloc (.cells c2.toArray t2)=W∧au W w.heap.size t0 c0∧au W (w.heap.size+1) t1 c1∧au W (w.heap.size+1+1) t2 c2∧yB w W:=by
 obtain⟨W,rfl,h0,h1,b0⟩:=iG w c0 t0 c1 t1;have h2:=ah ((w.alloc (.cells c0.toArray t0)).alloc (.cells c1.toArray t1)) c2 t2;have b2:=af ((w.alloc (.cells c0.toArray t0)).alloc (.cells c1.toArray t1)) (.cells c2.toArray t2);rw[World.size_alloc,World.size_alloc] at h2;exact⟨_,rfl,h0.l b2,h1.l b2,h2,aa b0 b2⟩
theorem pi (w:World)(c0:List Value)(t0:TypeId)(c1:List Value)(t1:TypeId)(c2:List Value)(t2:TypeId)(c3:List Value)(t3:TypeId): ∃W,(((w.alloc (.cells c0.toArray t0)).alloc (.cells c1.toArray t1)).alloc (.cells c2.toArray t2)).alloc (.cells c3.toArray t3)=W∧au W w.heap.size t0 c0∧au W (w.heap.size+1) t1 c1∧au W (w.heap.size+1+1) t2 c2∧au W (w.heap.size+1+1+1) t3 c3∧yB w W:=by
 obtain⟨W,rfl,h0,h1,h2,b0⟩:=lG w c0 t0 c1 t1 c2 t2;have h3:=ah (((w.alloc (.cells c0.toArray t0)).alloc (.cells c1.toArray t1)).alloc (.cells c2.toArray t2)) c3 t3;have b3:=af (((w.alloc (.cells c0.toArray t0)).alloc (.cells c1.toArray t1)).alloc (.cells c2.toArray t2)) (.cells c3.toArray t3);rw[World.size_alloc,World.size_alloc,World.size_alloc] at h3;exact⟨_,rfl,h0.l b3,h1.l b3,h2.l b3,h3,aa b0 b3⟩
theorem afz {P:Program}{w0 w:World}{n b:Nat}{ty:TypeId}{z0 z1 z2 z3:Value}{d:TypeDesc}(h:au w b ty [z0,z1,z2,z3])(hb:Below n w0 w)(hn:n≤b)(hu:P.underlying ty=some d)(hd:d.isRow=true)(hi:(P.info? ty).map (·.size)=some 4)(v0 v1 v2 v3:Value):
  (loadVar ty ⟨b,0,none⟩).run P ((((w.setCell ⟨b,0,none⟩ v0).setCell ⟨b,1,none⟩ v1).setCell ⟨b,2,none⟩ v2).setCell ⟨b,3,none⟩ v3)= .ok (.agg #[v0,v1,v2,v3]) ((((w.setCell ⟨b,0,none⟩ v0).setCell ⟨b,1,none⟩ v1).setCell ⟨b,2,none⟩ v2).setCell ⟨b,3,none⟩ v3)∧Below n w0 ((((w.setCell ⟨b,0,none⟩ v0).setCell ⟨b,1,none⟩ v1).setCell ⟨b,2,none⟩ v2).setCell ⟨b,3,none⟩ v3)∧But b w ((((w.setCell ⟨b,0,none⟩ v0).setCell ⟨b,1,none⟩ v1).setCell ⟨b,2,none⟩ v2).setCell ⟨b,3,none⟩ v3):=by
 have cR:au ((((w.setCell ⟨b,0,none⟩ v0).setCell ⟨b,1,none⟩ v1).setCell ⟨b,2,none⟩ v2).setCell ⟨b,3,none⟩ v3) b ty [v0,v1,v2,v3]:=((((h.set 0 v0).set 1 v1).set 2 v2).set 3 v3);have bu:=(((ag w b 0 v0).trans (ag _ b 1 v1)).trans (ag _ b 2 v2)).trans (ag _ b 3 v3);exact⟨run_loadVar_mid (P:=P) _ b 0 ty [v0,v1,v2,v3] _ cR.range hu hd hi,bu.below hb hn,bu⟩
theorem dL {P:Program}{w0 w:World}{n b:Nat}{ty:TypeId}{z0 z1 z2 z3 z4:Value}{d:TypeDesc}(h:au w b ty [z0,z1,z2,z3,z4])(hb:Below n w0 w)(hn:n≤b)(hu:P.underlying ty=some d)(hd:d.isRow=true)(hi:(P.info? ty).map (·.size)=some 5)(v0 v1 v2 v3 v4:Value):
  (loadVar ty ⟨b,0,none⟩).run P (((((w.setCell ⟨b,0,none⟩ v0).setCell ⟨b,1,none⟩ v1).setCell ⟨b,2,none⟩ v2).setCell ⟨b,3,none⟩ v3).setCell ⟨b,4,none⟩ v4)= .ok (.agg #[v0,v1,v2,v3,v4]) (((((w.setCell ⟨b,0,none⟩ v0).setCell ⟨b,1,none⟩ v1).setCell ⟨b,2,none⟩ v2).setCell ⟨b,3,none⟩ v3).setCell ⟨b,4,none⟩ v4)∧Below n w0 (((((w.setCell ⟨b,0,none⟩ v0).setCell ⟨b,1,none⟩ v1).setCell ⟨b,2,none⟩ v2).setCell ⟨b,3,none⟩ v3).setCell ⟨b,4,none⟩ v4)∧But b w (((((w.setCell ⟨b,0,none⟩ v0).setCell ⟨b,1,none⟩ v1).setCell ⟨b,2,none⟩ v2).setCell ⟨b,3,none⟩ v3).setCell ⟨b,4,none⟩ v4):=by
 have cR:au (((((w.setCell ⟨b,0,none⟩ v0).setCell ⟨b,1,none⟩ v1).setCell ⟨b,2,none⟩ v2).setCell ⟨b,3,none⟩ v3).setCell ⟨b,4,none⟩ v4) b ty [v0,v1,v2,v3,v4]:=(((((h.set 0 v0).set 1 v1).set 2 v2).set 3 v3).set 4 v4);have bu:=((((ag w b 0 v0).trans (ag _ b 1 v1)).trans (ag _ b 2 v2)).trans (ag _ b 3 v3)).trans (ag _ b 4 v4);exact⟨run_loadVar_mid (P:=P) _ b 0 ty [v0,v1,v2,v3,v4] _ cR.range hu hd hi,bu.below hb hn,bu⟩
theorem afB {w:World}{b:Nat}{ty:TypeId}{z0 z1 z2 z3:Value}(h:au w b ty [z0,z1,z2,z3]):(w.cell? ⟨b,0,none⟩=some z0∧w.cell? ⟨b,1,none⟩=some z1∧w.cell? ⟨b,2,none⟩=some z2∧w.cell? ⟨b,3,none⟩=some z3)∧w.frozen? ⟨b,0,none⟩=false∧w.frozen? ⟨b,1,none⟩=false∧w.frozen? ⟨b,2,none⟩=false∧w.frozen? ⟨b,3,none⟩=false:=
 ⟨⟨h.c 0 rfl,h.c 1 rfl,h.c 2 rfl,h.c 3 rfl⟩,h.f 0,h.f 1,h.f 2,h.f 3⟩
theorem dN {w:World}{b:Nat}{ty:TypeId}{z0 z1 z2 z3 z4:Value}(h:au w b ty [z0,z1,z2,z3,z4]):(w.cell? ⟨b,0,none⟩=some z0∧w.cell? ⟨b,1,none⟩=some z1∧w.cell? ⟨b,2,none⟩=some z2∧w.cell? ⟨b,3,none⟩=some z3∧w.cell? ⟨b,4,none⟩=some z4)∧w.frozen? ⟨b,0,none⟩=false∧w.frozen? ⟨b,1,none⟩=false∧w.frozen? ⟨b,2,none⟩=false∧w.frozen? ⟨b,3,none⟩=false∧w.frozen? ⟨b,4,none⟩=false:=
 ⟨⟨h.c 0 rfl,h.c 1 rfl,h.c 2 rfl,h.c 3 rfl,h.c 4 rfl⟩,h.f 0,h.f 1,h.f 2,h.f 3,h.f 4⟩
theorem kY {w:World}{b:Nat}{ty:TypeId}{vs cs:List Value}(h:au w b ty vs)(o n:Nat)(e:(vs.drop o).take n=cs):w.rangeAt b o cs:=fun j v hj=>by
 subst e;refine h.c (o+j) ?_;rw[List.getElem?_take] at hj
 split at hj
 ·rw[List.getElem?_drop] at hj
  exact hj
 ·cases hj
theorem tk {P:Program}{md:Region.Mode}{ops:Array Oper}{Q:Exit→Act→World→Prop}{S:World→Prop}{oi:Oper}{fuel:Nat}{listed:Array Bool}{a:Act}{w:World}(i:Nat)(v:Value)(hi:ops[i]? =some oi)
  (hb:(Region.noSelect ops&&(Region.free md ops listed i&&((Region.ready md ops listed).contains i&&Region.wanted oi (yielded ops a.tmps))))=true)
  (hQ: ∀c a w,Q (.panic c) (a.put oi.dst v) w→Q (.panic c) a w) (hv: ∀w0,S w0→(execOp a.eval oi).run P w0= .ok (.value v) w0) (hS:S w)
  (h:wpAnyH P md ops Q S fuel (listed.setIfInBounds i true) (a.put oi.dst v) w):wpAnyH P md ops Q S (fuel+1) listed a w:=by
 simp only[Bool.and_eq_true] at hb;exact wpAnyH_take hi hb.1 hb.2.1 hb.2.2.1 hQ (Or.inl ⟨hb.2.2.2,hv⟩) hS h
theorem mu {w:World}{b n:Nat}{ty:TypeId}{v:Value}(h:Rd w .i64 v (Dg.dg 65536 n))(hl:au w b ty (yoL 0 false false yN 0)):wF b v (Dg.dg 65536 n):=
 cq h (Dg.norm_dg _ _ (by omega)) hl (fun x hx n hn=>by simp at hx;rcases hx with rfl|rfl|rfl|rfl|rfl<;>simp;all_goals omega)
def X9 (xs cur:List Nat)(d k r:Nat):Prop:=
 cur.length=xs.length∧Dg.Small 65536 cur∧r<d∧Dg.vl 65536 (xs.drop k)=Dg.vl 65536 (cur.drop k)*d+r
theorem Qp {xs cur:List Nat}{d k r t:Nat}(h:X9 xs cur d (k+1) r)(hk:k<xs.length)(ht:t=65536*r+xs.getD k 0)(hd:0<d)(hq:t/d<65536):
  X9 xs (cur.set k (t/d)) d k (t % d):=by
 obtain⟨h1,h2,h3,h5⟩:=h;refine⟨by simpa using h1,Dg.small_set h2 _ _ hq,Nat.mod_lt _ hd, ?_⟩;rw[AU xs k hk,AU (cur.set k (t/d)) k (by simpa using(by omega:k<cur.length)),Dg.getD_set _ _ _ _ (by omega),if_pos rfl,List.drop_set_of_lt (by omega)];simp only[Dg.vl];rw[h5];have:=Nat.div_add_mod t d;rw[Nat.add_mul,Nat.mul_comm (t/d) d,Nat.mul_assoc,Nat.mul_add];omega
theorem M8 {t d r x:Nat}(h1:r<d)(h2:x<65536)(ht:t=65536*r+x):t/d<65536:=by
 rw[Nat.div_lt_iff_lt_mul (by omega)];have:(r+1)*65536≤d*65536:=Nat.mul_le_mul_right _ h1;rw[Nat.mul_comm 65536 d];omega
theorem Cv (d:Nat)(h:d<65536):Dg.dg 65536 d=if d=0 then[] else[d]:=by
 by_cases e:d=0
 ·subst e;rfl
 ·rw[if_neg e]
  exact(Dg.eq_dg 65536 (by omega) [d] d (Dg.small_cons.2 ⟨h,Dg.small_nil _ (by omega)⟩) (by intro _;simpa using e) (by simp[Dg.vl])).symm
theorem IU (va:Value)(xs:List Nat)(vb:Value)(d:Nat)(w:World)(ha:Rd w .i64 va xs)(hb:Rd w .i64 vb [d])(sa:Dg.Small 65536 xs)(hla:xs.length≤1000000)(hd0:0<d)(hd:d<65536):
  yC 88 #[va,vb] w fun e w'=> ∃vq vr,e= .returned (.tuple #[vq,vr])∧Rd w' .i64 vq (Dg.dg 65536 (Dg.vl 65536 xs/d))∧Rd w' .i64 vr (Dg.dg 65536 (Dg.vl 65536 xs % d))∧yB w w':=by
 obtain⟨i0,hi,hz0,hz1,hz2⟩:=info_parts Tryz.infoI64;obtain⟨ao,ca,rfl,-,-,hca⟩:=ha;obtain⟨bo,cb,rfl,-,-,hcb⟩:=hb;obtain⟨bb,boff,rfl,hcellb⟩:=hcb (by simp);have hcb0:=hcellb 0 (by simp);simp only[List.getD_cons_zero,Nat.add_zero] at hcb0;have hlen1:([d]:List Nat).length=1:=rfl;rw[hlen1];clear hcellb hcb hlen1
 go_enter func88,ntmps88
 go_wp2_with (at_make;refine wpList_make_full _ rfl _ _ 33 rfl w.heap.size 3 i0 (yi 0) 1 underlying33 hi hz0 hz1 _ _ _ _ xs.length rfl rfl (by omega) (by omega) ?b2 ?b3 (Nat.le_refl _) ?_)
 case b2=>rw[hz2];omega
 case b3=>unfold maxLen;omega
 intro w0 hown0 hgrow0;have own0:=gL hown0;have bel0:yB w w0:=(Below.refl _ _).grown hgrow0 (Nat.le_refl _) (fun k h=>by cases h)
 clear hown0 hgrow0
 go_wp2
 go_loopw [7,8] (fun rv iv wr=> ∃(k r:Nat) (cur:List Nat),k≤xs.length∧iv=yi ((k:Int)-1)∧rv=yi r∧Own wr w.heap.size 3 .i64 (.slice (some ⟨w.heap.size,0,none⟩) xs.length xs.length) cur∧X9 xs cur d k r∧yB w wr)
  (fun _ iv _=>(intOf iv+1).toNat)
 case atStart=>exact⟨xs.length,0,_,Nat.le_refl _,rfl,rfl,own0,⟨by simp,Dg.small_replicate _ _ (by omega),hd0,by simp[Dg.vl]⟩,bel0⟩
 case round=>
  clear own0 bel0;obtain⟨k,r,cur,hk,rfl,rfl,own,hI,bel⟩:=hrel;have hlen:=hI.1;have hr:=hI.2.2.1
  by_cases hk0:k=0
  ·subst hk0
   obtain⟨h1,h2,h3,h5⟩:=hI;simp only[List.drop_zero] at h5;have e1:Dg.vl 65536 xs/d=Dg.vl 65536 cur:=by
    rw[h5,Nat.mul_comm,Nat.mul_add_div hd0,Nat.div_eq_of_lt h3];omega
   have e2:Dg.vl 65536 xs % d=r:=by
    rw[h5,Nat.mul_comm,Nat.mul_add_mod,Nat.mod_eq_of_lt h3]
   have HE1:Hid (Dg.vl 65536 xs/d=Dg.vl 65536 cur):=e1;have HE2:Hid (Dg.vl 65536 xs % d=r):=e2;have hcl:cur.length≤1000000:=by omega
   clear h5 e1 e2 hlen h1
   go_wp2_with fail
   refine(i9 _ _ _ cur _ own.rd).mono ?_;rintro e w' ⟨m,rfl,hm,rfl⟩;have rq:=xh own h2 hm (by omega);have a1:Below w'.heap.size w' (w'.alloc (.cells #[yi r] 3)):=(Below.refl _ _).alloc (Nat.le_refl _) _;have r1:=cE (w:=w') (k:= .i64) (e:=3) [r] #[yi r] rfl (by unfold maxLen;simp)
   go_wp2_with fail
   refine(i9 _ _ _ [r] _ r1).mono ?_;rintro e w2 ⟨m2,rfl,hm2,rfl⟩;have hml:=hm2.1;simp only[List.length_cons,List.length_nil] at hml;have rr:=uE (cap':=m2) 65536 (by omega) r1 (Dg.small_cons.2 ⟨by omega,Dg.small_nil _ (by omega)⟩) hm2 (Nat.le_refl _) (by unfold maxLen;omega);have ev:Dg.vl 65536 [r]=r:=by simp[Dg.vl]
   rw[ev] at rr;have rq2:=rq.l a1;have bel2:=aa bel a1;clear hm hm2 r1 ev
   go_wp2
   go_ret2
   exact⟨_,_,rfl,by rw[HE1.out];exact rq2,by rw[HE2.out];exact rr,bel2⟩
  ·obtain⟨m,rfl⟩: ∃m,k=m+1:=⟨k-1,by omega⟩
   obtain⟨b,off,rfl,hcell⟩:=hca (by omega);have hx:=cell_later bel (hcell m (by omega));have hbb:=cell_later bel hcb0;have hxl:=sa m;have hq:=own.c m (by omega);have hf:=own.f m;obtain⟨x,ex⟩: ∃x,xs.getD m 0=x:=⟨_,rfl⟩;rw[ex] at hx hxl;have hql:=M8 (t:=65536*r+x) hr hxl rfl;have hst:=Qp hI (by omega) (by rw[ex]) hd0 hql;have hrl:(65536*r+x) % d<d:=Nat.mod_lt _ hd0;obtain⟨t,ht⟩: ∃t,65536*r+x=t:=⟨_,rfl⟩;have htl:t<4294967296:=by omega
   rw[ht] at hst hql hrl;have htI:65536*(r:Int)+(x:Int)=(t:Int):=by omega
   obtain⟨q1,hq1⟩: ∃q1,t/d=q1:=⟨_,rfl⟩;obtain⟨m1,hm1⟩: ∃m1,t % d=m1:=⟨_,rfl⟩;have e1:(t:Int).tdiv d=(q1:Int):=by rw[Int.tdiv_eq_ediv_of_nonneg (by omega),←hq1];exact(Int.natCast_ediv t d).symm
   have e2:(t:Int).tmod d=(m1:Int):=by rw[Int.tmod_eq_emod_of_nonneg (by omega),←hm1];exact(Int.natCast_emod t d).symm
   have e3:(t:Int)/(d:Int)=(q1:Int):=by rw[←hq1];exact(Int.natCast_ediv t d).symm
   have e4:(t:Int) % (d:Int)=(m1:Int):=by rw[←hm1];exact(Int.natCast_emod t d).symm
   rw[hq1] at hst hql;rw[hm1] at hst hrl;have e5:IntKind.i64.wrap (q1:Int)=(q1:Int):=IntWalk.i64_in _ ⟨by omega,by omega⟩;have hdne:((d:Int)==0)=false:=by simp;omega
   clear ex hcell hca hI hq1 hm1 ht hlen
   go_wp2
   go_region
   all_goals go_wp2
   all_goals go_roundw
   case rel=>exact⟨m,_,_,by omega,by go_num,rfl,Own.l (own.store m _) (Below.drew (Below.refl _ _)),hst,(bel.setCell (by exact Nat.le_refl _) _).drew⟩
   case measure=>simp[intOf]
theorem Bj (d:Nat)(w:World)(hd:d<65536):yC 55 #[yi d] w (cG w d):=by
 obtain⟨i0,hi,hz0,hz1,hz2⟩:=info_parts Tryz.infoI64;have hone:=Cv d hd
 by_cases h:d=0
 ·subst h
  go_enter func55,ntmps55
  go_wp2
  refine wp_loop_rounds 1 ?_;rw[rounds_succ]
  go_wp2
  go_ret
  exact⟨_,rfl,(aQ _ 0 0 _).rd,Below.refl _ _⟩
 ·rw[if_neg h] at hone
  have HO:Hid (Dg.dg 65536 d=[d]):=hone;have e1:(d:Int) % 65536=(d:Int):=by omega
  have e2:(d:Int)/65536=0:=by omega
  have hpos:(0:Int)< (d:Int):=by omega
  clear hone
  go_enter func55,ntmps55
  go_wp2
  refine wp_loop_rounds 2 ?_;rw[rounds_succ]
  go_wp2_with (at_builtin;refine wpList_append_own _ rfl _ _ 33 rfl w.heap.size 3 i0 (yi 0) 1 8 underlying33 hi hz0 hz1 hz2 rfl (by decide) _ _ _ rfl (World.ownsRow.alloc (World.ownsRow_nil w w.heap.size 3 1) _) ⟨w.heap.size,0,none⟩ 1 1 [yi d] rfl rfl ?c1 ?c2 ?c3 ?c4 ?c5 ?_)
  case c1=>exact cell_one_new _ _ _
  case c2=>intro u hu;simp at hu;subst hu;rfl
  case c3=>unfold maxLen;omega
  case c4=>omega
  case c5=>simp
  intro v' w3 hown' hgrow _;have R:=iW (Below.refl w.heap.size w) (aQ w w.heap.size 3 .i64) hown' hgrow;clear hown' hgrow;rw[List.nil_append,←HO.out] at R
  go_wp2
  rw[rounds_succ]
  go_wp2
  go_ret
  exact⟨_,rfl,R.1.rd,R.2⟩
theorem abW (B:Nat)(l:List Nat):Dg.vl B l=l.getD 0 0+B*Dg.vl B (l.drop 1):=by
 cases l with
 |nil=>simp[Dg.vl]
 |cons d l=>simp[Dg.vl]
theorem Vm (l:List Nat)(k:Nat):(l.drop k).getD 0 0=l.getD k 0:=by
 simp[List.getD_eq_getElem?_getD]
theorem iy (B:Nat)(l:List Nat)(k:Nat):Dg.vl B (l.drop k)=l.getD k 0+B*Dg.vl B (l.drop (k+1)):=by
 rw[abW B (l.drop k),Vm,List.drop_drop]
theorem Zs (B:Nat)(l:List Nat)(k:Nat)(h:l.length≤k+3):Dg.vl B (l.drop k)=l.getD k 0+B*(l.getD (k+1) 0+B*l.getD (k+2) 0):=by
 rw[iy,iy,iy,List.drop_of_length_le (by omega)];simp[Dg.vl]
theorem Zt (B:Nat)(l:List Nat)(k:Nat)(h:l.length≤k+2):Dg.vl B (l.drop k)=l.getD k 0+B*l.getD (k+1) 0:=by
 rw[iy,iy,List.drop_of_length_le (by omega)];simp[Dg.vl]
theorem BH (B:Nat)(l:List Nat)(k:Nat):Dg.vl B l=Dg.vl B (l.take k)+B^k*Dg.vl B (l.drop k):=by
 by_cases h:k≤l.length
 ·exact Dg.vl_take_drop B l k h
 ·rw[List.take_of_length_le (by omega),List.drop_of_length_le (by omega)]
  simp[Dg.vl]
theorem Zu (rs bs:List Nat)(n R b top under:Nat)(hn:2≤n)(hbl:bs.length=n)(sr:Dg.Small 65536 rs)(nb:Dg.Norm bs)
  (hR:Dg.vl 65536 rs=R) (hb:Dg.vl 65536 bs=b) (hrl:rs.length≤n+1) (hlt:R<65536*b)
  (ht:top=65536*(65536*rs.getD n 0+rs.getD (n-1) 0)+rs.getD (n-2) 0) (hu:under=bs.getD (n-1) 0*65536+bs.getD (n-2) 0):
  R/b≤65535∧R/b≤top/(under+1)+1:=by
 obtain⟨k,rfl⟩: ∃k,n=k+2:=⟨n-2,by omega⟩;have e1:k+2-1=k+1:=by omega
 have e2:k+2-2=k:=by omega
 rw[e1,e2] at ht hu;have r1:=BH 65536 rs k;rw[Zs 65536 rs k (by omega),hR] at r1;have b1:=BH 65536 bs k;rw[Zt 65536 bs k (by omega),hb] at b1;have et:rs.getD k 0+65536*(rs.getD (k+1) 0+65536*rs.getD (k+2) 0)=top:=by omega
 have eu:bs.getD k 0+65536*bs.getD (k+1) 0=under:=by omega
 rw[et] at r1;rw[eu] at b1;have rl:Dg.vl 65536 (rs.take k)<65536^k:=Nat.lt_of_lt_of_le (Dg.vl_lt 65536 _ (Dg.small_take sr k (by omega))) (Nat.pow_le_pow_right (by omega) (List.length_take_le _ _));have hu1:65536≤under:=by
  have h0:=nb (by intro e;rw[e] at hbl;simp at hbl);rw[hbl,e1] at h0;omega
 obtain⟨P,hP⟩: ∃P,65536^k=P:=⟨_,rfl⟩;rw[hP] at r1 b1 rl;have hb0:0<b:=by
  rcases Nat.eq_zero_or_pos b with h|h
  ·rw[h] at hlt;omega
  ·exact h
 obtain⟨Q,hQ⟩: ∃Q,R/b=Q:=⟨_,rfl⟩;have q1:Q≤65535:=by
  rw[←hQ];have:R/b<65536:=by rw[Nat.div_lt_iff_lt_mul hb0];exact hlt
  omega
 have q2:Q*b≤R:=by rw[←hQ];exact Nat.div_mul_le_self R b
 rw[hQ];refine⟨q1, ?_⟩;have q3:Q*(P*under)≤Q*b:=Nat.mul_le_mul_left _ (by omega);have q4:P*(Q*under)<P*(top+1):=by
  have:P*(Q*under)=Q*(P*under):=by rw[←Nat.mul_assoc,Nat.mul_comm P Q,Nat.mul_assoc]
  rw[this,Nat.mul_add];omega
 have q5:Q*under<top+1:=Nat.lt_of_mul_lt_mul_left q4
 rcases Nat.eq_zero_or_pos Q with h|h
 ·rw[h];exact Nat.zero_le _
 ·obtain⟨q,rfl⟩: ∃q,Q=q+1:=⟨Q-1,by omega⟩
  have q6:q*(under+1)≤top:=by
   rw[Nat.add_mul] at q5;rw[Nat.mul_add];omega
  have:=(Nat.le_div_iff_mul_le (by omega)).2 q6;omega
def BI (xs cur:List Nat)(b k R:Nat):Prop:=
 cur.length=xs.length∧Dg.Small 65536 cur∧(∀j,j<k→cur.getD j 0=0)∧R<b∧Dg.vl 65536 (xs.drop k)=Dg.vl 65536 (cur.drop k)*b+R
theorem NF (xs:List Nat)(b:Nat)(hb:0<b):BI xs (List.replicate xs.length 0) b xs.length 0:=by
 refine⟨by simp,Dg.small_replicate _ _ (by omega),fun j hj=>by simp[List.getD_eq_getElem?_getD,hj],hb, ?_⟩
 simp[Dg.vl]
theorem Vn {xs cur:List Nat}{b k R N:Nat}(h:BI xs cur b (k+1) R)(hk:k<xs.length)(hN:N=xs.getD k 0+65536*R)(hb:0<b)(hx:xs.getD k 0<65536):
  N<65536*b∧BI xs (cur.set k (N/b)) b k (N % b):=by
 obtain⟨h1,h2,h3,h4,h5⟩:=h;have hlt:N<65536*b:=by
  have:65536*(R+1)≤65536*b:=Nat.mul_le_mul_left _ h4;omega
 have hq:N/b<65536:=by rw[Nat.div_lt_iff_lt_mul hb];exact hlt
 refine⟨hlt,by simpa using h1,Dg.small_set h2 _ _ hq,fun j hj=> ?_,Nat.mod_lt _ hb, ?_⟩
 ·rw[Dg.getD_set _ _ _ _ (by omega),if_neg (by omega)]
  exact h3 j (by omega)
 ·rw[iy 65536 xs k,iy 65536 (cur.set k (N/b)) k,Dg.getD_set _ _ _ _ (by omega),if_pos rfl,List.drop_set_of_lt (by omega),h5]
  have:=Nat.div_add_mod N b;rw[Nat.add_mul,Nat.mul_comm (N/b) b,Nat.mul_assoc,Nat.mul_add];omega
theorem QV {xs cur:List Nat}{b k R N:Nat}(h:BI xs cur b (k+1) R)(_hk:k<xs.length)(hN:N=xs.getD k 0+65536*R)(hlt:N<b):BI xs cur b k N:=by
 obtain⟨h1,h2,h3,h4,h5⟩:=h;refine⟨h1,h2,fun j hj=>h3 j (by omega),hlt, ?_⟩
 rw[iy 65536 xs k,iy 65536 cur k,h3 k (by omega),h5,Nat.zero_add,Nat.mul_add,Nat.mul_assoc];omega
theorem Vo {xs cur:List Nat}{b R:Nat}(h:BI xs cur b 0 R):Dg.vl 65536 xs/b=Dg.vl 65536 cur∧Dg.vl 65536 xs % b=R:=by
 obtain⟨h1,h2,h3,h4,h5⟩:=h;simp only[List.drop_zero] at h5;rw[h5,Nat.mul_comm];exact⟨by rw[Nat.mul_add_div (by omega),Nat.div_eq_of_lt h4];omega,by rw[Nat.mul_add_mod,Nat.mod_eq_of_lt h4]⟩
theorem NG {b d N:Nat}(h1:N/b≤d)(h2:b*d≤N)(hb:0<b):d=N/b:=by
 have:d≤N/b:=by rw[Nat.le_div_iff_mul_le hb,Nat.mul_comm];exact h2
 omega
theorem QW {b d N:Nat}(h1:N/b≤d)(h2: ¬b*d≤N)(_hb:0<b):N/b+1≤d:=by
 rcases Nat.lt_or_ge (N/b) d with h|h
 ·exact h
 ·exfalso
  apply h2;have e:d=N/b:=by omega
  rw[e];exact Nat.mul_div_le N b
end Go.Proofs.YtpainhklfoaniaaGreatDoor

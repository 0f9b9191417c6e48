/-
  Texts laid together: Co3, Co11, Co21, Co16, Tx2, As1, Gh2, Fi1.
-/
import Derived.Test.YtdhpndnncmagiaaGreatDoorMa20
import Derived.Test.YtdhpndnncmagiaaGreatDoorMa24
set_option maxRecDepth 100000
set_option maxHeartbeats 12800000
namespace Go.Proofs.YtdhpndnncmagiaaGreatDoor
open _root_.Go.Proofs.Tryz
open Go.RowKit
theorem kC (k R D L G sz ex fam c:Int)(gr:Bool)(F:Nat)(A:Value)(w:World)(hc:(c==0)=false)
  (HF: ∀w1,yC 30 #[yi k] w1 fun z w'=>z= .returned (yi c)∧w'=w1)
  (HL: ∀w1,yC 71 #[] w1 fun z w'=>z= .returned A∧yB w1 w')
  (hix: ∀W:World,(Instr.index 153 A (yi k)).run Tryz.prog W= .ok (ylV R D L G gr sz ex fam F) W):
  yC 36 #[yi k] w (yR w (.tuple #[ylV R D L G gr sz ex fam F,yi 0])):=by
 replace HF:Hid _:=HF;replace HL:Hid _:=HL;have hsf:=cD;have l0:=ah w (yzL 0 0 0 0 false 0 0 0) 94;have b0:=af w (.cells (yzA 0 0 0 0 false 0 0 0) 94)
 go_enter func36,ntmps36
 go_wp2_with fail
 refine(HF.out _).mono ?_;rintro z w' ⟨rfl,rfl⟩
 go_wp2_with fail
 refine(HL.out _).mono ?_;rintro z w2 ⟨rfl,b2⟩;have l2:=l0.l b2;have cR:au (((((((((w2.setCell ⟨w.heap.size,0,none⟩ (yi R)).setCell ⟨w.heap.size,1,none⟩ (yi D)).setCell ⟨w.heap.size,2,none⟩ (yi L)).setCell ⟨w.heap.size,3,none⟩ (yi G)).setCell ⟨w.heap.size,4,none⟩ (.bool gr)).setCell ⟨w.heap.size,5,none⟩ (yi sz)).setCell ⟨w.heap.size,6,none⟩ (yi ex)).setCell ⟨w.heap.size,7,none⟩ (yi fam)).setCell ⟨w.heap.size,8,none⟩ (.func (.func F) #[] #[])) w.heap.size 94 (ylL R D L G gr sz ex fam F):=(((((((((l2.set 0 (yi R)).set 1 (yi D)).set 2 (yi L)).set 3 (yi G)).set 4 (.bool gr)).set 5 (yi sz)).set 6 (yi ex)).set 7 (yi fam)).set 8 (.func (.func F) #[] #[]));have bR:=(((((((((ag w2 w.heap.size 0 (yi R)).trans (ag _ w.heap.size 1 (yi D))).trans (ag _ w.heap.size 2 (yi L))).trans (ag _ w.heap.size 3 (yi G))).trans (ag _ w.heap.size 4 (.bool gr))).trans (ag _ w.heap.size 5 (yi sz))).trans (ag _ w.heap.size 6 (yi ex))).trans (ag _ w.heap.size 7 (yi fam))).trans (ag _ w.heap.size 8 (.func (.func F) #[] #[]))).below (aa b0 b2) (Nat.le_refl _);have hl:=run_loadVar_mid (P:=Tryz.prog) _ w.heap.size 0 94 (ylL R D L G gr sz ex fam F) _ cR.range underlying94 rfl (by kernel_rfl);have HH:Hid (_∧_):=⟨hl,bR⟩;have f0:=l2.f 0;have f1:=l2.f 1;have f2:=l2.f 2;have f3:=l2.f 3;have f4:=l2.f 4;have f5:=l2.f 5;have f6:=l2.f 6;have f7:=l2.f 7;have f8:=l2.f 8;obtain⟨x0,x1,x2,x3,x4,x5,x6,x7,x8⟩:=l2.cs9;clear hl bR cR l0 l2 b0 b2 HF HL
 go_wp2
 obtain⟨hl,bR⟩:=HH.out;exact bodyPost_ret (aj results36 rfl rfl hl) rfl ⟨rfl,bR⟩
theorem zD (R D L G fam sz ex:Int)(gr ng:Bool)(F:Nat)(e f:Int)(w:World)(c:Int)(h0:e=0)(hc:(if f=0 then 1 else 2)=c):yC 203 #[ylV R D L G gr sz ex fam F,yfV ng e f] w (yR w (yi c)):=by
 have hsf:=cD;have l0:=(ah w (ylL R D L G gr sz ex fam F) 94).l (af _ (.cells (yfA ng e f) 157));have m0:=ah (w.alloc (.cells (ylA R D L G gr sz ex fam F) 94)) (yfL ng e f) 157;have b0:=aa (af w (.cells (ylA R D L G gr sz ex fam F) 94)) (af _ (.cells (yfA ng e f) 157));rw[World.size_alloc] at m0;subst h0 hc;have hz:=fun b=>Aj b
 by_cases hf:f=0
 ·subst hf
  have HZ:Hid (∀w1,yC 204 #[.bool true] w1 fun z w'=>z= .returned (yi 1)∧w'=w1):=hz true
  clear hz
  go_enter func203,ntmps203
  go_wp2_with fail
  refine(HZ.out _).mono ?_;rintro z w1 ⟨rfl,rfl⟩
  go_wp2
  go_ret
  exact⟨rfl,b0⟩
 ·have hfb:(f==0)=false:=by simpa using hf
  have HZ:Hid (∀w1,yC 204 #[.bool false] w1 fun z w'=>z= .returned (yi 2)∧w'=w1):=hz false
  rw[if_neg hf];clear hz hf
  go_enter func203,ntmps203
  go_wp2_with fail
  refine(HZ.out _).mono ?_;rintro z w1 ⟨rfl,rfl⟩
  go_wp2
  go_ret
  exact⟨rfl,b0⟩
theorem other_sign_mg:
  (∀(R D L G fam:Int) (gr:Bool) (sz ex:Nat) (F:Nat) (c p:Int) (ng:Bool) (ao:Option Addr) (dn dc:Nat) (sg0:Bool) (se sf:Nat) (w:World)
  (_:yJ 162 #[ylV R D L G gr sz ex fam F,yi c] (.tuple #[yfV sg0 se sf,.bool true]))
  (_:yJ 163 #[ylV R D L G gr sz ex fam F,yi c] (.bool false)) (_:dn=0) (_:p=0) (_:ng=true),
  yC 92 #[ylV R D L G gr sz ex fam F,yvV c ng (.slice ao dn dc) p] w (yR w (.tuple #[.string ⟨#[]⟩,yi 4])))∧
  (∀(R D L G fam:Int) (gr:Bool) (sz ex:Nat) (F:Nat) (c p:Int) (ng:Bool) (ao:Option Addr) (dn dc:Nat) (sg0:Bool) (se sf:Nat) (w:World)
  (_:yJ 162 #[ylV R D L G gr sz ex fam F,yi c] (.tuple #[yfV sg0 se sf,.bool true]))
  (_:yJ 163 #[ylV R D L G gr sz ex fam F,yi c] (.bool true))
  (st:ByteArray) (_:yJ 164 #[ylV R D L G gr sz ex fam F,yfV (sg0||ng) se sf] (.string st)) (_:dn=0) (_:p=0) (_:ng=true),
  yC 92 #[ylV R D L G gr sz ex fam F,yvV c ng (.slice ao dn dc) p] w (yR w (.tuple #[.string st,yi 0]))):=by
 refine⟨?_, ?_⟩;have _z:Mgk 0:=mgkI 0
 all_goals
  first| (rename Mgk 0=>_z;intro R D L G fam gr sz ex F c p ng ao dn dc sg0 se sf w HS HG hd hp hn)| (intro R D L G fam gr sz ex F c p ng ao dn dc sg0 se sf w HS HG st HW hd hp hn)
  subst hd hp hn;have HG':Hid _:=HG
  first| (rename Mgk 0=>_z)| (have HW':Hid _:=HW)
  have hsf:=cD;have bf:=af (w.alloc (.cells (ylA R D L G gr sz ex fam F) 94)) (.cells (yvA c true (.slice ao 0 dc) 0) 57);have l0:=(ah w (ylL R D L G gr sz ex fam F) 94).l bf;have m0:=ah (w.alloc (.cells (ylA R D L G gr sz ex fam F) 94)) (yvL c true (.slice ao 0 dc) 0) 57;have b0:=aa (af w (.cells (ylA R D L G gr sz ex fam F) 94)) bf;rw[World.size_alloc] at m0;have HS':Hid _:=HS;clear HS bf
  go_enter func92,ntmps92
  go_wp2_with fail
  refine(HS'.out _).mono ?_;rintro z w1 ⟨rfl,b1⟩;have bq:=af w1 (.cells (yfA sg0 se sf) 157);have l1:=(l0.l b1).l bq;have m1:=(m0.l b1).l bq;have q1:=ah w1 (yfL sg0 se sf) 157;have b01:=aa (aa b0 b1) bq;obtain⟨x0,x1,x2,x3,x4,x5,x6,x7,x8⟩:=l1.cs9;obtain⟨u0,u1,u2,u3⟩:=m1.cs4;obtain⟨s0,s1,s2⟩:=q1.cs3
  first| (rename Mgk 0=>_z)| (have hlw:w.heap.size<w1.heap.size:=(l0.l b1).lt)
  clear l0 m0 b0 b1 bq HS'
  go_wp2_with fail
  refine(HG'.out _).mono ?_;rintro z w2 ⟨rfl,b2⟩;have l2:=l1.l b2;have m2:=m1.l b2;have q2:=q1.l b2;have b02:=aa b01 b2;clear l1 m1 q1 b01 b2 x0 x1 x2 x3 x4 x5 x6 x7 x8 u0 u1 u2 u3 s0 s1 s2;obtain⟨x0,x1,x2,x3,x4,x5,x6,x7,x8⟩:=l2.cs9;obtain⟨u0,u1,u2,u3⟩:=m2.cs4;obtain⟨s0,s1,s2⟩:=q2.cs3
  first| (rename Mgk 0=>_z;go_wp2;go_ret2;exact⟨rfl,b02⟩)| (have k0:=q2.f 0;have hne0:w1.heap.size≠w.heap.size:=Nat.ne_of_gt hlw;have b03:=(ag _ w1.heap.size 0 (.bool true)).below b02 (Nat.le_of_lt hlw);clear HW HG;cases sg0;all_goals go_wp2_with fail;all_goals (refine(HW'.out _).mono ?_;rintro z w3 ⟨rfl,b3⟩;go_wp2;go_ret2;exact⟨rfl,aa b03 b3⟩))
theorem value_c1_mg:
  (∀(R sz ex:Nat) (D L G fam:Int) (gr:Bool) (F:Nat) (ng:Bool) (e f:Nat) (w:World)
  (_:yJ 143 #[ylV R D L G gr sz ex fam F,yfV ng e f] (yi 1)),
  yC 73 #[ylV R D L G gr sz ex fam F,yfV ng e f] w (iT w 1 ng 0 0))∧
  (∀(R sz ex:Nat) (D L G fam:Int) (gr:Bool) (F:Nat) (ng:Bool) (e f:Nat) (w:World)
  (_:yJ 143 #[ylV R D L G gr sz ex fam F,yfV ng e f] (yi 3)),
  yC 73 #[ylV R D L G gr sz ex fam F,yfV ng e f] w (iT w 3 ng 0 0))∧
  (∀(R sz ex:Nat) (D L G fam:Int) (gr:Bool) (F:Nat) (ng:Bool) (e f:Nat) (w:World)
  (_:yJ 143 #[ylV R D L G gr sz ex fam F,yfV ng e f] (yi 4)),
  yC 73 #[ylV R D L G gr sz ex fam F,yfV ng e f] w (iT w 4 false 0 0))∧
  (∀(R sz ex:Nat) (D L G fam:Int) (gr:Bool) (F:Nat) (ng:Bool) (e f:Nat) (w:World)
  (_:yJ 143 #[ylV R D L G gr sz ex fam F,yfV ng e f] (yi 5)),
  yC 73 #[ylV R D L G gr sz ex fam F,yfV ng e f] w (iT w 5 false 0 0)):=by
 refine⟨?_, ?_, ?_, ?_⟩;have _z:Mgk 0:=mgkI 0
 rotate_left
 have _z:Mgk 1:=mgkI 1
 rotate_left
 have _z:Mgk 2:=mgkI 2
 rotate_left
 rotate_left
 all_goals
  intro R sz ex D L G fam gr F ng e f w HC;have hsf:=cD;have bl:=af w (.cells (ylA R D L G gr sz ex fam F) 94);have bf:=af (w.alloc (.cells (ylA R D L G gr sz ex fam F) 94)) (.cells (yfA ng e f) 157);have bz:=af ((w.alloc (.cells (ylA R D L G gr sz ex fam F) 94)).alloc (.cells (yfA ng e f) 157)) (.cells (yvA 0 false yN 0) 57);have l0:=((ah w (ylL R D L G gr sz ex fam F) 94).l bf).l bz;have m0:=(ah (w.alloc (.cells (ylA R D L G gr sz ex fam F) 94)) (yfL ng e f) 157).l bz;have v0:=ah ((w.alloc (.cells (ylA R D L G gr sz ex fam F) 94)).alloc (.cells (yfA ng e f) 157)) (yvL 0 false yN 0) 57;have b0:=aa (aa bl bf) bz;rw[World.size_alloc] at m0;rw[World.size_alloc,World.size_alloc] at v0;clear bl bf bz;have HC':Hid _:=HC;clear HC
  go_enter func73,ntmps73
  go_wp2_with fail
  refine(HC'.out _).mono ?_;rintro z w1 ⟨rfl,b1⟩
  first| (rename Mgk 0=>_z;have bq:=af w1 (.cells (yvA 1 ng yN 0) 57))| (rename Mgk 1=>_z;have bq:=af w1 (.cells (yvA 3 ng yN 0) 57))| (rename Mgk 2=>_z;have bq:=af w1 (.cells (yvA 4 false yN 0) 57))| (have bq:=af w1 (.cells (yvA 5 false yN 0) 57))
  have m1:=(m0.l b1).l bq;have v1:=(v0.l b1).l bq
  first| (rename Mgk 0=>_z;have q1:=ah w1 (yvL 1 ng yN 0) 57)| (rename Mgk 1=>_z;have q1:=ah w1 (yvL 3 ng yN 0) 57)| (rename Mgk 2=>_z;have q1:=ah w1 (yvL 4 false yN 0) 57)| (have q1:=ah w1 (yvL 5 false yN 0) 57)
  have b01:=aa (aa b0 b1) bq;have hq3:w.heap.size+3≤w1.heap.size:=(v0.l b1).lt
  first| (rename Mgk 0=>_z;have y0:=((m0.l b1).l (af w1 (.cells (yvA 1 false yN 0) 57))).c 0 rfl)| (rename Mgk 1=>_z;have y0:=((m0.l b1).l (af w1 (.cells (yvA 3 false yN 0) 57))).c 0 rfl)| (rename Mgk 2=>_z;have y0:=((m0.l b1).l (af w1 (.cells (yvA 4 false yN 0) 57))).c 0 rfl)| (have y0:=((m0.l b1).l (af w1 (.cells (yvA 5 false yN 0) 57))).c 0 rfl)
  obtain⟨z0,z1,z2,z3⟩:=v1.cs4;have j0:=v1.f 0;have j1:=v1.f 1;have j2:=v1.f 2;have j3:=v1.f 3;obtain⟨s0,s1,s2,s3⟩:=q1.cs4;have hne:w1.heap.size≠w.heap.size+1+1:=by omega
  first| (rename Mgk 0=>_z;have bu5:=(((ag (w1.alloc (.cells (yvA 1 ng yN 0) 57)) (w.heap.size+1+1) 0 (yi 1)).trans (ag _ (w.heap.size+1+1) 1 (.bool ng))).trans (ag _ (w.heap.size+1+1) 2 yN)).trans (ag _ (w.heap.size+1+1) 3 (yi 0)))| (rename Mgk 1=>_z;have bu5:=(((ag (w1.alloc (.cells (yvA 3 ng yN 0) 57)) (w.heap.size+1+1) 0 (yi 3)).trans (ag _ (w.heap.size+1+1) 1 (.bool ng))).trans (ag _ (w.heap.size+1+1) 2 yN)).trans (ag _ (w.heap.size+1+1) 3 (yi 0)))| (rename Mgk 2=>_z;have bu5:=(((ag (w1.alloc (.cells (yvA 4 false yN 0) 57)) (w.heap.size+1+1) 0 (yi 4)).trans (ag _ (w.heap.size+1+1) 1 (.bool false))).trans (ag _ (w.heap.size+1+1) 2 yN)).trans (ag _ (w.heap.size+1+1) 3 (yi 0)))| (have bu5:=(((ag (w1.alloc (.cells (yvA 5 false yN 0) 57)) (w.heap.size+1+1) 0 (yi 5)).trans (ag _ (w.heap.size+1+1) 1 (.bool false))).trans (ag _ (w.heap.size+1+1) 2 yN)).trans (ag _ (w.heap.size+1+1) 3 (yi 0)))
  first| (rename Mgk 0=>_z;have cR:au (((((w1.alloc (.cells (yvA 1 ng yN 0) 57)).setCell ⟨w.heap.size+1+1,0,none⟩ (yi 1)).setCell ⟨w.heap.size+1+1,1,none⟩ (.bool ng)).setCell ⟨w.heap.size+1+1,2,none⟩ yN).setCell ⟨w.heap.size+1+1,3,none⟩ (yi 0)) (w.heap.size+1+1) 57 (yvL 1 ng yN 0):=(((v1.set 0 (yi 1)).set 1 (.bool ng)).set 2 yN).set 3 (yi 0))| (rename Mgk 1=>_z;have cR:au (((((w1.alloc (.cells (yvA 3 ng yN 0) 57)).setCell ⟨w.heap.size+1+1,0,none⟩ (yi 3)).setCell ⟨w.heap.size+1+1,1,none⟩ (.bool ng)).setCell ⟨w.heap.size+1+1,2,none⟩ yN).setCell ⟨w.heap.size+1+1,3,none⟩ (yi 0)) (w.heap.size+1+1) 57 (yvL 3 ng yN 0):=(((v1.set 0 (yi 3)).set 1 (.bool ng)).set 2 yN).set 3 (yi 0))| (rename Mgk 2=>_z;have cR:au (((((w1.alloc (.cells (yvA 4 false yN 0) 57)).setCell ⟨w.heap.size+1+1,0,none⟩ (yi 4)).setCell ⟨w.heap.size+1+1,1,none⟩ (.bool false)).setCell ⟨w.heap.size+1+1,2,none⟩ yN).setCell ⟨w.heap.size+1+1,3,none⟩ (yi 0)) (w.heap.size+1+1) 57 (yvL 4 false yN 0):=(((v1.set 0 (yi 4)).set 1 (.bool false)).set 2 yN).set 3 (yi 0))| (have cR:au (((((w1.alloc (.cells (yvA 5 false yN 0) 57)).setCell ⟨w.heap.size+1+1,0,none⟩ (yi 5)).setCell ⟨w.heap.size+1+1,1,none⟩ (.bool false)).setCell ⟨w.heap.size+1+1,2,none⟩ yN).setCell ⟨w.heap.size+1+1,3,none⟩ (yi 0)) (w.heap.size+1+1) 57 (yvL 5 false yN 0):=(((v1.set 0 (yi 5)).set 1 (.bool false)).set 2 yN).set 3 (yi 0))
  have bR:=bu5.below b01 (by omega)
  first| (rename Mgk 0=>_z;have hl:=run_loadVar_mid (P:=Tryz.prog) _ (w.heap.size+1+1) 0 57 (yvL 1 ng yN 0) _ cR.range underlying57 rfl (by kernel_rfl))| (rename Mgk 1=>_z;have hl:=run_loadVar_mid (P:=Tryz.prog) _ (w.heap.size+1+1) 0 57 (yvL 3 ng yN 0) _ cR.range underlying57 rfl (by kernel_rfl))| (rename Mgk 2=>_z;have hl:=run_loadVar_mid (P:=Tryz.prog) _ (w.heap.size+1+1) 0 57 (yvL 4 false yN 0) _ cR.range underlying57 rfl (by kernel_rfl))| (have hl:=run_loadVar_mid (P:=Tryz.prog) _ (w.heap.size+1+1) 0 57 (yvL 5 false yN 0) _ cR.range underlying57 rfl (by kernel_rfl))
  have HH:Hid (_∧_):=⟨hl,bR⟩;clear hl bR cR bu5 b01 q1 v1 m1 l0 m0 v0 b0 b1 bq
  go_wp2
  obtain⟨hl,bR⟩:=HH.out;exact bodyPost_ret (br results73 rfl hl) rfl ⟨_,rfl,aN _ _,bR⟩
theorem tread_okt_n_mg:
  (∀(tx rz ro af wh be:ByteArray) (ng:Bool) (w:World) (_:tx.size≤400) (_:wh.size+be.size≤400) (_:be.toList.isEmpty=false)
  (_:yJ 121 #[.string tx,.string ⟨#[45]⟩] (.tuple #[.string rz,.bool ng]))
  (_:yH w 122 #[.string rz,.string ⟨#[101]⟩] (.tuple #[.string ro,.string af,.bool false]))
  (_:yH w 122 #[.string ro,.string ⟨#[46]⟩] (.tuple #[.string wh,.string be,.bool true]))
  (_:yJ 124 #[.string (wh++be)] (.bool true)),
  yC 58 #[.string tx] w (yR w (.tuple #[.agg #[.bool ng,.string (wh++be),yi (-(be.size:Int))],yi 0])))∧
  (∀(tx rz ro af wh be:ByteArray) (ng:Bool) (w:World) (_:tx.size≤400) (_:wh.size+be.size≤400)
  (_:yJ 121 #[.string tx,.string ⟨#[45]⟩] (.tuple #[.string rz,.bool ng]))
  (_:yH w 122 #[.string rz,.string ⟨#[101]⟩] (.tuple #[.string ro,.string af,.bool false]))
  (_:yH w 122 #[.string ro,.string ⟨#[46]⟩] (.tuple #[.string wh,.string be,.bool false]))
  (_:yJ 124 #[.string (wh++be)] (.bool true)),
  yC 58 #[.string tx] w (yR w (.tuple #[.agg #[.bool ng,.string (wh++be),yi (-(be.size:Int))],yi 0])))∧
  (∀(tx rz ro af wh be:ByteArray) (ng po:Bool) (w:World) (_:tx.size≤400) (_:wh.size+be.size≤400)
  (_:yJ 121 #[.string tx,.string ⟨#[45]⟩] (.tuple #[.string rz,.bool ng]))
  (_:yH w 122 #[.string rz,.string ⟨#[101]⟩] (.tuple #[.string ro,.string af,.bool false]))
  (_:yH w 122 #[.string ro,.string ⟨#[46]⟩] (.tuple #[.string wh,.string be,.bool po]))
  (_:yJ 124 #[.string (wh++be)] (.bool false)),
  yC 58 #[.string tx] w (yR w (.tuple #[.agg #[.bool false,.string ⟨#[]⟩,yi 0],yi 1])))∧
  (∀(tx rz ro af wh:ByteArray) (ng:Bool) (w:World) (_:tx.size≤400) (_:wh.size≤400)
  (_:yJ 121 #[.string tx,.string ⟨#[45]⟩] (.tuple #[.string rz,.bool ng]))
  (_:yH w 122 #[.string rz,.string ⟨#[101]⟩] (.tuple #[.string ro,.string af,.bool false]))
  (_:yH w 122 #[.string ro,.string ⟨#[46]⟩] (.tuple #[.string wh,.string ⟨#[]⟩,.bool true]))
  (_:yJ 124 #[.string (wh++⟨#[]⟩)] (.bool true)),
  yC 58 #[.string tx] w (yR w (.tuple #[.agg #[.bool false,.string ⟨#[]⟩,yi 0],yi 1]))):=by
 refine⟨?_, ?_, ?_, ?_⟩;have _z:Mgk 0:=mgkI 0
 rotate_left
 have _z:Mgk 1:=mgkI 1
 rotate_left
 have _z:Mgk 2:=mgkI 2
 rotate_left
 rotate_left
 all_goals
  first| (rename Mgk 0=>_z;intro tx rz ro af wh be ng w h4 hsz hbe HP HE HQ HD)| (rename Mgk 1=>_z;intro tx rz ro af wh be ng w h4 hsz HP HE HQ HD)| (rename Mgk 2=>_z;intro tx rz ro af wh be ng po w h4 hsz HP HE HQ HD)| (intro tx rz ro af wh ng w h4 hsz HP HE HQ HD)
  replace HP:Hid _:=HP;replace HE:Hid _:=HE;replace HQ:Hid _:=HQ;replace HD:Hid _:=HD;obtain⟨W3,hW4,q1,b2⟩:=cA w [.bool false,.string ⟨#[]⟩,yi 0] 133;replace hW4:Hid _:=hW4
  go_enter func58,ntmps58
  go_upto_region 1 with fail
  rw[hW4.out];clear hW4
  go_wp2_with fail
  refine(HP.out _).mono ?_;rintro zz w5 ⟨rfl,bb6⟩;have q7:=q1.l bb6;have b8:=aa b2 bb6;clear q1 b2 bb6 HP
  go_wp2_with fail
  refine(HE.out _ b8).mono ?_;rintro zz w9 ⟨rfl,bb10⟩;have q11:=q7.l bb10;have b12:=aa b8 bb10;clear q7 b8 bb10 HE
  go_wp2_with fail
  refine(HQ.out _ b12).mono ?_;rintro zz w13 ⟨rfl,bb14⟩;have q15:=q11.l bb14;have b16:=aa b12 bb14;clear q11 b12 bb14 HQ
  go_wp2_with fail
  refine(HD.out _).mono ?_;rintro zz w17 ⟨rfl,bb18⟩;have q19:=q15.l bb18;have b20:=aa b16 bb18;clear q15 b16 bb18 HD
  first| (rename Mgk 0=>_z;have hf:=afy (P:=Tryz.prog) q19 b20 (by omega) underlying133 rfl (by kernel_rfl) (.bool ng) (.string (wh++be)) (yi (-(be.size:Int))))| (rename Mgk 1=>_z;have hf:=afy (P:=Tryz.prog) q19 b20 (by omega) underlying133 rfl (by kernel_rfl) (.bool ng) (.string (wh++be)) (yi (-(be.size:Int))))| (rename Mgk 2=>_z;have hf:=afy (P:=Tryz.prog) q19 b20 (by omega) underlying133 rfl (by kernel_rfl) (.bool false) (.string ⟨#[]⟩) (yi 0))| (have hf:=afy (P:=Tryz.prog) q19 b20 (by omega) underlying133 rfl (by kernel_rfl) (.bool false) (.string ⟨#[]⟩) (yi 0))
  have HH:Hid (_∧_):=⟨hf.1,hf.2.1⟩;obtain⟨⟨z0,z1,z2⟩,y0,y1,y2⟩:=afA q19;clear hf q19 b20
  go_wp2
  obtain⟨hl,bR⟩:=HH.out;exact bodyPost_ret (aj results58 rfl rfl hl) rfl ⟨rfl,bR⟩
open Go.RowKit Go.ChangeMaps Go.MapKept
def Xo:Array MapEntry:= #[⟨yi 1,yi 4,0⟩,⟨yi 2,yi 1,1⟩,⟨yi 3,yi 5,2⟩]
theorem JQ (w:World):yC 199 #[] w fun z w'=>z= .returned (.map (some w.heap.size))∧w'.heap[w.heap.size]? =some (.map Xo 3)∧yB w w':=by
 have ht:=underlying257;have hk:=underlying74;have hb0:(w.alloc (.map #[] 0)).heap[w.heap.size]? =some (.map #[] 0):=heap_alloc_new _ _;have b0:=af w (.map #[] 0);have e0:=run_makeMap (P:=Tryz.prog) 257 w;obtain⟨W1,e1,hb1,b1⟩:=sS ht hk hb0 (Nat.le_refl _) b0 1 (yi 4) rfl;obtain⟨W2,e2,hb2,b2⟩:=sS ht hk hb1 (Nat.le_refl _) b1 2 (yi 1) rfl;obtain⟨W3,e3,hb3,b3⟩:=sS ht hk hb2 (Nat.le_refl _) b2 3 (yi 5) rfl;have HB:Hid (W3.heap[w.heap.size]? =some (.map Xo 3)):=hb3;clear hb1 hb2 hb3 b1 b2 ht hk hb0
 go_enter func199,ntmps199
 go_wp2
 go_ret
 exact⟨rfl,HB.out,b3⟩
def AZ (f:Int):Int:=if f=1 then 4 else if f=2 then 1 else 5
theorem A5 (f:Int)(hf:f=1∨f=2∨f=3)(w:World):yC 134 #[yi f] w (yR w (yi (AZ f))):=by
 have HN:Hid _:=JQ;have HL:Hid (∀W r,W.heap[r]? =some (.map Xo 3)→(Instr.lookup 257 (.map (some r)) (yi f) false).run Tryz.prog W= .ok (yi (AZ f)) W):=fun W r hm=>by
  rcases hf with rfl|rfl|rfl
  ·exact pj underlying257 underlying74 hm 1 (i:=0) rfl
  ·exact pj underlying257 underlying74 hm 2 (i:=1) rfl
  ·exact pj underlying257 underlying74 hm 3 (i:=2) rfl
 generalize AZ f=c at*;clear hf
 go_enter func134,ntmps134
 go_wp2_with fail
 refine(HN.out _).mono ?_;rintro z w1 ⟨rfl,hm,b1⟩;have hl:=HL.out w1 _ hm;clear hm HL HN
 go_wp2
 go_ret
 exact⟨rfl,b1⟩
theorem Pb (n wy fam R D L G c fl:Int)(gr:Bool)(w:World)
  (HN:yJ 134 #[yi fam] (yi c)):
  yC 67 #[ykV n wy fam R D L G gr,yi fl] w (yR w (.tuple #[yoV c false false yN 0,yi fl])):=by
 replace HN:Hid _:=HN;have ad:=af w (.cells (ykA n wy fam R D L G gr) 83);have ao:=af (w.alloc (.cells (ykA n wy fam R D L G gr) 83)) (.cells (yoA 0 false false yN 0) 88);have d0:=(ah w (ykL n wy fam R D L G gr) 83).l ao;have o0:=ah (w.alloc (.cells (ykA n wy fam R D L G gr) 83)) (yoL 0 false false yN 0) 88;rw[World.size_alloc] at o0;have b0:=aa ad ao;clear ad ao
 go_enter func67,ntmps67
 go_upto_region 1 with fail
 generalize(w.alloc (.cells (ykA n wy fam R D L G gr) 83)).alloc (.cells (yoA 0 false false yN 0) 88)=W0 at d0 o0 b0⊢;have y2:=d0.c 2 rfl
 go_wp2_with fail
 refine(HN.out _).mono ?_;rintro z w1 ⟨rfl,b1⟩;have o1:=o0.l b1;have b01:=aa b0 b1;clear y2 d0 o0 b0 b1 HN;have cR:au (((((w1.setCell ⟨w.heap.size+1,0,none⟩ (yi c)).setCell ⟨w.heap.size+1,1,none⟩ (.bool false)).setCell ⟨w.heap.size+1,2,none⟩ (.bool false)).setCell ⟨w.heap.size+1,3,none⟩ yN).setCell ⟨w.heap.size+1,4,none⟩ (yi 0)) (w.heap.size+1) 88 (yoL c false false yN 0):=(((((o1.set 0 (yi c)).set 1 (.bool false)).set 2 (.bool false)).set 3 yN).set 4 (yi 0));have bu:=((((ag w1 (w.heap.size+1) 0 (yi c)).trans (ag _ (w.heap.size+1) 1 (.bool false))).trans (ag _ (w.heap.size+1) 2 (.bool false))).trans (ag _ (w.heap.size+1) 3 yN)).trans (ag _ (w.heap.size+1) 4 (yi 0));have bR:=bu.below b01 (by omega);have hl:=run_loadVar_mid (P:=Tryz.prog) _ (w.heap.size+1) 0 88 (yoL c false false yN 0) _ cR.range underlying88 rfl (by kernel_rfl);have HH:Hid (_∧_):=⟨hl,bR⟩;obtain⟨z0,z1,z2,z3,z4⟩:=o1.cs5;have fz0:=o1.f 0;have fz1:=o1.f 1;have fz2:=o1.f 2;have fz3:=o1.f 3;have fz4:=o1.f 4;clear hl bR bu cR;clear o1 b01
 go_wp2
 obtain⟨hl,bR⟩:=HH.out;exact bodyPost_ret (aj results67 rfl rfl hl) rfl ⟨rfl,bR⟩
def aaV (wy:Int)(ng:Bool):Bool:=if wy=1∨wy=2 then true else if wy=4 then !ng else(ng&&decide (wy=5))
theorem CT (n wy fam R D L G:Int)(gr ng:Bool)(hw:1≤wy∧wy≤5)(w:World):yC 195 #[ykV n wy fam R D L G gr,.bool ng] w (yR w (.bool (aaV wy ng))):=by
 have h5:wy=1∨wy=2∨wy=3∨wy=4∨wy=5:=by omega
 have b0:=af w (.cells (ykA n wy fam R D L G gr) 83);clear hw
 rcases h5 with rfl|rfl|rfl|rfl|rfl
 all_goals
  cases ng
  all_goals
   go_enter func195,ntmps195
   go_wp2
   go_ret
   exact⟨rfl,b0⟩
theorem It (n wy fam R D L G c p fl er:Int)(gr ng:Bool)(ao:Option Addr)(la ca:Nat)(st:ByteArray)(w:World)
  (HE:yH w 54 #[yi n,yvV c ng (.slice ao la ca) p] (.tuple #[.string st,yi er])):
  yC 62 #[ykV n wy fam R D L G gr,yvV c ng (.slice ao la ca) p,yi fl] w (yR w (if er=0 then .tuple #[.string st,yi fl,yi 0] else .tuple #[.string ⟨#[]⟩,yi 0,yi er])):=by
 replace HE:Hid _:=HE;have ad:=af w (.cells (ykA n wy fam R D L G gr) 83);have av:=af (w.alloc (.cells (ykA n wy fam R D L G gr) 83)) (.cells (yvA c ng (.slice ao la ca) p) 57);have d0:=(ah w (ykL n wy fam R D L G gr) 83).l av;have v0:=ah (w.alloc (.cells (ykA n wy fam R D L G gr) 83)) (yvL c ng (.slice ao la ca) p) 57;rw[World.size_alloc] at v0;have b0:=aa ad av;clear ad av
 by_cases he:er=0
 ·rw[if_pos he]
  subst he
  go_enter func62,ntmps62
  go_upto_region 1 with fail
  generalize(w.alloc (.cells (ykA n wy fam R D L G gr) 83)).alloc (.cells (yvA c ng (.slice ao la ca) p) 57)=W0 at d0 v0 b0⊢;have y0:=d0.c 0 rfl;obtain⟨x0,x1,x2,x3⟩:=v0.cs4
  go_wp2_with fail
  refine(HE.out _ b0).mono ?_;rintro z w1 ⟨rfl,b1⟩;have b01:=aa b0 b1
  go_wp2
  go_ret3
  exact⟨rfl,b01⟩
 ·rw[if_neg he]
  have hef:(er==0)=false:=by simpa using he
  go_enter func62,ntmps62
  go_upto_region 1 with fail
  generalize(w.alloc (.cells (ykA n wy fam R D L G gr) 83)).alloc (.cells (yvA c ng (.slice ao la ca) p) 57)=W0 at d0 v0 b0⊢;have y0:=d0.c 0 rfl;obtain⟨x0,x1,x2,x3⟩:=v0.cs4
  go_wp2_with fail
  refine(HE.out _ b0).mono ?_;rintro z w1 ⟨rfl,b1⟩;have b01:=aa b0 b1;clear he
  go_wp2
  go_ret3
  exact⟨rfl,b01⟩
theorem VU (R D L G:Int)(gr s:Bool)(ao:Option Addr)(ca n:Nat)(e:Int)(w:World)(hg:bk R D L G=0)(hr:Rd w .u32 (.slice ao (Dg.dg 4294967296 n).length ca) (Dg.dg 4294967296 n))(hl:(Dg.dg 4294967296 n).length≤1200)(e1: -20000≤e)(e2:e≤20000)(hT:Tab w):
  Calls Tryz.prog 263 #[.agg #[.int .i64 R,.int .i64 D,.int .i64 L,.int .i64 G,.bool gr],.agg #[.bool s,.slice ao (Dg.dg 4294967296 n).length ca,.int .i64 e]] w (D7 w (dA R D L G gr n e) (fD R D L G gr n e) (fK R D L G gr n e)):=by
 have hdv:Dv w (.agg #[.bool s,.slice ao (Dg.dg 4294967296 n).length ca,.int .i64 e]) ⟨s,n,e⟩:=⟨_,rfl,hr⟩;obtain⟨hR,d1,d2,l1,l2,g1,g2,lg,l16⟩:=cB hg
 by_cases h0:n=0
 ·have hh:dA R D L G gr n e=true:=decide_eq_true (.inl h0)
  rw[hh,show fD R D L G gr n e=0 from if_pos h0,show fK R D L G gr n e=L from if_pos h0]
  refine RT R D L G gr s ao _ ca e w (fun w1 b=> ?_)
  have:=qB _ _ w1 (hdv.l b)
  rwa [show dJ ⟨s,n,e⟩=0 from if_pos h0] at this
 ·have hbn:bitLen n≤32*1200:=oP hl
  have htz:=gZ n 1200 hl;obtain⟨k1,k2,k3,k4⟩:=Og (gr:=gr) (n:=n) (e:=e) hg (by omega) (by omega) (by omega);have hbe:(bare ⟨s,n,e⟩).e=e+(tz n:Int):=(gN (t:=⟨s,n,e⟩) h0).2.1;obtain⟨⟨bs,bn,be⟩,hbt⟩: ∃b,bare ⟨s,n,e⟩=b:=⟨_,rfl⟩;rw[hbt] at hbe;simp only at hbe;have hi:=GK (R:=R) (D:=D) (L:=L) (G:=G) (gr:=gr) (e:=e) h0;refine adT R D L G gr s ao _ ca e (dJ ⟨s,n,e⟩) (bitLen n) (aT R D ((bitLen n:Int)-1+e)) (cP R D L gr n e) (ai R) bs bn be (decide (aT R D ((bitLen n:Int)-1+e)<L)) (decide (aT R D ((bitLen n:Int)-1+e)<L)&&gr) (dA R D L G gr n e) (fD R D L G gr n e) (fK R D L G gr n e) w ?_ ?_ ?_ ?_ ?_ rfl rfl ?_ ?_ ?_ ?_ ?_ ?_ ?_ ?_ ?_ ?_ ?_ ?_ ?_
  ·have:dJ ⟨s,n,e⟩≠0:=by
    unfold dJ;rw[if_neg h0]
    split<;>decide
   simpa using this
  ·exact IntWalk.i64_in _ ⟨by omega,by omega⟩
  ·exact IntWalk.i64_in _ ⟨by omega,by omega⟩
  ·exact IntWalk.i64_in _ ⟨by omega,by omega⟩
  ·exact IntWalk.i64_in _ ⟨by omega,by omega⟩
  ·intro h
   exact if_pos h
  ·intro h
   exact if_neg (by rw[h];decide)
  ·intro h
   have:=hi.1 h;omega
  ·intro h
   have: ¬(L≤cP R D L gr n e∧cP R D L gr n e≤G∧(ai R:Int)*cP R D L gr n e≤e+(tz n:Int)):=fun c=>by
    rw[hi.2 c] at h
    cases h
   omega
  ·intro h
   exact(if_neg h0).trans (if_pos h)
  ·intro h
   have h2: ¬dA R D L G gr n e=true:=by rw[h];decide
   exact⟨(if_neg h0).trans (if_neg h2),(if_neg h0).trans (if_neg h2)⟩
  ·intro w1 b
   exact qB _ _ w1 (hdv.l b)
  ·intro w1
   exact cN s ao _ ca e w1
  ·intro w1 b
   have:=kE _ _ w1 (hr.l b) (Dg.small_dg _ _ (by omega)) (Dg.norm_dg _ _ (by omega)) (by omega);rw[Dg.vl_dg _ _ (by omega)] at this;refine this.mono ?_;rintro z w' ⟨rfl,rfl⟩;exact⟨rfl,Below.refl _ _⟩
  ·intro w1
   exact FE R D L G gr _ w1 d1 d2 (by omega) (by omega)
  ·intro w1
   have:=tY R D L G gr w1
   rwa [jf] at this
  ·intro w1 b
   have:=II _ ⟨s,n,e⟩ w1 (hdv.l b) (by simp only;omega) ⟨by simp only;omega,by simp only;omega⟩ (hT.l b) (by simp only;omega)
   rwa [hbt] at this
  ·intro h w1 b
   have:=eO _ _ (e-(ai R:Int)*cP R D L gr n e) w1 (hr.l b) (Dg.small_dg _ _ (by omega)) (by omega) (by omega) (by omega);rw[Dg.vl_dg _ _ (by omega)] at this;rw[show fD R D L G gr n e=shN n (e-(ai R:Int)*cP R D L gr n e) from(if_neg h0).trans (if_pos h)]
   exact this
theorem afx (n wy fam R D L G rc:Int)(gr qs:Bool)(ao:Option Addr)(la ca:Nat)(bo:Option Addr)(lb cb:Nat)(E:Int)(ps:Bool)(pd:Nat)(pp:Int)(ex ov un:Bool)(c:Int)(g:Bool)(m:Nat)(q fl:Int)(st:ByteArray)(f1 e1:Int)(X:Value)(w:World)
  (hX0:rc≠0→X= .tuple #[.string ⟨#[]⟩,yi 0,yi rc]) (hX1:rc=0→X= .tuple #[.string st,yi f1,yi e1])
  (HD:yJ 60 #[yi n] (.tuple #[ykV n 0 fam R D L G gr,yi 0]))
  (HR: ∀w1,yB w w1→yC 61 #[yrV qs (.slice ao la ca) (.slice bo lb cb) E,ygV R D L G gr,yi wy] w1 fun z w'=> ∃po pc,z= .returned (.tuple #[ypV ps (yT po pd pc) pp ex ov un,yi rc])∧Rd w' .u32 (yT po pd pc) (Dg.dg 4294967296 pd)∧yB w1 w')
  (HSt:rc=0→ ∀po pc w1,yB w w1→Rd w1 .u32 (yT po pd pc) (Dg.dg 4294967296 pd)→yC 63 #[ykV n wy fam R D L G gr,ypV ps (yT po pd pc) pp ex ov un] w1 (B6 w1 c g m q fl))
  (HEn:rc=0→ ∀vo vc w1,yB w w1→Rd w1 .u32 (yT vo m vc) (Dg.dg 4294967296 m)→yC 62 #[ykV n wy fam R D L G gr,yvV c g (yT vo m vc) q,yi fl] w1 (yR w1 (.tuple #[.string st,yi f1,yi e1]))):
  yC 32 #[yi n,yrV qs (.slice ao la ca) (.slice bo lb cb) E,yi wy] w fun z w'=>z= .returned X∧yB w w':=by
 replace HD:Hid _:=HD;replace HR:Hid _:=HR;replace HSt:Hid _:=HSt;replace HEn:Hid _:=HEn;replace hX0:Hid _:=hX0;replace hX1:Hid _:=hX1;have a0:=af w (.cells (yrA qs (.slice ao la ca) (.slice bo lb cb) E) 77);have q0:=ah w (yrL qs (.slice ao la ca) (.slice bo lb cb) E) 77
 go_enter func32,ntmps32
 go_wp2_with fail
 refine(HD.out _).mono ?_;rintro z w1 ⟨rfl,b1⟩;have al:=af w1 (.cells (ykA n 0 fam R D L G gr) 83);have d1:=ah w1 (ykL n 0 fam R D L G gr) 83;have q1:=(q0.l b1).l al;have b2:=aa (aa a0 b1) al;have hqd:w.heap.size<w1.heap.size:=(q0.l b1).lt;clear a0 b1 al q0 HD
 go_upto_region 2 with fail
 generalize w1.alloc (.cells (ykA n 0 fam R D L G gr) 83)=W1 at b2 d1 q1⊢;generalize w1.heap.size=PD at d1 hqd⊢;have bu:=ag W1 PD 1 (yi wy);have d2:au (W1.setCell ⟨PD,1,none⟩ (yi wy)) PD 83 (ykL n wy fam R D L G gr):=d1.set 1 (yi wy);have q2:=bu.loc q1 (by omega);have b3:=bu.below b2 (by omega);have x1:=d1.c 1 rfl;have f1':=d1.f 1;clear bu d1 q1 b2
 go_upto_region 5 with fail
 generalize W1.setCell ⟨PD,1,none⟩ (yi wy)=W2 at d2 q2 b3⊢;obtain⟨y0,y1,y2,y3,y4,y5,y6,y7⟩:=d2.cs8;obtain⟨z0,z1,z2,z3⟩:=q2.cs4
 go_wp2_with fail
 refine(HR.out _ b3).mono ?_;rintro z w3 ⟨po,pc,rfl,rp,bp⟩;have al:=af w3 (.cells (ypA ps (yT po pd pc) pp ex ov un) 140);have p4:=ah w3 (ypL ps (yT po pd pc) pp ex ov un) 140;have d4:=(d2.l bp).l al;have r4:=rp.l al;have b4:=aa (aa b3 bp) al;clear y0 y1 y2 y3 y4 y5 y6 y7 z0 z1 z2 z3 d2 q2 b3 rp bp al HR x1 f1'
 go_upto_region 6 with fail
 generalize w3.alloc (.cells (ypA ps (yT po pd pc) pp ex ov un) 140)=W4 at d4 p4 r4 b4⊢;generalize w3.heap.size=PP at p4⊢
 by_cases hrc:rc=0
 ·replace HSt:Hid _:=HSt.out hrc
  replace HEn:Hid _:=HEn.out hrc;have hx:=hX1.out hrc;subst hx hrc;clear hX0 hX1
  go_upto_region 8 with fail
  have bW:yB W4 W4.drew:=(Below.refl _ _).drew;have d5:=d4.l bW;have p5:=p4.l bW;have r5:=r4.l bW;have b5:=aa b4 bW;clear bW d4 p4 r4 b4;refine wp_region_held_drew (S:=fun wq=>wq.rangeAt PD 0 (ykL n wy fam R D L G gr)∧wq.rangeAt PP 0 (ypL ps (yT po pd pc) pp ex ov un)) (by kernel_rfl) ⟨d5.range,p5.range⟩ (fun hS0=> ?_)
  refine tq 0 ((ykV n wy fam R D L G gr)) rfl (fun w0 hw0=>fy 83 (.tmp 9) rfl PD 0 (by kernel_rfl) _ _ hw0.1 underlying83 rfl (by kernel_rfl)) hS0 ?_
  refine tq 1 ((ykV n wy fam R D L G gr)) rfl (fun w0 hw0=>fy 83 (.tmp 9) rfl PD 0 (by kernel_rfl) _ _ hw0.1 underlying83 rfl (by kernel_rfl)) hS0 ?_
  refine tq 2 ((ypV ps (yT po pd pc) pp ex ov un)) rfl (fun w0 hw0=>fy 140 (.tmp 11) rfl PP 0 (by kernel_rfl) _ _ hw0.2 underlying140 rfl (by kernel_rfl)) hS0 ?_
  refine wpAnyH_ready (rs:=[3]) (by kernel_rfl) (by simp) ?_;refine AllReadyH.cons rfl (fun K hK=> ?_) AllReadyH.nil
  go_simp
  refine(HSt.out _ _ _ b5 r5).mono ?_;rintro z w6 ⟨u,rfl,r6,b6⟩;obtain⟨vo,vc,hu⟩:=r6.shape;subst hu;refine hK.out _ _ ⟨(d5.l b6).range,(p5.l b6).range⟩ (fun hS6=> ?_)
  have d6:=d5.l b6;have p6:=p5.l b6;have b06:=aa b5 b6;clear hK K b6 d5 p5 r5 b5;refine tq 4 ((yvV c g (yT vo m vc) q)) rfl (fun w0 _=>by go_simp) hS6 ?_
  refine tq 5 (yi fl) rfl (fun w0 _=>by go_simp) hS6 ?_
  refine wpAnyH_ready (rs:=[6]) (by kernel_rfl) (by simp) ?_;refine AllReadyH.cons rfl (fun K hK=> ?_) AllReadyH.nil
  go_simp
  refine(HEn.out _ _ _ b06 r6).mono ?_;rintro z w7 ⟨rfl,b7⟩;refine hK.out _ _ ⟨(d6.l b7).range,(p6.l b7).range⟩ (fun hS7=> ?_)
  have b07:=aa b06 b7;clear hK K b7 d6 p6 b06 r6;refine tq 7 (.string st) rfl (fun w0 _=>by go_simp) hS7 ?_
  refine tq 8 (yi f1) rfl (fun w0 _=>by go_simp) hS7 ?_
  refine tq 9 (yi e1) rfl (fun w0 _=>by go_simp) hS7 ?_
  refine tq 10 (.string st) rfl (fun w0 _=>by go_simp) hS7 ?_
  refine tq 11 (yi f1) rfl (fun w0 _=>by go_simp) hS7 ?_
  refine tq 12 (yi e1) rfl (fun w0 _=>by go_simp) hS7 ?_
  simp only[Act.put,List.getElem_toArray,List.getElem_cons_succ,List.getElem_cons_zero,List.setIfInBounds_toArray,List.set_cons_zero,List.set_cons_succ];refine wpAnyH_done (by kernel_rfl) ?_ _
  go_wp2
  go_ret3
  exact⟨rfl,b07⟩
 ·have hx:=hX0.out hrc
  have hrf:(rc==0)=false:=by simpa using hrc
  subst hx;clear hX0 hX1 HSt HEn hrc
  go_wp2
  go_ret3
  exact⟨rfl,b4⟩
end Go.Proofs.YtdhpndnncmagiaaGreatDoor

/-
  Texts laid together: Co12, Co16, Tx2, As1, Tx12.
-/
import Derived.Test.YtpgijbdgljkeeaaGreatDoorUx26
import Derived.Test.YtpgijbdgljkeeaaGreatDoorUx28
import Derived.Test.YtpgijbdgljkeeaaGreatDoorUx30
import Derived.Test.YtpgijbdgljkeeaaGreatDoorUx31
set_option maxRecDepth 100000
set_option maxHeartbeats 3200000
namespace Go.Proofs.YtpgijbdgljkeeaaGreatDoor
open _root_.Go.Proofs.Tryz
open Go.RowKit
theorem QL (k:Nat)(hk:1≤k∧k≤8)(ng:Bool)(e f:Nat)(w:World)(hf:f<18446744073709551616)(he:e<65536):yC 119 #[.agg (tS k).toArray,yfV ng e f] w (yR w (.tuple #[.int .u64 ((iI k e f:Nat):Int),yi (ii k e)])):=by
 have hls: -100000≤lsI k∧lsI k≤100000:=by rcases bO hk with rfl|rfl|rfl|rfl|rfl|rfl|rfl|rfl<;>decide
 have hw1:IntKind.i64.wrap (lsI k+(e:Int))=lsI k+(e:Int):=IntWalk.i64_in _ ⟨by omega,by omega⟩;have hw2:IntKind.i64.wrap (lsI k+(e:Int)-1)=lsI k+(e:Int)-1:=IntWalk.i64_in _ ⟨by omega,by omega⟩;have ho:bits .or .u64 f (gW k:Int)=((f|||gW k:Nat):Int):=u64_or_nat f (gW k) hf (by rcases bO hk with rfl|rfl|rfl|rfl|rfl|rfl|rfl|rfl<;>decide)
 have HL:=fun w1=>xX k hk w1
 unfold iI ii
 by_cases hr:rdN k=16
 ·rw[if_pos hr,if_pos hr]
  rcases bO hk with rfl|rfl|rfl|rfl|rfl|rfl|rfl|rfl
  all_goals first|exact absurd hr (by decide)|exact Vi _ _ _ _ _ _ _ ng _ e f w hw1
 ·rw[if_neg hr,if_neg hr]
  by_cases h:e=0
  ·subst h
   rw[if_pos rfl,if_pos rfl]
   rcases bO hk with rfl|rfl|rfl|rfl|rfl|rfl|rfl|rfl
   all_goals first|exact absurd rfl hr|exact Zc _ _ _ _ _ _ _ ng _ f w
  ·rw[if_neg h,if_neg h]
   have h1:((e:Int)==0)=false:=by simp;omega
   rcases bO hk with rfl|rfl|rfl|rfl|rfl|rfl|rfl|rfl
   all_goals first|exact absurd rfl hr|exact Zd _ _ _ _ _ _ _ _ _ ng _ e f w h1 ho hw1 hw2 HL
theorem aab (R sz ex:Nat)(D L G fam:Int)(gr:Bool)(F:Nat)(ng:Bool)(e f:Nat)(w:World)
  (HC:yJ 117 #[ylV R D L G gr sz ex fam F,yfV ng e f] (yi 1)):
  yC 64 #[ylV R D L G gr sz ex fam F,yfV ng e f] w (iT w 1 ng 0 0):=by
 have hsf:=cD;have bl:=af w (.cells (ylA R D L G gr sz ex fam F) 124);have bf:=af (w.alloc (.cells (ylA R D L G gr sz ex fam F) 124)) (.cells (yfA ng e f) 127);have bz:=af ((w.alloc (.cells (ylA R D L G gr sz ex fam F) 124)).alloc (.cells (yfA ng e f) 127)) (.cells (yvA 0 false yN 0) 66);have l0:=((ah w (ylL R D L G gr sz ex fam F) 124).l bf).l bz;have m0:=(ah (w.alloc (.cells (ylA R D L G gr sz ex fam F) 124)) (yfL ng e f) 127).l bz;have v0:=ah ((w.alloc (.cells (ylA R D L G gr sz ex fam F) 124)).alloc (.cells (yfA ng e f) 127)) (yvL 0 false yN 0) 66;have b0:=aa (aa bl bf) bz;rw[World.size_alloc] at m0;rw[World.size_alloc,World.size_alloc] at v0;clear bl bf bz;have HC':Hid _:=HC;clear HC
 go_enter func64,ntmps64
 go_wp2_with fail
 refine(HC'.out _).mono ?_;rintro z w1 ⟨rfl,b1⟩;have bq:=af w1 (.cells (yvA 1 ng yN 0) 66);have m1:=(m0.l b1).l bq;have v1:=(v0.l b1).l bq;have q1:=ah w1 (yvL 1 ng yN 0) 66;have b01:=aa (aa b0 b1) bq;have hq3:w.heap.size+3≤w1.heap.size:=(v0.l b1).lt;have y0:=((m0.l b1).l (af w1 (.cells (yvA 1 false yN 0) 66))).c 0 rfl;obtain⟨z0,z1,z2,z3⟩:=v1.cs4;have j0:=v1.f 0;have j1:=v1.f 1;have j2:=v1.f 2;have j3:=v1.f 3;obtain⟨s0,s1,s2,s3⟩:=q1.cs4;have hne:w1.heap.size≠w.heap.size+1+1:=by omega
 have bu5:=(((ag (w1.alloc (.cells (yvA 1 ng yN 0) 66)) (w.heap.size+1+1) 0 (yi 1)).trans (ag _ (w.heap.size+1+1) 1 (.bool ng))).trans (ag _ (w.heap.size+1+1) 2 yN)).trans (ag _ (w.heap.size+1+1) 3 (yi 0));have cR:au (((((w1.alloc (.cells (yvA 1 ng yN 0) 66)).setCell ⟨w.heap.size+1+1,0,none⟩ (yi 1)).setCell ⟨w.heap.size+1+1,1,none⟩ (.bool ng)).setCell ⟨w.heap.size+1+1,2,none⟩ yN).setCell ⟨w.heap.size+1+1,3,none⟩ (yi 0)) (w.heap.size+1+1) 66 (yvL 1 ng yN 0):=(((v1.set 0 (yi 1)).set 1 (.bool ng)).set 2 yN).set 3 (yi 0);have bR:=bu5.below b01 (by omega);have hl:=run_loadVar_mid (P:=Tryz.prog) _ (w.heap.size+1+1) 0 66 (yvL 1 ng yN 0) _ cR.range underlying66 rfl (by kernel_rfl);have HH:Hid (_∧_):=⟨hl,bR⟩;clear hl bR cR bu5 b01 q1 v1 m1 l0 m0 v0 b0 b1 bq
 go_wp2
 obtain⟨hl,bR⟩:=HH.out;exact bodyPost_ret (br results64 rfl hl) rfl ⟨_,rfl,aN _ _,bR⟩
theorem aac (R sz ex:Nat)(D L G fam:Int)(gr:Bool)(F:Nat)(ng:Bool)(e f:Nat)(w:World)
  (HC:yJ 117 #[ylV R D L G gr sz ex fam F,yfV ng e f] (yi 3)):
  yC 64 #[ylV R D L G gr sz ex fam F,yfV ng e f] w (iT w 3 ng 0 0):=by
 have hsf:=cD;have bl:=af w (.cells (ylA R D L G gr sz ex fam F) 124);have bf:=af (w.alloc (.cells (ylA R D L G gr sz ex fam F) 124)) (.cells (yfA ng e f) 127);have bz:=af ((w.alloc (.cells (ylA R D L G gr sz ex fam F) 124)).alloc (.cells (yfA ng e f) 127)) (.cells (yvA 0 false yN 0) 66);have l0:=((ah w (ylL R D L G gr sz ex fam F) 124).l bf).l bz;have m0:=(ah (w.alloc (.cells (ylA R D L G gr sz ex fam F) 124)) (yfL ng e f) 127).l bz;have v0:=ah ((w.alloc (.cells (ylA R D L G gr sz ex fam F) 124)).alloc (.cells (yfA ng e f) 127)) (yvL 0 false yN 0) 66;have b0:=aa (aa bl bf) bz;rw[World.size_alloc] at m0;rw[World.size_alloc,World.size_alloc] at v0;clear bl bf bz;have HC':Hid _:=HC;clear HC
 go_enter func64,ntmps64
 go_wp2_with fail
 refine(HC'.out _).mono ?_;rintro z w1 ⟨rfl,b1⟩;have bq:=af w1 (.cells (yvA 3 ng yN 0) 66);have m1:=(m0.l b1).l bq;have v1:=(v0.l b1).l bq;have q1:=ah w1 (yvL 3 ng yN 0) 66;have b01:=aa (aa b0 b1) bq;have hq3:w.heap.size+3≤w1.heap.size:=(v0.l b1).lt;have y0:=((m0.l b1).l (af w1 (.cells (yvA 3 false yN 0) 66))).c 0 rfl;obtain⟨z0,z1,z2,z3⟩:=v1.cs4;have j0:=v1.f 0;have j1:=v1.f 1;have j2:=v1.f 2;have j3:=v1.f 3;obtain⟨s0,s1,s2,s3⟩:=q1.cs4;have hne:w1.heap.size≠w.heap.size+1+1:=by omega
 have bu5:=(((ag (w1.alloc (.cells (yvA 3 ng yN 0) 66)) (w.heap.size+1+1) 0 (yi 3)).trans (ag _ (w.heap.size+1+1) 1 (.bool ng))).trans (ag _ (w.heap.size+1+1) 2 yN)).trans (ag _ (w.heap.size+1+1) 3 (yi 0));have cR:au (((((w1.alloc (.cells (yvA 3 ng yN 0) 66)).setCell ⟨w.heap.size+1+1,0,none⟩ (yi 3)).setCell ⟨w.heap.size+1+1,1,none⟩ (.bool ng)).setCell ⟨w.heap.size+1+1,2,none⟩ yN).setCell ⟨w.heap.size+1+1,3,none⟩ (yi 0)) (w.heap.size+1+1) 66 (yvL 3 ng yN 0):=(((v1.set 0 (yi 3)).set 1 (.bool ng)).set 2 yN).set 3 (yi 0);have bR:=bu5.below b01 (by omega);have hl:=run_loadVar_mid (P:=Tryz.prog) _ (w.heap.size+1+1) 0 66 (yvL 3 ng yN 0) _ cR.range underlying66 rfl (by kernel_rfl);have HH:Hid (_∧_):=⟨hl,bR⟩;clear hl bR cR bu5 b01 q1 v1 m1 l0 m0 v0 b0 b1 bq
 go_wp2
 obtain⟨hl,bR⟩:=HH.out;exact bodyPost_ret (br results64 rfl hl) rfl ⟨_,rfl,aN _ _,bR⟩
theorem aad (R sz ex:Nat)(D L G fam:Int)(gr:Bool)(F:Nat)(ng:Bool)(e f:Nat)(w:World)
  (HC:yJ 117 #[ylV R D L G gr sz ex fam F,yfV ng e f] (yi 4)):
  yC 64 #[ylV R D L G gr sz ex fam F,yfV ng e f] w (iT w 4 false 0 0):=by
 have hsf:=cD;have bl:=af w (.cells (ylA R D L G gr sz ex fam F) 124);have bf:=af (w.alloc (.cells (ylA R D L G gr sz ex fam F) 124)) (.cells (yfA ng e f) 127);have bz:=af ((w.alloc (.cells (ylA R D L G gr sz ex fam F) 124)).alloc (.cells (yfA ng e f) 127)) (.cells (yvA 0 false yN 0) 66);have l0:=((ah w (ylL R D L G gr sz ex fam F) 124).l bf).l bz;have m0:=(ah (w.alloc (.cells (ylA R D L G gr sz ex fam F) 124)) (yfL ng e f) 127).l bz;have v0:=ah ((w.alloc (.cells (ylA R D L G gr sz ex fam F) 124)).alloc (.cells (yfA ng e f) 127)) (yvL 0 false yN 0) 66;have b0:=aa (aa bl bf) bz;rw[World.size_alloc] at m0;rw[World.size_alloc,World.size_alloc] at v0;clear bl bf bz;have HC':Hid _:=HC;clear HC
 go_enter func64,ntmps64
 go_wp2_with fail
 refine(HC'.out _).mono ?_;rintro z w1 ⟨rfl,b1⟩;have bq:=af w1 (.cells (yvA 4 false yN 0) 66);have m1:=(m0.l b1).l bq;have v1:=(v0.l b1).l bq;have q1:=ah w1 (yvL 4 false yN 0) 66;have b01:=aa (aa b0 b1) bq;have hq3:w.heap.size+3≤w1.heap.size:=(v0.l b1).lt;have y0:=((m0.l b1).l (af w1 (.cells (yvA 4 false yN 0) 66))).c 0 rfl;obtain⟨z0,z1,z2,z3⟩:=v1.cs4;have j0:=v1.f 0;have j1:=v1.f 1;have j2:=v1.f 2;have j3:=v1.f 3;obtain⟨s0,s1,s2,s3⟩:=q1.cs4;have hne:w1.heap.size≠w.heap.size+1+1:=by omega
 have bu5:=(((ag (w1.alloc (.cells (yvA 4 false yN 0) 66)) (w.heap.size+1+1) 0 (yi 4)).trans (ag _ (w.heap.size+1+1) 1 (.bool false))).trans (ag _ (w.heap.size+1+1) 2 yN)).trans (ag _ (w.heap.size+1+1) 3 (yi 0));have cR:au (((((w1.alloc (.cells (yvA 4 false yN 0) 66)).setCell ⟨w.heap.size+1+1,0,none⟩ (yi 4)).setCell ⟨w.heap.size+1+1,1,none⟩ (.bool false)).setCell ⟨w.heap.size+1+1,2,none⟩ yN).setCell ⟨w.heap.size+1+1,3,none⟩ (yi 0)) (w.heap.size+1+1) 66 (yvL 4 false yN 0):=(((v1.set 0 (yi 4)).set 1 (.bool false)).set 2 yN).set 3 (yi 0);have bR:=bu5.below b01 (by omega);have hl:=run_loadVar_mid (P:=Tryz.prog) _ (w.heap.size+1+1) 0 66 (yvL 4 false yN 0) _ cR.range underlying66 rfl (by kernel_rfl);have HH:Hid (_∧_):=⟨hl,bR⟩;clear hl bR cR bu5 b01 q1 v1 m1 l0 m0 v0 b0 b1 bq
 go_wp2
 obtain⟨hl,bR⟩:=HH.out;exact bodyPost_ret (br results64 rfl hl) rfl ⟨_,rfl,aN _ _,bR⟩
theorem aae (R sz ex:Nat)(D L G fam:Int)(gr:Bool)(F:Nat)(ng:Bool)(e f:Nat)(w:World)
  (HC:yJ 117 #[ylV R D L G gr sz ex fam F,yfV ng e f] (yi 5)):
  yC 64 #[ylV R D L G gr sz ex fam F,yfV ng e f] w (iT w 5 false 0 0):=by
 have hsf:=cD;have bl:=af w (.cells (ylA R D L G gr sz ex fam F) 124);have bf:=af (w.alloc (.cells (ylA R D L G gr sz ex fam F) 124)) (.cells (yfA ng e f) 127);have bz:=af ((w.alloc (.cells (ylA R D L G gr sz ex fam F) 124)).alloc (.cells (yfA ng e f) 127)) (.cells (yvA 0 false yN 0) 66);have l0:=((ah w (ylL R D L G gr sz ex fam F) 124).l bf).l bz;have m0:=(ah (w.alloc (.cells (ylA R D L G gr sz ex fam F) 124)) (yfL ng e f) 127).l bz;have v0:=ah ((w.alloc (.cells (ylA R D L G gr sz ex fam F) 124)).alloc (.cells (yfA ng e f) 127)) (yvL 0 false yN 0) 66;have b0:=aa (aa bl bf) bz;rw[World.size_alloc] at m0;rw[World.size_alloc,World.size_alloc] at v0;clear bl bf bz;have HC':Hid _:=HC;clear HC
 go_enter func64,ntmps64
 go_wp2_with fail
 refine(HC'.out _).mono ?_;rintro z w1 ⟨rfl,b1⟩;have bq:=af w1 (.cells (yvA 5 false yN 0) 66);have m1:=(m0.l b1).l bq;have v1:=(v0.l b1).l bq;have q1:=ah w1 (yvL 5 false yN 0) 66;have b01:=aa (aa b0 b1) bq;have hq3:w.heap.size+3≤w1.heap.size:=(v0.l b1).lt;have y0:=((m0.l b1).l (af w1 (.cells (yvA 5 false yN 0) 66))).c 0 rfl;obtain⟨z0,z1,z2,z3⟩:=v1.cs4;have j0:=v1.f 0;have j1:=v1.f 1;have j2:=v1.f 2;have j3:=v1.f 3;obtain⟨s0,s1,s2,s3⟩:=q1.cs4;have hne:w1.heap.size≠w.heap.size+1+1:=by omega
 have bu5:=(((ag (w1.alloc (.cells (yvA 5 false yN 0) 66)) (w.heap.size+1+1) 0 (yi 5)).trans (ag _ (w.heap.size+1+1) 1 (.bool false))).trans (ag _ (w.heap.size+1+1) 2 yN)).trans (ag _ (w.heap.size+1+1) 3 (yi 0));have cR:au (((((w1.alloc (.cells (yvA 5 false yN 0) 66)).setCell ⟨w.heap.size+1+1,0,none⟩ (yi 5)).setCell ⟨w.heap.size+1+1,1,none⟩ (.bool false)).setCell ⟨w.heap.size+1+1,2,none⟩ yN).setCell ⟨w.heap.size+1+1,3,none⟩ (yi 0)) (w.heap.size+1+1) 66 (yvL 5 false yN 0):=(((v1.set 0 (yi 5)).set 1 (.bool false)).set 2 yN).set 3 (yi 0);have bR:=bu5.below b01 (by omega);have hl:=run_loadVar_mid (P:=Tryz.prog) _ (w.heap.size+1+1) 0 66 (yvL 5 false yN 0) _ cR.range underlying66 rfl (by kernel_rfl);have HH:Hid (_∧_):=⟨hl,bR⟩;clear hl bR cR bu5 b01 q1 v1 m1 l0 m0 v0 b0 b1 bq
 go_wp2
 obtain⟨hl,bR⟩:=HH.out;exact bodyPost_ret (br results64 rfl hl) rfl ⟨_,rfl,aN _ _,bR⟩
theorem tread_bad (tx rz ro af wh be:ByteArray)(ng po:Bool)(pw:Int)(w:World)(h4:tx.size≤400)
  (HP:yJ 66 #[.string tx,.string ⟨#[45]⟩] (.tuple #[.string rz,.bool ng]))
  (HE:yH w 67 #[.string rz,.string ⟨#[101]⟩] (.tuple #[.string ro,.string af,.bool true]))
  (HR:yJ 68 #[.string af] (.tuple #[yi pw,.bool false]))
  (HQ:yH w 67 #[.string ro,.string ⟨#[46]⟩] (.tuple #[.string wh,.string be,.bool po])):
  yC 30 #[.string tx] w (yR w (.tuple #[.agg #[.bool false,.string ⟨#[]⟩,yi 0],yi 1])):=by
 replace HP:Hid _:=HP;replace HE:Hid _:=HE;replace HR:Hid _:=HR;replace HQ:Hid _:=HQ;obtain⟨W3,hW4,q1,b2⟩:=cA w [.bool false,.string ⟨#[]⟩,yi 0] 74;replace hW4:Hid _:=hW4
 go_enter func30,ntmps30
 go_upto_region 1 with fail
 rw[hW4.out];clear hW4
 go_wp2_with fail
 refine(HP.out _).mono ?_;rintro zz w5 ⟨rfl,bb6⟩;have q7:=q1.l bb6;have b8:=aa b2 bb6;clear q1 b2 bb6 HP
 go_wp2_with fail
 refine(HE.out _ b8).mono ?_;rintro zz w9 ⟨rfl,bb10⟩;have q11:=q7.l bb10;have b12:=aa b8 bb10;clear q7 b8 bb10 HE
 go_wp2_with fail
 refine(HR.out _).mono ?_;rintro zz w13 ⟨rfl,bb14⟩;have q15:=q11.l bb14;have b16:=aa b12 bb14;clear q11 b12 bb14 HR
 go_wp2_with fail
 refine(HQ.out _ b16).mono ?_;rintro zz w17 ⟨rfl,bb18⟩;have q19:=q15.l bb18;have b20:=aa b16 bb18;clear q15 b16 bb18 HQ;have hf:=afy (P:=Tryz.prog) q19 b20 (by omega) underlying74 rfl (by kernel_rfl) (.bool false) (.string ⟨#[]⟩) (yi 0);have HH:Hid (_∧_):=⟨hf.1,hf.2.1⟩;obtain⟨⟨z0,z1,z2⟩,y0,y1,y2⟩:=afA q19;clear hf q19 b20
 go_wp2
 obtain⟨hl,bR⟩:=HH.out;exact bodyPost_ret (aj results30 rfl rfl hl) rfl ⟨rfl,bR⟩
theorem tread_dig_n (tx rz ro af wh be:ByteArray)(ng po:Bool)(w:World)(h4:tx.size≤400)(hsz:wh.size+be.size≤400)
  (HP:yJ 66 #[.string tx,.string ⟨#[45]⟩] (.tuple #[.string rz,.bool ng]))
  (HE:yH w 67 #[.string rz,.string ⟨#[101]⟩] (.tuple #[.string ro,.string af,.bool false]))
  (HQ:yH w 67 #[.string ro,.string ⟨#[46]⟩] (.tuple #[.string wh,.string be,.bool po]))
  (HD:yJ 69 #[.string (wh++be)] (.bool false)):
  yC 30 #[.string tx] w (yR w (.tuple #[.agg #[.bool false,.string ⟨#[]⟩,yi 0],yi 1])):=by
 replace HP:Hid _:=HP;replace HE:Hid _:=HE;replace HQ:Hid _:=HQ;replace HD:Hid _:=HD;obtain⟨W3,hW4,q1,b2⟩:=cA w [.bool false,.string ⟨#[]⟩,yi 0] 74;replace hW4:Hid _:=hW4
 go_enter func30,ntmps30
 go_upto_region 1 with fail
 rw[hW4.out];clear hW4
 go_wp2_with fail
 refine(HP.out _).mono ?_;rintro zz w5 ⟨rfl,bb6⟩;have q7:=q1.l bb6;have b8:=aa b2 bb6;clear q1 b2 bb6 HP
 go_wp2_with fail
 refine(HE.out _ b8).mono ?_;rintro zz w9 ⟨rfl,bb10⟩;have q11:=q7.l bb10;have b12:=aa b8 bb10;clear q7 b8 bb10 HE
 go_wp2_with fail
 refine(HQ.out _ b12).mono ?_;rintro zz w13 ⟨rfl,bb14⟩;have q15:=q11.l bb14;have b16:=aa b12 bb14;clear q11 b12 bb14 HQ
 go_wp2_with fail
 refine(HD.out _).mono ?_;rintro zz w17 ⟨rfl,bb18⟩;have q19:=q15.l bb18;have b20:=aa b16 bb18;clear q15 b16 bb18 HD;have hf:=afy (P:=Tryz.prog) q19 b20 (by omega) underlying74 rfl (by kernel_rfl) (.bool false) (.string ⟨#[]⟩) (yi 0);have HH:Hid (_∧_):=⟨hf.1,hf.2.1⟩;obtain⟨⟨z0,z1,z2⟩,y0,y1,y2⟩:=afA q19;clear hf q19 b20
 go_wp2
 obtain⟨hl,bR⟩:=HH.out;exact bodyPost_ret (aj results30 rfl rfl hl) rfl ⟨rfl,bR⟩
theorem tread_pt_n (tx rz ro af wh:ByteArray)(ng:Bool)(w:World)(h4:tx.size≤400)(hsz:wh.size≤400)
  (HP:yJ 66 #[.string tx,.string ⟨#[45]⟩] (.tuple #[.string rz,.bool ng]))
  (HE:yH w 67 #[.string rz,.string ⟨#[101]⟩] (.tuple #[.string ro,.string af,.bool false]))
  (HQ:yH w 67 #[.string ro,.string ⟨#[46]⟩] (.tuple #[.string wh,.string ⟨#[]⟩,.bool true]))
  (HD:yJ 69 #[.string (wh++⟨#[]⟩)] (.bool true)):
  yC 30 #[.string tx] w (yR w (.tuple #[.agg #[.bool false,.string ⟨#[]⟩,yi 0],yi 1])):=by
 replace HP:Hid _:=HP;replace HE:Hid _:=HE;replace HQ:Hid _:=HQ;replace HD:Hid _:=HD;obtain⟨W3,hW4,q1,b2⟩:=cA w [.bool false,.string ⟨#[]⟩,yi 0] 74;replace hW4:Hid _:=hW4
 go_enter func30,ntmps30
 go_upto_region 1 with fail
 rw[hW4.out];clear hW4
 go_wp2_with fail
 refine(HP.out _).mono ?_;rintro zz w5 ⟨rfl,bb6⟩;have q7:=q1.l bb6;have b8:=aa b2 bb6;clear q1 b2 bb6 HP
 go_wp2_with fail
 refine(HE.out _ b8).mono ?_;rintro zz w9 ⟨rfl,bb10⟩;have q11:=q7.l bb10;have b12:=aa b8 bb10;clear q7 b8 bb10 HE
 go_wp2_with fail
 refine(HQ.out _ b12).mono ?_;rintro zz w13 ⟨rfl,bb14⟩;have q15:=q11.l bb14;have b16:=aa b12 bb14;clear q11 b12 bb14 HQ
 go_wp2_with fail
 refine(HD.out _).mono ?_;rintro zz w17 ⟨rfl,bb18⟩;have q19:=q15.l bb18;have b20:=aa b16 bb18;clear q15 b16 bb18 HD;have hf:=afy (P:=Tryz.prog) q19 b20 (by omega) underlying74 rfl (by kernel_rfl) (.bool false) (.string ⟨#[]⟩) (yi 0);have HH:Hid (_∧_):=⟨hf.1,hf.2.1⟩;obtain⟨⟨z0,z1,z2⟩,y0,y1,y2⟩:=afA q19;clear hf q19 b20
 go_wp2
 obtain⟨hl,bR⟩:=HH.out;exact bodyPost_ret (aj results30 rfl rfl hl) rfl ⟨rfl,bR⟩
theorem tread_pt_e (tx rz ro af wh:ByteArray)(ng:Bool)(pw:Int)(w:World)(h4:tx.size≤400)(hsz:wh.size≤400)
  (HP:yJ 66 #[.string tx,.string ⟨#[45]⟩] (.tuple #[.string rz,.bool ng]))
  (HE:yH w 67 #[.string rz,.string ⟨#[101]⟩] (.tuple #[.string ro,.string af,.bool true]))
  (HR:yJ 68 #[.string af] (.tuple #[yi pw,.bool true]))
  (HQ:yH w 67 #[.string ro,.string ⟨#[46]⟩] (.tuple #[.string wh,.string ⟨#[]⟩,.bool true]))
  (HD:yJ 69 #[.string (wh++⟨#[]⟩)] (.bool true)):
  yC 30 #[.string tx] w (yR w (.tuple #[.agg #[.bool false,.string ⟨#[]⟩,yi 0],yi 1])):=by
 replace HP:Hid _:=HP;replace HE:Hid _:=HE;replace HR:Hid _:=HR;replace HQ:Hid _:=HQ;replace HD:Hid _:=HD;obtain⟨W3,hW4,q1,b2⟩:=cA w [.bool false,.string ⟨#[]⟩,yi 0] 74;replace hW4:Hid _:=hW4
 go_enter func30,ntmps30
 go_upto_region 1 with fail
 rw[hW4.out];clear hW4
 go_wp2_with fail
 refine(HP.out _).mono ?_;rintro zz w5 ⟨rfl,bb6⟩;have q7:=q1.l bb6;have b8:=aa b2 bb6;clear q1 b2 bb6 HP
 go_wp2_with fail
 refine(HE.out _ b8).mono ?_;rintro zz w9 ⟨rfl,bb10⟩;have q11:=q7.l bb10;have b12:=aa b8 bb10;clear q7 b8 bb10 HE
 go_wp2_with fail
 refine(HR.out _).mono ?_;rintro zz w13 ⟨rfl,bb14⟩;have q15:=q11.l bb14;have b16:=aa b12 bb14;clear q11 b12 bb14 HR
 go_wp2_with fail
 refine(HQ.out _ b16).mono ?_;rintro zz w17 ⟨rfl,bb18⟩;have q19:=q15.l bb18;have b20:=aa b16 bb18;clear q15 b16 bb18 HQ
 go_wp2_with fail
 refine(HD.out _).mono ?_;rintro zz w21 ⟨rfl,bb22⟩;have q23:=q19.l bb22;have b24:=aa b20 bb22;clear q19 b20 bb22 HD;have hf:=afy (P:=Tryz.prog) q23 b24 (by omega) underlying74 rfl (by kernel_rfl) (.bool false) (.string ⟨#[]⟩) (yi 0);have HH:Hid (_∧_):=⟨hf.1,hf.2.1⟩;obtain⟨⟨z0,z1,z2⟩,y0,y1,y2⟩:=afA q23;clear hf q23 b24
 go_wp2
 obtain⟨hl,bR⟩:=HH.out;exact bodyPost_ret (aj results30 rfl rfl hl) rfl ⟨rfl,bR⟩
theorem tread_okf_n (tx rz ro af wh be:ByteArray)(ng:Bool)(w:World)(h4:tx.size≤400)(hsz:wh.size+be.size≤400)
  (HP:yJ 66 #[.string tx,.string ⟨#[45]⟩] (.tuple #[.string rz,.bool ng]))
  (HE:yH w 67 #[.string rz,.string ⟨#[101]⟩] (.tuple #[.string ro,.string af,.bool false]))
  (HQ:yH w 67 #[.string ro,.string ⟨#[46]⟩] (.tuple #[.string wh,.string be,.bool false]))
  (HD:yJ 69 #[.string (wh++be)] (.bool true)):
  yC 30 #[.string tx] w (yR w (.tuple #[.agg #[.bool ng,.string (wh++be),yi (-(be.size:Int))],yi 0])):=by
 replace HP:Hid _:=HP;replace HE:Hid _:=HE;replace HQ:Hid _:=HQ;replace HD:Hid _:=HD;obtain⟨W3,hW4,q1,b2⟩:=cA w [.bool false,.string ⟨#[]⟩,yi 0] 74;replace hW4:Hid _:=hW4
 go_enter func30,ntmps30
 go_upto_region 1 with fail
 rw[hW4.out];clear hW4
 go_wp2_with fail
 refine(HP.out _).mono ?_;rintro zz w5 ⟨rfl,bb6⟩;have q7:=q1.l bb6;have b8:=aa b2 bb6;clear q1 b2 bb6 HP
 go_wp2_with fail
 refine(HE.out _ b8).mono ?_;rintro zz w9 ⟨rfl,bb10⟩;have q11:=q7.l bb10;have b12:=aa b8 bb10;clear q7 b8 bb10 HE
 go_wp2_with fail
 refine(HQ.out _ b12).mono ?_;rintro zz w13 ⟨rfl,bb14⟩;have q15:=q11.l bb14;have b16:=aa b12 bb14;clear q11 b12 bb14 HQ
 go_wp2_with fail
 refine(HD.out _).mono ?_;rintro zz w17 ⟨rfl,bb18⟩;have q19:=q15.l bb18;have b20:=aa b16 bb18;clear q15 b16 bb18 HD;have hf:=afy (P:=Tryz.prog) q19 b20 (by omega) underlying74 rfl (by kernel_rfl) (.bool ng) (.string (wh++be)) (yi (-(be.size:Int)));have HH:Hid (_∧_):=⟨hf.1,hf.2.1⟩;obtain⟨⟨z0,z1,z2⟩,y0,y1,y2⟩:=afA q19;clear hf q19 b20
 go_wp2
 obtain⟨hl,bR⟩:=HH.out;exact bodyPost_ret (aj results30 rfl rfl hl) rfl ⟨rfl,bR⟩
theorem tread_okt_n (tx rz ro af wh be:ByteArray)(ng:Bool)(w:World)(h4:tx.size≤400)(hsz:wh.size+be.size≤400)(hbe:be.toList.isEmpty=false)
  (HP:yJ 66 #[.string tx,.string ⟨#[45]⟩] (.tuple #[.string rz,.bool ng]))
  (HE:yH w 67 #[.string rz,.string ⟨#[101]⟩] (.tuple #[.string ro,.string af,.bool false]))
  (HQ:yH w 67 #[.string ro,.string ⟨#[46]⟩] (.tuple #[.string wh,.string be,.bool true]))
  (HD:yJ 69 #[.string (wh++be)] (.bool true)):
  yC 30 #[.string tx] w (yR w (.tuple #[.agg #[.bool ng,.string (wh++be),yi (-(be.size:Int))],yi 0])):=by
 replace HP:Hid _:=HP;replace HE:Hid _:=HE;replace HQ:Hid _:=HQ;replace HD:Hid _:=HD;obtain⟨W3,hW4,q1,b2⟩:=cA w [.bool false,.string ⟨#[]⟩,yi 0] 74;replace hW4:Hid _:=hW4
 go_enter func30,ntmps30
 go_upto_region 1 with fail
 rw[hW4.out];clear hW4
 go_wp2_with fail
 refine(HP.out _).mono ?_;rintro zz w5 ⟨rfl,bb6⟩;have q7:=q1.l bb6;have b8:=aa b2 bb6;clear q1 b2 bb6 HP
 go_wp2_with fail
 refine(HE.out _ b8).mono ?_;rintro zz w9 ⟨rfl,bb10⟩;have q11:=q7.l bb10;have b12:=aa b8 bb10;clear q7 b8 bb10 HE
 go_wp2_with fail
 refine(HQ.out _ b12).mono ?_;rintro zz w13 ⟨rfl,bb14⟩;have q15:=q11.l bb14;have b16:=aa b12 bb14;clear q11 b12 bb14 HQ
 go_wp2_with fail
 refine(HD.out _).mono ?_;rintro zz w17 ⟨rfl,bb18⟩;have q19:=q15.l bb18;have b20:=aa b16 bb18;clear q15 b16 bb18 HD;have hf:=afy (P:=Tryz.prog) q19 b20 (by omega) underlying74 rfl (by kernel_rfl) (.bool ng) (.string (wh++be)) (yi (-(be.size:Int)));have HH:Hid (_∧_):=⟨hf.1,hf.2.1⟩;obtain⟨⟨z0,z1,z2⟩,y0,y1,y2⟩:=afA q19;clear hf q19 b20
 go_wp2
 obtain⟨hl,bR⟩:=HH.out;exact bodyPost_ret (aj results30 rfl rfl hl) rfl ⟨rfl,bR⟩
open Go.RowKit Go.ChangeMaps Go.MapKept
def Xo:Array MapEntry:= #[⟨yi 1,yi 4,0⟩,⟨yi 2,yi 1,1⟩,⟨yi 3,yi 5,2⟩]
theorem JQ (w:World):yC 205 #[] w fun z w'=>z= .returned (.map (some w.heap.size))∧w'.heap[w.heap.size]? =some (.map Xo 3)∧yB w w':=by
 have ht:=underlying262;have hk:=underlying85;have hb0:(w.alloc (.map #[] 0)).heap[w.heap.size]? =some (.map #[] 0):=heap_alloc_new _ _;have b0:=af w (.map #[] 0);have e0:=run_makeMap (P:=Tryz.prog) 262 w;obtain⟨W1,e1,hb1,b1⟩:=sS ht hk hb0 (Nat.le_refl _) b0 1 (yi 4) rfl;obtain⟨W2,e2,hb2,b2⟩:=sS ht hk hb1 (Nat.le_refl _) b1 2 (yi 1) rfl;obtain⟨W3,e3,hb3,b3⟩:=sS ht hk hb2 (Nat.le_refl _) b2 3 (yi 5) rfl;have HB:Hid (W3.heap[w.heap.size]? =some (.map Xo 3)):=hb3;clear hb1 hb2 hb3 b1 b2 ht hk hb0
 go_enter func205,ntmps205
 go_wp2
 go_ret
 exact⟨rfl,HB.out,b3⟩
def AZ (f:Int):Int:=if f=1 then 4 else if f=2 then 1 else 5
theorem A5 (f:Int)(hf:f=1∨f=2∨f=3)(w:World):yC 172 #[yi f] w (yR w (yi (AZ f))):=by
 have HN:Hid _:=JQ;have HL:Hid (∀W r,W.heap[r]? =some (.map Xo 3)→(Instr.lookup 262 (.map (some r)) (yi f) false).run Tryz.prog W= .ok (yi (AZ f)) W):=fun W r hm=>by
  rcases hf with rfl|rfl|rfl
  ·exact pj underlying262 underlying85 hm 1 (i:=0) rfl
  ·exact pj underlying262 underlying85 hm 2 (i:=1) rfl
  ·exact pj underlying262 underlying85 hm 3 (i:=2) rfl
 generalize AZ f=c at*;clear hf
 go_enter func172,ntmps172
 go_wp2_with fail
 refine(HN.out _).mono ?_;rintro z w1 ⟨rfl,hm,b1⟩;have hl:=HL.out w1 _ hm;clear hm HL HN
 go_wp2
 go_ret
 exact⟨rfl,b1⟩
def aaV (wy:Int)(ng:Bool):Bool:=if wy=1∨wy=2 then true else if wy=4 then !ng else(ng&&decide (wy=5))
theorem CT (n wy fam R D L G:Int)(gr ng:Bool)(hw:1≤wy∧wy≤5)(w:World):yC 173 #[ykV n wy fam R D L G gr,.bool ng] w (yR w (.bool (aaV wy ng))):=by
 have h5:wy=1∨wy=2∨wy=3∨wy=4∨wy=5:=by omega
 have b0:=af w (.cells (ykA n wy fam R D L G gr) 147);clear hw
 rcases h5 with rfl|rfl|rfl|rfl|rfl
 all_goals
  cases ng
  all_goals
   go_enter func173,ntmps173
   go_wp2
   go_ret
   exact⟨rfl,b0⟩
theorem It (n wy fam R D L G c p fl er:Int)(gr ng:Bool)(ao:Option Addr)(la ca:Nat)(st:ByteArray)(w:World)
  (HE:yH w 58 #[yi n,yvV c ng (.slice ao la ca) p] (.tuple #[.string st,yi er])):
  yC 82 #[ykV n wy fam R D L G gr,yvV c ng (.slice ao la ca) p,yi fl] w (yR w (if er=0 then .tuple #[.string st,yi fl,yi 0] else .tuple #[.string ⟨#[]⟩,yi 0,yi er])):=by
 replace HE:Hid _:=HE;have ad:=af w (.cells (ykA n wy fam R D L G gr) 147);have av:=af (w.alloc (.cells (ykA n wy fam R D L G gr) 147)) (.cells (yvA c ng (.slice ao la ca) p) 66);have d0:=(ah w (ykL n wy fam R D L G gr) 147).l av;have v0:=ah (w.alloc (.cells (ykA n wy fam R D L G gr) 147)) (yvL c ng (.slice ao la ca) p) 66;rw[World.size_alloc] at v0;have b0:=aa ad av;clear ad av
 by_cases he:er=0
 ·rw[if_pos he]
  subst he
  go_enter func82,ntmps82
  go_upto_region 1 with fail
  generalize(w.alloc (.cells (ykA n wy fam R D L G gr) 147)).alloc (.cells (yvA c ng (.slice ao la ca) p) 66)=W0 at d0 v0 b0⊢;have y0:=d0.c 0 rfl;obtain⟨x0,x1,x2,x3⟩:=v0.cs4
  go_wp2_with fail
  refine(HE.out _ b0).mono ?_;rintro z w1 ⟨rfl,b1⟩;have b01:=aa b0 b1
  go_wp2
  go_ret3
  exact⟨rfl,b01⟩
 ·rw[if_neg he]
  have hef:(er==0)=false:=by simpa using he
  go_enter func82,ntmps82
  go_upto_region 1 with fail
  generalize(w.alloc (.cells (ykA n wy fam R D L G gr) 147)).alloc (.cells (yvA c ng (.slice ao la ca) p) 66)=W0 at d0 v0 b0⊢;have y0:=d0.c 0 rfl;obtain⟨x0,x1,x2,x3⟩:=v0.cs4
  go_wp2_with fail
  refine(HE.out _ b0).mono ?_;rintro z w1 ⟨rfl,b1⟩;have b01:=aa b0 b1;clear he
  go_wp2
  go_ret3
  exact⟨rfl,b01⟩
theorem decimalOf_any (x:ak)(xo:Option Addr)(xc:Nat)(w:World)(rx:Rd w .u32 (yT xo x.n xc) (Dg.dg 4294967296 x.n))(hx:x.n<2^64)(e1: -16500≤x.e)(e2:x.e≤16500)(h0:x.n≠0):
  yC 46 #[yDV x xo xc] w (DcR w x.s (dcH x) (dcC x:Int) (dcP x)):=by
 obtain⟨⟨g1,g2⟩,⟨c,hc,hW⟩,hC⟩:=dc_in hx e1 e2 h0;have hb:=bF x.n 64 hx;have hb1:=Gq h0;have hxl:(Dg.dg 4294967296 x.n).length≤2:=jq hx (by omega);have hWl:(Dg.dg 4294967296 (dcW x)).length≤1156:=jq hW (by omega);have HB: ∀xo xc w1,Rd w1 .u32 (yT xo x.n xc) (Dg.dg 4294967296 x.n)→yC 96 #[yT xo x.n xc] w1 (yR w1 (yi (bitLen x.n:Nat))):=fun xo xc w1 h=>by
  refine(kE _ _ w1 h (Dg.small_dg _ _ (by omega)) (Dg.norm_dg _ _ (by omega)) (by omega)).mono fun z w' hz=> ?_
  obtain⟨z1,z2⟩:=hz;subst z2;rw[Dg.vl_dg _ _ (by omega)] at z1;exact⟨z1,Below.refl _ _⟩
 have HP:=fun w1=>pbelow_any ((bitLen x.n:Int)-1+x.e) w1 (by omega) (by omega)
 have HC: ∀xo xc w1,yB w w1→Rd w1 .u32 (yT xo x.n xc) (Dg.dg 4294967296 x.n)→yC 97 #[yDV x xo xc,yi (60-dcG x)] w1 (NbR w1 (dcW x) (dcL x)):=fun xo xc w1 _ h=>scaled_any x.s x.n xo xc x.e (60-dcG x) w1 h hx e1 e2 (by omega) (by omega)
 have HD: ∀vo vc w1,Rd w1 .u32 (.slice vo (Dg.dg 4294967296 (dcW x)).length vc) (Dg.dg 4294967296 (dcW x))→yC 98 #[.slice vo (Dg.dg 4294967296 (dcW x)).length vc] w1 (yR w1 (.string (oW (dcW x)))):=fun vo vc w1 h=>by
  have:=MR _ _ w1 h (Dg.small_dg _ _ (by omega)) (Dg.norm_dg _ _ (by omega)) (by omega);rw[Dg.vl_dg _ _ (by omega)] at this;exact this
 have HS: ∀vo vc w1,Rd w1 .u32 (.slice vo (Dg.dg 4294967296 (dcW x)).length vc) (Dg.dg 4294967296 (dcW x))→yC 75 #[.slice vo (Dg.dg 4294967296 (dcW x)).length vc,yi 1] w1 (NmR w1 (dcW x*2)):=fun vo vc w1 h=>by
  have:=eO _ _ 1 w1 h (Dg.small_dg _ _ (by omega)) (by omega) (by omega) (by omega);rw[Dg.vl_dg _ _ (by omega),CE _ 1 (by omega)] at this;exact this.mono fun _ _ h=>num_nmR h
 have w1':IntKind.i64.wrap ((bitLen x.n:Int)-1)=(bitLen x.n:Int)-1:=IntWalk.i64_in _ ⟨by omega,by omega⟩;have w2':IntKind.i64.wrap ((bitLen x.n:Int)-1+x.e)=(bitLen x.n:Int)-1+x.e:=IntWalk.i64_in _ ⟨by omega,by omega⟩;have w3':IntKind.i64.wrap (60-dcG x)=60-dcG x:=IntWalk.i64_in _ ⟨by omega,by omega⟩;have w4':IntKind.i64.wrap (dcG x+((oW (dcW x)).size:Int))=dcG x+(dcC x:Int):=IntWalk.i64_in _ ⟨by show _≤dcG x+(dcC x:Int);omega,by show dcG x+(dcC x:Int)≤_;omega⟩
 have w5':IntKind.i64.wrap (dcG x+(dcC x:Int)-1)=dcG x+(dcC x:Int)-1:=IntWalk.i64_in _ ⟨by omega,by omega⟩;have w6':IntKind.i64.wrap (dcG x+(dcC x:Int)-1-60)=dcP x:=IntWalk.i64_in _ ⟨by omega,by omega⟩;unfold dcH
 cases hL:dcL x
 ·rw[if_neg (by decide)]
  rw[hL] at HC;exact tdecOf_f x.s x.n (dcW x) _ xo xc x.e _ _ _ _ _ _ _ _ (oW (dcW x)) w rx w1' w2' w3' w4' w5' w6' HB HP HC HD HS
 ·rw[if_pos rfl]
  rw[hL] at HC;have hl2:(Dg.dg 4294967296 (dcW x*2)).length≤1156+1:=by
   obtain⟨c2,hc2⟩: ∃c2,c2=c+1:=⟨_,rfl⟩;refine jq (k:=c2) ?_ (by omega);rw[hc2,Nat.pow_succ];exact Nat.mul_lt_mul_of_pos_right hW (by omega)
  refine tdecOf_t x.s x.n (dcW x) _ (dcW x*2+1) xo xc x.e _ _ _ _ _ _ _ _ (oW (dcW x)) w rx w1' w2' w3' w4' w5' w6' HB HP HC HD HS (fun ho hc q w1 h hq=> ?_)
  have:=rj _ _ (Dg.dg 4294967296 (dcW x*2)) [1] w1 h (xD (hq.c 0 rfl)) (Dg.small_dg _ _ (by omega)) (Dg.small_cons.2 ⟨by omega,Dg.small_nil _ (by omega)⟩) (by omega) (by simp);rw[Dg.vl_dg _ _ (by omega),show Dg.vl 4294967296 [1]=1 from rfl] at this
  exact this.mono fun _ _ h=>num_nmR h
end Go.Proofs.YtpgijbdgljkeeaaGreatDoor

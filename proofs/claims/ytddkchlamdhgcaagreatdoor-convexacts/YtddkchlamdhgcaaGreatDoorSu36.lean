/-
  Texts laid together: Co3, Co13, Co17, Ar1, As1, Gh5, Gh7, Co22, Ce8, Em1, Eh2.
-/
import Derived.Test.YtddkchlamdhgcaaGreatDoorSu25
import Derived.Test.YtddkchlamdhgcaaGreatDoorSu30
import Derived.Test.YtddkchlamdhgcaaGreatDoorSu31
import Derived.Test.YtddkchlamdhgcaaGreatDoorSu32
set_option maxRecDepth 100000
set_option maxHeartbeats 3200000
namespace Go.Proofs.YtddkchlamdhgcaaGreatDoor
open _root_.Go.Proofs.Tryz
open Go.RowKit
theorem kC (k R D L G sz ex fam c:Int)(gr:Bool)(F:Nat)(A:Value)(w:World)(hc:(c==0)=false)
  (HF: ∀w1,yC 51 #[yi k] w1 fun z w'=>z= .returned (yi c)∧w'=w1)
  (HL: ∀w1,yC 81 #[] w1 fun z w'=>z= .returned A∧yB w1 w')
  (hix: ∀W:World,(Instr.index 160 A (yi k)).run Tryz.prog W= .ok (ylV R D L G gr sz ex fam F) W):
  yC 57 #[yi k] w (yR w (.tuple #[ylV R D L G gr sz ex fam F,yi 0])):=by
 replace HF:Hid _:=HF;replace HL:Hid _:=HL;have hsf:=cD;have l0:=ah w (yzL 0 0 0 0 false 0 0 0) 116;have b0:=af w (.cells (yzA 0 0 0 0 false 0 0 0) 116)
 go_enter func57,ntmps57
 go_wp2_with fail
 refine(HF.out _).mono ?_;rintro z w' ⟨rfl,rfl⟩
 go_wp2_with fail
 refine(HL.out _).mono ?_;rintro z w2 ⟨rfl,b2⟩;have l2:=l0.l b2;have cR:au (((((((((w2.setCell ⟨w.heap.size,0,none⟩ (yi R)).setCell ⟨w.heap.size,1,none⟩ (yi D)).setCell ⟨w.heap.size,2,none⟩ (yi L)).setCell ⟨w.heap.size,3,none⟩ (yi G)).setCell ⟨w.heap.size,4,none⟩ (.bool gr)).setCell ⟨w.heap.size,5,none⟩ (yi sz)).setCell ⟨w.heap.size,6,none⟩ (yi ex)).setCell ⟨w.heap.size,7,none⟩ (yi fam)).setCell ⟨w.heap.size,8,none⟩ (.func (.func F) #[] #[])) w.heap.size 116 (ylL R D L G gr sz ex fam F):=(((((((((l2.set 0 (yi R)).set 1 (yi D)).set 2 (yi L)).set 3 (yi G)).set 4 (.bool gr)).set 5 (yi sz)).set 6 (yi ex)).set 7 (yi fam)).set 8 (.func (.func F) #[] #[]));have bR:=(((((((((ag w2 w.heap.size 0 (yi R)).trans (ag _ w.heap.size 1 (yi D))).trans (ag _ w.heap.size 2 (yi L))).trans (ag _ w.heap.size 3 (yi G))).trans (ag _ w.heap.size 4 (.bool gr))).trans (ag _ w.heap.size 5 (yi sz))).trans (ag _ w.heap.size 6 (yi ex))).trans (ag _ w.heap.size 7 (yi fam))).trans (ag _ w.heap.size 8 (.func (.func F) #[] #[]))).below (aa b0 b2) (Nat.le_refl _);have hl:=run_loadVar_mid (P:=Tryz.prog) _ w.heap.size 0 116 (ylL R D L G gr sz ex fam F) _ cR.range underlying116 rfl (by kernel_rfl);have HH:Hid (_∧_):=⟨hl,bR⟩;have f0:=l2.f 0;have f1:=l2.f 1;have f2:=l2.f 2;have f3:=l2.f 3;have f4:=l2.f 4;have f5:=l2.f 5;have f6:=l2.f 6;have f7:=l2.f 7;have f8:=l2.f 8;obtain⟨x0,x1,x2,x3,x4,x5,x6,x7,x8⟩:=l2.cs9;clear hl bR cR l0 l2 b0 b2 HF HL
 go_wp2
 obtain⟨hl,bR⟩:=HH.out;exact bodyPost_ret (aj results57 rfl rfl hl) rfl ⟨rfl,bR⟩
theorem Uy (g cap:Nat)(zs:List Nat)(w:World)(ho:ik w g zs)(hl:zs.length≤1000000000):
  yC 118 #[.slice (some ⟨g,0,none⟩) zs.length cap] w fun e w'=>e= .returned (.tuple #[])∧ik w' g zs.reverse∧w.grownBy w' (some g):=by
 have hr:=Ko g cap zs w ho hl
 go_enter func118,ntmps118
 go_wp2_with fail
 refine hr.mono ?_;rintro z w1 ⟨rfl,r1,g1⟩
 go_wp2
 go_end0
 exact⟨rfl,r1,g1⟩
theorem IV (k:Nat)(g cap:Nat)(zs:List Nat)(w:World)(ho:ik w g zs)(hl:zs.length≤1000)(hev: ∃m,zs.length=2*m):
  yC (C9 k) #[.slice (some ⟨g,0,none⟩) zs.length cap] w fun e w'=>e= .returned (.tuple #[])∧ik w' g (jT k zs)∧w.grownBy w' (some g):=by
 unfold C9 jT
 by_cases h3:k=3
 ·rw[if_pos h3,if_pos h3]
  exact Uy g cap zs w ho (by omega)
 ·rw[if_neg h3,if_neg h3]
  by_cases h6:6≤k
  ·rw[if_pos h6,if_pos h6]
   obtain⟨m,hm⟩:=hev;exact T8 g cap m zs w ho (by omega) hm
  ·rw[if_neg h6,if_neg h6]
   refine(Ux _ w).mono ?_;rintro z w1 ⟨rfl,rfl⟩;exact⟨rfl,ho,ib _ _⟩
theorem GA (n:Int)(s:ByteArray)(w:World)
  (HL:yJ 57 #[yi n] (.tuple #[yzV 0 0 0 0 false 0 0 0,yi 6])):
  yC 55 #[yi n,.string s] w (yR w (.tuple #[yzV 0 0 0 0 false 0 0 0,yfV false 0 0,yi 6])):=by
 have hsf:=cD;have hsn:=gn;have bl:=af w (.cells (yzA 0 0 0 0 false 0 0 0) 116);have bf:=af (w.alloc (.cells (yzA 0 0 0 0 false 0 0 0) 116)) (.cells (yfA false 0 0) 119);have l0:=(ah w (yzL 0 0 0 0 false 0 0 0) 116).l bf;have m0:=ah (w.alloc (.cells (yzA 0 0 0 0 false 0 0 0) 116)) (yfL false 0 0) 119;have b0:=aa bl bf;rw[World.size_alloc] at m0;clear bl bf;have HL':Hid _:=HL;clear HL
 go_enter func55,ntmps55
 go_wp2_with fail
 refine(HL'.out _).mono ?_;rintro z w1 ⟨rfl,b1⟩;have bq:=af w1 (.cells (yzA 0 0 0 0 false 0 0 0) 116);have l1:=(l0.l b1).l bq;have m1:=(m0.l b1).l bq;have q1:=ah w1 (yzL 0 0 0 0 false 0 0 0) 116;have b01:=aa (aa b0 b1) bq;have hne0:w.heap.size≠w1.heap.size:=Nat.ne_of_lt (l0.l b1).lt;have hne1:w.heap.size+1≠w1.heap.size:=Nat.ne_of_lt (m0.l b1).lt;obtain⟨p0,p1,p2,p3,p4,p5,p6,p7,p8⟩:=q1.cs9;obtain⟨x0,x1,x2,x3,x4,x5,x6,x7,x8⟩:=l1.cs9;have jx0:=l1.f 0;have jx1:=l1.f 1;have jx2:=l1.f 2;have jx3:=l1.f 3;have jx4:=l1.f 4;have jx5:=l1.f 5;have jx6:=l1.f 6;have jx7:=l1.f 7;have jx8:=l1.f 8;obtain⟨y0,y1,y2⟩:=m1.cs3;have jy0:=m1.f 0;have jy1:=m1.f 1;have jy2:=m1.f 2;have hn1:w.heap.size+1≠w.heap.size:=Nat.succ_ne_self _;have cL:au (((((((((((((w1.alloc (.cells (yzA 0 0 0 0 false 0 0 0) 116)).setCell ⟨w.heap.size,0,none⟩ (yi 0)).setCell ⟨w.heap.size,1,none⟩ (yi 0)).setCell ⟨w.heap.size,2,none⟩ (yi 0)).setCell ⟨w.heap.size,3,none⟩ (yi 0)).setCell ⟨w.heap.size,4,none⟩ (.bool false)).setCell ⟨w.heap.size,5,none⟩ (yi 0)).setCell ⟨w.heap.size,6,none⟩ (yi 0)).setCell ⟨w.heap.size,7,none⟩ (yi 0)).setCell ⟨w.heap.size,8,none⟩ (.nilFunc)).setCell ⟨w.heap.size+1,0,none⟩ (.bool false)).setCell ⟨w.heap.size+1,1,none⟩ (yi 0)).setCell ⟨w.heap.size+1,2,none⟩ (.int .u64 0)) w.heap.size 116 (yzL 0 0 0 0 false 0 0 0):=((((((((((((l1.set 0 (yi 0)).set 1 (yi 0)).set 2 (yi 0)).set 3 (yi 0)).set 4 (.bool false)).set 5 (yi 0)).set 6 (yi 0)).set 7 (yi 0)).set 8 (.nilFunc)).off hn1 0 (.bool false)).off hn1 1 (yi 0)).off hn1 2 (.int .u64 0));have cM:au (((((((((((((w1.alloc (.cells (yzA 0 0 0 0 false 0 0 0) 116)).setCell ⟨w.heap.size,0,none⟩ (yi 0)).setCell ⟨w.heap.size,1,none⟩ (yi 0)).setCell ⟨w.heap.size,2,none⟩ (yi 0)).setCell ⟨w.heap.size,3,none⟩ (yi 0)).setCell ⟨w.heap.size,4,none⟩ (.bool false)).setCell ⟨w.heap.size,5,none⟩ (yi 0)).setCell ⟨w.heap.size,6,none⟩ (yi 0)).setCell ⟨w.heap.size,7,none⟩ (yi 0)).setCell ⟨w.heap.size,8,none⟩ (.nilFunc)).setCell ⟨w.heap.size+1,0,none⟩ (.bool false)).setCell ⟨w.heap.size+1,1,none⟩ (yi 0)).setCell ⟨w.heap.size+1,2,none⟩ (.int .u64 0)) (w.heap.size+1) 119 (yfL false 0 0):=((((((((((((m1.off (Ne.symm hn1) 0 (yi 0)).off (Ne.symm hn1) 1 (yi 0)).off (Ne.symm hn1) 2 (yi 0)).off (Ne.symm hn1) 3 (yi 0)).off (Ne.symm hn1) 4 (.bool false)).off (Ne.symm hn1) 5 (yi 0)).off (Ne.symm hn1) 6 (yi 0)).off (Ne.symm hn1) 7 (yi 0)).off (Ne.symm hn1) 8 (.nilFunc)).set 0 (.bool false)).set 1 (yi 0)).set 2 (.int .u64 0));have bR:=(((ag _ (w.heap.size+1) 0 (.bool false)).trans (ag _ (w.heap.size+1) 1 (yi 0))).trans (ag _ (w.heap.size+1) 2 (.int .u64 0))).below ((((((((((ag (w1.alloc (.cells (yzA 0 0 0 0 false 0 0 0) 116)) w.heap.size 0 (yi 0)).trans (ag _ w.heap.size 1 (yi 0))).trans (ag _ w.heap.size 2 (yi 0))).trans (ag _ w.heap.size 3 (yi 0))).trans (ag _ w.heap.size 4 (.bool false))).trans (ag _ w.heap.size 5 (yi 0))).trans (ag _ w.heap.size 6 (yi 0))).trans (ag _ w.heap.size 7 (yi 0))).trans (ag _ w.heap.size 8 (.nilFunc))).below b01 (Nat.le_refl _)) (Nat.le_succ _);have hl:=run_loadVar_mid (P:=Tryz.prog) _ w.heap.size 0 116 (yzL 0 0 0 0 false 0 0 0) _ cL.range underlying116 rfl (by kernel_rfl);have hm:=run_loadVar_mid (P:=Tryz.prog) _ (w.heap.size+1) 0 119 (yfL false 0 0) _ cM.range underlying119 rfl (by kernel_rfl);have HH:Hid (_∧_∧_):=⟨hl,hm,bR⟩;clear hl hm bR cL cM l1 m1 q1 b01 l0 m0 b0 bq b1
 go_wp2
 obtain⟨hl,hm,bR⟩:=HH.out;exact bodyPost_ret (kg results55 rfl rfl rfl hl hm) rfl ⟨rfl,bR⟩
theorem H6 (n:Int)(R sz ex:Nat)(D L G fam:Int)(gr:Bool)(F:Nat)(s:ByteArray)(w:World)(hs:s.size≠sz)
  (HL:yJ 57 #[yi n] (.tuple #[ylV R D L G gr sz ex fam F,yi 0])):
  yC 55 #[yi n,.string s] w (yR w (.tuple #[yzV 0 0 0 0 false 0 0 0,yfV false 0 0,yi 1])):=by
 have hsf:=cD;have hsn:=gn;have bl:=af w (.cells (yzA 0 0 0 0 false 0 0 0) 116);have bf:=af (w.alloc (.cells (yzA 0 0 0 0 false 0 0 0) 116)) (.cells (yfA false 0 0) 119);have l0:=(ah w (yzL 0 0 0 0 false 0 0 0) 116).l bf;have m0:=ah (w.alloc (.cells (yzA 0 0 0 0 false 0 0 0) 116)) (yfL false 0 0) 119;have b0:=aa bl bf;rw[World.size_alloc] at m0;clear bl bf;have HL':Hid _:=HL;clear HL
 go_enter func55,ntmps55
 go_wp2_with fail
 refine(HL'.out _).mono ?_;rintro z w1 ⟨rfl,b1⟩;have bq:=af w1 (.cells (ylA R D L G gr sz ex fam F) 116);have l1:=(l0.l b1).l bq;have m1:=(m0.l b1).l bq;have q1:=ah w1 (ylL R D L G gr sz ex fam F) 116;have b01:=aa (aa b0 b1) bq;have hne0:w.heap.size≠w1.heap.size:=Nat.ne_of_lt (l0.l b1).lt;have hne1:w.heap.size+1≠w1.heap.size:=Nat.ne_of_lt (m0.l b1).lt;obtain⟨p0,p1,p2,p3,p4,p5,p6,p7,p8⟩:=q1.cs9;obtain⟨x0,x1,x2,x3,x4,x5,x6,x7,x8⟩:=l1.cs9;have jx0:=l1.f 0;have jx1:=l1.f 1;have jx2:=l1.f 2;have jx3:=l1.f 3;have jx4:=l1.f 4;have jx5:=l1.f 5;have jx6:=l1.f 6;have jx7:=l1.f 7;have jx8:=l1.f 8;obtain⟨y0,y1,y2⟩:=m1.cs3;have jy0:=m1.f 0;have jy1:=m1.f 1;have jy2:=m1.f 2;have hsz:((s.size:Int)==(sz:Int))=false:=by simp;omega
 clear hs;have hn1:w.heap.size+1≠w.heap.size:=Nat.succ_ne_self _;have cL:au (((((((((((((w1.alloc (.cells (ylA R D L G gr sz ex fam F) 116)).setCell ⟨w.heap.size,0,none⟩ (yi 0)).setCell ⟨w.heap.size,1,none⟩ (yi 0)).setCell ⟨w.heap.size,2,none⟩ (yi 0)).setCell ⟨w.heap.size,3,none⟩ (yi 0)).setCell ⟨w.heap.size,4,none⟩ (.bool false)).setCell ⟨w.heap.size,5,none⟩ (yi 0)).setCell ⟨w.heap.size,6,none⟩ (yi 0)).setCell ⟨w.heap.size,7,none⟩ (yi 0)).setCell ⟨w.heap.size,8,none⟩ (.nilFunc)).setCell ⟨w.heap.size+1,0,none⟩ (.bool false)).setCell ⟨w.heap.size+1,1,none⟩ (yi 0)).setCell ⟨w.heap.size+1,2,none⟩ (.int .u64 0)) w.heap.size 116 (yzL 0 0 0 0 false 0 0 0):=((((((((((((l1.set 0 (yi 0)).set 1 (yi 0)).set 2 (yi 0)).set 3 (yi 0)).set 4 (.bool false)).set 5 (yi 0)).set 6 (yi 0)).set 7 (yi 0)).set 8 (.nilFunc)).off hn1 0 (.bool false)).off hn1 1 (yi 0)).off hn1 2 (.int .u64 0));have cM:au (((((((((((((w1.alloc (.cells (ylA R D L G gr sz ex fam F) 116)).setCell ⟨w.heap.size,0,none⟩ (yi 0)).setCell ⟨w.heap.size,1,none⟩ (yi 0)).setCell ⟨w.heap.size,2,none⟩ (yi 0)).setCell ⟨w.heap.size,3,none⟩ (yi 0)).setCell ⟨w.heap.size,4,none⟩ (.bool false)).setCell ⟨w.heap.size,5,none⟩ (yi 0)).setCell ⟨w.heap.size,6,none⟩ (yi 0)).setCell ⟨w.heap.size,7,none⟩ (yi 0)).setCell ⟨w.heap.size,8,none⟩ (.nilFunc)).setCell ⟨w.heap.size+1,0,none⟩ (.bool false)).setCell ⟨w.heap.size+1,1,none⟩ (yi 0)).setCell ⟨w.heap.size+1,2,none⟩ (.int .u64 0)) (w.heap.size+1) 119 (yfL false 0 0):=((((((((((((m1.off (Ne.symm hn1) 0 (yi 0)).off (Ne.symm hn1) 1 (yi 0)).off (Ne.symm hn1) 2 (yi 0)).off (Ne.symm hn1) 3 (yi 0)).off (Ne.symm hn1) 4 (.bool false)).off (Ne.symm hn1) 5 (yi 0)).off (Ne.symm hn1) 6 (yi 0)).off (Ne.symm hn1) 7 (yi 0)).off (Ne.symm hn1) 8 (.nilFunc)).set 0 (.bool false)).set 1 (yi 0)).set 2 (.int .u64 0));have bR:=(((ag _ (w.heap.size+1) 0 (.bool false)).trans (ag _ (w.heap.size+1) 1 (yi 0))).trans (ag _ (w.heap.size+1) 2 (.int .u64 0))).below ((((((((((ag (w1.alloc (.cells (ylA R D L G gr sz ex fam F) 116)) w.heap.size 0 (yi 0)).trans (ag _ w.heap.size 1 (yi 0))).trans (ag _ w.heap.size 2 (yi 0))).trans (ag _ w.heap.size 3 (yi 0))).trans (ag _ w.heap.size 4 (.bool false))).trans (ag _ w.heap.size 5 (yi 0))).trans (ag _ w.heap.size 6 (yi 0))).trans (ag _ w.heap.size 7 (yi 0))).trans (ag _ w.heap.size 8 (.nilFunc))).below b01 (Nat.le_refl _)) (Nat.le_succ _);have hl:=run_loadVar_mid (P:=Tryz.prog) _ w.heap.size 0 116 (yzL 0 0 0 0 false 0 0 0) _ cL.range underlying116 rfl (by kernel_rfl);have hm:=run_loadVar_mid (P:=Tryz.prog) _ (w.heap.size+1) 0 119 (yfL false 0 0) _ cM.range underlying119 rfl (by kernel_rfl);have HH:Hid (_∧_∧_):=⟨hl,hm,bR⟩;clear hl hm bR cL cM l1 m1 q1 b01 l0 m0 b0 bq b1
 go_wp2
 obtain⟨hl,hm,bR⟩:=HH.out;exact bodyPost_ret (kg results55 rfl rfl rfl hl hm) rfl ⟨rfl,bR⟩
theorem Yr (n R D L G fam:Int)(gr:Bool)(w:World)
  (HG:yJ 43 #[yi n] (.tuple #[ygV R D L G gr,yi 0]))
  (HF: ∀w1,yC 51 #[yi n] w1 fun z w'=>z= .returned (yi fam)∧w'=w1):
  yC 74 #[yi n] w (yR w (.tuple #[ykV n 0 fam R D L G gr,yi 0])):=by
 replace HG:Hid _:=HG;replace HF:Hid _:=HF;have d0:=ah w (ykL 0 0 0 0 0 0 0 false) 150;have b0:=af w (.cells (ykA 0 0 0 0 0 0 0 false) 150)
 go_enter func74,ntmps74
 go_wp2_with fail
 refine(HG.out _).mono ?_;rintro z w1 ⟨rfl,b1⟩;have bg:=af w1 (.cells (ygA R D L G gr) 40);have g1:=ah w1 (ygL R D L G gr) 40;have d1:=(d0.l b1).l bg;have b01:=aa (aa b0 b1) bg;have hlt:w.heap.size<w1.heap.size:=(d0.l b1).lt
 go_upto_region 4 with fail
 generalize w1.alloc (.cells (ygA R D L G gr) 40)=W1 at g1 d1 b01⊢;generalize w1.heap.size=PG at g1 hlt⊢;have hne:w.heap.size≠PG:=by omega
 have gd:=g1.drew;have dd:=d1.drew;have bd:=b01.drew;have bR:yB w (W1.drew.setCells w.heap.size 0 (ykL n 0 fam R D L G gr)):=((((((((ag W1.drew w.heap.size 0 (yi n)).trans (ag _ w.heap.size 1 (yi 0))).trans (ag _ w.heap.size 2 (yi fam))).trans (ag _ w.heap.size 3 (yi R))).trans (ag _ w.heap.size 4 (yi D))).trans (ag _ w.heap.size 5 (yi L))).trans (ag _ w.heap.size 6 (yi G))).trans (ag _ w.heap.size 7 (.bool gr))).below bd (Nat.le_refl _);have hl:=run_loadVar_mid (P:=Tryz.prog) _ w.heap.size 0 150 (ykL n 0 fam R D L G gr) _ (World.rangeAt_setCells_same W1.drew w.heap.size 0 (ykL n 0 fam R D L G gr) (show W1.drew.there w.heap.size 0 8 from dD dd)) underlying150 rfl (by kernel_rfl)
 have HH:Hid (_∧_):=⟨hl,bR⟩;clear hl bR b01 d0 b0 b1 bg HG bd d1 g1;refine wp_region_held_drew (S:=fun wq=>wq.rangeAt PG 0 (ygL R D L G gr)) (by kernel_rfl) gd.range (fun hS0=> ?_)
 refine tq 0 (yi n) rfl (fun w0 _=>by kernel_rfl) hS0 ?_
 refine tq 1 (yi n) rfl (fun w0 _=>by kernel_rfl) hS0 ?_
 refine tq 3 ((ygV R D L G gr)) rfl (fun w0 hw0=>fy 40 (.tmp 4) rfl PG 0 (by kernel_rfl) _ _ hw0 underlying40 rfl (by kernel_rfl)) hS0 ?_
 refine wpAnyH_ready (rs:=[2]) (by kernel_rfl) (by simp) ?_;refine AllReadyH.cons rfl (fun K hK=> ?_) AllReadyH.nil
 go_simp
 refine(HF.out _).mono ?_;rintro z w2 ⟨rfl,rfl⟩;refine hK.out _ _ hS0 (fun hS2=> ?_)
 clear hK K;refine tq 4 ((ykV n 0 fam R D L G gr)) rfl (fun w0 _=>by kernel_rfl) hS2 ?_
 refine wpAnyH_ready (rs:=[5]) (by kernel_rfl) (by simp) ?_;refine AllReadyH.cons rfl (fun K hK=> ?_) AllReadyH.nil
 rw[if_pos (by kernel_rfl)];refine wp_store_mid 150 (.tmp 2) (.tmp 19) rfl w.heap.size 0 (ykA n 0 fam R D L G gr) (by kernel_rfl) (by kernel_rfl) (show W1.drew.there w.heap.size 0 8 from dD dd) (by kernel_rfl) (by simp[Value.oneCell']) ?_
 refine hK.out _ _ (World.rangeAt_setCells_apart hS2 _ _ _ (.inl (by omega))) (fun hS5=> ?_)
 clear hK K;refine tq 6 (yi 0) rfl (fun w0 _=>by kernel_rfl) hS5 ?_
 refine wpAnyH_done (by kernel_rfl) ?_ _;obtain⟨hl,bR⟩:=HH.out;clear HH hS5 hS2 hS0 gd dd HF;change Exit.then _ _ _ _ (World.setCells W1.drew w.heap.size 0 (ykL n 0 fam R D L G gr));generalize World.setCells W1.drew w.heap.size 0 (ykL n 0 fam R D L G gr)=WE at hl bR⊢
 go_wp2
 exact bodyPost_ret (aj results74 rfl rfl hl) rfl ⟨rfl,bR⟩
open Go.RowKit Go.ChangeMaps Go.MapKept
def Xo:Array MapEntry:= #[⟨yi 1,yi 4,0⟩,⟨yi 2,yi 1,1⟩,⟨yi 3,yi 5,2⟩]
theorem JQ (w:World):yC 111 #[] w fun z w'=>z= .returned (.map (some w.heap.size))∧w'.heap[w.heap.size]? =some (.map Xo 3)∧yB w w':=by
 have ht:=underlying190;have hk:=underlying107;have hb0:(w.alloc (.map #[] 0)).heap[w.heap.size]? =some (.map #[] 0):=heap_alloc_new _ _;have b0:=af w (.map #[] 0);have e0:=run_makeMap (P:=Tryz.prog) 190 w;obtain⟨W1,e1,hb1,b1⟩:=sS ht hk hb0 (Nat.le_refl _) b0 1 (yi 4) rfl;obtain⟨W2,e2,hb2,b2⟩:=sS ht hk hb1 (Nat.le_refl _) b1 2 (yi 1) rfl;obtain⟨W3,e3,hb3,b3⟩:=sS ht hk hb2 (Nat.le_refl _) b2 3 (yi 5) rfl;have HB:Hid (W3.heap[w.heap.size]? =some (.map Xo 3)):=hb3;clear hb1 hb2 hb3 b1 b2 ht hk hb0
 go_enter func111,ntmps111
 go_wp2
 go_ret
 exact⟨rfl,HB.out,b3⟩
def AZ (f:Int):Int:=if f=1 then 4 else if f=2 then 1 else 5
theorem A5 (f:Int)(hf:f=1∨f=2∨f=3)(w:World):yC 77 #[yi f] w (yR w (yi (AZ f))):=by
 have HN:Hid _:=JQ;have HL:Hid (∀W r,W.heap[r]? =some (.map Xo 3)→(Instr.lookup 190 (.map (some r)) (yi f) false).run Tryz.prog W= .ok (yi (AZ f)) W):=fun W r hm=>by
  rcases hf with rfl|rfl|rfl
  ·exact pj underlying190 underlying107 hm 1 (i:=0) rfl
  ·exact pj underlying190 underlying107 hm 2 (i:=1) rfl
  ·exact pj underlying190 underlying107 hm 3 (i:=2) rfl
 generalize AZ f=c at*;clear hf
 go_enter func77,ntmps77
 go_wp2_with fail
 refine(HN.out _).mono ?_;rintro z w1 ⟨rfl,hm,b1⟩;have hl:=HL.out w1 _ hm;clear hm HL HN
 go_wp2
 go_ret
 exact⟨rfl,b1⟩
def aaV (wy:Int)(ng:Bool):Bool:=if wy=1∨wy=2 then true else if wy=4 then !ng else(ng&&decide (wy=5))
theorem CT (n wy fam R D L G:Int)(gr ng:Bool)(hw:1≤wy∧wy≤5)(w:World):yC 140 #[ykV n wy fam R D L G gr,.bool ng] w (yR w (.bool (aaV wy ng))):=by
 have h5:wy=1∨wy=2∨wy=3∨wy=4∨wy=5:=by omega
 have b0:=af w (.cells (ykA n wy fam R D L G gr) 150);clear hw
 rcases h5 with rfl|rfl|rfl|rfl|rfl
 all_goals
  cases ng
  all_goals
   go_enter func140,ntmps140
   go_wp2
   go_ret
   exact⟨rfl,b0⟩
theorem It (n wy fam R D L G c p fl er:Int)(gr ng:Bool)(ao:Option Addr)(la ca:Nat)(st:ByteArray)(w:World)
  (HE:yH w 29 #[yi n,yvV c ng (.slice ao la ca) p] (.tuple #[.string st,yi er])):
  yC 75 #[ykV n wy fam R D L G gr,yvV c ng (.slice ao la ca) p,yi fl] w (yR w (if er=0 then .tuple #[.string st,yi fl,yi 0] else .tuple #[.string ⟨#[]⟩,yi 0,yi er])):=by
 replace HE:Hid _:=HE;have ad:=af w (.cells (ykA n wy fam R D L G gr) 150);have av:=af (w.alloc (.cells (ykA n wy fam R D L G gr) 150)) (.cells (yvA c ng (.slice ao la ca) p) 68);have d0:=(ah w (ykL n wy fam R D L G gr) 150).l av;have v0:=ah (w.alloc (.cells (ykA n wy fam R D L G gr) 150)) (yvL c ng (.slice ao la ca) p) 68;rw[World.size_alloc] at v0;have b0:=aa ad av;clear ad av
 by_cases he:er=0
 ·rw[if_pos he]
  subst he
  go_enter func75,ntmps75
  go_upto_region 1 with fail
  generalize(w.alloc (.cells (ykA n wy fam R D L G gr) 150)).alloc (.cells (yvA c ng (.slice ao la ca) p) 68)=W0 at d0 v0 b0⊢;have y0:=d0.c 0 rfl;obtain⟨x0,x1,x2,x3⟩:=v0.cs4
  go_wp2_with fail
  refine(HE.out _ b0).mono ?_;rintro z w1 ⟨rfl,b1⟩;have b01:=aa b0 b1
  go_wp2
  go_ret3
  exact⟨rfl,b01⟩
 ·rw[if_neg he]
  have hef:(er==0)=false:=by simpa using he
  go_enter func75,ntmps75
  go_upto_region 1 with fail
  generalize(w.alloc (.cells (ykA n wy fam R D L G gr) 150)).alloc (.cells (yvA c ng (.slice ao la ca) p) 68)=W0 at d0 v0 b0⊢;have y0:=d0.c 0 rfl;obtain⟨x0,x1,x2,x3⟩:=v0.cs4
  go_wp2_with fail
  refine(HE.out _ b0).mono ?_;rintro z w1 ⟨rfl,b1⟩;have b01:=aa b0 b1;clear he
  go_wp2
  go_ret3
  exact⟨rfl,b01⟩
theorem Ja (R D L G:Int)(gr s:Bool)(ao:Option Addr)(ca:Nat)(xs:List Nat)(e:Int)(w:World)(hr:Rd w .u32 (.slice ao xs.length ca) xs)(sa:Dg.Small 4294967296 xs)(hT:Tab w):
  yC 72 #[ydV s (.slice ao xs.length ca) e,ygV R D L G gr] w (DM w (um xs e R D L G gr) (Zo xs e R D L G gr) (Zp xs e R D L G gr) (onC (aS xs e) (bk R D L G))):=by
 have herr: ¬onC (aS xs e) (bk R D L G)=0→um xs e R D L G gr=false∧Zo xs e R D L G gr=0∧Zp xs e R D L G gr=0:=fun h=>⟨if_neg h,if_neg h,if_neg h⟩
 refine acT R D L G gr s ao _ ca e (aS xs e) (bk R D L G) _ _ _ _ w ?_ ?_ ?_ ?_ ?_ ?_ ?_
 ·intro h
  have h1:onC (aS xs e) (bk R D L G)=aS xs e:=if_neg h;obtain⟨a,b,c⟩:=herr (by rw[h1];exact h);exact⟨a,b,c,h1⟩
 ·intro h h2
  have h1:onC (aS xs e) (bk R D L G)=bk R D L G:=if_pos h;obtain⟨a,b,c⟩:=herr (by rw[h1];exact h2);exact⟨a,b,c,h1⟩
 ·intro h h2
  exact(if_pos h).trans h2
 ·intro w1 b
  exact nS s ao ca xs e w1 (hr.l b)
 ·intro w1
  exact vE R D L G gr w1
 ·intro w1
  exact iK s ao _ ca e w1
 ·intro h h2 w1 b
  have h1:onC (aS xs e) (bk R D L G)=0:=(if_pos h).trans h2;rw[show um xs e R D L G gr=_ from if_pos h1,show Zo xs e R D L G gr=_ from if_pos h1,show Zp xs e R D L G gr=_ from if_pos h1]
  obtain⟨c1,e1,e2⟩:=bL h;obtain⟨n1,l1⟩:=aF c1;have ex:Dg.dg 4294967296 (Dg.vl 4294967296 xs)=xs:=Dg.dg_vl _ (by omega) _ sa n1;have:=VU R D L G gr s ao ca (Dg.vl 4294967296 xs) e w1 h2 (by rw[ex];exact hr.l b) (by rw[ex];exact l1) e1 e2 (hT.l b)
  rwa [ex] at this
theorem qR (R D L G:Int)(gr s:Bool)(ao:Option Addr)(ca:Nat)(xs:List Nat)(e:Int)(w:World)(hr:Rd w .u32 (.slice ao xs.length ca) xs)(sa:Dg.Small 4294967296 xs)(hT:Tab w):
  yC 45 #[ydV s (.slice ao xs.length ca) e,ygV R D L G gr] w (yR w (.tuple #[.bool (um xs e R D L G gr),yi (onC (aS xs e) (bk R D L G))])):=
 aa8 R D L G gr s ao _ ca e _ _ _ _ w (fun w1 b=>Ja R D L G gr s ao ca xs e w1 (hr.l b) sa (hT.l b))
theorem EF (n:Int)(R D L G fam:Int)(gr:Bool)(sz ex:Nat)(F:Nat)(c p:Int)(ng:Bool)(ao:Option Addr)(dn dc:Nat)(w:World)
  (HL:yJ 57 #[yi n] (.tuple #[ylV R D L G gr sz ex fam F,yi 0]))
  (nc:Int) (HN:yH w 58 #[.slice ao dn dc] (yi nc)) (h1:1≤c) (h5:c≤5) (hn:nc≠0):
  yC 29 #[yi n,yvV c ng (.slice ao dn dc) p] w (yR w (.tuple #[.string ⟨#[]⟩,yi nc])):=by
 have HN':Hid _:=HN;clear HN;have hc1: ¬c<1:=by omega
 have hc5: ¬5<c:=by omega
 have hnb:(nc==0)=false:=by simpa using hn
 clear hn;have hsf:=cD;have hsn:=gn;have m0:=ah w (yvL c ng (.slice ao dn dc) p) 68;have b0:=af w (.cells (yvA c ng (.slice ao dn dc) p) 68);have HL':Hid _:=HL;clear HL
 go_enter func29,ntmps29
 go_wp2_with fail
 refine(HL'.out _).mono ?_;rintro z w1 ⟨rfl,b1⟩;have bq:=af w1 (.cells (ylA R D L G gr sz ex fam F) 116);have m1:=(m0.l b1).l bq;have q1:=ah w1 (ylL R D L G gr sz ex fam F) 116;have b01:=aa (aa b0 b1) bq;obtain⟨u0,u1,u2,u3⟩:=m1.cs4;obtain⟨s0,s1,s2,s3,s4,s5,s6,s7,s8⟩:=q1.cs9;clear m0 b0 b1 bq HL'
 go_wp2_with fail
 refine(HN'.out _ b01).mono ?_;rintro z w2 ⟨rfl,b2⟩;have m2:=m1.l b2;have q2:=q1.l b2;have b02:=aa b01 b2;obtain⟨v0,v1,v2,v3⟩:=m2.cs4;obtain⟨t0,t1,t2,t3,t4,t5,t6,t7,t8⟩:=q2.cs9
 go_wp2
 go_ret2
 exact⟨rfl,b02⟩
theorem Ip (n:Int)(R D L G fam:Int)(gr:Bool)(sz ex:Nat)(F:Nat)(c p:Int)(ng:Bool)(ao:Option Addr)(dn dc:Nat)(w:World)
  (HL:yJ 57 #[yi n] (.tuple #[ylV R D L G gr sz ex fam F,yi 0]))
  (nc:Int) (HN:yH w 58 #[.slice ao dn dc] (yi nc))
  (st:ByteArray) (er:Int) (HO:yJ 60 #[ylV R D L G gr sz ex fam F,yvV c ng (.slice ao dn dc) p] (.tuple #[.string st,yi er])) (h1:1≤c) (h5:c≤5) (h2:c≠2) (hn:nc=0):
  yC 29 #[yi n,yvV c ng (.slice ao dn dc) p] w (yR w (.tuple #[.string st,yi er])):=by
 subst hn;have HN':Hid _:=HN;clear HN;have hc1: ¬c<1:=by omega
 have hc5: ¬5<c:=by omega
 have HO':Hid _:=HO;clear HO;have hcb:(c==2)=false:=by simpa using h2
 clear h2;have hsf:=cD;have hsn:=gn;have m0:=ah w (yvL c ng (.slice ao dn dc) p) 68;have b0:=af w (.cells (yvA c ng (.slice ao dn dc) p) 68);have HL':Hid _:=HL;clear HL
 go_enter func29,ntmps29
 go_wp2_with fail
 refine(HL'.out _).mono ?_;rintro z w1 ⟨rfl,b1⟩;have bq:=af w1 (.cells (ylA R D L G gr sz ex fam F) 116);have m1:=(m0.l b1).l bq;have q1:=ah w1 (ylL R D L G gr sz ex fam F) 116;have b01:=aa (aa b0 b1) bq;obtain⟨u0,u1,u2,u3⟩:=m1.cs4;obtain⟨s0,s1,s2,s3,s4,s5,s6,s7,s8⟩:=q1.cs9;clear m0 b0 b1 bq HL'
 go_wp2_with fail
 refine(HN'.out _ b01).mono ?_;rintro z w2 ⟨rfl,b2⟩;have m2:=m1.l b2;have q2:=q1.l b2;have b02:=aa b01 b2;obtain⟨v0,v1,v2,v3⟩:=m2.cs4;obtain⟨t0,t1,t2,t3,t4,t5,t6,t7,t8⟩:=q2.cs9
 go_wp2_with fail
 refine(HO'.out _).mono ?_;rintro z w3 ⟨rfl,b3⟩
 go_wp2
 go_ret2
 exact⟨rfl,aa b02 b3⟩
theorem QD (n:Int)(R D L G fam:Int)(gr:Bool)(sz ex:Nat)(F:Nat)(p:Int)(ng:Bool)(ao:Option Addr)(dn dc:Nat)(w:World)
  (HL:yJ 57 #[yi n] (.tuple #[ylV R D L G gr sz ex fam F,yi 0]))
  (nc:Int) (HN:yH w 58 #[.slice ao dn dc] (yi nc))
  (st:ByteArray) (er:Int) (HO:yH w 59 #[ylV R D L G gr sz ex fam F,yvV 2 ng (.slice ao dn dc) p] (.tuple #[.string st,yi er])) (hn:nc=0):
  yC 29 #[yi n,yvV 2 ng (.slice ao dn dc) p] w (yR w (.tuple #[.string st,yi er])):=by
 subst hn;have HN':Hid _:=HN;clear HN;have HO':Hid _:=HO;clear HO;have hsf:=cD;have hsn:=gn;have m0:=ah w (yvL 2 ng (.slice ao dn dc) p) 68;have b0:=af w (.cells (yvA 2 ng (.slice ao dn dc) p) 68);have HL':Hid _:=HL;clear HL
 go_enter func29,ntmps29
 go_wp2_with fail
 refine(HL'.out _).mono ?_;rintro z w1 ⟨rfl,b1⟩;have bq:=af w1 (.cells (ylA R D L G gr sz ex fam F) 116);have m1:=(m0.l b1).l bq;have q1:=ah w1 (ylL R D L G gr sz ex fam F) 116;have b01:=aa (aa b0 b1) bq;obtain⟨u0,u1,u2,u3⟩:=m1.cs4;obtain⟨s0,s1,s2,s3,s4,s5,s6,s7,s8⟩:=q1.cs9;clear m0 b0 b1 bq HL'
 go_wp2_with fail
 refine(HN'.out _ b01).mono ?_;rintro z w2 ⟨rfl,b2⟩;have m2:=m1.l b2;have q2:=q1.l b2;have b02:=aa b01 b2;obtain⟨v0,v1,v2,v3⟩:=m2.cs4;obtain⟨t0,t1,t2,t3,t4,t5,t6,t7,t8⟩:=q2.cs9
 go_wp2_with fail
 refine(HO'.out _ b02).mono ?_;rintro z w3 ⟨rfl,b3⟩
 go_wp2
 go_ret2
 exact⟨rfl,aa b02 b3⟩
theorem oj {R D L G:Int}{gr s:Bool}{n:Nat}{e way:Int}(h1:1≤D)(hLG:L≤G)(h0:n≠0)(hh:dA R D L G gr n e=true):
  (cI R D L G gr s n 1 e way).s=s∧(cI R D L G gr s n 1 e way).d=shN n (e-(ai R:Int)*cP R D L gr n e)∧(cI R D L G gr s n 1 e way).p=cP R D L gr n e∧shN n (e-(ai R:Int)*cP R D L gr n e)≠0:=by
 have hM:(1:Nat)≠0:=by omega
 have hb:=(mC (s:=s) (way:=way) h1 hLG h0 hh).2.2;have hs:L≤cP R D L gr n e∧cP R D L gr n e≤G∧(ai R:Int)*cP R D L gr n e≤e+(tz n:Int):=by
  unfold dA at hh
  rcases of_decide_eq_true hh with h|h
  ·exact absurd h h0
  ·exact h
 have hc:dj R D L gr n 1 e=cP R D L gr n e:=by
  unfold dj cP;rw[lU h0]
 obtain⟨p1,-⟩:=nV s n e ((ai R:Int)*cP R D L gr n e) hs.2.2;have hl:gF R D L gr n 1 e=0:=by
  unfold gF shP;rw[hc];exact p1
 have hd:fM R D L gr s n 1 e way=cH R D L gr n 1 e:=by
  unfold fM;rw[if_neg];rintro⟨c,-⟩;exact of_decide_eq_false c hl
 obtain⟨c1,c2⟩:=uh R D L gr n 1 e h1 h0 hM (dj R D L gr n 1 e);have hw:cH R D L gr n 1 e=shN n (e-(ai R:Int)*cP R D L gr n e):=by
  unfold cH shP;rw[hc,Jv]
 have hdn:(cI R D L G gr s n 1 e way).d≠0:=fun hz=>by
  have h2:(bare ⟨(cI R D L G gr s n 1 e way).s,(cI R D L G gr s n 1 e way).d,(ai R:Int)*(cI R D L G gr s n 1 e way).p⟩).n=0:=(fI _).2 hz;rw[hb] at h2;exact h0 ((fI _).1 h2)
 rw[kJ gr s n 1 e way h1 hLG h0 hM,hd,c1,c2,hc] at hdn⊢;simp only at hdn⊢;rw[if_neg hdn];rw[hw] at hdn⊢;exact⟨trivial,rfl,rfl,hdn⟩
theorem cnumber_W (R D L G p:Int)(gr:Bool)(ao:Option Addr)(la ac:Nat)(t:ak)(w:World)
  (HW: ∀w1,yB w w1→yC 87 #[yvV 2 false (.slice ao la ac) p,ygV R D L G gr] w1 (acy w1 t)):
  yC 68 #[ygV R D L G gr,.slice ao la ac,yi p] w (acy w t):=by
 replace HW:Hid _:=HW;obtain⟨W4,hW5,q1,q2,b3⟩:=iG w (ygL R D L G gr) 40 (ydL false yN 0) 76;replace hW5:Hid _:=hW5
 go_enter func68,ntmps68
 go_upto_region 1 with fail
 rw[hW5.out];clear hW5;obtain⟨c6,c7,c8,c9,c10⟩:=q1.cs5
 go_wp2_with fail
 refine(HW.out _ b3).mono ?_;rintro zz w11 ⟨v1x13,rfl,r1x14,ff1,bb12⟩;have ff:=ff1.mono b3.size;clear ff1;have q15:=q2.l bb12;have b16:=aa b3 bb12;obtain⟨xo,xc,hv⟩:=r1x14.shape;subst hv;clear q1 q2 b3 bb12 HW c6 c7 c8 c9 c10;have hf:=afy (P:=Tryz.prog) q15 b16 (by omega) underlying76 rfl (by kernel_rfl) (.bool t.s) (yT xo t.n xc) (yi t.e);have HH:Hid (_∧_∧_):=⟨hf.1,hf.2.2.rd r1x14 (aX r1x14 q15 (by simp)),hf.2.1⟩;obtain⟨⟨z0,z1,z2⟩,y0,y1,y2⟩:=afA q15;clear hf q15 r1x14 b16
 go_wp2
 obtain⟨hl,rRx,bR⟩:=HH.out;exact bodyPost_ret (br results68 rfl hl) rfl ⟨_,rfl,rRx,ff,bR⟩
end Go.Proofs.YtddkchlamdhgcaaGreatDoor

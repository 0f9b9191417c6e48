/-
  Texts laid together: Co12, Co17, Ar1, Tx2, Ce5, Co22, Ce8, Ce11, Rk2, Tx5.
-/
import Derived.Test.YtdhpndnncmagiaaGreatDoorMa24
import Derived.Test.YtdhpndnncmagiaaGreatDoorMa29
set_option maxRecDepth 100000
set_option maxHeartbeats 6400000
namespace Go.Proofs.YtdhpndnncmagiaaGreatDoor
open _root_.Go.Proofs.Tryz
open Go.RowKit
theorem Gd (R D L G sz ex c:Int)(gr ng:Bool)(F e f:Nat)(w:World)(HC:yJ 203 #[ylV R D L G gr sz ex 1 F,yfV ng e f] (yi c)):yC 143 #[ylV R D L G gr sz ex 1 F,yfV ng e f] w (yR w (yi c)):=by
 replace HC:Hid _:=HC;have hsf:=cD;have l0:=(ah w (ylL R D L G gr sz ex 1 F) 94).l (af _ (.cells (yfA ng e f) 157));have m0:=ah (w.alloc (.cells (ylA R D L G gr sz ex 1 F) 94)) (yfL ng e f) 157;have b0:=aa (af w (.cells (ylA R D L G gr sz ex 1 F) 94)) (af _ (.cells (yfA ng e f) 157));rw[World.size_alloc] at m0
 go_enter func143,ntmps143
 go_wp2_with fail
 refine(HC.out _).mono ?_;rintro z w1 ⟨rfl,b1⟩
 go_wp2
 go_ret
 exact⟨rfl,aa b0 b1⟩
theorem Za (R D L G sz ex:Int)(gr ng:Bool)(F e f:Nat)(w:World):yC 143 #[ylV R D L G gr sz ex 2 F,yfV ng e f] w (yR w (yi (((if f=0 then 1 else 2:Nat):Nat):Int))):=by
 have hsf:=cD;have l0:=(ah w (ylL R D L G gr sz ex 2 F) 94).l (af _ (.cells (yfA ng e f) 157));have m0:=ah (w.alloc (.cells (ylA R D L G gr sz ex 2 F) 94)) (yfL ng e f) 157;have b0:=aa (af w (.cells (ylA R D L G gr sz ex 2 F) 94)) (af _ (.cells (yfA ng e f) 157));rw[World.size_alloc] at m0;have HZ:Hid (∀b w1,yC 204 #[.bool b] w1 fun z w'=>z= .returned (yi (if b then 1 else 2))∧w'=w1):=fun b w1=>Aj b w1
 by_cases h:f=0
 ·subst h
  go_enter func143,ntmps143
  go_wp2_with fail
  refine(HZ.out true _).mono ?_;rintro z w1 ⟨rfl,rfl⟩
  go_wp2
  go_ret
  exact⟨rfl,b0⟩
 ·have h1:((f:Int)==0)=false:=by simp;omega
  rw[if_neg h];clear h
  go_enter func143,ntmps143
  go_wp2_with fail
  refine(HZ.out false _).mono ?_;rintro z w1 ⟨rfl,rfl⟩
  go_wp2
  go_ret
  exact⟨rfl,b0⟩
theorem Zb (R D L G sz ex:Int)(gr ng:Bool)(F e f:Nat)(w:World):yC 143 #[ylV R D L G gr sz ex 3 F,yfV ng e f] w (yR w (yi (((if e=0 then(if ng then 5 else 1) else 2:Nat):Nat):Int))):=by
 have hsf:=cD;have l0:=(ah w (ylL R D L G gr sz ex 3 F) 94).l (af _ (.cells (yfA ng e f) 157));have m0:=ah (w.alloc (.cells (ylA R D L G gr sz ex 3 F) 94)) (yfL ng e f) 157;have b0:=aa (af w (.cells (ylA R D L G gr sz ex 3 F) 94)) (af _ (.cells (yfA ng e f) 157));rw[World.size_alloc] at m0;have HZ:Hid (∀b w1,yC 204 #[.bool b] w1 fun z w'=>z= .returned (yi (if b then 1 else 2))∧w'=w1):=fun b w1=>Aj b w1
 by_cases h:e=0
 ·subst h
  rw[if_pos rfl]
  cases ng
  ·go_enter func143,ntmps143
   go_wp2_with fail
   refine(HZ.out true _).mono ?_;rintro z w1 ⟨rfl,rfl⟩
   go_wp2
   go_ret
   exact⟨rfl,b0⟩
  ·go_enter func143,ntmps143
   go_wp2
   go_ret
   exact⟨rfl,b0⟩
 ·have h1:((e:Int)==0)=false:=by simp;omega
  rw[if_neg h];clear h
  cases ng
  all_goals
   go_enter func143,ntmps143
   go_wp2_with fail
   refine(HZ.out false _).mono ?_;rintro z w1 ⟨rfl,rfl⟩
   go_wp2
   go_ret
   exact⟨rfl,b0⟩
theorem codecRead_len_mg:
  (∀(n:Int) (R sz ex:Nat) (D L G fam:Int) (gr:Bool) (F:Nat) (s:ByteArray) (w:World) (_:s.size≠sz)
  (_:yJ 36 #[yi n] (.tuple #[ylV R D L G gr sz ex fam F,yi 0])),
  yC 72 #[yi n,.string s] w (yR w (.tuple #[yzV 0 0 0 0 false 0 0 0,yfV false 0 0,yi 1])))∧
  (∀(n:Int) (s:ByteArray) (w:World)
  (_:yJ 36 #[yi n] (.tuple #[yzV 0 0 0 0 false 0 0 0,yi 6])),
  yC 72 #[yi n,.string s] w (yR w (.tuple #[yzV 0 0 0 0 false 0 0 0,yfV false 0 0,yi 6]))):=by
 refine⟨?_, ?_⟩;have _z:Mgk 0:=mgkI 0
 all_goals
  first| (rename Mgk 0=>_z;intro n R sz ex D L G fam gr F s w hs HL)| (intro n s w HL)
  have hsf:=cD;have hsn:=gn;have bl:=af w (.cells (yzA 0 0 0 0 false 0 0 0) 94);have bf:=af (w.alloc (.cells (yzA 0 0 0 0 false 0 0 0) 94)) (.cells (yfA false 0 0) 157);have l0:=(ah w (yzL 0 0 0 0 false 0 0 0) 94).l bf;have m0:=ah (w.alloc (.cells (yzA 0 0 0 0 false 0 0 0) 94)) (yfL false 0 0) 157;have b0:=aa bl bf;rw[World.size_alloc] at m0;clear bl bf;have HL':Hid _:=HL;clear HL
  go_enter func72,ntmps72
  go_wp2_with fail
  refine(HL'.out _).mono ?_;rintro z w1 ⟨rfl,b1⟩
  first| (rename Mgk 0=>_z;have bq:=af w1 (.cells (ylA R D L G gr sz ex fam F) 94))| (have bq:=af w1 (.cells (yzA 0 0 0 0 false 0 0 0) 94))
  have l1:=(l0.l b1).l bq;have m1:=(m0.l b1).l bq
  first| (rename Mgk 0=>_z;have q1:=ah w1 (ylL R D L G gr sz ex fam F) 94)| (have q1:=ah w1 (yzL 0 0 0 0 false 0 0 0) 94)
  have b01:=aa (aa b0 b1) bq;have hne0:w.heap.size≠w1.heap.size:=Nat.ne_of_lt (l0.l b1).lt;have hne1:w.heap.size+1≠w1.heap.size:=Nat.ne_of_lt (m0.l b1).lt;obtain⟨p0,p1,p2,p3,p4,p5,p6,p7,p8⟩:=q1.cs9;obtain⟨x0,x1,x2,x3,x4,x5,x6,x7,x8⟩:=l1.cs9;have jx0:=l1.f 0;have jx1:=l1.f 1;have jx2:=l1.f 2;have jx3:=l1.f 3;have jx4:=l1.f 4;have jx5:=l1.f 5;have jx6:=l1.f 6;have jx7:=l1.f 7;have jx8:=l1.f 8;obtain⟨y0,y1,y2⟩:=m1.cs3;have jy0:=m1.f 0;have jy1:=m1.f 1;have jy2:=m1.f 2
  first| (rename Mgk 0=>_z;(have hsz:((s.size:Int)==(sz:Int))=false:=by simp;omega);clear hs)|skip
  have hn1:w.heap.size+1≠w.heap.size:=Nat.succ_ne_self _
  first| (rename Mgk 0=>_z;have cL:au (((((((((((((w1.alloc (.cells (ylA R D L G gr sz ex fam F) 94)).setCell ⟨w.heap.size,0,none⟩ (yi 0)).setCell ⟨w.heap.size,1,none⟩ (yi 0)).setCell ⟨w.heap.size,2,none⟩ (yi 0)).setCell ⟨w.heap.size,3,none⟩ (yi 0)).setCell ⟨w.heap.size,4,none⟩ (.bool false)).setCell ⟨w.heap.size,5,none⟩ (yi 0)).setCell ⟨w.heap.size,6,none⟩ (yi 0)).setCell ⟨w.heap.size,7,none⟩ (yi 0)).setCell ⟨w.heap.size,8,none⟩ (.nilFunc)).setCell ⟨w.heap.size+1,0,none⟩ (.bool false)).setCell ⟨w.heap.size+1,1,none⟩ (yi 0)).setCell ⟨w.heap.size+1,2,none⟩ (.int .u64 0)) w.heap.size 94 (yzL 0 0 0 0 false 0 0 0):=((((((((((((l1.set 0 (yi 0)).set 1 (yi 0)).set 2 (yi 0)).set 3 (yi 0)).set 4 (.bool false)).set 5 (yi 0)).set 6 (yi 0)).set 7 (yi 0)).set 8 (.nilFunc)).off hn1 0 (.bool false)).off hn1 1 (yi 0)).off hn1 2 (.int .u64 0)))| (have cL:au (((((((((((((w1.alloc (.cells (yzA 0 0 0 0 false 0 0 0) 94)).setCell ⟨w.heap.size,0,none⟩ (yi 0)).setCell ⟨w.heap.size,1,none⟩ (yi 0)).setCell ⟨w.heap.size,2,none⟩ (yi 0)).setCell ⟨w.heap.size,3,none⟩ (yi 0)).setCell ⟨w.heap.size,4,none⟩ (.bool false)).setCell ⟨w.heap.size,5,none⟩ (yi 0)).setCell ⟨w.heap.size,6,none⟩ (yi 0)).setCell ⟨w.heap.size,7,none⟩ (yi 0)).setCell ⟨w.heap.size,8,none⟩ (.nilFunc)).setCell ⟨w.heap.size+1,0,none⟩ (.bool false)).setCell ⟨w.heap.size+1,1,none⟩ (yi 0)).setCell ⟨w.heap.size+1,2,none⟩ (.int .u64 0)) w.heap.size 94 (yzL 0 0 0 0 false 0 0 0):=((((((((((((l1.set 0 (yi 0)).set 1 (yi 0)).set 2 (yi 0)).set 3 (yi 0)).set 4 (.bool false)).set 5 (yi 0)).set 6 (yi 0)).set 7 (yi 0)).set 8 (.nilFunc)).off hn1 0 (.bool false)).off hn1 1 (yi 0)).off hn1 2 (.int .u64 0)))
  first| (rename Mgk 0=>_z;have cM:au (((((((((((((w1.alloc (.cells (ylA R D L G gr sz ex fam F) 94)).setCell ⟨w.heap.size,0,none⟩ (yi 0)).setCell ⟨w.heap.size,1,none⟩ (yi 0)).setCell ⟨w.heap.size,2,none⟩ (yi 0)).setCell ⟨w.heap.size,3,none⟩ (yi 0)).setCell ⟨w.heap.size,4,none⟩ (.bool false)).setCell ⟨w.heap.size,5,none⟩ (yi 0)).setCell ⟨w.heap.size,6,none⟩ (yi 0)).setCell ⟨w.heap.size,7,none⟩ (yi 0)).setCell ⟨w.heap.size,8,none⟩ (.nilFunc)).setCell ⟨w.heap.size+1,0,none⟩ (.bool false)).setCell ⟨w.heap.size+1,1,none⟩ (yi 0)).setCell ⟨w.heap.size+1,2,none⟩ (.int .u64 0)) (w.heap.size+1) 157 (yfL false 0 0):=((((((((((((m1.off (Ne.symm hn1) 0 (yi 0)).off (Ne.symm hn1) 1 (yi 0)).off (Ne.symm hn1) 2 (yi 0)).off (Ne.symm hn1) 3 (yi 0)).off (Ne.symm hn1) 4 (.bool false)).off (Ne.symm hn1) 5 (yi 0)).off (Ne.symm hn1) 6 (yi 0)).off (Ne.symm hn1) 7 (yi 0)).off (Ne.symm hn1) 8 (.nilFunc)).set 0 (.bool false)).set 1 (yi 0)).set 2 (.int .u64 0)))| (have cM:au (((((((((((((w1.alloc (.cells (yzA 0 0 0 0 false 0 0 0) 94)).setCell ⟨w.heap.size,0,none⟩ (yi 0)).setCell ⟨w.heap.size,1,none⟩ (yi 0)).setCell ⟨w.heap.size,2,none⟩ (yi 0)).setCell ⟨w.heap.size,3,none⟩ (yi 0)).setCell ⟨w.heap.size,4,none⟩ (.bool false)).setCell ⟨w.heap.size,5,none⟩ (yi 0)).setCell ⟨w.heap.size,6,none⟩ (yi 0)).setCell ⟨w.heap.size,7,none⟩ (yi 0)).setCell ⟨w.heap.size,8,none⟩ (.nilFunc)).setCell ⟨w.heap.size+1,0,none⟩ (.bool false)).setCell ⟨w.heap.size+1,1,none⟩ (yi 0)).setCell ⟨w.heap.size+1,2,none⟩ (.int .u64 0)) (w.heap.size+1) 157 (yfL false 0 0):=((((((((((((m1.off (Ne.symm hn1) 0 (yi 0)).off (Ne.symm hn1) 1 (yi 0)).off (Ne.symm hn1) 2 (yi 0)).off (Ne.symm hn1) 3 (yi 0)).off (Ne.symm hn1) 4 (.bool false)).off (Ne.symm hn1) 5 (yi 0)).off (Ne.symm hn1) 6 (yi 0)).off (Ne.symm hn1) 7 (yi 0)).off (Ne.symm hn1) 8 (.nilFunc)).set 0 (.bool false)).set 1 (yi 0)).set 2 (.int .u64 0)))
  first| (rename Mgk 0=>_z;have bR:=(((ag _ (w.heap.size+1) 0 (.bool false)).trans (ag _ (w.heap.size+1) 1 (yi 0))).trans (ag _ (w.heap.size+1) 2 (.int .u64 0))).below ((((((((((ag (w1.alloc (.cells (ylA R D L G gr sz ex fam F) 94)) w.heap.size 0 (yi 0)).trans (ag _ w.heap.size 1 (yi 0))).trans (ag _ w.heap.size 2 (yi 0))).trans (ag _ w.heap.size 3 (yi 0))).trans (ag _ w.heap.size 4 (.bool false))).trans (ag _ w.heap.size 5 (yi 0))).trans (ag _ w.heap.size 6 (yi 0))).trans (ag _ w.heap.size 7 (yi 0))).trans (ag _ w.heap.size 8 (.nilFunc))).below b01 (Nat.le_refl _)) (Nat.le_succ _))| (have bR:=(((ag _ (w.heap.size+1) 0 (.bool false)).trans (ag _ (w.heap.size+1) 1 (yi 0))).trans (ag _ (w.heap.size+1) 2 (.int .u64 0))).below ((((((((((ag (w1.alloc (.cells (yzA 0 0 0 0 false 0 0 0) 94)) w.heap.size 0 (yi 0)).trans (ag _ w.heap.size 1 (yi 0))).trans (ag _ w.heap.size 2 (yi 0))).trans (ag _ w.heap.size 3 (yi 0))).trans (ag _ w.heap.size 4 (.bool false))).trans (ag _ w.heap.size 5 (yi 0))).trans (ag _ w.heap.size 6 (yi 0))).trans (ag _ w.heap.size 7 (yi 0))).trans (ag _ w.heap.size 8 (.nilFunc))).below b01 (Nat.le_refl _)) (Nat.le_succ _))
  have hl:=run_loadVar_mid (P:=Tryz.prog) _ w.heap.size 0 94 (yzL 0 0 0 0 false 0 0 0) _ cL.range underlying94 rfl (by kernel_rfl);have hm:=run_loadVar_mid (P:=Tryz.prog) _ (w.heap.size+1) 0 157 (yfL false 0 0) _ cM.range underlying157 rfl (by kernel_rfl);have HH:Hid (_∧_∧_):=⟨hl,hm,bR⟩;clear hl hm bR cL cM l1 m1 q1 b01 l0 m0 b0 bq b1
  go_wp2
  obtain⟨hl,hm,bR⟩:=HH.out;exact bodyPost_ret (kg results72 rfl rfl rfl hl hm) rfl ⟨rfl,bR⟩
theorem Yr (n R D L G fam:Int)(gr:Bool)(w:World)
  (HG:yJ 39 #[yi n] (.tuple #[ygV R D L G gr,yi 0]))
  (HF: ∀w1,yC 30 #[yi n] w1 fun z w'=>z= .returned (yi fam)∧w'=w1):
  yC 60 #[yi n] w (yR w (.tuple #[ykV n 0 fam R D L G gr,yi 0])):=by
 replace HG:Hid _:=HG;replace HF:Hid _:=HF;have d0:=ah w (ykL 0 0 0 0 0 0 0 false) 83;have b0:=af w (.cells (ykA 0 0 0 0 0 0 0 false) 83)
 go_enter func60,ntmps60
 go_wp2_with fail
 refine(HG.out _).mono ?_;rintro z w1 ⟨rfl,b1⟩;have bg:=af w1 (.cells (ygA R D L G gr) 49);have g1:=ah w1 (ygL R D L G gr) 49;have d1:=(d0.l b1).l bg;have b01:=aa (aa b0 b1) bg;have hlt:w.heap.size<w1.heap.size:=(d0.l b1).lt
 go_upto_region 4 with fail
 generalize w1.alloc (.cells (ygA R D L G gr) 49)=W1 at g1 d1 b01⊢;generalize w1.heap.size=PG at g1 hlt⊢;have hne:w.heap.size≠PG:=by omega
 have gd:=g1.drew;have dd:=d1.drew;have bd:=b01.drew;have bR:yB w (W1.drew.setCells w.heap.size 0 (ykL n 0 fam R D L G gr)):=((((((((ag W1.drew w.heap.size 0 (yi n)).trans (ag _ w.heap.size 1 (yi 0))).trans (ag _ w.heap.size 2 (yi fam))).trans (ag _ w.heap.size 3 (yi R))).trans (ag _ w.heap.size 4 (yi D))).trans (ag _ w.heap.size 5 (yi L))).trans (ag _ w.heap.size 6 (yi G))).trans (ag _ w.heap.size 7 (.bool gr))).below bd (Nat.le_refl _);have hl:=run_loadVar_mid (P:=Tryz.prog) _ w.heap.size 0 83 (ykL n 0 fam R D L G gr) _ (World.rangeAt_setCells_same W1.drew w.heap.size 0 (ykL n 0 fam R D L G gr) (show W1.drew.there w.heap.size 0 8 from dD dd)) underlying83 rfl (by kernel_rfl)
 have HH:Hid (_∧_):=⟨hl,bR⟩;clear hl bR b01 d0 b0 b1 bg HG bd d1 g1;refine wp_region_held_drew (S:=fun wq=>wq.rangeAt PG 0 (ygL R D L G gr)) (by kernel_rfl) gd.range (fun hS0=> ?_)
 refine tq 0 (yi n) rfl (fun w0 _=>by kernel_rfl) hS0 ?_
 refine tq 1 (yi n) rfl (fun w0 _=>by kernel_rfl) hS0 ?_
 refine tq 3 ((ygV R D L G gr)) rfl (fun w0 hw0=>fy 49 (.tmp 4) rfl PG 0 (by kernel_rfl) _ _ hw0 underlying49 rfl (by kernel_rfl)) hS0 ?_
 refine wpAnyH_ready (rs:=[2]) (by kernel_rfl) (by simp) ?_;refine AllReadyH.cons rfl (fun K hK=> ?_) AllReadyH.nil
 go_simp
 refine(HF.out _).mono ?_;rintro z w2 ⟨rfl,rfl⟩;refine hK.out _ _ hS0 (fun hS2=> ?_)
 clear hK K;refine tq 4 ((ykV n 0 fam R D L G gr)) rfl (fun w0 _=>by kernel_rfl) hS2 ?_
 refine wpAnyH_ready (rs:=[5]) (by kernel_rfl) (by simp) ?_;refine AllReadyH.cons rfl (fun K hK=> ?_) AllReadyH.nil
 rw[if_pos (by kernel_rfl)];refine wp_store_mid 83 (.tmp 2) (.tmp 19) rfl w.heap.size 0 (ykA n 0 fam R D L G gr) (by kernel_rfl) (by kernel_rfl) (show W1.drew.there w.heap.size 0 8 from dD dd) (by kernel_rfl) (by simp[Value.oneCell']) ?_
 refine hK.out _ _ (World.rangeAt_setCells_apart hS2 _ _ _ (.inl (by omega))) (fun hS5=> ?_)
 clear hK K;refine tq 6 (yi 0) rfl (fun w0 _=>by kernel_rfl) hS5 ?_
 refine wpAnyH_done (by kernel_rfl) ?_ _;obtain⟨hl,bR⟩:=HH.out;clear HH hS5 hS2 hS0 gd dd HF;change Exit.then _ _ _ _ (World.setCells W1.drew w.heap.size 0 (ykL n 0 fam R D L G gr));generalize World.setCells W1.drew w.heap.size 0 (ykL n 0 fam R D L G gr)=WE at hl bR⊢
 go_wp2
 exact bodyPost_ret (aj results60 rfl rfl hl) rfl ⟨rfl,bR⟩
theorem wrd1_mg:
  (∀(n er:Int) (_:er≠0) (s:ByteArray) (w:World)
  (_:yJ 39 #[yi n] (.tuple #[ygV 0 0 0 0 false,yi er])),
  yC 23 #[yi n,.string s] w (Ys w 0 false 0 0 ⟨false,0,0⟩ er))∧
  (∀(n er:Int) (_:er≠0) (R D L G c p:Int) (gr ng:Bool) (m:Nat) (s:ByteArray) (w:World)
  (_:yJ 39 #[yi n] (.tuple #[ygV R D L G gr,yi 0]))
  (_: ∀w1,yC 40 #[yi n,.string s] w1 (eP w1 c ng m p er)),
  yC 23 #[yi n,.string s] w (Ys w 0 false 0 0 ⟨false,0,0⟩ er)):=by
 refine⟨?_, ?_⟩;have _z:Mgk 0:=mgkI 0
 all_goals
  first| (rename Mgk 0=>_z;intro n er her s w HG)| (intro n er her R D L G c p gr ng m s w HG HD)
  replace HG:Hid _:=HG
  first| (rename Mgk 0=>_z)| (replace HD:Hid _:=HD)
  have he:(er==0)=false:=by simpa using her
  clear her;have bv:=af w (.cells (yvA 0 false yN 0) 57);have bx:=af (w.alloc (.cells (yvA 0 false yN 0) 57)) (.cells (ydA false yN 0) 59);have v0:=(ah w (yvL 0 false yN 0) 57).l bx;have x0:=ah (w.alloc (.cells (yvA 0 false yN 0) 57)) (ydL false yN 0) 59;have b0:=aa bv bx;rw[World.size_alloc] at x0;clear bv bx
  go_enter func23,ntmps23
  go_upto_region 1 with fail
  generalize(w.alloc (.cells (yvA 0 false yN 0) 57)).alloc (.cells (ydA false yN 0) 59)=W0 at v0 x0 b0⊢
  go_wp2_with fail
  refine(HG.out _).mono ?_;rintro z w1 ⟨rfl,b1⟩
  first| (rename Mgk 0=>_z;have bg:=af w1 (.cells (ygA 0 0 0 0 false) 49))| (have bg:=af w1 (.cells (ygA R D L G gr) 49))
  first| (rename Mgk 0=>_z;have v1:=(v0.l b1).l bg)| (have vz:=(v0.l b1).l bg)
  first| (rename Mgk 0=>_z;have x1:=(x0.l b1).l bg)| (have xz:=(x0.l b1).l bg)
  first| (rename Mgk 0=>_z;have b01:=aa (aa b0 b1) bg)| (have bz:=aa (aa b0 b1) bg)
  first| (rename Mgk 0=>_z;go_upto_region 3 with fail)| (go_upto_region 4 with fail)
  first| (rename Mgk 0=>_z;generalize w1.alloc (.cells (ygA 0 0 0 0 false) 49)=W1 at v1 x1 b01⊢)| (generalize w1.alloc (.cells (ygA R D L G gr) 49)=WG at vz xz bz⊢)
  clear v0 x0 b0 b1 bg HG
  first| (rename Mgk 0=>_z)| (go_wp2_with fail;refine(HD.out _).mono ?_;rintro z w2 ⟨vv,rfl,r2,b2⟩;obtain⟨vo,vc,hv⟩:=r2.shape;subst hv;have bl:=af w2 (.cells (yvA c ng (yT vo m vc) p) 57);have v1:=(vz.l b2).l bl;have x1:=(xz.l b2).l bl;have b01:=aa (aa bz b2) bl;go_upto_region 6 with fail;generalize w2.alloc (.cells (yvA c ng (yT vo m vc) p) 57)=W1 at v1 x1 b01⊢;clear vz xz bz bl b2 r2 HD)
  have cV:au (((((((W1.setCell ⟨w.heap.size,0,none⟩ (yi 0)).setCell ⟨w.heap.size,1,none⟩ (.bool false)).setCell ⟨w.heap.size,2,none⟩ yN).setCell ⟨w.heap.size,3,none⟩ (yi 0)).setCell ⟨w.heap.size+1,0,none⟩ (.bool false)).setCell ⟨w.heap.size+1,1,none⟩ yN).setCell ⟨w.heap.size+1,2,none⟩ (yi 0)) w.heap.size 57 (yvL 0 false yN 0):=(((((((v1.set 0 (yi 0)).set 1 (.bool false)).set 2 yN).set 3 (yi 0)).off (show w.heap.size+1≠w.heap.size by omega) 0 (.bool false)).off (show w.heap.size+1≠w.heap.size by omega) 1 yN).off (show w.heap.size+1≠w.heap.size by omega) 2 (yi 0))
  have cX:au (((((((W1.setCell ⟨w.heap.size,0,none⟩ (yi 0)).setCell ⟨w.heap.size,1,none⟩ (.bool false)).setCell ⟨w.heap.size,2,none⟩ yN).setCell ⟨w.heap.size,3,none⟩ (yi 0)).setCell ⟨w.heap.size+1,0,none⟩ (.bool false)).setCell ⟨w.heap.size+1,1,none⟩ yN).setCell ⟨w.heap.size+1,2,none⟩ (yi 0)) (w.heap.size+1) 59 (ydL false yN 0):=(((((((x1.off (show w.heap.size≠w.heap.size+1 by omega) 0 (yi 0)).off (show w.heap.size≠w.heap.size+1 by omega) 1 (.bool false)).off (show w.heap.size≠w.heap.size+1 by omega) 2 yN).off (show w.heap.size≠w.heap.size+1 by omega) 3 (yi 0)).set 0 (.bool false)).set 1 yN).set 2 (yi 0))
  have cX0:=((((x1.off (show w.heap.size≠w.heap.size+1 by omega) 0 (yi 0)).off (show w.heap.size≠w.heap.size+1 by omega) 1 (.bool false)).off (show w.heap.size≠w.heap.size+1 by omega) 2 yN).off (show w.heap.size≠w.heap.size+1 by omega) 3 (yi 0))
  have bu1:=(((ag W1 w.heap.size 0 (yi 0)).trans (ag _ w.heap.size 1 (.bool false))).trans (ag _ w.heap.size 2 yN)).trans (ag _ w.heap.size 3 (yi 0));have bu2:=((ag ((((W1.setCell ⟨w.heap.size,0,none⟩ (yi 0)).setCell ⟨w.heap.size,1,none⟩ (.bool false)).setCell ⟨w.heap.size,2,none⟩ yN).setCell ⟨w.heap.size,3,none⟩ (yi 0)) (w.heap.size+1) 0 (.bool false)).trans (ag _ (w.heap.size+1) 1 yN)).trans (ag _ (w.heap.size+1) 2 (yi 0));have bR:=bu2.below (bu1.below b01 (Nat.le_refl _)) (by omega);have hl1:=run_loadVar_mid (P:=Tryz.prog) _ w.heap.size 0 57 (yvL 0 false yN 0) _ cV.range underlying57 rfl (by kernel_rfl);have hl2:=run_loadVar_mid (P:=Tryz.prog) _ (w.heap.size+1) 0 59 (ydL false yN 0) _ cX.range underlying59 rfl (by kernel_rfl);have HH:Hid (_∧_∧_):=⟨hl1,hl2,bR⟩;clear hl1 hl2 bR bu1 bu2 cV cX cX0;obtain⟨a0,a1,a2,a3⟩:=v1.cs4;obtain⟨y0,y1,y2⟩:=x1.cs3;have f0:=v1.f 0;have f1:=v1.f 1;have f2:=v1.f 2;have f3:=v1.f 3;have g0:=x1.f 0;have g1:=x1.f 1;have g2:=x1.f 2;clear v1 x1 b01
  go_wp2
  obtain⟨hl1,hl2,bR⟩:=HH.out;exact bodyPost_ret (kg results23 rfl rfl rfl hl1 hl2) rfl ⟨_,_,rfl,aN _ _,aN _ _,(fun _ _ _ h=>by cases h),bR⟩
theorem tread_bad (tx rz ro af wh be:ByteArray)(ng po:Bool)(pw:Int)(w:World)(h4:tx.size≤400)
  (HP:yJ 121 #[.string tx,.string ⟨#[45]⟩] (.tuple #[.string rz,.bool ng]))
  (HE:yH w 122 #[.string rz,.string ⟨#[101]⟩] (.tuple #[.string ro,.string af,.bool true]))
  (HR:yJ 123 #[.string af] (.tuple #[yi pw,.bool false]))
  (HQ:yH w 122 #[.string ro,.string ⟨#[46]⟩] (.tuple #[.string wh,.string be,.bool po])):
  yC 58 #[.string tx] w (yR w (.tuple #[.agg #[.bool false,.string ⟨#[]⟩,yi 0],yi 1])):=by
 replace HP:Hid _:=HP;replace HE:Hid _:=HE;replace HR:Hid _:=HR;replace HQ:Hid _:=HQ;obtain⟨W3,hW4,q1,b2⟩:=cA w [.bool false,.string ⟨#[]⟩,yi 0] 133;replace hW4:Hid _:=hW4
 go_enter func58,ntmps58
 go_upto_region 1 with fail
 rw[hW4.out];clear hW4
 go_wp2_with fail
 refine(HP.out _).mono ?_;rintro zz w5 ⟨rfl,bb6⟩;have q7:=q1.l bb6;have b8:=aa b2 bb6;clear q1 b2 bb6 HP
 go_wp2_with fail
 refine(HE.out _ b8).mono ?_;rintro zz w9 ⟨rfl,bb10⟩;have q11:=q7.l bb10;have b12:=aa b8 bb10;clear q7 b8 bb10 HE
 go_wp2_with fail
 refine(HR.out _).mono ?_;rintro zz w13 ⟨rfl,bb14⟩;have q15:=q11.l bb14;have b16:=aa b12 bb14;clear q11 b12 bb14 HR
 go_wp2_with fail
 refine(HQ.out _ b16).mono ?_;rintro zz w17 ⟨rfl,bb18⟩;have q19:=q15.l bb18;have b20:=aa b16 bb18;clear q15 b16 bb18 HQ;have hf:=afy (P:=Tryz.prog) q19 b20 (by omega) underlying133 rfl (by kernel_rfl) (.bool false) (.string ⟨#[]⟩) (yi 0);have HH:Hid (_∧_):=⟨hf.1,hf.2.1⟩;obtain⟨⟨z0,z1,z2⟩,y0,y1,y2⟩:=afA q19;clear hf q19 b20
 go_wp2
 obtain⟨hl,bR⟩:=HH.out;exact bodyPost_ret (aj results58 rfl rfl hl) rfl ⟨rfl,bR⟩
theorem tread_dig_e_mg:
  (∀(tx rz ro af wh be:ByteArray) (ng po:Bool) (pw:Int) (w:World) (_:tx.size≤400) (_:wh.size+be.size≤400)
  (_:yJ 121 #[.string tx,.string ⟨#[45]⟩] (.tuple #[.string rz,.bool ng]))
  (_:yH w 122 #[.string rz,.string ⟨#[101]⟩] (.tuple #[.string ro,.string af,.bool true]))
  (_:yJ 123 #[.string af] (.tuple #[yi pw,.bool true]))
  (_:yH w 122 #[.string ro,.string ⟨#[46]⟩] (.tuple #[.string wh,.string be,.bool po]))
  (_:yJ 124 #[.string (wh++be)] (.bool false)),
  yC 58 #[.string tx] w (yR w (.tuple #[.agg #[.bool false,.string ⟨#[]⟩,yi 0],yi 1])))∧
  (∀(tx rz ro af wh:ByteArray) (ng:Bool) (pw:Int) (w:World) (_:tx.size≤400) (_:wh.size≤400)
  (_:yJ 121 #[.string tx,.string ⟨#[45]⟩] (.tuple #[.string rz,.bool ng]))
  (_:yH w 122 #[.string rz,.string ⟨#[101]⟩] (.tuple #[.string ro,.string af,.bool true]))
  (_:yJ 123 #[.string af] (.tuple #[yi pw,.bool true]))
  (_:yH w 122 #[.string ro,.string ⟨#[46]⟩] (.tuple #[.string wh,.string ⟨#[]⟩,.bool true]))
  (_:yJ 124 #[.string (wh++⟨#[]⟩)] (.bool true)),
  yC 58 #[.string tx] w (yR w (.tuple #[.agg #[.bool false,.string ⟨#[]⟩,yi 0],yi 1]))):=by
 refine⟨?_, ?_⟩;have _z:Mgk 0:=mgkI 0
 all_goals
  first| (rename Mgk 0=>_z;intro tx rz ro af wh be ng po pw w h4 hsz HP HE HR HQ HD)| (intro tx rz ro af wh ng pw w h4 hsz HP HE HR HQ HD)
  replace HP:Hid _:=HP;replace HE:Hid _:=HE;replace HR:Hid _:=HR;replace HQ:Hid _:=HQ;replace HD:Hid _:=HD;obtain⟨W3,hW4,q1,b2⟩:=cA w [.bool false,.string ⟨#[]⟩,yi 0] 133;replace hW4:Hid _:=hW4
  go_enter func58,ntmps58
  go_upto_region 1 with fail
  rw[hW4.out];clear hW4
  go_wp2_with fail
  refine(HP.out _).mono ?_;rintro zz w5 ⟨rfl,bb6⟩;have q7:=q1.l bb6;have b8:=aa b2 bb6;clear q1 b2 bb6 HP
  go_wp2_with fail
  refine(HE.out _ b8).mono ?_;rintro zz w9 ⟨rfl,bb10⟩;have q11:=q7.l bb10;have b12:=aa b8 bb10;clear q7 b8 bb10 HE
  go_wp2_with fail
  refine(HR.out _).mono ?_;rintro zz w13 ⟨rfl,bb14⟩;have q15:=q11.l bb14;have b16:=aa b12 bb14;clear q11 b12 bb14 HR
  go_wp2_with fail
  refine(HQ.out _ b16).mono ?_;rintro zz w17 ⟨rfl,bb18⟩;have q19:=q15.l bb18;have b20:=aa b16 bb18;clear q15 b16 bb18 HQ
  go_wp2_with fail
  refine(HD.out _).mono ?_;rintro zz w21 ⟨rfl,bb22⟩;have q23:=q19.l bb22;have b24:=aa b20 bb22;clear q19 b20 bb22 HD;have hf:=afy (P:=Tryz.prog) q23 b24 (by omega) underlying133 rfl (by kernel_rfl) (.bool false) (.string ⟨#[]⟩) (yi 0);have HH:Hid (_∧_):=⟨hf.1,hf.2.1⟩;obtain⟨⟨z0,z1,z2⟩,y0,y1,y2⟩:=afA q23;clear hf q23 b24
  go_wp2
  obtain⟨hl,bR⟩:=HH.out;exact bodyPost_ret (aj results58 rfl rfl hl) rfl ⟨rfl,bR⟩
abbrev tread_dig_e:=tread_dig_e_mg.1
abbrev tread_pt_e:=tread_dig_e_mg.2
abbrev tread_okt_e:=tread_okt_e_mg.1
abbrev tread_okf_e:=tread_okt_e_mg.2.1
abbrev tread_hit_e:=tread_okt_e_mg.2.2.1
abbrev tread_hif_e:=tread_okt_e_mg.2.2.2.1
abbrev tread_lot_e:=tread_okt_e_mg.2.2.2.2.1
abbrev tread_lof_e:=tread_okt_e_mg.2.2.2.2.2
abbrev Q7:=encNum_low_mg.1
abbrev NN:=encNum_low_mg.2
theorem aaS (n:Int)(R D L G fam:Int)(gr:Bool)(sz ex:Nat)(F:Nat)(c p:Int)(ng:Bool)(ao:Option Addr)(dn dc:Nat)(w:World)
  (HL:yJ 36 #[yi n] (.tuple #[ylV R D L G gr sz ex fam F,yi 0])) (hc:c<1):
  yC 54 #[yi n,yvV c ng (.slice ao dn dc) p] w (yR w (.tuple #[.string ⟨#[]⟩,yi 6])):=by
 have hsf:=cD;have hsn:=gn;have m0:=ah w (yvL c ng (.slice ao dn dc) p) 57;have b0:=af w (.cells (yvA c ng (.slice ao dn dc) p) 57);have HL':Hid _:=HL;clear HL
 go_enter func54,ntmps54
 go_wp2_with fail
 refine(HL'.out _).mono ?_;rintro z w1 ⟨rfl,b1⟩;have bq:=af w1 (.cells (ylA R D L G gr sz ex fam F) 94);have m1:=(m0.l b1).l bq;have q1:=ah w1 (ylL R D L G gr sz ex fam F) 94;have b01:=aa (aa b0 b1) bq;obtain⟨u0,u1,u2,u3⟩:=m1.cs4;obtain⟨s0,s1,s2,s3,s4,s5,s6,s7,s8⟩:=q1.cs9;clear m0 b0 b1 bq HL'
 go_wp2
 go_ret2
 exact⟨rfl,b01⟩
theorem Xj (n:Int)(R D L G fam:Int)(gr:Bool)(sz ex:Nat)(F:Nat)(c p:Int)(ng:Bool)(ao:Option Addr)(dn dc:Nat)(w:World)
  (HL:yJ 36 #[yi n] (.tuple #[ylV R D L G gr sz ex fam F,yi 0])) (hc:5<c):
  yC 54 #[yi n,yvV c ng (.slice ao dn dc) p] w (yR w (.tuple #[.string ⟨#[]⟩,yi 6])):=by
 have hc1: ¬c<1:=by omega
 have hsf:=cD;have hsn:=gn;have m0:=ah w (yvL c ng (.slice ao dn dc) p) 57;have b0:=af w (.cells (yvA c ng (.slice ao dn dc) p) 57);have HL':Hid _:=HL;clear HL
 go_enter func54,ntmps54
 go_wp2_with fail
 refine(HL'.out _).mono ?_;rintro z w1 ⟨rfl,b1⟩;have bq:=af w1 (.cells (ylA R D L G gr sz ex fam F) 94);have m1:=(m0.l b1).l bq;have q1:=ah w1 (ylL R D L G gr sz ex fam F) 94;have b01:=aa (aa b0 b1) bq;obtain⟨u0,u1,u2,u3⟩:=m1.cs4;obtain⟨s0,s1,s2,s3,s4,s5,s6,s7,s8⟩:=q1.cs9;clear m0 b0 b1 bq HL'
 go_wp2
 go_ret2
 exact⟨rfl,b01⟩
theorem EF (n:Int)(R D L G fam:Int)(gr:Bool)(sz ex:Nat)(F:Nat)(c p:Int)(ng:Bool)(ao:Option Addr)(dn dc:Nat)(w:World)
  (HL:yJ 36 #[yi n] (.tuple #[ylV R D L G gr sz ex fam F,yi 0]))
  (nc:Int) (HN:yH w 90 #[.slice ao dn dc] (yi nc)) (h1:1≤c) (h5:c≤5) (hn:nc≠0):
  yC 54 #[yi n,yvV c ng (.slice ao dn dc) p] w (yR w (.tuple #[.string ⟨#[]⟩,yi nc])):=by
 have HN':Hid _:=HN;clear HN;have hc1: ¬c<1:=by omega
 have hc5: ¬5<c:=by omega
 have hnb:(nc==0)=false:=by simpa using hn
 clear hn;have hsf:=cD;have hsn:=gn;have m0:=ah w (yvL c ng (.slice ao dn dc) p) 57;have b0:=af w (.cells (yvA c ng (.slice ao dn dc) p) 57);have HL':Hid _:=HL;clear HL
 go_enter func54,ntmps54
 go_wp2_with fail
 refine(HL'.out _).mono ?_;rintro z w1 ⟨rfl,b1⟩;have bq:=af w1 (.cells (ylA R D L G gr sz ex fam F) 94);have m1:=(m0.l b1).l bq;have q1:=ah w1 (ylL R D L G gr sz ex fam F) 94;have b01:=aa (aa b0 b1) bq;obtain⟨u0,u1,u2,u3⟩:=m1.cs4;obtain⟨s0,s1,s2,s3,s4,s5,s6,s7,s8⟩:=q1.cs9;clear m0 b0 b1 bq HL'
 go_wp2_with fail
 refine(HN'.out _ b01).mono ?_;rintro z w2 ⟨rfl,b2⟩;have m2:=m1.l b2;have q2:=q1.l b2;have b02:=aa b01 b2;obtain⟨v0,v1,v2,v3⟩:=m2.cs4;obtain⟨t0,t1,t2,t3,t4,t5,t6,t7,t8⟩:=q2.cs9
 go_wp2
 go_ret2
 exact⟨rfl,b02⟩
theorem Ip (n:Int)(R D L G fam:Int)(gr:Bool)(sz ex:Nat)(F:Nat)(c p:Int)(ng:Bool)(ao:Option Addr)(dn dc:Nat)(w:World)
  (HL:yJ 36 #[yi n] (.tuple #[ylV R D L G gr sz ex fam F,yi 0]))
  (nc:Int) (HN:yH w 90 #[.slice ao dn dc] (yi nc))
  (st:ByteArray) (er:Int) (HO:yJ 92 #[ylV R D L G gr sz ex fam F,yvV c ng (.slice ao dn dc) p] (.tuple #[.string st,yi er])) (h1:1≤c) (h5:c≤5) (h2:c≠2) (hn:nc=0):
  yC 54 #[yi n,yvV c ng (.slice ao dn dc) p] w (yR w (.tuple #[.string st,yi er])):=by
 subst hn;have HN':Hid _:=HN;clear HN;have hc1: ¬c<1:=by omega
 have hc5: ¬5<c:=by omega
 have HO':Hid _:=HO;clear HO;have hcb:(c==2)=false:=by simpa using h2
 clear h2;have hsf:=cD;have hsn:=gn;have m0:=ah w (yvL c ng (.slice ao dn dc) p) 57;have b0:=af w (.cells (yvA c ng (.slice ao dn dc) p) 57);have HL':Hid _:=HL;clear HL
 go_enter func54,ntmps54
 go_wp2_with fail
 refine(HL'.out _).mono ?_;rintro z w1 ⟨rfl,b1⟩;have bq:=af w1 (.cells (ylA R D L G gr sz ex fam F) 94);have m1:=(m0.l b1).l bq;have q1:=ah w1 (ylL R D L G gr sz ex fam F) 94;have b01:=aa (aa b0 b1) bq;obtain⟨u0,u1,u2,u3⟩:=m1.cs4;obtain⟨s0,s1,s2,s3,s4,s5,s6,s7,s8⟩:=q1.cs9;clear m0 b0 b1 bq HL'
 go_wp2_with fail
 refine(HN'.out _ b01).mono ?_;rintro z w2 ⟨rfl,b2⟩;have m2:=m1.l b2;have q2:=q1.l b2;have b02:=aa b01 b2;obtain⟨v0,v1,v2,v3⟩:=m2.cs4;obtain⟨t0,t1,t2,t3,t4,t5,t6,t7,t8⟩:=q2.cs9
 go_wp2_with fail
 refine(HO'.out _).mono ?_;rintro z w3 ⟨rfl,b3⟩
 go_wp2
 go_ret2
 exact⟨rfl,aa b02 b3⟩
theorem QD (n:Int)(R D L G fam:Int)(gr:Bool)(sz ex:Nat)(F:Nat)(p:Int)(ng:Bool)(ao:Option Addr)(dn dc:Nat)(w:World)
  (HL:yJ 36 #[yi n] (.tuple #[ylV R D L G gr sz ex fam F,yi 0]))
  (nc:Int) (HN:yH w 90 #[.slice ao dn dc] (yi nc))
  (st:ByteArray) (er:Int) (HO:yH w 91 #[ylV R D L G gr sz ex fam F,yvV 2 ng (.slice ao dn dc) p] (.tuple #[.string st,yi er])) (hn:nc=0):
  yC 54 #[yi n,yvV 2 ng (.slice ao dn dc) p] w (yR w (.tuple #[.string st,yi er])):=by
 subst hn;have HN':Hid _:=HN;clear HN;have HO':Hid _:=HO;clear HO;have hsf:=cD;have hsn:=gn;have m0:=ah w (yvL 2 ng (.slice ao dn dc) p) 57;have b0:=af w (.cells (yvA 2 ng (.slice ao dn dc) p) 57);have HL':Hid _:=HL;clear HL
 go_enter func54,ntmps54
 go_wp2_with fail
 refine(HL'.out _).mono ?_;rintro z w1 ⟨rfl,b1⟩;have bq:=af w1 (.cells (ylA R D L G gr sz ex fam F) 94);have m1:=(m0.l b1).l bq;have q1:=ah w1 (ylL R D L G gr sz ex fam F) 94;have b01:=aa (aa b0 b1) bq;obtain⟨u0,u1,u2,u3⟩:=m1.cs4;obtain⟨s0,s1,s2,s3,s4,s5,s6,s7,s8⟩:=q1.cs9;clear m0 b0 b1 bq HL'
 go_wp2_with fail
 refine(HN'.out _ b01).mono ?_;rintro z w2 ⟨rfl,b2⟩;have m2:=m1.l b2;have q2:=q1.l b2;have b02:=aa b01 b2;obtain⟨v0,v1,v2,v3⟩:=m2.cs4;obtain⟨t0,t1,t2,t3,t4,t5,t6,t7,t8⟩:=q2.cs9
 go_wp2_with fail
 refine(HO'.out _ b02).mono ?_;rintro z w3 ⟨rfl,b3⟩
 go_wp2
 go_ret2
 exact⟨rfl,aa b02 b3⟩
def enS (k:Nat)(ng:Bool)(xs:List Nat)(p:Int):ByteArray:=
 if enE k ng xs p=0 then cF (kU k (plT k (enN k ng xs p).1.s (enN k ng xs p).1.n (enN k ng xs p).1.e).s (heE (rdN k) (lsI k) (gW k) (plT k (enN k ng xs p).1.s (enN k ng xs p).1.n (enN k ng xs p).1.e)) (plT k (enN k ng xs p).1.s (enN k ng xs p).1.n (enN k ng xs p).1.e).d) else⟨#[]⟩
theorem aba (t:ak)(h0:t.n≠0):ut (t.e+((bitLen t.n-128:Nat):Int)) t.n 1 t.e (rtN t) (rtM t) (rtE t):=by
 refine((Um t h0).trans (K:=t.e+((bitLen t.n-128:Nat):Int)) ?_).mono (by omega);refine fun j _=>qG (jO (by omega) _) (jO (by unfold rtM;have:=bG (rtE t-(eQ t).e).toNat;omega) _) ?_
 unfold rtN rtM;generalize rtE t=r;rw[fw,fw,eM,eM];rw[Nat.one_mul,Nat.mul_assoc,Nat.mul_assoc,Nat.mul_assoc,←Nat.pow_add,←Nat.pow_add,←Nat.pow_add,←Nat.pow_add]
 congr 2
 omega
theorem X3 {R D L G:Int}{gr:Bool}{way:Int}(t:ak)(h0:t.n≠0)(hD:1≤D)(hw:ai R*D.toNat≤64):
  cI R D L G gr t.s (rtN t) (rtM t) (rtE t) way=cI R D L G gr t.s t.n 1 t.e way:=by
 have hm:rtM t≠0:=by unfold rtM;have:=bG (rtE t-(eQ t).e).toNat;omega
 have hn:rtN t≠0:=by
  unfold rtN;have h1:=(qY t h0).1;have h2:=bG ((eQ t).e-rtE t).toNat;exact Nat.mul_ne_zero h1 (by omega)
 by_cases hb:bitLen t.n≤128
 ·--nothing is lost
  have hl:ut (t.e-70) t.n 1 t.e (rtN t) (rtM t) (rtE t):=by
   have hk:eQ t=t:=if_pos hb;refine fun j _=>qG (jO (by omega) _) (jO hm _) ?_
   unfold rtN rtM;rw[hk];generalize rtE t=r;rw[fw,fw,eM,eM];rw[Nat.one_mul,Nat.mul_assoc,Nat.mul_assoc,Nat.mul_assoc,←Nat.pow_add,←Nat.pow_add,←Nat.pow_add,←Nat.pow_add]
   congr 2
   omega
  refine(AC h0 (by omega) hn hm hD hw hl ?_).symm;rw[lU h0];have:bitLen t.n≠0:=fun h=>by
   have:=wZ (Nat.le_of_eq h);rw[Nat.pow_zero] at this;omega
  omega
 ·refine(AC h0 (by omega) hn hm hD hw (aba t h0) ?_).symm
  rw[lU h0];omega
theorem readPower_any (a:ByteArray)(w:World):yC 123 #[.string a] w (yR w (.tuple #[yi (rpV a).1,.bool (rpV a).2])):=by
 have HC:=fun w1=>prefix_any a ⟨#[45]⟩ w1
 unfold rpV
 by_cases h5:(undash a).size≤5
 rotate_left
 ·rw[if_neg (fun c=>h5 c.1)]
  exact tpower_long a (undash a) (dash a) w (by omega) HC
 have HD:=fun w1=>tdecimals_any (undash a) w1 (by omega)
 cases hd:digB (undash a)
 ·rw[if_neg (fun c=>by cases c.2)]
  rw[hd] at HD;exact tpower_no a (undash a) (dash a) w h5 HC HD
 ·rw[if_pos ⟨h5,rfl⟩]
  rw[hd] at HD;have HA:=fun w1=>atoi_any (undash a) _ w1 (by omega) (atoi_dig _ hd)
  have hp:=Tb (undash a) ((digB_iff _).1 hd).2 _ (Nat.le_refl _);have hp5:10^ (undash a).size≤10^5:=Nat.pow_le_pow_right (by omega) h5
  cases hg:dash a
  ·rw[if_neg (by decide)]
   have e:Lib.hasPrefix a.data.toList [45]=false:=hg;exact tpower_plus a (undash a) _ w h5 (fun w1=>by
    have:=HC w1;rw[show(⟨#[45]⟩:ByteArray).data.toList=[45] from rfl,e] at this
    exact this) HD HA
  ·rw[if_pos rfl]
   have e:Lib.hasPrefix a.data.toList [45]=true:=hg;exact tpower_minus a (undash a) _ _ w h5 (IntWalk.i64_in _ ⟨by omega,by omega⟩) (fun w1=>by
    have:=HC w1;rw[show(⟨#[45]⟩:ByteArray).data.toList=[45] from rfl,e] at this
    exact this) HD HA
end Go.Proofs.YtdhpndnncmagiaaGreatDoor

/-
  Texts laid together: Co11, Co12, Co21, Co17, Tx10, Ce12, As3, As4.
-/
import Derived.Test.YtpgijbdgljkeeaaGreatDoorUx25
import Derived.Test.YtpgijbdgljkeeaaGreatDoorUx26
import Derived.Test.YtpgijbdgljkeeaaGreatDoorUx27
import Derived.Test.YtpgijbdgljkeeaaGreatDoorUx30
import Derived.Test.YtpgijbdgljkeeaaGreatDoorUx34
set_option maxRecDepth 100000
set_option maxHeartbeats 6400000
namespace Go.Proofs.YtpgijbdgljkeeaaGreatDoor
open _root_.Go.Proofs.Tryz
open Go.RowKit
theorem afs (ng:Bool)(e f:Nat)(w:World)(hf:f<18446744073709551616):yC 151 #[.agg #[yi 2,yi 24,yi (-149),yi 104,.bool true,yi 4,yi 8,yi 1,.func (.func 186) #[] #[]],yfV ng e f] w (yR w (yi ((dh 1 ng e f:Nat):Int))):=by
 unfold dh;rw[if_pos (by decide),show kp 1=255 from rfl]
 by_cases h0:e=0
 ·subst h0
  rw[if_pos rfl]
  by_cases hz:f=0
  ·subst hz
   exact zD _ _ _ _ _ _ _ _ ng _ 0 0 w _ rfl rfl
  ·rw[if_neg hz]
   exact zD _ _ _ _ _ _ _ _ ng _ 0 f w _ rfl (if_neg (by omega))
 ·rw[if_neg h0]
  by_cases h1:e=255
  ·subst h1
   rw[if_pos rfl]
   by_cases h2:f=(if 1=3 then 2^63 else 0)
   ·rw[if_pos h2]
    exact Ra _ _ _ _ _ _ _ 255 0 _ ng _ _ f w (jy 1 (by decide)) (gj 1 (by decide)) rfl (by rw[h2];rfl) (by decide)
   ·rw[if_neg h2]
    exact KP _ _ _ _ _ _ _ 255 0 _ ng _ _ f w (jy 1 (by decide)) (gj 1 (by decide)) rfl (fun c=>h2 (by rw[show(if 1=3 then 2^63 else 0)=0 from rfl];omega)) (by decide)
  ·rw[if_neg h1]
   rw[if_neg (fun c=>by omega)]
   exact Rb _ _ _ _ _ _ _ 255 0 _ ng _ _ f w (jy 1 (by decide)) (gj 1 (by decide)) (by omega) (by omega) (NR f hf)
theorem aft (ng:Bool)(e f:Nat)(w:World)(hf:f<18446744073709551616):yC 151 #[.agg #[yi 2,yi 53,yi (-1074),yi 971,.bool true,yi 8,yi 11,yi 1,.func (.func 186) #[] #[]],yfV ng e f] w (yR w (yi ((dh 2 ng e f:Nat):Int))):=by
 unfold dh;rw[if_pos (by decide),show kp 2=2047 from rfl]
 by_cases h0:e=0
 ·subst h0
  rw[if_pos rfl]
  by_cases hz:f=0
  ·subst hz
   exact zD _ _ _ _ _ _ _ _ ng _ 0 0 w _ rfl rfl
  ·rw[if_neg hz]
   exact zD _ _ _ _ _ _ _ _ ng _ 0 f w _ rfl (if_neg (by omega))
 ·rw[if_neg h0]
  by_cases h1:e=2047
  ·subst h1
   rw[if_pos rfl]
   by_cases h2:f=(if 2=3 then 2^63 else 0)
   ·rw[if_pos h2]
    exact Ra _ _ _ _ _ _ _ 2047 0 _ ng _ _ f w (jy 2 (by decide)) (gj 2 (by decide)) rfl (by rw[h2];rfl) (by decide)
   ·rw[if_neg h2]
    exact KP _ _ _ _ _ _ _ 2047 0 _ ng _ _ f w (jy 2 (by decide)) (gj 2 (by decide)) rfl (fun c=>h2 (by rw[show(if 2=3 then 2^63 else 0)=0 from rfl];omega)) (by decide)
  ·rw[if_neg h1]
   rw[if_neg (fun c=>by omega)]
   exact Rb _ _ _ _ _ _ _ 2047 0 _ ng _ _ f w (jy 2 (by decide)) (gj 2 (by decide)) (by omega) (by omega) (NR f hf)
theorem afu (ng:Bool)(e f:Nat)(w:World)(hf:f<18446744073709551616):yC 151 #[.agg #[yi 2,yi 64,yi (-16445),yi 16320,.bool true,yi 10,yi 15,yi 1,.func (.func 187) #[] #[]],yfV ng e f] w (yR w (yi ((dh 3 ng e f:Nat):Int))):=by
 unfold dh;rw[if_pos (by decide),show kp 3=32767 from rfl]
 by_cases h0:e=0
 ·subst h0
  rw[if_pos rfl]
  by_cases hz:f=0
  ·subst hz
   exact zD _ _ _ _ _ _ _ _ ng _ 0 0 w _ rfl rfl
  ·rw[if_neg hz]
   exact zD _ _ _ _ _ _ _ _ ng _ 0 f w _ rfl (if_neg (by omega))
 ·rw[if_neg h0]
  by_cases h1:e=32767
  ·subst h1
   rw[if_pos rfl]
   by_cases h2:f=(if 3=3 then 2^63 else 0)
   ·rw[if_pos h2]
    exact Ra _ _ _ _ _ _ _ 32767 9223372036854775808 _ ng _ _ f w (jy 3 (by decide)) (gj 3 (by decide)) rfl (by rw[h2];rfl) (by decide)
   ·rw[if_neg h2]
    exact KP _ _ _ _ _ _ _ 32767 9223372036854775808 _ ng _ _ f w (jy 3 (by decide)) (gj 3 (by decide)) rfl (fun c=>h2 (by rw[show(if 3=3 then 2^63 else 0)=9223372036854775808 from rfl];omega)) (by decide)
  ·rw[if_neg h1]
   have ha:=ab0 f hf
   by_cases h3:f<9223372036854775808
   ·rw[if_pos ⟨rfl,h3⟩]
    rw[if_pos h3] at ha;exact adw _ _ _ _ _ _ _ 32767 9223372036854775808 _ ng _ _ f w (jy 3 (by decide)) (gj 3 (by decide)) (by omega) (by omega) ha (by decide)
   ·rw[if_neg (fun c=>h3 c.2)]
    rw[if_neg h3] at ha;exact Rb _ _ _ _ _ _ _ 32767 9223372036854775808 _ ng _ _ f w (jy 3 (by decide)) (gj 3 (by decide)) (by omega) (by omega) ha
theorem Gf (k:Nat)(hk:1≤k∧k≤8)(ng:Bool)(e f:Nat)(w:World)(hf:f<18446744073709551616):yC 117 #[.agg (tS k).toArray,yfV ng e f] w (yR w (yi ((dh k ng e f:Nat):Int))):=by
 rcases bO hk with rfl|rfl|rfl|rfl|rfl|rfl|rfl|rfl
 ·exact Gd _ _ _ _ _ _ _ _ ng _ e f w (fun w1=>afs ng e f w1 hf)
 ·exact Gd _ _ _ _ _ _ _ _ ng _ e f w (fun w1=>aft ng e f w1 hf)
 ·exact Gd _ _ _ _ _ _ _ _ ng _ e f w (fun w1=>afu ng e f w1 hf)
 iterate 2 exact Za _ _ _ _ _ _ _ ng _ e f w
 all_goals exact Zb _ _ _ _ _ _ _ ng _ e f w
def Fv (k c dn:Nat)(ng:Bool)(p:Int):ByteArray:=if qX k c dn ng p=0 then cF (kU k (pI k c||ng) (pg k c) (lS k c)) else⟨#[]⟩
theorem GA (n:Int)(s:ByteArray)(w:World)
  (HL:yJ 111 #[yi n] (.tuple #[yzV 0 0 0 0 false 0 0 0,yi 6])):
  yC 63 #[yi n,.string s] w (yR w (.tuple #[yzV 0 0 0 0 false 0 0 0,yfV false 0 0,yi 6])):=by
 have hsf:=cD;have hsn:=gn;have bl:=af w (.cells (yzA 0 0 0 0 false 0 0 0) 124);have bf:=af (w.alloc (.cells (yzA 0 0 0 0 false 0 0 0) 124)) (.cells (yfA false 0 0) 127);have l0:=(ah w (yzL 0 0 0 0 false 0 0 0) 124).l bf;have m0:=ah (w.alloc (.cells (yzA 0 0 0 0 false 0 0 0) 124)) (yfL false 0 0) 127;have b0:=aa bl bf;rw[World.size_alloc] at m0;clear bl bf;have HL':Hid _:=HL;clear HL
 go_enter func63,ntmps63
 go_wp2_with fail
 refine(HL'.out _).mono ?_;rintro z w1 ⟨rfl,b1⟩;have bq:=af w1 (.cells (yzA 0 0 0 0 false 0 0 0) 124);have l1:=(l0.l b1).l bq;have m1:=(m0.l b1).l bq;have q1:=ah w1 (yzL 0 0 0 0 false 0 0 0) 124;have b01:=aa (aa b0 b1) bq;have hne0:w.heap.size≠w1.heap.size:=Nat.ne_of_lt (l0.l b1).lt;have hne1:w.heap.size+1≠w1.heap.size:=Nat.ne_of_lt (m0.l b1).lt;obtain⟨p0,p1,p2,p3,p4,p5,p6,p7,p8⟩:=q1.cs9;obtain⟨x0,x1,x2,x3,x4,x5,x6,x7,x8⟩:=l1.cs9;have jx0:=l1.f 0;have jx1:=l1.f 1;have jx2:=l1.f 2;have jx3:=l1.f 3;have jx4:=l1.f 4;have jx5:=l1.f 5;have jx6:=l1.f 6;have jx7:=l1.f 7;have jx8:=l1.f 8;obtain⟨y0,y1,y2⟩:=m1.cs3;have jy0:=m1.f 0;have jy1:=m1.f 1;have jy2:=m1.f 2;have hn1:w.heap.size+1≠w.heap.size:=Nat.succ_ne_self _;have cL:au (((((((((((((w1.alloc (.cells (yzA 0 0 0 0 false 0 0 0) 124)).setCell ⟨w.heap.size,0,none⟩ (yi 0)).setCell ⟨w.heap.size,1,none⟩ (yi 0)).setCell ⟨w.heap.size,2,none⟩ (yi 0)).setCell ⟨w.heap.size,3,none⟩ (yi 0)).setCell ⟨w.heap.size,4,none⟩ (.bool false)).setCell ⟨w.heap.size,5,none⟩ (yi 0)).setCell ⟨w.heap.size,6,none⟩ (yi 0)).setCell ⟨w.heap.size,7,none⟩ (yi 0)).setCell ⟨w.heap.size,8,none⟩ (.nilFunc)).setCell ⟨w.heap.size+1,0,none⟩ (.bool false)).setCell ⟨w.heap.size+1,1,none⟩ (yi 0)).setCell ⟨w.heap.size+1,2,none⟩ (.int .u64 0)) w.heap.size 124 (yzL 0 0 0 0 false 0 0 0):=((((((((((((l1.set 0 (yi 0)).set 1 (yi 0)).set 2 (yi 0)).set 3 (yi 0)).set 4 (.bool false)).set 5 (yi 0)).set 6 (yi 0)).set 7 (yi 0)).set 8 (.nilFunc)).off hn1 0 (.bool false)).off hn1 1 (yi 0)).off hn1 2 (.int .u64 0));have cM:au (((((((((((((w1.alloc (.cells (yzA 0 0 0 0 false 0 0 0) 124)).setCell ⟨w.heap.size,0,none⟩ (yi 0)).setCell ⟨w.heap.size,1,none⟩ (yi 0)).setCell ⟨w.heap.size,2,none⟩ (yi 0)).setCell ⟨w.heap.size,3,none⟩ (yi 0)).setCell ⟨w.heap.size,4,none⟩ (.bool false)).setCell ⟨w.heap.size,5,none⟩ (yi 0)).setCell ⟨w.heap.size,6,none⟩ (yi 0)).setCell ⟨w.heap.size,7,none⟩ (yi 0)).setCell ⟨w.heap.size,8,none⟩ (.nilFunc)).setCell ⟨w.heap.size+1,0,none⟩ (.bool false)).setCell ⟨w.heap.size+1,1,none⟩ (yi 0)).setCell ⟨w.heap.size+1,2,none⟩ (.int .u64 0)) (w.heap.size+1) 127 (yfL false 0 0):=((((((((((((m1.off (Ne.symm hn1) 0 (yi 0)).off (Ne.symm hn1) 1 (yi 0)).off (Ne.symm hn1) 2 (yi 0)).off (Ne.symm hn1) 3 (yi 0)).off (Ne.symm hn1) 4 (.bool false)).off (Ne.symm hn1) 5 (yi 0)).off (Ne.symm hn1) 6 (yi 0)).off (Ne.symm hn1) 7 (yi 0)).off (Ne.symm hn1) 8 (.nilFunc)).set 0 (.bool false)).set 1 (yi 0)).set 2 (.int .u64 0));have bR:=(((ag _ (w.heap.size+1) 0 (.bool false)).trans (ag _ (w.heap.size+1) 1 (yi 0))).trans (ag _ (w.heap.size+1) 2 (.int .u64 0))).below ((((((((((ag (w1.alloc (.cells (yzA 0 0 0 0 false 0 0 0) 124)) w.heap.size 0 (yi 0)).trans (ag _ w.heap.size 1 (yi 0))).trans (ag _ w.heap.size 2 (yi 0))).trans (ag _ w.heap.size 3 (yi 0))).trans (ag _ w.heap.size 4 (.bool false))).trans (ag _ w.heap.size 5 (yi 0))).trans (ag _ w.heap.size 6 (yi 0))).trans (ag _ w.heap.size 7 (yi 0))).trans (ag _ w.heap.size 8 (.nilFunc))).below b01 (Nat.le_refl _)) (Nat.le_succ _);have hl:=run_loadVar_mid (P:=Tryz.prog) _ w.heap.size 0 124 (yzL 0 0 0 0 false 0 0 0) _ cL.range underlying124 rfl (by kernel_rfl);have hm:=run_loadVar_mid (P:=Tryz.prog) _ (w.heap.size+1) 0 127 (yfL false 0 0) _ cM.range underlying127 rfl (by kernel_rfl);have HH:Hid (_∧_∧_):=⟨hl,hm,bR⟩;clear hl hm bR cL cM l1 m1 q1 b01 l0 m0 b0 bq b1
 go_wp2
 obtain⟨hl,hm,bR⟩:=HH.out;exact bodyPost_ret (kg results63 rfl rfl rfl hl hm) rfl ⟨rfl,bR⟩
theorem H6 (n:Int)(R sz ex:Nat)(D L G fam:Int)(gr:Bool)(F:Nat)(s:ByteArray)(w:World)(hs:s.size≠sz)
  (HL:yJ 111 #[yi n] (.tuple #[ylV R D L G gr sz ex fam F,yi 0])):
  yC 63 #[yi n,.string s] w (yR w (.tuple #[yzV 0 0 0 0 false 0 0 0,yfV false 0 0,yi 1])):=by
 have hsf:=cD;have hsn:=gn;have bl:=af w (.cells (yzA 0 0 0 0 false 0 0 0) 124);have bf:=af (w.alloc (.cells (yzA 0 0 0 0 false 0 0 0) 124)) (.cells (yfA false 0 0) 127);have l0:=(ah w (yzL 0 0 0 0 false 0 0 0) 124).l bf;have m0:=ah (w.alloc (.cells (yzA 0 0 0 0 false 0 0 0) 124)) (yfL false 0 0) 127;have b0:=aa bl bf;rw[World.size_alloc] at m0;clear bl bf;have HL':Hid _:=HL;clear HL
 go_enter func63,ntmps63
 go_wp2_with fail
 refine(HL'.out _).mono ?_;rintro z w1 ⟨rfl,b1⟩;have bq:=af w1 (.cells (ylA R D L G gr sz ex fam F) 124);have l1:=(l0.l b1).l bq;have m1:=(m0.l b1).l bq;have q1:=ah w1 (ylL R D L G gr sz ex fam F) 124;have b01:=aa (aa b0 b1) bq;have hne0:w.heap.size≠w1.heap.size:=Nat.ne_of_lt (l0.l b1).lt;have hne1:w.heap.size+1≠w1.heap.size:=Nat.ne_of_lt (m0.l b1).lt;obtain⟨p0,p1,p2,p3,p4,p5,p6,p7,p8⟩:=q1.cs9;obtain⟨x0,x1,x2,x3,x4,x5,x6,x7,x8⟩:=l1.cs9;have jx0:=l1.f 0;have jx1:=l1.f 1;have jx2:=l1.f 2;have jx3:=l1.f 3;have jx4:=l1.f 4;have jx5:=l1.f 5;have jx6:=l1.f 6;have jx7:=l1.f 7;have jx8:=l1.f 8;obtain⟨y0,y1,y2⟩:=m1.cs3;have jy0:=m1.f 0;have jy1:=m1.f 1;have jy2:=m1.f 2;have hsz:((s.size:Int)==(sz:Int))=false:=by simp;omega
 clear hs;have hn1:w.heap.size+1≠w.heap.size:=Nat.succ_ne_self _;have cL:au (((((((((((((w1.alloc (.cells (ylA R D L G gr sz ex fam F) 124)).setCell ⟨w.heap.size,0,none⟩ (yi 0)).setCell ⟨w.heap.size,1,none⟩ (yi 0)).setCell ⟨w.heap.size,2,none⟩ (yi 0)).setCell ⟨w.heap.size,3,none⟩ (yi 0)).setCell ⟨w.heap.size,4,none⟩ (.bool false)).setCell ⟨w.heap.size,5,none⟩ (yi 0)).setCell ⟨w.heap.size,6,none⟩ (yi 0)).setCell ⟨w.heap.size,7,none⟩ (yi 0)).setCell ⟨w.heap.size,8,none⟩ (.nilFunc)).setCell ⟨w.heap.size+1,0,none⟩ (.bool false)).setCell ⟨w.heap.size+1,1,none⟩ (yi 0)).setCell ⟨w.heap.size+1,2,none⟩ (.int .u64 0)) w.heap.size 124 (yzL 0 0 0 0 false 0 0 0):=((((((((((((l1.set 0 (yi 0)).set 1 (yi 0)).set 2 (yi 0)).set 3 (yi 0)).set 4 (.bool false)).set 5 (yi 0)).set 6 (yi 0)).set 7 (yi 0)).set 8 (.nilFunc)).off hn1 0 (.bool false)).off hn1 1 (yi 0)).off hn1 2 (.int .u64 0));have cM:au (((((((((((((w1.alloc (.cells (ylA R D L G gr sz ex fam F) 124)).setCell ⟨w.heap.size,0,none⟩ (yi 0)).setCell ⟨w.heap.size,1,none⟩ (yi 0)).setCell ⟨w.heap.size,2,none⟩ (yi 0)).setCell ⟨w.heap.size,3,none⟩ (yi 0)).setCell ⟨w.heap.size,4,none⟩ (.bool false)).setCell ⟨w.heap.size,5,none⟩ (yi 0)).setCell ⟨w.heap.size,6,none⟩ (yi 0)).setCell ⟨w.heap.size,7,none⟩ (yi 0)).setCell ⟨w.heap.size,8,none⟩ (.nilFunc)).setCell ⟨w.heap.size+1,0,none⟩ (.bool false)).setCell ⟨w.heap.size+1,1,none⟩ (yi 0)).setCell ⟨w.heap.size+1,2,none⟩ (.int .u64 0)) (w.heap.size+1) 127 (yfL false 0 0):=((((((((((((m1.off (Ne.symm hn1) 0 (yi 0)).off (Ne.symm hn1) 1 (yi 0)).off (Ne.symm hn1) 2 (yi 0)).off (Ne.symm hn1) 3 (yi 0)).off (Ne.symm hn1) 4 (.bool false)).off (Ne.symm hn1) 5 (yi 0)).off (Ne.symm hn1) 6 (yi 0)).off (Ne.symm hn1) 7 (yi 0)).off (Ne.symm hn1) 8 (.nilFunc)).set 0 (.bool false)).set 1 (yi 0)).set 2 (.int .u64 0));have bR:=(((ag _ (w.heap.size+1) 0 (.bool false)).trans (ag _ (w.heap.size+1) 1 (yi 0))).trans (ag _ (w.heap.size+1) 2 (.int .u64 0))).below ((((((((((ag (w1.alloc (.cells (ylA R D L G gr sz ex fam F) 124)) w.heap.size 0 (yi 0)).trans (ag _ w.heap.size 1 (yi 0))).trans (ag _ w.heap.size 2 (yi 0))).trans (ag _ w.heap.size 3 (yi 0))).trans (ag _ w.heap.size 4 (.bool false))).trans (ag _ w.heap.size 5 (yi 0))).trans (ag _ w.heap.size 6 (yi 0))).trans (ag _ w.heap.size 7 (yi 0))).trans (ag _ w.heap.size 8 (.nilFunc))).below b01 (Nat.le_refl _)) (Nat.le_succ _);have hl:=run_loadVar_mid (P:=Tryz.prog) _ w.heap.size 0 124 (yzL 0 0 0 0 false 0 0 0) _ cL.range underlying124 rfl (by kernel_rfl);have hm:=run_loadVar_mid (P:=Tryz.prog) _ (w.heap.size+1) 0 127 (yfL false 0 0) _ cM.range underlying127 rfl (by kernel_rfl);have HH:Hid (_∧_∧_):=⟨hl,hm,bR⟩;clear hl hm bR cL cM l1 m1 q1 b01 l0 m0 b0 bq b1
 go_wp2
 obtain⟨hl,hm,bR⟩:=HH.out;exact bodyPost_ret (kg results63 rfl rfl rfl hl hm) rfl ⟨rfl,bR⟩
theorem tShort_num (wd md:ByteArray)(dg:Bool)(hv:Nat)(cn pw:Int)(PR:Nat→ByteArray)(mk:Nat→Bool)(n c p:Int)(g:Bool)(M:Nat)(x:ak)(s:ByteArray)(w:World)
  (HR: ∀w1,yB w w1→yC 44 #[yi n,.string s] w1 (Ys w1 c g M p x 0))
  (HW: ∀vo vc w1,yC 45 #[yvV c g (yT vo M vc) p] w1 (yR w1 (.tuple #[.string wd,.bool false])))
  (HE: ∀vo vc w1,yB w w1→Rd w1 .u32 (yT vo M vc) (Dg.dg 4294967296 M)→yC 58 #[yi n,yvV c g (yT vo M vc) p] w1 (yR w1 (.tuple #[.string md,yi 0])))
  (HD: ∀xo xc w1,yB w w1→Rd w1 .u32 (yT xo x.n xc) (Dg.dg 4294967296 x.n)→yC 46 #[yDV x xo xc] w1 (DcR w1 dg hv cn pw))
  (HP: ∀k:Nat,1≤k→k≤60→ ∀ho hc w1,yB w w1→Rd w1 .u32 (yT ho hv hc) (Dg.dg 4294967296 hv)→yC 47 #[.agg #[.bool dg,yT ho hv hc,yi cn,yi pw],yi (k:Int)] w1 (yR w1 (.string (PR k))))
  (HM: ∀k:Nat,yH w 59 #[.string (PR k),yi n,.string md] (.bool (mk k))):
  yC 23 #[yi n,.string s] w (yR w (.tuple #[.string (PR (shF mk 59 1)),yi 0])):=by
 replace HR:Hid _:=HR;replace HW:Hid _:=HW;replace HE:Hid _:=HE;replace HD:Hid _:=HD;replace HP:Hid _:=HP;replace HM:Hid _:=HM;obtain⟨rr,hrr⟩: ∃r,PR (shF mk 59 1)=r:=⟨_,rfl⟩;rw[hrr];replace hrr:Hid _:=hrr
 go_enter func23,ntmps23
 have b0:=Below.refl w.heap.size w
 go_wp2_with fail
 refine(HR.out _ b0).mono ?_;rintro zz w1 ⟨v1x3,v2x4,rfl,r1x5,r2x6,-,bb2⟩;have b7:=aa b0 bb2;obtain⟨vo,vc,hv⟩:=r1x5.shape;subst hv;obtain⟨xo,xc,hv⟩:=r2x6.shape;subst hv;clear b0 bb2 HR;obtain⟨W10,hW9,q11,q12,al8⟩:=iG w1 (yvL c g (yT vo M vc) p) 66 (yDL x xo xc) 95;replace hW9:Hid _:=hW9;have hl13:w.heap.size≤w1.heap.size:=b7.size;have r14:=r1x5.l al8;have r15:=r2x6.l al8;have b16:=aa b7 al8;clear r1x5 r2x6 b7 al8
 go_upto_region 2 with fail
 rw[hW9.out];clear hW9;obtain⟨c17,c18,c19,c20⟩:=q11.cs4
 go_wp2_with fail
 refine(HW.out _ _ _).mono ?_;rintro zz w21 ⟨rfl,bb22⟩;have q23:=q11.l bb22;have q24:=q12.l bb22;have r25:=r14.l bb22;have r26:=r15.l bb22;have b27:=aa b16 bb22;clear q11 q12 r14 r15 b16 bb22 HW c17 c18 c19 c20;obtain⟨c28,c29,c30,c31⟩:=q23.cs4
 go_wp2_with fail
 refine(HE.out _ _ _ b27 r25).mono ?_;rintro zz w32 ⟨rfl,bb33⟩;have q34:=q24.l bb33;have r35:=r26.l bb33;have b36:=aa b27 bb33;clear q23 q24 r25 r26 b27 bb33 HE c28 c29 c30 c31;obtain⟨c37,c38,c39⟩:=q34.cs3
 go_wp2_with fail
 refine(HD.out _ _ _ b36 r35).mono ?_;rintro zz w40 ⟨v1x42,rfl,r1x43,bb41⟩;have b44:=aa b36 bb41;obtain⟨ho,hc,hv⟩:=r1x43.shape;subst hv;clear q34 r35 b36 bb41 HD c37 c38 c39;obtain⟨W47,hW46,q48,al45⟩:=cA w40 [.bool dg,yT ho hv hc,yi cn,yi pw] 102;replace hW46:Hid _:=hW46;have hl49:w.heap.size≤w40.heap.size:=b44.size;have r50:=r1x43.l al45;have b51:=aa b44 al45;clear r1x43 b44 al45
 go_wp2_with fail
 rw[hW46.out];clear hW46;have hS:ShW w (w40.heap.size) [.bool dg,yT ho hv hc,yi cn,yi pw] (yT ho hv hc) hv W47:=⟨b51,q48,r50⟩;clear q48 r50 b51;generalize w40.heap.size=ad at hS⊢;generalize W47=ws at hS⊢
 go_loopw [13] (fun kv wr=> ∃k:Nat,1≤k∧k≤60∧kv=yi (k:Int)∧ShW w ad [.bool dg,yT ho hv hc,yi cn,yi pw] (yT ho hv hc) hv wr∧Hid (shF mk (60-k) k=shF mk 59 1)) (fun kv _=>60-(intOf kv).toNat)
 case atStart=>exact⟨1,by omega,by omega,rfl,hS,rfl⟩
 case round=>
  clear hS;obtain⟨k,hk1,hk2,rfl,hS,hF⟩:=hrel;obtain⟨bz,qd,rh⟩:=hS
  by_cases hlt:k<60
  ·have HPa:=HP.out k hk1 hk2
   have HMa:=HM.out k;obtain⟨pk,hpk⟩: ∃q,PR k=q:=⟨_,rfl⟩;rw[hpk] at HPa HMa;have HPb:=HPa;replace hpk:Hid _:=hpk;replace HPa:Hid _:=HPa;replace HPb:Hid _:=HPb
   cases hm:mk k
   case false=>
    rw[hm] at HMa;replace hm:Hid _:=hm;replace HMa:Hid _:=HMa;obtain⟨c101,c102,c103,c104⟩:=qd.cs4
    go_wp2_with fail
    refine(HPa.out _ _ _ bz rh).mono ?_;rintro zz w105 ⟨rfl,bb106⟩;have q107:=qd.l bb106;have r108:=rh.l bb106;have b109:=aa bz bb106;clear qd rh bz bb106 HPa c101 c102 c103 c104
    go_wp2_with fail
    refine(HMa.out _ b109).mono ?_;rintro zz w110 ⟨rfl,bb111⟩;have q112:=q107.l bb111;have r113:=r108.l bb111;have b114:=aa b109 bb111;clear q107 r108 b109 bb111 HMa
    go_wp2
    go_roundw
    case rel=>exact⟨k+1,by omega,by omega,by go_num,⟨b114,q112,r113⟩,by have e:shF mk ((60-(k+1))+1) k=shF mk (60-(k+1)) (k+1):=if_neg (by rw[hm.out];decide);rw[show(60-(k+1))+1=60-k by omega,hF.out] at e;exact e.symm⟩
    case measure=>simp[intOf];omega
   case true=>
    rw[hm] at HMa;replace hm:Hid _:=hm;replace HMa:Hid _:=HMa;obtain⟨c201,c202,c203,c204⟩:=qd.cs4
    go_wp2_with fail
    refine(HPa.out _ _ _ bz rh).mono ?_;rintro zz w205 ⟨rfl,bb206⟩;have q207:=qd.l bb206;have r208:=rh.l bb206;have b209:=aa bz bb206;clear qd rh bz bb206 HPa c201 c202 c203 c204
    go_wp2_with fail
    refine(HMa.out _ b209).mono ?_;rintro zz w210 ⟨rfl,bb211⟩;have q212:=q207.l bb211;have r213:=r208.l bb211;have b214:=aa b209 bb211;clear q207 r208 b209 bb211 HMa;obtain⟨c215,c216,c217,c218⟩:=q212.cs4
    go_wp2_with fail
    refine(HPb.out _ _ _ b214 r213).mono ?_;rintro zz w219 ⟨rfl,bb220⟩;have b221:=aa b214 bb220;clear q212 r213 b214 bb220 HPb c215 c216 c217 c218
    go_wp2
    go_ret2
    have e:shF mk (60-k) k=k:=by rw[show 60-k=(60-(k+1))+1 by omega];unfold shF;rw[if_pos hm.out]
    rw[←hrr.out,←hF.out,e,hpk.out];exact⟨rfl,b221⟩
  ·obtain rfl:k=60:=by omega
   have HPb:=HP.out 60 hk1 hk2;obtain⟨pk,hpk⟩: ∃q,PR 60=q:=⟨_,rfl⟩;rw[hpk] at HPb;replace hpk:Hid _:=hpk;replace HPb:Hid _:=HPb;obtain⟨c301,c302,c303,c304⟩:=qd.cs4
   go_wp2_with fail
   refine(HPb.out _ _ _ bz rh).mono ?_;rintro zz w305 ⟨rfl,bb306⟩;have b307:=aa bz bb306;clear qd rh bz bb306 HPb c301 c302 c303 c304
   go_wp2
   go_ret2
   rw[←hrr.out,←hF.out,show shF mk (60-60) 60=60 from rfl,hpk.out]
   exact⟨rfl,b307⟩
def fq (n c:Int)(ng:Bool)(xs:List Nat)(p:Int):ByteArray:=
 if dK n=0∨c<1∨5<c then⟨#[]⟩ else if chk xs≠0 then⟨#[]⟩ else if c=2 then enS n.toNat ng xs p else Fv n.toNat c.toNat xs.length ng p
theorem adn (n wy R D L G:Int)(gr ng:Bool)(w:World)
  (HN:yJ 172 #[yi 3] (yi 5)):
  yC 132 #[ykV n wy 3 R D L G gr,.bool ng] w (iT w 5 false 0 0):=by
 replace HN:Hid _:=HN;have ad:=af w (.cells (ykA n wy 3 R D L G gr) 147);have av:=af (w.alloc (.cells (ykA n wy 3 R D L G gr) 147)) (.cells (yvA 0 false yN 0) 66);have d0:=(ah w (ykL n wy 3 R D L G gr) 147).l av;have v0:=ah (w.alloc (.cells (ykA n wy 3 R D L G gr) 147)) (yvL 0 false yN 0) 66;rw[World.size_alloc] at v0;have b0:=aa ad av;clear ad av
 go_enter func132,ntmps132
 go_upto_block 0 with fail
 generalize(w.alloc (.cells (ykA n wy 3 R D L G gr) 147)).alloc (.cells (yvA 0 false yN 0) 66)=W0 at d0 v0 b0⊢;obtain⟨y0,y1,y2,y3,y4,y5,y6,y7⟩:=d0.cs8
 go_wp2_with fail
 refine(HN.out _).mono ?_;rintro z w1 ⟨rfl,b1⟩;have v1:=v0.l b1;have b01:=aa b0 b1;clear y0 y1 y2 y3 y4 y5 y6 y7 d0 v0 b0 b1;have cR:au ((((w1.setCell ⟨w.heap.size+1,0,none⟩ (yi 5)).setCell ⟨w.heap.size+1,1,none⟩ (.bool false)).setCell ⟨w.heap.size+1,2,none⟩ yN).setCell ⟨w.heap.size+1,3,none⟩ (yi 0)) (w.heap.size+1) 66 (yvL 5 false yN 0):=((((v1.set 0 (yi 5)).set 1 (.bool false)).set 2 yN).set 3 (yi 0));have bu:=(((ag w1 (w.heap.size+1) 0 (yi 5)).trans (ag _ (w.heap.size+1) 1 (.bool false))).trans (ag _ (w.heap.size+1) 2 yN)).trans (ag _ (w.heap.size+1) 3 (yi 0));have bR:=bu.below b01 (by omega);have hl:=run_loadVar_mid (P:=Tryz.prog) _ (w.heap.size+1) 0 66 (yvL 5 false yN 0) _ cR.range underlying66 rfl (by kernel_rfl);have HH:Hid (_∧_):=⟨hl,bR⟩;obtain⟨z0,z1,z2,z3⟩:=v1.cs4;have fz0:=v1.f 0;have fz1:=v1.f 1;have fz2:=v1.f 2;have fz3:=v1.f 3;clear hl bR bu cR;clear v1 b01
 go_wp2
 obtain⟨hl,bR⟩:=HH.out;exact bodyPost_ret (br results132 rfl hl) rfl ⟨_,rfl,aN _ _,bR⟩
theorem abM (n wy R D L G:Int)(gr ng:Bool)(w:World)
  (HO:yJ 173 #[ykV n wy 1 R D L G gr,.bool ng] (.bool true)):
  yC 132 #[ykV n wy 1 R D L G gr,.bool ng] w (iT w 3 ng 0 0):=by
 replace HO:Hid _:=HO;have ad:=af w (.cells (ykA n wy 1 R D L G gr) 147);have av:=af (w.alloc (.cells (ykA n wy 1 R D L G gr) 147)) (.cells (yvA 0 false yN 0) 66);have d0:=(ah w (ykL n wy 1 R D L G gr) 147).l av;have v0:=ah (w.alloc (.cells (ykA n wy 1 R D L G gr) 147)) (yvL 0 false yN 0) 66;rw[World.size_alloc] at v0;have b0:=aa ad av;clear ad av
 go_enter func132,ntmps132
 go_upto_block 0 with fail
 generalize(w.alloc (.cells (ykA n wy 1 R D L G gr) 147)).alloc (.cells (yvA 0 false yN 0) 66)=W0 at d0 v0 b0⊢;obtain⟨y0,y1,y2,y3,y4,y5,y6,y7⟩:=d0.cs8
 go_wp2_with fail
 refine(HO.out _).mono ?_;rintro z w1 ⟨rfl,b1⟩;have v1:=v0.l b1;have b01:=aa b0 b1;clear y0 y1 y2 y3 y4 y5 y6 y7 d0 v0 b0 b1;have cR:au ((((w1.setCell ⟨w.heap.size+1,0,none⟩ (yi 3)).setCell ⟨w.heap.size+1,1,none⟩ (.bool ng)).setCell ⟨w.heap.size+1,2,none⟩ yN).setCell ⟨w.heap.size+1,3,none⟩ (yi 0)) (w.heap.size+1) 66 (yvL 3 ng yN 0):=((((v1.set 0 (yi 3)).set 1 (.bool ng)).set 2 yN).set 3 (yi 0));have bu:=(((ag w1 (w.heap.size+1) 0 (yi 3)).trans (ag _ (w.heap.size+1) 1 (.bool ng))).trans (ag _ (w.heap.size+1) 2 yN)).trans (ag _ (w.heap.size+1) 3 (yi 0));have bR:=bu.below b01 (by omega);have hl:=run_loadVar_mid (P:=Tryz.prog) _ (w.heap.size+1) 0 66 (yvL 3 ng yN 0) _ cR.range underlying66 rfl (by kernel_rfl);have HH:Hid (_∧_):=⟨hl,bR⟩;obtain⟨z0,z1,z2,z3⟩:=v1.cs4;have fz0:=v1.f 0;have fz1:=v1.f 1;have fz2:=v1.f 2;have fz3:=v1.f 3;clear hl bR bu cR;clear v1 b01
 go_wp2
 obtain⟨hl,bR⟩:=HH.out;exact bodyPost_ret (br results132 rfl hl) rfl ⟨_,rfl,aN _ _,bR⟩
theorem abN (n wy R D L G:Int)(gr ng:Bool)(m:Nat)(w:World)
  (HO:yJ 173 #[ykV n wy 1 R D L G gr,.bool ng] (.bool false))
  (HGr: ∀w1,yB w w1→yC 174 #[ykV n wy 1 R D L G gr,.bool ng] w1 (iT w1 2 ng m G)):
  yC 132 #[ykV n wy 1 R D L G gr,.bool ng] w (iT w 2 ng m G):=by
 replace HO:Hid _:=HO;replace HGr:Hid _:=HGr;have ad:=af w (.cells (ykA n wy 1 R D L G gr) 147);have av:=af (w.alloc (.cells (ykA n wy 1 R D L G gr) 147)) (.cells (yvA 0 false yN 0) 66);have d0:=(ah w (ykL n wy 1 R D L G gr) 147).l av;have v0:=ah (w.alloc (.cells (ykA n wy 1 R D L G gr) 147)) (yvL 0 false yN 0) 66;rw[World.size_alloc] at v0;have b0:=aa ad av;clear ad av
 go_enter func132,ntmps132
 go_upto_block 0 with fail
 generalize(w.alloc (.cells (ykA n wy 1 R D L G gr) 147)).alloc (.cells (yvA 0 false yN 0) 66)=W0 at d0 v0 b0⊢;obtain⟨y0,y1,y2,y3,y4,y5,y6,y7⟩:=d0.cs8
 go_wp2_with fail
 refine(HO.out _).mono ?_;rintro z w1 ⟨rfl,b1⟩;have d1:=d0.l b1;have v1:=v0.l b1;have b01:=aa b0 b1;clear y0 y1 y2 y3 y4 y5 y6 y7 d0 v0 b0 b1;obtain⟨y0,y1,y2,y3,y4,y5,y6,y7⟩:=d1.cs8
 go_wp2_with fail
 refine(HGr.out _ b01).mono ?_;rintro z w2 ⟨u,rfl,r2,b2⟩;obtain⟨mo,mc,hu⟩:=r2.shape;subst hu;have v2:=v1.l b2;have b02:=aa b01 b2;clear y0 y1 y2 y3 y4 y5 y6 y7 d1 v1 b01 b2;have cR:au ((((w2.setCell ⟨w.heap.size+1,0,none⟩ (yi 2)).setCell ⟨w.heap.size+1,1,none⟩ (.bool ng)).setCell ⟨w.heap.size+1,2,none⟩ (yT mo m mc)).setCell ⟨w.heap.size+1,3,none⟩ (yi G)) (w.heap.size+1) 66 (yvL 2 ng (yT mo m mc) G):=((((v2.set 0 (yi 2)).set 1 (.bool ng)).set 2 (yT mo m mc)).set 3 (yi G));have bu:=(((ag w2 (w.heap.size+1) 0 (yi 2)).trans (ag _ (w.heap.size+1) 1 (.bool ng))).trans (ag _ (w.heap.size+1) 2 (yT mo m mc))).trans (ag _ (w.heap.size+1) 3 (yi G));have bR:=bu.below b02 (by omega);have rR:=bu.rd r2 (aX r2 v2 (by simp));have hl:=run_loadVar_mid (P:=Tryz.prog) _ (w.heap.size+1) 0 66 (yvL 2 ng (yT mo m mc) G) _ cR.range underlying66 rfl (by kernel_rfl);have HH:Hid (_∧_∧_):=⟨hl,rR,bR⟩;obtain⟨z0,z1,z2,z3⟩:=v2.cs4;have fz0:=v2.f 0;have fz1:=v2.f 1;have fz2:=v2.f 2;have fz3:=v2.f 3;clear hl bR bu cR rR;clear v2 b02 r2
 go_wp2
 obtain⟨hl,rR,bR⟩:=HH.out;exact bodyPost_ret (br results132 rfl hl) rfl ⟨_,rfl,rR,bR⟩
theorem ado (n wy R D L G:Int)(gr ng:Bool)(m:Nat)(w:World)
  (HGr: ∀w1,yB w w1→yC 174 #[ykV n wy 2 R D L G gr,.bool ng] w1 (iT w1 2 ng m G)):
  yC 132 #[ykV n wy 2 R D L G gr,.bool ng] w (iT w 2 ng m G):=by
 replace HGr:Hid _:=HGr;have ad:=af w (.cells (ykA n wy 2 R D L G gr) 147);have av:=af (w.alloc (.cells (ykA n wy 2 R D L G gr) 147)) (.cells (yvA 0 false yN 0) 66);have d0:=(ah w (ykL n wy 2 R D L G gr) 147).l av;have v0:=ah (w.alloc (.cells (ykA n wy 2 R D L G gr) 147)) (yvL 0 false yN 0) 66;rw[World.size_alloc] at v0;have b0:=aa ad av;clear ad av
 go_enter func132,ntmps132
 go_upto_block 0 with fail
 generalize(w.alloc (.cells (ykA n wy 2 R D L G gr) 147)).alloc (.cells (yvA 0 false yN 0) 66)=W0 at d0 v0 b0⊢;obtain⟨y0,y1,y2,y3,y4,y5,y6,y7⟩:=d0.cs8
 go_wp2_with fail
 refine(HGr.out _ b0).mono ?_;rintro z w2 ⟨u,rfl,r2,b2⟩;obtain⟨mo,mc,hu⟩:=r2.shape;subst hu;have v2:=v0.l b2;have b02:=aa b0 b2;clear y0 y1 y2 y3 y4 y5 y6 y7 d0 v0 b0 b2;have cR:au ((((w2.setCell ⟨w.heap.size+1,0,none⟩ (yi 2)).setCell ⟨w.heap.size+1,1,none⟩ (.bool ng)).setCell ⟨w.heap.size+1,2,none⟩ (yT mo m mc)).setCell ⟨w.heap.size+1,3,none⟩ (yi G)) (w.heap.size+1) 66 (yvL 2 ng (yT mo m mc) G):=((((v2.set 0 (yi 2)).set 1 (.bool ng)).set 2 (yT mo m mc)).set 3 (yi G));have bu:=(((ag w2 (w.heap.size+1) 0 (yi 2)).trans (ag _ (w.heap.size+1) 1 (.bool ng))).trans (ag _ (w.heap.size+1) 2 (yT mo m mc))).trans (ag _ (w.heap.size+1) 3 (yi G));have bR:=bu.below b02 (by omega);have rR:=bu.rd r2 (aX r2 v2 (by simp));have hl:=run_loadVar_mid (P:=Tryz.prog) _ (w.heap.size+1) 0 66 (yvL 2 ng (yT mo m mc) G) _ cR.range underlying66 rfl (by kernel_rfl);have HH:Hid (_∧_∧_):=⟨hl,rR,bR⟩;obtain⟨z0,z1,z2,z3⟩:=v2.cs4;have fz0:=v2.f 0;have fz1:=v2.f 1;have fz2:=v2.f 2;have fz3:=v2.f 3;clear hl bR bu cR rR;clear v2 b02 r2
 go_wp2
 obtain⟨hl,rR,bR⟩:=HH.out;exact bodyPost_ret (br results132 rfl hl) rfl ⟨_,rfl,rR,bR⟩
theorem Lr (n wy fam R D L G pw:Int)(gr ng ex un:Bool)(ao:Option Addr)(la ca:Nat)(c q:Int)(g:Bool)(m:Nat)(w:World)
  (HO: ∀w1,yB w w1→yC 132 #[ykV n wy fam R D L G gr,.bool ng] w1 (iT w1 c g m q)):
  yC 83 #[ykV n wy fam R D L G gr,ypV ng (.slice ao la ca) pw ex true un] w (B6 w c g m q 5):=by
 replace HO:Hid _:=HO;have a1:=af w (.cells (ykA n wy fam R D L G gr) 147);have a2:=af (w.alloc (.cells (ykA n wy fam R D L G gr) 147)) (.cells (ypA ng (.slice ao la ca) pw ex true un) 151);have a3:=af ((w.alloc (.cells (ykA n wy fam R D L G gr) 147)).alloc (.cells (ypA ng (.slice ao la ca) pw ex true un) 151)) (.cells (yvA 0 false yN 0) 66);have d0:=((ah w (ykL n wy fam R D L G gr) 147).l a2).l a3;have p0:=(ah (w.alloc (.cells (ykA n wy fam R D L G gr) 147)) (ypL ng (.slice ao la ca) pw ex true un) 151).l a3;have v0:=ah ((w.alloc (.cells (ykA n wy fam R D L G gr) 147)).alloc (.cells (ypA ng (.slice ao la ca) pw ex true un) 151)) (yvL 0 false yN 0) 66;rw[World.size_alloc] at p0;rw[World.size_alloc,World.size_alloc] at v0;have b0:=aa (aa a1 a2) a3;clear a1 a2 a3
 go_enter func83,ntmps83
 go_upto_block 0 with fail
 generalize((w.alloc (.cells (ykA n wy fam R D L G gr) 147)).alloc (.cells (ypA ng (.slice ao la ca) pw ex true un) 151)).alloc (.cells (yvA 0 false yN 0) 66)=W0 at d0 p0 v0 b0⊢;obtain⟨y0,y1,y2,y3,y4,y5,y6,y7⟩:=d0.cs8;obtain⟨x0,x1,x2,x3,x4,x5⟩:=p0.cs6
 go_wp2_with fail
 refine(HO.out _ b0).mono ?_;rintro z w1 ⟨u,rfl,r1,b1⟩;obtain⟨mo,mc,hu⟩:=r1.shape;subst hu;have v1:=v0.l b1;have b01:=aa b0 b1;clear y0 y1 y2 y3 y4 y5 y6 y7 x0 x1 x2 x3 x4 x5 d0 p0 v0 b0 b1 HO;have cR:au ((((w1.setCell ⟨w.heap.size+1+1,0,none⟩ (yi c)).setCell ⟨w.heap.size+1+1,1,none⟩ (.bool g)).setCell ⟨w.heap.size+1+1,2,none⟩ (yT mo m mc)).setCell ⟨w.heap.size+1+1,3,none⟩ (yi q)) (w.heap.size+1+1) 66 (yvL c g (yT mo m mc) q):=((((v1.set 0 (yi c)).set 1 (.bool g)).set 2 (yT mo m mc)).set 3 (yi q));have bu:=(((ag w1 (w.heap.size+1+1) 0 (yi c)).trans (ag _ (w.heap.size+1+1) 1 (.bool g))).trans (ag _ (w.heap.size+1+1) 2 (yT mo m mc))).trans (ag _ (w.heap.size+1+1) 3 (yi q));have bR:=bu.below b01 (by omega);have rR:=bu.rd r1 (aX r1 v1 (by simp));have hl:=run_loadVar_mid (P:=Tryz.prog) _ (w.heap.size+1+1) 0 66 (yvL c g (yT mo m mc) q) _ cR.range underlying66 rfl (by kernel_rfl);have HH:Hid (_∧_∧_):=⟨hl,rR,bR⟩;obtain⟨z0,z1,z2,z3⟩:=v1.cs4;have fz0:=v1.f 0;have fz1:=v1.f 1;have fz2:=v1.f 2;have fz3:=v1.f 3;clear hl bR bu cR rR;clear v1 b01 r1
 go_wp2
 obtain⟨hl,rR,bR⟩:=HH.out;exact bodyPost_ret (aj results83 rfl rfl hl) rfl ⟨_,rfl,rR,bR⟩
end Go.Proofs.YtpgijbdgljkeeaaGreatDoor

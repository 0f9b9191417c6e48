/-
  Texts laid together: Co2, Co3, Co13, Ar1, Tx2, Gn2, Co22, Ce8, Pa1, Tx6.
-/
import Derived.Test.YtpgijbdgljkeeaaGreatDoorUx31
import Derived.Test.YtpgijbdgljkeeaaGreatDoorUx32
import Derived.Test.YtpgijbdgljkeeaaGreatDoorUx33
set_option maxRecDepth 100000
set_option maxHeartbeats 6400000
namespace Go.Proofs.YtpgijbdgljkeeaaGreatDoor
open _root_.Go.Proofs.Tryz
open Go.RowKit
set_option maxRecDepth 20000 in
theorem jG (w:World):yC 144 #[] w (yR w (.agg Ar.toArray)):=by
 have l0:au (w.alloc (.cells Tryz.zeroCells214 214)) w.heap.size 214 Tryz.zeroCells214.toList:=by
  have:=ah w Tryz.zeroCells214.toList 214
  rwa [Array.toArray_toList] at this
 have th:=l0.there 81 (by kernel_rfl);have cR:=l0.sets Ar (by kernel_rfl);have bu:=de w.heap.size Ar 0 (w.alloc (.cells Tryz.zeroCells214 214));have bR:=bu.below (af w (.cells Tryz.zeroCells214 214)) (Nat.le_refl _);have hl:=run_loadVar_mid (P:=Tryz.prog) _ w.heap.size 0 214 Ar _ cR.range underlying214 rfl (by kernel_rfl);have HH:Hid (_∧_):=⟨hl,bR⟩;clear hl bR cR bu l0
 go_enter func144,ntmps144
 go_wp2_with (refine wpList_store_mid rfl 214 (.tmp 0) (.tmp 28) rfl w.heap.size 0 #[yi 0,yi 0,yi 0,yi 0,.bool false,yi 0,yi 0,yi 0,.nilFunc,yi 2,yi 24,yi (-149),yi 104,.bool true,yi 4,yi 8,yi 1,.func (.func 186) #[] #[],yi 2,yi 53,yi (-1074),yi 971,.bool true,yi 8,yi 11,yi 1,.func (.func 186) #[] #[],yi 2,yi 64,yi (-16445),yi 16320,.bool true,yi 10,yi 15,yi 1,.func (.func 187) #[] #[],yi 16,yi 6,yi (-70),yi 57,.bool false,yi 4,yi 7,yi 2,.func (.func 186) #[] #[],yi 16,yi 14,yi (-78),yi 49,.bool false,yi 8,yi 7,yi 2,.func (.func 186) #[] #[],yi 2,yi 24,yi (-151),yi 103,.bool false,yi 4,yi 8,yi 3,.func (.func 188) #[] #[],yi 2,yi 56,yi (-183),yi 71,.bool false,yi 8,yi 8,yi 3,.func (.func 188) #[] #[],yi 2,yi 53,yi (-1076),yi 970,.bool false,yi 8,yi 11,yi 3,.func (.func 188) #[] #[]] rfl rfl th (by kernel_rfl) (by simp[Value.oneCell']) ?_)
 change bodyPost _ _ _ _ _ (World.setCells (w.alloc (.cells Tryz.zeroCells214 214)) w.heap.size 0 Ar);obtain⟨hl,bR⟩:=HH.out;generalize World.setCells (w.alloc (.cells Tryz.zeroCells214 214)) w.heap.size 0 Ar=W at hl bR⊢;exact bodyPost_ret (v:= .agg Ar.toArray) (br results144 rfl hl) rfl ⟨rfl,bR⟩
theorem lR (n:Int)(w:World)(h:dK n=0):yC 111 #[yi n] w (tC w 0 6):=by
 have hf:=jk n;rw[h] at hf;have HF:Hid _:=hf;clear hf h;have l0:=ah w (yzL 0 0 0 0 false 0 0 0) 124;have hsn:=gn;have b0:=af w (.cells (yzA 0 0 0 0 false 0 0 0) 124);have hl:=run_loadVar_mid (P:=Tryz.prog) _ w.heap.size 0 124 (tS 0) _ l0.range underlying124 rfl (by kernel_rfl);have HH:Hid (_∧_):=⟨hl,b0⟩;clear hl b0 l0
 go_enter func111,ntmps111
 go_wp2_with fail
 refine(HF.out _).mono ?_;rintro z w' ⟨rfl,rfl⟩
 go_wp2
 obtain⟨hl,bR⟩:=HH.out;exact bodyPost_ret (aj results111 rfl rfl hl) rfl ⟨rfl,bR⟩
theorem kC (k R D L G sz ex fam c:Int)(gr:Bool)(F:Nat)(A:Value)(w:World)(hc:(c==0)=false)
  (HF: ∀w1,yC 38 #[yi k] w1 fun z w'=>z= .returned (yi c)∧w'=w1)
  (HL: ∀w1,yC 144 #[] w1 fun z w'=>z= .returned A∧yB w1 w')
  (hix: ∀W:World,(Instr.index 214 A (yi k)).run Tryz.prog W= .ok (ylV R D L G gr sz ex fam F) W):
  yC 111 #[yi k] w (yR w (.tuple #[ylV R D L G gr sz ex fam F,yi 0])):=by
 replace HF:Hid _:=HF;replace HL:Hid _:=HL;have hsf:=cD;have l0:=ah w (yzL 0 0 0 0 false 0 0 0) 124;have b0:=af w (.cells (yzA 0 0 0 0 false 0 0 0) 124)
 go_enter func111,ntmps111
 go_wp2_with fail
 refine(HF.out _).mono ?_;rintro z w' ⟨rfl,rfl⟩
 go_wp2_with fail
 refine(HL.out _).mono ?_;rintro z w2 ⟨rfl,b2⟩;have l2:=l0.l b2;have cR:au (((((((((w2.setCell ⟨w.heap.size,0,none⟩ (yi R)).setCell ⟨w.heap.size,1,none⟩ (yi D)).setCell ⟨w.heap.size,2,none⟩ (yi L)).setCell ⟨w.heap.size,3,none⟩ (yi G)).setCell ⟨w.heap.size,4,none⟩ (.bool gr)).setCell ⟨w.heap.size,5,none⟩ (yi sz)).setCell ⟨w.heap.size,6,none⟩ (yi ex)).setCell ⟨w.heap.size,7,none⟩ (yi fam)).setCell ⟨w.heap.size,8,none⟩ (.func (.func F) #[] #[])) w.heap.size 124 (ylL R D L G gr sz ex fam F):=(((((((((l2.set 0 (yi R)).set 1 (yi D)).set 2 (yi L)).set 3 (yi G)).set 4 (.bool gr)).set 5 (yi sz)).set 6 (yi ex)).set 7 (yi fam)).set 8 (.func (.func F) #[] #[]));have bR:=(((((((((ag w2 w.heap.size 0 (yi R)).trans (ag _ w.heap.size 1 (yi D))).trans (ag _ w.heap.size 2 (yi L))).trans (ag _ w.heap.size 3 (yi G))).trans (ag _ w.heap.size 4 (.bool gr))).trans (ag _ w.heap.size 5 (yi sz))).trans (ag _ w.heap.size 6 (yi ex))).trans (ag _ w.heap.size 7 (yi fam))).trans (ag _ w.heap.size 8 (.func (.func F) #[] #[]))).below (aa b0 b2) (Nat.le_refl _);have hl:=run_loadVar_mid (P:=Tryz.prog) _ w.heap.size 0 124 (ylL R D L G gr sz ex fam F) _ cR.range underlying124 rfl (by kernel_rfl);have HH:Hid (_∧_):=⟨hl,bR⟩;have f0:=l2.f 0;have f1:=l2.f 1;have f2:=l2.f 2;have f3:=l2.f 3;have f4:=l2.f 4;have f5:=l2.f 5;have f6:=l2.f 6;have f7:=l2.f 7;have f8:=l2.f 8;obtain⟨x0,x1,x2,x3,x4,x5,x6,x7,x8⟩:=l2.cs9;clear hl bR cR l0 l2 b0 b2 HF HL
 go_wp2
 obtain⟨hl,bR⟩:=HH.out;exact bodyPost_ret (aj results111 rfl rfl hl) rfl ⟨rfl,bR⟩
theorem IV (k:Nat)(g cap:Nat)(zs:List Nat)(w:World)(ho:ik w g zs)(hl:zs.length≤1000)(hev: ∃m,zs.length=2*m):
  yC (C9 k) #[.slice (some ⟨g,0,none⟩) zs.length cap] w fun e w'=>e= .returned (.tuple #[])∧ik w' g (jT k zs)∧w.grownBy w' (some g):=by
 unfold C9 jT
 by_cases h3:k=3
 ·rw[if_pos h3,if_pos h3]
  exact Uy g cap zs w ho (by omega)
 ·rw[if_neg h3,if_neg h3]
  by_cases h6:6≤k
  ·rw[if_pos h6,if_pos h6]
   obtain⟨m,hm⟩:=hev;exact T8 g cap m zs w ho (by omega) hm
  ·rw[if_neg h6,if_neg h6]
   refine(Ux _ w).mono ?_;rintro z w1 ⟨rfl,rfl⟩;exact⟨rfl,ho,ib _ _⟩
theorem afp (n er:Int)(her:er≠0)(s:ByteArray)(w:World)
  (HG:yJ 92 #[yi n] (.tuple #[ygV 0 0 0 0 false,yi er])):
  yC 44 #[yi n,.string s] w (Ys w 0 false 0 0 ⟨false,0,0⟩ er):=by
 replace HG:Hid _:=HG;have he:(er==0)=false:=by simpa using her
 clear her;have bv:=af w (.cells (yvA 0 false yN 0) 66);have bx:=af (w.alloc (.cells (yvA 0 false yN 0) 66)) (.cells (ydA false yN 0) 95);have v0:=(ah w (yvL 0 false yN 0) 66).l bx;have x0:=ah (w.alloc (.cells (yvA 0 false yN 0) 66)) (ydL false yN 0) 95;have b0:=aa bv bx;rw[World.size_alloc] at x0;clear bv bx
 go_enter func44,ntmps44
 go_upto_region 1 with fail
 generalize(w.alloc (.cells (yvA 0 false yN 0) 66)).alloc (.cells (ydA false yN 0) 95)=W0 at v0 x0 b0⊢
 go_wp2_with fail
 refine(HG.out _).mono ?_;rintro z w1 ⟨rfl,b1⟩;have bg:=af w1 (.cells (ygA 0 0 0 0 false) 40);have v1:=(v0.l b1).l bg;have x1:=(x0.l b1).l bg;have b01:=aa (aa b0 b1) bg
 go_upto_region 3 with fail
 generalize w1.alloc (.cells (ygA 0 0 0 0 false) 40)=W1 at v1 x1 b01⊢;clear v0 x0 b0 b1 bg HG;have cV:au (((((((W1.setCell ⟨w.heap.size,0,none⟩ (yi 0)).setCell ⟨w.heap.size,1,none⟩ (.bool false)).setCell ⟨w.heap.size,2,none⟩ yN).setCell ⟨w.heap.size,3,none⟩ (yi 0)).setCell ⟨w.heap.size+1,0,none⟩ (.bool false)).setCell ⟨w.heap.size+1,1,none⟩ yN).setCell ⟨w.heap.size+1,2,none⟩ (yi 0)) w.heap.size 66 (yvL 0 false yN 0):=(((((((v1.set 0 (yi 0)).set 1 (.bool false)).set 2 yN).set 3 (yi 0)).off (show w.heap.size+1≠w.heap.size by omega) 0 (.bool false)).off (show w.heap.size+1≠w.heap.size by omega) 1 yN).off (show w.heap.size+1≠w.heap.size by omega) 2 (yi 0))
 have cX:au (((((((W1.setCell ⟨w.heap.size,0,none⟩ (yi 0)).setCell ⟨w.heap.size,1,none⟩ (.bool false)).setCell ⟨w.heap.size,2,none⟩ yN).setCell ⟨w.heap.size,3,none⟩ (yi 0)).setCell ⟨w.heap.size+1,0,none⟩ (.bool false)).setCell ⟨w.heap.size+1,1,none⟩ yN).setCell ⟨w.heap.size+1,2,none⟩ (yi 0)) (w.heap.size+1) 95 (ydL false yN 0):=(((((((x1.off (show w.heap.size≠w.heap.size+1 by omega) 0 (yi 0)).off (show w.heap.size≠w.heap.size+1 by omega) 1 (.bool false)).off (show w.heap.size≠w.heap.size+1 by omega) 2 yN).off (show w.heap.size≠w.heap.size+1 by omega) 3 (yi 0)).set 0 (.bool false)).set 1 yN).set 2 (yi 0))
 have cX0:=((((x1.off (show w.heap.size≠w.heap.size+1 by omega) 0 (yi 0)).off (show w.heap.size≠w.heap.size+1 by omega) 1 (.bool false)).off (show w.heap.size≠w.heap.size+1 by omega) 2 yN).off (show w.heap.size≠w.heap.size+1 by omega) 3 (yi 0))
 have bu1:=(((ag W1 w.heap.size 0 (yi 0)).trans (ag _ w.heap.size 1 (.bool false))).trans (ag _ w.heap.size 2 yN)).trans (ag _ w.heap.size 3 (yi 0));have bu2:=((ag ((((W1.setCell ⟨w.heap.size,0,none⟩ (yi 0)).setCell ⟨w.heap.size,1,none⟩ (.bool false)).setCell ⟨w.heap.size,2,none⟩ yN).setCell ⟨w.heap.size,3,none⟩ (yi 0)) (w.heap.size+1) 0 (.bool false)).trans (ag _ (w.heap.size+1) 1 yN)).trans (ag _ (w.heap.size+1) 2 (yi 0));have bR:=bu2.below (bu1.below b01 (Nat.le_refl _)) (by omega);have hl1:=run_loadVar_mid (P:=Tryz.prog) _ w.heap.size 0 66 (yvL 0 false yN 0) _ cV.range underlying66 rfl (by kernel_rfl);have hl2:=run_loadVar_mid (P:=Tryz.prog) _ (w.heap.size+1) 0 95 (ydL false yN 0) _ cX.range underlying95 rfl (by kernel_rfl);have HH:Hid (_∧_∧_):=⟨hl1,hl2,bR⟩;clear hl1 hl2 bR bu1 bu2 cV cX cX0;obtain⟨a0,a1,a2,a3⟩:=v1.cs4;obtain⟨y0,y1,y2⟩:=x1.cs3;have f0:=v1.f 0;have f1:=v1.f 1;have f2:=v1.f 2;have f3:=v1.f 3;have g0:=x1.f 0;have g1:=x1.f 1;have g2:=x1.f 2;clear v1 x1 b01
 go_wp2
 obtain⟨hl1,hl2,bR⟩:=HH.out;exact bodyPost_ret (kg results44 rfl rfl rfl hl1 hl2) rfl ⟨_,_,rfl,aN _ _,aN _ _,(fun _ _ _ h=>by cases h),bR⟩
theorem afq (n er:Int)(her:er≠0)(R D L G c p:Int)(gr ng:Bool)(m:Nat)(s:ByteArray)(w:World)
  (HG:yJ 92 #[yi n] (.tuple #[ygV R D L G gr,yi 0]))
  (HD: ∀w1,yC 26 #[yi n,.string s] w1 (eP w1 c ng m p er)):
  yC 44 #[yi n,.string s] w (Ys w 0 false 0 0 ⟨false,0,0⟩ er):=by
 replace HG:Hid _:=HG;replace HD:Hid _:=HD;have he:(er==0)=false:=by simpa using her
 clear her;have bv:=af w (.cells (yvA 0 false yN 0) 66);have bx:=af (w.alloc (.cells (yvA 0 false yN 0) 66)) (.cells (ydA false yN 0) 95);have v0:=(ah w (yvL 0 false yN 0) 66).l bx;have x0:=ah (w.alloc (.cells (yvA 0 false yN 0) 66)) (ydL false yN 0) 95;have b0:=aa bv bx;rw[World.size_alloc] at x0;clear bv bx
 go_enter func44,ntmps44
 go_upto_region 1 with fail
 generalize(w.alloc (.cells (yvA 0 false yN 0) 66)).alloc (.cells (ydA false yN 0) 95)=W0 at v0 x0 b0⊢
 go_wp2_with fail
 refine(HG.out _).mono ?_;rintro z w1 ⟨rfl,b1⟩;have bg:=af w1 (.cells (ygA R D L G gr) 40);have vz:=(v0.l b1).l bg;have xz:=(x0.l b1).l bg;have bz:=aa (aa b0 b1) bg
 go_upto_region 4 with fail
 generalize w1.alloc (.cells (ygA R D L G gr) 40)=WG at vz xz bz⊢;clear v0 x0 b0 b1 bg HG
 go_wp2_with fail
 refine(HD.out _).mono ?_;rintro z w2 ⟨vv,rfl,r2,b2⟩;obtain⟨vo,vc,hv⟩:=r2.shape;subst hv;have bl:=af w2 (.cells (yvA c ng (yT vo m vc) p) 66);have v1:=(vz.l b2).l bl;have x1:=(xz.l b2).l bl;have b01:=aa (aa bz b2) bl
 go_upto_region 6 with fail
 generalize w2.alloc (.cells (yvA c ng (yT vo m vc) p) 66)=W1 at v1 x1 b01⊢;clear vz xz bz bl b2 r2 HD;have cV:au (((((((W1.setCell ⟨w.heap.size,0,none⟩ (yi 0)).setCell ⟨w.heap.size,1,none⟩ (.bool false)).setCell ⟨w.heap.size,2,none⟩ yN).setCell ⟨w.heap.size,3,none⟩ (yi 0)).setCell ⟨w.heap.size+1,0,none⟩ (.bool false)).setCell ⟨w.heap.size+1,1,none⟩ yN).setCell ⟨w.heap.size+1,2,none⟩ (yi 0)) w.heap.size 66 (yvL 0 false yN 0):=(((((((v1.set 0 (yi 0)).set 1 (.bool false)).set 2 yN).set 3 (yi 0)).off (show w.heap.size+1≠w.heap.size by omega) 0 (.bool false)).off (show w.heap.size+1≠w.heap.size by omega) 1 yN).off (show w.heap.size+1≠w.heap.size by omega) 2 (yi 0))
 have cX:au (((((((W1.setCell ⟨w.heap.size,0,none⟩ (yi 0)).setCell ⟨w.heap.size,1,none⟩ (.bool false)).setCell ⟨w.heap.size,2,none⟩ yN).setCell ⟨w.heap.size,3,none⟩ (yi 0)).setCell ⟨w.heap.size+1,0,none⟩ (.bool false)).setCell ⟨w.heap.size+1,1,none⟩ yN).setCell ⟨w.heap.size+1,2,none⟩ (yi 0)) (w.heap.size+1) 95 (ydL false yN 0):=(((((((x1.off (show w.heap.size≠w.heap.size+1 by omega) 0 (yi 0)).off (show w.heap.size≠w.heap.size+1 by omega) 1 (.bool false)).off (show w.heap.size≠w.heap.size+1 by omega) 2 yN).off (show w.heap.size≠w.heap.size+1 by omega) 3 (yi 0)).set 0 (.bool false)).set 1 yN).set 2 (yi 0))
 have cX0:=((((x1.off (show w.heap.size≠w.heap.size+1 by omega) 0 (yi 0)).off (show w.heap.size≠w.heap.size+1 by omega) 1 (.bool false)).off (show w.heap.size≠w.heap.size+1 by omega) 2 yN).off (show w.heap.size≠w.heap.size+1 by omega) 3 (yi 0))
 have bu1:=(((ag W1 w.heap.size 0 (yi 0)).trans (ag _ w.heap.size 1 (.bool false))).trans (ag _ w.heap.size 2 yN)).trans (ag _ w.heap.size 3 (yi 0));have bu2:=((ag ((((W1.setCell ⟨w.heap.size,0,none⟩ (yi 0)).setCell ⟨w.heap.size,1,none⟩ (.bool false)).setCell ⟨w.heap.size,2,none⟩ yN).setCell ⟨w.heap.size,3,none⟩ (yi 0)) (w.heap.size+1) 0 (.bool false)).trans (ag _ (w.heap.size+1) 1 yN)).trans (ag _ (w.heap.size+1) 2 (yi 0));have bR:=bu2.below (bu1.below b01 (Nat.le_refl _)) (by omega);have hl1:=run_loadVar_mid (P:=Tryz.prog) _ w.heap.size 0 66 (yvL 0 false yN 0) _ cV.range underlying66 rfl (by kernel_rfl);have hl2:=run_loadVar_mid (P:=Tryz.prog) _ (w.heap.size+1) 0 95 (ydL false yN 0) _ cX.range underlying95 rfl (by kernel_rfl);have HH:Hid (_∧_∧_):=⟨hl1,hl2,bR⟩;clear hl1 hl2 bR bu1 bu2 cV cX cX0;obtain⟨a0,a1,a2,a3⟩:=v1.cs4;obtain⟨y0,y1,y2⟩:=x1.cs3;have f0:=v1.f 0;have f1:=v1.f 1;have f2:=v1.f 2;have f3:=v1.f 3;have g0:=x1.f 0;have g1:=x1.f 1;have g2:=x1.f 2;clear v1 x1 b01
 go_wp2
 obtain⟨hl1,hl2,bR⟩:=HH.out;exact bodyPost_ret (kg results44 rfl rfl rfl hl1 hl2) rfl ⟨_,_,rfl,aN _ _,aN _ _,(fun _ _ _ h=>by cases h),bR⟩
theorem tread_many (tx:ByteArray)(w:World)(h:400<tx.size):
  yC 30 #[.string tx] w (yR w (.tuple #[.agg #[.bool false,.string ⟨#[]⟩,yi 0],yi 2])):=by
 obtain⟨W3,hW4,q1,b2⟩:=cA w [.bool false,.string ⟨#[]⟩,yi 0] 74;replace hW4:Hid _:=hW4
 go_enter func30,ntmps30
 go_upto_region 1 with fail
 rw[hW4.out];clear hW4;have hf:=afy (P:=Tryz.prog) q1 b2 (by omega) underlying74 rfl (by kernel_rfl) (.bool false) (.string ⟨#[]⟩) (yi 0);have HH:Hid (_∧_):=⟨hf.1,hf.2.1⟩;obtain⟨⟨z0,z1,z2⟩,y0,y1,y2⟩:=afA q1;clear hf q1 b2
 go_wp2
 obtain⟨hl,bR⟩:=HH.out;exact bodyPost_ret (aj results30 rfl rfl hl) rfl ⟨rfl,bR⟩
theorem kB (R D L G:Int)(gr s:Bool)(ao:Option Addr)(ca:Nat)(xs:List Nat)(p:Int)(x1 x2 x3:Bool)(w:World)(hr:Rd w .u32 (.slice ao xs.length ca) xs)(sa:Dg.Small 4294967296 xs)(hT:Tab w):
  yC 133 #[ypV s (.slice ao xs.length ca) p x1 x2 x3,ygV R D L G gr] w (gR w (cC (ix xs p R D L G) ⟨s,Dg.vl 4294967296 xs,(ai R:Int)*p⟩)):=by
 obtain⟨⟨⟨rs,rn,re⟩,c⟩,hrr⟩: ∃r,cC (ix xs p R D L G) ⟨s,Dg.vl 4294967296 xs,(ai R:Int)*p⟩=r:=⟨_,rfl⟩;have herr: ∀k,ix xs p R D L G=k→ ¬k=0→rs=false∧rn=0∧re=0∧c=k:=fun k h1 h2=>by
  rw[h1,Xw h2] at hrr;simp only[Prod.mk.injEq,ak.mk.injEq] at hrr;exact⟨hrr.1.1.symm,hrr.1.2.1.symm,hrr.1.2.2.symm,hrr.2.symm⟩
 rw[hrr];refine Zr R D L G gr s ao _ ca p x1 x2 x3 (ai R) (chk xs) (bk R D L G) c (eJ 20000 p) rs rn re w ?_ ?_ ?_ ?_ ?_ ?_ ?_ ?_
 ·intro h
  exact herr _ (if_neg h) h
 ·intro h h2
  exact herr _ ((if_pos h).trans (if_neg h2)) h2
 ·intro h h2 h3
  exact herr 3 ((if_pos h).trans ((if_pos h2).trans (if_pos h3))) (by decide)
 ·intro w1 b
  refine(jC _ xs w1 (hr.l b)).mono ?_;rintro z w' ⟨rfl,rfl⟩;exact⟨rfl,Below.refl _ _⟩
 ·intro w1
  exact vE R D L G gr w1
 ·intro w1
  exact nK p 20000 w1 (by omega) (by omega)
 ·intro h h2 h3 w1
  have:=wS (R:=R) (A8 h3);exact CW R D L G gr s ao _ ca p w1 ⟨by omega,by omega⟩
 ·intro h h2 h3 w1 b
  have hp:=wS (R:=R) (A8 h3);obtain⟨n1,l1⟩:=aF h;have x1:(Dg.dg 4294967296 (Dg.vl 4294967296 xs)).length≤1200:=by rw[←Dg.eq_dg 4294967296 (by omega) xs _ sa n1 rfl];exact l1
  rw[kA h h2 h3] at hrr;rw[←hrr];exact kL _ _ w1 (jw (hr.l b) sa n1) (by simp only;omega) ⟨by simp only;omega,by simp only;omega⟩ (hT.l b) (by have:=gZ (Dg.vl 4294967296 xs) 1200 x1;simp only;omega)
theorem LX (n:Int)(c p:Int)(ng:Bool)(ao:Option Addr)(dn dc:Nat)(w:World)
  (HL:yJ 111 #[yi n] (.tuple #[yzV 0 0 0 0 false 0 0 0,yi 6])):
  yC 58 #[yi n,yvV c ng (.slice ao dn dc) p] w (yR w (.tuple #[.string ⟨#[]⟩,yi 6])):=by
 have hsf:=cD;have hsn:=gn;have m0:=ah w (yvL c ng (.slice ao dn dc) p) 66;have b0:=af w (.cells (yvA c ng (.slice ao dn dc) p) 66);have HL':Hid _:=HL;clear HL
 go_enter func58,ntmps58
 go_wp2_with fail
 refine(HL'.out _).mono ?_;rintro z w1 ⟨rfl,b1⟩;have bq:=af w1 (.cells (yzA 0 0 0 0 false 0 0 0) 124);have m1:=(m0.l b1).l bq;have q1:=ah w1 (yzL 0 0 0 0 false 0 0 0) 124;have b01:=aa (aa b0 b1) bq;obtain⟨u0,u1,u2,u3⟩:=m1.cs4;obtain⟨s0,s1,s2,s3,s4,s5,s6,s7,s8⟩:=q1.cs9;clear m0 b0 b1 bq HL'
 go_wp2
 go_ret2
 exact⟨rfl,b01⟩
theorem aaS (n:Int)(R D L G fam:Int)(gr:Bool)(sz ex:Nat)(F:Nat)(c p:Int)(ng:Bool)(ao:Option Addr)(dn dc:Nat)(w:World)
  (HL:yJ 111 #[yi n] (.tuple #[ylV R D L G gr sz ex fam F,yi 0])) (hc:c<1):
  yC 58 #[yi n,yvV c ng (.slice ao dn dc) p] w (yR w (.tuple #[.string ⟨#[]⟩,yi 6])):=by
 have hsf:=cD;have hsn:=gn;have m0:=ah w (yvL c ng (.slice ao dn dc) p) 66;have b0:=af w (.cells (yvA c ng (.slice ao dn dc) p) 66);have HL':Hid _:=HL;clear HL
 go_enter func58,ntmps58
 go_wp2_with fail
 refine(HL'.out _).mono ?_;rintro z w1 ⟨rfl,b1⟩;have bq:=af w1 (.cells (ylA R D L G gr sz ex fam F) 124);have m1:=(m0.l b1).l bq;have q1:=ah w1 (ylL R D L G gr sz ex fam F) 124;have b01:=aa (aa b0 b1) bq;obtain⟨u0,u1,u2,u3⟩:=m1.cs4;obtain⟨s0,s1,s2,s3,s4,s5,s6,s7,s8⟩:=q1.cs9;clear m0 b0 b1 bq HL'
 go_wp2
 go_ret2
 exact⟨rfl,b01⟩
theorem Xj (n:Int)(R D L G fam:Int)(gr:Bool)(sz ex:Nat)(F:Nat)(c p:Int)(ng:Bool)(ao:Option Addr)(dn dc:Nat)(w:World)
  (HL:yJ 111 #[yi n] (.tuple #[ylV R D L G gr sz ex fam F,yi 0])) (hc:5<c):
  yC 58 #[yi n,yvV c ng (.slice ao dn dc) p] w (yR w (.tuple #[.string ⟨#[]⟩,yi 6])):=by
 have hc1: ¬c<1:=by omega
 have hsf:=cD;have hsn:=gn;have m0:=ah w (yvL c ng (.slice ao dn dc) p) 66;have b0:=af w (.cells (yvA c ng (.slice ao dn dc) p) 66);have HL':Hid _:=HL;clear HL
 go_enter func58,ntmps58
 go_wp2_with fail
 refine(HL'.out _).mono ?_;rintro z w1 ⟨rfl,b1⟩;have bq:=af w1 (.cells (ylA R D L G gr sz ex fam F) 124);have m1:=(m0.l b1).l bq;have q1:=ah w1 (ylL R D L G gr sz ex fam F) 124;have b01:=aa (aa b0 b1) bq;obtain⟨u0,u1,u2,u3⟩:=m1.cs4;obtain⟨s0,s1,s2,s3,s4,s5,s6,s7,s8⟩:=q1.cs9;clear m0 b0 b1 bq HL'
 go_wp2
 go_ret2
 exact⟨rfl,b01⟩
theorem EF (n:Int)(R D L G fam:Int)(gr:Bool)(sz ex:Nat)(F:Nat)(c p:Int)(ng:Bool)(ao:Option Addr)(dn dc:Nat)(w:World)
  (HL:yJ 111 #[yi n] (.tuple #[ylV R D L G gr sz ex fam F,yi 0]))
  (nc:Int) (HN:yH w 112 #[.slice ao dn dc] (yi nc)) (h1:1≤c) (h5:c≤5) (hn:nc≠0):
  yC 58 #[yi n,yvV c ng (.slice ao dn dc) p] w (yR w (.tuple #[.string ⟨#[]⟩,yi nc])):=by
 have HN':Hid _:=HN;clear HN;have hc1: ¬c<1:=by omega
 have hc5: ¬5<c:=by omega
 have hnb:(nc==0)=false:=by simpa using hn
 clear hn;have hsf:=cD;have hsn:=gn;have m0:=ah w (yvL c ng (.slice ao dn dc) p) 66;have b0:=af w (.cells (yvA c ng (.slice ao dn dc) p) 66);have HL':Hid _:=HL;clear HL
 go_enter func58,ntmps58
 go_wp2_with fail
 refine(HL'.out _).mono ?_;rintro z w1 ⟨rfl,b1⟩;have bq:=af w1 (.cells (ylA R D L G gr sz ex fam F) 124);have m1:=(m0.l b1).l bq;have q1:=ah w1 (ylL R D L G gr sz ex fam F) 124;have b01:=aa (aa b0 b1) bq;obtain⟨u0,u1,u2,u3⟩:=m1.cs4;obtain⟨s0,s1,s2,s3,s4,s5,s6,s7,s8⟩:=q1.cs9;clear m0 b0 b1 bq HL'
 go_wp2_with fail
 refine(HN'.out _ b01).mono ?_;rintro z w2 ⟨rfl,b2⟩;have m2:=m1.l b2;have q2:=q1.l b2;have b02:=aa b01 b2;obtain⟨v0,v1,v2,v3⟩:=m2.cs4;obtain⟨t0,t1,t2,t3,t4,t5,t6,t7,t8⟩:=q2.cs9
 go_wp2
 go_ret2
 exact⟨rfl,b02⟩
theorem Ip (n:Int)(R D L G fam:Int)(gr:Bool)(sz ex:Nat)(F:Nat)(c p:Int)(ng:Bool)(ao:Option Addr)(dn dc:Nat)(w:World)
  (HL:yJ 111 #[yi n] (.tuple #[ylV R D L G gr sz ex fam F,yi 0]))
  (nc:Int) (HN:yH w 112 #[.slice ao dn dc] (yi nc))
  (st:ByteArray) (er:Int) (HO:yJ 114 #[ylV R D L G gr sz ex fam F,yvV c ng (.slice ao dn dc) p] (.tuple #[.string st,yi er])) (h1:1≤c) (h5:c≤5) (h2:c≠2) (hn:nc=0):
  yC 58 #[yi n,yvV c ng (.slice ao dn dc) p] w (yR w (.tuple #[.string st,yi er])):=by
 subst hn;have HN':Hid _:=HN;clear HN;have hc1: ¬c<1:=by omega
 have hc5: ¬5<c:=by omega
 have HO':Hid _:=HO;clear HO;have hcb:(c==2)=false:=by simpa using h2
 clear h2;have hsf:=cD;have hsn:=gn;have m0:=ah w (yvL c ng (.slice ao dn dc) p) 66;have b0:=af w (.cells (yvA c ng (.slice ao dn dc) p) 66);have HL':Hid _:=HL;clear HL
 go_enter func58,ntmps58
 go_wp2_with fail
 refine(HL'.out _).mono ?_;rintro z w1 ⟨rfl,b1⟩;have bq:=af w1 (.cells (ylA R D L G gr sz ex fam F) 124);have m1:=(m0.l b1).l bq;have q1:=ah w1 (ylL R D L G gr sz ex fam F) 124;have b01:=aa (aa b0 b1) bq;obtain⟨u0,u1,u2,u3⟩:=m1.cs4;obtain⟨s0,s1,s2,s3,s4,s5,s6,s7,s8⟩:=q1.cs9;clear m0 b0 b1 bq HL'
 go_wp2_with fail
 refine(HN'.out _ b01).mono ?_;rintro z w2 ⟨rfl,b2⟩;have m2:=m1.l b2;have q2:=q1.l b2;have b02:=aa b01 b2;obtain⟨v0,v1,v2,v3⟩:=m2.cs4;obtain⟨t0,t1,t2,t3,t4,t5,t6,t7,t8⟩:=q2.cs9
 go_wp2_with fail
 refine(HO'.out _).mono ?_;rintro z w3 ⟨rfl,b3⟩
 go_wp2
 go_ret2
 exact⟨rfl,aa b02 b3⟩
theorem QD (n:Int)(R D L G fam:Int)(gr:Bool)(sz ex:Nat)(F:Nat)(p:Int)(ng:Bool)(ao:Option Addr)(dn dc:Nat)(w:World)
  (HL:yJ 111 #[yi n] (.tuple #[ylV R D L G gr sz ex fam F,yi 0]))
  (nc:Int) (HN:yH w 112 #[.slice ao dn dc] (yi nc))
  (st:ByteArray) (er:Int) (HO:yH w 113 #[ylV R D L G gr sz ex fam F,yvV 2 ng (.slice ao dn dc) p] (.tuple #[.string st,yi er])) (hn:nc=0):
  yC 58 #[yi n,yvV 2 ng (.slice ao dn dc) p] w (yR w (.tuple #[.string st,yi er])):=by
 subst hn;have HN':Hid _:=HN;clear HN;have HO':Hid _:=HO;clear HO;have hsf:=cD;have hsn:=gn;have m0:=ah w (yvL 2 ng (.slice ao dn dc) p) 66;have b0:=af w (.cells (yvA 2 ng (.slice ao dn dc) p) 66);have HL':Hid _:=HL;clear HL
 go_enter func58,ntmps58
 go_wp2_with fail
 refine(HL'.out _).mono ?_;rintro z w1 ⟨rfl,b1⟩;have bq:=af w1 (.cells (ylA R D L G gr sz ex fam F) 124);have m1:=(m0.l b1).l bq;have q1:=ah w1 (ylL R D L G gr sz ex fam F) 124;have b01:=aa (aa b0 b1) bq;obtain⟨u0,u1,u2,u3⟩:=m1.cs4;obtain⟨s0,s1,s2,s3,s4,s5,s6,s7,s8⟩:=q1.cs9;clear m0 b0 b1 bq HL'
 go_wp2_with fail
 refine(HN'.out _ b01).mono ?_;rintro z w2 ⟨rfl,b2⟩;have m2:=m1.l b2;have q2:=q1.l b2;have b02:=aa b01 b2;obtain⟨v0,v1,v2,v3⟩:=m2.cs4;obtain⟨t0,t1,t2,t3,t4,t5,t6,t7,t8⟩:=q2.cs9
 go_wp2_with fail
 refine(HO'.out _ b02).mono ?_;rintro z w3 ⟨rfl,b3⟩
 go_wp2
 go_ret2
 exact⟨rfl,aa b02 b3⟩
theorem Ba (k:Nat)(hk:1≤k∧k≤8)(wy:Int)(ng:Bool)(w:World):yC 174 #[dsk k wy,.bool ng] w (iT w 2 ng (rdN k^dgN k-1) (gsI k)):=by
 have hr:(rdN k=2∨rdN k=16)∧dgN k≤64:=by rcases bO hk with rfl|rfl|rfl|rfl|rfl|rfl|rfl|rfl<;>decide
 have hd:Dg.dg 4294967296 (rdN k)=[rdN k]:=by rcases hr.1 with h|h<;>rw[h]<;>rfl
 have hp:1≤rdN k^dgN k:=Nat.pow_pos (by omega);have hl:(Dg.dg 4294967296 (rdN k^dgN k)).length≤64:=by
  have h4:rdN k^dgN k<2^ (4*dgN k+1):=by
   have:rdN k^dgN k≤16^dgN k:=Nat.pow_le_pow_left (by omega) _;have e:(16:Nat)^dgN k=2^ (4*dgN k):=by rw[Nat.pow_mul]
   rw[Nat.pow_succ];have:=bG (4*dgN k);omega
  exact jq h4 (by omega)
 have hn:(Dg.dg 4294967296 (rdN k^dgN k)).length≠0:=fun h=>by
  have:=(Dg.dg_nil_iff 4294967296 (rdN k^dgN k) (by omega)).1 (List.length_eq_zero_iff.1 h);omega
 refine QM k wy (dK k) (rdN k) (dgN k) (lsI k) (gsI k) (decide (k≤3)) ng (rdN k) (rdN k^dgN k) w ?_ (fun q w1 _ hq=> ?_) (fun vo vc q w1 hv hq=> ?_)
 ·rcases hr.1 with h|h<;>rw[h]<;>rfl
 ·have h1:=aa0 hq
  rw[←hd] at h1;exact Iq _ (rdN k) (dgN k) 1 w1 h1 (by omega) (by omega) (by omega) (by omega)
 ·have:=zL (.slice vo (Dg.dg 4294967296 (rdN k^dgN k)).length vc) (.slice (some ⟨q,0,none⟩) 1 1) (Dg.dg 4294967296 (rdN k^dgN k)) [1] w1 hv (xD hq) (Dg.small_dg _ _ (by omega)) (Dg.small_cons.2 ⟨by omega,Dg.small_nil _ (by omega)⟩) (by omega) (by simp;omega) (by rw[Dg.vl_dg _ _ (by omega),show Dg.vl 4294967296 [1]=1 from rfl];exact hp)
  rwa [Dg.vl_dg _ _ (by omega),show Dg.vl 4294967296 [1]=1 from rfl] at this
theorem ratio_any (ng:Bool)(ds:ByteArray)(p:Int)(w:World)(hs:ds.size≤400)(hd: ∀i,i<ds.size→48≤byt ds i∧byt ds i≤57)(p1: -6000≤p)(p2:p≤6000)(hT:Tab w):
  yC 31 #[.agg #[.bool ng,.string ds,yi p]] w (RtR w (nrV (ng,ds,p)).1 (nrV (ng,ds,p)).2.1 (nrV (ng,ds,p)).2.2.1 (nrV (ng,ds,p)).2.2.2):=by
 have HD:=fun w1=>DF ds w1 (by omega) hd
 obtain⟨a,ha⟩: ∃a,a=1600:=⟨_,rfl⟩;have hN:pv ds ds.size<2^a:=Nat.lt_of_lt_of_le (Tb ds hd _ (Nat.le_refl _)) (Nat.le_trans (pow10_two _) (Nat.pow_le_pow_right (by omega) (by omega)));unfold nrV
 by_cases h0:pv ds ds.size=0
 ·rw[if_pos h0]
  refine(tratio_0 ng ds p w fun w1=>(HD w1).mono fun z w' h=> ?_).mono fun z w' h=> ?_
  ·obtain⟨v,e,o,b⟩:=h
   rw[h0] at o;obtain⟨ao,ac,hv⟩:=o.rd.shape;exact⟨ao,ac,by rw[e,hv];rfl,b⟩
  ·obtain⟨q,e,l,b⟩:=h
   exact⟨_,_,e,by rw[show Dg.dg 4294967296 0=[] from rfl];exact aN _ _,rd_one1 (l.c 0 rfl),b⟩
 rw[if_neg h0];obtain⟨m0,mlt⟩:=nrM_in (p:=p) h0 hN p2;have htz:=tz_bits m0 mlt;have hlen:(Dg.dg 4294967296 (nrM (pv ds ds.size) p).1).length≤613:=jq mlt (by omega);have hNl:(Dg.dg 4294967296 (pv ds ds.size)).length≤50:=jq hN (by omega);have hl0:0< (Dg.dg 4294967296 (pv ds ds.size)).length:=by
  rcases Nat.eq_zero_or_pos (Dg.dg 4294967296 (pv ds ds.size)).length with c|c
  ·exact absurd ((Dg.dg_nil_iff 4294967296 _ (by omega)).1 (List.length_eq_zero_iff.1 c)) h0
  ·exact c
 have HW: ∀mo mc w1,yB w w1→Rd w1 .u32 (.slice mo (Dg.dg 4294967296 (nrM (pv ds ds.size) p).1).length mc) (Dg.dg 4294967296 (nrM (pv ds ds.size) p).1)→yC 74 #[.slice mo (Dg.dg 4294967296 (nrM (pv ds ds.size) p).1).length mc] w1 (yR w1 (yi ((tz (nrM (pv ds ds.size) p).1:Nat):Int))):=fun mo mc w1 b hr=>by
  refine(Gl _ _ w1 hr (by omega) (hT.l b)).mono fun z w' h=> ?_
  obtain⟨h1,h2⟩:=h;rw[if_neg m0] at h1;subst h2;exact⟨h1,Below.refl _ _⟩
 have HS: ∀mo mc w1,Rd w1 .u32 (.slice mo (Dg.dg 4294967296 (nrM (pv ds ds.size) p).1).length mc) (Dg.dg 4294967296 (nrM (pv ds ds.size) p).1)→yC 75 #[.slice mo (Dg.dg 4294967296 (nrM (pv ds ds.size) p).1).length mc,yi (-((tz (nrM (pv ds ds.size) p).1:Nat):Int))] w1 (NmR w1 ((nrM (pv ds ds.size) p).1/2^tz (nrM (pv ds ds.size) p).1)):=fun mo mc w1 hr=>by
  have:=eO _ _ (-((tz (nrM (pv ds ds.size) p).1:Nat):Int)) w1 hr (Dg.small_dg _ _ (by omega)) (by omega) (by omega) (by omega);rw[Dg.vl_dg _ _ (by omega),shN_down] at this;exact this.mono fun _ _ h=>num_nmR h
 have hmt:IntKind.i64.wrap (-((tz (nrM (pv ds ds.size) p).1:Nat):Int))= -((tz (nrM (pv ds ds.size) p).1:Nat):Int):=IntWalk.i64_in _ ⟨by omega,by omega⟩;have hex:IntKind.i64.wrap (p+((tz (nrM (pv ds ds.size) p).1:Nat):Int))=p+((tz (nrM (pv ds ds.size) p).1:Nat):Int):=IntWalk.i64_in _ ⟨by omega,by omega⟩;have HD2:=fun w1=>(HD w1).mono fun _ _ h=>num_nmR h
 by_cases hp:0<p
 ·have eM:nrM (pv ds ds.size) p=(pv ds ds.size*5^p.toNat,1):=if_pos hp
  have HF: ∀w1,yC 72 #[yi p] w1 (NmR w1 (5^p.toNat)):=fun w1=>by
   have:=fives_any p.toNat w1 (by omega);rw[show((p.toNat:Nat):Int)=p by omega] at this
   exact this
  obtain⟨c,hc⟩: ∃c,c=18001:=⟨_,rfl⟩;have h5:5^p.toNat<2^c:=Nat.lt_of_le_of_lt (pow5_two _) (Nat.pow_lt_pow_right (by omega) (by omega));have h5l:(Dg.dg 4294967296 (5^p.toNat)).length≤563:=jq h5 (by omega);have HT: ∀xo xc fo fc w1,Rd w1 .u32 (.slice xo (Dg.dg 4294967296 (pv ds ds.size)).length xc) (Dg.dg 4294967296 (pv ds ds.size))→Rd w1 .u32 (.slice fo (Dg.dg 4294967296 (5^p.toNat)).length fc) (Dg.dg 4294967296 (5^p.toNat))→yC 71 #[.slice xo (Dg.dg 4294967296 (pv ds ds.size)).length xc,.slice fo (Dg.dg 4294967296 (5^p.toNat)).length fc] w1 (NmR w1 (nrM (pv ds ds.size) p).1):=fun xo xc fo fc w1 h1 h2=>by
   have:=qC _ _ _ _ w1 h1 h2 (Dg.small_dg _ _ (by omega)) (Dg.small_dg _ _ (by omega)) (by omega) (by omega);rw[Dg.vl_dg _ _ (by omega),Dg.vl_dg _ _ (by omega)] at this;rw[eM];exact this.mono fun _ _ h=>num_nmR h
  have:=tratio_up ng ds p _ _ _ _ _ _ _ w hl0 hmt hex hp HD2 HF HT HW HS;rw[show(nrM (pv ds ds.size) p).2=1 by rw[eM]]
  exact this
 ·have eM:nrM (pv ds ds.size) p=((redF (pv ds ds.size) (-p).toNat).1,5^ (redF (pv ds ds.size) (-p).toNat).2):=if_neg hp
  have HR: ∀xo xc w1,Rd w1 .u32 (.slice xo (Dg.dg 4294967296 (pv ds ds.size)).length xc) (Dg.dg 4294967296 (pv ds ds.size))→yC 73 #[.slice xo (Dg.dg 4294967296 (pv ds ds.size)).length xc,yi (-p)] w1 (TwR w1 (nrM (pv ds ds.size) p).1 (nrM (pv ds ds.size) p).2):=fun xo xc w1 h=>by
   have:=reduced_any xo _ xc _ (-p).toNat w1 h (by omega) (by omega);rw[show(((-p).toNat:Nat):Int)= -p by omega] at this
   rw[eM];exact this
  exact tratio_down ng ds p _ _ _ _ _ _ _ _ w hl0 hmt hex hp (IntWalk.i64_in _ ⟨by omega,by omega⟩) HD2 HR HW HS
end Go.Proofs.YtpgijbdgljkeeaaGreatDoor

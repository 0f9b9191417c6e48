/-
  Texts laid together: Dr1, Co12, Co20, Co21, Co16, Ar1, Read3, Gh5, Gh6, Ce5, Eb4, Nx2, Pa2, Ty4.
-/
import Derived.Test.YtlgkfdcmokchgaaGreatDoorUt13
import Derived.Test.YtlgkfdcmokchgaaGreatDoorUt21
import Derived.Test.YtlgkfdcmokchgaaGreatDoorUt25
import Derived.Test.YtlgkfdcmokchgaaGreatDoorUt27
set_option maxRecDepth 100000
set_option maxHeartbeats 6400000
namespace Go.Proofs.YtlgkfdcmokchgaaGreatDoor
open _root_.Go.Proofs.Tryz
open Go.RowKit
theorem di.near {w:World}{t:ak}{e:Ending}{w':World}(h:di w t e w'):dr w t e w':=by
 obtain⟨s,h1,h2,-,h3⟩:=h;exact⟨s,h1,h2,h3⟩
theorem iJ (v:Value)(t:ak)(w:World)(hv:Rv w v t)(hL:(Dg.dg 65536 t.n).length≤100000)(he1: -1000000≤t.e)(he2:t.e≤1000000):
  yC 30 #[v] w (dr w (bare t)):=
 (lA v t w hv hL he1 he2).mono fun _ _ h=>h.near
theorem QL (k:Nat)(hk:1≤k∧k≤8)(ng:Bool)(e f:Nat)(w:World)(hf:f<18446744073709551616)(he:e<65536):yC 99 #[.agg (tS k).toArray,yfV ng e f] w (yR w (.tuple #[.int .u64 ((iI k e f:Nat):Int),yi (ii k e)])):=by
 have hls: -100000≤lsI k∧lsI k≤100000:=by rcases bO hk with rfl|rfl|rfl|rfl|rfl|rfl|rfl|rfl<;>decide
 have hw1:IntKind.i64.wrap (lsI k+(e:Int))=lsI k+(e:Int):=IntWalk.i64_in _ ⟨by omega,by omega⟩;have hw2:IntKind.i64.wrap (lsI k+(e:Int)-1)=lsI k+(e:Int)-1:=IntWalk.i64_in _ ⟨by omega,by omega⟩;have ho:bits .or .u64 f (gW k:Int)=((f|||gW k:Nat):Int):=u64_or_nat f (gW k) hf (by rcases bO hk with rfl|rfl|rfl|rfl|rfl|rfl|rfl|rfl<;>decide)
 have HL:=fun w1=>xX k hk w1
 unfold iI ii
 by_cases hr:rdN k=16
 ·rw[if_pos hr,if_pos hr]
  rcases bO hk with rfl|rfl|rfl|rfl|rfl|rfl|rfl|rfl
  all_goals first|exact absurd hr (by decide)|exact Vi _ _ _ _ _ _ _ ng _ e f w hw1
 ·rw[if_neg hr,if_neg hr]
  by_cases h:e=0
  ·subst h
   rw[if_pos rfl,if_pos rfl]
   rcases bO hk with rfl|rfl|rfl|rfl|rfl|rfl|rfl|rfl
   all_goals first|exact absurd rfl hr|exact Zc _ _ _ _ _ _ _ ng _ f w
  ·rw[if_neg h,if_neg h]
   have h1:((e:Int)==0)=false:=by simp;omega
   rcases bO hk with rfl|rfl|rfl|rfl|rfl|rfl|rfl|rfl
   all_goals first|exact absurd rfl hr|exact Zd _ _ _ _ _ _ _ _ _ ng _ e f w h1 ho hw1 hw2 HL
theorem Ku (R D L G fam:Int)(gr:Bool)(sz ex:Nat)(F:Nat)(w:World):yC 130 #[ylV R D L G gr sz ex fam F,yi 1] w (yR w (.tuple #[yfV false 0 0,.bool true])):=by
 have hsf:=cD;have bf:=af (w.alloc (.cells (ylA R D L G gr sz ex fam F) 110)) (.cells (yfA false 0 0) 112);have l0:=(ah w (ylL R D L G gr sz ex fam F) 110).l bf;have m0:=ah (w.alloc (.cells (ylA R D L G gr sz ex fam F) 110)) (yfL false 0 0) 112;have b0:=aa (af w (.cells (ylA R D L G gr sz ex fam F) 110)) bf;rw[World.size_alloc] at m0;clear bf;obtain⟨x0,x1,x2,x3,x4,x5,x6,x7,x8⟩:=l0.cs9;obtain⟨u0,u1,u2⟩:=m0.cs3;have j0:=m0.f 0;have j1:=m0.f 1;have j2:=m0.f 2;have cR:=ah (w.alloc (.cells (ylA R D L G gr sz ex fam F) 110)) (yfL false 0 0) 112;rw[World.size_alloc] at cR;have bR:=aa (af w (.cells (ylA R D L G gr sz ex fam F) 110)) (af _ (.cells (yfA false 0 0) 112));have hl:=run_loadVar_mid (P:=Tryz.prog) _ (w.heap.size+1) 0 112 (yfL false 0 0) _ cR.range underlying112 rfl (by kernel_rfl);have HH:Hid (_∧_):=⟨hl,bR⟩;clear hl bR cR
 go_enter func130,ntmps130
 go_wp2
 obtain⟨hl,bR⟩:=HH.out;exact bodyPost_ret (aj results130 rfl rfl hl) rfl ⟨rfl,bR⟩
theorem MJ (R D L G fam:Int)(gr:Bool)(sz ex:Nat)(F:Nat)(w:World)(hfa:(fam==1)=false):yC 130 #[ylV R D L G gr sz ex fam F,yi 3] w (yR w (.tuple #[yfV false 0 0,.bool false])):=by
 have hsf:=cD;have bf:=af (w.alloc (.cells (ylA R D L G gr sz ex fam F) 110)) (.cells (yfA false 0 0) 112);have l0:=(ah w (ylL R D L G gr sz ex fam F) 110).l bf;have m0:=ah (w.alloc (.cells (ylA R D L G gr sz ex fam F) 110)) (yfL false 0 0) 112;have b0:=aa (af w (.cells (ylA R D L G gr sz ex fam F) 110)) bf;rw[World.size_alloc] at m0;clear bf;obtain⟨x0,x1,x2,x3,x4,x5,x6,x7,x8⟩:=l0.cs9;obtain⟨u0,u1,u2⟩:=m0.cs3;have j0:=m0.f 0;have j1:=m0.f 1;have j2:=m0.f 2;have cR:=ah (w.alloc (.cells (ylA R D L G gr sz ex fam F) 110)) (yfL false 0 0) 112;rw[World.size_alloc] at cR;have bR:=aa (af w (.cells (ylA R D L G gr sz ex fam F) 110)) (af _ (.cells (yfA false 0 0) 112));have hl:=run_loadVar_mid (P:=Tryz.prog) _ (w.heap.size+1) 0 112 (yfL false 0 0) _ cR.range underlying112 rfl (by kernel_rfl);have HH:Hid (_∧_):=⟨hl,bR⟩;clear hl bR cR
 go_enter func130,ntmps130
 go_wp2
 obtain⟨hl,bR⟩:=HH.out;exact bodyPost_ret (aj results130 rfl rfl hl) rfl ⟨rfl,bR⟩
theorem MK (R D L G fam:Int)(gr:Bool)(sz ex:Nat)(F:Nat)(w:World)(hfa:(fam==1)=false):yC 130 #[ylV R D L G gr sz ex fam F,yi 4] w (yR w (.tuple #[yfV false 0 0,.bool false])):=by
 have hsf:=cD;have bf:=af (w.alloc (.cells (ylA R D L G gr sz ex fam F) 110)) (.cells (yfA false 0 0) 112);have l0:=(ah w (ylL R D L G gr sz ex fam F) 110).l bf;have m0:=ah (w.alloc (.cells (ylA R D L G gr sz ex fam F) 110)) (yfL false 0 0) 112;have b0:=aa (af w (.cells (ylA R D L G gr sz ex fam F) 110)) bf;rw[World.size_alloc] at m0;clear bf;obtain⟨x0,x1,x2,x3,x4,x5,x6,x7,x8⟩:=l0.cs9;obtain⟨u0,u1,u2⟩:=m0.cs3;have j0:=m0.f 0;have j1:=m0.f 1;have j2:=m0.f 2;have cR:=ah (w.alloc (.cells (ylA R D L G gr sz ex fam F) 110)) (yfL false 0 0) 112;rw[World.size_alloc] at cR;have bR:=aa (af w (.cells (ylA R D L G gr sz ex fam F) 110)) (af _ (.cells (yfA false 0 0) 112));have hl:=run_loadVar_mid (P:=Tryz.prog) _ (w.heap.size+1) 0 112 (yfL false 0 0) _ cR.range underlying112 rfl (by kernel_rfl);have HH:Hid (_∧_):=⟨hl,bR⟩;clear hl bR cR
 go_enter func130,ntmps130
 go_wp2
 obtain⟨hl,bR⟩:=HH.out;exact bodyPost_ret (aj results130 rfl rfl hl) rfl ⟨rfl,bR⟩
theorem ML (R D L G fam:Int)(gr:Bool)(sz ex:Nat)(F:Nat)(w:World)(hfa:(fam==3)=false):yC 130 #[ylV R D L G gr sz ex fam F,yi 5] w (yR w (.tuple #[yfV false 0 0,.bool false])):=by
 have hsf:=cD;have bf:=af (w.alloc (.cells (ylA R D L G gr sz ex fam F) 110)) (.cells (yfA false 0 0) 112);have l0:=(ah w (ylL R D L G gr sz ex fam F) 110).l bf;have m0:=ah (w.alloc (.cells (ylA R D L G gr sz ex fam F) 110)) (yfL false 0 0) 112;have b0:=aa (af w (.cells (ylA R D L G gr sz ex fam F) 110)) bf;rw[World.size_alloc] at m0;clear bf;obtain⟨x0,x1,x2,x3,x4,x5,x6,x7,x8⟩:=l0.cs9;obtain⟨u0,u1,u2⟩:=m0.cs3;have j0:=m0.f 0;have j1:=m0.f 1;have j2:=m0.f 2;have cR:=ah (w.alloc (.cells (ylA R D L G gr sz ex fam F) 110)) (yfL false 0 0) 112;rw[World.size_alloc] at cR;have bR:=aa (af w (.cells (ylA R D L G gr sz ex fam F) 110)) (af _ (.cells (yfA false 0 0) 112));have hl:=run_loadVar_mid (P:=Tryz.prog) _ (w.heap.size+1) 0 112 (yfL false 0 0) _ cR.range underlying112 rfl (by kernel_rfl);have HH:Hid (_∧_):=⟨hl,bR⟩;clear hl bR cR
 go_enter func130,ntmps130
 go_wp2
 obtain⟨hl,bR⟩:=HH.out;exact bodyPost_ret (aj results130 rfl rfl hl) rfl ⟨rfl,bR⟩
theorem MM (R D L G fam:Int)(gr:Bool)(sz ex:Nat)(F:Nat)(w:World)(hfa:fam=3):yC 130 #[ylV R D L G gr sz ex fam F,yi 5] w (yR w (.tuple #[yfV true 0 0,.bool true])):=by
 subst hfa;have hsf:=cD;have bf:=af (w.alloc (.cells (ylA R D L G gr sz ex 3 F) 110)) (.cells (yfA false 0 0) 112);have l0:=(ah w (ylL R D L G gr sz ex 3 F) 110).l bf;have m0:=ah (w.alloc (.cells (ylA R D L G gr sz ex 3 F) 110)) (yfL false 0 0) 112;have b0:=aa (af w (.cells (ylA R D L G gr sz ex 3 F) 110)) bf;rw[World.size_alloc] at m0;clear bf;obtain⟨x0,x1,x2,x3,x4,x5,x6,x7,x8⟩:=l0.cs9;obtain⟨u0,u1,u2⟩:=m0.cs3;have j0:=m0.f 0;have j1:=m0.f 1;have j2:=m0.f 2;have cR:=ah (w.alloc (.cells (ylA R D L G gr sz ex 3 F) 110)) (yfL true 0 0) 112;rw[World.size_alloc] at cR;have bR:=aa (af w (.cells (ylA R D L G gr sz ex 3 F) 110)) (af _ (.cells (yfA true 0 0) 112));have hl:=run_loadVar_mid (P:=Tryz.prog) _ (w.heap.size+1) 0 112 (yfL true 0 0) _ cR.range underlying112 rfl (by kernel_rfl);have HH:Hid (_∧_):=⟨hl,bR⟩;clear hl bR cR
 go_enter func130,ntmps130
 go_wp2
 obtain⟨hl,bR⟩:=HH.out;exact bodyPost_ret (aj results130 rfl rfl hl) rfl ⟨rfl,bR⟩
def Fv (k c dn:Nat)(ng:Bool)(p:Int):ByteArray:=if qX k c dn ng p=0 then cF (kU k (pI k c||ng) (pg k c) (lS k c)) else⟨#[]⟩
theorem aab (R sz ex:Nat)(D L G fam:Int)(gr:Bool)(F:Nat)(ng:Bool)(e f:Nat)(w:World)
  (HC:yJ 96 #[ylV R D L G gr sz ex fam F,yfV ng e f] (yi 1)):
  yC 54 #[ylV R D L G gr sz ex fam F,yfV ng e f] w (iT w 1 ng 0 0):=by
 have hsf:=cD;have bl:=af w (.cells (ylA R D L G gr sz ex fam F) 110);have bf:=af (w.alloc (.cells (ylA R D L G gr sz ex fam F) 110)) (.cells (yfA ng e f) 112);have bz:=af ((w.alloc (.cells (ylA R D L G gr sz ex fam F) 110)).alloc (.cells (yfA ng e f) 112)) (.cells (yvA 0 false yN 0) 48);have l0:=((ah w (ylL R D L G gr sz ex fam F) 110).l bf).l bz;have m0:=(ah (w.alloc (.cells (ylA R D L G gr sz ex fam F) 110)) (yfL ng e f) 112).l bz;have v0:=ah ((w.alloc (.cells (ylA R D L G gr sz ex fam F) 110)).alloc (.cells (yfA ng e f) 112)) (yvL 0 false yN 0) 48;have b0:=aa (aa bl bf) bz;rw[World.size_alloc] at m0;rw[World.size_alloc,World.size_alloc] at v0;clear bl bf bz;have HC':Hid _:=HC;clear HC
 go_enter func54,ntmps54
 go_wp2_with fail
 refine(HC'.out _).mono ?_;rintro z w1 ⟨rfl,b1⟩;have bq:=af w1 (.cells (yvA 1 ng yN 0) 48);have m1:=(m0.l b1).l bq;have v1:=(v0.l b1).l bq;have q1:=ah w1 (yvL 1 ng yN 0) 48;have b01:=aa (aa b0 b1) bq;have hq3:w.heap.size+3≤w1.heap.size:=(v0.l b1).lt;have y0:=((m0.l b1).l (af w1 (.cells (yvA 1 false yN 0) 48))).c 0 rfl;obtain⟨z0,z1,z2,z3⟩:=v1.cs4;have j0:=v1.f 0;have j1:=v1.f 1;have j2:=v1.f 2;have j3:=v1.f 3;obtain⟨s0,s1,s2,s3⟩:=q1.cs4;have hne:w1.heap.size≠w.heap.size+1+1:=by omega
 have bu5:=(((ag (w1.alloc (.cells (yvA 1 ng yN 0) 48)) (w.heap.size+1+1) 0 (yi 1)).trans (ag _ (w.heap.size+1+1) 1 (.bool ng))).trans (ag _ (w.heap.size+1+1) 2 yN)).trans (ag _ (w.heap.size+1+1) 3 (yi 0));have cR:au (((((w1.alloc (.cells (yvA 1 ng yN 0) 48)).setCell ⟨w.heap.size+1+1,0,none⟩ (yi 1)).setCell ⟨w.heap.size+1+1,1,none⟩ (.bool ng)).setCell ⟨w.heap.size+1+1,2,none⟩ yN).setCell ⟨w.heap.size+1+1,3,none⟩ (yi 0)) (w.heap.size+1+1) 48 (yvL 1 ng yN 0):=(((v1.set 0 (yi 1)).set 1 (.bool ng)).set 2 yN).set 3 (yi 0);have bR:=bu5.below b01 (by omega);have hl:=run_loadVar_mid (P:=Tryz.prog) _ (w.heap.size+1+1) 0 48 (yvL 1 ng yN 0) _ cR.range underlying48 rfl (by kernel_rfl);have HH:Hid (_∧_):=⟨hl,bR⟩;clear hl bR cR bu5 b01 q1 v1 m1 l0 m0 v0 b0 b1 bq
 go_wp2
 obtain⟨hl,bR⟩:=HH.out;exact bodyPost_ret (br results54 rfl hl) rfl ⟨_,rfl,aN _ _,bR⟩
theorem aac (R sz ex:Nat)(D L G fam:Int)(gr:Bool)(F:Nat)(ng:Bool)(e f:Nat)(w:World)
  (HC:yJ 96 #[ylV R D L G gr sz ex fam F,yfV ng e f] (yi 3)):
  yC 54 #[ylV R D L G gr sz ex fam F,yfV ng e f] w (iT w 3 ng 0 0):=by
 have hsf:=cD;have bl:=af w (.cells (ylA R D L G gr sz ex fam F) 110);have bf:=af (w.alloc (.cells (ylA R D L G gr sz ex fam F) 110)) (.cells (yfA ng e f) 112);have bz:=af ((w.alloc (.cells (ylA R D L G gr sz ex fam F) 110)).alloc (.cells (yfA ng e f) 112)) (.cells (yvA 0 false yN 0) 48);have l0:=((ah w (ylL R D L G gr sz ex fam F) 110).l bf).l bz;have m0:=(ah (w.alloc (.cells (ylA R D L G gr sz ex fam F) 110)) (yfL ng e f) 112).l bz;have v0:=ah ((w.alloc (.cells (ylA R D L G gr sz ex fam F) 110)).alloc (.cells (yfA ng e f) 112)) (yvL 0 false yN 0) 48;have b0:=aa (aa bl bf) bz;rw[World.size_alloc] at m0;rw[World.size_alloc,World.size_alloc] at v0;clear bl bf bz;have HC':Hid _:=HC;clear HC
 go_enter func54,ntmps54
 go_wp2_with fail
 refine(HC'.out _).mono ?_;rintro z w1 ⟨rfl,b1⟩;have bq:=af w1 (.cells (yvA 3 ng yN 0) 48);have m1:=(m0.l b1).l bq;have v1:=(v0.l b1).l bq;have q1:=ah w1 (yvL 3 ng yN 0) 48;have b01:=aa (aa b0 b1) bq;have hq3:w.heap.size+3≤w1.heap.size:=(v0.l b1).lt;have y0:=((m0.l b1).l (af w1 (.cells (yvA 3 false yN 0) 48))).c 0 rfl;obtain⟨z0,z1,z2,z3⟩:=v1.cs4;have j0:=v1.f 0;have j1:=v1.f 1;have j2:=v1.f 2;have j3:=v1.f 3;obtain⟨s0,s1,s2,s3⟩:=q1.cs4;have hne:w1.heap.size≠w.heap.size+1+1:=by omega
 have bu5:=(((ag (w1.alloc (.cells (yvA 3 ng yN 0) 48)) (w.heap.size+1+1) 0 (yi 3)).trans (ag _ (w.heap.size+1+1) 1 (.bool ng))).trans (ag _ (w.heap.size+1+1) 2 yN)).trans (ag _ (w.heap.size+1+1) 3 (yi 0));have cR:au (((((w1.alloc (.cells (yvA 3 ng yN 0) 48)).setCell ⟨w.heap.size+1+1,0,none⟩ (yi 3)).setCell ⟨w.heap.size+1+1,1,none⟩ (.bool ng)).setCell ⟨w.heap.size+1+1,2,none⟩ yN).setCell ⟨w.heap.size+1+1,3,none⟩ (yi 0)) (w.heap.size+1+1) 48 (yvL 3 ng yN 0):=(((v1.set 0 (yi 3)).set 1 (.bool ng)).set 2 yN).set 3 (yi 0);have bR:=bu5.below b01 (by omega);have hl:=run_loadVar_mid (P:=Tryz.prog) _ (w.heap.size+1+1) 0 48 (yvL 3 ng yN 0) _ cR.range underlying48 rfl (by kernel_rfl);have HH:Hid (_∧_):=⟨hl,bR⟩;clear hl bR cR bu5 b01 q1 v1 m1 l0 m0 v0 b0 b1 bq
 go_wp2
 obtain⟨hl,bR⟩:=HH.out;exact bodyPost_ret (br results54 rfl hl) rfl ⟨_,rfl,aN _ _,bR⟩
theorem aad (R sz ex:Nat)(D L G fam:Int)(gr:Bool)(F:Nat)(ng:Bool)(e f:Nat)(w:World)
  (HC:yJ 96 #[ylV R D L G gr sz ex fam F,yfV ng e f] (yi 4)):
  yC 54 #[ylV R D L G gr sz ex fam F,yfV ng e f] w (iT w 4 false 0 0):=by
 have hsf:=cD;have bl:=af w (.cells (ylA R D L G gr sz ex fam F) 110);have bf:=af (w.alloc (.cells (ylA R D L G gr sz ex fam F) 110)) (.cells (yfA ng e f) 112);have bz:=af ((w.alloc (.cells (ylA R D L G gr sz ex fam F) 110)).alloc (.cells (yfA ng e f) 112)) (.cells (yvA 0 false yN 0) 48);have l0:=((ah w (ylL R D L G gr sz ex fam F) 110).l bf).l bz;have m0:=(ah (w.alloc (.cells (ylA R D L G gr sz ex fam F) 110)) (yfL ng e f) 112).l bz;have v0:=ah ((w.alloc (.cells (ylA R D L G gr sz ex fam F) 110)).alloc (.cells (yfA ng e f) 112)) (yvL 0 false yN 0) 48;have b0:=aa (aa bl bf) bz;rw[World.size_alloc] at m0;rw[World.size_alloc,World.size_alloc] at v0;clear bl bf bz;have HC':Hid _:=HC;clear HC
 go_enter func54,ntmps54
 go_wp2_with fail
 refine(HC'.out _).mono ?_;rintro z w1 ⟨rfl,b1⟩;have bq:=af w1 (.cells (yvA 4 false yN 0) 48);have m1:=(m0.l b1).l bq;have v1:=(v0.l b1).l bq;have q1:=ah w1 (yvL 4 false yN 0) 48;have b01:=aa (aa b0 b1) bq;have hq3:w.heap.size+3≤w1.heap.size:=(v0.l b1).lt;have y0:=((m0.l b1).l (af w1 (.cells (yvA 4 false yN 0) 48))).c 0 rfl;obtain⟨z0,z1,z2,z3⟩:=v1.cs4;have j0:=v1.f 0;have j1:=v1.f 1;have j2:=v1.f 2;have j3:=v1.f 3;obtain⟨s0,s1,s2,s3⟩:=q1.cs4;have hne:w1.heap.size≠w.heap.size+1+1:=by omega
 have bu5:=(((ag (w1.alloc (.cells (yvA 4 false yN 0) 48)) (w.heap.size+1+1) 0 (yi 4)).trans (ag _ (w.heap.size+1+1) 1 (.bool false))).trans (ag _ (w.heap.size+1+1) 2 yN)).trans (ag _ (w.heap.size+1+1) 3 (yi 0));have cR:au (((((w1.alloc (.cells (yvA 4 false yN 0) 48)).setCell ⟨w.heap.size+1+1,0,none⟩ (yi 4)).setCell ⟨w.heap.size+1+1,1,none⟩ (.bool false)).setCell ⟨w.heap.size+1+1,2,none⟩ yN).setCell ⟨w.heap.size+1+1,3,none⟩ (yi 0)) (w.heap.size+1+1) 48 (yvL 4 false yN 0):=(((v1.set 0 (yi 4)).set 1 (.bool false)).set 2 yN).set 3 (yi 0);have bR:=bu5.below b01 (by omega);have hl:=run_loadVar_mid (P:=Tryz.prog) _ (w.heap.size+1+1) 0 48 (yvL 4 false yN 0) _ cR.range underlying48 rfl (by kernel_rfl);have HH:Hid (_∧_):=⟨hl,bR⟩;clear hl bR cR bu5 b01 q1 v1 m1 l0 m0 v0 b0 b1 bq
 go_wp2
 obtain⟨hl,bR⟩:=HH.out;exact bodyPost_ret (br results54 rfl hl) rfl ⟨_,rfl,aN _ _,bR⟩
theorem aae (R sz ex:Nat)(D L G fam:Int)(gr:Bool)(F:Nat)(ng:Bool)(e f:Nat)(w:World)
  (HC:yJ 96 #[ylV R D L G gr sz ex fam F,yfV ng e f] (yi 5)):
  yC 54 #[ylV R D L G gr sz ex fam F,yfV ng e f] w (iT w 5 false 0 0):=by
 have hsf:=cD;have bl:=af w (.cells (ylA R D L G gr sz ex fam F) 110);have bf:=af (w.alloc (.cells (ylA R D L G gr sz ex fam F) 110)) (.cells (yfA ng e f) 112);have bz:=af ((w.alloc (.cells (ylA R D L G gr sz ex fam F) 110)).alloc (.cells (yfA ng e f) 112)) (.cells (yvA 0 false yN 0) 48);have l0:=((ah w (ylL R D L G gr sz ex fam F) 110).l bf).l bz;have m0:=(ah (w.alloc (.cells (ylA R D L G gr sz ex fam F) 110)) (yfL ng e f) 112).l bz;have v0:=ah ((w.alloc (.cells (ylA R D L G gr sz ex fam F) 110)).alloc (.cells (yfA ng e f) 112)) (yvL 0 false yN 0) 48;have b0:=aa (aa bl bf) bz;rw[World.size_alloc] at m0;rw[World.size_alloc,World.size_alloc] at v0;clear bl bf bz;have HC':Hid _:=HC;clear HC
 go_enter func54,ntmps54
 go_wp2_with fail
 refine(HC'.out _).mono ?_;rintro z w1 ⟨rfl,b1⟩;have bq:=af w1 (.cells (yvA 5 false yN 0) 48);have m1:=(m0.l b1).l bq;have v1:=(v0.l b1).l bq;have q1:=ah w1 (yvL 5 false yN 0) 48;have b01:=aa (aa b0 b1) bq;have hq3:w.heap.size+3≤w1.heap.size:=(v0.l b1).lt;have y0:=((m0.l b1).l (af w1 (.cells (yvA 5 false yN 0) 48))).c 0 rfl;obtain⟨z0,z1,z2,z3⟩:=v1.cs4;have j0:=v1.f 0;have j1:=v1.f 1;have j2:=v1.f 2;have j3:=v1.f 3;obtain⟨s0,s1,s2,s3⟩:=q1.cs4;have hne:w1.heap.size≠w.heap.size+1+1:=by omega
 have bu5:=(((ag (w1.alloc (.cells (yvA 5 false yN 0) 48)) (w.heap.size+1+1) 0 (yi 5)).trans (ag _ (w.heap.size+1+1) 1 (.bool false))).trans (ag _ (w.heap.size+1+1) 2 yN)).trans (ag _ (w.heap.size+1+1) 3 (yi 0));have cR:au (((((w1.alloc (.cells (yvA 5 false yN 0) 48)).setCell ⟨w.heap.size+1+1,0,none⟩ (yi 5)).setCell ⟨w.heap.size+1+1,1,none⟩ (.bool false)).setCell ⟨w.heap.size+1+1,2,none⟩ yN).setCell ⟨w.heap.size+1+1,3,none⟩ (yi 0)) (w.heap.size+1+1) 48 (yvL 5 false yN 0):=(((v1.set 0 (yi 5)).set 1 (.bool false)).set 2 yN).set 3 (yi 0);have bR:=bu5.below b01 (by omega);have hl:=run_loadVar_mid (P:=Tryz.prog) _ (w.heap.size+1+1) 0 48 (yvL 5 false yN 0) _ cR.range underlying48 rfl (by kernel_rfl);have HH:Hid (_∧_):=⟨hl,bR⟩;clear hl bR cR bu5 b01 q1 v1 m1 l0 m0 v0 b0 b1 bq
 go_wp2
 obtain⟨hl,bR⟩:=HH.out;exact bodyPost_ret (br results54 rfl hl) rfl ⟨_,rfl,aN _ _,bR⟩
theorem afp (n er:Int)(her:er≠0)(s:ByteArray)(w:World)
  (HG:yJ 42 #[yi n] (.tuple #[ygV 0 0 0 0 false,yi er])):
  yC 45 #[yi n,.string s] w (Ys w 0 false 0 0 ⟨false,0,0⟩ er):=by
 replace HG:Hid _:=HG;have he:(er==0)=false:=by simpa using her
 clear her;have bv:=af w (.cells (yvA 0 false yN 0) 48);have bx:=af (w.alloc (.cells (yvA 0 false yN 0) 48)) (.cells (ydA false yN 0) 78);have v0:=(ah w (yvL 0 false yN 0) 48).l bx;have x0:=ah (w.alloc (.cells (yvA 0 false yN 0) 48)) (ydL false yN 0) 78;have b0:=aa bv bx;rw[World.size_alloc] at x0;clear bv bx
 go_enter func45,ntmps45
 go_upto_region 1 with fail
 generalize(w.alloc (.cells (yvA 0 false yN 0) 48)).alloc (.cells (ydA false yN 0) 78)=W0 at v0 x0 b0⊢
 go_wp2_with fail
 refine(HG.out _).mono ?_;rintro z w1 ⟨rfl,b1⟩;have bg:=af w1 (.cells (ygA 0 0 0 0 false) 82);have v1:=(v0.l b1).l bg;have x1:=(x0.l b1).l bg;have b01:=aa (aa b0 b1) bg
 go_upto_region 3 with fail
 generalize w1.alloc (.cells (ygA 0 0 0 0 false) 82)=W1 at v1 x1 b01⊢;clear v0 x0 b0 b1 bg HG;have cV:au (((((((W1.setCell ⟨w.heap.size,0,none⟩ (yi 0)).setCell ⟨w.heap.size,1,none⟩ (.bool false)).setCell ⟨w.heap.size,2,none⟩ yN).setCell ⟨w.heap.size,3,none⟩ (yi 0)).setCell ⟨w.heap.size+1,0,none⟩ (.bool false)).setCell ⟨w.heap.size+1,1,none⟩ yN).setCell ⟨w.heap.size+1,2,none⟩ (yi 0)) w.heap.size 48 (yvL 0 false yN 0):=(((((((v1.set 0 (yi 0)).set 1 (.bool false)).set 2 yN).set 3 (yi 0)).off (show w.heap.size+1≠w.heap.size by omega) 0 (.bool false)).off (show w.heap.size+1≠w.heap.size by omega) 1 yN).off (show w.heap.size+1≠w.heap.size by omega) 2 (yi 0))
 have cX:au (((((((W1.setCell ⟨w.heap.size,0,none⟩ (yi 0)).setCell ⟨w.heap.size,1,none⟩ (.bool false)).setCell ⟨w.heap.size,2,none⟩ yN).setCell ⟨w.heap.size,3,none⟩ (yi 0)).setCell ⟨w.heap.size+1,0,none⟩ (.bool false)).setCell ⟨w.heap.size+1,1,none⟩ yN).setCell ⟨w.heap.size+1,2,none⟩ (yi 0)) (w.heap.size+1) 78 (ydL false yN 0):=(((((((x1.off (show w.heap.size≠w.heap.size+1 by omega) 0 (yi 0)).off (show w.heap.size≠w.heap.size+1 by omega) 1 (.bool false)).off (show w.heap.size≠w.heap.size+1 by omega) 2 yN).off (show w.heap.size≠w.heap.size+1 by omega) 3 (yi 0)).set 0 (.bool false)).set 1 yN).set 2 (yi 0))
 have cX0:=((((x1.off (show w.heap.size≠w.heap.size+1 by omega) 0 (yi 0)).off (show w.heap.size≠w.heap.size+1 by omega) 1 (.bool false)).off (show w.heap.size≠w.heap.size+1 by omega) 2 yN).off (show w.heap.size≠w.heap.size+1 by omega) 3 (yi 0))
 have bu1:=(((ag W1 w.heap.size 0 (yi 0)).trans (ag _ w.heap.size 1 (.bool false))).trans (ag _ w.heap.size 2 yN)).trans (ag _ w.heap.size 3 (yi 0));have bu2:=((ag ((((W1.setCell ⟨w.heap.size,0,none⟩ (yi 0)).setCell ⟨w.heap.size,1,none⟩ (.bool false)).setCell ⟨w.heap.size,2,none⟩ yN).setCell ⟨w.heap.size,3,none⟩ (yi 0)) (w.heap.size+1) 0 (.bool false)).trans (ag _ (w.heap.size+1) 1 yN)).trans (ag _ (w.heap.size+1) 2 (yi 0));have bR:=bu2.below (bu1.below b01 (Nat.le_refl _)) (by omega);have hl1:=run_loadVar_mid (P:=Tryz.prog) _ w.heap.size 0 48 (yvL 0 false yN 0) _ cV.range underlying48 rfl (by kernel_rfl);have hl2:=run_loadVar_mid (P:=Tryz.prog) _ (w.heap.size+1) 0 78 (ydL false yN 0) _ cX.range underlying78 rfl (by kernel_rfl);have HH:Hid (_∧_∧_):=⟨hl1,hl2,bR⟩;clear hl1 hl2 bR bu1 bu2 cV cX cX0;obtain⟨a0,a1,a2,a3⟩:=v1.cs4;obtain⟨y0,y1,y2⟩:=x1.cs3;have f0:=v1.f 0;have f1:=v1.f 1;have f2:=v1.f 2;have f3:=v1.f 3;have g0:=x1.f 0;have g1:=x1.f 1;have g2:=x1.f 2;clear v1 x1 b01
 go_wp2
 obtain⟨hl1,hl2,bR⟩:=HH.out;exact bodyPost_ret (kg results45 rfl rfl rfl hl1 hl2) rfl ⟨_,_,rfl,aN _ _,aN _ _,(fun _ _ _ h=>by cases h),bR⟩
theorem afq (n er:Int)(her:er≠0)(R D L G c p:Int)(gr ng:Bool)(m:Nat)(s:ByteArray)(w:World)
  (HG:yJ 42 #[yi n] (.tuple #[ygV R D L G gr,yi 0]))
  (HD: ∀w1,yC 20 #[yi n,.string s] w1 (eP w1 c ng m p er)):
  yC 45 #[yi n,.string s] w (Ys w 0 false 0 0 ⟨false,0,0⟩ er):=by
 replace HG:Hid _:=HG;replace HD:Hid _:=HD;have he:(er==0)=false:=by simpa using her
 clear her;have bv:=af w (.cells (yvA 0 false yN 0) 48);have bx:=af (w.alloc (.cells (yvA 0 false yN 0) 48)) (.cells (ydA false yN 0) 78);have v0:=(ah w (yvL 0 false yN 0) 48).l bx;have x0:=ah (w.alloc (.cells (yvA 0 false yN 0) 48)) (ydL false yN 0) 78;have b0:=aa bv bx;rw[World.size_alloc] at x0;clear bv bx
 go_enter func45,ntmps45
 go_upto_region 1 with fail
 generalize(w.alloc (.cells (yvA 0 false yN 0) 48)).alloc (.cells (ydA false yN 0) 78)=W0 at v0 x0 b0⊢
 go_wp2_with fail
 refine(HG.out _).mono ?_;rintro z w1 ⟨rfl,b1⟩;have bg:=af w1 (.cells (ygA R D L G gr) 82);have vz:=(v0.l b1).l bg;have xz:=(x0.l b1).l bg;have bz:=aa (aa b0 b1) bg
 go_upto_region 4 with fail
 generalize w1.alloc (.cells (ygA R D L G gr) 82)=WG at vz xz bz⊢;clear v0 x0 b0 b1 bg HG
 go_wp2_with fail
 refine(HD.out _).mono ?_;rintro z w2 ⟨vv,rfl,r2,b2⟩;obtain⟨vo,vc,hv⟩:=r2.shape;subst hv;have bl:=af w2 (.cells (yvA c ng (yT vo m vc) p) 48);have v1:=(vz.l b2).l bl;have x1:=(xz.l b2).l bl;have b01:=aa (aa bz b2) bl
 go_upto_region 6 with fail
 generalize w2.alloc (.cells (yvA c ng (yT vo m vc) p) 48)=W1 at v1 x1 b01⊢;clear vz xz bz bl b2 r2 HD;have cV:au (((((((W1.setCell ⟨w.heap.size,0,none⟩ (yi 0)).setCell ⟨w.heap.size,1,none⟩ (.bool false)).setCell ⟨w.heap.size,2,none⟩ yN).setCell ⟨w.heap.size,3,none⟩ (yi 0)).setCell ⟨w.heap.size+1,0,none⟩ (.bool false)).setCell ⟨w.heap.size+1,1,none⟩ yN).setCell ⟨w.heap.size+1,2,none⟩ (yi 0)) w.heap.size 48 (yvL 0 false yN 0):=(((((((v1.set 0 (yi 0)).set 1 (.bool false)).set 2 yN).set 3 (yi 0)).off (show w.heap.size+1≠w.heap.size by omega) 0 (.bool false)).off (show w.heap.size+1≠w.heap.size by omega) 1 yN).off (show w.heap.size+1≠w.heap.size by omega) 2 (yi 0))
 have cX:au (((((((W1.setCell ⟨w.heap.size,0,none⟩ (yi 0)).setCell ⟨w.heap.size,1,none⟩ (.bool false)).setCell ⟨w.heap.size,2,none⟩ yN).setCell ⟨w.heap.size,3,none⟩ (yi 0)).setCell ⟨w.heap.size+1,0,none⟩ (.bool false)).setCell ⟨w.heap.size+1,1,none⟩ yN).setCell ⟨w.heap.size+1,2,none⟩ (yi 0)) (w.heap.size+1) 78 (ydL false yN 0):=(((((((x1.off (show w.heap.size≠w.heap.size+1 by omega) 0 (yi 0)).off (show w.heap.size≠w.heap.size+1 by omega) 1 (.bool false)).off (show w.heap.size≠w.heap.size+1 by omega) 2 yN).off (show w.heap.size≠w.heap.size+1 by omega) 3 (yi 0)).set 0 (.bool false)).set 1 yN).set 2 (yi 0))
 have cX0:=((((x1.off (show w.heap.size≠w.heap.size+1 by omega) 0 (yi 0)).off (show w.heap.size≠w.heap.size+1 by omega) 1 (.bool false)).off (show w.heap.size≠w.heap.size+1 by omega) 2 yN).off (show w.heap.size≠w.heap.size+1 by omega) 3 (yi 0))
 have bu1:=(((ag W1 w.heap.size 0 (yi 0)).trans (ag _ w.heap.size 1 (.bool false))).trans (ag _ w.heap.size 2 yN)).trans (ag _ w.heap.size 3 (yi 0));have bu2:=((ag ((((W1.setCell ⟨w.heap.size,0,none⟩ (yi 0)).setCell ⟨w.heap.size,1,none⟩ (.bool false)).setCell ⟨w.heap.size,2,none⟩ yN).setCell ⟨w.heap.size,3,none⟩ (yi 0)) (w.heap.size+1) 0 (.bool false)).trans (ag _ (w.heap.size+1) 1 yN)).trans (ag _ (w.heap.size+1) 2 (yi 0));have bR:=bu2.below (bu1.below b01 (Nat.le_refl _)) (by omega);have hl1:=run_loadVar_mid (P:=Tryz.prog) _ w.heap.size 0 48 (yvL 0 false yN 0) _ cV.range underlying48 rfl (by kernel_rfl);have hl2:=run_loadVar_mid (P:=Tryz.prog) _ (w.heap.size+1) 0 78 (ydL false yN 0) _ cX.range underlying78 rfl (by kernel_rfl);have HH:Hid (_∧_∧_):=⟨hl1,hl2,bR⟩;clear hl1 hl2 bR bu1 bu2 cV cX cX0;obtain⟨a0,a1,a2,a3⟩:=v1.cs4;obtain⟨y0,y1,y2⟩:=x1.cs3;have f0:=v1.f 0;have f1:=v1.f 1;have f2:=v1.f 2;have f3:=v1.f 3;have g0:=x1.f 0;have g1:=x1.f 1;have g2:=x1.f 2;clear v1 x1 b01
 go_wp2
 obtain⟨hl1,hl2,bR⟩:=HH.out;exact bodyPost_ret (kg results45 rfl rfl rfl hl1 hl2) rfl ⟨_,_,rfl,aN _ _,aN _ _,(fun _ _ _ h=>by cases h),bR⟩
theorem DF (s:ByteArray)(w:World)(hs:s.size≤12000)(hd: ∀i,i<s.size→48≤byt s i∧byt s i≤57):
  yC 33 #[.string s] w (Num w (pv s s.size)):=by
 have HD:Hid _:=hd;clear hd
 go_enter func33,ntmps33
 go_wp2
 go_loopg [0,3] s.size (fun r tv av wr=>ae3 w s r tv av wr)
 case atStart=>exact⟨0,s,rfl,⟨by omega,fun i _=>by rw[Nat.zero_add]⟩,rfl,aQ _ _ _ _,Below.refl _ _⟩
 case round=>
  obtain⟨p,T,rfl,hT,hTs,own,bel⟩:=hrel;have hp1:=hT.1;rw[hTs] at hp1
  by_cases hz:gk=0
  ·have hps:p=s.size:=by omega
   subst hz hps;clear hp1;have hTz: ¬((0:Int)< (T.size:Int)):=by omega
   go_wp2
   go_ret
   exact⟨_,rfl,own,bel⟩
  ·have hps:p≤s.size:=by omega
   have hnum:=Wb s HD.out hs p hps;obtain⟨n,hn⟩: ∃n,(gk-1) % 9+1=n:=⟨_,rfl⟩;have hnI:((T.size:Int)-1) % 9+1=(n:Int):=by omega
   have hn9:n≤9:=by omega
   have hnT:n≤T.size:=by omega
   have HTS:Hid (T.size=gk):=hTs;have hTl:T.size≤12000:=by omega
   have hTp:0<T.size:=by omega
   have HP:Hid (p+gk=s.size):=hp1;clear hn hTs hp1
   go_wp2
   go_loop [5,6,17] (fun gv cv iv=> ∃i g sc:Nat,i≤n∧iv=yi i∧gv= .int .u32 g∧cv= .int .u32 sc∧g<1000000000∧sc≤1000000000∧Hid (ack s p i g sc)) (fun _ _ iv=>n-(intOf iv).toNat)
   case atStart=>exact⟨0,0,1,Nat.zero_le _,rfl,rfl,rfl,by omega,by omega,⟨by simp,by simp,by simp⟩⟩
   case round=>
    obtain⟨i,g,sc,hin,rfl,rfl,rfl,hg9,hsc9,hI⟩:=hrel
    by_cases hlt:i<n
    ·have hix:=li T i (by omega)
     have hby:=hT.2 i (by omega);have hdg:=HD.out (p+i) (by have:=HP.out;have:=HTS.out;omega);have hp8:10^i≤10^8:=Nat.pow_le_pow_right (by omega) (by omega);have hgb:=hI.2.1;have hsb:=hI.2.2;have hst:=Z5 hI rfl hdg.1 hdg.2;rw[hby] at hix;obtain⟨x,ex⟩: ∃x,byt s (p+i)=x:=⟨_,rfl⟩;rw[ex] at hix hdg hst;have hg8:g<100000000:=by omega
     have hs8:sc≤100000000:=by omega
     have hx1:=hdg.1;have hx2:=hdg.2;have HST:Hid (ack s p (i+1) (g*10+(x-48)) (sc*10)):=hst;clear hby ex hp8 hgb hsb hst hdg
     go_wp2
     go_round
     case rel=>exact⟨i+1,g*10+(x-48),sc*10,by omega,by go_num,by go_num,by go_num,by omega,by omega,HST⟩
     case measure=>simp[intOf];omega
    ·have hie:i=n:=by omega
     subst hie;have hsb:=hI.2.2;have hsp:1≤sc:=by rw[hsb];exact Nat.pow_pos (by omega)
     have hpv:=hI.1;have hgr:=Xf _ (pv s p) sc g w wr own bel hsp (by omega) (by omega) (by omega);rw[show pv s p*sc+g=pv s (p+i) from by rw[hpv,hsb]] at hgr
     have hts:=Wa hT hnT;clear hsb hpv hI
     go_wp2_with fail
     refine hgr.mono ?_;rintro e w2 ⟨v',rfl,own2,bel2⟩;clear hgr
     go_wp2
     go_roundg (gk-i)
     case measure=>omega
     case rel=>exact⟨p+i,_,rfl,hts,by have:=HTS.out;simp;omega,own2,bel2⟩
def Zo (xs:List Nat)(e R D L G:Int)(gr:Bool):Nat:=if onC (aS xs e) (bk R D L G)=0 then fD R D L G gr (Dg.vl 4294967296 xs) e else 0
def Zp (xs:List Nat)(e R D L G:Int)(gr:Bool):Int:=if onC (aS xs e) (bk R D L G)=0 then fK R D L G gr (Dg.vl 4294967296 xs) e else 0
theorem aa8 (R D L G:Int)(gr s:Bool)(ao:Option Addr)(la ca:Nat)(e c:Int)(hd:Bool)(rd:Nat)(rk:Int)(w:World)
  (HF: ∀w1,yB w w1→yC 83 #[ydV s (.slice ao la ca) e,ygV R D L G gr] w1 (DM w1 hd rd rk c)):
  yC 44 #[ydV s (.slice ao la ca) e,ygV R D L G gr] w (yR w (.tuple #[.bool hd,yi c])):=by
 replace HF:Hid _:=HF;have b1:=aa (af w (.cells (ydA s (.slice ao la ca) e) 78)) (af _ (.cells (ygA R D L G gr) 82));have q1:=(ah w (ydL s (.slice ao la ca) e) 78).l (af _ (.cells (ygA R D L G gr) 82));have g1:=ah (w.alloc (.cells (ydA s (.slice ao la ca) e) 78)) (ygL R D L G gr) 82;simp only[World.size_alloc] at g1;obtain⟨x0,x1,x2,x3,x4⟩:=g1.cs5;obtain⟨y0,y1,y2⟩:=q1.cs3
 go_enter func44,ntmps44
 go_wp2_with fail
 refine(HF.out _ b1).mono ?_;rintro z w2 ⟨u,rfl,ou,bb2⟩;obtain⟨so,sc,hu⟩:=ou.rd.shape;subst hu;clear ou x0 x1 x2 x3 x4 y0 y1 y2;have b2:=aa b1 bb2;have b3:=aa b2 (af w2 (.cells #[yT so rd sc,yi rk] 153))
 go_wp2
 go_ret2
 exact⟨rfl,b3⟩
theorem Je (R D L G fam:Int)(gr:Bool)(sz ex:Nat)(F:Nat)(c p:Int)(ng:Bool)(ao:Option Addr)(dn dc:Nat)(r:ak×Int)(w:World)
  (HN: ∀w1,yB w w1→yC 127 #[ypV ng (.slice ao dn dc) p false false false,ygV R D L G gr] w1 (gR w1 r)):
  yC 128 #[ylV R D L G gr sz ex fam F,yvV c ng (.slice ao dn dc) p] w (gR w r):=by
 have hsf:=cD;have HN':Hid _:=HN;have bl:=af w (.cells (ylA R D L G gr sz ex fam F) 110);have bv:=af (w.alloc (.cells (ylA R D L G gr sz ex fam F) 110)) (.cells (yvA c ng (.slice ao dn dc) p) 48);have bd:=af ((w.alloc (.cells (ylA R D L G gr sz ex fam F) 110)).alloc (.cells (yvA c ng (.slice ao dn dc) p) 48)) (.cells (ydA false yN 0) 78);have d0:=ah ((w.alloc (.cells (ylA R D L G gr sz ex fam F) 110)).alloc (.cells (yvA c ng (.slice ao dn dc) p) 48)) (ydL false yN 0) 78;have b0:=aa (aa bl bv) bd;rw[World.size_alloc,World.size_alloc] at d0;clear HN bl bv bd
 go_enter func128,ntmps128
 go_wp2_with fail
 refine(HN'.out _ b0).mono ?_;rintro z w1 ⟨s1,rfl,own1,b1⟩;obtain⟨so,sc,hs1⟩:=own1.rd.shape;subst hs1;have d1:=d0.l b1;have b01:=aa b0 b1;have bu:=((ag w1 (w.heap.size+1+1) 0 (.bool r.1.s)).trans (ag _ (w.heap.size+1+1) 1 (yT so r.1.n sc))).trans (ag _ (w.heap.size+1+1) 2 (yi r.1.e));have cR:au (((w1.setCell ⟨w.heap.size+1+1,0,none⟩ (.bool r.1.s)).setCell ⟨w.heap.size+1+1,1,none⟩ (yT so r.1.n sc)).setCell ⟨w.heap.size+1+1,2,none⟩ (yi r.1.e)) (w.heap.size+1+1) 78 (ydL r.1.s (yT so r.1.n sc) r.1.e):=(((d1.set 0 (.bool r.1.s)).set 1 (yT so r.1.n sc)).set 2 (yi r.1.e));have oR:=(bu.own own1 d1 (by decide)).lower b0.size;have bR:=bu.below b01 (by omega);have hl:=run_loadVar_mid (P:=Tryz.prog) _ (w.heap.size+1+1) 0 78 (ydL r.1.s (yT so r.1.n sc) r.1.e) _ cR.range underlying78 rfl (by kernel_rfl);have HH:Hid (_∧_∧_):=⟨hl,oR,bR⟩;obtain⟨x0,x1,x2⟩:=d1.cs3;have j0:=d1.f 0;have j1:=d1.f 1;have j2:=d1.f 2;clear hl oR bR cR bu d1 d0 b01 b1 own1 b0
 go_wp2
 obtain⟨hl,oR,bR⟩:=HH.out;exact bodyPost_ret (aj results128 rfl rfl hl) rfl ⟨_,rfl,oR,bR⟩
theorem Q8 (R D L G fam:Int)(gr:Bool)(sz ex:Nat)(F:Nat)(c p:Int)(ng:Bool)(ao:Option Addr)(dn dc:Nat)(w:World)
  (r:ak) (er:Int) (HN: ∀w1,yB w w1→yC 128 #[ylV R D L G gr sz ex fam F,yvV c ng (.slice ao dn dc) p] w1 (gR w1 (r,er))) (hpa: -20000≤p) (hpb:p≤20000) (hd:0<dn) (he:er≠0):
  yC 86 #[ylV R D L G gr sz ex fam F,yvV c ng (.slice ao dn dc) p] w (yR w (.tuple #[.string ⟨#[]⟩,yi 4])):=by
 have hp1: ¬p< -20000:=by omega
 have hp2: ¬20000<p:=by omega
 have HN':Hid _:=HN;have hdI:((dn:Int)==0)=false:=by simp;omega
 clear HN;have heb:(er==0)=false:=by simpa using he
 have hsf:=cD;have bv:=af (w.alloc (.cells (ylA R D L G gr sz ex fam F) 110)) (.cells (yvA c ng (.slice ao dn dc) p) 48);have l0:=(ah w (ylL R D L G gr sz ex fam F) 110).l bv;have m0:=ah (w.alloc (.cells (ylA R D L G gr sz ex fam F) 110)) (yvL c ng (.slice ao dn dc) p) 48;have b0:=aa (af w (.cells (ylA R D L G gr sz ex fam F) 110)) bv;rw[World.size_alloc] at m0;clear bv;obtain⟨x0,x1,x2,x3,x4,x5,x6,x7,x8⟩:=l0.cs9;obtain⟨u0,u1,u2,u3⟩:=m0.cs4
 go_enter func86,ntmps86
 go_wp2_with fail
 refine(HN'.out _ b0).mono ?_;rintro z w1 ⟨s1,rfl,own1,b1⟩;obtain⟨so,sc,hs1⟩:=own1.rd.shape;subst hs1;simp only;have bq:=af w1 (.cells (yDA r so sc) 78);have l1:=(l0.l b1).l bq;have q1:=ah w1 (yDL r so sc) 78;have r1:=own1.rd.l bq;have b01:=aa (aa b0 b1) bq;clear own1 b1 bq l0 m0 x0 x1 x2 x3 x4 x5 x6 x7 x8 u0 u1 u2 u3;obtain⟨x0,x1,x2,x3,x4,x5,x6,x7,x8⟩:=l1.cs9;obtain⟨q0,qq1,q2⟩:=q1.cs3
 go_wp2
 go_ret2
 exact⟨rfl,b01⟩
theorem NO (R D L G fam:Int)(gr:Bool)(sz ex:Nat)(F:Nat)(c p:Int)(ng:Bool)(ao:Option Addr)(dn dc:Nat)(w:World)
  (r:ak) (er:Int) (HN: ∀w1,yB w w1→yC 128 #[ylV R D L G gr sz ex fam F,yvV c ng (.slice ao dn dc) p] w1 (gR w1 (r,er)))
  (hq:Bool) (he2:Int) (HH: ∀so sc w1,yB w w1→Rd w1 .u32 (yT so r.n sc) (Dg.dg 4294967296 r.n)→yC 44 #[yDV r so sc,ygV R D L G gr] w1 (yR w1 (.tuple #[.bool hq,yi he2]))) (hpa: -20000≤p) (hpb:p≤20000) (hd:0<dn) (he:er=0) (h2:he2=0) (hqf:hq=false):
  yC 86 #[ylV R D L G gr sz ex fam F,yvV c ng (.slice ao dn dc) p] w (yR w (.tuple #[.string ⟨#[]⟩,yi 4])):=by
 subst he h2 hqf;have hp1: ¬p< -20000:=by omega
 have hp2: ¬20000<p:=by omega
 have HN':Hid _:=HN;have hdI:((dn:Int)==0)=false:=by simp;omega
 clear HN;have HH':Hid _:=HH;clear HH;have hsf:=cD;have bv:=af (w.alloc (.cells (ylA R D L G gr sz ex fam F) 110)) (.cells (yvA c ng (.slice ao dn dc) p) 48);have l0:=(ah w (ylL R D L G gr sz ex fam F) 110).l bv;have m0:=ah (w.alloc (.cells (ylA R D L G gr sz ex fam F) 110)) (yvL c ng (.slice ao dn dc) p) 48;have b0:=aa (af w (.cells (ylA R D L G gr sz ex fam F) 110)) bv;rw[World.size_alloc] at m0;clear bv;obtain⟨x0,x1,x2,x3,x4,x5,x6,x7,x8⟩:=l0.cs9;obtain⟨u0,u1,u2,u3⟩:=m0.cs4
 go_enter func86,ntmps86
 go_wp2_with fail
 refine(HN'.out _ b0).mono ?_;rintro z w1 ⟨s1,rfl,own1,b1⟩;obtain⟨so,sc,hs1⟩:=own1.rd.shape;subst hs1;simp only;have bq:=af w1 (.cells (yDA r so sc) 78);have l1:=(l0.l b1).l bq;have q1:=ah w1 (yDL r so sc) 78;have r1:=own1.rd.l bq;have b01:=aa (aa b0 b1) bq;clear own1 b1 bq l0 m0 x0 x1 x2 x3 x4 x5 x6 x7 x8 u0 u1 u2 u3;obtain⟨x0,x1,x2,x3,x4,x5,x6,x7,x8⟩:=l1.cs9;obtain⟨q0,qq1,q2⟩:=q1.cs3
 go_wp2_with fail
 refine(HH'.out _ _ _ b01 r1).mono ?_;rintro z w2 ⟨rfl,b2⟩;have l2:=l1.l b2;have q2:=q1.l b2;have r2:=r1.l b2;have b02:=aa b01 b2;clear l1 q1 r1 b01 b2 x0 x1 x2 x3 x4 x5 x6 x7 x8 q0 qq1;obtain⟨x0,x1,x2,x3,x4,x5,x6,x7,x8⟩:=l2.cs9;obtain⟨qq0,qq1,qq2⟩:=q2.cs3
 go_wp2
 go_ret2
 exact⟨rfl,b02⟩
theorem NP (R D L G fam:Int)(gr:Bool)(sz ex:Nat)(F:Nat)(c p:Int)(ng:Bool)(ao:Option Addr)(dn dc:Nat)(w:World)
  (r:ak) (er:Int) (HN: ∀w1,yB w w1→yC 128 #[ylV R D L G gr sz ex fam F,yvV c ng (.slice ao dn dc) p] w1 (gR w1 (r,er)))
  (hq:Bool) (he2:Int) (HH: ∀so sc w1,yB w w1→Rd w1 .u32 (yT so r.n sc) (Dg.dg 4294967296 r.n)→yC 44 #[yDV r so sc,ygV R D L G gr] w1 (yR w1 (.tuple #[.bool hq,yi he2])))
  (st:ByteArray) (es:Int) (HE: ∀so sc w1,yB w w1→Rd w1 .u32 (yT so r.n sc) (Dg.dg 4294967296 r.n)→yC 129 #[ylV R D L G gr sz ex fam F,yDV r so sc] w1 (yR w1 (.tuple #[.string st,yi es]))) (hpa: -20000≤p) (hpb:p≤20000) (hd:0<dn) (he:er=0) (h2:he2=0) (hqt:hq=true):
  yC 86 #[ylV R D L G gr sz ex fam F,yvV c ng (.slice ao dn dc) p] w (yR w (.tuple #[.string st,yi es])):=by
 subst he h2 hqt;have hp1: ¬p< -20000:=by omega
 have hp2: ¬20000<p:=by omega
 have HN':Hid _:=HN;have hdI:((dn:Int)==0)=false:=by simp;omega
 clear HN;have HH':Hid _:=HH;clear HH;have HE':Hid _:=HE;clear HE;have hsf:=cD;have bv:=af (w.alloc (.cells (ylA R D L G gr sz ex fam F) 110)) (.cells (yvA c ng (.slice ao dn dc) p) 48);have l0:=(ah w (ylL R D L G gr sz ex fam F) 110).l bv;have m0:=ah (w.alloc (.cells (ylA R D L G gr sz ex fam F) 110)) (yvL c ng (.slice ao dn dc) p) 48;have b0:=aa (af w (.cells (ylA R D L G gr sz ex fam F) 110)) bv;rw[World.size_alloc] at m0;clear bv;obtain⟨x0,x1,x2,x3,x4,x5,x6,x7,x8⟩:=l0.cs9;obtain⟨u0,u1,u2,u3⟩:=m0.cs4
 go_enter func86,ntmps86
 go_wp2_with fail
 refine(HN'.out _ b0).mono ?_;rintro z w1 ⟨s1,rfl,own1,b1⟩;obtain⟨so,sc,hs1⟩:=own1.rd.shape;subst hs1;simp only;have bq:=af w1 (.cells (yDA r so sc) 78);have l1:=(l0.l b1).l bq;have q1:=ah w1 (yDL r so sc) 78;have r1:=own1.rd.l bq;have b01:=aa (aa b0 b1) bq;clear own1 b1 bq l0 m0 x0 x1 x2 x3 x4 x5 x6 x7 x8 u0 u1 u2 u3;obtain⟨x0,x1,x2,x3,x4,x5,x6,x7,x8⟩:=l1.cs9;obtain⟨q0,qq1,q2⟩:=q1.cs3
 go_wp2_with fail
 refine(HH'.out _ _ _ b01 r1).mono ?_;rintro z w2 ⟨rfl,b2⟩;have l2:=l1.l b2;have q2:=q1.l b2;have r2:=r1.l b2;have b02:=aa b01 b2;clear l1 q1 r1 b01 b2 x0 x1 x2 x3 x4 x5 x6 x7 x8 q0 qq1;obtain⟨x0,x1,x2,x3,x4,x5,x6,x7,x8⟩:=l2.cs9;obtain⟨qq0,qq1,qq2⟩:=q2.cs3
 go_wp2_with fail
 refine(HE'.out _ _ _ b02 r2).mono ?_;rintro z w3 ⟨rfl,b3⟩
 go_wp2
 go_ret2
 exact⟨rfl,aa b02 b3⟩
theorem Cu (k:Nat)(s:ByteArray):aR k s<2^exN k∧aU k s<2^frN k:=⟨gh _ _ _,gh _ _ _⟩
theorem J8 {k:Nat}(hk:1≤k∧k≤8)(ng:Bool)(E:Nat){F:Nat}(hF:F<2^64):ge k ng E F<2^64:=by
 unfold ge
 split
 ·exact Nat.lt_of_le_of_lt (GI _ _ _ _) (vS hk E hF)
 ·decide
def fY (k:Nat)(wy:Int)(t:ak):fz:=cI (rdN k) (dgN k) (lsI k) (gsI k) (decide (k≤3)) t.s t.n 1 t.e wy
theorem dc_less {x:ak}(hx:x.n<2^64)(e1: -16500≤x.e)(e2:x.e≤16500)(h0:x.n≠0)(p:Int):dqN x*10^ (-p).toNat<dqD x*10^p.toNat↔dcP x<p:=by
 have hm:=dc_many hx e1 e2 h0;have hT:0<10^60:=Nat.pow_pos (by omega);have h1:10^ (dcC x-1)≤dcW x:=decS_low (by omega);have h2:dcW x<10^dcC x:=decS_big;have h3:1≤dcC x:=decS_one _;have:=dg_less (p:=p) (n:=60-dcG x) (C:=dcC x) (show 0<scB x.e (60-dcG x) from Nat.mul_pos (Nat.pow_pos (by omega)) (Nat.pow_pos (by omega))) (dg_cross x.n x.e (60-dcG x)) h2 h1 h3 (show 0<2^ (-x.e).toNat from Nat.pow_pos (by omega))
 unfold dqN dqD;rw[this];unfold dcP;omega
end Go.Proofs.YtlgkfdcmokchgaaGreatDoor

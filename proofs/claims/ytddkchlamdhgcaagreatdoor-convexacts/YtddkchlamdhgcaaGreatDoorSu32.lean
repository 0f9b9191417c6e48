/-
  Texts laid together: Co12, Co16, Gr5, Gr7, Gk2, Ce5, Ce10, Ce11, Fi1.
-/
import Derived.Test.YtddkchlamdhgcaaGreatDoorSu23
import Derived.Test.YtddkchlamdhgcaaGreatDoorSu24
import Derived.Test.YtddkchlamdhgcaaGreatDoorSu26
import Derived.Test.YtddkchlamdhgcaaGreatDoorSu27
set_option maxRecDepth 100000
set_option maxHeartbeats 6400000
namespace Go.Proofs.YtddkchlamdhgcaaGreatDoor
open _root_.Go.Proofs.Tryz
open Go.RowKit
theorem Zb (R D L G sz ex:Int)(gr ng:Bool)(F e f:Nat)(w:World):yC 78 #[ylV R D L G gr sz ex 3 F,yfV ng e f] w (yR w (yi (((if e=0 then(if ng then 5 else 1) else 2:Nat):Nat):Int))):=by
 have hsf:=cD;have l0:=(ah w (ylL R D L G gr sz ex 3 F) 116).l (af _ (.cells (yfA ng e f) 119));have m0:=ah (w.alloc (.cells (ylA R D L G gr sz ex 3 F) 116)) (yfL ng e f) 119;have b0:=aa (af w (.cells (ylA R D L G gr sz ex 3 F) 116)) (af _ (.cells (yfA ng e f) 119));rw[World.size_alloc] at m0;have HZ:Hid (∀b w1,yC 113 #[.bool b] w1 fun z w'=>z= .returned (yi (if b then 1 else 2))∧w'=w1):=fun b w1=>Aj b w1
 by_cases h:e=0
 ·subst h
  rw[if_pos rfl]
  cases ng
  ·go_enter func78,ntmps78
   go_wp2_with fail
   refine(HZ.out true _).mono ?_;rintro z w1 ⟨rfl,rfl⟩
   go_wp2
   go_ret
   exact⟨rfl,b0⟩
  ·go_enter func78,ntmps78
   go_wp2
   go_ret
   exact⟨rfl,b0⟩
 ·have h1:((e:Int)==0)=false:=by simp;omega
  rw[if_neg h];clear h
  cases ng
  all_goals
   go_enter func78,ntmps78
   go_wp2_with fail
   refine(HZ.out false _).mono ?_;rintro z w1 ⟨rfl,rfl⟩
   go_wp2
   go_ret
   exact⟨rfl,b0⟩
theorem Vi (D L G sz ex fam:Int)(gr ng:Bool)(F e f:Nat)(w:World)(hw1:IntKind.i64.wrap (L+(e:Int))=L+(e:Int)):yC 80 #[ylV 16 D L G gr sz ex fam F,yfV ng e f] w (yR w (.tuple #[.int .u64 f,yi (L+(e:Int))])):=by
 have hsf:=cD;have l0:=(ah w (ylL 16 D L G gr sz ex fam F) 116).l (af _ (.cells (yfA ng e f) 119));have m0:=ah (w.alloc (.cells (ylA 16 D L G gr sz ex fam F) 116)) (yfL ng e f) 119;have b0:=aa (af w (.cells (ylA 16 D L G gr sz ex fam F) 116)) (af _ (.cells (yfA ng e f) 119));rw[World.size_alloc] at m0
 go_enter func80,ntmps80
 go_wp2
 go_quiet (fail)
 go_wp2
 go_ret2
 exact⟨by first|rfl| (rw[hw1];rfl)|simp[hw1,Act.put],aL b0 _⟩
theorem Zc (D L G sz ex fam:Int)(gr ng:Bool)(F f:Nat)(w:World):yC 80 #[ylV 2 D L G gr sz ex fam F,yfV ng 0 f] w (yR w (.tuple #[.int .u64 f,yi L])):=by
 have hsf:=cD;have l0:=(ah w (ylL 2 D L G gr sz ex fam F) 116).l (af _ (.cells (yfA ng 0 f) 119));have m0:=ah (w.alloc (.cells (ylA 2 D L G gr sz ex fam F) 116)) (yfL ng 0 f) 119;have b0:=aa (af w (.cells (ylA 2 D L G gr sz ex fam F) 116)) (af _ (.cells (yfA ng 0 f) 119));rw[World.size_alloc] at m0
 go_enter func80,ntmps80
 go_wp2
 go_quiet (fail)
 go_wp2
 go_ret2
 exact⟨rfl,aL b0 _⟩
theorem QL (k:Nat)(hk:1≤k∧k≤8)(ng:Bool)(e f:Nat)(w:World)(hf:f<18446744073709551616)(he:e<65536):yC 80 #[.agg (tS k).toArray,yfV ng e f] w (yR w (.tuple #[.int .u64 ((iI k e f:Nat):Int),yi (ii k e)])):=by
 have hls: -100000≤lsI k∧lsI k≤100000:=by rcases bO hk with rfl|rfl|rfl|rfl|rfl|rfl|rfl|rfl<;>decide
 have hw1:IntKind.i64.wrap (lsI k+(e:Int))=lsI k+(e:Int):=IntWalk.i64_in _ ⟨by omega,by omega⟩;have hw2:IntKind.i64.wrap (lsI k+(e:Int)-1)=lsI k+(e:Int)-1:=IntWalk.i64_in _ ⟨by omega,by omega⟩;have ho:bits .or .u64 f (gW k:Int)=((f|||gW k:Nat):Int):=u64_or_nat f (gW k) hf (by rcases bO hk with rfl|rfl|rfl|rfl|rfl|rfl|rfl|rfl<;>decide)
 have HL:=fun w1=>xX k hk w1
 unfold iI ii
 by_cases hr:rdN k=16
 ·rw[if_pos hr,if_pos hr]
  rcases bO hk with rfl|rfl|rfl|rfl|rfl|rfl|rfl|rfl
  all_goals first|exact absurd hr (by decide)|exact Vi _ _ _ _ _ _ _ ng _ e f w hw1
 ·rw[if_neg hr,if_neg hr]
  by_cases h:e=0
  ·subst h
   rw[if_pos rfl,if_pos rfl]
   rcases bO hk with rfl|rfl|rfl|rfl|rfl|rfl|rfl|rfl
   all_goals first|exact absurd rfl hr|exact Zc _ _ _ _ _ _ _ ng _ f w
  ·rw[if_neg h,if_neg h]
   have h1:((e:Int)==0)=false:=by simp;omega
   rcases bO hk with rfl|rfl|rfl|rfl|rfl|rfl|rfl|rfl
   all_goals first|exact absurd rfl hr|exact Zd _ _ _ _ _ _ _ _ _ ng _ e f w h1 ho hw1 hw2 HL
theorem aab (R sz ex:Nat)(D L G fam:Int)(gr:Bool)(F:Nat)(ng:Bool)(e f:Nat)(w:World)
  (HC:yJ 78 #[ylV R D L G gr sz ex fam F,yfV ng e f] (yi 1)):
  yC 56 #[ylV R D L G gr sz ex fam F,yfV ng e f] w (iT w 1 ng 0 0):=by
 have hsf:=cD;have bl:=af w (.cells (ylA R D L G gr sz ex fam F) 116);have bf:=af (w.alloc (.cells (ylA R D L G gr sz ex fam F) 116)) (.cells (yfA ng e f) 119);have bz:=af ((w.alloc (.cells (ylA R D L G gr sz ex fam F) 116)).alloc (.cells (yfA ng e f) 119)) (.cells (yvA 0 false yN 0) 68);have l0:=((ah w (ylL R D L G gr sz ex fam F) 116).l bf).l bz;have m0:=(ah (w.alloc (.cells (ylA R D L G gr sz ex fam F) 116)) (yfL ng e f) 119).l bz;have v0:=ah ((w.alloc (.cells (ylA R D L G gr sz ex fam F) 116)).alloc (.cells (yfA ng e f) 119)) (yvL 0 false yN 0) 68;have b0:=aa (aa bl bf) bz;rw[World.size_alloc] at m0;rw[World.size_alloc,World.size_alloc] at v0;clear bl bf bz;have HC':Hid _:=HC;clear HC
 go_enter func56,ntmps56
 go_wp2_with fail
 refine(HC'.out _).mono ?_;rintro z w1 ⟨rfl,b1⟩;have bq:=af w1 (.cells (yvA 1 ng yN 0) 68);have m1:=(m0.l b1).l bq;have v1:=(v0.l b1).l bq;have q1:=ah w1 (yvL 1 ng yN 0) 68;have b01:=aa (aa b0 b1) bq;have hq3:w.heap.size+3≤w1.heap.size:=(v0.l b1).lt;have y0:=((m0.l b1).l (af w1 (.cells (yvA 1 false yN 0) 68))).c 0 rfl;obtain⟨z0,z1,z2,z3⟩:=v1.cs4;have j0:=v1.f 0;have j1:=v1.f 1;have j2:=v1.f 2;have j3:=v1.f 3;obtain⟨s0,s1,s2,s3⟩:=q1.cs4;have hne:w1.heap.size≠w.heap.size+1+1:=by omega
 have bu5:=(((ag (w1.alloc (.cells (yvA 1 ng yN 0) 68)) (w.heap.size+1+1) 0 (yi 1)).trans (ag _ (w.heap.size+1+1) 1 (.bool ng))).trans (ag _ (w.heap.size+1+1) 2 yN)).trans (ag _ (w.heap.size+1+1) 3 (yi 0));have cR:au (((((w1.alloc (.cells (yvA 1 ng yN 0) 68)).setCell ⟨w.heap.size+1+1,0,none⟩ (yi 1)).setCell ⟨w.heap.size+1+1,1,none⟩ (.bool ng)).setCell ⟨w.heap.size+1+1,2,none⟩ yN).setCell ⟨w.heap.size+1+1,3,none⟩ (yi 0)) (w.heap.size+1+1) 68 (yvL 1 ng yN 0):=(((v1.set 0 (yi 1)).set 1 (.bool ng)).set 2 yN).set 3 (yi 0);have bR:=bu5.below b01 (by omega);have hl:=run_loadVar_mid (P:=Tryz.prog) _ (w.heap.size+1+1) 0 68 (yvL 1 ng yN 0) _ cR.range underlying68 rfl (by kernel_rfl);have HH:Hid (_∧_):=⟨hl,bR⟩;clear hl bR cR bu5 b01 q1 v1 m1 l0 m0 v0 b0 b1 bq
 go_wp2
 obtain⟨hl,bR⟩:=HH.out;exact bodyPost_ret (br results56 rfl hl) rfl ⟨_,rfl,aN _ _,bR⟩
theorem aac (R sz ex:Nat)(D L G fam:Int)(gr:Bool)(F:Nat)(ng:Bool)(e f:Nat)(w:World)
  (HC:yJ 78 #[ylV R D L G gr sz ex fam F,yfV ng e f] (yi 3)):
  yC 56 #[ylV R D L G gr sz ex fam F,yfV ng e f] w (iT w 3 ng 0 0):=by
 have hsf:=cD;have bl:=af w (.cells (ylA R D L G gr sz ex fam F) 116);have bf:=af (w.alloc (.cells (ylA R D L G gr sz ex fam F) 116)) (.cells (yfA ng e f) 119);have bz:=af ((w.alloc (.cells (ylA R D L G gr sz ex fam F) 116)).alloc (.cells (yfA ng e f) 119)) (.cells (yvA 0 false yN 0) 68);have l0:=((ah w (ylL R D L G gr sz ex fam F) 116).l bf).l bz;have m0:=(ah (w.alloc (.cells (ylA R D L G gr sz ex fam F) 116)) (yfL ng e f) 119).l bz;have v0:=ah ((w.alloc (.cells (ylA R D L G gr sz ex fam F) 116)).alloc (.cells (yfA ng e f) 119)) (yvL 0 false yN 0) 68;have b0:=aa (aa bl bf) bz;rw[World.size_alloc] at m0;rw[World.size_alloc,World.size_alloc] at v0;clear bl bf bz;have HC':Hid _:=HC;clear HC
 go_enter func56,ntmps56
 go_wp2_with fail
 refine(HC'.out _).mono ?_;rintro z w1 ⟨rfl,b1⟩;have bq:=af w1 (.cells (yvA 3 ng yN 0) 68);have m1:=(m0.l b1).l bq;have v1:=(v0.l b1).l bq;have q1:=ah w1 (yvL 3 ng yN 0) 68;have b01:=aa (aa b0 b1) bq;have hq3:w.heap.size+3≤w1.heap.size:=(v0.l b1).lt;have y0:=((m0.l b1).l (af w1 (.cells (yvA 3 false yN 0) 68))).c 0 rfl;obtain⟨z0,z1,z2,z3⟩:=v1.cs4;have j0:=v1.f 0;have j1:=v1.f 1;have j2:=v1.f 2;have j3:=v1.f 3;obtain⟨s0,s1,s2,s3⟩:=q1.cs4;have hne:w1.heap.size≠w.heap.size+1+1:=by omega
 have bu5:=(((ag (w1.alloc (.cells (yvA 3 ng yN 0) 68)) (w.heap.size+1+1) 0 (yi 3)).trans (ag _ (w.heap.size+1+1) 1 (.bool ng))).trans (ag _ (w.heap.size+1+1) 2 yN)).trans (ag _ (w.heap.size+1+1) 3 (yi 0));have cR:au (((((w1.alloc (.cells (yvA 3 ng yN 0) 68)).setCell ⟨w.heap.size+1+1,0,none⟩ (yi 3)).setCell ⟨w.heap.size+1+1,1,none⟩ (.bool ng)).setCell ⟨w.heap.size+1+1,2,none⟩ yN).setCell ⟨w.heap.size+1+1,3,none⟩ (yi 0)) (w.heap.size+1+1) 68 (yvL 3 ng yN 0):=(((v1.set 0 (yi 3)).set 1 (.bool ng)).set 2 yN).set 3 (yi 0);have bR:=bu5.below b01 (by omega);have hl:=run_loadVar_mid (P:=Tryz.prog) _ (w.heap.size+1+1) 0 68 (yvL 3 ng yN 0) _ cR.range underlying68 rfl (by kernel_rfl);have HH:Hid (_∧_):=⟨hl,bR⟩;clear hl bR cR bu5 b01 q1 v1 m1 l0 m0 v0 b0 b1 bq
 go_wp2
 obtain⟨hl,bR⟩:=HH.out;exact bodyPost_ret (br results56 rfl hl) rfl ⟨_,rfl,aN _ _,bR⟩
theorem aad (R sz ex:Nat)(D L G fam:Int)(gr:Bool)(F:Nat)(ng:Bool)(e f:Nat)(w:World)
  (HC:yJ 78 #[ylV R D L G gr sz ex fam F,yfV ng e f] (yi 4)):
  yC 56 #[ylV R D L G gr sz ex fam F,yfV ng e f] w (iT w 4 false 0 0):=by
 have hsf:=cD;have bl:=af w (.cells (ylA R D L G gr sz ex fam F) 116);have bf:=af (w.alloc (.cells (ylA R D L G gr sz ex fam F) 116)) (.cells (yfA ng e f) 119);have bz:=af ((w.alloc (.cells (ylA R D L G gr sz ex fam F) 116)).alloc (.cells (yfA ng e f) 119)) (.cells (yvA 0 false yN 0) 68);have l0:=((ah w (ylL R D L G gr sz ex fam F) 116).l bf).l bz;have m0:=(ah (w.alloc (.cells (ylA R D L G gr sz ex fam F) 116)) (yfL ng e f) 119).l bz;have v0:=ah ((w.alloc (.cells (ylA R D L G gr sz ex fam F) 116)).alloc (.cells (yfA ng e f) 119)) (yvL 0 false yN 0) 68;have b0:=aa (aa bl bf) bz;rw[World.size_alloc] at m0;rw[World.size_alloc,World.size_alloc] at v0;clear bl bf bz;have HC':Hid _:=HC;clear HC
 go_enter func56,ntmps56
 go_wp2_with fail
 refine(HC'.out _).mono ?_;rintro z w1 ⟨rfl,b1⟩;have bq:=af w1 (.cells (yvA 4 false yN 0) 68);have m1:=(m0.l b1).l bq;have v1:=(v0.l b1).l bq;have q1:=ah w1 (yvL 4 false yN 0) 68;have b01:=aa (aa b0 b1) bq;have hq3:w.heap.size+3≤w1.heap.size:=(v0.l b1).lt;have y0:=((m0.l b1).l (af w1 (.cells (yvA 4 false yN 0) 68))).c 0 rfl;obtain⟨z0,z1,z2,z3⟩:=v1.cs4;have j0:=v1.f 0;have j1:=v1.f 1;have j2:=v1.f 2;have j3:=v1.f 3;obtain⟨s0,s1,s2,s3⟩:=q1.cs4;have hne:w1.heap.size≠w.heap.size+1+1:=by omega
 have bu5:=(((ag (w1.alloc (.cells (yvA 4 false yN 0) 68)) (w.heap.size+1+1) 0 (yi 4)).trans (ag _ (w.heap.size+1+1) 1 (.bool false))).trans (ag _ (w.heap.size+1+1) 2 yN)).trans (ag _ (w.heap.size+1+1) 3 (yi 0));have cR:au (((((w1.alloc (.cells (yvA 4 false yN 0) 68)).setCell ⟨w.heap.size+1+1,0,none⟩ (yi 4)).setCell ⟨w.heap.size+1+1,1,none⟩ (.bool false)).setCell ⟨w.heap.size+1+1,2,none⟩ yN).setCell ⟨w.heap.size+1+1,3,none⟩ (yi 0)) (w.heap.size+1+1) 68 (yvL 4 false yN 0):=(((v1.set 0 (yi 4)).set 1 (.bool false)).set 2 yN).set 3 (yi 0);have bR:=bu5.below b01 (by omega);have hl:=run_loadVar_mid (P:=Tryz.prog) _ (w.heap.size+1+1) 0 68 (yvL 4 false yN 0) _ cR.range underlying68 rfl (by kernel_rfl);have HH:Hid (_∧_):=⟨hl,bR⟩;clear hl bR cR bu5 b01 q1 v1 m1 l0 m0 v0 b0 b1 bq
 go_wp2
 obtain⟨hl,bR⟩:=HH.out;exact bodyPost_ret (br results56 rfl hl) rfl ⟨_,rfl,aN _ _,bR⟩
theorem aae (R sz ex:Nat)(D L G fam:Int)(gr:Bool)(F:Nat)(ng:Bool)(e f:Nat)(w:World)
  (HC:yJ 78 #[ylV R D L G gr sz ex fam F,yfV ng e f] (yi 5)):
  yC 56 #[ylV R D L G gr sz ex fam F,yfV ng e f] w (iT w 5 false 0 0):=by
 have hsf:=cD;have bl:=af w (.cells (ylA R D L G gr sz ex fam F) 116);have bf:=af (w.alloc (.cells (ylA R D L G gr sz ex fam F) 116)) (.cells (yfA ng e f) 119);have bz:=af ((w.alloc (.cells (ylA R D L G gr sz ex fam F) 116)).alloc (.cells (yfA ng e f) 119)) (.cells (yvA 0 false yN 0) 68);have l0:=((ah w (ylL R D L G gr sz ex fam F) 116).l bf).l bz;have m0:=(ah (w.alloc (.cells (ylA R D L G gr sz ex fam F) 116)) (yfL ng e f) 119).l bz;have v0:=ah ((w.alloc (.cells (ylA R D L G gr sz ex fam F) 116)).alloc (.cells (yfA ng e f) 119)) (yvL 0 false yN 0) 68;have b0:=aa (aa bl bf) bz;rw[World.size_alloc] at m0;rw[World.size_alloc,World.size_alloc] at v0;clear bl bf bz;have HC':Hid _:=HC;clear HC
 go_enter func56,ntmps56
 go_wp2_with fail
 refine(HC'.out _).mono ?_;rintro z w1 ⟨rfl,b1⟩;have bq:=af w1 (.cells (yvA 5 false yN 0) 68);have m1:=(m0.l b1).l bq;have v1:=(v0.l b1).l bq;have q1:=ah w1 (yvL 5 false yN 0) 68;have b01:=aa (aa b0 b1) bq;have hq3:w.heap.size+3≤w1.heap.size:=(v0.l b1).lt;have y0:=((m0.l b1).l (af w1 (.cells (yvA 5 false yN 0) 68))).c 0 rfl;obtain⟨z0,z1,z2,z3⟩:=v1.cs4;have j0:=v1.f 0;have j1:=v1.f 1;have j2:=v1.f 2;have j3:=v1.f 3;obtain⟨s0,s1,s2,s3⟩:=q1.cs4;have hne:w1.heap.size≠w.heap.size+1+1:=by omega
 have bu5:=(((ag (w1.alloc (.cells (yvA 5 false yN 0) 68)) (w.heap.size+1+1) 0 (yi 5)).trans (ag _ (w.heap.size+1+1) 1 (.bool false))).trans (ag _ (w.heap.size+1+1) 2 yN)).trans (ag _ (w.heap.size+1+1) 3 (yi 0));have cR:au (((((w1.alloc (.cells (yvA 5 false yN 0) 68)).setCell ⟨w.heap.size+1+1,0,none⟩ (yi 5)).setCell ⟨w.heap.size+1+1,1,none⟩ (.bool false)).setCell ⟨w.heap.size+1+1,2,none⟩ yN).setCell ⟨w.heap.size+1+1,3,none⟩ (yi 0)) (w.heap.size+1+1) 68 (yvL 5 false yN 0):=(((v1.set 0 (yi 5)).set 1 (.bool false)).set 2 yN).set 3 (yi 0);have bR:=bu5.below b01 (by omega);have hl:=run_loadVar_mid (P:=Tryz.prog) _ (w.heap.size+1+1) 0 68 (yvL 5 false yN 0) _ cR.range underlying68 rfl (by kernel_rfl);have HH:Hid (_∧_):=⟨hl,bR⟩;clear hl bR cR bu5 b01 q1 v1 m1 l0 m0 v0 b0 b1 bq
 go_wp2
 obtain⟨hl,bR⟩:=HH.out;exact bodyPost_ret (br results56 rfl hl) rfl ⟨_,rfl,aN _ _,bR⟩
theorem Qh (R D L G:Int)(gr qs:Bool)(ao:Option Addr)(ca:Nat)(bo:Option Addr)(cb:Nat)(N M:Nat)(E way:Int)(fn:FuncId)(w:World)(hg:bk R D L G=0)
  (ha:Rd w .u32 (.slice ao (Dg.dg 4294967296 N).length ca) (Dg.dg 4294967296 N)) (hb:Rd w .u32 (.slice bo (Dg.dg 4294967296 M).length cb) (Dg.dg 4294967296 M)) (hla:(Dg.dg 4294967296 N).length≤10000) (hlb:(Dg.dg 4294967296 M).length≤10000) (hM:0<M) (e1: -20000≤E) (e2:E≤20000)
  (HE: ∀args W,Sem.run Tryz.prog (callFunc fn args) W= .ok (.enter fn args) W)
  (HAW: ∀half odd neg w1,Calls Tryz.prog fn #[.agg #[.int .i64 half,.bool odd,.bool neg]] w1 fun z w'=>z= .returned (.bool (gY way half odd neg))∧Below w1.heap.size w1 w'):
  Calls Tryz.prog 64 #[.agg #[.int .i64 R,.int .i64 D,.int .i64 L,.int .i64 G,.bool gr],.agg #[.bool qs,.slice ao (Dg.dg 4294967296 N).length ca,.slice bo (Dg.dg 4294967296 M).length cb,.int .i64 E],.func (.func fn) #[] #[]] w (Fk w (cI R D L G gr qs N M E way)):=by
 obtain⟨hR,d1,d2,l1,l2,g1,g2,lg,l16⟩:=cB hg;obtain⟨t1,t2⟩:=FJ N M E hla hlb e1 e2;obtain⟨c1,c2,c3,c4⟩:=Qg (gr:=gr) hg hla hlb e1 e2;have hM0:0<dX M (shP R D L gr N M E):=by unfold dX;split<;>first|exact Nat.mul_pos hM (Nat.pow_pos (by omega))|exact hM
 have n1: -500000≤shP R D L gr N M E:=by unfold shP;omega
 have n2:shP R D L gr N M E≤500000:=by unfold shP;omega
 have hNl:(Dg.dg 4294967296 (eZ N (shP R D L gr N M E))).length≤25626:=by
  unfold eZ
  split
  ·omega
  ·exact Nat.le_trans (Eg N _ 10000 15626 hla (by omega)) (by omega)
 have hMl:(Dg.dg 4294967296 (dX M (shP R D L gr N M E))).length≤25626:=by
  unfold dX
  split
  ·exact Nat.le_trans (Eg M _ 10000 15626 hlb (by omega)) (by omega)
  ·omega
 have hq:(Dg.dg 4294967296 (cH R D L gr N M E)).length≤25626:=Nat.le_trans (aH _ _ _ (by omega) (Nat.div_le_self _ _)) hNl;have hr:(Dg.dg 4294967296 (gF R D L gr N M E)).length≤25626:=Nat.le_trans (aH _ _ _ (by omega) (Nat.le_of_lt (Nat.mod_lt _ hM0))) hMl;refine Mt R D L G gr qs ao _ ca bo _ cb E fn (dY N M E) (aT R D (dY N M E)) (dj R D L gr N M E) (ai R) (cH R D L gr N M E) (gF R D L gr N M E) (dX M (shP R D L gr N M E)) (dm ((gF R D L gr N M E*2:Nat):Int) ((dX M (shP R D L gr N M E):Nat):Int)) (decide (cH R D L gr N M E % 2=1)) (rf R D L gr qs N M E way) (decide (aT R D (dY N M E)<L)) (decide (gF R D L gr N M E=0)) (decide (aT R D (dY N M E)<L)&&gr) (fM R D L gr qs N M E way) (io R D (fM R D L gr qs N M E way)) (gD R D (fM R D L gr qs N M E way) (dj R D L gr N M E)) (cI R D L G gr qs N M E way) w rfl rfl rfl ?_ ?_ ?_ ?_ ?_ ?_ ?_ ?_ HE ?_ ?_ ?_ ?_ ?_ ?_ ?_ ?_ ?_ ?_
 ·intro h
  exact if_pos h
 ·intro h
  exact if_neg (by rw[h];decide)
 ·exact M4 _ (by omega) (by omega)
 ·exact M4 _ (by omega) (by omega)
 ·intro h1 h2
  exact if_pos ⟨h1,h2⟩
 ·intro h
  refine if_neg ?_;rintro⟨h1,h2⟩
  rcases h with h|h
  ·rw[h1] at h
   cases h
  ·rw[h2] at h
   cases h
 ·intro h
  exact if_pos h
 ·intro h
  exact if_neg h
 ·intro w1 b
  exact WO qs ao ca bo cb N M E w1 (ha.l b) (hb.l b) hla hlb hM (by omega) (by omega)
 ·intro w1
  exact FE R D L G gr _ w1 d1 d2 (by omega) (by omega)
 ·intro w1
  have:=tY R D L G gr w1
  rwa [jf] at this
 ·intro w1 b
  exact Eh qs ao ca bo cb N M E (shP R D L gr N M E) w1 (ha.l b) (hb.l b) (by omega) (by omega) hM n1 n2
 ·intro v w1 h
  have:=eO v _ 1 w1 h (Dg.small_dg _ _ (by omega)) (by omega) (by omega) (by omega);rw[Dg.vl_dg _ _ (by omega)] at this;exact this
 ·intro v u w1 h1 h2
  have:=jF v u _ _ w1 h1 h2 (Dg.small_dg _ _ (by omega)) (Dg.small_dg _ _ (by omega)) (Dg.norm_dg _ _ (by omega)) (Dg.norm_dg _ _ (by omega))
  rwa [Dg.vl_dg _ _ (by omega),Dg.vl_dg _ _ (by omega)] at this
 ·intro v w1 h
  exact aaI v _ w1 h
 ·intro w1
  exact HAW _ _ _ w1
 ·intro v u w1 h1 h2
  have:=rj v u _ _ w1 h1 h2 (Dg.small_dg _ _ (by omega)) (Dg.small_cons.2 ⟨by omega,Dg.small_nil _ (by omega)⟩) (by omega) (by simp)
  rwa [Dg.vl_dg _ _ (by omega),show Dg.vl 4294967296 [1]=1 from rfl] at this
 ·intro v base w1 ho hbs
  exact Br R D L G gr v _ _ base w1 ho hbs d1 d2 (by omega) (by omega)
theorem jM (qs:Bool)(ao:Option Addr)(ca:Nat)(xs:List Nat)(bo:Option Addr)(cb:Nat)(ys:List Nat)(E R D L G:Int)(gr:Bool)(way:Int)(w:World)(ha:Rd w .u32 (.slice ao xs.length ca) xs)(hb:Rd w .u32 (.slice bo ys.length cb) ys)(sa:Dg.Small 4294967296 xs)(sb:Dg.Small 4294967296 ys):
  yC 31 #[yrV qs (.slice ao xs.length ca) (.slice bo ys.length cb) E,ygV R D L G gr,yi way] w (sq w (eE xs ys E R D L G way) (df xs ys E R D L G gr qs way)):=by
 refine Ob R D L G gr qs ao xs.length ca bo ys.length cb E way (jg (eA xs ys E) (bk R D L G)) (ac0 way) (T4 way) (iC way) ((xs.length:Int)==0) (cI R D L G gr qs (Dg.vl 4294967296 xs) (Dg.vl 4294967296 ys) E way) _ _ w ?_ ?_ rfl ?_ ?_ ?_ ?_ ?_ ?_ ?_
 ·intro h
  exact if_pos h
 ·intro h
  exact if_neg (by rw[h];decide)
 ·intro h
  have e:eE xs ys E R D L G way=jg (eA xs ys E) (bk R D L G):=if_neg h;exact⟨e,by unfold df;rw[e,if_neg h]⟩
 ·intro h hw
  have e:eE xs ys E R D L G way=6:=(if_pos h).trans (if_neg (by rw[hw];decide));exact⟨e,by unfold df;rw[e];rfl⟩
 ·intro h hw hz
  have e:eE xs ys E R D L G way=0:=(if_pos h).trans (if_pos hw);have hx:xs.length=0:=by simpa using hz
  exact⟨e,by unfold df;rw[e,if_pos rfl,if_pos hx]⟩
 ·intro h hw hz
  have e:eE xs ys E R D L G way=0:=(if_pos h).trans (if_pos hw);have hx: ¬xs.length=0:=by simpa using hz
  exact⟨e,by unfold df;rw[e,if_pos rfl,if_neg hx]⟩
 ·intro w1 b
  exact Qe qs ao ca xs bo cb ys E R D L G gr w1 (ha.l b) (hb.l b)
 ·intro w1 r hm
  exact PI way w1 r hm
 ·intro h hw hz w1 b
  obtain⟨h1,h2⟩:=C4 h;obtain⟨c1,c2,hl,e1,e2⟩:=gO h1;obtain⟨nx,lx⟩:=aF c1;obtain⟨ny,ly⟩:=aF c2;have ex:Dg.dg 4294967296 (Dg.vl 4294967296 xs)=xs:=Dg.dg_vl _ (by omega) _ sa nx;have ey:Dg.dg 4294967296 (Dg.vl 4294967296 ys)=ys:=Dg.dg_vl _ (by omega) _ sb ny;have hM:0<Dg.vl 4294967296 ys:=by
   refine Nat.pos_of_ne_zero fun c=> ?_
   rw[c] at ey;rw[←ey] at hl;exact absurd hl (by decide)
  have:=Qh R D L G gr qs ao ca bo cb (Dg.vl 4294967296 xs) (Dg.vl 4294967296 ys) E way (T4 way) w1 h2 (by rw[ex];exact ha.l b) (by rw[ey];exact hb.l b) (by rw[ex];omega) (by rw[ey];omega) hM e1 e2 (PO hw) (PK hw)
  rwa [ex,ey] at this
theorem mC {R D L G:Int}{gr s:Bool}{n:Nat}{e way:Int}(h1:1≤D)(hLG:L≤G)(h0:n≠0)(hh:dA R D L G gr n e=true):
  (cI R D L G gr s n 1 e way).ov=false∧((cI R D L G gr s n 1 e way).un=false∨gr=true)∧bare ⟨(cI R D L G gr s n 1 e way).s,(cI R D L G gr s n 1 e way).d,(ai R:Int)*(cI R D L G gr s n 1 e way).p⟩=bare ⟨s,n,e⟩:=by
 have hM:(1:Nat)≠0:=by omega
 have hs:L≤cP R D L gr n e∧cP R D L gr n e≤G∧(ai R:Int)*cP R D L gr n e≤e+(tz n:Int):=by
  unfold dA at hh
  rcases of_decide_eq_true hh with h|h
  ·exact absurd h h0
  ·exact h
 have hc:dj R D L gr n 1 e=cP R D L gr n e:=by
  unfold dj cP;rw[lU h0]
 obtain⟨p1,p2⟩:=nV s n e ((ai R:Int)*cP R D L gr n e) hs.2.2;have hl:gF R D L gr n 1 e=0:=by
  unfold gF shP;rw[hc];exact p1
 have hd:fM R D L gr s n 1 e way=cH R D L gr n 1 e:=by
  unfold fM;rw[if_neg];rintro⟨c,-⟩;exact of_decide_eq_false c hl
 obtain⟨c1,c2⟩:=uh R D L gr n 1 e h1 h0 hM (dj R D L gr n 1 e);have hw:cH R D L gr n 1 e=eZ n (e-(ai R:Int)*cP R D L gr n e)/dX 1 (e-(ai R:Int)*cP R D L gr n e):=by
  unfold cH shP;rw[hc]
 rw[kJ gr s n 1 e way h1 hLG h0 hM,hd,c1,c2,hc];refine⟨decide_eq_false (by omega), ?_, ?_⟩
 ·by_cases hg:gr=true
  ·exact .inr hg
  ·refine .inl (decide_eq_false fun c=> ?_)
   have e1:cP R D L gr n e=aT R D (dY n 1 e):=by
    unfold cP;rw[lU h0,if_neg];intro c2;exact hg (Bool.and_eq_true_iff.1 c2).2
   omega
 ·show bare ⟨s,cH R D L gr n 1 e,(ai R:Int)*(if cH R D L gr n 1 e=0 then 0 else cP R D L gr n e)⟩=_
  by_cases hz:cH R D L gr n 1 e=0
  ·rw[←p2,←hw,hz]
   simp[bare]
  ·rw[if_neg hz,hw,p2]
theorem Q7 (R D L G fam:Int)(gr:Bool)(sz ex:Nat)(F:Nat)(c p:Int)(ng:Bool)(ao:Option Addr)(dn dc:Nat)(w:World)(hp:p< -20000):
  yC 59 #[ylV R D L G gr sz ex fam F,yvV c ng (.slice ao dn dc) p] w (yR w (.tuple #[.string ⟨#[]⟩,yi 3])):=by
 have hsf:=cD;have bv:=af (w.alloc (.cells (ylA R D L G gr sz ex fam F) 116)) (.cells (yvA c ng (.slice ao dn dc) p) 68);have l0:=(ah w (ylL R D L G gr sz ex fam F) 116).l bv;have m0:=ah (w.alloc (.cells (ylA R D L G gr sz ex fam F) 116)) (yvL c ng (.slice ao dn dc) p) 68;have b0:=aa (af w (.cells (ylA R D L G gr sz ex fam F) 116)) bv;rw[World.size_alloc] at m0;clear bv;obtain⟨x0,x1,x2,x3,x4,x5,x6,x7,x8⟩:=l0.cs9;obtain⟨u0,u1,u2,u3⟩:=m0.cs4
 go_enter func59,ntmps59
 go_wp2
 go_ret2
 exact⟨rfl,b0⟩
theorem NN (R D L G fam:Int)(gr:Bool)(sz ex:Nat)(F:Nat)(c p:Int)(ng:Bool)(ao:Option Addr)(dn dc:Nat)(w:World)(hp:20000<p):
  yC 59 #[ylV R D L G gr sz ex fam F,yvV c ng (.slice ao dn dc) p] w (yR w (.tuple #[.string ⟨#[]⟩,yi 3])):=by
 have hp1: ¬p< -20000:=by omega
 have hsf:=cD;have bv:=af (w.alloc (.cells (ylA R D L G gr sz ex fam F) 116)) (.cells (yvA c ng (.slice ao dn dc) p) 68);have l0:=(ah w (ylL R D L G gr sz ex fam F) 116).l bv;have m0:=ah (w.alloc (.cells (ylA R D L G gr sz ex fam F) 116)) (yvL c ng (.slice ao dn dc) p) 68;have b0:=aa (af w (.cells (ylA R D L G gr sz ex fam F) 116)) bv;rw[World.size_alloc] at m0;clear bv;obtain⟨x0,x1,x2,x3,x4,x5,x6,x7,x8⟩:=l0.cs9;obtain⟨u0,u1,u2,u3⟩:=m0.cs4
 go_enter func59,ntmps59
 go_wp2
 go_ret2
 exact⟨rfl,b0⟩
def plT (k:Nat)(s:Bool)(n:Nat)(E:Int):fz:=cI (rdN k) (dgN k) (lsI k) (gsI k) (decide (k≤3)) s n 1 E 3
def enS (k:Nat)(ng:Bool)(xs:List Nat)(p:Int):ByteArray:=
 if enE k ng xs p=0 then cF (kU k (plT k (enN k ng xs p).1.s (enN k ng xs p).1.n (enN k ng xs p).1.e).s (heE (rdN k) (lsI k) (gW k) (plT k (enN k ng xs p).1.s (enN k ng xs p).1.n (enN k ng xs p).1.e)) (plT k (enN k ng xs p).1.s (enN k ng xs p).1.n (enN k ng xs p).1.e).d) else⟨#[]⟩
theorem afx (n wy fam R D L G rc:Int)(gr qs:Bool)(ao:Option Addr)(la ca:Nat)(bo:Option Addr)(lb cb:Nat)(E:Int)(ps:Bool)(pd:Nat)(pp:Int)(ex ov un:Bool)(c:Int)(g:Bool)(m:Nat)(q fl:Int)(st:ByteArray)(f1 e1:Int)(X:Value)(w:World)
  (hX0:rc≠0→X= .tuple #[.string ⟨#[]⟩,yi 0,yi rc]) (hX1:rc=0→X= .tuple #[.string st,yi f1,yi e1])
  (HD:yJ 74 #[yi n] (.tuple #[ykV n 0 fam R D L G gr,yi 0]))
  (HR: ∀w1,yB w w1→yC 31 #[yrV qs (.slice ao la ca) (.slice bo lb cb) E,ygV R D L G gr,yi wy] w1 fun z w'=> ∃po pc,z= .returned (.tuple #[ypV ps (yT po pd pc) pp ex ov un,yi rc])∧Rd w' .u32 (yT po pd pc) (Dg.dg 4294967296 pd)∧yB w1 w')
  (HSt:rc=0→ ∀po pc w1,yB w w1→Rd w1 .u32 (yT po pd pc) (Dg.dg 4294967296 pd)→yC 76 #[ykV n wy fam R D L G gr,ypV ps (yT po pd pc) pp ex ov un] w1 (B6 w1 c g m q fl))
  (HEn:rc=0→ ∀vo vc w1,yB w w1→Rd w1 .u32 (yT vo m vc) (Dg.dg 4294967296 m)→yC 75 #[ykV n wy fam R D L G gr,yvV c g (yT vo m vc) q,yi fl] w1 (yR w1 (.tuple #[.string st,yi f1,yi e1]))):
  yC 52 #[yi n,yrV qs (.slice ao la ca) (.slice bo lb cb) E,yi wy] w fun z w'=>z= .returned X∧yB w w':=by
 replace HD:Hid _:=HD;replace HR:Hid _:=HR;replace HSt:Hid _:=HSt;replace HEn:Hid _:=HEn;replace hX0:Hid _:=hX0;replace hX1:Hid _:=hX1;have a0:=af w (.cells (yrA qs (.slice ao la ca) (.slice bo lb cb) E) 84);have q0:=ah w (yrL qs (.slice ao la ca) (.slice bo lb cb) E) 84
 go_enter func52,ntmps52
 go_wp2_with fail
 refine(HD.out _).mono ?_;rintro z w1 ⟨rfl,b1⟩;have al:=af w1 (.cells (ykA n 0 fam R D L G gr) 150);have d1:=ah w1 (ykL n 0 fam R D L G gr) 150;have q1:=(q0.l b1).l al;have b2:=aa (aa a0 b1) al;have hqd:w.heap.size<w1.heap.size:=(q0.l b1).lt;clear a0 b1 al q0 HD
 go_upto_region 2 with fail
 generalize w1.alloc (.cells (ykA n 0 fam R D L G gr) 150)=W1 at b2 d1 q1⊢;generalize w1.heap.size=PD at d1 hqd⊢;have bu:=ag W1 PD 1 (yi wy);have d2:au (W1.setCell ⟨PD,1,none⟩ (yi wy)) PD 150 (ykL n wy fam R D L G gr):=d1.set 1 (yi wy);have q2:=bu.loc q1 (by omega);have b3:=bu.below b2 (by omega);have x1:=d1.c 1 rfl;have f1':=d1.f 1;clear bu d1 q1 b2
 go_upto_region 5 with fail
 generalize W1.setCell ⟨PD,1,none⟩ (yi wy)=W2 at d2 q2 b3⊢;obtain⟨y0,y1,y2,y3,y4,y5,y6,y7⟩:=d2.cs8;obtain⟨z0,z1,z2,z3⟩:=q2.cs4
 go_wp2_with fail
 refine(HR.out _ b3).mono ?_;rintro z w3 ⟨po,pc,rfl,rp,bp⟩;have al:=af w3 (.cells (ypA ps (yT po pd pc) pp ex ov un) 80);have p4:=ah w3 (ypL ps (yT po pd pc) pp ex ov un) 80;have d4:=(d2.l bp).l al;have r4:=rp.l al;have b4:=aa (aa b3 bp) al;clear y0 y1 y2 y3 y4 y5 y6 y7 z0 z1 z2 z3 d2 q2 b3 rp bp al HR x1 f1'
 go_upto_region 6 with fail
 generalize w3.alloc (.cells (ypA ps (yT po pd pc) pp ex ov un) 80)=W4 at d4 p4 r4 b4⊢;generalize w3.heap.size=PP at p4⊢
 by_cases hrc:rc=0
 ·replace HSt:Hid _:=HSt.out hrc
  replace HEn:Hid _:=HEn.out hrc;have hx:=hX1.out hrc;subst hx hrc;clear hX0 hX1
  go_upto_region 8 with fail
  have bW:yB W4 W4.drew:=(Below.refl _ _).drew;have d5:=d4.l bW;have p5:=p4.l bW;have r5:=r4.l bW;have b5:=aa b4 bW;clear bW d4 p4 r4 b4;refine wp_region_held_drew (S:=fun wq=>wq.rangeAt PD 0 (ykL n wy fam R D L G gr)∧wq.rangeAt PP 0 (ypL ps (yT po pd pc) pp ex ov un)) (by kernel_rfl) ⟨d5.range,p5.range⟩ (fun hS0=> ?_)
  refine tq 0 ((ykV n wy fam R D L G gr)) rfl (fun w0 hw0=>fy 150 (.tmp 9) rfl PD 0 (by kernel_rfl) _ _ hw0.1 underlying150 rfl (by kernel_rfl)) hS0 ?_
  refine tq 1 ((ykV n wy fam R D L G gr)) rfl (fun w0 hw0=>fy 150 (.tmp 9) rfl PD 0 (by kernel_rfl) _ _ hw0.1 underlying150 rfl (by kernel_rfl)) hS0 ?_
  refine tq 2 ((ypV ps (yT po pd pc) pp ex ov un)) rfl (fun w0 hw0=>fy 80 (.tmp 11) rfl PP 0 (by kernel_rfl) _ _ hw0.2 underlying80 rfl (by kernel_rfl)) hS0 ?_
  refine wpAnyH_ready (rs:=[3]) (by kernel_rfl) (by simp) ?_;refine AllReadyH.cons rfl (fun K hK=> ?_) AllReadyH.nil
  go_simp
  refine(HSt.out _ _ _ b5 r5).mono ?_;rintro z w6 ⟨u,rfl,r6,b6⟩;obtain⟨vo,vc,hu⟩:=r6.shape;subst hu;refine hK.out _ _ ⟨(d5.l b6).range,(p5.l b6).range⟩ (fun hS6=> ?_)
  have d6:=d5.l b6;have p6:=p5.l b6;have b06:=aa b5 b6;clear hK K b6 d5 p5 r5 b5;refine tq 4 ((yvV c g (yT vo m vc) q)) rfl (fun w0 _=>by go_simp) hS6 ?_
  refine tq 5 (yi fl) rfl (fun w0 _=>by go_simp) hS6 ?_
  refine wpAnyH_ready (rs:=[6]) (by kernel_rfl) (by simp) ?_;refine AllReadyH.cons rfl (fun K hK=> ?_) AllReadyH.nil
  go_simp
  refine(HEn.out _ _ _ b06 r6).mono ?_;rintro z w7 ⟨rfl,b7⟩;refine hK.out _ _ ⟨(d6.l b7).range,(p6.l b7).range⟩ (fun hS7=> ?_)
  have b07:=aa b06 b7;clear hK K b7 d6 p6 b06 r6;refine tq 7 (.string st) rfl (fun w0 _=>by go_simp) hS7 ?_
  refine tq 8 (yi f1) rfl (fun w0 _=>by go_simp) hS7 ?_
  refine tq 9 (yi e1) rfl (fun w0 _=>by go_simp) hS7 ?_
  refine tq 10 (.string st) rfl (fun w0 _=>by go_simp) hS7 ?_
  refine tq 11 (yi f1) rfl (fun w0 _=>by go_simp) hS7 ?_
  refine tq 12 (yi e1) rfl (fun w0 _=>by go_simp) hS7 ?_
  simp only[Act.put,List.getElem_toArray,List.getElem_cons_succ,List.getElem_cons_zero,List.setIfInBounds_toArray,List.set_cons_zero,List.set_cons_succ];refine wpAnyH_done (by kernel_rfl) ?_ _
  go_wp2
  go_ret3
  exact⟨rfl,b07⟩
 ·have hx:=hX0.out hrc
  have hrf:(rc==0)=false:=by simpa using hrc
  subst hx;clear hX0 hX1 HSt HEn hrc
  go_wp2
  go_ret3
  exact⟨rfl,b4⟩
end Go.Proofs.YtddkchlamdhgcaaGreatDoor

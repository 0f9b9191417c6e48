/-
  Texts laid together: As4, Fi1.
-/
import Derived.Deep.CutBlock
import Derived.Test.YtpainhklfoaniaaGreatDoorSc18
import Derived.Test.YtpainhklfoaniaaGreatDoorSc22
set_option maxRecDepth 100000
set_option maxHeartbeats 6400000
namespace Go.Proofs.YtpainhklfoaniaaGreatDoor
open _root_.Go.Proofs.Tryz
open Go.RowKit
def B6 (w:World)(c:Int)(g:Bool)(m:Nat)(q fl:Int)(z:Ending)(w':World):Prop:=
 ∃v,z= .returned (.tuple #[yvV c g v q,yi fl])∧Rd w' .u32 v (Dg.dg 4294967296 m)∧yB w w'
theorem Lr (n wy fam R D L G pw:Int)(gr ng ex un:Bool)(ao:Option Addr)(la ca:Nat)(c q:Int)(g:Bool)(m:Nat)(w:World)
  (HO: ∀w1,yB w w1→yC 104 #[ykV n wy fam R D L G gr,.bool ng] w1 (iT w1 c g m q)):
  yC 77 #[ykV n wy fam R D L G gr,ypV ng (.slice ao la ca) pw ex true un] w (B6 w c g m q 5):=by
 replace HO:Hid _:=HO;have a1:=af w (.cells (ykA n wy fam R D L G gr) 143);have a2:=af (w.alloc (.cells (ykA n wy fam R D L G gr) 143)) (.cells (ypA ng (.slice ao la ca) pw ex true un) 112);have a3:=af ((w.alloc (.cells (ykA n wy fam R D L G gr) 143)).alloc (.cells (ypA ng (.slice ao la ca) pw ex true un) 112)) (.cells (yvA 0 false yN 0) 77);have d0:=((ah w (ykL n wy fam R D L G gr) 143).l a2).l a3;have p0:=(ah (w.alloc (.cells (ykA n wy fam R D L G gr) 143)) (ypL ng (.slice ao la ca) pw ex true un) 112).l a3;have v0:=ah ((w.alloc (.cells (ykA n wy fam R D L G gr) 143)).alloc (.cells (ypA ng (.slice ao la ca) pw ex true un) 112)) (yvL 0 false yN 0) 77;rw[World.size_alloc] at p0;rw[World.size_alloc,World.size_alloc] at v0;have b0:=aa (aa a1 a2) a3;clear a1 a2 a3
 go_enter func77,ntmps77
 go_upto_block 0 with fail
 generalize((w.alloc (.cells (ykA n wy fam R D L G gr) 143)).alloc (.cells (ypA ng (.slice ao la ca) pw ex true un) 112)).alloc (.cells (yvA 0 false yN 0) 77)=W0 at d0 p0 v0 b0⊢;obtain⟨y0,y1,y2,y3,y4,y5,y6,y7⟩:=d0.cs8;obtain⟨x0,x1,x2,x3,x4,x5⟩:=p0.cs6
 go_wp2_with fail
 refine(HO.out _ b0).mono ?_;rintro z w1 ⟨u,rfl,r1,b1⟩;obtain⟨mo,mc,hu⟩:=r1.shape;subst hu;have v1:=v0.l b1;have b01:=aa b0 b1;clear y0 y1 y2 y3 y4 y5 y6 y7 x0 x1 x2 x3 x4 x5 d0 p0 v0 b0 b1 HO;have cR:au ((((w1.setCell ⟨w.heap.size+1+1,0,none⟩ (yi c)).setCell ⟨w.heap.size+1+1,1,none⟩ (.bool g)).setCell ⟨w.heap.size+1+1,2,none⟩ (yT mo m mc)).setCell ⟨w.heap.size+1+1,3,none⟩ (yi q)) (w.heap.size+1+1) 77 (yvL c g (yT mo m mc) q):=((((v1.set 0 (yi c)).set 1 (.bool g)).set 2 (yT mo m mc)).set 3 (yi q));have bu:=(((ag w1 (w.heap.size+1+1) 0 (yi c)).trans (ag _ (w.heap.size+1+1) 1 (.bool g))).trans (ag _ (w.heap.size+1+1) 2 (yT mo m mc))).trans (ag _ (w.heap.size+1+1) 3 (yi q));have bR:=bu.below b01 (by omega);have rR:=bu.rd r1 (aX r1 v1 (by simp));have hl:=run_loadVar_mid (P:=Tryz.prog) _ (w.heap.size+1+1) 0 77 (yvL c g (yT mo m mc) q) _ cR.range underlying77 rfl (by kernel_rfl);have HH:Hid (_∧_∧_):=⟨hl,rR,bR⟩;obtain⟨z0,z1,z2,z3⟩:=v1.cs4;have fz0:=v1.f 0;have fz1:=v1.f 1;have fz2:=v1.f 2;have fz3:=v1.f 3;clear hl bR bu cR rR;clear v1 b01 r1
 go_wp2
 obtain⟨hl,rR,bR⟩:=HH.out;exact bodyPost_ret (aj results77 rfl rfl hl) rfl ⟨_,rfl,rR,bR⟩
theorem OU (n wy fam R D L G pw:Int)(gr ng ex:Bool)(ao:Option Addr)(la ca:Nat)(w:World)(hlt:pw<L):
  yC 77 #[ykV n wy fam R D L G gr,ypV ng (.slice ao la ca) pw ex false true] w (B6 w 1 false 0 0 3):=by
 have a1:=af w (.cells (ykA n wy fam R D L G gr) 143);have a2:=af (w.alloc (.cells (ykA n wy fam R D L G gr) 143)) (.cells (ypA ng (.slice ao la ca) pw ex false true) 112);have a3:=af ((w.alloc (.cells (ykA n wy fam R D L G gr) 143)).alloc (.cells (ypA ng (.slice ao la ca) pw ex false true) 112)) (.cells (yvA 0 false yN 0) 77);have d0:=((ah w (ykL n wy fam R D L G gr) 143).l a2).l a3;have p0:=(ah (w.alloc (.cells (ykA n wy fam R D L G gr) 143)) (ypL ng (.slice ao la ca) pw ex false true) 112).l a3;have v0:=ah ((w.alloc (.cells (ykA n wy fam R D L G gr) 143)).alloc (.cells (ypA ng (.slice ao la ca) pw ex false true) 112)) (yvL 0 false yN 0) 77;rw[World.size_alloc] at p0;rw[World.size_alloc,World.size_alloc] at v0;have b0:=aa (aa a1 a2) a3;clear a1 a2 a3
 go_enter func77,ntmps77
 go_upto_block 0 with fail
 generalize((w.alloc (.cells (ykA n wy fam R D L G gr) 143)).alloc (.cells (ypA ng (.slice ao la ca) pw ex false true) 112)).alloc (.cells (yvA 0 false yN 0) 77)=W0 at d0 p0 v0 b0⊢;obtain⟨x0,x1,x2,x3,x4,x5⟩:=p0.cs6;have y5:=d0.c 5 rfl;have cR:au ((((W0.setCell ⟨w.heap.size+1+1,0,none⟩ (yi 1)).setCell ⟨w.heap.size+1+1,1,none⟩ (.bool false)).setCell ⟨w.heap.size+1+1,2,none⟩ yN).setCell ⟨w.heap.size+1+1,3,none⟩ (yi 0)) (w.heap.size+1+1) 77 (yvL 1 false yN 0):=((((v0.set 0 (yi 1)).set 1 (.bool false)).set 2 yN).set 3 (yi 0));have bu:=(((ag W0 (w.heap.size+1+1) 0 (yi 1)).trans (ag _ (w.heap.size+1+1) 1 (.bool false))).trans (ag _ (w.heap.size+1+1) 2 yN)).trans (ag _ (w.heap.size+1+1) 3 (yi 0));have bR:=bu.below b0 (by omega);have hl:=run_loadVar_mid (P:=Tryz.prog) _ (w.heap.size+1+1) 0 77 (yvL 1 false yN 0) _ cR.range underlying77 rfl (by kernel_rfl);have HH:Hid (_∧_):=⟨hl,bR⟩;obtain⟨z0,z1,z2,z3⟩:=v0.cs4;have fz0:=v0.f 0;have fz1:=v0.f 1;have fz2:=v0.f 2;have fz3:=v0.f 3;clear hl bR bu cR;clear v0 b0 d0 p0
 go_wp2
 obtain⟨hl,bR⟩:=HH.out;exact bodyPost_ret (aj results77 rfl rfl hl) rfl ⟨_,rfl,aN _ _,bR⟩
theorem Id (n wy fam R D L G pw:Int)(gr ng ex un:Bool)(ao:Option Addr)(la ca:Nat)(m:Nat)(w:World)(hla:la=(Dg.dg 4294967296 m).length)(hr:Rd w .u32 (.slice ao la ca) (Dg.dg 4294967296 m))(hlt:un=true→ ¬pw<L)(cl fl:Int)(hcl:cl=if la=0 then 1 else 2)(hfl:fl=if ex=true then 0 else if un=true then 3 else 1):
  yC 77 #[ykV n wy fam R D L G gr,ypV ng (.slice ao la ca) pw ex false un] w (B6 w cl ng m pw fl):=by
 have HE:Hid (la=(Dg.dg 4294967296 m).length∧cl=(if la=0 then 1 else 2)∧fl=if ex=true then 0 else if un=true then 3 else 1):=⟨hla,hcl,hfl⟩
 clear hcl hfl hla;have a1:=af w (.cells (ykA n wy fam R D L G gr) 143);have a2:=af (w.alloc (.cells (ykA n wy fam R D L G gr) 143)) (.cells (ypA ng (.slice ao la ca) pw ex false un) 112);have a3:=af ((w.alloc (.cells (ykA n wy fam R D L G gr) 143)).alloc (.cells (ypA ng (.slice ao la ca) pw ex false un) 112)) (.cells (yvA 0 false yN 0) 77);have d0:=((ah w (ykL n wy fam R D L G gr) 143).l a2).l a3;have p0:=(ah (w.alloc (.cells (ykA n wy fam R D L G gr) 143)) (ypL ng (.slice ao la ca) pw ex false un) 112).l a3;have v0:=ah ((w.alloc (.cells (ykA n wy fam R D L G gr) 143)).alloc (.cells (ypA ng (.slice ao la ca) pw ex false un) 112)) (yvL 0 false yN 0) 77;rw[World.size_alloc] at p0;rw[World.size_alloc,World.size_alloc] at v0;have b0:=aa (aa a1 a2) a3;clear a1 a2 a3
 go_enter func77,ntmps77
 go_upto_block 0 with fail
 generalize((w.alloc (.cells (ykA n wy fam R D L G gr) 143)).alloc (.cells (ypA ng (.slice ao la ca) pw ex false un) 112)).alloc (.cells (yvA 0 false yN 0) 77)=W0 at d0 p0 v0 b0⊢;have r0:=hr.l b0;clear hr;have al:=af W0 (.cells (yvA 2 ng (.slice ao la ca) pw) 77);have q1:=ah W0 (yvL 2 ng (.slice ao la ca) pw) 77;have p1:=p0.l al;have v1:=v0.l al;have r1:=r0.l al;have b1:=aa b0 al;have hq:w.heap.size+1+1<W0.heap.size:=v0.lt;have hne:W0.heap.size≠w.heap.size+1:=by omega
 obtain⟨x0,x1,x2,x3,x4,x5⟩:=p0.cs6;have y5:=d0.c 5 rfl;clear al p0 v0 b0 r0;have go: ∀UU,UU=un→(UU=false∨(UU=true∧ ¬pw<L)):=fun UU h=>by
  subst h
  cases UU
  ·exact .inl rfl
  ·exact .inr ⟨rfl,hlt rfl⟩
 rcases go un rfl with hun| ⟨hun,hl0⟩
 ·subst hun
  clear hlt go
  go_upto_region 6 with fail
  generalize W0.alloc (.cells (yvA 2 ng (.slice ao la ca) pw) 77)=WA at q1 p1 v1 r1 b1⊢;generalize W0.heap.size=Q at q1 hq hne⊢;clear x0 x1 x2 x3 x4 x5 y5 d0;obtain⟨x0,x1,x2,x3,x4,x5⟩:=p1.cs6
  by_cases hz:la=0
  ·have hz1:(((la:Nat):Int)==0)=true:=by rw[hz];rfl
   have hcl:cl=1:=by rw[HE.out.2.1,if_pos hz]
   subst hcl;clear hz;have c0:=q1.c 0 rfl;have f0:=q1.f 0;have bq:=ag WA Q 0 (yi 1);have q2:au (WA.setCell ⟨Q,0,none⟩ (yi 1)) Q 77 (yvL 1 ng (.slice ao la ca) pw):=q1.set 0 (yi 1);have p2:=bq.loc p1 (by omega);have v2:=bq.loc v1 (by omega);have r2:=bq.rd r1 (aX r1 q1 (by simp));have b2:=bq.below b1 (by omega)
   go_upto_block 1 with fail
   generalize WA.setCell ⟨Q,0,none⟩ (yi 1)=W1 at q2 p2 v2 r2 b2⊢;clear c0 f0 bq q1 p1 v1 r1 b1 x0 x1 x2 x3 x4 x5 hz1;obtain⟨x0,x1,x2,x3,x4,x5⟩:=p2.cs6;clear p2
   cases ex
   ·have hfl:fl=1:=HE.out.2.2
    subst hfl;clear HE;have cR:au ((((W1.setCell ⟨w.heap.size+1+1,0,none⟩ (yi 1)).setCell ⟨w.heap.size+1+1,1,none⟩ (.bool ng)).setCell ⟨w.heap.size+1+1,2,none⟩ (.slice ao la ca)).setCell ⟨w.heap.size+1+1,3,none⟩ (yi pw)) (w.heap.size+1+1) 77 (yvL 1 ng (.slice ao la ca) pw):=((((v2.set 0 (yi 1)).set 1 (.bool ng)).set 2 (.slice ao la ca)).set 3 (yi pw));have bu:=(((ag W1 (w.heap.size+1+1) 0 (yi 1)).trans (ag _ (w.heap.size+1+1) 1 (.bool ng))).trans (ag _ (w.heap.size+1+1) 2 (.slice ao la ca))).trans (ag _ (w.heap.size+1+1) 3 (yi pw));have bR:=bu.below b2 (by omega);have rR:=bu.rd r2 (aX r2 v2 (by simp));have hl:=run_loadVar_mid (P:=Tryz.prog) _ (w.heap.size+1+1) 0 77 (yvL 1 ng (.slice ao la ca) pw) _ cR.range underlying77 rfl (by kernel_rfl);have HH:Hid (_∧_∧_):=⟨hl,rR,bR⟩;obtain⟨z0,z1,z2,z3⟩:=v2.cs4;have fz0:=v2.f 0;have fz1:=v2.f 1;have fz2:=v2.f 2;have fz3:=v2.f 3;clear hl bR bu cR rR;obtain⟨k0,k1,k2,k3⟩:=q2.cs4;clear v2 b2 r2 q2
    go_wp2
    obtain⟨hl,rR,bR⟩:=HH.out;exact bodyPost_ret (aj results77 rfl rfl hl) rfl ⟨_,rfl,rR,bR⟩
   ·have hfl:fl=0:=HE.out.2.2
    subst hfl;clear HE;have cR:au ((((W1.setCell ⟨w.heap.size+1+1,0,none⟩ (yi 1)).setCell ⟨w.heap.size+1+1,1,none⟩ (.bool ng)).setCell ⟨w.heap.size+1+1,2,none⟩ (.slice ao la ca)).setCell ⟨w.heap.size+1+1,3,none⟩ (yi pw)) (w.heap.size+1+1) 77 (yvL 1 ng (.slice ao la ca) pw):=((((v2.set 0 (yi 1)).set 1 (.bool ng)).set 2 (.slice ao la ca)).set 3 (yi pw));have bu:=(((ag W1 (w.heap.size+1+1) 0 (yi 1)).trans (ag _ (w.heap.size+1+1) 1 (.bool ng))).trans (ag _ (w.heap.size+1+1) 2 (.slice ao la ca))).trans (ag _ (w.heap.size+1+1) 3 (yi pw));have bR:=bu.below b2 (by omega);have rR:=bu.rd r2 (aX r2 v2 (by simp));have hl:=run_loadVar_mid (P:=Tryz.prog) _ (w.heap.size+1+1) 0 77 (yvL 1 ng (.slice ao la ca) pw) _ cR.range underlying77 rfl (by kernel_rfl);have HH:Hid (_∧_∧_):=⟨hl,rR,bR⟩;obtain⟨z0,z1,z2,z3⟩:=v2.cs4;have fz0:=v2.f 0;have fz1:=v2.f 1;have fz2:=v2.f 2;have fz3:=v2.f 3;clear hl bR bu cR rR;obtain⟨k0,k1,k2,k3⟩:=q2.cs4;clear v2 b2 r2 q2
    go_wp2
    obtain⟨hl,rR,bR⟩:=HH.out;exact bodyPost_ret (aj results77 rfl rfl hl) rfl ⟨_,rfl,rR,bR⟩
  ·have hz1:(((la:Nat):Int)==0)=false:=beq_eq_false_iff_ne.2 (by omega)
   have hcl:cl=2:=by rw[HE.out.2.1,if_neg hz]
   subst hcl;clear hz
   go_upto_block 1 with fail
   have q2:=q1;have v2:=v1;have r2:=r1;have b2:=b1;clear q1 v1 r1 b1 p1 hz1;generalize WA=W1 at*
   cases ex
   ·have hfl:fl=1:=HE.out.2.2
    subst hfl;clear HE;have cR:au ((((W1.setCell ⟨w.heap.size+1+1,0,none⟩ (yi 2)).setCell ⟨w.heap.size+1+1,1,none⟩ (.bool ng)).setCell ⟨w.heap.size+1+1,2,none⟩ (.slice ao la ca)).setCell ⟨w.heap.size+1+1,3,none⟩ (yi pw)) (w.heap.size+1+1) 77 (yvL 2 ng (.slice ao la ca) pw):=((((v2.set 0 (yi 2)).set 1 (.bool ng)).set 2 (.slice ao la ca)).set 3 (yi pw));have bu:=(((ag W1 (w.heap.size+1+1) 0 (yi 2)).trans (ag _ (w.heap.size+1+1) 1 (.bool ng))).trans (ag _ (w.heap.size+1+1) 2 (.slice ao la ca))).trans (ag _ (w.heap.size+1+1) 3 (yi pw));have bR:=bu.below b2 (by omega);have rR:=bu.rd r2 (aX r2 v2 (by simp));have hl:=run_loadVar_mid (P:=Tryz.prog) _ (w.heap.size+1+1) 0 77 (yvL 2 ng (.slice ao la ca) pw) _ cR.range underlying77 rfl (by kernel_rfl);have HH:Hid (_∧_∧_):=⟨hl,rR,bR⟩;obtain⟨z0,z1,z2,z3⟩:=v2.cs4;have fz0:=v2.f 0;have fz1:=v2.f 1;have fz2:=v2.f 2;have fz3:=v2.f 3;clear hl bR bu cR rR;obtain⟨k0,k1,k2,k3⟩:=q2.cs4;clear v2 b2 r2 q2
    go_wp2
    obtain⟨hl,rR,bR⟩:=HH.out;exact bodyPost_ret (aj results77 rfl rfl hl) rfl ⟨_,rfl,rR,bR⟩
   ·have hfl:fl=0:=HE.out.2.2
    subst hfl;clear HE;have cR:au ((((W1.setCell ⟨w.heap.size+1+1,0,none⟩ (yi 2)).setCell ⟨w.heap.size+1+1,1,none⟩ (.bool ng)).setCell ⟨w.heap.size+1+1,2,none⟩ (.slice ao la ca)).setCell ⟨w.heap.size+1+1,3,none⟩ (yi pw)) (w.heap.size+1+1) 77 (yvL 2 ng (.slice ao la ca) pw):=((((v2.set 0 (yi 2)).set 1 (.bool ng)).set 2 (.slice ao la ca)).set 3 (yi pw));have bu:=(((ag W1 (w.heap.size+1+1) 0 (yi 2)).trans (ag _ (w.heap.size+1+1) 1 (.bool ng))).trans (ag _ (w.heap.size+1+1) 2 (.slice ao la ca))).trans (ag _ (w.heap.size+1+1) 3 (yi pw));have bR:=bu.below b2 (by omega);have rR:=bu.rd r2 (aX r2 v2 (by simp));have hl:=run_loadVar_mid (P:=Tryz.prog) _ (w.heap.size+1+1) 0 77 (yvL 2 ng (.slice ao la ca) pw) _ cR.range underlying77 rfl (by kernel_rfl);have HH:Hid (_∧_∧_):=⟨hl,rR,bR⟩;obtain⟨z0,z1,z2,z3⟩:=v2.cs4;have fz0:=v2.f 0;have fz1:=v2.f 1;have fz2:=v2.f 2;have fz3:=v2.f 3;clear hl bR bu cR rR;obtain⟨k0,k1,k2,k3⟩:=q2.cs4;clear v2 b2 r2 q2
    go_wp2
    obtain⟨hl,rR,bR⟩:=HH.out;exact bodyPost_ret (aj results77 rfl rfl hl) rfl ⟨_,rfl,rR,bR⟩
 ·subst hun
  clear hlt go
  go_upto_region 6 with fail
  generalize W0.alloc (.cells (yvA 2 ng (.slice ao la ca) pw) 77)=WA at q1 p1 v1 r1 b1⊢;generalize W0.heap.size=Q at q1 hq hne⊢;clear x0 x1 x2 x3 x4 x5 y5 d0;obtain⟨x0,x1,x2,x3,x4,x5⟩:=p1.cs6
  by_cases hz:la=0
  ·have hz1:(((la:Nat):Int)==0)=true:=by rw[hz];rfl
   have hcl:cl=1:=by rw[HE.out.2.1,if_pos hz]
   subst hcl;clear hz;have c0:=q1.c 0 rfl;have f0:=q1.f 0;have bq:=ag WA Q 0 (yi 1);have q2:au (WA.setCell ⟨Q,0,none⟩ (yi 1)) Q 77 (yvL 1 ng (.slice ao la ca) pw):=q1.set 0 (yi 1);have p2:=bq.loc p1 (by omega);have v2:=bq.loc v1 (by omega);have r2:=bq.rd r1 (aX r1 q1 (by simp));have b2:=bq.below b1 (by omega)
   go_upto_block 1 with fail
   generalize WA.setCell ⟨Q,0,none⟩ (yi 1)=W1 at q2 p2 v2 r2 b2⊢;clear c0 f0 bq q1 p1 v1 r1 b1 x0 x1 x2 x3 x4 x5 hz1;obtain⟨x0,x1,x2,x3,x4,x5⟩:=p2.cs6;clear p2
   cases ex
   ·have hfl:fl=3:=HE.out.2.2
    subst hfl;clear HE;have cR:au ((((W1.setCell ⟨w.heap.size+1+1,0,none⟩ (yi 1)).setCell ⟨w.heap.size+1+1,1,none⟩ (.bool ng)).setCell ⟨w.heap.size+1+1,2,none⟩ (.slice ao la ca)).setCell ⟨w.heap.size+1+1,3,none⟩ (yi pw)) (w.heap.size+1+1) 77 (yvL 1 ng (.slice ao la ca) pw):=((((v2.set 0 (yi 1)).set 1 (.bool ng)).set 2 (.slice ao la ca)).set 3 (yi pw));have bu:=(((ag W1 (w.heap.size+1+1) 0 (yi 1)).trans (ag _ (w.heap.size+1+1) 1 (.bool ng))).trans (ag _ (w.heap.size+1+1) 2 (.slice ao la ca))).trans (ag _ (w.heap.size+1+1) 3 (yi pw));have bR:=bu.below b2 (by omega);have rR:=bu.rd r2 (aX r2 v2 (by simp));have hl:=run_loadVar_mid (P:=Tryz.prog) _ (w.heap.size+1+1) 0 77 (yvL 1 ng (.slice ao la ca) pw) _ cR.range underlying77 rfl (by kernel_rfl);have HH:Hid (_∧_∧_):=⟨hl,rR,bR⟩;obtain⟨z0,z1,z2,z3⟩:=v2.cs4;have fz0:=v2.f 0;have fz1:=v2.f 1;have fz2:=v2.f 2;have fz3:=v2.f 3;clear hl bR bu cR rR;obtain⟨k0,k1,k2,k3⟩:=q2.cs4;clear v2 b2 r2 q2
    go_wp2
    obtain⟨hl,rR,bR⟩:=HH.out;exact bodyPost_ret (aj results77 rfl rfl hl) rfl ⟨_,rfl,rR,bR⟩
   ·have hfl:fl=0:=HE.out.2.2
    subst hfl;clear HE;have cR:au ((((W1.setCell ⟨w.heap.size+1+1,0,none⟩ (yi 1)).setCell ⟨w.heap.size+1+1,1,none⟩ (.bool ng)).setCell ⟨w.heap.size+1+1,2,none⟩ (.slice ao la ca)).setCell ⟨w.heap.size+1+1,3,none⟩ (yi pw)) (w.heap.size+1+1) 77 (yvL 1 ng (.slice ao la ca) pw):=((((v2.set 0 (yi 1)).set 1 (.bool ng)).set 2 (.slice ao la ca)).set 3 (yi pw));have bu:=(((ag W1 (w.heap.size+1+1) 0 (yi 1)).trans (ag _ (w.heap.size+1+1) 1 (.bool ng))).trans (ag _ (w.heap.size+1+1) 2 (.slice ao la ca))).trans (ag _ (w.heap.size+1+1) 3 (yi pw));have bR:=bu.below b2 (by omega);have rR:=bu.rd r2 (aX r2 v2 (by simp));have hl:=run_loadVar_mid (P:=Tryz.prog) _ (w.heap.size+1+1) 0 77 (yvL 1 ng (.slice ao la ca) pw) _ cR.range underlying77 rfl (by kernel_rfl);have HH:Hid (_∧_∧_):=⟨hl,rR,bR⟩;obtain⟨z0,z1,z2,z3⟩:=v2.cs4;have fz0:=v2.f 0;have fz1:=v2.f 1;have fz2:=v2.f 2;have fz3:=v2.f 3;clear hl bR bu cR rR;obtain⟨k0,k1,k2,k3⟩:=q2.cs4;clear v2 b2 r2 q2
    go_wp2
    obtain⟨hl,rR,bR⟩:=HH.out;exact bodyPost_ret (aj results77 rfl rfl hl) rfl ⟨_,rfl,rR,bR⟩
  ·have hz1:(((la:Nat):Int)==0)=false:=beq_eq_false_iff_ne.2 (by omega)
   have hcl:cl=2:=by rw[HE.out.2.1,if_neg hz]
   subst hcl;clear hz
   go_upto_block 1 with fail
   have q2:=q1;have v2:=v1;have r2:=r1;have b2:=b1;clear q1 v1 r1 b1 p1 hz1;generalize WA=W1 at*
   cases ex
   ·have hfl:fl=3:=HE.out.2.2
    subst hfl;clear HE;have cR:au ((((W1.setCell ⟨w.heap.size+1+1,0,none⟩ (yi 2)).setCell ⟨w.heap.size+1+1,1,none⟩ (.bool ng)).setCell ⟨w.heap.size+1+1,2,none⟩ (.slice ao la ca)).setCell ⟨w.heap.size+1+1,3,none⟩ (yi pw)) (w.heap.size+1+1) 77 (yvL 2 ng (.slice ao la ca) pw):=((((v2.set 0 (yi 2)).set 1 (.bool ng)).set 2 (.slice ao la ca)).set 3 (yi pw));have bu:=(((ag W1 (w.heap.size+1+1) 0 (yi 2)).trans (ag _ (w.heap.size+1+1) 1 (.bool ng))).trans (ag _ (w.heap.size+1+1) 2 (.slice ao la ca))).trans (ag _ (w.heap.size+1+1) 3 (yi pw));have bR:=bu.below b2 (by omega);have rR:=bu.rd r2 (aX r2 v2 (by simp));have hl:=run_loadVar_mid (P:=Tryz.prog) _ (w.heap.size+1+1) 0 77 (yvL 2 ng (.slice ao la ca) pw) _ cR.range underlying77 rfl (by kernel_rfl);have HH:Hid (_∧_∧_):=⟨hl,rR,bR⟩;obtain⟨z0,z1,z2,z3⟩:=v2.cs4;have fz0:=v2.f 0;have fz1:=v2.f 1;have fz2:=v2.f 2;have fz3:=v2.f 3;clear hl bR bu cR rR;obtain⟨k0,k1,k2,k3⟩:=q2.cs4;clear v2 b2 r2 q2
    go_wp2
    obtain⟨hl,rR,bR⟩:=HH.out;exact bodyPost_ret (aj results77 rfl rfl hl) rfl ⟨_,rfl,rR,bR⟩
   ·have hfl:fl=0:=HE.out.2.2
    subst hfl;clear HE;have cR:au ((((W1.setCell ⟨w.heap.size+1+1,0,none⟩ (yi 2)).setCell ⟨w.heap.size+1+1,1,none⟩ (.bool ng)).setCell ⟨w.heap.size+1+1,2,none⟩ (.slice ao la ca)).setCell ⟨w.heap.size+1+1,3,none⟩ (yi pw)) (w.heap.size+1+1) 77 (yvL 2 ng (.slice ao la ca) pw):=((((v2.set 0 (yi 2)).set 1 (.bool ng)).set 2 (.slice ao la ca)).set 3 (yi pw));have bu:=(((ag W1 (w.heap.size+1+1) 0 (yi 2)).trans (ag _ (w.heap.size+1+1) 1 (.bool ng))).trans (ag _ (w.heap.size+1+1) 2 (.slice ao la ca))).trans (ag _ (w.heap.size+1+1) 3 (yi pw));have bR:=bu.below b2 (by omega);have rR:=bu.rd r2 (aX r2 v2 (by simp));have hl:=run_loadVar_mid (P:=Tryz.prog) _ (w.heap.size+1+1) 0 77 (yvL 2 ng (.slice ao la ca) pw) _ cR.range underlying77 rfl (by kernel_rfl);have HH:Hid (_∧_∧_):=⟨hl,rR,bR⟩;obtain⟨z0,z1,z2,z3⟩:=v2.cs4;have fz0:=v2.f 0;have fz1:=v2.f 1;have fz2:=v2.f 2;have fz3:=v2.f 3;clear hl bR bu cR rR;obtain⟨k0,k1,k2,k3⟩:=q2.cs4;clear v2 b2 r2 q2
    go_wp2
    obtain⟨hl,rR,bR⟩:=HH.out;exact bodyPost_ret (aj results77 rfl rfl hl) rfl ⟨_,rfl,rR,bR⟩
theorem afh (n er wy:Int)(her:er≠0)(qs:Bool)(ao:Option Addr)(la ca:Nat)(bo:Option Addr)(lb cb:Nat)(E:Int)(w:World)
  (HD:yJ 75 #[yi n] (.tuple #[ykV 0 0 0 0 0 0 0 false,yi er])):
  yC 40 #[yi n,yrV qs (.slice ao la ca) (.slice bo lb cb) E,yi wy] w (yR w (.tuple #[.string ⟨#[]⟩,yi 0,yi er])):=by
 replace HD:Hid _:=HD;have he:(er==0)=false:=by simpa using her
 clear her;have a0:=af w (.cells (yrA qs (.slice ao la ca) (.slice bo lb cb) E) 91)
 go_enter func40,ntmps40
 go_wp2_with fail
 refine(HD.out _).mono ?_;rintro z w1 ⟨rfl,b1⟩;have b2:=aa (aa a0 b1) (af w1 (.cells (ykA 0 0 0 0 0 0 0 false) 143));clear a0 b1
 go_upto_region 2 with fail
 generalize w1.alloc (.cells (ykA 0 0 0 0 0 0 0 false) 143)=W1 at b2⊢
 go_wp2
 go_ret3
 exact⟨rfl,b2⟩
theorem afx (n wy fam R D L G rc:Int)(gr qs:Bool)(ao:Option Addr)(la ca:Nat)(bo:Option Addr)(lb cb:Nat)(E:Int)(ps:Bool)(pd:Nat)(pp:Int)(ex ov un:Bool)(c:Int)(g:Bool)(m:Nat)(q fl:Int)(st:ByteArray)(f1 e1:Int)(X:Value)(w:World)
  (hX0:rc≠0→X= .tuple #[.string ⟨#[]⟩,yi 0,yi rc]) (hX1:rc=0→X= .tuple #[.string st,yi f1,yi e1])
  (HD:yJ 75 #[yi n] (.tuple #[ykV n 0 fam R D L G gr,yi 0]))
  (HR: ∀w1,yB w w1→yC 56 #[yrV qs (.slice ao la ca) (.slice bo lb cb) E,ygV R D L G gr,yi wy] w1 fun z w'=> ∃po pc,z= .returned (.tuple #[ypV ps (yT po pd pc) pp ex ov un,yi rc])∧Rd w' .u32 (yT po pd pc) (Dg.dg 4294967296 pd)∧yB w1 w')
  (HSt:rc=0→ ∀po pc w1,yB w w1→Rd w1 .u32 (yT po pd pc) (Dg.dg 4294967296 pd)→yC 77 #[ykV n wy fam R D L G gr,ypV ps (yT po pd pc) pp ex ov un] w1 (B6 w1 c g m q fl))
  (HEn:rc=0→ ∀vo vc w1,yB w w1→Rd w1 .u32 (yT vo m vc) (Dg.dg 4294967296 m)→yC 76 #[ykV n wy fam R D L G gr,yvV c g (yT vo m vc) q,yi fl] w1 (yR w1 (.tuple #[.string st,yi f1,yi e1]))):
  yC 40 #[yi n,yrV qs (.slice ao la ca) (.slice bo lb cb) E,yi wy] w fun z w'=>z= .returned X∧yB w w':=by
 replace HD:Hid _:=HD;replace HR:Hid _:=HR;replace HSt:Hid _:=HSt;replace HEn:Hid _:=HEn;replace hX0:Hid _:=hX0;replace hX1:Hid _:=hX1;have a0:=af w (.cells (yrA qs (.slice ao la ca) (.slice bo lb cb) E) 91);have q0:=ah w (yrL qs (.slice ao la ca) (.slice bo lb cb) E) 91
 go_enter func40,ntmps40
 go_wp2_with fail
 refine(HD.out _).mono ?_;rintro z w1 ⟨rfl,b1⟩;have al:=af w1 (.cells (ykA n 0 fam R D L G gr) 143);have d1:=ah w1 (ykL n 0 fam R D L G gr) 143;have q1:=(q0.l b1).l al;have b2:=aa (aa a0 b1) al;have hqd:w.heap.size<w1.heap.size:=(q0.l b1).lt;clear a0 b1 al q0 HD
 go_upto_region 2 with fail
 generalize w1.alloc (.cells (ykA n 0 fam R D L G gr) 143)=W1 at b2 d1 q1⊢;generalize w1.heap.size=PD at d1 hqd⊢;have bu:=ag W1 PD 1 (yi wy);have d2:au (W1.setCell ⟨PD,1,none⟩ (yi wy)) PD 143 (ykL n wy fam R D L G gr):=d1.set 1 (yi wy);have q2:=bu.loc q1 (by omega);have b3:=bu.below b2 (by omega);have x1:=d1.c 1 rfl;have f1':=d1.f 1;clear bu d1 q1 b2
 go_upto_region 5 with fail
 generalize W1.setCell ⟨PD,1,none⟩ (yi wy)=W2 at d2 q2 b3⊢;obtain⟨y0,y1,y2,y3,y4,y5,y6,y7⟩:=d2.cs8;obtain⟨z0,z1,z2,z3⟩:=q2.cs4
 go_wp2_with fail
 refine(HR.out _ b3).mono ?_;rintro z w3 ⟨po,pc,rfl,rp,bp⟩;have al:=af w3 (.cells (ypA ps (yT po pd pc) pp ex ov un) 112);have p4:=ah w3 (ypL ps (yT po pd pc) pp ex ov un) 112;have d4:=(d2.l bp).l al;have r4:=rp.l al;have b4:=aa (aa b3 bp) al;clear y0 y1 y2 y3 y4 y5 y6 y7 z0 z1 z2 z3 d2 q2 b3 rp bp al HR x1 f1'
 go_upto_region 6 with fail
 generalize w3.alloc (.cells (ypA ps (yT po pd pc) pp ex ov un) 112)=W4 at d4 p4 r4 b4⊢;generalize w3.heap.size=PP at p4⊢
 by_cases hrc:rc=0
 ·replace HSt:Hid _:=HSt.out hrc
  replace HEn:Hid _:=HEn.out hrc;have hx:=hX1.out hrc;subst hx hrc;clear hX0 hX1
  go_upto_region 8 with fail
  have bW:yB W4 W4.drew:=(Below.refl _ _).drew;have d5:=d4.l bW;have p5:=p4.l bW;have r5:=r4.l bW;have b5:=aa b4 bW;clear bW d4 p4 r4 b4;refine wp_region_held_drew (S:=fun wq=>wq.rangeAt PD 0 (ykL n wy fam R D L G gr)∧wq.rangeAt PP 0 (ypL ps (yT po pd pc) pp ex ov un)) (by kernel_rfl) ⟨d5.range,p5.range⟩ (fun hS0=> ?_)
  refine tq 0 ((ykV n wy fam R D L G gr)) rfl (fun w0 hw0=>fy 143 (.tmp 9) rfl PD 0 (by kernel_rfl) _ _ hw0.1 underlying143 rfl (by kernel_rfl)) hS0 ?_
  refine tq 1 ((ykV n wy fam R D L G gr)) rfl (fun w0 hw0=>fy 143 (.tmp 9) rfl PD 0 (by kernel_rfl) _ _ hw0.1 underlying143 rfl (by kernel_rfl)) hS0 ?_
  refine tq 2 ((ypV ps (yT po pd pc) pp ex ov un)) rfl (fun w0 hw0=>fy 112 (.tmp 11) rfl PP 0 (by kernel_rfl) _ _ hw0.2 underlying112 rfl (by kernel_rfl)) hS0 ?_
  refine wpAnyH_ready (rs:=[3]) (by kernel_rfl) (by simp) ?_;refine AllReadyH.cons rfl (fun K hK=> ?_) AllReadyH.nil
  go_simp
  refine(HSt.out _ _ _ b5 r5).mono ?_;rintro z w6 ⟨u,rfl,r6,b6⟩;obtain⟨vo,vc,hu⟩:=r6.shape;subst hu;refine hK.out _ _ ⟨(d5.l b6).range,(p5.l b6).range⟩ (fun hS6=> ?_)
  have d6:=d5.l b6;have p6:=p5.l b6;have b06:=aa b5 b6;clear hK K b6 d5 p5 r5 b5;refine tq 4 ((yvV c g (yT vo m vc) q)) rfl (fun w0 _=>by go_simp) hS6 ?_
  refine tq 5 (yi fl) rfl (fun w0 _=>by go_simp) hS6 ?_
  refine wpAnyH_ready (rs:=[6]) (by kernel_rfl) (by simp) ?_;refine AllReadyH.cons rfl (fun K hK=> ?_) AllReadyH.nil
  go_simp
  refine(HEn.out _ _ _ b06 r6).mono ?_;rintro z w7 ⟨rfl,b7⟩;refine hK.out _ _ ⟨(d6.l b7).range,(p6.l b7).range⟩ (fun hS7=> ?_)
  have b07:=aa b06 b7;clear hK K b7 d6 p6 b06 r6;refine tq 7 (.string st) rfl (fun w0 _=>by go_simp) hS7 ?_
  refine tq 8 (yi f1) rfl (fun w0 _=>by go_simp) hS7 ?_
  refine tq 9 (yi e1) rfl (fun w0 _=>by go_simp) hS7 ?_
  refine tq 10 (.string st) rfl (fun w0 _=>by go_simp) hS7 ?_
  refine tq 11 (yi f1) rfl (fun w0 _=>by go_simp) hS7 ?_
  refine tq 12 (yi e1) rfl (fun w0 _=>by go_simp) hS7 ?_
  simp only[Act.put,List.getElem_toArray,List.getElem_cons_succ,List.getElem_cons_zero,List.setIfInBounds_toArray,List.set_cons_zero,List.set_cons_succ];refine wpAnyH_done (by kernel_rfl) ?_ _
  go_wp2
  go_ret3
  exact⟨rfl,b07⟩
 ·have hx:=hX0.out hrc
  have hrf:(rc==0)=false:=by simpa using hrc
  subst hx;clear hX0 hX1 HSt HEn hrc
  go_wp2
  go_ret3
  exact⟨rfl,b4⟩
end Go.Proofs.YtpainhklfoaniaaGreatDoor

/-
  Texts laid together: As4, Du1, As5, As6.
-/
import Derived.Test.YtbdokgamhinajaaGreatDoorSj26
set_option maxRecDepth 100000
set_option maxHeartbeats 6400000
namespace Go.Proofs.YtbdokgamhinajaaGreatDoor
open _root_.Go.Proofs.Tryz
open Go.RowKit
def B6 (w:World)(c:Int)(g:Bool)(m:Nat)(q fl:Int)(z:Ending)(w':World):Prop:=
 ∃v,z= .returned (.tuple #[yvV c g v q,yi fl])∧Rd w' .u32 v (Dg.dg 4294967296 m)∧yB w w'
theorem Lr (n wy fam R D L G pw:Int)(gr ng ex un:Bool)(ao:Option Addr)(la ca:Nat)(c q:Int)(g:Bool)(m:Nat)(w:World)
  (HO: ∀w1,yB w w1→yC 89 #[ykV n wy fam R D L G gr,.bool ng] w1 (iT w1 c g m q)):
  yC 46 #[ykV n wy fam R D L G gr,ypV ng (.slice ao la ca) pw ex true un] w (B6 w c g m q 5):=by
 replace HO:Hid _:=HO;have a1:=af w (.cells (ykA n wy fam R D L G gr) 69);have a2:=af (w.alloc (.cells (ykA n wy fam R D L G gr) 69)) (.cells (ypA ng (.slice ao la ca) pw ex true un) 95);have a3:=af ((w.alloc (.cells (ykA n wy fam R D L G gr) 69)).alloc (.cells (ypA ng (.slice ao la ca) pw ex true un) 95)) (.cells (yvA 0 false (.slice none 0 0) 0) 100);have d0:=((ah w (ykL n wy fam R D L G gr) 69).l a2).l a3;have p0:=(ah (w.alloc (.cells (ykA n wy fam R D L G gr) 69)) (ypL ng (.slice ao la ca) pw ex true un) 95).l a3;have v0:=ah ((w.alloc (.cells (ykA n wy fam R D L G gr) 69)).alloc (.cells (ypA ng (.slice ao la ca) pw ex true un) 95)) (yvL 0 false (.slice none 0 0) 0) 100;rw[World.size_alloc] at p0;rw[World.size_alloc,World.size_alloc] at v0;have b0:=aa (aa a1 a2) a3;clear a1 a2 a3
 go_enter func46,ntmps46
 go_upto_block 0 with fail
 generalize((w.alloc (.cells (ykA n wy fam R D L G gr) 69)).alloc (.cells (ypA ng (.slice ao la ca) pw ex true un) 95)).alloc (.cells (yvA 0 false (.slice none 0 0) 0) 100)=W0 at d0 p0 v0 b0⊢;obtain⟨y0,y1,y2,y3,y4,y5,y6,y7⟩:=d0.cs8;obtain⟨x0,x1,x2,x3,x4,x5⟩:=p0.cs6
 go_wp2_with fail
 refine(HO.out _ b0).mono ?_;rintro z w1 ⟨u,rfl,r1,b1⟩;obtain⟨mo,mc,hu⟩:=r1.shape;subst hu;have v1:=v0.l b1;have b01:=aa b0 b1;clear y0 y1 y2 y3 y4 y5 y6 y7 x0 x1 x2 x3 x4 x5 d0 p0 v0 b0 b1 HO;have cR:au ((((w1.setCell ⟨w.heap.size+1+1,0,none⟩ (yi c)).setCell ⟨w.heap.size+1+1,1,none⟩ (.bool g)).setCell ⟨w.heap.size+1+1,2,none⟩ (.slice mo (Dg.dg 4294967296 m).length mc)).setCell ⟨w.heap.size+1+1,3,none⟩ (yi q)) (w.heap.size+1+1) 100 (yvL c g (.slice mo (Dg.dg 4294967296 m).length mc) q):=((((v1.set 0 (yi c)).set 1 (.bool g)).set 2 (.slice mo (Dg.dg 4294967296 m).length mc)).set 3 (yi q));have bu:=(((ag w1 (w.heap.size+1+1) 0 (yi c)).trans (ag _ (w.heap.size+1+1) 1 (.bool g))).trans (ag _ (w.heap.size+1+1) 2 (.slice mo (Dg.dg 4294967296 m).length mc))).trans (ag _ (w.heap.size+1+1) 3 (yi q));have bR:=bu.below b01 (by omega);have rR:=bu.rd r1 (aX r1 v1 (by simp));have hl:=run_loadVar_mid (P:=Tryz.prog) _ (w.heap.size+1+1) 0 100 (yvL c g (.slice mo (Dg.dg 4294967296 m).length mc) q) _ cR.range underlying100 rfl (by kernel_rfl);have HH:Hid (_∧_∧_):=⟨hl,rR,bR⟩;obtain⟨z0,z1,z2,z3⟩:=v1.cs4;have fz0:=v1.f 0;have fz1:=v1.f 1;have fz2:=v1.f 2;have fz3:=v1.f 3;clear hl bR bu cR rR;clear v1 b01 r1
 go_wp2
 obtain⟨hl,rR,bR⟩:=HH.out;exact bodyPost_ret (aj results46 rfl rfl hl) rfl ⟨_,rfl,rR,bR⟩
theorem OU (n wy fam R D L G pw:Int)(gr ng ex:Bool)(ao:Option Addr)(la ca:Nat)(w:World)(hlt:pw<L):
  yC 46 #[ykV n wy fam R D L G gr,ypV ng (.slice ao la ca) pw ex false true] w (B6 w 1 false 0 0 3):=by
 have a1:=af w (.cells (ykA n wy fam R D L G gr) 69);have a2:=af (w.alloc (.cells (ykA n wy fam R D L G gr) 69)) (.cells (ypA ng (.slice ao la ca) pw ex false true) 95);have a3:=af ((w.alloc (.cells (ykA n wy fam R D L G gr) 69)).alloc (.cells (ypA ng (.slice ao la ca) pw ex false true) 95)) (.cells (yvA 0 false (.slice none 0 0) 0) 100);have d0:=((ah w (ykL n wy fam R D L G gr) 69).l a2).l a3;have p0:=(ah (w.alloc (.cells (ykA n wy fam R D L G gr) 69)) (ypL ng (.slice ao la ca) pw ex false true) 95).l a3;have v0:=ah ((w.alloc (.cells (ykA n wy fam R D L G gr) 69)).alloc (.cells (ypA ng (.slice ao la ca) pw ex false true) 95)) (yvL 0 false (.slice none 0 0) 0) 100;rw[World.size_alloc] at p0;rw[World.size_alloc,World.size_alloc] at v0;have b0:=aa (aa a1 a2) a3;clear a1 a2 a3
 go_enter func46,ntmps46
 go_upto_block 0 with fail
 generalize((w.alloc (.cells (ykA n wy fam R D L G gr) 69)).alloc (.cells (ypA ng (.slice ao la ca) pw ex false true) 95)).alloc (.cells (yvA 0 false (.slice none 0 0) 0) 100)=W0 at d0 p0 v0 b0⊢;obtain⟨x0,x1,x2,x3,x4,x5⟩:=p0.cs6;have y5:=d0.c 5 rfl;have cR:au ((((W0.setCell ⟨w.heap.size+1+1,0,none⟩ (yi 1)).setCell ⟨w.heap.size+1+1,1,none⟩ (.bool false)).setCell ⟨w.heap.size+1+1,2,none⟩ (.slice none 0 0)).setCell ⟨w.heap.size+1+1,3,none⟩ (yi 0)) (w.heap.size+1+1) 100 (yvL 1 false (.slice none 0 0) 0):=((((v0.set 0 (yi 1)).set 1 (.bool false)).set 2 (.slice none 0 0)).set 3 (yi 0));have bu:=(((ag W0 (w.heap.size+1+1) 0 (yi 1)).trans (ag _ (w.heap.size+1+1) 1 (.bool false))).trans (ag _ (w.heap.size+1+1) 2 (.slice none 0 0))).trans (ag _ (w.heap.size+1+1) 3 (yi 0));have bR:=bu.below b0 (by omega);have hl:=run_loadVar_mid (P:=Tryz.prog) _ (w.heap.size+1+1) 0 100 (yvL 1 false (.slice none 0 0) 0) _ cR.range underlying100 rfl (by kernel_rfl);have HH:Hid (_∧_):=⟨hl,bR⟩;obtain⟨z0,z1,z2,z3⟩:=v0.cs4;have fz0:=v0.f 0;have fz1:=v0.f 1;have fz2:=v0.f 2;have fz3:=v0.f 3;clear hl bR bu cR;clear v0 b0 d0 p0
 go_wp2
 obtain⟨hl,bR⟩:=HH.out;exact bodyPost_ret (aj results46 rfl rfl hl) rfl ⟨_,rfl,aN _ _,bR⟩
theorem Id (n wy fam R D L G pw:Int)(gr ng ex un:Bool)(ao:Option Addr)(la ca:Nat)(m:Nat)(w:World)(hla:la=(Dg.dg 4294967296 m).length)(hr:Rd w .u32 (.slice ao la ca) (Dg.dg 4294967296 m))(hlt:un=true→ ¬pw<L)(cl fl:Int)(hcl:cl=if la=0 then 1 else 2)(hfl:fl=if ex=true then 0 else if un=true then 3 else 1):
  yC 46 #[ykV n wy fam R D L G gr,ypV ng (.slice ao la ca) pw ex false un] w (B6 w cl ng m pw fl):=by
 have HE:Hid (la=(Dg.dg 4294967296 m).length∧cl=(if la=0 then 1 else 2)∧fl=if ex=true then 0 else if un=true then 3 else 1):=⟨hla,hcl,hfl⟩
 clear hcl hfl hla;have a1:=af w (.cells (ykA n wy fam R D L G gr) 69);have a2:=af (w.alloc (.cells (ykA n wy fam R D L G gr) 69)) (.cells (ypA ng (.slice ao la ca) pw ex false un) 95);have a3:=af ((w.alloc (.cells (ykA n wy fam R D L G gr) 69)).alloc (.cells (ypA ng (.slice ao la ca) pw ex false un) 95)) (.cells (yvA 0 false (.slice none 0 0) 0) 100);have d0:=((ah w (ykL n wy fam R D L G gr) 69).l a2).l a3;have p0:=(ah (w.alloc (.cells (ykA n wy fam R D L G gr) 69)) (ypL ng (.slice ao la ca) pw ex false un) 95).l a3;have v0:=ah ((w.alloc (.cells (ykA n wy fam R D L G gr) 69)).alloc (.cells (ypA ng (.slice ao la ca) pw ex false un) 95)) (yvL 0 false (.slice none 0 0) 0) 100;rw[World.size_alloc] at p0;rw[World.size_alloc,World.size_alloc] at v0;have b0:=aa (aa a1 a2) a3;clear a1 a2 a3
 go_enter func46,ntmps46
 go_upto_block 0 with fail
 generalize((w.alloc (.cells (ykA n wy fam R D L G gr) 69)).alloc (.cells (ypA ng (.slice ao la ca) pw ex false un) 95)).alloc (.cells (yvA 0 false (.slice none 0 0) 0) 100)=W0 at d0 p0 v0 b0⊢;have r0:=hr.l b0;clear hr;have al:=af W0 (.cells (yvA 2 ng (.slice ao la ca) pw) 100);have q1:=ah W0 (yvL 2 ng (.slice ao la ca) pw) 100;have p1:=p0.l al;have v1:=v0.l al;have r1:=r0.l al;have b1:=aa b0 al;have hq:w.heap.size+1+1<W0.heap.size:=v0.lt;have hne:W0.heap.size≠w.heap.size+1:=by omega
 obtain⟨x0,x1,x2,x3,x4,x5⟩:=p0.cs6;have y5:=d0.c 5 rfl;clear al p0 v0 b0 r0;have go: ∀UU,UU=un→(UU=false∨(UU=true∧ ¬pw<L)):=fun UU h=>by
  subst h
  cases UU
  ·exact .inl rfl
  ·exact .inr ⟨rfl,hlt rfl⟩
 rcases go un rfl with hun| ⟨hun,hl0⟩
 ·subst hun
  clear hlt go
  go_upto_region 6 with fail
  generalize W0.alloc (.cells (yvA 2 ng (.slice ao la ca) pw) 100)=WA at q1 p1 v1 r1 b1⊢;generalize W0.heap.size=Q at q1 hq hne⊢;clear x0 x1 x2 x3 x4 x5 y5 d0;obtain⟨x0,x1,x2,x3,x4,x5⟩:=p1.cs6
  by_cases hz:la=0
  ·have hz1:(((la:Nat):Int)==0)=true:=by rw[hz];rfl
   have hcl:cl=1:=by rw[HE.out.2.1,if_pos hz]
   subst hcl;clear hz;have c0:=q1.c 0 rfl;have f0:=q1.f 0;have bq:=ag WA Q 0 (yi 1);have q2:au (WA.setCell ⟨Q,0,none⟩ (yi 1)) Q 100 (yvL 1 ng (.slice ao la ca) pw):=q1.set 0 (yi 1);have p2:=bq.loc p1 (by omega);have v2:=bq.loc v1 (by omega);have r2:=bq.rd r1 (aX r1 q1 (by simp));have b2:=bq.below b1 (by omega)
   go_upto_block 1 with fail
   generalize WA.setCell ⟨Q,0,none⟩ (yi 1)=W1 at q2 p2 v2 r2 b2⊢;clear c0 f0 bq q1 p1 v1 r1 b1 x0 x1 x2 x3 x4 x5 hz1;obtain⟨x0,x1,x2,x3,x4,x5⟩:=p2.cs6;clear p2
   cases ex
   ·have hfl:fl=1:=HE.out.2.2
    subst hfl;clear HE;have cR:au ((((W1.setCell ⟨w.heap.size+1+1,0,none⟩ (yi 1)).setCell ⟨w.heap.size+1+1,1,none⟩ (.bool ng)).setCell ⟨w.heap.size+1+1,2,none⟩ (.slice ao la ca)).setCell ⟨w.heap.size+1+1,3,none⟩ (yi pw)) (w.heap.size+1+1) 100 (yvL 1 ng (.slice ao la ca) pw):=((((v2.set 0 (yi 1)).set 1 (.bool ng)).set 2 (.slice ao la ca)).set 3 (yi pw));have bu:=(((ag W1 (w.heap.size+1+1) 0 (yi 1)).trans (ag _ (w.heap.size+1+1) 1 (.bool ng))).trans (ag _ (w.heap.size+1+1) 2 (.slice ao la ca))).trans (ag _ (w.heap.size+1+1) 3 (yi pw));have bR:=bu.below b2 (by omega);have rR:=bu.rd r2 (aX r2 v2 (by simp));have hl:=run_loadVar_mid (P:=Tryz.prog) _ (w.heap.size+1+1) 0 100 (yvL 1 ng (.slice ao la ca) pw) _ cR.range underlying100 rfl (by kernel_rfl);have HH:Hid (_∧_∧_):=⟨hl,rR,bR⟩;obtain⟨z0,z1,z2,z3⟩:=v2.cs4;have fz0:=v2.f 0;have fz1:=v2.f 1;have fz2:=v2.f 2;have fz3:=v2.f 3;clear hl bR bu cR rR;obtain⟨k0,k1,k2,k3⟩:=q2.cs4;clear v2 b2 r2 q2
    go_wp2
    obtain⟨hl,rR,bR⟩:=HH.out;exact bodyPost_ret (aj results46 rfl rfl hl) rfl ⟨_,rfl,rR,bR⟩
   ·have hfl:fl=0:=HE.out.2.2
    subst hfl;clear HE;have cR:au ((((W1.setCell ⟨w.heap.size+1+1,0,none⟩ (yi 1)).setCell ⟨w.heap.size+1+1,1,none⟩ (.bool ng)).setCell ⟨w.heap.size+1+1,2,none⟩ (.slice ao la ca)).setCell ⟨w.heap.size+1+1,3,none⟩ (yi pw)) (w.heap.size+1+1) 100 (yvL 1 ng (.slice ao la ca) pw):=((((v2.set 0 (yi 1)).set 1 (.bool ng)).set 2 (.slice ao la ca)).set 3 (yi pw));have bu:=(((ag W1 (w.heap.size+1+1) 0 (yi 1)).trans (ag _ (w.heap.size+1+1) 1 (.bool ng))).trans (ag _ (w.heap.size+1+1) 2 (.slice ao la ca))).trans (ag _ (w.heap.size+1+1) 3 (yi pw));have bR:=bu.below b2 (by omega);have rR:=bu.rd r2 (aX r2 v2 (by simp));have hl:=run_loadVar_mid (P:=Tryz.prog) _ (w.heap.size+1+1) 0 100 (yvL 1 ng (.slice ao la ca) pw) _ cR.range underlying100 rfl (by kernel_rfl);have HH:Hid (_∧_∧_):=⟨hl,rR,bR⟩;obtain⟨z0,z1,z2,z3⟩:=v2.cs4;have fz0:=v2.f 0;have fz1:=v2.f 1;have fz2:=v2.f 2;have fz3:=v2.f 3;clear hl bR bu cR rR;obtain⟨k0,k1,k2,k3⟩:=q2.cs4;clear v2 b2 r2 q2
    go_wp2
    obtain⟨hl,rR,bR⟩:=HH.out;exact bodyPost_ret (aj results46 rfl rfl hl) rfl ⟨_,rfl,rR,bR⟩
  ·have hz1:(((la:Nat):Int)==0)=false:=beq_eq_false_iff_ne.2 (by omega)
   have hcl:cl=2:=by rw[HE.out.2.1,if_neg hz]
   subst hcl;clear hz
   go_upto_block 1 with fail
   have q2:=q1;have v2:=v1;have r2:=r1;have b2:=b1;clear q1 v1 r1 b1 p1 hz1;generalize WA=W1 at*
   cases ex
   ·have hfl:fl=1:=HE.out.2.2
    subst hfl;clear HE;have cR:au ((((W1.setCell ⟨w.heap.size+1+1,0,none⟩ (yi 2)).setCell ⟨w.heap.size+1+1,1,none⟩ (.bool ng)).setCell ⟨w.heap.size+1+1,2,none⟩ (.slice ao la ca)).setCell ⟨w.heap.size+1+1,3,none⟩ (yi pw)) (w.heap.size+1+1) 100 (yvL 2 ng (.slice ao la ca) pw):=((((v2.set 0 (yi 2)).set 1 (.bool ng)).set 2 (.slice ao la ca)).set 3 (yi pw));have bu:=(((ag W1 (w.heap.size+1+1) 0 (yi 2)).trans (ag _ (w.heap.size+1+1) 1 (.bool ng))).trans (ag _ (w.heap.size+1+1) 2 (.slice ao la ca))).trans (ag _ (w.heap.size+1+1) 3 (yi pw));have bR:=bu.below b2 (by omega);have rR:=bu.rd r2 (aX r2 v2 (by simp));have hl:=run_loadVar_mid (P:=Tryz.prog) _ (w.heap.size+1+1) 0 100 (yvL 2 ng (.slice ao la ca) pw) _ cR.range underlying100 rfl (by kernel_rfl);have HH:Hid (_∧_∧_):=⟨hl,rR,bR⟩;obtain⟨z0,z1,z2,z3⟩:=v2.cs4;have fz0:=v2.f 0;have fz1:=v2.f 1;have fz2:=v2.f 2;have fz3:=v2.f 3;clear hl bR bu cR rR;obtain⟨k0,k1,k2,k3⟩:=q2.cs4;clear v2 b2 r2 q2
    go_wp2
    obtain⟨hl,rR,bR⟩:=HH.out;exact bodyPost_ret (aj results46 rfl rfl hl) rfl ⟨_,rfl,rR,bR⟩
   ·have hfl:fl=0:=HE.out.2.2
    subst hfl;clear HE;have cR:au ((((W1.setCell ⟨w.heap.size+1+1,0,none⟩ (yi 2)).setCell ⟨w.heap.size+1+1,1,none⟩ (.bool ng)).setCell ⟨w.heap.size+1+1,2,none⟩ (.slice ao la ca)).setCell ⟨w.heap.size+1+1,3,none⟩ (yi pw)) (w.heap.size+1+1) 100 (yvL 2 ng (.slice ao la ca) pw):=((((v2.set 0 (yi 2)).set 1 (.bool ng)).set 2 (.slice ao la ca)).set 3 (yi pw));have bu:=(((ag W1 (w.heap.size+1+1) 0 (yi 2)).trans (ag _ (w.heap.size+1+1) 1 (.bool ng))).trans (ag _ (w.heap.size+1+1) 2 (.slice ao la ca))).trans (ag _ (w.heap.size+1+1) 3 (yi pw));have bR:=bu.below b2 (by omega);have rR:=bu.rd r2 (aX r2 v2 (by simp));have hl:=run_loadVar_mid (P:=Tryz.prog) _ (w.heap.size+1+1) 0 100 (yvL 2 ng (.slice ao la ca) pw) _ cR.range underlying100 rfl (by kernel_rfl);have HH:Hid (_∧_∧_):=⟨hl,rR,bR⟩;obtain⟨z0,z1,z2,z3⟩:=v2.cs4;have fz0:=v2.f 0;have fz1:=v2.f 1;have fz2:=v2.f 2;have fz3:=v2.f 3;clear hl bR bu cR rR;obtain⟨k0,k1,k2,k3⟩:=q2.cs4;clear v2 b2 r2 q2
    go_wp2
    obtain⟨hl,rR,bR⟩:=HH.out;exact bodyPost_ret (aj results46 rfl rfl hl) rfl ⟨_,rfl,rR,bR⟩
 ·subst hun
  clear hlt go
  go_upto_region 6 with fail
  generalize W0.alloc (.cells (yvA 2 ng (.slice ao la ca) pw) 100)=WA at q1 p1 v1 r1 b1⊢;generalize W0.heap.size=Q at q1 hq hne⊢;clear x0 x1 x2 x3 x4 x5 y5 d0;obtain⟨x0,x1,x2,x3,x4,x5⟩:=p1.cs6
  by_cases hz:la=0
  ·have hz1:(((la:Nat):Int)==0)=true:=by rw[hz];rfl
   have hcl:cl=1:=by rw[HE.out.2.1,if_pos hz]
   subst hcl;clear hz;have c0:=q1.c 0 rfl;have f0:=q1.f 0;have bq:=ag WA Q 0 (yi 1);have q2:au (WA.setCell ⟨Q,0,none⟩ (yi 1)) Q 100 (yvL 1 ng (.slice ao la ca) pw):=q1.set 0 (yi 1);have p2:=bq.loc p1 (by omega);have v2:=bq.loc v1 (by omega);have r2:=bq.rd r1 (aX r1 q1 (by simp));have b2:=bq.below b1 (by omega)
   go_upto_block 1 with fail
   generalize WA.setCell ⟨Q,0,none⟩ (yi 1)=W1 at q2 p2 v2 r2 b2⊢;clear c0 f0 bq q1 p1 v1 r1 b1 x0 x1 x2 x3 x4 x5 hz1;obtain⟨x0,x1,x2,x3,x4,x5⟩:=p2.cs6;clear p2
   cases ex
   ·have hfl:fl=3:=HE.out.2.2
    subst hfl;clear HE;have cR:au ((((W1.setCell ⟨w.heap.size+1+1,0,none⟩ (yi 1)).setCell ⟨w.heap.size+1+1,1,none⟩ (.bool ng)).setCell ⟨w.heap.size+1+1,2,none⟩ (.slice ao la ca)).setCell ⟨w.heap.size+1+1,3,none⟩ (yi pw)) (w.heap.size+1+1) 100 (yvL 1 ng (.slice ao la ca) pw):=((((v2.set 0 (yi 1)).set 1 (.bool ng)).set 2 (.slice ao la ca)).set 3 (yi pw));have bu:=(((ag W1 (w.heap.size+1+1) 0 (yi 1)).trans (ag _ (w.heap.size+1+1) 1 (.bool ng))).trans (ag _ (w.heap.size+1+1) 2 (.slice ao la ca))).trans (ag _ (w.heap.size+1+1) 3 (yi pw));have bR:=bu.below b2 (by omega);have rR:=bu.rd r2 (aX r2 v2 (by simp));have hl:=run_loadVar_mid (P:=Tryz.prog) _ (w.heap.size+1+1) 0 100 (yvL 1 ng (.slice ao la ca) pw) _ cR.range underlying100 rfl (by kernel_rfl);have HH:Hid (_∧_∧_):=⟨hl,rR,bR⟩;obtain⟨z0,z1,z2,z3⟩:=v2.cs4;have fz0:=v2.f 0;have fz1:=v2.f 1;have fz2:=v2.f 2;have fz3:=v2.f 3;clear hl bR bu cR rR;obtain⟨k0,k1,k2,k3⟩:=q2.cs4;clear v2 b2 r2 q2
    go_wp2
    obtain⟨hl,rR,bR⟩:=HH.out;exact bodyPost_ret (aj results46 rfl rfl hl) rfl ⟨_,rfl,rR,bR⟩
   ·have hfl:fl=0:=HE.out.2.2
    subst hfl;clear HE;have cR:au ((((W1.setCell ⟨w.heap.size+1+1,0,none⟩ (yi 1)).setCell ⟨w.heap.size+1+1,1,none⟩ (.bool ng)).setCell ⟨w.heap.size+1+1,2,none⟩ (.slice ao la ca)).setCell ⟨w.heap.size+1+1,3,none⟩ (yi pw)) (w.heap.size+1+1) 100 (yvL 1 ng (.slice ao la ca) pw):=((((v2.set 0 (yi 1)).set 1 (.bool ng)).set 2 (.slice ao la ca)).set 3 (yi pw));have bu:=(((ag W1 (w.heap.size+1+1) 0 (yi 1)).trans (ag _ (w.heap.size+1+1) 1 (.bool ng))).trans (ag _ (w.heap.size+1+1) 2 (.slice ao la ca))).trans (ag _ (w.heap.size+1+1) 3 (yi pw));have bR:=bu.below b2 (by omega);have rR:=bu.rd r2 (aX r2 v2 (by simp));have hl:=run_loadVar_mid (P:=Tryz.prog) _ (w.heap.size+1+1) 0 100 (yvL 1 ng (.slice ao la ca) pw) _ cR.range underlying100 rfl (by kernel_rfl);have HH:Hid (_∧_∧_):=⟨hl,rR,bR⟩;obtain⟨z0,z1,z2,z3⟩:=v2.cs4;have fz0:=v2.f 0;have fz1:=v2.f 1;have fz2:=v2.f 2;have fz3:=v2.f 3;clear hl bR bu cR rR;obtain⟨k0,k1,k2,k3⟩:=q2.cs4;clear v2 b2 r2 q2
    go_wp2
    obtain⟨hl,rR,bR⟩:=HH.out;exact bodyPost_ret (aj results46 rfl rfl hl) rfl ⟨_,rfl,rR,bR⟩
  ·have hz1:(((la:Nat):Int)==0)=false:=beq_eq_false_iff_ne.2 (by omega)
   have hcl:cl=2:=by rw[HE.out.2.1,if_neg hz]
   subst hcl;clear hz
   go_upto_block 1 with fail
   have q2:=q1;have v2:=v1;have r2:=r1;have b2:=b1;clear q1 v1 r1 b1 p1 hz1;generalize WA=W1 at*
   cases ex
   ·have hfl:fl=3:=HE.out.2.2
    subst hfl;clear HE;have cR:au ((((W1.setCell ⟨w.heap.size+1+1,0,none⟩ (yi 2)).setCell ⟨w.heap.size+1+1,1,none⟩ (.bool ng)).setCell ⟨w.heap.size+1+1,2,none⟩ (.slice ao la ca)).setCell ⟨w.heap.size+1+1,3,none⟩ (yi pw)) (w.heap.size+1+1) 100 (yvL 2 ng (.slice ao la ca) pw):=((((v2.set 0 (yi 2)).set 1 (.bool ng)).set 2 (.slice ao la ca)).set 3 (yi pw));have bu:=(((ag W1 (w.heap.size+1+1) 0 (yi 2)).trans (ag _ (w.heap.size+1+1) 1 (.bool ng))).trans (ag _ (w.heap.size+1+1) 2 (.slice ao la ca))).trans (ag _ (w.heap.size+1+1) 3 (yi pw));have bR:=bu.below b2 (by omega);have rR:=bu.rd r2 (aX r2 v2 (by simp));have hl:=run_loadVar_mid (P:=Tryz.prog) _ (w.heap.size+1+1) 0 100 (yvL 2 ng (.slice ao la ca) pw) _ cR.range underlying100 rfl (by kernel_rfl);have HH:Hid (_∧_∧_):=⟨hl,rR,bR⟩;obtain⟨z0,z1,z2,z3⟩:=v2.cs4;have fz0:=v2.f 0;have fz1:=v2.f 1;have fz2:=v2.f 2;have fz3:=v2.f 3;clear hl bR bu cR rR;obtain⟨k0,k1,k2,k3⟩:=q2.cs4;clear v2 b2 r2 q2
    go_wp2
    obtain⟨hl,rR,bR⟩:=HH.out;exact bodyPost_ret (aj results46 rfl rfl hl) rfl ⟨_,rfl,rR,bR⟩
   ·have hfl:fl=0:=HE.out.2.2
    subst hfl;clear HE;have cR:au ((((W1.setCell ⟨w.heap.size+1+1,0,none⟩ (yi 2)).setCell ⟨w.heap.size+1+1,1,none⟩ (.bool ng)).setCell ⟨w.heap.size+1+1,2,none⟩ (.slice ao la ca)).setCell ⟨w.heap.size+1+1,3,none⟩ (yi pw)) (w.heap.size+1+1) 100 (yvL 2 ng (.slice ao la ca) pw):=((((v2.set 0 (yi 2)).set 1 (.bool ng)).set 2 (.slice ao la ca)).set 3 (yi pw));have bu:=(((ag W1 (w.heap.size+1+1) 0 (yi 2)).trans (ag _ (w.heap.size+1+1) 1 (.bool ng))).trans (ag _ (w.heap.size+1+1) 2 (.slice ao la ca))).trans (ag _ (w.heap.size+1+1) 3 (yi pw));have bR:=bu.below b2 (by omega);have rR:=bu.rd r2 (aX r2 v2 (by simp));have hl:=run_loadVar_mid (P:=Tryz.prog) _ (w.heap.size+1+1) 0 100 (yvL 2 ng (.slice ao la ca) pw) _ cR.range underlying100 rfl (by kernel_rfl);have HH:Hid (_∧_∧_):=⟨hl,rR,bR⟩;obtain⟨z0,z1,z2,z3⟩:=v2.cs4;have fz0:=v2.f 0;have fz1:=v2.f 1;have fz2:=v2.f 2;have fz3:=v2.f 3;clear hl bR bu cR rR;obtain⟨k0,k1,k2,k3⟩:=q2.cs4;clear v2 b2 r2 q2
    go_wp2
    obtain⟨hl,rR,bR⟩:=HH.out;exact bodyPost_ret (aj results46 rfl rfl hl) rfl ⟨_,rfl,rR,bR⟩
def d8 (s:Bool)(m:Nat)(e:Int)(left:Bool):ak:=⟨s,m*2+(if left=true then 1 else 0),e-1⟩
theorem xG (s:Bool)(v:Value)(m:Nat)(e:Int)(left:Bool)(w:World)(hr:Rd w .u32 v (Dg.dg 4294967296 m))(hL:(Dg.dg 4294967296 m).length≤500000)(he1: -2000000≤e)(he2:e≤2000000):
  yC 140 #[.bool s,v,yi e,.bool left] w (jN w (d8 s m e left)):=by
 have HSH:Hid (∀w1,yB w w1→yC 130 #[v,yi 1] w1 (Num w1 (m*2))):=fun w1 b1=>by
  have:=eO v _ 1 w1 (hr.l b1) (Dg.small_dg _ _ (by omega)) (by omega) (by omega) (by omega);rw[Dg.vl_dg _ _ (by omega)] at this;exact this
 have hl2:(Dg.dg 4294967296 (m*2)).length≤500001:=by
  have:=CF m 1 500000 1 hL (by omega)
  rwa [Nat.pow_one] at this
 have HP1:Hid (∀v1 v2 w1,Rd w1 .u32 v1 (Dg.dg 4294967296 (m*2))→Rd w1 .u32 v2 [1]→yC 107 #[v1,v2] w1 (Num w1 (m*2+1))):=fun v1 v2 w1 h1 h2=>by
  have:=rj v1 v2 _ _ w1 h1 h2 (Dg.small_dg _ _ (by omega)) (Dg.small_cons.2 ⟨by omega,Dg.small_nil _ (by omega)⟩) (by omega) (by simp)
  rwa [Dg.vl_dg _ _ (by omega),show Dg.vl 4294967296 [1]=1 from rfl] at this
 obtain⟨ao,ca,rfl⟩:=hr.shape;obtain⟨l,hl⟩: ∃l,(Dg.dg 4294967296 m).length=l:=⟨_,rfl⟩;rw[hl] at HSH⊢;have bA:=af w (.cells (ydA false (.slice none 0 0) 0) 74);have l2:=aA w (.bool false) (.slice none 0 0) (yi 0) 74;have hew:IntKind.i64.wrap (e-1)=e-1:=IntWalk.i64_in _ ⟨by omega,by omega⟩;unfold d8;clear hr hL hl hl2
 cases left
 ·rw[if_neg (by decide),Nat.add_zero]
  go_enter func140,ntmps140
  go_wp2_with fail
  refine(HSH.out _ bA).mono ?_;rintro z w1 ⟨v1,rfl,o1,b1⟩;have o1:=o1.lower (show w.heap.size+1≤_ by simp[World.size_alloc])
  replace l2:=l2.l b1;replace bA:=aa bA b1;obtain⟨so,sc,hvr⟩:=o1.rd.shape;subst hvr;clear b1
  go_wp2_with fail
  refine(l9 s so (Dg.dg 4294967296 (m*2)).length sc (e-1) _).mono ?_;rintro z w8 ⟨rfl,b8⟩;replace l2:=l2.l b8;replace bA:=aa bA b8;replace o1:=o1.l b8;clear b8;obtain⟨hl2,⟨d0,d1,d2⟩,f0,f1,f2⟩:=id l2;obtain⟨-,⟨g0,g1,g2⟩,-⟩:=aD l2 (.bool s) (.slice so (Dg.dg 4294967296 (m*2)).length sc) (yi (e-1));have o7:=o1.apart3 (b:=w.heap.size) (by omega) (.bool s) (.slice so (Dg.dg 4294967296 (m*2)).length sc) (yi (e-1));have b9:=am bA (Nat.le_refl _) (.bool s) (.slice so (Dg.dg 4294967296 (m*2)).length sc) (yi (e-1))
  go_wp2
  refine bodyPost_ret (v:=(ydV s (.slice so (Dg.dg 4294967296 (m*2)).length sc) (e-1))) (by simp[results,results140,go_sem,g0,g1,g2]) rfl ?_;exact⟨_,rfl,o7.lower (by omega),b9⟩
 ·rw[if_pos rfl]
  go_enter func140,ntmps140
  go_wp2_with fail
  refine(HSH.out _ bA).mono ?_;rintro z w1 ⟨v1,rfl,o1,b1⟩;replace l2:=l2.l b1;replace bA:=aa bA b1;have b7:=af w1 (.cells #[.int .u32 ((1:Nat):Int)] 148);have rn:=cE (w:=w1) (k:= .u32) (e:=148) [1] #[.int .u32 ((1:Nat):Int)] rfl (by unfold maxLen;simp);have hpl:=HP1.out _ _ _ (o1.rd.l b7) rn;replace l2:=l2.l b7;replace bA:=aa bA b7;have hsz:=l2.1;clear b1 b7 rn o1
  go_wp2_with fail
  refine hpl.mono ?_;rintro z w3 ⟨v3,rfl,o1,b3⟩;have o1:=o1.lower (show w.heap.size+1≤_ from hsz)
  replace l2:=l2.l b3;replace bA:=aa bA b3;obtain⟨so,sc,hvr⟩:=o1.rd.shape;subst hvr;clear b3 hpl
  go_wp2_with fail
  refine(l9 s so (Dg.dg 4294967296 (m*2+1)).length sc (e-1) _).mono ?_;rintro z w8 ⟨rfl,b8⟩;replace l2:=l2.l b8;replace bA:=aa bA b8;replace o1:=o1.l b8;clear b8;obtain⟨hl2,⟨d0,d1,d2⟩,f0,f1,f2⟩:=id l2;obtain⟨-,⟨g0,g1,g2⟩,-⟩:=aD l2 (.bool s) (.slice so (Dg.dg 4294967296 (m*2+1)).length sc) (yi (e-1));have o7:=o1.apart3 (b:=w.heap.size) (by omega) (.bool s) (.slice so (Dg.dg 4294967296 (m*2+1)).length sc) (yi (e-1));have b9:=am bA (Nat.le_refl _) (.bool s) (.slice so (Dg.dg 4294967296 (m*2+1)).length sc) (yi (e-1))
  go_wp2
  refine bodyPost_ret (v:=(ydV s (.slice so (Dg.dg 4294967296 (m*2+1)).length sc) (e-1))) (by simp[results,results140,go_sem,g0,g1,g2]) rfl ?_;exact⟨_,rfl,o7.lower (by omega),b9⟩
def eQ (t:ak):ak:=if bitLen t.n≤128 then t else d8 t.s (t.n/2^ (bitLen t.n-128)) (t.e+((bitLen t.n-128:Nat):Int)) (decide (tz t.n<bitLen t.n-128))
theorem EQ (t:ak)(to0:Option Addr)(tc:Nat)(w:World)(hr:Rd w .u32 (.slice to0 (Dg.dg 4294967296 t.n).length tc) (Dg.dg 4294967296 t.n))(hL:(Dg.dg 4294967296 t.n).length≤100000)(hb:bitLen t.n≤128):
  yC 144 #[yDV t to0 tc,yi 128] w (yR w (yDV t to0 tc)):=by
 have HD:Hid (yJ 115 #[yDV t to0 tc] (.slice to0 (Dg.dg 4294967296 t.n).length tc)):=fun w1=>cN _ _ _ _ _ w1
 have HB:Hid (∀w1,yB w w1→yC 138 #[.slice to0 (Dg.dg 4294967296 t.n).length tc] w1 fun e w'=>e= .returned (yi ((bitLen t.n:Nat):Int))∧w'=w1):=fun w1 b=>by
  have:=kE _ _ w1 (hr.l b) (Dg.small_dg 4294967296 _ (by omega)) (Dg.norm_dg 4294967296 _ (by omega)) (by omega);rw[Dg.vl_dg _ _ (by omega)] at this;exact this
 have ax:=af w (.cells (yDA t to0 tc) 74);have ao:=af (w.alloc (.cells (yDA t to0 tc) 74)) (.cells (ydA false (.slice none 0 0) 0) 74);have x0:=(ah w (yDL t to0 tc) 74).l ao;have o0:=ah (w.alloc (.cells (yDA t to0 tc) 74)) (ydL false (.slice none 0 0) 0) 74;rw[World.size_alloc] at o0;have b0:=aa ax ao;clear ax ao hr hL;generalize bitLen t.n=k at*;have hk:IntKind.i64.wrap ((k:Int)-128)=(k:Int)-128:=IntWalk.i64_in _ ⟨by omega,by omega⟩;have hle:(k:Int)-128≤0:=by omega
 go_enter func144,ntmps144
 go_upto_region 1 with fail
 generalize(w.alloc (.cells (yDA t to0 tc) 74)).alloc (.cells (ydA false (.slice none 0 0) 0) 74)=W0 at x0 o0 b0⊢;obtain⟨y0,y1,y2⟩:=x0.cs3
 go_wp2_with fail
 refine(HD.out _).mono ?_;rintro z w1 ⟨rfl,b1⟩;have x1:=x0.l b1;have o1:=o0.l b1;have b01:=aa b0 b1;clear y0 y1 y2 x0 o0 b0 b1 HD
 go_wp2_with fail
 refine(HB.out _ b01).mono ?_;rintro z w2 ⟨rfl,rfl⟩;clear HB;obtain⟨y0,y1,y2⟩:=x1.cs3;have cR:au (((w2.setCell ⟨w.heap.size+1,0,none⟩ (.bool t.s)).setCell ⟨w.heap.size+1,1,none⟩ (.slice to0 (Dg.dg 4294967296 t.n).length tc)).setCell ⟨w.heap.size+1,2,none⟩ (yi t.e)) (w.heap.size+1) 74 (yDL t to0 tc):=(((o1.set 0 (.bool t.s)).set 1 (.slice to0 (Dg.dg 4294967296 t.n).length tc)).set 2 (yi t.e));have bu:=((ag w2 (w.heap.size+1) 0 (.bool t.s)).trans (ag _ (w.heap.size+1) 1 (.slice to0 (Dg.dg 4294967296 t.n).length tc))).trans (ag _ (w.heap.size+1) 2 (yi t.e));have bR:=bu.below b01 (by omega);have hl:=run_loadVar_mid (P:=Tryz.prog) _ (w.heap.size+1) 0 74 (yDL t to0 tc) _ cR.range underlying74 rfl (by kernel_rfl);have HH:Hid (_∧_):=⟨hl,bR⟩;obtain⟨z0,z1,z2⟩:=o1.cs3;have fz0:=o1.f 0;have fz1:=o1.f 1;have fz2:=o1.f 2;clear hl bR bu cR;clear o1 b01 x1
 go_wp2
 obtain⟨hl,bR⟩:=HH.out;exact bodyPost_ret (br results144 rfl hl) rfl ⟨rfl,bR⟩
def Kx (w:World)(s:Bool)(N M:Nat)(e:Int)(z:Ending)(w':World):Prop:=
 ∃no nc mo mc,z= .returned (yrV s (.slice no (Dg.dg 4294967296 N).length nc) (.slice mo (Dg.dg 4294967296 M).length mc) e)∧Rd w' .u32 (.slice no (Dg.dg 4294967296 N).length nc) (Dg.dg 4294967296 N)∧Rd w' .u32 (.slice mo (Dg.dg 4294967296 M).length mc) (Dg.dg 4294967296 M)∧yB w w'
theorem MU:Dg.dg 4294967296 1=[1]:=rfl
theorem Ct (t k:ak)(to0:Option Addr)(tc:Nat)(e2 dn:Int)(N M:Nat)(w:World)(hmx:min (max k.e (-20000)) 20000=e2)
  (HK: ∀w1,yB w w1→yC 144 #[yDV t to0 tc,yi 128] w1 fun z w'=> ∃v,z= .returned (ydV k.s v k.e)∧Rd w' .u32 v (Dg.dg 4294967296 k.n)∧yB w1 w')
  (HU:e2<k.e→IntKind.i64.wrap (k.e-e2)=dn∧M=1∧ ∀ko kc w1,Rd w1 .u32 (.slice ko (Dg.dg 4294967296 k.n).length kc) (Dg.dg 4294967296 k.n)→yC 130 #[.slice ko (Dg.dg 4294967296 k.n).length kc,yi dn] w1 (Num w1 N))
  (HV:k.e≤e2→IntKind.i64.wrap (e2-k.e)=dn∧N=k.n∧ ∀q w1,w1.cell? ⟨q,0,none⟩=some (.int .u32 1)→yC 130 #[.slice (some ⟨q,0,none⟩) 1 1,yi dn] w1 (Num w1 M)):
  yC 102 #[yDV t to0 tc] w (Kx w k.s N M e2):=by
 replace HK:Hid _:=HK;replace HU:Hid _:=HU;replace HV:Hid _:=HV;have ax:=af w (.cells (yDA t to0 tc) 74);have ar:=af (w.alloc (.cells (yDA t to0 tc) 74)) (.cells (yrA false (.slice none 0 0) (.slice none 0 0) 0) 45);have x0:=(ah w (yDL t to0 tc) 74).l ar;have r0:=ah (w.alloc (.cells (yDA t to0 tc) 74)) (yrL false (.slice none 0 0) (.slice none 0 0) 0) 45;rw[World.size_alloc] at r0;have b0:=aa ax ar;clear ax ar
 go_enter func102,ntmps102
 go_upto_region 1 with fail
 generalize(w.alloc (.cells (yDA t to0 tc) 74)).alloc (.cells (yrA false (.slice none 0 0) (.slice none 0 0) 0) 45)=W0 at x0 r0 b0⊢;obtain⟨y0,y1,y2⟩:=x0.cs3
 go_wp2_with fail
 refine(HK.out _ b0).mono ?_;rintro z w1 ⟨v,rfl,q1,b1⟩;obtain⟨ko,kc,hv⟩:=q1.shape;subst hv;have x1:=x0.l b1;have r1:=r0.l b1;have b01:=aa b0 b1;clear y0 y1 y2 x0 r0 b0 b1 HK;obtain⟨z0,z1,z2⟩:=x1.cs3;have f0:=x1.f 0;have f1:=x1.f 1;have f2:=x1.f 2;have x2:au (((w1.setCell ⟨w.heap.size,0,none⟩ (.bool k.s)).setCell ⟨w.heap.size,1,none⟩ (.slice ko (Dg.dg 4294967296 k.n).length kc)).setCell ⟨w.heap.size,2,none⟩ (yi k.e)) w.heap.size 74 (yDL k ko kc):=(((x1.set 0 (.bool k.s)).set 1 (.slice ko (Dg.dg 4294967296 k.n).length kc)).set 2 (yi k.e));have bu:=((ag w1 w.heap.size 0 (.bool k.s)).trans (ag _ w.heap.size 1 (.slice ko (Dg.dg 4294967296 k.n).length kc))).trans (ag _ w.heap.size 2 (yi k.e));have r2:=bu.loc r1 (by omega);have q2:=bu.rd q1 (aX q1 x1 (by simp));have b2:=bu.below b01 (Nat.le_refl _)
 go_upto_region 2 with fail
 generalize(((w1.setCell ⟨w.heap.size,0,none⟩ (.bool k.s)).setCell ⟨w.heap.size,1,none⟩ (.slice ko (Dg.dg 4294967296 k.n).length kc)).setCell ⟨w.heap.size,2,none⟩ (yi k.e))=W2 at x2 r2 q2 b2⊢;clear z0 z1 z2 f0 f1 f2 bu x1 r1 b01 q1;obtain⟨y0,y1,y2⟩:=x2.cs3;have HD:Hid (yJ 115 #[yDV k ko kc] (.slice ko (Dg.dg 4294967296 k.n).length kc)):=fun w1=>cN _ _ _ _ _ w1
 go_wp2_with fail
 refine(HD.out _).mono ?_;rintro z w3 ⟨rfl,b3⟩;have al:=af w3 (.cells #[.int .u32 1] 148);have ln:=ah w3 [.int .u32 1] 148;have x4:=(x2.l b3).l al;have r4:=(r2.l b3).l al;have q4:=(q2.l b3).l al;have b4:=aa (aa b2 b3) al;clear y0 y1 y2 x2 r2 q2 b2 b3 al HD
 go_upto_region 3 with fail
 generalize w3.alloc (.cells #[.int .u32 1] 148)=W4 at ln x4 r4 q4 b4⊢;generalize w3.heap.size=Q at ln⊢;obtain⟨y0,y1,y2⟩:=x4.cs3;have hone:=ln.c 0 rfl
 by_cases hc:e2<k.e
 ·obtain⟨h1,h2,h3⟩:=HU.out hc
  have H3:Hid _:=h3;subst h2;clear HU HV h3
  go_wp2_with fail
  refine(H3.out _ _ _ q4).mono ?_;rintro z w5 ⟨u,rfl,o5,b5⟩;obtain⟨no,nc,hu⟩:=o5.rd.shape;subst hu;have r5:=r4.l b5;have x5:=x4.l b5;have n5:=o5.rd;have hone5:=(ln.l b5).c 0 rfl;have m5:Rd w5 .u32 (.slice (some ⟨Q,0,none⟩) 1 1) (Dg.dg 4294967296 1):=by rw[MU];exact xD hone5
  have b05:=aa b4 b5;clear y0 y1 y2 hone hone5 x4 r4 q4 b4 b5 o5 ln H3;obtain⟨y0,y1,y2⟩:=x5.cs3;have h1l:(Dg.dg 4294967296 1).length=1:=by rw[MU];rfl
  have cR:au ((((w5.setCell ⟨w.heap.size+1,0,none⟩ (.bool k.s)).setCell ⟨w.heap.size+1,1,none⟩ (.slice no (Dg.dg 4294967296 N).length nc)).setCell ⟨w.heap.size+1,2,none⟩ (.slice (some ⟨Q,0,none⟩) 1 1)).setCell ⟨w.heap.size+1,3,none⟩ (yi e2)) (w.heap.size+1) 45 (yrL k.s (.slice no (Dg.dg 4294967296 N).length nc) (.slice (some ⟨Q,0,none⟩) 1 1) e2):=((((r5.set 0 (.bool k.s)).set 1 (.slice no (Dg.dg 4294967296 N).length nc)).set 2 (.slice (some ⟨Q,0,none⟩) 1 1)).set 3 (yi e2));have bu:=(((ag w5 (w.heap.size+1) 0 (.bool k.s)).trans (ag _ (w.heap.size+1) 1 (.slice no (Dg.dg 4294967296 N).length nc))).trans (ag _ (w.heap.size+1) 2 (.slice (some ⟨Q,0,none⟩) 1 1))).trans (ag _ (w.heap.size+1) 3 (yi e2));have bR:=bu.below b05 (by omega);have rN:=bu.rd n5 (aX n5 r5 (by simp));have rM:=bu.rd m5 (aX m5 r5 (by simp));have hl:=run_loadVar_mid (P:=Tryz.prog) _ (w.heap.size+1) 0 45 (yrL k.s (.slice no (Dg.dg 4294967296 N).length nc) (.slice (some ⟨Q,0,none⟩) 1 1) e2) _ cR.range underlying45 rfl (by kernel_rfl);have HH:Hid (_∧_∧_∧_):=⟨hl,rN,rM,bR⟩;obtain⟨z0,z1,z2,z3⟩:=r5.cs4;have fz0:=r5.f 0;have fz1:=r5.f 1;have fz2:=r5.f 2;have fz3:=r5.f 3;clear hl bR bu cR rN rM;clear r5 b05 n5 m5 x5
  go_wp2
  obtain⟨hl,rN,rM,bR⟩:=HH.out;refine bodyPost_ret (br results102 rfl hl) rfl ⟨no,nc,some ⟨Q,0,none⟩,1, ?_,rN, ?_,bR⟩
  ·rw[h1l]
  ·rw[h1l]
   exact rM
 ·obtain⟨h1,h2,h3⟩:=HV.out (by omega)
  have H3:Hid _:=h3;subst h2;clear HU HV h3
  go_wp2_with fail
  refine(H3.out _ _ hone).mono ?_;rintro z w5 ⟨u,rfl,o5,b5⟩;obtain⟨mo,mc,hu⟩:=o5.rd.shape;subst hu;have r5:=r4.l b5;have x5:=x4.l b5;have n5:=q4.l b5;have m5:=o5.rd;have b05:=aa b4 b5;clear y0 y1 y2 hone x4 r4 q4 b4 b5 o5 ln H3;obtain⟨y0,y1,y2⟩:=x5.cs3;have cR:au ((((w5.setCell ⟨w.heap.size+1,0,none⟩ (.bool k.s)).setCell ⟨w.heap.size+1,1,none⟩ (.slice ko (Dg.dg 4294967296 k.n).length kc)).setCell ⟨w.heap.size+1,2,none⟩ (.slice mo (Dg.dg 4294967296 M).length mc)).setCell ⟨w.heap.size+1,3,none⟩ (yi e2)) (w.heap.size+1) 45 (yrL k.s (.slice ko (Dg.dg 4294967296 k.n).length kc) (.slice mo (Dg.dg 4294967296 M).length mc) e2):=((((r5.set 0 (.bool k.s)).set 1 (.slice ko (Dg.dg 4294967296 k.n).length kc)).set 2 (.slice mo (Dg.dg 4294967296 M).length mc)).set 3 (yi e2));have bu:=(((ag w5 (w.heap.size+1) 0 (.bool k.s)).trans (ag _ (w.heap.size+1) 1 (.slice ko (Dg.dg 4294967296 k.n).length kc))).trans (ag _ (w.heap.size+1) 2 (.slice mo (Dg.dg 4294967296 M).length mc))).trans (ag _ (w.heap.size+1) 3 (yi e2));have bR:=bu.below b05 (by omega);have rN:=bu.rd n5 (aX n5 r5 (by simp));have rM:=bu.rd m5 (aX m5 r5 (by simp));have hl:=run_loadVar_mid (P:=Tryz.prog) _ (w.heap.size+1) 0 45 (yrL k.s (.slice ko (Dg.dg 4294967296 k.n).length kc) (.slice mo (Dg.dg 4294967296 M).length mc) e2) _ cR.range underlying45 rfl (by kernel_rfl);have HH:Hid (_∧_∧_∧_):=⟨hl,rN,rM,bR⟩;obtain⟨z0,z1,z2,z3⟩:=r5.cs4;have fz0:=r5.f 0;have fz1:=r5.f 1;have fz2:=r5.f 2;have fz3:=r5.f 3;clear hl bR bu cR rN rM;clear r5 b05 n5 m5 x5
  go_wp2
  obtain⟨hl,rN,rM,bR⟩:=HH.out;exact bodyPost_ret (br results102 rfl hl) rfl ⟨_,_,_,_,rfl,rN,rM,bR⟩
end Go.Proofs.YtbdokgamhinajaaGreatDoor

/-
  Texts laid together: Co16, Co17.
-/
import Derived.Test.YtbdokgamhinajaaGreatDoorSm07
set_option maxRecDepth 100000
set_option maxHeartbeats 6400000
namespace Go.Proofs.YtbdokgamhinajaaGreatDoor
open _root_.Go.Proofs.Tryz
open Go.RowKit
def lJ (r:Nat):Nat→Nat→Int→Nat×Int
 |0,d,p=>(d,p)
 |n+1,d,p=>if d % r=0 then lJ r n (d/r) (p+1) else(d,p)
def iT (w:World)(c:Int)(ng:Bool)(m:Nat)(p:Int)(z:Ending)(w':World):Prop:=
 ∃v,z= .returned (yvV c ng v p)∧Rd w' .u32 v (Dg.dg 4294967296 m)∧yB w w'
theorem We (R sz ex:Nat)(D L G fam:Int)(gr:Bool)(F:Nat)(ng:Bool)(e f d:Nat)(p:Int)(w:World)(hR:2≤R)(hR2:R≤16)(hd0:0<d)(hd:d<18446744073709551616)(hp1: -100000≤p)(hp2:p≤100000)
  (HC:yJ 193 #[ylV R D L G gr sz ex fam F,yfV ng e f] (yi 2))
  (HP:yJ 194 #[ylV R D L G gr sz ex fam F,yfV ng e f] (.tuple #[.int .u64 d,yi p])):
  yC 168 #[ylV R D L G gr sz ex fam F,yfV ng e f] w (iT w 2 ng (lJ R 64 d p).1 (lJ R 64 d p).2):=by
 have hsf:=cD;have bl:=af w (.cells (ylA R D L G gr sz ex fam F) 170);have bf:=af (w.alloc (.cells (ylA R D L G gr sz ex fam F) 170)) (.cells (yfA ng e f) 208);have bz:=af ((w.alloc (.cells (ylA R D L G gr sz ex fam F) 170)).alloc (.cells (yfA ng e f) 208)) (.cells (yvA 0 false yN 0) 100);have l0:=((ah w (ylL R D L G gr sz ex fam F) 170).l bf).l bz;have m0:=(ah (w.alloc (.cells (ylA R D L G gr sz ex fam F) 170)) (yfL ng e f) 208).l bz;have v0:=ah ((w.alloc (.cells (ylA R D L G gr sz ex fam F) 170)).alloc (.cells (yfA ng e f) 208)) (yvL 0 false yN 0) 100;have b0:=aa (aa bl bf) bz;rw[World.size_alloc] at m0;rw[World.size_alloc,World.size_alloc] at v0;clear bl bf bz;have HC':Hid _:=HC;have HP':Hid _:=HP;obtain⟨m,hm⟩: ∃m,(lJ R 64 d p).1=m:=⟨_,rfl⟩;obtain⟨pw,hpw⟩: ∃m,(lJ R 64 d p).2=m:=⟨_,rfl⟩;have HS:Hid (lJ R 64 d p=(m,pw)):=Prod.ext hm hpw;rw[hm,hpw];clear hm hpw HC HP
 go_enter func168,ntmps168
 go_wp2_with fail
 refine(HC'.out _).mono ?_;rintro z w1 ⟨rfl,b1⟩;have bq:=af w1 (.cells (yvA 2 false yN 0) 100);have l1:=(l0.l b1).l bq;have m1:=(m0.l b1).l bq;have v1:=(v0.l b1).l bq;have q1:=ah w1 (yvL 2 false yN 0) 100;have b01:=aa (aa b0 b1) bq;have hq3:w.heap.size+3≤w1.heap.size:=(v0.l b1).lt;obtain⟨x0,x1,x2,x3,x4,x5,x6,x7,x8⟩:=l1.cs9;obtain⟨y0,y1,y2⟩:=m1.cs3;clear l0 m0 v0 b0 b1 bq
 go_wp2_with fail
 refine(HP'.out _).mono ?_;rintro z w2 ⟨rfl,b2⟩;have l2:=l1.l b2;have m2:=m1.l b2;have v2:=v1.l b2;have q2:=q1.l b2;have b02:=aa b01 b2;clear l1 m1 v1 q1 b01 b2 x0 x1 x2 x3 x4 x5 x6 x7 x8 y0 y1 y2;generalize w1.heap.size=q at*;have x0:=l2.c 0 rfl;have hwR:IntKind.u64.wrap R=(R:Int):=IntWalk.u64_in _ ⟨by omega,by omega⟩;have hRn:((R:Int) != 0)=true:=by rw[bne_iff_ne];omega
 go_wp2
 go_loop [6,7] (fun dv pv=> ∃(n y:Nat) (r:Int),Hid (lJ R n y r=(m,pw)∧y<2^n)∧n≤64∧0<y∧y<18446744073709551616∧r+n≤p+64∧p≤r∧dv= .int .u64 y∧pv=yi r) (fun dv _=>(intOf dv).toNat)
 case atStart=>exact⟨64,d,p,⟨HS.out,hd⟩,by omega,hd0,hd,by omega,by omega,rfl,rfl⟩
 case round=>
  obtain⟨n,y,r,HY,hn,hy0,hy,hr1,hr2,rfl,rfl⟩:=hrel;obtain⟨t,ht⟩: ∃t,y % R=t:=⟨_,rfl⟩;obtain⟨u,hu⟩: ∃u,y/R=u:=⟨_,rfl⟩;have htI:(y:Int) % (R:Int)=(t:Int):=by rw[←ht];exact(Int.natCast_emod y R).symm
  have huI:(y:Int)/(R:Int)=(u:Int):=by rw[←hu];exact(Int.natCast_ediv y R).symm
  by_cases ht0:t=0
  ·subst ht0
   have hul:u<y:=by rw[←hu];exact Nat.div_lt_self hy0 hR
   have hu0:0<u:=by
    rw[←hu];exact Nat.div_pos (Nat.le_of_dvd hy0 (Nat.dvd_of_mod_eq_zero ht)) (by omega)
   have HH:Hid (_∧_):=⟨ht,hu⟩;clear ht hu
   go_wp2
   obtain⟨ht,hu⟩:=HH.out;obtain⟨hs1,hs2⟩:=HY.out;obtain⟨n',rfl⟩: ∃n',n=n'+1:=by
    cases n with
    |zero=>simp at hs2;omega
    |succ n'=>exact⟨n',rfl⟩
   rw[lJ,if_pos ht,hu] at hs1;refine⟨⟨n',u,r+1,⟨hs1, ?_⟩,by omega,hu0,by omega,by omega,by omega,rfl,rfl⟩, ?_⟩
   ·rw[Nat.pow_succ] at hs2
    have h2:y/R≤y/2:=Nat.div_le_div_left hR (by omega);omega
   ·simp only[intOf]
    omega
  ·have ht1:((t:Int)==0)=false:=by simp;omega
   have HH:Hid (_∧_):=⟨ht,hu⟩;obtain⟨hs1,hs2⟩:=HY.out;obtain⟨n',rfl⟩: ∃n',n=n'+1:=by
    cases n with
    |zero=>simp at hs2;omega
    |succ n'=>exact⟨n',rfl⟩
   rw[lJ,if_neg (by omega),Prod.mk.injEq] at hs1;obtain⟨rfl,rfl⟩:=hs1;clear ht hu huI hs2 HY HH HS;obtain⟨y0,y1,y2⟩:=m2.cs3;obtain⟨u0,u1,u2,u3⟩:=q2.cs4;have k1:=q2.f 1;have k2:=q2.f 2;have k3:=q2.f 3;have q2d:=q2.drew;have q2a:=q2d.set 1 (.bool ng);have q2b:=q2d.set 3 (yi r);have q2ab:=q2a.set 3 (yi r);have q2ba:=q2b.set 1 (.bool ng);have hne:q≠w.heap.size+1:=by omega
   have hnv:q≠w.heap.size+1+1:=by omega
   have m2d:=m2.drew;have m2a:=m2d.off hne 1 (.bool ng);have m2b:=m2d.off hne 3 (yi r);have m2ab:=m2a.off hne 3 (yi r);have m2ba:=m2b.off hne 1 (.bool ng);have v2d:=v2.drew;have v2a:=v2d.off hnv 1 (.bool ng);have v2b:=v2d.off hnv 3 (yi r);have v2ab:=v2a.off hnv 3 (yi r);have v2ba:=v2b.off hnv 1 (.bool ng);have hbq:w.heap.size≤q:=by omega
   have b2d:=b02.drew;have b2a:=(ag _ q 1 (.bool ng)).below b2d hbq;have b2b:=(ag _ q 3 (yi r)).below b2d hbq;have b2ab:=(ag _ q 3 (yi r)).below b2a hbq;have b2ba:=(ag _ q 1 (.bool ng)).below b2b hbq;have HFW:Hid (∀w1,yC 195 #[.int .u64 y] w1 fun z w'=> ∃v,z= .returned v∧Own w' w1.heap.size 148 .u32 v (Dg.dg 4294967296 y)∧yB w1 w'):=fun w1=>KH y hy w1
   go_wp2_with fail
   go_region_held3 (fun wq=>wq.cell? ⟨w.heap.size+1,0,none⟩=some (.bool ng)∧wq.cell? ⟨w.heap.size+1,1,none⟩=some (yi e)∧wq.cell? ⟨w.heap.size+1,2,none⟩=some (.int .u64 f)) (go_keep) (first
    | (go_at_call 195;refine(HFW.out _).mono ?_;rintro z w3 ⟨v,rfl,own3,b3⟩;obtain⟨so,sc,hvs⟩:=own3.rd.shape;subst hvs;(first| (have q3:=q2d.l b3;have m3:=m2d.l b3;have v3:=v2d.l b3;have b03:=aa b2d b3)| (have q3:=q2a.l b3;have m3:=m2a.l b3;have v3:=v2a.l b3;have b03:=aa b2a b3)| (have q3:=q2b.l b3;have m3:=m2b.l b3;have v3:=v2b.l b3;have b03:=aa b2b b3)| (have q3:=q2ab.l b3;have m3:=m2ab.l b3;have v3:=v2ab.l b3;have b03:=aa b2ab b3)| (have q3:=q2ba.l b3;have m3:=m2ba.l b3;have v3:=v2ba.l b3;have b03:=aa b2ba b3));obtain⟨t0,t1,t2⟩:=m3.cs3;obtain⟨s0,s1,s2,s3⟩:=q3.cs4;have j1:=q3.f 1;have j2:=q3.f 2;have j3:=q3.f 3))
   have bu4:=((ag w3 q 1 (.bool ng)).trans (ag _ q 2 (yT so y sc))).trans (ag _ q 3 (yi r));have q4:au (((w3.setCell ⟨q,1,none⟩ (.bool ng)).setCell ⟨q,2,none⟩ (yT so y sc)).setCell ⟨q,3,none⟩ (yi r)) q 100 (yvL 2 ng (yT so y sc) r):=((q3.set 1 (.bool ng)).set 2 (yT so y sc)).set 3 (yi r);have v4:=((v3.off hnv 1 (.bool ng)).off hnv 2 (yT so y sc)).off hnv 3 (yi r);have b04:=bu4.below b03 hbq;have own4:=(bu4.own own3 q3 (by decide)).rd;have ov4:=cq own4 (Dg.norm_dg _ _ (by omega)) v4 (fun x hx n hn=>by simp at hx;rcases hx with rfl|rfl|rfl|rfl<;>simp)
   generalize(((w3.setCell ⟨q,1,none⟩ (.bool ng)).setCell ⟨q,2,none⟩ (yT so y sc)).setCell ⟨q,3,none⟩ (yi r))=w4 at*;clear b3 q3 m3 v3 own3 bu4 t0 t1 t2 s0 s1 s2 s3 j1 j2 j3 u0 u1 u2 u3 k1 k2 k3 y0 y1 y2 x0 q2d q2a q2b q2ab q2ba m2d m2a m2b m2ab m2ba v2d v2a v2b v2ab v2ba b2d b2a b2b b2ab b2ba q2 m2 v2 l2 b02 b03;obtain⟨s0,s1,s2,s3⟩:=q4.cs4;obtain⟨t0,t1,t2,t3⟩:=v4.cs4;have j0:=v4.f 0;have j1:=v4.f 1;have j2:=v4.f 2;have j3:=v4.f 3;have bu5:=(((ag w4 (w.heap.size+1+1) 0 (yi 2)).trans (ag _ (w.heap.size+1+1) 1 (.bool ng))).trans (ag _ (w.heap.size+1+1) 2 (yT so y sc))).trans (ag _ (w.heap.size+1+1) 3 (yi r));have cR:au ((((w4.setCell ⟨w.heap.size+1+1,0,none⟩ (yi 2)).setCell ⟨w.heap.size+1+1,1,none⟩ (.bool ng)).setCell ⟨w.heap.size+1+1,2,none⟩ (yT so y sc)).setCell ⟨w.heap.size+1+1,3,none⟩ (yi r)) (w.heap.size+1+1) 100 (yvL 2 ng (yT so y sc) r):=(((v4.set 0 (yi 2)).set 1 (.bool ng)).set 2 (yT so y sc)).set 3 (yi r);have bR:=bu5.below b04 (by omega);have rR:=bu5.rd own4 ov4;have hl:=run_loadVar_mid (P:=Tryz.prog) _ (w.heap.size+1+1) 0 100 (yvL 2 ng (yT so y sc) r) _ cR.range underlying100 rfl (by kernel_rfl);have HH:Hid (_∧_∧_):=⟨hl,rR,bR⟩;clear hl rR bR cR bu5 own4 ov4 b04 q4 v4
   go_wp2
   obtain⟨hl,rR,bR⟩:=HH.out;exact bodyPost_ret (br results168 rfl hl) rfl ⟨_,rfl,rR,bR⟩
theorem aab (R sz ex:Nat)(D L G fam:Int)(gr:Bool)(F:Nat)(ng:Bool)(e f:Nat)(w:World)
  (HC:yJ 193 #[ylV R D L G gr sz ex fam F,yfV ng e f] (yi 1)):
  yC 168 #[ylV R D L G gr sz ex fam F,yfV ng e f] w (iT w 1 ng 0 0):=by
 have hsf:=cD;have bl:=af w (.cells (ylA R D L G gr sz ex fam F) 170);have bf:=af (w.alloc (.cells (ylA R D L G gr sz ex fam F) 170)) (.cells (yfA ng e f) 208);have bz:=af ((w.alloc (.cells (ylA R D L G gr sz ex fam F) 170)).alloc (.cells (yfA ng e f) 208)) (.cells (yvA 0 false yN 0) 100);have l0:=((ah w (ylL R D L G gr sz ex fam F) 170).l bf).l bz;have m0:=(ah (w.alloc (.cells (ylA R D L G gr sz ex fam F) 170)) (yfL ng e f) 208).l bz;have v0:=ah ((w.alloc (.cells (ylA R D L G gr sz ex fam F) 170)).alloc (.cells (yfA ng e f) 208)) (yvL 0 false yN 0) 100;have b0:=aa (aa bl bf) bz;rw[World.size_alloc] at m0;rw[World.size_alloc,World.size_alloc] at v0;clear bl bf bz;have HC':Hid _:=HC;clear HC
 go_enter func168,ntmps168
 go_wp2_with fail
 refine(HC'.out _).mono ?_;rintro z w1 ⟨rfl,b1⟩;have bq:=af w1 (.cells (yvA 1 ng yN 0) 100);have m1:=(m0.l b1).l bq;have v1:=(v0.l b1).l bq;have q1:=ah w1 (yvL 1 ng yN 0) 100;have b01:=aa (aa b0 b1) bq;have hq3:w.heap.size+3≤w1.heap.size:=(v0.l b1).lt;have y0:=((m0.l b1).l (af w1 (.cells (yvA 1 false yN 0) 100))).c 0 rfl;obtain⟨z0,z1,z2,z3⟩:=v1.cs4;have j0:=v1.f 0;have j1:=v1.f 1;have j2:=v1.f 2;have j3:=v1.f 3;obtain⟨s0,s1,s2,s3⟩:=q1.cs4;have hne:w1.heap.size≠w.heap.size+1+1:=by omega
 have bu5:=(((ag (w1.alloc (.cells (yvA 1 ng yN 0) 100)) (w.heap.size+1+1) 0 (yi 1)).trans (ag _ (w.heap.size+1+1) 1 (.bool ng))).trans (ag _ (w.heap.size+1+1) 2 yN)).trans (ag _ (w.heap.size+1+1) 3 (yi 0));have cR:au (((((w1.alloc (.cells (yvA 1 ng yN 0) 100)).setCell ⟨w.heap.size+1+1,0,none⟩ (yi 1)).setCell ⟨w.heap.size+1+1,1,none⟩ (.bool ng)).setCell ⟨w.heap.size+1+1,2,none⟩ yN).setCell ⟨w.heap.size+1+1,3,none⟩ (yi 0)) (w.heap.size+1+1) 100 (yvL 1 ng yN 0):=(((v1.set 0 (yi 1)).set 1 (.bool ng)).set 2 yN).set 3 (yi 0);have bR:=bu5.below b01 (by omega);have hl:=run_loadVar_mid (P:=Tryz.prog) _ (w.heap.size+1+1) 0 100 (yvL 1 ng yN 0) _ cR.range underlying100 rfl (by kernel_rfl);have HH:Hid (_∧_):=⟨hl,bR⟩;clear hl bR cR bu5 b01 q1 v1 m1 l0 m0 v0 b0 b1 bq
 go_wp2
 obtain⟨hl,bR⟩:=HH.out;exact bodyPost_ret (br results168 rfl hl) rfl ⟨_,rfl,aN _ _,bR⟩
theorem aac (R sz ex:Nat)(D L G fam:Int)(gr:Bool)(F:Nat)(ng:Bool)(e f:Nat)(w:World)
  (HC:yJ 193 #[ylV R D L G gr sz ex fam F,yfV ng e f] (yi 3)):
  yC 168 #[ylV R D L G gr sz ex fam F,yfV ng e f] w (iT w 3 ng 0 0):=by
 have hsf:=cD;have bl:=af w (.cells (ylA R D L G gr sz ex fam F) 170);have bf:=af (w.alloc (.cells (ylA R D L G gr sz ex fam F) 170)) (.cells (yfA ng e f) 208);have bz:=af ((w.alloc (.cells (ylA R D L G gr sz ex fam F) 170)).alloc (.cells (yfA ng e f) 208)) (.cells (yvA 0 false yN 0) 100);have l0:=((ah w (ylL R D L G gr sz ex fam F) 170).l bf).l bz;have m0:=(ah (w.alloc (.cells (ylA R D L G gr sz ex fam F) 170)) (yfL ng e f) 208).l bz;have v0:=ah ((w.alloc (.cells (ylA R D L G gr sz ex fam F) 170)).alloc (.cells (yfA ng e f) 208)) (yvL 0 false yN 0) 100;have b0:=aa (aa bl bf) bz;rw[World.size_alloc] at m0;rw[World.size_alloc,World.size_alloc] at v0;clear bl bf bz;have HC':Hid _:=HC;clear HC
 go_enter func168,ntmps168
 go_wp2_with fail
 refine(HC'.out _).mono ?_;rintro z w1 ⟨rfl,b1⟩;have bq:=af w1 (.cells (yvA 3 ng yN 0) 100);have m1:=(m0.l b1).l bq;have v1:=(v0.l b1).l bq;have q1:=ah w1 (yvL 3 ng yN 0) 100;have b01:=aa (aa b0 b1) bq;have hq3:w.heap.size+3≤w1.heap.size:=(v0.l b1).lt;have y0:=((m0.l b1).l (af w1 (.cells (yvA 3 false yN 0) 100))).c 0 rfl;obtain⟨z0,z1,z2,z3⟩:=v1.cs4;have j0:=v1.f 0;have j1:=v1.f 1;have j2:=v1.f 2;have j3:=v1.f 3;obtain⟨s0,s1,s2,s3⟩:=q1.cs4;have hne:w1.heap.size≠w.heap.size+1+1:=by omega
 have bu5:=(((ag (w1.alloc (.cells (yvA 3 ng yN 0) 100)) (w.heap.size+1+1) 0 (yi 3)).trans (ag _ (w.heap.size+1+1) 1 (.bool ng))).trans (ag _ (w.heap.size+1+1) 2 yN)).trans (ag _ (w.heap.size+1+1) 3 (yi 0));have cR:au (((((w1.alloc (.cells (yvA 3 ng yN 0) 100)).setCell ⟨w.heap.size+1+1,0,none⟩ (yi 3)).setCell ⟨w.heap.size+1+1,1,none⟩ (.bool ng)).setCell ⟨w.heap.size+1+1,2,none⟩ yN).setCell ⟨w.heap.size+1+1,3,none⟩ (yi 0)) (w.heap.size+1+1) 100 (yvL 3 ng yN 0):=(((v1.set 0 (yi 3)).set 1 (.bool ng)).set 2 yN).set 3 (yi 0);have bR:=bu5.below b01 (by omega);have hl:=run_loadVar_mid (P:=Tryz.prog) _ (w.heap.size+1+1) 0 100 (yvL 3 ng yN 0) _ cR.range underlying100 rfl (by kernel_rfl);have HH:Hid (_∧_):=⟨hl,bR⟩;clear hl bR cR bu5 b01 q1 v1 m1 l0 m0 v0 b0 b1 bq
 go_wp2
 obtain⟨hl,bR⟩:=HH.out;exact bodyPost_ret (br results168 rfl hl) rfl ⟨_,rfl,aN _ _,bR⟩
theorem aad (R sz ex:Nat)(D L G fam:Int)(gr:Bool)(F:Nat)(ng:Bool)(e f:Nat)(w:World)
  (HC:yJ 193 #[ylV R D L G gr sz ex fam F,yfV ng e f] (yi 4)):
  yC 168 #[ylV R D L G gr sz ex fam F,yfV ng e f] w (iT w 4 false 0 0):=by
 have hsf:=cD;have bl:=af w (.cells (ylA R D L G gr sz ex fam F) 170);have bf:=af (w.alloc (.cells (ylA R D L G gr sz ex fam F) 170)) (.cells (yfA ng e f) 208);have bz:=af ((w.alloc (.cells (ylA R D L G gr sz ex fam F) 170)).alloc (.cells (yfA ng e f) 208)) (.cells (yvA 0 false yN 0) 100);have l0:=((ah w (ylL R D L G gr sz ex fam F) 170).l bf).l bz;have m0:=(ah (w.alloc (.cells (ylA R D L G gr sz ex fam F) 170)) (yfL ng e f) 208).l bz;have v0:=ah ((w.alloc (.cells (ylA R D L G gr sz ex fam F) 170)).alloc (.cells (yfA ng e f) 208)) (yvL 0 false yN 0) 100;have b0:=aa (aa bl bf) bz;rw[World.size_alloc] at m0;rw[World.size_alloc,World.size_alloc] at v0;clear bl bf bz;have HC':Hid _:=HC;clear HC
 go_enter func168,ntmps168
 go_wp2_with fail
 refine(HC'.out _).mono ?_;rintro z w1 ⟨rfl,b1⟩;have bq:=af w1 (.cells (yvA 4 false yN 0) 100);have m1:=(m0.l b1).l bq;have v1:=(v0.l b1).l bq;have q1:=ah w1 (yvL 4 false yN 0) 100;have b01:=aa (aa b0 b1) bq;have hq3:w.heap.size+3≤w1.heap.size:=(v0.l b1).lt;have y0:=((m0.l b1).l (af w1 (.cells (yvA 4 false yN 0) 100))).c 0 rfl;obtain⟨z0,z1,z2,z3⟩:=v1.cs4;have j0:=v1.f 0;have j1:=v1.f 1;have j2:=v1.f 2;have j3:=v1.f 3;obtain⟨s0,s1,s2,s3⟩:=q1.cs4;have hne:w1.heap.size≠w.heap.size+1+1:=by omega
 have bu5:=(((ag (w1.alloc (.cells (yvA 4 false yN 0) 100)) (w.heap.size+1+1) 0 (yi 4)).trans (ag _ (w.heap.size+1+1) 1 (.bool false))).trans (ag _ (w.heap.size+1+1) 2 yN)).trans (ag _ (w.heap.size+1+1) 3 (yi 0));have cR:au (((((w1.alloc (.cells (yvA 4 false yN 0) 100)).setCell ⟨w.heap.size+1+1,0,none⟩ (yi 4)).setCell ⟨w.heap.size+1+1,1,none⟩ (.bool false)).setCell ⟨w.heap.size+1+1,2,none⟩ yN).setCell ⟨w.heap.size+1+1,3,none⟩ (yi 0)) (w.heap.size+1+1) 100 (yvL 4 false yN 0):=(((v1.set 0 (yi 4)).set 1 (.bool false)).set 2 yN).set 3 (yi 0);have bR:=bu5.below b01 (by omega);have hl:=run_loadVar_mid (P:=Tryz.prog) _ (w.heap.size+1+1) 0 100 (yvL 4 false yN 0) _ cR.range underlying100 rfl (by kernel_rfl);have HH:Hid (_∧_):=⟨hl,bR⟩;clear hl bR cR bu5 b01 q1 v1 m1 l0 m0 v0 b0 b1 bq
 go_wp2
 obtain⟨hl,bR⟩:=HH.out;exact bodyPost_ret (br results168 rfl hl) rfl ⟨_,rfl,aN _ _,bR⟩
theorem aae (R sz ex:Nat)(D L G fam:Int)(gr:Bool)(F:Nat)(ng:Bool)(e f:Nat)(w:World)
  (HC:yJ 193 #[ylV R D L G gr sz ex fam F,yfV ng e f] (yi 5)):
  yC 168 #[ylV R D L G gr sz ex fam F,yfV ng e f] w (iT w 5 false 0 0):=by
 have hsf:=cD;have bl:=af w (.cells (ylA R D L G gr sz ex fam F) 170);have bf:=af (w.alloc (.cells (ylA R D L G gr sz ex fam F) 170)) (.cells (yfA ng e f) 208);have bz:=af ((w.alloc (.cells (ylA R D L G gr sz ex fam F) 170)).alloc (.cells (yfA ng e f) 208)) (.cells (yvA 0 false yN 0) 100);have l0:=((ah w (ylL R D L G gr sz ex fam F) 170).l bf).l bz;have m0:=(ah (w.alloc (.cells (ylA R D L G gr sz ex fam F) 170)) (yfL ng e f) 208).l bz;have v0:=ah ((w.alloc (.cells (ylA R D L G gr sz ex fam F) 170)).alloc (.cells (yfA ng e f) 208)) (yvL 0 false yN 0) 100;have b0:=aa (aa bl bf) bz;rw[World.size_alloc] at m0;rw[World.size_alloc,World.size_alloc] at v0;clear bl bf bz;have HC':Hid _:=HC;clear HC
 go_enter func168,ntmps168
 go_wp2_with fail
 refine(HC'.out _).mono ?_;rintro z w1 ⟨rfl,b1⟩;have bq:=af w1 (.cells (yvA 5 false yN 0) 100);have m1:=(m0.l b1).l bq;have v1:=(v0.l b1).l bq;have q1:=ah w1 (yvL 5 false yN 0) 100;have b01:=aa (aa b0 b1) bq;have hq3:w.heap.size+3≤w1.heap.size:=(v0.l b1).lt;have y0:=((m0.l b1).l (af w1 (.cells (yvA 5 false yN 0) 100))).c 0 rfl;obtain⟨z0,z1,z2,z3⟩:=v1.cs4;have j0:=v1.f 0;have j1:=v1.f 1;have j2:=v1.f 2;have j3:=v1.f 3;obtain⟨s0,s1,s2,s3⟩:=q1.cs4;have hne:w1.heap.size≠w.heap.size+1+1:=by omega
 have bu5:=(((ag (w1.alloc (.cells (yvA 5 false yN 0) 100)) (w.heap.size+1+1) 0 (yi 5)).trans (ag _ (w.heap.size+1+1) 1 (.bool false))).trans (ag _ (w.heap.size+1+1) 2 yN)).trans (ag _ (w.heap.size+1+1) 3 (yi 0));have cR:au (((((w1.alloc (.cells (yvA 5 false yN 0) 100)).setCell ⟨w.heap.size+1+1,0,none⟩ (yi 5)).setCell ⟨w.heap.size+1+1,1,none⟩ (.bool false)).setCell ⟨w.heap.size+1+1,2,none⟩ yN).setCell ⟨w.heap.size+1+1,3,none⟩ (yi 0)) (w.heap.size+1+1) 100 (yvL 5 false yN 0):=(((v1.set 0 (yi 5)).set 1 (.bool false)).set 2 yN).set 3 (yi 0);have bR:=bu5.below b01 (by omega);have hl:=run_loadVar_mid (P:=Tryz.prog) _ (w.heap.size+1+1) 0 100 (yvL 5 false yN 0) _ cR.range underlying100 rfl (by kernel_rfl);have HH:Hid (_∧_):=⟨hl,bR⟩;clear hl bR cR bu5 b01 q1 v1 m1 l0 m0 v0 b0 b1 bq
 go_wp2
 obtain⟨hl,bR⟩:=HH.out;exact bodyPost_ret (br results168 rfl hl) rfl ⟨_,rfl,aN _ _,bR⟩
def kt (k:Nat)(ng:Bool)(e f:Nat):Bool:=if dh k ng e f≤3 then ng else false
def ge (k:Nat)(ng:Bool)(e f:Nat):Nat:=if dh k ng e f=2 then(lJ (rdN k) 64 (iI k e f) (ii k e)).1 else 0
def gw (k:Nat)(ng:Bool)(e f:Nat):Int:=if dh k ng e f=2 then(lJ (rdN k) 64 (iI k e f) (ii k e)).2 else 0
theorem DV (k:Nat)(ng:Bool)(e f:Nat):dh k ng e f=1∨dh k ng e f=2∨dh k ng e f=3∨dh k ng e f=4∨dh k ng e f=5:=by
 unfold dh
 repeat' split
 all_goals decide
theorem adB {a b:Nat}(h:0<b):0<a|||b:=Nat.lt_of_lt_of_le h Nat.right_le_or
theorem VL (k:Nat):0<gW k:=Nat.pow_pos (by omega)
theorem ZM {k:Nat}(hk:1≤k∧k≤8):gW k<2^64:=by
 rcases bO hk with rfl|rfl|rfl|rfl|rfl|rfl|rfl|rfl<;>decide
theorem jX {k:Nat}{ng:Bool}{e f:Nat}(h:dh k ng e f=2):0<iI k e f:=by
 unfold iI
 by_cases h0:e=0
 ·subst h0
  rw[if_pos rfl,ite_self]
  rcases Nat.eq_zero_or_pos f with hf|hf
  ·subst hf
   unfold dh at h;simp only[if_true] at h
   split at h
   ·omega
   ·split at h
    ·omega
    ·split at h<;>omega
  ·exact hf
 ·rw[if_neg h0]
  by_cases hr:rdN k=16
  ·rw[if_pos hr]
   have h45:k=4∨k=5:=by
    unfold rdN at hr
    split at hr
    ·exact .inl rfl
    ·exact .inr rfl
    ·omega
   unfold dh at h;rw[if_neg (by omega),if_pos (by omega)] at h
   rcases Nat.eq_zero_or_pos f with hf|hf
   ·rw[if_pos hf] at h
    omega
   ·exact hf
  ·rw[if_neg hr]
   exact adB (VL k)
theorem vS {k:Nat}(hk:1≤k∧k≤8)(e:Nat){f:Nat}(hf:f<2^64):iI k e f<2^64:=by
 unfold iI
 split
 ·exact hf
 ·split
  ·exact hf
  ·exact Nat.or_lt_two_pow hf (ZM hk)
theorem ab9 {k:Nat}(hk:1≤k∧k≤8){e:Nat}(he:e<65536): -100000≤ii k e∧ii k e≤100000:=by
 have h: -20000≤lsI k∧lsI k≤0:=by rcases bO hk with rfl|rfl|rfl|rfl|rfl|rfl|rfl|rfl<;>decide
 unfold ii
 split
 ·omega
 ·split<;>omega
theorem Gz (k:Nat)(hk:1≤k∧k≤8)(ng:Bool)(e f:Nat)(w:World)(hf:f<18446744073709551616)(he:e<65536):yC 168 #[.agg (tS k).toArray,yfV ng e f] w (iT w ((dh k ng e f:Nat):Int) (kt k ng e f) (ge k ng e f) (gw k ng e f)):=by
 have HC:=fun w1=>Gf k hk ng e f w1 hf
 have HP:=fun w1=>QL k hk ng e f w1 hf he
 have hd:=fun h=>jX (k:=k) (ng:=ng) (e:=e) (f:=f) h
 have hl:=vS hk e hf;have hp:=ab9 hk he;unfold kt ge gw;generalize iI k e f=d at*;generalize ii k e=p at*
 rcases DV k ng e f with hc|hc|hc|hc|hc
 all_goals (rw[hc] at HC⊢)
 ·rw[if_pos (by omega),if_neg (by omega),if_neg (by omega)]
  rcases bO hk with rfl|rfl|rfl|rfl|rfl|rfl|rfl|rfl
  all_goals exact aab _ _ _ _ _ _ _ _ _ ng e f w HC
 ·rw[if_pos (by omega),if_pos rfl,if_pos rfl]
  have h0:=hd hc
  rcases bO hk with rfl|rfl|rfl|rfl|rfl|rfl|rfl|rfl
  all_goals exact We _ _ _ _ _ _ _ _ _ ng e f d p w (by decide) (by decide) h0 hl hp.1 hp.2 HC HP
 ·rw[if_pos (by omega),if_neg (by omega),if_neg (by omega)]
  rcases bO hk with rfl|rfl|rfl|rfl|rfl|rfl|rfl|rfl
  all_goals exact aac _ _ _ _ _ _ _ _ _ ng e f w HC
 ·rw[if_neg (by omega),if_neg (by omega),if_neg (by omega)]
  rcases bO hk with rfl|rfl|rfl|rfl|rfl|rfl|rfl|rfl
  all_goals exact aad _ _ _ _ _ _ _ _ _ ng e f w HC
 ·rw[if_neg (by omega),if_neg (by omega),if_neg (by omega)]
  rcases bO hk with rfl|rfl|rfl|rfl|rfl|rfl|rfl|rfl
  all_goals exact aae _ _ _ _ _ _ _ _ _ ng e f w HC
theorem kg {P:Program}{fn:Func}{a b t:Nat}{ta tb:TypeId}{tmps:Array Value}{w:World}{ba bb:Nat}{va vb u:Value}(hres:fn.results= #[.cell a ta,.cell b tb,.tmp t])(ha:tmps.getD a undef= .pointer (some ⟨ba,0,none⟩))(hb:tmps.getD b undef= .pointer (some ⟨bb,0,none⟩))(hu:tmps.getD t undef=u)(hla:(loadVar ta ⟨ba,0,none⟩).run P w= .ok va w)(hlb:(loadVar tb ⟨bb,0,none⟩).run P w= .ok vb w):(results fn tmps).run P w= .ok (.tuple #[va,vb,u]) w:=by
 rw[Array.getD_eq_getD_getElem?] at ha hb hu;unfold results;simp[hres,ha,hb,hu,asAddr,hla,hlb]
theorem pU (k:Nat)(hk:1≤k∧k≤8)(w:World):yC 117 #[yi k] w (tC w k 0):=by
 rcases bO hk with rfl|rfl|rfl|rfl|rfl|rfl|rfl|rfl
 ·exact uU w
 ·exact uV w
 ·exact uW w
 ·exact uX w
 ·exact uY w
 ·exact uZ w
 ·exact vf w
 ·exact vh w
theorem N7 (n:Int)(R sz ex:Nat)(D L G fam:Int)(gr:Bool)(F:Nat)(ng:Bool)(e f:Nat)(s:ByteArray)(w:World)(hs:s.size=sz)
  (HL:yJ 117 #[yi n] (.tuple #[ylV R D L G gr sz ex fam F,yi 0]))
  (HR:yJ 192 #[ylV R D L G gr sz ex fam F,.string s] (yfV ng e f)):
  yC 167 #[yi n,.string s] w (yR w (.tuple #[ylV R D L G gr sz ex fam F,yfV ng e f,yi 0])):=by
 have hsf:=cD;have hsn:=gn;have bl:=af w (.cells (yzA 0 0 0 0 false 0 0 0) 170);have bf:=af (w.alloc (.cells (yzA 0 0 0 0 false 0 0 0) 170)) (.cells (yfA false 0 0) 208);have l0:=(ah w (yzL 0 0 0 0 false 0 0 0) 170).l bf;have m0:=ah (w.alloc (.cells (yzA 0 0 0 0 false 0 0 0) 170)) (yfL false 0 0) 208;have b0:=aa bl bf;rw[World.size_alloc] at m0;clear bl bf;have HL':Hid _:=HL;have HR':Hid _:=HR;clear HL HR
 go_enter func167,ntmps167
 go_wp2_with fail
 refine(HL'.out _).mono ?_;rintro z w1 ⟨rfl,b1⟩;have bq:=af w1 (.cells (ylA R D L G gr sz ex fam F) 170);have l1:=((l0.l b1).l bq).drew;have m1:=((m0.l b1).l bq).drew;have q1:=ah w1 (ylL R D L G gr sz ex fam F) 170;have b01:=(aa (aa b0 b1) bq).drew;have q1d:=q1.drew;have hne0:w.heap.size≠w1.heap.size:=Nat.ne_of_lt (l0.l b1).lt;have hne1:w.heap.size+1≠w1.heap.size:=Nat.ne_of_lt (m0.l b1).lt;obtain⟨p0,p1,p2,p3,p4,p5,p6,p7,p8⟩:=q1.cs9;have hsz:((s.size:Int) != (sz:Int))=false:=by rw[hs];simp
 go_wp2_with fail
 go_region_held3 (fun wq=>wq.cell? ⟨w1.heap.size,0,none⟩=some (yi R)∧wq.cell? ⟨w1.heap.size,1,none⟩=some (yi D)∧wq.cell? ⟨w1.heap.size,2,none⟩=some (yi L)∧wq.cell? ⟨w1.heap.size,3,none⟩=some (yi G)∧wq.cell? ⟨w1.heap.size,4,none⟩=some (.bool gr)∧wq.cell? ⟨w1.heap.size,5,none⟩=some (yi sz)∧wq.cell? ⟨w1.heap.size,6,none⟩=some (yi ex)∧wq.cell? ⟨w1.heap.size,7,none⟩=some (yi fam)∧wq.cell? ⟨w1.heap.size,8,none⟩=some (.func (.func F) #[] #[])) (go_keep) (first
  | (go_at_call 192;refine(HR'.out _).mono ?_;rintro z w2 ⟨rfl,b2⟩;have l2:=l1.l b2;have m2:=m1.l b2;have q2:=q1d.l b2;have b02:=aa b01 b2;obtain⟨x0,x1,x2,x3,x4,x5,x6,x7,x8⟩:=l2.cs9;have jx0:=l2.f 0;have jx1:=l2.f 1;have jx2:=l2.f 2;have jx3:=l2.f 3;have jx4:=l2.f 4;have jx5:=l2.f 5;have jx6:=l2.f 6;have jx7:=l2.f 7;have jx8:=l2.f 8;obtain⟨y0,y1,y2⟩:=m2.cs3;have jy0:=m2.f 0;have jy1:=m2.f 1;have jy2:=m2.f 2;obtain⟨s0,s1,s2,s3,s4,s5,s6,s7,s8⟩:=q2.cs9))
 have hn1:w.heap.size+1≠w.heap.size:=Nat.succ_ne_self _;have cL:au ((((((((((((w2.setCell ⟨w.heap.size,0,none⟩ (yi R)).setCell ⟨w.heap.size,1,none⟩ (yi D)).setCell ⟨w.heap.size,2,none⟩ (yi L)).setCell ⟨w.heap.size,3,none⟩ (yi G)).setCell ⟨w.heap.size,4,none⟩ (.bool gr)).setCell ⟨w.heap.size,5,none⟩ (yi sz)).setCell ⟨w.heap.size,6,none⟩ (yi ex)).setCell ⟨w.heap.size,7,none⟩ (yi fam)).setCell ⟨w.heap.size,8,none⟩ (.func (.func F) #[] #[])).setCell ⟨w.heap.size+1,0,none⟩ (.bool ng)).setCell ⟨w.heap.size+1,1,none⟩ (yi e)).setCell ⟨w.heap.size+1,2,none⟩ (.int .u64 f)) w.heap.size 170 (ylL R D L G gr sz ex fam F):=((((((((((((l2.set 0 (yi R)).set 1 (yi D)).set 2 (yi L)).set 3 (yi G)).set 4 (.bool gr)).set 5 (yi sz)).set 6 (yi ex)).set 7 (yi fam)).set 8 (.func (.func F) #[] #[])).off hn1 0 (.bool ng)).off hn1 1 (yi e)).off hn1 2 (.int .u64 f));have cM:au ((((((((((((w2.setCell ⟨w.heap.size,0,none⟩ (yi R)).setCell ⟨w.heap.size,1,none⟩ (yi D)).setCell ⟨w.heap.size,2,none⟩ (yi L)).setCell ⟨w.heap.size,3,none⟩ (yi G)).setCell ⟨w.heap.size,4,none⟩ (.bool gr)).setCell ⟨w.heap.size,5,none⟩ (yi sz)).setCell ⟨w.heap.size,6,none⟩ (yi ex)).setCell ⟨w.heap.size,7,none⟩ (yi fam)).setCell ⟨w.heap.size,8,none⟩ (.func (.func F) #[] #[])).setCell ⟨w.heap.size+1,0,none⟩ (.bool ng)).setCell ⟨w.heap.size+1,1,none⟩ (yi e)).setCell ⟨w.heap.size+1,2,none⟩ (.int .u64 f)) (w.heap.size+1) 208 (yfL ng e f):=((((((((((((m2.off (Ne.symm hn1) 0 (yi R)).off (Ne.symm hn1) 1 (yi D)).off (Ne.symm hn1) 2 (yi L)).off (Ne.symm hn1) 3 (yi G)).off (Ne.symm hn1) 4 (.bool gr)).off (Ne.symm hn1) 5 (yi sz)).off (Ne.symm hn1) 6 (yi ex)).off (Ne.symm hn1) 7 (yi fam)).off (Ne.symm hn1) 8 (.func (.func F) #[] #[])).set 0 (.bool ng)).set 1 (yi e)).set 2 (.int .u64 f));have bR:=(((ag _ (w.heap.size+1) 0 (.bool ng)).trans (ag _ (w.heap.size+1) 1 (yi e))).trans (ag _ (w.heap.size+1) 2 (.int .u64 f))).below ((((((((((ag w2 w.heap.size 0 (yi R)).trans (ag _ w.heap.size 1 (yi D))).trans (ag _ w.heap.size 2 (yi L))).trans (ag _ w.heap.size 3 (yi G))).trans (ag _ w.heap.size 4 (.bool gr))).trans (ag _ w.heap.size 5 (yi sz))).trans (ag _ w.heap.size 6 (yi ex))).trans (ag _ w.heap.size 7 (yi fam))).trans (ag _ w.heap.size 8 (.func (.func F) #[] #[]))).below b02 (Nat.le_refl _)) (Nat.le_succ _);have hl:=run_loadVar_mid (P:=Tryz.prog) _ w.heap.size 0 170 (ylL R D L G gr sz ex fam F) _ cL.range underlying170 rfl (by kernel_rfl);have hm:=run_loadVar_mid (P:=Tryz.prog) _ (w.heap.size+1) 0 208 (yfL ng e f) _ cM.range underlying208 rfl (by kernel_rfl);have HH:Hid (_∧_∧_):=⟨hl,hm,bR⟩;clear hl hm bR cL cM l2 m2 q2 b02 l1 m1 q1 q1d b01 l0 m0 b0 bq b1 b2
 go_wp2
 obtain⟨hl,hm,bR⟩:=HH.out;exact bodyPost_ret (kg results167 rfl rfl rfl hl hm) rfl ⟨rfl,bR⟩
theorem GA (n:Int)(s:ByteArray)(w:World)
  (HL:yJ 117 #[yi n] (.tuple #[yzV 0 0 0 0 false 0 0 0,yi 6])):
  yC 167 #[yi n,.string s] w (yR w (.tuple #[yzV 0 0 0 0 false 0 0 0,yfV false 0 0,yi 6])):=by
 have hsf:=cD;have hsn:=gn;have bl:=af w (.cells (yzA 0 0 0 0 false 0 0 0) 170);have bf:=af (w.alloc (.cells (yzA 0 0 0 0 false 0 0 0) 170)) (.cells (yfA false 0 0) 208);have l0:=(ah w (yzL 0 0 0 0 false 0 0 0) 170).l bf;have m0:=ah (w.alloc (.cells (yzA 0 0 0 0 false 0 0 0) 170)) (yfL false 0 0) 208;have b0:=aa bl bf;rw[World.size_alloc] at m0;clear bl bf;have HL':Hid _:=HL;clear HL
 go_enter func167,ntmps167
 go_wp2_with fail
 refine(HL'.out _).mono ?_;rintro z w1 ⟨rfl,b1⟩;have bq:=af w1 (.cells (yzA 0 0 0 0 false 0 0 0) 170);have l1:=(l0.l b1).l bq;have m1:=(m0.l b1).l bq;have q1:=ah w1 (yzL 0 0 0 0 false 0 0 0) 170;have b01:=aa (aa b0 b1) bq;have hne0:w.heap.size≠w1.heap.size:=Nat.ne_of_lt (l0.l b1).lt;have hne1:w.heap.size+1≠w1.heap.size:=Nat.ne_of_lt (m0.l b1).lt;obtain⟨p0,p1,p2,p3,p4,p5,p6,p7,p8⟩:=q1.cs9;obtain⟨x0,x1,x2,x3,x4,x5,x6,x7,x8⟩:=l1.cs9;have jx0:=l1.f 0;have jx1:=l1.f 1;have jx2:=l1.f 2;have jx3:=l1.f 3;have jx4:=l1.f 4;have jx5:=l1.f 5;have jx6:=l1.f 6;have jx7:=l1.f 7;have jx8:=l1.f 8;obtain⟨y0,y1,y2⟩:=m1.cs3;have jy0:=m1.f 0;have jy1:=m1.f 1;have jy2:=m1.f 2;have hn1:w.heap.size+1≠w.heap.size:=Nat.succ_ne_self _;have cL:au (((((((((((((w1.alloc (.cells (yzA 0 0 0 0 false 0 0 0) 170)).setCell ⟨w.heap.size,0,none⟩ (yi 0)).setCell ⟨w.heap.size,1,none⟩ (yi 0)).setCell ⟨w.heap.size,2,none⟩ (yi 0)).setCell ⟨w.heap.size,3,none⟩ (yi 0)).setCell ⟨w.heap.size,4,none⟩ (.bool false)).setCell ⟨w.heap.size,5,none⟩ (yi 0)).setCell ⟨w.heap.size,6,none⟩ (yi 0)).setCell ⟨w.heap.size,7,none⟩ (yi 0)).setCell ⟨w.heap.size,8,none⟩ (.nilFunc)).setCell ⟨w.heap.size+1,0,none⟩ (.bool false)).setCell ⟨w.heap.size+1,1,none⟩ (yi 0)).setCell ⟨w.heap.size+1,2,none⟩ (.int .u64 0)) w.heap.size 170 (yzL 0 0 0 0 false 0 0 0):=((((((((((((l1.set 0 (yi 0)).set 1 (yi 0)).set 2 (yi 0)).set 3 (yi 0)).set 4 (.bool false)).set 5 (yi 0)).set 6 (yi 0)).set 7 (yi 0)).set 8 (.nilFunc)).off hn1 0 (.bool false)).off hn1 1 (yi 0)).off hn1 2 (.int .u64 0));have cM:au (((((((((((((w1.alloc (.cells (yzA 0 0 0 0 false 0 0 0) 170)).setCell ⟨w.heap.size,0,none⟩ (yi 0)).setCell ⟨w.heap.size,1,none⟩ (yi 0)).setCell ⟨w.heap.size,2,none⟩ (yi 0)).setCell ⟨w.heap.size,3,none⟩ (yi 0)).setCell ⟨w.heap.size,4,none⟩ (.bool false)).setCell ⟨w.heap.size,5,none⟩ (yi 0)).setCell ⟨w.heap.size,6,none⟩ (yi 0)).setCell ⟨w.heap.size,7,none⟩ (yi 0)).setCell ⟨w.heap.size,8,none⟩ (.nilFunc)).setCell ⟨w.heap.size+1,0,none⟩ (.bool false)).setCell ⟨w.heap.size+1,1,none⟩ (yi 0)).setCell ⟨w.heap.size+1,2,none⟩ (.int .u64 0)) (w.heap.size+1) 208 (yfL false 0 0):=((((((((((((m1.off (Ne.symm hn1) 0 (yi 0)).off (Ne.symm hn1) 1 (yi 0)).off (Ne.symm hn1) 2 (yi 0)).off (Ne.symm hn1) 3 (yi 0)).off (Ne.symm hn1) 4 (.bool false)).off (Ne.symm hn1) 5 (yi 0)).off (Ne.symm hn1) 6 (yi 0)).off (Ne.symm hn1) 7 (yi 0)).off (Ne.symm hn1) 8 (.nilFunc)).set 0 (.bool false)).set 1 (yi 0)).set 2 (.int .u64 0));have bR:=(((ag _ (w.heap.size+1) 0 (.bool false)).trans (ag _ (w.heap.size+1) 1 (yi 0))).trans (ag _ (w.heap.size+1) 2 (.int .u64 0))).below ((((((((((ag (w1.alloc (.cells (yzA 0 0 0 0 false 0 0 0) 170)) w.heap.size 0 (yi 0)).trans (ag _ w.heap.size 1 (yi 0))).trans (ag _ w.heap.size 2 (yi 0))).trans (ag _ w.heap.size 3 (yi 0))).trans (ag _ w.heap.size 4 (.bool false))).trans (ag _ w.heap.size 5 (yi 0))).trans (ag _ w.heap.size 6 (yi 0))).trans (ag _ w.heap.size 7 (yi 0))).trans (ag _ w.heap.size 8 (.nilFunc))).below b01 (Nat.le_refl _)) (Nat.le_succ _);have hl:=run_loadVar_mid (P:=Tryz.prog) _ w.heap.size 0 170 (yzL 0 0 0 0 false 0 0 0) _ cL.range underlying170 rfl (by kernel_rfl);have hm:=run_loadVar_mid (P:=Tryz.prog) _ (w.heap.size+1) 0 208 (yfL false 0 0) _ cM.range underlying208 rfl (by kernel_rfl);have HH:Hid (_∧_∧_):=⟨hl,hm,bR⟩;clear hl hm bR cL cM l1 m1 q1 b01 l0 m0 b0 bq b1
 go_wp2
 obtain⟨hl,hm,bR⟩:=HH.out;exact bodyPost_ret (kg results167 rfl rfl rfl hl hm) rfl ⟨rfl,bR⟩
theorem H6 (n:Int)(R sz ex:Nat)(D L G fam:Int)(gr:Bool)(F:Nat)(s:ByteArray)(w:World)(hs:s.size≠sz)
  (HL:yJ 117 #[yi n] (.tuple #[ylV R D L G gr sz ex fam F,yi 0])):
  yC 167 #[yi n,.string s] w (yR w (.tuple #[yzV 0 0 0 0 false 0 0 0,yfV false 0 0,yi 1])):=by
 have hsf:=cD;have hsn:=gn;have bl:=af w (.cells (yzA 0 0 0 0 false 0 0 0) 170);have bf:=af (w.alloc (.cells (yzA 0 0 0 0 false 0 0 0) 170)) (.cells (yfA false 0 0) 208);have l0:=(ah w (yzL 0 0 0 0 false 0 0 0) 170).l bf;have m0:=ah (w.alloc (.cells (yzA 0 0 0 0 false 0 0 0) 170)) (yfL false 0 0) 208;have b0:=aa bl bf;rw[World.size_alloc] at m0;clear bl bf;have HL':Hid _:=HL;clear HL
 go_enter func167,ntmps167
 go_wp2_with fail
 refine(HL'.out _).mono ?_;rintro z w1 ⟨rfl,b1⟩;have bq:=af w1 (.cells (ylA R D L G gr sz ex fam F) 170);have l1:=(l0.l b1).l bq;have m1:=(m0.l b1).l bq;have q1:=ah w1 (ylL R D L G gr sz ex fam F) 170;have b01:=aa (aa b0 b1) bq;have hne0:w.heap.size≠w1.heap.size:=Nat.ne_of_lt (l0.l b1).lt;have hne1:w.heap.size+1≠w1.heap.size:=Nat.ne_of_lt (m0.l b1).lt;obtain⟨p0,p1,p2,p3,p4,p5,p6,p7,p8⟩:=q1.cs9;obtain⟨x0,x1,x2,x3,x4,x5,x6,x7,x8⟩:=l1.cs9;have jx0:=l1.f 0;have jx1:=l1.f 1;have jx2:=l1.f 2;have jx3:=l1.f 3;have jx4:=l1.f 4;have jx5:=l1.f 5;have jx6:=l1.f 6;have jx7:=l1.f 7;have jx8:=l1.f 8;obtain⟨y0,y1,y2⟩:=m1.cs3;have jy0:=m1.f 0;have jy1:=m1.f 1;have jy2:=m1.f 2;have hsz:((s.size:Int)==(sz:Int))=false:=by simp;omega
 clear hs;have hn1:w.heap.size+1≠w.heap.size:=Nat.succ_ne_self _;have cL:au (((((((((((((w1.alloc (.cells (ylA R D L G gr sz ex fam F) 170)).setCell ⟨w.heap.size,0,none⟩ (yi 0)).setCell ⟨w.heap.size,1,none⟩ (yi 0)).setCell ⟨w.heap.size,2,none⟩ (yi 0)).setCell ⟨w.heap.size,3,none⟩ (yi 0)).setCell ⟨w.heap.size,4,none⟩ (.bool false)).setCell ⟨w.heap.size,5,none⟩ (yi 0)).setCell ⟨w.heap.size,6,none⟩ (yi 0)).setCell ⟨w.heap.size,7,none⟩ (yi 0)).setCell ⟨w.heap.size,8,none⟩ (.nilFunc)).setCell ⟨w.heap.size+1,0,none⟩ (.bool false)).setCell ⟨w.heap.size+1,1,none⟩ (yi 0)).setCell ⟨w.heap.size+1,2,none⟩ (.int .u64 0)) w.heap.size 170 (yzL 0 0 0 0 false 0 0 0):=((((((((((((l1.set 0 (yi 0)).set 1 (yi 0)).set 2 (yi 0)).set 3 (yi 0)).set 4 (.bool false)).set 5 (yi 0)).set 6 (yi 0)).set 7 (yi 0)).set 8 (.nilFunc)).off hn1 0 (.bool false)).off hn1 1 (yi 0)).off hn1 2 (.int .u64 0));have cM:au (((((((((((((w1.alloc (.cells (ylA R D L G gr sz ex fam F) 170)).setCell ⟨w.heap.size,0,none⟩ (yi 0)).setCell ⟨w.heap.size,1,none⟩ (yi 0)).setCell ⟨w.heap.size,2,none⟩ (yi 0)).setCell ⟨w.heap.size,3,none⟩ (yi 0)).setCell ⟨w.heap.size,4,none⟩ (.bool false)).setCell ⟨w.heap.size,5,none⟩ (yi 0)).setCell ⟨w.heap.size,6,none⟩ (yi 0)).setCell ⟨w.heap.size,7,none⟩ (yi 0)).setCell ⟨w.heap.size,8,none⟩ (.nilFunc)).setCell ⟨w.heap.size+1,0,none⟩ (.bool false)).setCell ⟨w.heap.size+1,1,none⟩ (yi 0)).setCell ⟨w.heap.size+1,2,none⟩ (.int .u64 0)) (w.heap.size+1) 208 (yfL false 0 0):=((((((((((((m1.off (Ne.symm hn1) 0 (yi 0)).off (Ne.symm hn1) 1 (yi 0)).off (Ne.symm hn1) 2 (yi 0)).off (Ne.symm hn1) 3 (yi 0)).off (Ne.symm hn1) 4 (.bool false)).off (Ne.symm hn1) 5 (yi 0)).off (Ne.symm hn1) 6 (yi 0)).off (Ne.symm hn1) 7 (yi 0)).off (Ne.symm hn1) 8 (.nilFunc)).set 0 (.bool false)).set 1 (yi 0)).set 2 (.int .u64 0));have bR:=(((ag _ (w.heap.size+1) 0 (.bool false)).trans (ag _ (w.heap.size+1) 1 (yi 0))).trans (ag _ (w.heap.size+1) 2 (.int .u64 0))).below ((((((((((ag (w1.alloc (.cells (ylA R D L G gr sz ex fam F) 170)) w.heap.size 0 (yi 0)).trans (ag _ w.heap.size 1 (yi 0))).trans (ag _ w.heap.size 2 (yi 0))).trans (ag _ w.heap.size 3 (yi 0))).trans (ag _ w.heap.size 4 (.bool false))).trans (ag _ w.heap.size 5 (yi 0))).trans (ag _ w.heap.size 6 (yi 0))).trans (ag _ w.heap.size 7 (yi 0))).trans (ag _ w.heap.size 8 (.nilFunc))).below b01 (Nat.le_refl _)) (Nat.le_succ _);have hl:=run_loadVar_mid (P:=Tryz.prog) _ w.heap.size 0 170 (yzL 0 0 0 0 false 0 0 0) _ cL.range underlying170 rfl (by kernel_rfl);have hm:=run_loadVar_mid (P:=Tryz.prog) _ (w.heap.size+1) 0 208 (yfL false 0 0) _ cM.range underlying208 rfl (by kernel_rfl);have HH:Hid (_∧_∧_):=⟨hl,hm,bR⟩;clear hl hm bR cL cM l1 m1 q1 b01 l0 m0 b0 bq b1
 go_wp2
 obtain⟨hl,hm,bR⟩:=HH.out;exact bodyPost_ret (kg results167 rfl rfl rfl hl hm) rfl ⟨rfl,bR⟩
end Go.Proofs.YtbdokgamhinajaaGreatDoor

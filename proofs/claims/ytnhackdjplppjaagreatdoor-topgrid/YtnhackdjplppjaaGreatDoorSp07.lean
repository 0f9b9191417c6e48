/-
  Texts laid together: Co16, Co17.
-/
import Derived.Test.YtnhackdjplppjaaGreatDoorSp06
set_option maxRecDepth 100000
namespace Go.Proofs.YtnhackdjplppjaaGreatDoor
open Go.RowKit
def stripF (r:Nat):Nat→Nat→Int→Nat×Int
 |0,d,p=>(d,p)
 |n+1,d,p=>if d % r=0 then stripF r n (d/r) (p+1) else(d,p)
def ValRes (w:World) (c:Int) (ng:Bool) (m:Nat) (p:Int) (z:Ending) (w':World):Prop:=
 ∃v,z= .returned (yvV c ng v p)∧Rd w' .u32 v (Dg.dg 4294967296 m)∧Below w.heap.size w w'
set_option maxHeartbeats 6400000 in
theorem value_num (R sz ex:Nat) (D L G fam:Int) (gr:Bool) (F:Nat) (ng:Bool) (e f d:Nat) (p:Int) (w:World) (hR:2≤R) (hR2:R≤16) (hd0:0<d) (hd:d<18446744073709551616) (hp1: -100000≤p) (hp2:p≤100000)
  (HC: ∀w1,Calls Tryz.prog 149 #[ylV (R:Int) D L G gr (sz:Int) (ex:Int) fam F,yfV ng (e:Int) (f:Int)] w1 fun z w'=>z= .returned (yi 2)∧Below w1.heap.size w1 w')
  (HP: ∀w1,Calls Tryz.prog 151 #[ylV (R:Int) D L G gr (sz:Int) (ex:Int) fam F,yfV ng (e:Int) (f:Int)] w1 fun z w'=>z= .returned (.tuple #[.int .u64 (d:Int),yi p])∧Below w1.heap.size w1 w'):
  Calls Tryz.prog 96 #[ylV (R:Int) D L G gr (sz:Int) (ex:Int) fam F,yfV ng (e:Int) (f:Int)] w (ValRes w 2 ng (stripF R 64 d p).1 (stripF R 64 d p).2):=by
 have hsf:=hsf_z;have bl:=below_alloc w (.cells (ylL (R:Int) D L G gr (sz:Int) (ex:Int) fam F).toArray 144);have bf:=below_alloc (w.alloc (.cells (ylL (R:Int) D L G gr (sz:Int) (ex:Int) fam F).toArray 144)) (.cells (yfL ng (e:Int) (f:Int)).toArray 147);have bz:=below_alloc ((w.alloc (.cells (ylL (R:Int) D L G gr (sz:Int) (ex:Int) fam F).toArray 144)).alloc (.cells (yfL ng (e:Int) (f:Int)).toArray 147)) (.cells (yvL 0 false (.slice none 0 0) 0).toArray 73);have l0:=((locE_new w (ylL (R:Int) D L G gr (sz:Int) (ex:Int) fam F) 144).later bf).later bz;have m0:=(locE_new (w.alloc (.cells (ylL (R:Int) D L G gr (sz:Int) (ex:Int) fam F).toArray 144)) (yfL ng (e:Int) (f:Int)) 147).later bz;have v0:=locE_new ((w.alloc (.cells (ylL (R:Int) D L G gr (sz:Int) (ex:Int) fam F).toArray 144)).alloc (.cells (yfL ng (e:Int) (f:Int)).toArray 147)) (yvL 0 false (.slice none 0 0) 0) 73;have b0:=below_trans (below_trans bl bf) bz;rw[World.size_alloc] at m0;rw[World.size_alloc,World.size_alloc] at v0;clear bl bf bz;have HC':Hid _:=HC;have HP':Hid _:=HP;obtain⟨m,hm⟩: ∃m,(stripF R 64 d p).1=m:=⟨_,rfl⟩;obtain⟨pw,hpw⟩: ∃m,(stripF R 64 d p).2=m:=⟨_,rfl⟩;have HS:Hid (stripF R 64 d p=(m,pw)):=Prod.ext hm hpw;rw[hm,hpw];clear hm hpw HC HP
 go_enter Tryz.func96,Tryz.ntmps96
 go_wp2_with fail
 refine(HC'.out _).mono ?_;rintro z w1 ⟨rfl,b1⟩;have bq:=below_alloc w1 (.cells (yvL 2 false (.slice none 0 0) 0).toArray 73);have l1:=(l0.later b1).later bq;have m1:=(m0.later b1).later bq;have v1:=(v0.later b1).later bq;have q1:=locE_new w1 (yvL 2 false (.slice none 0 0) 0) 73;have b01:=below_trans (below_trans b0 b1) bq;have hq3:w.heap.size+3≤w1.heap.size:=(v0.later b1).lt;obtain⟨x0,x1,x2,x3,x4,x5,x6,x7,x8⟩:=l1.cs9;obtain⟨y0,y1,y2⟩:=m1.cs3;clear l0 m0 v0 b0 b1 bq
 go_wp2_with fail
 refine(HP'.out _).mono ?_;rintro z w2 ⟨rfl,b2⟩;have l2:=l1.later b2;have m2:=m1.later b2;have v2:=v1.later b2;have q2:=q1.later b2;have b02:=below_trans b01 b2;clear l1 m1 v1 q1 b01 b2 x0 x1 x2 x3 x4 x5 x6 x7 x8 y0 y1 y2;generalize w1.heap.size=q at*;have x0:=l2.cell 0 rfl;have hwR:IntKind.u64.wrap (R:Int)=(R:Int):=IntWalk.u64_in _ ⟨by omega,by omega⟩;have hRn:((R:Int) != 0)=true:=by rw[bne_iff_ne];omega
 go_wp2
 go_loop [6,7] (fun dv pv=> ∃(n y:Nat) (r:Int),Hid (stripF R n y r=(m,pw)∧y<2^n)∧n≤64∧0<y∧y<18446744073709551616∧r+n≤p+64∧p≤r∧dv= .int .u64 (y:Int)∧pv=yi r) (fun dv _=>(intOf dv).toNat)
 case atStart=>exact⟨64,d,p,⟨HS.out,hd⟩,by omega,hd0,hd,by omega,by omega,rfl,rfl⟩
 case round=>
  obtain⟨n,y,r,HY,hn,hy0,hy,hr1,hr2,rfl,rfl⟩:=hrel;obtain⟨t,ht⟩: ∃t,y % R=t:=⟨_,rfl⟩;obtain⟨u,hu⟩: ∃u,y/R=u:=⟨_,rfl⟩;have htI:(y:Int) % (R:Int)=(t:Int):=by rw[←ht];exact(Int.natCast_emod y R).symm
  have huI:(y:Int)/(R:Int)=(u:Int):=by rw[←hu];exact(Int.natCast_ediv y R).symm
  by_cases ht0:t=0
  ·subst ht0
   have hul:u<y:=by rw[←hu];exact Nat.div_lt_self hy0 hR
   have hu0:0<u:=by
    rw[←hu];exact Nat.div_pos (Nat.le_of_dvd hy0 (Nat.dvd_of_mod_eq_zero ht)) (by omega)
   have HH:Hid (_∧_):=⟨ht,hu⟩;clear ht hu
   go_wp2
   obtain⟨ht,hu⟩:=HH.out;obtain⟨hs1,hs2⟩:=HY.out;obtain⟨n',rfl⟩: ∃n',n=n'+1:=by
    cases n with
    |zero=>simp at hs2;omega
    |succ n'=>exact⟨n',rfl⟩
   rw[stripF,if_pos ht,hu] at hs1;refine⟨⟨n',u,r+1,⟨hs1, ?_⟩,by omega,hu0,by omega,by omega,by omega,rfl,rfl⟩, ?_⟩
   ·rw[Nat.pow_succ] at hs2
    have h2:y/R≤y/2:=Nat.div_le_div_left hR (by omega);omega
   ·simp only[intOf]
    omega
  ·have ht1:((t:Int)==0)=false:=by simp;omega
   have HH:Hid (_∧_):=⟨ht,hu⟩;obtain⟨hs1,hs2⟩:=HY.out;obtain⟨n',rfl⟩: ∃n',n=n'+1:=by
    cases n with
    |zero=>simp at hs2;omega
    |succ n'=>exact⟨n',rfl⟩
   rw[stripF,if_neg (by omega),Prod.mk.injEq] at hs1;obtain⟨rfl,rfl⟩:=hs1;clear ht hu huI hs2 HY HH HS;obtain⟨y0,y1,y2⟩:=m2.cs3;obtain⟨u0,u1,u2,u3⟩:=q2.cs4;have k1:=q2.free 1;have k2:=q2.free 2;have k3:=q2.free 3;have q2d:=q2.drew;have q2a:=q2d.set 1 (.bool ng);have q2b:=q2d.set 3 (yi r);have q2ab:=q2a.set 3 (yi r);have q2ba:=q2b.set 1 (.bool ng);have hne:q≠w.heap.size+1:=by omega
   have hnv:q≠w.heap.size+1+1:=by omega
   have m2d:=m2.drew;have m2a:=m2d.off hne 1 (.bool ng);have m2b:=m2d.off hne 3 (yi r);have m2ab:=m2a.off hne 3 (yi r);have m2ba:=m2b.off hne 1 (.bool ng);have v2d:=v2.drew;have v2a:=v2d.off hnv 1 (.bool ng);have v2b:=v2d.off hnv 3 (yi r);have v2ab:=v2a.off hnv 3 (yi r);have v2ba:=v2b.off hnv 1 (.bool ng);have hbq:w.heap.size≤q:=by omega
   have b2d:=b02.drew;have b2a:=(but_set _ q 1 (.bool ng)).below b2d hbq;have b2b:=(but_set _ q 3 (yi r)).below b2d hbq;have b2ab:=(but_set _ q 3 (yi r)).below b2a hbq;have b2ba:=(but_set _ q 1 (.bool ng)).below b2b hbq;have HFW:Hid (∀w1,Calls Tryz.prog 152 #[.int .u64 (y:Int)] w1 fun z w'=> ∃v,z= .returned v∧Own w' w1.heap.size 141 .u32 v (Dg.dg 4294967296 y)∧Below w1.heap.size w1 w'):=fun w1=>fromWord_any y hy w1
   go_wp2_with fail
   go_region_held3 (fun wq=>wq.cell? ⟨w.heap.size+1,0,none⟩=some (.bool ng)∧wq.cell? ⟨w.heap.size+1,1,none⟩=some (yi (e:Int))∧wq.cell? ⟨w.heap.size+1,2,none⟩=some (.int .u64 (f:Int))) (go_keep) (first
    | (go_at_call 152;refine(HFW.out _).mono ?_;rintro z w3 ⟨v,rfl,own3,b3⟩;obtain⟨so,sc,hvs⟩:=own3.rd.shape;subst hvs;(first| (have q3:=q2d.later b3;have m3:=m2d.later b3;have v3:=v2d.later b3;have b03:=below_trans b2d b3)| (have q3:=q2a.later b3;have m3:=m2a.later b3;have v3:=v2a.later b3;have b03:=below_trans b2a b3)| (have q3:=q2b.later b3;have m3:=m2b.later b3;have v3:=v2b.later b3;have b03:=below_trans b2b b3)| (have q3:=q2ab.later b3;have m3:=m2ab.later b3;have v3:=v2ab.later b3;have b03:=below_trans b2ab b3)| (have q3:=q2ba.later b3;have m3:=m2ba.later b3;have v3:=v2ba.later b3;have b03:=below_trans b2ba b3));obtain⟨t0,t1,t2⟩:=m3.cs3;obtain⟨s0,s1,s2,s3⟩:=q3.cs4;have j1:=q3.free 1;have j2:=q3.free 2;have j3:=q3.free 3))
   have bu4:=((but_set w3 q 1 (.bool ng)).trans (but_set _ q 2 (.slice so (Dg.dg 4294967296 y).length sc))).trans (but_set _ q 3 (yi r));have q4:LocE (((w3.setCell ⟨q,1,none⟩ (.bool ng)).setCell ⟨q,2,none⟩ (.slice so (Dg.dg 4294967296 y).length sc)).setCell ⟨q,3,none⟩ (yi r)) q 73 (yvL 2 ng (.slice so (Dg.dg 4294967296 y).length sc) r):=((q3.set 1 (.bool ng)).set 2 (.slice so (Dg.dg 4294967296 y).length sc)).set 3 (yi r);have v4:=((v3.off hnv 1 (.bool ng)).off hnv 2 (.slice so (Dg.dg 4294967296 y).length sc)).off hnv 3 (yi r);have b04:=bu4.below b03 hbq;have own4:=(bu4.own own3 q3 (by decide)).rd;have ov4:=rd_offE own4 (Dg.norm_dg _ _ (by omega)) v4 (fun x hx n hn=>by simp at hx;rcases hx with rfl|rfl|rfl|rfl<;>simp)
   generalize(((w3.setCell ⟨q,1,none⟩ (.bool ng)).setCell ⟨q,2,none⟩ (.slice so (Dg.dg 4294967296 y).length sc)).setCell ⟨q,3,none⟩ (yi r))=w4 at*;clear b3 q3 m3 v3 own3 bu4 t0 t1 t2 s0 s1 s2 s3 j1 j2 j3 u0 u1 u2 u3 k1 k2 k3 y0 y1 y2 x0 q2d q2a q2b q2ab q2ba m2d m2a m2b m2ab m2ba v2d v2a v2b v2ab v2ba b2d b2a b2b b2ab b2ba q2 m2 v2 l2 b02 b03;obtain⟨s0,s1,s2,s3⟩:=q4.cs4;obtain⟨t0,t1,t2,t3⟩:=v4.cs4;have j0:=v4.free 0;have j1:=v4.free 1;have j2:=v4.free 2;have j3:=v4.free 3;have bu5:=(((but_set w4 (w.heap.size+1+1) 0 (yi 2)).trans (but_set _ (w.heap.size+1+1) 1 (.bool ng))).trans (but_set _ (w.heap.size+1+1) 2 (.slice so (Dg.dg 4294967296 y).length sc))).trans (but_set _ (w.heap.size+1+1) 3 (yi r));have cR:LocE ((((w4.setCell ⟨w.heap.size+1+1,0,none⟩ (yi 2)).setCell ⟨w.heap.size+1+1,1,none⟩ (.bool ng)).setCell ⟨w.heap.size+1+1,2,none⟩ (.slice so (Dg.dg 4294967296 y).length sc)).setCell ⟨w.heap.size+1+1,3,none⟩ (yi r)) (w.heap.size+1+1) 73 (yvL 2 ng (.slice so (Dg.dg 4294967296 y).length sc) r):=(((v4.set 0 (yi 2)).set 1 (.bool ng)).set 2 (.slice so (Dg.dg 4294967296 y).length sc)).set 3 (yi r);have bR:=bu5.below b04 (by omega);have rR:=bu5.rd own4 ov4;have hl:=run_loadVar_mid (P:=Tryz.prog) _ (w.heap.size+1+1) 0 73 (yvL 2 ng (.slice so (Dg.dg 4294967296 y).length sc) r) _ cR.range Tryz.underlying73 rfl (by kernel_rfl);have HH:Hid (_∧_∧_):=⟨hl,rR,bR⟩;clear hl rR bR cR bu5 own4 ov4 b04 q4 v4
   go_wp2
   obtain⟨hl,rR,bR⟩:=HH.out;exact bodyPost_ret (results_one Tryz.results96 rfl hl) rfl ⟨_,rfl,rR,bR⟩
set_option maxHeartbeats 3200000 in
theorem value_c1 (R sz ex:Nat) (D L G fam:Int) (gr:Bool) (F:Nat) (ng:Bool) (e f:Nat) (w:World)
  (HC: ∀w1,Calls Tryz.prog 149 #[ylV (R:Int) D L G gr (sz:Int) (ex:Int) fam F,yfV ng (e:Int) (f:Int)] w1 fun z w'=>z= .returned (yi 1)∧Below w1.heap.size w1 w'):
  Calls Tryz.prog 96 #[ylV (R:Int) D L G gr (sz:Int) (ex:Int) fam F,yfV ng (e:Int) (f:Int)] w (ValRes w 1 ng 0 0):=by
 have hsf:=hsf_z;have bl:=below_alloc w (.cells (ylL (R:Int) D L G gr (sz:Int) (ex:Int) fam F).toArray 144);have bf:=below_alloc (w.alloc (.cells (ylL (R:Int) D L G gr (sz:Int) (ex:Int) fam F).toArray 144)) (.cells (yfL ng (e:Int) (f:Int)).toArray 147);have bz:=below_alloc ((w.alloc (.cells (ylL (R:Int) D L G gr (sz:Int) (ex:Int) fam F).toArray 144)).alloc (.cells (yfL ng (e:Int) (f:Int)).toArray 147)) (.cells (yvL 0 false (.slice none 0 0) 0).toArray 73);have l0:=((locE_new w (ylL (R:Int) D L G gr (sz:Int) (ex:Int) fam F) 144).later bf).later bz;have m0:=(locE_new (w.alloc (.cells (ylL (R:Int) D L G gr (sz:Int) (ex:Int) fam F).toArray 144)) (yfL ng (e:Int) (f:Int)) 147).later bz;have v0:=locE_new ((w.alloc (.cells (ylL (R:Int) D L G gr (sz:Int) (ex:Int) fam F).toArray 144)).alloc (.cells (yfL ng (e:Int) (f:Int)).toArray 147)) (yvL 0 false (.slice none 0 0) 0) 73;have b0:=below_trans (below_trans bl bf) bz;rw[World.size_alloc] at m0;rw[World.size_alloc,World.size_alloc] at v0;clear bl bf bz;have HC':Hid _:=HC;clear HC
 go_enter Tryz.func96,Tryz.ntmps96
 go_wp2_with fail
 refine(HC'.out _).mono ?_;rintro z w1 ⟨rfl,b1⟩;have bq:=below_alloc w1 (.cells (yvL 1 ng (.slice none 0 0) 0).toArray 73);have m1:=(m0.later b1).later bq;have v1:=(v0.later b1).later bq;have q1:=locE_new w1 (yvL 1 ng (.slice none 0 0) 0) 73;have b01:=below_trans (below_trans b0 b1) bq;have hq3:w.heap.size+3≤w1.heap.size:=(v0.later b1).lt;have y0:=((m0.later b1).later (below_alloc w1 (.cells (yvL 1 false (.slice none 0 0) 0).toArray 73))).cell 0 rfl;obtain⟨z0,z1,z2,z3⟩:=v1.cs4;have j0:=v1.free 0;have j1:=v1.free 1;have j2:=v1.free 2;have j3:=v1.free 3;obtain⟨s0,s1,s2,s3⟩:=q1.cs4;have hne:w1.heap.size≠w.heap.size+1+1:=by omega
 have bu5:=(((but_set (w1.alloc (.cells (yvL 1 ng (.slice none 0 0) 0).toArray 73)) (w.heap.size+1+1) 0 (yi 1)).trans (but_set _ (w.heap.size+1+1) 1 (.bool ng))).trans (but_set _ (w.heap.size+1+1) 2 (.slice none 0 0))).trans (but_set _ (w.heap.size+1+1) 3 (yi 0));have cR:LocE (((((w1.alloc (.cells (yvL 1 ng (.slice none 0 0) 0).toArray 73)).setCell ⟨w.heap.size+1+1,0,none⟩ (yi 1)).setCell ⟨w.heap.size+1+1,1,none⟩ (.bool ng)).setCell ⟨w.heap.size+1+1,2,none⟩ (.slice none 0 0)).setCell ⟨w.heap.size+1+1,3,none⟩ (yi 0)) (w.heap.size+1+1) 73 (yvL 1 ng (.slice none 0 0) 0):=(((v1.set 0 (yi 1)).set 1 (.bool ng)).set 2 (.slice none 0 0)).set 3 (yi 0);have bR:=bu5.below b01 (by omega);have hl:=run_loadVar_mid (P:=Tryz.prog) _ (w.heap.size+1+1) 0 73 (yvL 1 ng (.slice none 0 0) 0) _ cR.range Tryz.underlying73 rfl (by kernel_rfl);have HH:Hid (_∧_):=⟨hl,bR⟩;clear hl bR cR bu5 b01 q1 v1 m1 l0 m0 v0 b0 b1 bq
 go_wp2
 obtain⟨hl,bR⟩:=HH.out;exact bodyPost_ret (results_one Tryz.results96 rfl hl) rfl ⟨_,rfl,rd_nil _ _,bR⟩
set_option maxHeartbeats 3200000 in
theorem value_c3 (R sz ex:Nat) (D L G fam:Int) (gr:Bool) (F:Nat) (ng:Bool) (e f:Nat) (w:World)
  (HC: ∀w1,Calls Tryz.prog 149 #[ylV (R:Int) D L G gr (sz:Int) (ex:Int) fam F,yfV ng (e:Int) (f:Int)] w1 fun z w'=>z= .returned (yi 3)∧Below w1.heap.size w1 w'):
  Calls Tryz.prog 96 #[ylV (R:Int) D L G gr (sz:Int) (ex:Int) fam F,yfV ng (e:Int) (f:Int)] w (ValRes w 3 ng 0 0):=by
 have hsf:=hsf_z;have bl:=below_alloc w (.cells (ylL (R:Int) D L G gr (sz:Int) (ex:Int) fam F).toArray 144);have bf:=below_alloc (w.alloc (.cells (ylL (R:Int) D L G gr (sz:Int) (ex:Int) fam F).toArray 144)) (.cells (yfL ng (e:Int) (f:Int)).toArray 147);have bz:=below_alloc ((w.alloc (.cells (ylL (R:Int) D L G gr (sz:Int) (ex:Int) fam F).toArray 144)).alloc (.cells (yfL ng (e:Int) (f:Int)).toArray 147)) (.cells (yvL 0 false (.slice none 0 0) 0).toArray 73);have l0:=((locE_new w (ylL (R:Int) D L G gr (sz:Int) (ex:Int) fam F) 144).later bf).later bz;have m0:=(locE_new (w.alloc (.cells (ylL (R:Int) D L G gr (sz:Int) (ex:Int) fam F).toArray 144)) (yfL ng (e:Int) (f:Int)) 147).later bz;have v0:=locE_new ((w.alloc (.cells (ylL (R:Int) D L G gr (sz:Int) (ex:Int) fam F).toArray 144)).alloc (.cells (yfL ng (e:Int) (f:Int)).toArray 147)) (yvL 0 false (.slice none 0 0) 0) 73;have b0:=below_trans (below_trans bl bf) bz;rw[World.size_alloc] at m0;rw[World.size_alloc,World.size_alloc] at v0;clear bl bf bz;have HC':Hid _:=HC;clear HC
 go_enter Tryz.func96,Tryz.ntmps96
 go_wp2_with fail
 refine(HC'.out _).mono ?_;rintro z w1 ⟨rfl,b1⟩;have bq:=below_alloc w1 (.cells (yvL 3 ng (.slice none 0 0) 0).toArray 73);have m1:=(m0.later b1).later bq;have v1:=(v0.later b1).later bq;have q1:=locE_new w1 (yvL 3 ng (.slice none 0 0) 0) 73;have b01:=below_trans (below_trans b0 b1) bq;have hq3:w.heap.size+3≤w1.heap.size:=(v0.later b1).lt;have y0:=((m0.later b1).later (below_alloc w1 (.cells (yvL 3 false (.slice none 0 0) 0).toArray 73))).cell 0 rfl;obtain⟨z0,z1,z2,z3⟩:=v1.cs4;have j0:=v1.free 0;have j1:=v1.free 1;have j2:=v1.free 2;have j3:=v1.free 3;obtain⟨s0,s1,s2,s3⟩:=q1.cs4;have hne:w1.heap.size≠w.heap.size+1+1:=by omega
 have bu5:=(((but_set (w1.alloc (.cells (yvL 3 ng (.slice none 0 0) 0).toArray 73)) (w.heap.size+1+1) 0 (yi 3)).trans (but_set _ (w.heap.size+1+1) 1 (.bool ng))).trans (but_set _ (w.heap.size+1+1) 2 (.slice none 0 0))).trans (but_set _ (w.heap.size+1+1) 3 (yi 0));have cR:LocE (((((w1.alloc (.cells (yvL 3 ng (.slice none 0 0) 0).toArray 73)).setCell ⟨w.heap.size+1+1,0,none⟩ (yi 3)).setCell ⟨w.heap.size+1+1,1,none⟩ (.bool ng)).setCell ⟨w.heap.size+1+1,2,none⟩ (.slice none 0 0)).setCell ⟨w.heap.size+1+1,3,none⟩ (yi 0)) (w.heap.size+1+1) 73 (yvL 3 ng (.slice none 0 0) 0):=(((v1.set 0 (yi 3)).set 1 (.bool ng)).set 2 (.slice none 0 0)).set 3 (yi 0);have bR:=bu5.below b01 (by omega);have hl:=run_loadVar_mid (P:=Tryz.prog) _ (w.heap.size+1+1) 0 73 (yvL 3 ng (.slice none 0 0) 0) _ cR.range Tryz.underlying73 rfl (by kernel_rfl);have HH:Hid (_∧_):=⟨hl,bR⟩;clear hl bR cR bu5 b01 q1 v1 m1 l0 m0 v0 b0 b1 bq
 go_wp2
 obtain⟨hl,bR⟩:=HH.out;exact bodyPost_ret (results_one Tryz.results96 rfl hl) rfl ⟨_,rfl,rd_nil _ _,bR⟩
set_option maxHeartbeats 3200000 in
theorem value_c4 (R sz ex:Nat) (D L G fam:Int) (gr:Bool) (F:Nat) (ng:Bool) (e f:Nat) (w:World)
  (HC: ∀w1,Calls Tryz.prog 149 #[ylV (R:Int) D L G gr (sz:Int) (ex:Int) fam F,yfV ng (e:Int) (f:Int)] w1 fun z w'=>z= .returned (yi 4)∧Below w1.heap.size w1 w'):
  Calls Tryz.prog 96 #[ylV (R:Int) D L G gr (sz:Int) (ex:Int) fam F,yfV ng (e:Int) (f:Int)] w (ValRes w 4 false 0 0):=by
 have hsf:=hsf_z;have bl:=below_alloc w (.cells (ylL (R:Int) D L G gr (sz:Int) (ex:Int) fam F).toArray 144);have bf:=below_alloc (w.alloc (.cells (ylL (R:Int) D L G gr (sz:Int) (ex:Int) fam F).toArray 144)) (.cells (yfL ng (e:Int) (f:Int)).toArray 147);have bz:=below_alloc ((w.alloc (.cells (ylL (R:Int) D L G gr (sz:Int) (ex:Int) fam F).toArray 144)).alloc (.cells (yfL ng (e:Int) (f:Int)).toArray 147)) (.cells (yvL 0 false (.slice none 0 0) 0).toArray 73);have l0:=((locE_new w (ylL (R:Int) D L G gr (sz:Int) (ex:Int) fam F) 144).later bf).later bz;have m0:=(locE_new (w.alloc (.cells (ylL (R:Int) D L G gr (sz:Int) (ex:Int) fam F).toArray 144)) (yfL ng (e:Int) (f:Int)) 147).later bz;have v0:=locE_new ((w.alloc (.cells (ylL (R:Int) D L G gr (sz:Int) (ex:Int) fam F).toArray 144)).alloc (.cells (yfL ng (e:Int) (f:Int)).toArray 147)) (yvL 0 false (.slice none 0 0) 0) 73;have b0:=below_trans (below_trans bl bf) bz;rw[World.size_alloc] at m0;rw[World.size_alloc,World.size_alloc] at v0;clear bl bf bz;have HC':Hid _:=HC;clear HC
 go_enter Tryz.func96,Tryz.ntmps96
 go_wp2_with fail
 refine(HC'.out _).mono ?_;rintro z w1 ⟨rfl,b1⟩;have bq:=below_alloc w1 (.cells (yvL 4 false (.slice none 0 0) 0).toArray 73);have m1:=(m0.later b1).later bq;have v1:=(v0.later b1).later bq;have q1:=locE_new w1 (yvL 4 false (.slice none 0 0) 0) 73;have b01:=below_trans (below_trans b0 b1) bq;have hq3:w.heap.size+3≤w1.heap.size:=(v0.later b1).lt;have y0:=((m0.later b1).later (below_alloc w1 (.cells (yvL 4 false (.slice none 0 0) 0).toArray 73))).cell 0 rfl;obtain⟨z0,z1,z2,z3⟩:=v1.cs4;have j0:=v1.free 0;have j1:=v1.free 1;have j2:=v1.free 2;have j3:=v1.free 3;obtain⟨s0,s1,s2,s3⟩:=q1.cs4;have hne:w1.heap.size≠w.heap.size+1+1:=by omega
 have bu5:=(((but_set (w1.alloc (.cells (yvL 4 false (.slice none 0 0) 0).toArray 73)) (w.heap.size+1+1) 0 (yi 4)).trans (but_set _ (w.heap.size+1+1) 1 (.bool false))).trans (but_set _ (w.heap.size+1+1) 2 (.slice none 0 0))).trans (but_set _ (w.heap.size+1+1) 3 (yi 0));have cR:LocE (((((w1.alloc (.cells (yvL 4 false (.slice none 0 0) 0).toArray 73)).setCell ⟨w.heap.size+1+1,0,none⟩ (yi 4)).setCell ⟨w.heap.size+1+1,1,none⟩ (.bool false)).setCell ⟨w.heap.size+1+1,2,none⟩ (.slice none 0 0)).setCell ⟨w.heap.size+1+1,3,none⟩ (yi 0)) (w.heap.size+1+1) 73 (yvL 4 false (.slice none 0 0) 0):=(((v1.set 0 (yi 4)).set 1 (.bool false)).set 2 (.slice none 0 0)).set 3 (yi 0);have bR:=bu5.below b01 (by omega);have hl:=run_loadVar_mid (P:=Tryz.prog) _ (w.heap.size+1+1) 0 73 (yvL 4 false (.slice none 0 0) 0) _ cR.range Tryz.underlying73 rfl (by kernel_rfl);have HH:Hid (_∧_):=⟨hl,bR⟩;clear hl bR cR bu5 b01 q1 v1 m1 l0 m0 v0 b0 b1 bq
 go_wp2
 obtain⟨hl,bR⟩:=HH.out;exact bodyPost_ret (results_one Tryz.results96 rfl hl) rfl ⟨_,rfl,rd_nil _ _,bR⟩
set_option maxHeartbeats 3200000 in
theorem value_c5 (R sz ex:Nat) (D L G fam:Int) (gr:Bool) (F:Nat) (ng:Bool) (e f:Nat) (w:World)
  (HC: ∀w1,Calls Tryz.prog 149 #[ylV (R:Int) D L G gr (sz:Int) (ex:Int) fam F,yfV ng (e:Int) (f:Int)] w1 fun z w'=>z= .returned (yi 5)∧Below w1.heap.size w1 w'):
  Calls Tryz.prog 96 #[ylV (R:Int) D L G gr (sz:Int) (ex:Int) fam F,yfV ng (e:Int) (f:Int)] w (ValRes w 5 false 0 0):=by
 have hsf:=hsf_z;have bl:=below_alloc w (.cells (ylL (R:Int) D L G gr (sz:Int) (ex:Int) fam F).toArray 144);have bf:=below_alloc (w.alloc (.cells (ylL (R:Int) D L G gr (sz:Int) (ex:Int) fam F).toArray 144)) (.cells (yfL ng (e:Int) (f:Int)).toArray 147);have bz:=below_alloc ((w.alloc (.cells (ylL (R:Int) D L G gr (sz:Int) (ex:Int) fam F).toArray 144)).alloc (.cells (yfL ng (e:Int) (f:Int)).toArray 147)) (.cells (yvL 0 false (.slice none 0 0) 0).toArray 73);have l0:=((locE_new w (ylL (R:Int) D L G gr (sz:Int) (ex:Int) fam F) 144).later bf).later bz;have m0:=(locE_new (w.alloc (.cells (ylL (R:Int) D L G gr (sz:Int) (ex:Int) fam F).toArray 144)) (yfL ng (e:Int) (f:Int)) 147).later bz;have v0:=locE_new ((w.alloc (.cells (ylL (R:Int) D L G gr (sz:Int) (ex:Int) fam F).toArray 144)).alloc (.cells (yfL ng (e:Int) (f:Int)).toArray 147)) (yvL 0 false (.slice none 0 0) 0) 73;have b0:=below_trans (below_trans bl bf) bz;rw[World.size_alloc] at m0;rw[World.size_alloc,World.size_alloc] at v0;clear bl bf bz;have HC':Hid _:=HC;clear HC
 go_enter Tryz.func96,Tryz.ntmps96
 go_wp2_with fail
 refine(HC'.out _).mono ?_;rintro z w1 ⟨rfl,b1⟩;have bq:=below_alloc w1 (.cells (yvL 5 false (.slice none 0 0) 0).toArray 73);have m1:=(m0.later b1).later bq;have v1:=(v0.later b1).later bq;have q1:=locE_new w1 (yvL 5 false (.slice none 0 0) 0) 73;have b01:=below_trans (below_trans b0 b1) bq;have hq3:w.heap.size+3≤w1.heap.size:=(v0.later b1).lt;have y0:=((m0.later b1).later (below_alloc w1 (.cells (yvL 5 false (.slice none 0 0) 0).toArray 73))).cell 0 rfl;obtain⟨z0,z1,z2,z3⟩:=v1.cs4;have j0:=v1.free 0;have j1:=v1.free 1;have j2:=v1.free 2;have j3:=v1.free 3;obtain⟨s0,s1,s2,s3⟩:=q1.cs4;have hne:w1.heap.size≠w.heap.size+1+1:=by omega
 have bu5:=(((but_set (w1.alloc (.cells (yvL 5 false (.slice none 0 0) 0).toArray 73)) (w.heap.size+1+1) 0 (yi 5)).trans (but_set _ (w.heap.size+1+1) 1 (.bool false))).trans (but_set _ (w.heap.size+1+1) 2 (.slice none 0 0))).trans (but_set _ (w.heap.size+1+1) 3 (yi 0));have cR:LocE (((((w1.alloc (.cells (yvL 5 false (.slice none 0 0) 0).toArray 73)).setCell ⟨w.heap.size+1+1,0,none⟩ (yi 5)).setCell ⟨w.heap.size+1+1,1,none⟩ (.bool false)).setCell ⟨w.heap.size+1+1,2,none⟩ (.slice none 0 0)).setCell ⟨w.heap.size+1+1,3,none⟩ (yi 0)) (w.heap.size+1+1) 73 (yvL 5 false (.slice none 0 0) 0):=(((v1.set 0 (yi 5)).set 1 (.bool false)).set 2 (.slice none 0 0)).set 3 (yi 0);have bR:=bu5.below b01 (by omega);have hl:=run_loadVar_mid (P:=Tryz.prog) _ (w.heap.size+1+1) 0 73 (yvL 5 false (.slice none 0 0) 0) _ cR.range Tryz.underlying73 rfl (by kernel_rfl);have HH:Hid (_∧_):=⟨hl,bR⟩;clear hl bR cR bu5 b01 q1 v1 m1 l0 m0 v0 b0 b1 bq
 go_wp2
 obtain⟨hl,bR⟩:=HH.out;exact bodyPost_ret (results_one Tryz.results96 rfl hl) rfl ⟨_,rfl,rd_nil _ _,bR⟩
end Go.Proofs.YtnhackdjplppjaaGreatDoor
namespace Go.Proofs.YtnhackdjplppjaaGreatDoor
open Go.RowKit
def valG (k:Nat) (ng:Bool) (e f:Nat):Bool:=if clsN k ng e f≤3 then ng else false
def valM (k:Nat) (ng:Bool) (e f:Nat):Nat:=if clsN k ng e f=2 then(stripF (rdN k) 64 (plcN k e f) (plcP k e)).1 else 0
def valP (k:Nat) (ng:Bool) (e f:Nat):Int:=if clsN k ng e f=2 then(stripF (rdN k) 64 (plcN k e f) (plcP k e)).2 else 0
theorem clsN_in (k:Nat) (ng:Bool) (e f:Nat):clsN k ng e f=1∨clsN k ng e f=2∨clsN k ng e f=3∨clsN k ng e f=4∨clsN k ng e f=5:=by
 unfold clsN
 repeat' split
 all_goals decide
theorem or_pos {a b:Nat} (h:0<b):0<a|||b:=Nat.lt_of_lt_of_le h Nat.right_le_or
theorem leadN_pos (k:Nat):0<leadN k:=Nat.pow_pos (by omega)
theorem leadN_lt {k:Nat} (hk:1≤k∧k≤8):leadN k<2^64:=by
 rcases eight hk with rfl|rfl|rfl|rfl|rfl|rfl|rfl|rfl<;>decide
theorem plcN_pos {k:Nat} {ng:Bool} {e f:Nat} (h:clsN k ng e f=2):0<plcN k e f:=by
 unfold plcN
 by_cases h0:e=0
 ·subst h0
  rw[if_pos rfl,ite_self]
  rcases Nat.eq_zero_or_pos f with hf|hf
  ·subst hf
   unfold clsN at h;simp only[if_true] at h
   split at h
   ·omega
   ·split at h
    ·omega
    ·split at h<;>omega
  ·exact hf
 ·rw[if_neg h0]
  by_cases hr:rdN k=16
  ·rw[if_pos hr]
   have h45:k=4∨k=5:=by
    unfold rdN at hr
    split at hr
    ·exact .inl rfl
    ·exact .inr rfl
    ·omega
   unfold clsN at h;rw[if_neg (by omega),if_pos (by omega)] at h
   rcases Nat.eq_zero_or_pos f with hf|hf
   ·rw[if_pos hf] at h
    omega
   ·exact hf
  ·rw[if_neg hr]
   exact or_pos (leadN_pos k)
theorem plcN_lt {k:Nat} (hk:1≤k∧k≤8) (e:Nat) {f:Nat} (hf:f<2^64):plcN k e f<2^64:=by
 unfold plcN
 split
 ·exact hf
 ·split
  ·exact hf
  ·exact Nat.or_lt_two_pow hf (leadN_lt hk)
theorem plcP_in {k:Nat} (hk:1≤k∧k≤8) {e:Nat} (he:e<65536): -100000≤plcP k e∧plcP k e≤100000:=by
 have h: -20000≤lsI k∧lsI k≤0:=by rcases eight hk with rfl|rfl|rfl|rfl|rfl|rfl|rfl|rfl<;>decide
 unfold plcP
 split
 ·omega
 ·split<;>omega
theorem lvalue_any (k:Nat) (hk:1≤k∧k≤8) (ng:Bool) (e f:Nat) (w:World) (hf:f<18446744073709551616) (he:e<65536):Calls Tryz.prog 96 #[.agg (layV k).toArray,yfV ng (e:Int) (f:Int)] w (ValRes w ((clsN k ng e f:Nat):Int) (valG k ng e f) (valM k ng e f) (valP k ng e f)):=by
 have HC:=fun w1=>lclass_any k hk ng e f w1 hf
 have HP:=fun w1=>lplace_any k hk ng e f w1 hf he
 have hd:=fun h=>plcN_pos (k:=k) (ng:=ng) (e:=e) (f:=f) h
 have hl:=plcN_lt hk e hf;have hp:=plcP_in hk he;unfold valG valM valP;generalize plcN k e f=d at*;generalize plcP k e=p at*
 rcases clsN_in k ng e f with hc|hc|hc|hc|hc
 all_goals (rw[hc] at HC⊢)
 ·rw[if_pos (by omega),if_neg (by omega),if_neg (by omega)]
  rcases eight hk with rfl|rfl|rfl|rfl|rfl|rfl|rfl|rfl
  all_goals exact value_c1 _ _ _ _ _ _ _ _ _ ng e f w HC
 ·rw[if_pos (by omega),if_pos rfl,if_pos rfl]
  have h0:=hd hc
  rcases eight hk with rfl|rfl|rfl|rfl|rfl|rfl|rfl|rfl
  all_goals exact value_num _ _ _ _ _ _ _ _ _ ng e f d p w (by decide) (by decide) h0 hl hp.1 hp.2 HC HP
 ·rw[if_pos (by omega),if_neg (by omega),if_neg (by omega)]
  rcases eight hk with rfl|rfl|rfl|rfl|rfl|rfl|rfl|rfl
  all_goals exact value_c3 _ _ _ _ _ _ _ _ _ ng e f w HC
 ·rw[if_neg (by omega),if_neg (by omega),if_neg (by omega)]
  rcases eight hk with rfl|rfl|rfl|rfl|rfl|rfl|rfl|rfl
  all_goals exact value_c4 _ _ _ _ _ _ _ _ _ ng e f w HC
 ·rw[if_neg (by omega),if_neg (by omega),if_neg (by omega)]
  rcases eight hk with rfl|rfl|rfl|rfl|rfl|rfl|rfl|rfl
  all_goals exact value_c5 _ _ _ _ _ _ _ _ _ ng e f w HC
theorem results_three {P:Program} {fn:Func} {a b t:Nat} {ta tb:TypeId} {tmps:Array Value} {w:World} {ba bb:Nat} {va vb u:Value} (hres:fn.results= #[.cell a ta,.cell b tb,.tmp t]) (ha:tmps.getD a undef= .pointer (some ⟨ba,0,none⟩)) (hb:tmps.getD b undef= .pointer (some ⟨bb,0,none⟩)) (hu:tmps.getD t undef=u) (hla:(loadVar ta ⟨ba,0,none⟩).run P w= .ok va w) (hlb:(loadVar tb ⟨bb,0,none⟩).run P w= .ok vb w):(results fn tmps).run P w= .ok (.tuple #[va,vb,u]) w:=by
 rw[Array.getD_eq_getD_getElem?] at ha hb hu;unfold results;simp[hres,ha,hb,hu,asAddr,hla,hlb]
theorem layoutOf_any (k:Nat) (hk:1≤k∧k≤8) (w:World):Calls Tryz.prog 97 #[yi (k:Int)] w (LayRes w k 0):=by
 rcases eight hk with rfl|rfl|rfl|rfl|rfl|rfl|rfl|rfl
 ·exact layoutOf_1 w
 ·exact layoutOf_2 w
 ·exact layoutOf_3 w
 ·exact layoutOf_4 w
 ·exact layoutOf_5 w
 ·exact layoutOf_6 w
 ·exact layoutOf_7 w
 ·exact layoutOf_8 w
set_option maxHeartbeats 6400000 in
theorem codecRead_W (n:Int) (R sz ex:Nat) (D L G fam:Int) (gr:Bool) (F:Nat) (ng:Bool) (e f:Nat) (s:ByteArray) (w:World) (hs:s.size=sz)
  (HL: ∀w1,Calls Tryz.prog 97 #[yi n] w1 fun z w'=>z= .returned (.tuple #[ylV (R:Int) D L G gr (sz:Int) (ex:Int) fam F,yi 0])∧Below w1.heap.size w1 w')
  (HR: ∀w1,Calls Tryz.prog 150 #[ylV (R:Int) D L G gr (sz:Int) (ex:Int) fam F,.string s] w1 fun z w'=>z= .returned (yfV ng (e:Int) (f:Int))∧Below w1.heap.size w1 w'):
  Calls Tryz.prog 95 #[yi n,.string s] w fun z w'=>z= .returned (.tuple #[ylV (R:Int) D L G gr (sz:Int) (ex:Int) fam F,yfV ng (e:Int) (f:Int),yi 0])∧Below w.heap.size w w':=by
 have hsf:=hsf_z;have hsn:=hsn_z;have bl:=below_alloc w (.cells (yzL 0 0 0 0 false 0 0 0).toArray 144);have bf:=below_alloc (w.alloc (.cells (yzL 0 0 0 0 false 0 0 0).toArray 144)) (.cells (yfL false 0 0).toArray 147);have l0:=(locE_new w (yzL 0 0 0 0 false 0 0 0) 144).later bf;have m0:=locE_new (w.alloc (.cells (yzL 0 0 0 0 false 0 0 0).toArray 144)) (yfL false 0 0) 147;have b0:=below_trans bl bf;rw[World.size_alloc] at m0;clear bl bf;have HL':Hid _:=HL;have HR':Hid _:=HR;clear HL HR
 go_enter Tryz.func95,Tryz.ntmps95
 go_wp2_with fail
 refine(HL'.out _).mono ?_;rintro z w1 ⟨rfl,b1⟩;have bq:=below_alloc w1 (.cells (ylL (R:Int) D L G gr (sz:Int) (ex:Int) fam F).toArray 144);have l1:=((l0.later b1).later bq).drew;have m1:=((m0.later b1).later bq).drew;have q1:=locE_new w1 (ylL (R:Int) D L G gr (sz:Int) (ex:Int) fam F) 144;have b01:=(below_trans (below_trans b0 b1) bq).drew;have q1d:=q1.drew;have hne0:w.heap.size≠w1.heap.size:=Nat.ne_of_lt (l0.later b1).lt;have hne1:w.heap.size+1≠w1.heap.size:=Nat.ne_of_lt (m0.later b1).lt;obtain⟨p0,p1,p2,p3,p4,p5,p6,p7,p8⟩:=q1.cs9;have hsz:((s.size:Int) != (sz:Int))=false:=by rw[hs];simp
 go_wp2_with fail
 go_region_held3 (fun wq=>wq.cell? ⟨w1.heap.size,0,none⟩=some (yi (R:Int))∧wq.cell? ⟨w1.heap.size,1,none⟩=some (yi D)∧wq.cell? ⟨w1.heap.size,2,none⟩=some (yi L)∧wq.cell? ⟨w1.heap.size,3,none⟩=some (yi G)∧wq.cell? ⟨w1.heap.size,4,none⟩=some (.bool gr)∧wq.cell? ⟨w1.heap.size,5,none⟩=some (yi (sz:Int))∧wq.cell? ⟨w1.heap.size,6,none⟩=some (yi (ex:Int))∧wq.cell? ⟨w1.heap.size,7,none⟩=some (yi fam)∧wq.cell? ⟨w1.heap.size,8,none⟩=some (.func (.func F) #[] #[])) (go_keep) (first
  | (go_at_call 150;refine(HR'.out _).mono ?_;rintro z w2 ⟨rfl,b2⟩;have l2:=l1.later b2;have m2:=m1.later b2;have q2:=q1d.later b2;have b02:=below_trans b01 b2;obtain⟨x0,x1,x2,x3,x4,x5,x6,x7,x8⟩:=l2.cs9;have jx0:=l2.free 0;have jx1:=l2.free 1;have jx2:=l2.free 2;have jx3:=l2.free 3;have jx4:=l2.free 4;have jx5:=l2.free 5;have jx6:=l2.free 6;have jx7:=l2.free 7;have jx8:=l2.free 8;obtain⟨y0,y1,y2⟩:=m2.cs3;have jy0:=m2.free 0;have jy1:=m2.free 1;have jy2:=m2.free 2;obtain⟨s0,s1,s2,s3,s4,s5,s6,s7,s8⟩:=q2.cs9))
 have hn1:w.heap.size+1≠w.heap.size:=Nat.succ_ne_self _;have cL:LocE ((((((((((((w2.setCell ⟨w.heap.size,0,none⟩ (yi (R:Int))).setCell ⟨w.heap.size,1,none⟩ (yi D)).setCell ⟨w.heap.size,2,none⟩ (yi L)).setCell ⟨w.heap.size,3,none⟩ (yi G)).setCell ⟨w.heap.size,4,none⟩ (.bool gr)).setCell ⟨w.heap.size,5,none⟩ (yi (sz:Int))).setCell ⟨w.heap.size,6,none⟩ (yi (ex:Int))).setCell ⟨w.heap.size,7,none⟩ (yi fam)).setCell ⟨w.heap.size,8,none⟩ (.func (.func F) #[] #[])).setCell ⟨w.heap.size+1,0,none⟩ (.bool ng)).setCell ⟨w.heap.size+1,1,none⟩ (yi (e:Int))).setCell ⟨w.heap.size+1,2,none⟩ (.int .u64 (f:Int))) w.heap.size 144 (ylL (R:Int) D L G gr (sz:Int) (ex:Int) fam F):=((((((((((((l2.set 0 (yi (R:Int))).set 1 (yi D)).set 2 (yi L)).set 3 (yi G)).set 4 (.bool gr)).set 5 (yi (sz:Int))).set 6 (yi (ex:Int))).set 7 (yi fam)).set 8 (.func (.func F) #[] #[])).off hn1 0 (.bool ng)).off hn1 1 (yi (e:Int))).off hn1 2 (.int .u64 (f:Int)));have cM:LocE ((((((((((((w2.setCell ⟨w.heap.size,0,none⟩ (yi (R:Int))).setCell ⟨w.heap.size,1,none⟩ (yi D)).setCell ⟨w.heap.size,2,none⟩ (yi L)).setCell ⟨w.heap.size,3,none⟩ (yi G)).setCell ⟨w.heap.size,4,none⟩ (.bool gr)).setCell ⟨w.heap.size,5,none⟩ (yi (sz:Int))).setCell ⟨w.heap.size,6,none⟩ (yi (ex:Int))).setCell ⟨w.heap.size,7,none⟩ (yi fam)).setCell ⟨w.heap.size,8,none⟩ (.func (.func F) #[] #[])).setCell ⟨w.heap.size+1,0,none⟩ (.bool ng)).setCell ⟨w.heap.size+1,1,none⟩ (yi (e:Int))).setCell ⟨w.heap.size+1,2,none⟩ (.int .u64 (f:Int))) (w.heap.size+1) 147 (yfL ng (e:Int) (f:Int)):=((((((((((((m2.off (Ne.symm hn1) 0 (yi (R:Int))).off (Ne.symm hn1) 1 (yi D)).off (Ne.symm hn1) 2 (yi L)).off (Ne.symm hn1) 3 (yi G)).off (Ne.symm hn1) 4 (.bool gr)).off (Ne.symm hn1) 5 (yi (sz:Int))).off (Ne.symm hn1) 6 (yi (ex:Int))).off (Ne.symm hn1) 7 (yi fam)).off (Ne.symm hn1) 8 (.func (.func F) #[] #[])).set 0 (.bool ng)).set 1 (yi (e:Int))).set 2 (.int .u64 (f:Int)));have bR:=(((but_set _ (w.heap.size+1) 0 (.bool ng)).trans (but_set _ (w.heap.size+1) 1 (yi (e:Int)))).trans (but_set _ (w.heap.size+1) 2 (.int .u64 (f:Int)))).below ((((((((((but_set w2 w.heap.size 0 (yi (R:Int))).trans (but_set _ w.heap.size 1 (yi D))).trans (but_set _ w.heap.size 2 (yi L))).trans (but_set _ w.heap.size 3 (yi G))).trans (but_set _ w.heap.size 4 (.bool gr))).trans (but_set _ w.heap.size 5 (yi (sz:Int)))).trans (but_set _ w.heap.size 6 (yi (ex:Int)))).trans (but_set _ w.heap.size 7 (yi fam))).trans (but_set _ w.heap.size 8 (.func (.func F) #[] #[]))).below b02 (Nat.le_refl _)) (Nat.le_succ _);have hl:=run_loadVar_mid (P:=Tryz.prog) _ w.heap.size 0 144 (ylL (R:Int) D L G gr (sz:Int) (ex:Int) fam F) _ cL.range Tryz.underlying144 rfl (by kernel_rfl);have hm:=run_loadVar_mid (P:=Tryz.prog) _ (w.heap.size+1) 0 147 (yfL ng (e:Int) (f:Int)) _ cM.range Tryz.underlying147 rfl (by kernel_rfl);have HH:Hid (_∧_∧_):=⟨hl,hm,bR⟩;clear hl hm bR cL cM l2 m2 q2 b02 l1 m1 q1 q1d b01 l0 m0 b0 bq b1 b2
 go_wp2
 obtain⟨hl,hm,bR⟩:=HH.out;exact bodyPost_ret (results_three Tryz.results95 rfl rfl rfl hl hm) rfl ⟨rfl,bR⟩
set_option maxHeartbeats 3200000 in
theorem codecRead_none (n:Int) (s:ByteArray) (w:World)
  (HL: ∀w1,Calls Tryz.prog 97 #[yi n] w1 fun z w'=>z= .returned (.tuple #[yzV 0 0 0 0 false 0 0 0,yi 6])∧Below w1.heap.size w1 w'):
  Calls Tryz.prog 95 #[yi n,.string s] w fun z w'=>z= .returned (.tuple #[yzV 0 0 0 0 false 0 0 0,yfV false 0 0,yi 6])∧Below w.heap.size w w':=by
 have hsf:=hsf_z;have hsn:=hsn_z;have bl:=below_alloc w (.cells (yzL 0 0 0 0 false 0 0 0).toArray 144);have bf:=below_alloc (w.alloc (.cells (yzL 0 0 0 0 false 0 0 0).toArray 144)) (.cells (yfL false 0 0).toArray 147);have l0:=(locE_new w (yzL 0 0 0 0 false 0 0 0) 144).later bf;have m0:=locE_new (w.alloc (.cells (yzL 0 0 0 0 false 0 0 0).toArray 144)) (yfL false 0 0) 147;have b0:=below_trans bl bf;rw[World.size_alloc] at m0;clear bl bf;have HL':Hid _:=HL;clear HL
 go_enter Tryz.func95,Tryz.ntmps95
 go_wp2_with fail
 refine(HL'.out _).mono ?_;rintro z w1 ⟨rfl,b1⟩;have bq:=below_alloc w1 (.cells (yzL 0 0 0 0 false 0 0 0).toArray 144);have l1:=(l0.later b1).later bq;have m1:=(m0.later b1).later bq;have q1:=locE_new w1 (yzL 0 0 0 0 false 0 0 0) 144;have b01:=below_trans (below_trans b0 b1) bq;have hne0:w.heap.size≠w1.heap.size:=Nat.ne_of_lt (l0.later b1).lt;have hne1:w.heap.size+1≠w1.heap.size:=Nat.ne_of_lt (m0.later b1).lt;obtain⟨p0,p1,p2,p3,p4,p5,p6,p7,p8⟩:=q1.cs9;obtain⟨x0,x1,x2,x3,x4,x5,x6,x7,x8⟩:=l1.cs9;have jx0:=l1.free 0;have jx1:=l1.free 1;have jx2:=l1.free 2;have jx3:=l1.free 3;have jx4:=l1.free 4;have jx5:=l1.free 5;have jx6:=l1.free 6;have jx7:=l1.free 7;have jx8:=l1.free 8;obtain⟨y0,y1,y2⟩:=m1.cs3;have jy0:=m1.free 0;have jy1:=m1.free 1;have jy2:=m1.free 2;have hn1:w.heap.size+1≠w.heap.size:=Nat.succ_ne_self _;have cL:LocE (((((((((((((w1.alloc (.cells (yzL 0 0 0 0 false 0 0 0).toArray 144)).setCell ⟨w.heap.size,0,none⟩ (yi 0)).setCell ⟨w.heap.size,1,none⟩ (yi 0)).setCell ⟨w.heap.size,2,none⟩ (yi 0)).setCell ⟨w.heap.size,3,none⟩ (yi 0)).setCell ⟨w.heap.size,4,none⟩ (.bool false)).setCell ⟨w.heap.size,5,none⟩ (yi 0)).setCell ⟨w.heap.size,6,none⟩ (yi 0)).setCell ⟨w.heap.size,7,none⟩ (yi 0)).setCell ⟨w.heap.size,8,none⟩ (.nilFunc)).setCell ⟨w.heap.size+1,0,none⟩ (.bool false)).setCell ⟨w.heap.size+1,1,none⟩ (yi 0)).setCell ⟨w.heap.size+1,2,none⟩ (.int .u64 0)) w.heap.size 144 (yzL 0 0 0 0 false 0 0 0):=((((((((((((l1.set 0 (yi 0)).set 1 (yi 0)).set 2 (yi 0)).set 3 (yi 0)).set 4 (.bool false)).set 5 (yi 0)).set 6 (yi 0)).set 7 (yi 0)).set 8 (.nilFunc)).off hn1 0 (.bool false)).off hn1 1 (yi 0)).off hn1 2 (.int .u64 0));have cM:LocE (((((((((((((w1.alloc (.cells (yzL 0 0 0 0 false 0 0 0).toArray 144)).setCell ⟨w.heap.size,0,none⟩ (yi 0)).setCell ⟨w.heap.size,1,none⟩ (yi 0)).setCell ⟨w.heap.size,2,none⟩ (yi 0)).setCell ⟨w.heap.size,3,none⟩ (yi 0)).setCell ⟨w.heap.size,4,none⟩ (.bool false)).setCell ⟨w.heap.size,5,none⟩ (yi 0)).setCell ⟨w.heap.size,6,none⟩ (yi 0)).setCell ⟨w.heap.size,7,none⟩ (yi 0)).setCell ⟨w.heap.size,8,none⟩ (.nilFunc)).setCell ⟨w.heap.size+1,0,none⟩ (.bool false)).setCell ⟨w.heap.size+1,1,none⟩ (yi 0)).setCell ⟨w.heap.size+1,2,none⟩ (.int .u64 0)) (w.heap.size+1) 147 (yfL false 0 0):=((((((((((((m1.off (Ne.symm hn1) 0 (yi 0)).off (Ne.symm hn1) 1 (yi 0)).off (Ne.symm hn1) 2 (yi 0)).off (Ne.symm hn1) 3 (yi 0)).off (Ne.symm hn1) 4 (.bool false)).off (Ne.symm hn1) 5 (yi 0)).off (Ne.symm hn1) 6 (yi 0)).off (Ne.symm hn1) 7 (yi 0)).off (Ne.symm hn1) 8 (.nilFunc)).set 0 (.bool false)).set 1 (yi 0)).set 2 (.int .u64 0));have bR:=(((but_set _ (w.heap.size+1) 0 (.bool false)).trans (but_set _ (w.heap.size+1) 1 (yi 0))).trans (but_set _ (w.heap.size+1) 2 (.int .u64 0))).below ((((((((((but_set (w1.alloc (.cells (yzL 0 0 0 0 false 0 0 0).toArray 144)) w.heap.size 0 (yi 0)).trans (but_set _ w.heap.size 1 (yi 0))).trans (but_set _ w.heap.size 2 (yi 0))).trans (but_set _ w.heap.size 3 (yi 0))).trans (but_set _ w.heap.size 4 (.bool false))).trans (but_set _ w.heap.size 5 (yi 0))).trans (but_set _ w.heap.size 6 (yi 0))).trans (but_set _ w.heap.size 7 (yi 0))).trans (but_set _ w.heap.size 8 (.nilFunc))).below b01 (Nat.le_refl _)) (Nat.le_succ _);have hl:=run_loadVar_mid (P:=Tryz.prog) _ w.heap.size 0 144 (yzL 0 0 0 0 false 0 0 0) _ cL.range Tryz.underlying144 rfl (by kernel_rfl);have hm:=run_loadVar_mid (P:=Tryz.prog) _ (w.heap.size+1) 0 147 (yfL false 0 0) _ cM.range Tryz.underlying147 rfl (by kernel_rfl);have HH:Hid (_∧_∧_):=⟨hl,hm,bR⟩;clear hl hm bR cL cM l1 m1 q1 b01 l0 m0 b0 bq b1
 go_wp2
 obtain⟨hl,hm,bR⟩:=HH.out;exact bodyPost_ret (results_three Tryz.results95 rfl rfl rfl hl hm) rfl ⟨rfl,bR⟩
set_option maxHeartbeats 3200000 in
theorem codecRead_len (n:Int) (R sz ex:Nat) (D L G fam:Int) (gr:Bool) (F:Nat) (s:ByteArray) (w:World) (hs:s.size≠sz)
  (HL: ∀w1,Calls Tryz.prog 97 #[yi n] w1 fun z w'=>z= .returned (.tuple #[ylV (R:Int) D L G gr (sz:Int) (ex:Int) fam F,yi 0])∧Below w1.heap.size w1 w'):
  Calls Tryz.prog 95 #[yi n,.string s] w fun z w'=>z= .returned (.tuple #[yzV 0 0 0 0 false 0 0 0,yfV false 0 0,yi 1])∧Below w.heap.size w w':=by
 have hsf:=hsf_z;have hsn:=hsn_z;have bl:=below_alloc w (.cells (yzL 0 0 0 0 false 0 0 0).toArray 144);have bf:=below_alloc (w.alloc (.cells (yzL 0 0 0 0 false 0 0 0).toArray 144)) (.cells (yfL false 0 0).toArray 147);have l0:=(locE_new w (yzL 0 0 0 0 false 0 0 0) 144).later bf;have m0:=locE_new (w.alloc (.cells (yzL 0 0 0 0 false 0 0 0).toArray 144)) (yfL false 0 0) 147;have b0:=below_trans bl bf;rw[World.size_alloc] at m0;clear bl bf;have HL':Hid _:=HL;clear HL
 go_enter Tryz.func95,Tryz.ntmps95
 go_wp2_with fail
 refine(HL'.out _).mono ?_;rintro z w1 ⟨rfl,b1⟩;have bq:=below_alloc w1 (.cells (ylL (R:Int) D L G gr (sz:Int) (ex:Int) fam F).toArray 144);have l1:=(l0.later b1).later bq;have m1:=(m0.later b1).later bq;have q1:=locE_new w1 (ylL (R:Int) D L G gr (sz:Int) (ex:Int) fam F) 144;have b01:=below_trans (below_trans b0 b1) bq;have hne0:w.heap.size≠w1.heap.size:=Nat.ne_of_lt (l0.later b1).lt;have hne1:w.heap.size+1≠w1.heap.size:=Nat.ne_of_lt (m0.later b1).lt;obtain⟨p0,p1,p2,p3,p4,p5,p6,p7,p8⟩:=q1.cs9;obtain⟨x0,x1,x2,x3,x4,x5,x6,x7,x8⟩:=l1.cs9;have jx0:=l1.free 0;have jx1:=l1.free 1;have jx2:=l1.free 2;have jx3:=l1.free 3;have jx4:=l1.free 4;have jx5:=l1.free 5;have jx6:=l1.free 6;have jx7:=l1.free 7;have jx8:=l1.free 8;obtain⟨y0,y1,y2⟩:=m1.cs3;have jy0:=m1.free 0;have jy1:=m1.free 1;have jy2:=m1.free 2;have hsz:((s.size:Int)==(sz:Int))=false:=by simp;omega
 clear hs;have hn1:w.heap.size+1≠w.heap.size:=Nat.succ_ne_self _;have cL:LocE (((((((((((((w1.alloc (.cells (ylL (R:Int) D L G gr (sz:Int) (ex:Int) fam F).toArray 144)).setCell ⟨w.heap.size,0,none⟩ (yi 0)).setCell ⟨w.heap.size,1,none⟩ (yi 0)).setCell ⟨w.heap.size,2,none⟩ (yi 0)).setCell ⟨w.heap.size,3,none⟩ (yi 0)).setCell ⟨w.heap.size,4,none⟩ (.bool false)).setCell ⟨w.heap.size,5,none⟩ (yi 0)).setCell ⟨w.heap.size,6,none⟩ (yi 0)).setCell ⟨w.heap.size,7,none⟩ (yi 0)).setCell ⟨w.heap.size,8,none⟩ (.nilFunc)).setCell ⟨w.heap.size+1,0,none⟩ (.bool false)).setCell ⟨w.heap.size+1,1,none⟩ (yi 0)).setCell ⟨w.heap.size+1,2,none⟩ (.int .u64 0)) w.heap.size 144 (yzL 0 0 0 0 false 0 0 0):=((((((((((((l1.set 0 (yi 0)).set 1 (yi 0)).set 2 (yi 0)).set 3 (yi 0)).set 4 (.bool false)).set 5 (yi 0)).set 6 (yi 0)).set 7 (yi 0)).set 8 (.nilFunc)).off hn1 0 (.bool false)).off hn1 1 (yi 0)).off hn1 2 (.int .u64 0));have cM:LocE (((((((((((((w1.alloc (.cells (ylL (R:Int) D L G gr (sz:Int) (ex:Int) fam F).toArray 144)).setCell ⟨w.heap.size,0,none⟩ (yi 0)).setCell ⟨w.heap.size,1,none⟩ (yi 0)).setCell ⟨w.heap.size,2,none⟩ (yi 0)).setCell ⟨w.heap.size,3,none⟩ (yi 0)).setCell ⟨w.heap.size,4,none⟩ (.bool false)).setCell ⟨w.heap.size,5,none⟩ (yi 0)).setCell ⟨w.heap.size,6,none⟩ (yi 0)).setCell ⟨w.heap.size,7,none⟩ (yi 0)).setCell ⟨w.heap.size,8,none⟩ (.nilFunc)).setCell ⟨w.heap.size+1,0,none⟩ (.bool false)).setCell ⟨w.heap.size+1,1,none⟩ (yi 0)).setCell ⟨w.heap.size+1,2,none⟩ (.int .u64 0)) (w.heap.size+1) 147 (yfL false 0 0):=((((((((((((m1.off (Ne.symm hn1) 0 (yi 0)).off (Ne.symm hn1) 1 (yi 0)).off (Ne.symm hn1) 2 (yi 0)).off (Ne.symm hn1) 3 (yi 0)).off (Ne.symm hn1) 4 (.bool false)).off (Ne.symm hn1) 5 (yi 0)).off (Ne.symm hn1) 6 (yi 0)).off (Ne.symm hn1) 7 (yi 0)).off (Ne.symm hn1) 8 (.nilFunc)).set 0 (.bool false)).set 1 (yi 0)).set 2 (.int .u64 0));have bR:=(((but_set _ (w.heap.size+1) 0 (.bool false)).trans (but_set _ (w.heap.size+1) 1 (yi 0))).trans (but_set _ (w.heap.size+1) 2 (.int .u64 0))).below ((((((((((but_set (w1.alloc (.cells (ylL (R:Int) D L G gr (sz:Int) (ex:Int) fam F).toArray 144)) w.heap.size 0 (yi 0)).trans (but_set _ w.heap.size 1 (yi 0))).trans (but_set _ w.heap.size 2 (yi 0))).trans (but_set _ w.heap.size 3 (yi 0))).trans (but_set _ w.heap.size 4 (.bool false))).trans (but_set _ w.heap.size 5 (yi 0))).trans (but_set _ w.heap.size 6 (yi 0))).trans (but_set _ w.heap.size 7 (yi 0))).trans (but_set _ w.heap.size 8 (.nilFunc))).below b01 (Nat.le_refl _)) (Nat.le_succ _);have hl:=run_loadVar_mid (P:=Tryz.prog) _ w.heap.size 0 144 (yzL 0 0 0 0 false 0 0 0) _ cL.range Tryz.underlying144 rfl (by kernel_rfl);have hm:=run_loadVar_mid (P:=Tryz.prog) _ (w.heap.size+1) 0 147 (yfL false 0 0) _ cM.range Tryz.underlying147 rfl (by kernel_rfl);have HH:Hid (_∧_∧_):=⟨hl,hm,bR⟩;clear hl hm bR cL cM l1 m1 q1 b01 l0 m0 b0 bq b1
 go_wp2
 obtain⟨hl,hm,bR⟩:=HH.out;exact bodyPost_ret (results_three Tryz.results95 rfl rfl rfl hl hm) rfl ⟨rfl,bR⟩
end Go.Proofs.YtnhackdjplppjaaGreatDoor

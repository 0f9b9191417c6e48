/-
  Texts laid together: Co9, Co11, Tx7, Co16, Gn1.
-/
import Derived.Test.YtdhpndnncmagiaaGreatDoorMa12
import Derived.Test.YtdhpndnncmagiaaGreatDoorMa19
set_option maxRecDepth 100000
set_option maxHeartbeats 6400000
namespace Go.Proofs.YtdhpndnncmagiaaGreatDoor
open _root_.Go.Proofs.Tryz
open Go.RowKit
theorem L7 (R D L G sz ex fam fr ld:Int)(gr:Bool)(F:Nat)(w:World)(hlt: ¬fr<D)
  (HF:yJ 202 #[ylV R D L G gr sz ex fam F] (yi fr))
  (HL:yJ 205 #[ylV R D L G gr sz ex fam F] (.int .u64 ld)):
  yC 214 #[ylV R D L G gr sz ex fam F] w (yR w (.int .u64 ld)):=by
 have hsf:=cD;replace HF:Hid _:=HF;replace HL:Hid _:=HL;have l0:=ah w (ylL R D L G gr sz ex fam F) 94;have b0:=af w (.cells (ylA R D L G gr sz ex fam F) 94);obtain⟨x0,x1,x2,x3,x4,x5,x6,x7,x8⟩:=l0.cs9
 go_enter func214,ntmps214
 go_wp2_with fail
 go_region_held3 (fun wq=>wq.cell? ⟨w.heap.size,0,none⟩=some (yi R)∧wq.cell? ⟨w.heap.size,1,none⟩=some (yi D)∧wq.cell? ⟨w.heap.size,2,none⟩=some (yi L)∧wq.cell? ⟨w.heap.size,3,none⟩=some (yi G)∧wq.cell? ⟨w.heap.size,4,none⟩=some (.bool gr)∧wq.cell? ⟨w.heap.size,5,none⟩=some (yi sz)∧wq.cell? ⟨w.heap.size,6,none⟩=some (yi ex)∧wq.cell? ⟨w.heap.size,7,none⟩=some (yi fam)∧wq.cell? ⟨w.heap.size,8,none⟩=some (.func (.func F) #[] #[])) (go_keep) (first
  | (go_at_call 202;refine(HF.out _).mono ?_;rintro z w2 ⟨rfl,b2⟩;have l2:=l0.drew.l b2;obtain⟨y0,y1,y2,y3,y4,y5,y6,y7,y8⟩:=l2.cs9))
 all_goals go_wp2_with fail
 all_goals (refine(HL.out _).mono ?_;rintro z w3 ⟨rfl,b3⟩;go_wp2;go_ret;exact⟨rfl,aa (aa b0.drew b2) b3⟩)
theorem ci_mis_mg:
  (∀(R D L G fam sz ex on wr:Int) (gr ng:Bool) (F:Nat) (e f:Int) (w:World) (_:yJ 213 #[ylV R D L G gr sz ex fam F] (yi on)) (_:yJ 214 #[ylV R D L G gr sz ex fam F] (.int .u64 wr)) (_:e≠0) (_:e≠on) (_:bits .and .u64 f wr=0) (_:((0:Int)==wr)=false),
  yC 203 #[ylV R D L G gr sz ex fam F,yfV ng e f] w (yR w (yi 4)))∧
  (∀(R D L G fam sz ex on wr:Int) (gr ng:Bool) (F:Nat) (e f:Int) (w:World) (_:yJ 213 #[ylV R D L G gr sz ex fam F] (yi on)) (_:yJ 214 #[ylV R D L G gr sz ex fam F] (.int .u64 wr)) (_:e≠0) (_:e≠on) (_:bits .and .u64 f wr=wr),
  yC 203 #[ylV R D L G gr sz ex fam F,yfV ng e f] w (yR w (yi 2))):=by
 refine⟨?_, ?_⟩;have _z:Mgk 0:=mgkI 0
 all_goals
  first| (rename Mgk 0=>_z;intro R D L G fam sz ex on wr gr ng F e f w HO HW h1 h2 h3 _h4)| (intro R D L G fam sz ex on wr gr ng F e f w HO HW h1 h2 h3)
  have hsf:=cD;replace HO:Hid _:=HO;replace HW:Hid _:=HW;have l0:=(ah w (ylL R D L G gr sz ex fam F) 94).l (af _ (.cells (yfA ng e f) 157));have m0:=ah (w.alloc (.cells (ylA R D L G gr sz ex fam F) 94)) (yfL ng e f) 157;have b0:=aa (af w (.cells (ylA R D L G gr sz ex fam F) 94)) (af _ (.cells (yfA ng e f) 157));rw[World.size_alloc] at m0;have he0:(e==0)=false:=by simpa using h1
  have he1:(e==on)=false:=by simpa using h2
  clear h1 h2;obtain⟨x0,x1,x2,x3,x4,x5,x6,x7,x8⟩:=l0.cs9;obtain⟨u0,u1,u2⟩:=m0.cs3
  go_enter func203,ntmps203
  go_wp2_with fail
  refine wp_region_held_drew (S:=(fun wq=>(wq.cell? ⟨w.heap.size,0,none⟩=some (yi R)∧wq.cell? ⟨w.heap.size,1,none⟩=some (yi D)∧wq.cell? ⟨w.heap.size,2,none⟩=some (yi L)∧wq.cell? ⟨w.heap.size,3,none⟩=some (yi G)∧wq.cell? ⟨w.heap.size,4,none⟩=some (.bool gr)∧wq.cell? ⟨w.heap.size,5,none⟩=some (yi sz)∧wq.cell? ⟨w.heap.size,6,none⟩=some (yi ex)∧wq.cell? ⟨w.heap.size,7,none⟩=some (yi fam)∧wq.cell? ⟨w.heap.size,8,none⟩=some (.func (.func F) #[] #[]))∧(wq.cell? ⟨w.heap.size+1,0,none⟩=some (.bool ng)∧wq.cell? ⟨w.heap.size+1,1,none⟩=some (yi e)∧wq.cell? ⟨w.heap.size+1,2,none⟩=some (.int .u64 f)))) (by kernel_rfl) ⟨⟨l0.drew.c 0 rfl,l0.drew.c 1 rfl,l0.drew.c 2 rfl,l0.drew.c 3 rfl,l0.drew.c 4 rfl,l0.drew.c 5 rfl,l0.drew.c 6 rfl,l0.drew.c 7 rfl,l0.drew.c 8 rfl⟩,m0.drew.c 0 rfl,m0.drew.c 1 rfl,m0.drew.c 2 rfl⟩ (fun hS0=> ?_)
  refine tq 0 (.pointer (some ⟨w.heap.size+1,1,none⟩)) rfl (fun w0 _=>by go_simp) hS0 ?_
  refine tq 1 (yi e) rfl (fun w0 hw0=>by obtain⟨⟨p0,p1,p2,p3,p4,p5,p6,p7,p8⟩,q0,q1,q2⟩:=hw0;go_simp) hS0 ?_
  refine tq 2 ((ylV R D L G gr sz ex fam F)) rfl (fun w0 hw0=>by obtain⟨⟨p0,p1,p2,p3,p4,p5,p6,p7,p8⟩,q0,q1,q2⟩:=hw0;go_simp) hS0 ?_
  refine wpAnyH_ready (rs:=[3]) (by kernel_rfl) (by simp) ?_;refine AllReadyH.cons rfl (fun K hK=> ?_) AllReadyH.nil
  go_simp
  refine(HO.out _).mono ?_;rintro z w1 ⟨rfl,b1⟩;have l1:=l0.drew.l b1;have m1:=m0.drew.l b1;have b01:=aa b0.drew b1;refine hK.out _ _ ⟨⟨l1.c 0 rfl,l1.c 1 rfl,l1.c 2 rfl,l1.c 3 rfl,l1.c 4 rfl,l1.c 5 rfl,l1.c 6 rfl,l1.c 7 rfl,l1.c 8 rfl⟩,m1.c 0 rfl,m1.c 1 rfl,m1.c 2 rfl⟩ (fun hS3=> ?_)
  clear hK K;refine tq 4 (.bool false) rfl (fun w0 _=>by go_simp) hS3 ?_
  refine tq 5 (.bool false) rfl (fun w0 _=>by go_simp) hS3 ?_
  refine wpAnyH_take (i:=6) (v:=undef) rfl (by kernel_rfl) (by kernel_rfl) (by kernel_rfl) (fun _ _ _ h=>h) (Or.inr ⟨by kernel_rfl,rfl⟩) hS3 ?_
  refine wpAnyH_take (i:=7) (v:=undef) rfl (by kernel_rfl) (by kernel_rfl) (by kernel_rfl) (fun _ _ _ h=>h) (Or.inr ⟨by kernel_rfl,rfl⟩) hS3 ?_
  refine wpAnyH_take (i:=8) (v:=undef) rfl (by kernel_rfl) (by kernel_rfl) (by kernel_rfl) (fun _ _ _ h=>h) (Or.inr ⟨by kernel_rfl,rfl⟩) hS3 ?_
  refine wpAnyH_take (i:=9) (v:=undef) rfl (by kernel_rfl) (by kernel_rfl) (by kernel_rfl) (fun _ _ _ h=>h) (Or.inr ⟨by kernel_rfl,rfl⟩) hS3 ?_
  refine wpAnyH_take (i:=10) (v:=undef) rfl (by kernel_rfl) (by kernel_rfl) (by kernel_rfl) (fun _ _ _ h=>h) (Or.inr ⟨by kernel_rfl,rfl⟩) hS3 ?_
  refine tq 11 (.bool false) rfl (fun w0 _=>by go_simp) hS3 ?_
  refine tq 12 (.bool false) rfl (fun w0 _=>by go_simp) hS3 ?_
  simp only[Act.put,List.getElem_toArray,List.getElem_cons_succ,List.getElem_cons_zero,List.setIfInBounds_toArray,List.set_cons_zero,List.set_cons_succ];refine wpAnyH_done (by kernel_rfl) ?_ _
  go_wp2_with fail
  go_region_held3 (fun wq=>(wq.cell? ⟨w.heap.size,0,none⟩=some (yi R)∧wq.cell? ⟨w.heap.size,1,none⟩=some (yi D)∧wq.cell? ⟨w.heap.size,2,none⟩=some (yi L)∧wq.cell? ⟨w.heap.size,3,none⟩=some (yi G)∧wq.cell? ⟨w.heap.size,4,none⟩=some (.bool gr)∧wq.cell? ⟨w.heap.size,5,none⟩=some (yi sz)∧wq.cell? ⟨w.heap.size,6,none⟩=some (yi ex)∧wq.cell? ⟨w.heap.size,7,none⟩=some (yi fam)∧wq.cell? ⟨w.heap.size,8,none⟩=some (.func (.func F) #[] #[]))∧(wq.cell? ⟨w.heap.size+1,0,none⟩=some (.bool ng)∧wq.cell? ⟨w.heap.size+1,1,none⟩=some (yi e)∧wq.cell? ⟨w.heap.size+1,2,none⟩=some (.int .u64 f))) (go_keep) (first
   | (go_at_call 213;refine(HO.out _).mono ?_;rintro z w2 ⟨rfl,b2⟩;have l2:=l1.drew.l b2;have m2:=m1.drew.l b2;have b02:=aa b01.drew b2;obtain⟨y0,y1,y2,y3,y4,y5,y6,y7,y8⟩:=l2.cs9;obtain⟨v0,v1,v2⟩:=m2.cs3)
   | (go_at_call 214;have hgd:=b02;clear hgd;refine(HW.out _).mono ?_;rintro z w3 ⟨rfl,b3⟩;have l3:=l2.l b3;have m3:=m2.l b3;have b03:=aa b02 b3;obtain⟨z0,z1,z2,z3,z4,z5,z6,z7,z8⟩:=l3.cs9;obtain⟨t0,t1,t2⟩:=m3.cs3;clear b02)
   | (go_at_call 214;refine(HW.out _).mono ?_;rintro z w4 ⟨rfl,b4⟩;have l4:=l3.l b4;have m4:=m3.l b4;have b04:=aa b03 b4;obtain⟨a0,a1,a2,a3,a4,a5,a6,a7,a8⟩:=l4.cs9;obtain⟨c0,c1,c2⟩:=m4.cs3))
  all_goals go_wp2
  all_goals go_ret
  all_goals exact⟨rfl,b04⟩
abbrev tscaled_ud:=tscaled_ud_mg.1
abbrev tscaled_uu:=tscaled_ud_mg.2.1
abbrev tscaled_dd:=tscaled_ud_mg.2.2.1
abbrev tscaled_du:=tscaled_ud_mg.2.2.2
theorem We (R sz ex:Nat)(D L G fam:Int)(gr:Bool)(F:Nat)(ng:Bool)(e f d:Nat)(p:Int)(w:World)(hR:2≤R)(hR2:R≤16)(hd0:0<d)(hd:d<18446744073709551616)(hp1: -100000≤p)(hp2:p≤100000)
  (HC:yJ 143 #[ylV R D L G gr sz ex fam F,yfV ng e f] (yi 2))
  (HP:yJ 144 #[ylV R D L G gr sz ex fam F,yfV ng e f] (.tuple #[.int .u64 d,yi p])):
  yC 73 #[ylV R D L G gr sz ex fam F,yfV ng e f] w (iT w 2 ng (lJ R 64 d p).1 (lJ R 64 d p).2):=by
 have hsf:=cD;have bl:=af w (.cells (ylA R D L G gr sz ex fam F) 94);have bf:=af (w.alloc (.cells (ylA R D L G gr sz ex fam F) 94)) (.cells (yfA ng e f) 157);have bz:=af ((w.alloc (.cells (ylA R D L G gr sz ex fam F) 94)).alloc (.cells (yfA ng e f) 157)) (.cells (yvA 0 false yN 0) 57);have l0:=((ah w (ylL R D L G gr sz ex fam F) 94).l bf).l bz;have m0:=(ah (w.alloc (.cells (ylA R D L G gr sz ex fam F) 94)) (yfL ng e f) 157).l bz;have v0:=ah ((w.alloc (.cells (ylA R D L G gr sz ex fam F) 94)).alloc (.cells (yfA ng e f) 157)) (yvL 0 false yN 0) 57;have b0:=aa (aa bl bf) bz;rw[World.size_alloc] at m0;rw[World.size_alloc,World.size_alloc] at v0;clear bl bf bz;have HC':Hid _:=HC;have HP':Hid _:=HP;obtain⟨m,hm⟩: ∃m,(lJ R 64 d p).1=m:=⟨_,rfl⟩;obtain⟨pw,hpw⟩: ∃m,(lJ R 64 d p).2=m:=⟨_,rfl⟩;have HS:Hid (lJ R 64 d p=(m,pw)):=Prod.ext hm hpw;rw[hm,hpw];clear hm hpw HC HP
 go_enter func73,ntmps73
 go_wp2_with fail
 refine(HC'.out _).mono ?_;rintro z w1 ⟨rfl,b1⟩;have bq:=af w1 (.cells (yvA 2 false yN 0) 57);have l1:=(l0.l b1).l bq;have m1:=(m0.l b1).l bq;have v1:=(v0.l b1).l bq;have q1:=ah w1 (yvL 2 false yN 0) 57;have b01:=aa (aa b0 b1) bq;have hq3:w.heap.size+3≤w1.heap.size:=(v0.l b1).lt;obtain⟨x0,x1,x2,x3,x4,x5,x6,x7,x8⟩:=l1.cs9;obtain⟨y0,y1,y2⟩:=m1.cs3;clear l0 m0 v0 b0 b1 bq
 go_wp2_with fail
 refine(HP'.out _).mono ?_;rintro z w2 ⟨rfl,b2⟩;have l2:=l1.l b2;have m2:=m1.l b2;have v2:=v1.l b2;have q2:=q1.l b2;have b02:=aa b01 b2;clear l1 m1 v1 q1 b01 b2 x0 x1 x2 x3 x4 x5 x6 x7 x8 y0 y1 y2;generalize w1.heap.size=q at*;have x0:=l2.c 0 rfl;have hwR:IntKind.u64.wrap R=(R:Int):=IntWalk.u64_in _ ⟨by omega,by omega⟩;have hRn:((R:Int) != 0)=true:=by rw[bne_iff_ne];omega
 go_wp2
 go_loop [6,7] (fun dv pv=> ∃(n y:Nat) (r:Int),Hid (lJ R n y r=(m,pw)∧y<2^n)∧n≤64∧0<y∧y<18446744073709551616∧r+n≤p+64∧p≤r∧dv= .int .u64 y∧pv=yi r) (fun dv _=>(intOf dv).toNat)
 case atStart=>exact⟨64,d,p,⟨HS.out,hd⟩,by omega,hd0,hd,by omega,by omega,rfl,rfl⟩
 case round=>
  obtain⟨n,y,r,HY,hn,hy0,hy,hr1,hr2,rfl,rfl⟩:=hrel;obtain⟨t,ht⟩: ∃t,y % R=t:=⟨_,rfl⟩;obtain⟨u,hu⟩: ∃u,y/R=u:=⟨_,rfl⟩;have htI:(y:Int) % (R:Int)=(t:Int):=by rw[←ht];exact(Int.natCast_emod y R).symm
  have huI:(y:Int)/(R:Int)=(u:Int):=by rw[←hu];exact(Int.natCast_ediv y R).symm
  by_cases ht0:t=0
  ·subst ht0
   have hul:u<y:=by rw[←hu];exact Nat.div_lt_self hy0 hR
   have hu0:0<u:=by
    rw[←hu];exact Nat.div_pos (Nat.le_of_dvd hy0 (Nat.dvd_of_mod_eq_zero ht)) (by omega)
   have HH:Hid (_∧_):=⟨ht,hu⟩;clear ht hu
   go_wp2
   obtain⟨ht,hu⟩:=HH.out;obtain⟨hs1,hs2⟩:=HY.out;obtain⟨n',rfl⟩: ∃n',n=n'+1:=by
    cases n with
    |zero=>simp at hs2;omega
    |succ n'=>exact⟨n',rfl⟩
   rw[lJ,if_pos ht,hu] at hs1;refine⟨⟨n',u,r+1,⟨hs1, ?_⟩,by omega,hu0,by omega,by omega,by omega,rfl,rfl⟩, ?_⟩
   ·rw[Nat.pow_succ] at hs2
    have h2:y/R≤y/2:=Nat.div_le_div_left hR (by omega);omega
   ·simp only[intOf]
    omega
  ·have ht1:((t:Int)==0)=false:=by simp;omega
   have HH:Hid (_∧_):=⟨ht,hu⟩;obtain⟨hs1,hs2⟩:=HY.out;obtain⟨n',rfl⟩: ∃n',n=n'+1:=by
    cases n with
    |zero=>simp at hs2;omega
    |succ n'=>exact⟨n',rfl⟩
   rw[lJ,if_neg (by omega),Prod.mk.injEq] at hs1;obtain⟨rfl,rfl⟩:=hs1;clear ht hu huI hs2 HY HH HS;obtain⟨y0,y1,y2⟩:=m2.cs3;obtain⟨u0,u1,u2,u3⟩:=q2.cs4;have k1:=q2.f 1;have k2:=q2.f 2;have k3:=q2.f 3;have q2d:=q2.drew;have q2a:=q2d.set 1 (.bool ng);have q2b:=q2d.set 3 (yi r);have q2ab:=q2a.set 3 (yi r);have q2ba:=q2b.set 1 (.bool ng);have hne:q≠w.heap.size+1:=by omega
   have hnv:q≠w.heap.size+1+1:=by omega
   have m2d:=m2.drew;have m2a:=m2d.off hne 1 (.bool ng);have m2b:=m2d.off hne 3 (yi r);have m2ab:=m2a.off hne 3 (yi r);have m2ba:=m2b.off hne 1 (.bool ng);have v2d:=v2.drew;have v2a:=v2d.off hnv 1 (.bool ng);have v2b:=v2d.off hnv 3 (yi r);have v2ab:=v2a.off hnv 3 (yi r);have v2ba:=v2b.off hnv 1 (.bool ng);have hbq:w.heap.size≤q:=by omega
   have b2d:=b02.drew;have b2a:=(ag _ q 1 (.bool ng)).below b2d hbq;have b2b:=(ag _ q 3 (yi r)).below b2d hbq;have b2ab:=(ag _ q 3 (yi r)).below b2a hbq;have b2ba:=(ag _ q 1 (.bool ng)).below b2b hbq;have HFW:Hid (∀w1,yC 145 #[.int .u64 y] w1 fun z w'=> ∃v,z= .returned v∧Own w' w1.heap.size 116 .u32 v (Dg.dg 4294967296 y)∧yB w1 w'):=fun w1=>KH y hy w1
   go_wp2_with fail
   go_region_held3 (fun wq=>wq.cell? ⟨w.heap.size+1,0,none⟩=some (.bool ng)∧wq.cell? ⟨w.heap.size+1,1,none⟩=some (yi e)∧wq.cell? ⟨w.heap.size+1,2,none⟩=some (.int .u64 f)) (go_keep) (first
    | (go_at_call 145;refine(HFW.out _).mono ?_;rintro z w3 ⟨v,rfl,own3,b3⟩;obtain⟨so,sc,hvs⟩:=own3.rd.shape;subst hvs;(first| (have q3:=q2d.l b3;have m3:=m2d.l b3;have v3:=v2d.l b3;have b03:=aa b2d b3)| (have q3:=q2a.l b3;have m3:=m2a.l b3;have v3:=v2a.l b3;have b03:=aa b2a b3)| (have q3:=q2b.l b3;have m3:=m2b.l b3;have v3:=v2b.l b3;have b03:=aa b2b b3)| (have q3:=q2ab.l b3;have m3:=m2ab.l b3;have v3:=v2ab.l b3;have b03:=aa b2ab b3)| (have q3:=q2ba.l b3;have m3:=m2ba.l b3;have v3:=v2ba.l b3;have b03:=aa b2ba b3));obtain⟨t0,t1,t2⟩:=m3.cs3;obtain⟨s0,s1,s2,s3⟩:=q3.cs4;have j1:=q3.f 1;have j2:=q3.f 2;have j3:=q3.f 3))
   have bu4:=((ag w3 q 1 (.bool ng)).trans (ag _ q 2 (yT so y sc))).trans (ag _ q 3 (yi r));have q4:au (((w3.setCell ⟨q,1,none⟩ (.bool ng)).setCell ⟨q,2,none⟩ (yT so y sc)).setCell ⟨q,3,none⟩ (yi r)) q 57 (yvL 2 ng (yT so y sc) r):=((q3.set 1 (.bool ng)).set 2 (yT so y sc)).set 3 (yi r);have v4:=((v3.off hnv 1 (.bool ng)).off hnv 2 (yT so y sc)).off hnv 3 (yi r);have b04:=bu4.below b03 hbq;have own4:=(bu4.own own3 q3 (by decide)).rd;have ov4:=cq own4 (Dg.norm_dg _ _ (by omega)) v4 (fun x hx n hn=>by simp at hx;rcases hx with rfl|rfl|rfl|rfl<;>simp)
   generalize(((w3.setCell ⟨q,1,none⟩ (.bool ng)).setCell ⟨q,2,none⟩ (yT so y sc)).setCell ⟨q,3,none⟩ (yi r))=w4 at*;clear b3 q3 m3 v3 own3 bu4 t0 t1 t2 s0 s1 s2 s3 j1 j2 j3 u0 u1 u2 u3 k1 k2 k3 y0 y1 y2 x0 q2d q2a q2b q2ab q2ba m2d m2a m2b m2ab m2ba v2d v2a v2b v2ab v2ba b2d b2a b2b b2ab b2ba q2 m2 v2 l2 b02 b03;obtain⟨s0,s1,s2,s3⟩:=q4.cs4;obtain⟨t0,t1,t2,t3⟩:=v4.cs4;have j0:=v4.f 0;have j1:=v4.f 1;have j2:=v4.f 2;have j3:=v4.f 3;have bu5:=(((ag w4 (w.heap.size+1+1) 0 (yi 2)).trans (ag _ (w.heap.size+1+1) 1 (.bool ng))).trans (ag _ (w.heap.size+1+1) 2 (yT so y sc))).trans (ag _ (w.heap.size+1+1) 3 (yi r));have cR:au ((((w4.setCell ⟨w.heap.size+1+1,0,none⟩ (yi 2)).setCell ⟨w.heap.size+1+1,1,none⟩ (.bool ng)).setCell ⟨w.heap.size+1+1,2,none⟩ (yT so y sc)).setCell ⟨w.heap.size+1+1,3,none⟩ (yi r)) (w.heap.size+1+1) 57 (yvL 2 ng (yT so y sc) r):=(((v4.set 0 (yi 2)).set 1 (.bool ng)).set 2 (yT so y sc)).set 3 (yi r);have bR:=bu5.below b04 (by omega);have rR:=bu5.rd own4 ov4;have hl:=run_loadVar_mid (P:=Tryz.prog) _ (w.heap.size+1+1) 0 57 (yvL 2 ng (yT so y sc) r) _ cR.range underlying57 rfl (by kernel_rfl);have HH:Hid (_∧_∧_):=⟨hl,rR,bR⟩;clear hl rR bR cR bu5 own4 ov4 b04 q4 v4
   go_wp2
   obtain⟨hl,rR,bR⟩:=HH.out;exact bodyPost_ret (br results73 rfl hl) rfl ⟨_,rfl,rR,bR⟩
theorem Zq (R D L G:Int)(gr ng:Bool)(ao:Option Addr)(la ca:Nat)(p wd:Int)(w:World)(WP:IntKind.i64.wrap (wd*p)=wd*p)
  (HW:yJ 193 #[ygV R D L G gr] (yi wd)):
  yC 148 #[ygV R D L G gr,.bool ng,.agg #[.slice ao la ca,yi p]] w (yR w (ydV ng (.slice ao la ca) (wd*p))):=by
 replace HW:Hid _:=HW;have HN:Hid (∀w1,yC 137 (ydA ng (.slice ao la ca) (wd*p)) w1 (yR w1 (ydV ng (.slice ao la ca) (wd*p)))):=fun w1=>l9 ng ao la ca (wd*p) w1
 have b1:=aa (aa (af w (.cells (ygA R D L G gr) 197)) (af _ (.cells #[.slice ao la ca,yi p] 212))) (af _ (.cells (ydA false yN 0) 86));have g1:=((ah w (ygL R D L G gr) 197).l (af _ (.cells #[.slice ao la ca,yi p] 212))).l (af _ (.cells (ydA false yN 0) 86));have s1:=(ah (w.alloc (.cells (ygA R D L G gr) 197)) [.slice ao la ca,yi p] 212).l (af _ (.cells (ydA false yN 0) 86));have c1:=ah ((w.alloc (.cells (ygA R D L G gr) 197)).alloc (.cells #[.slice ao la ca,yi p] 212)) (ydL false yN 0) 86;simp only[World.size_alloc] at s1 c1;have g_2:=g1.l ((Below.refl _ _).drew);have s_2:=s1.l ((Below.refl _ _).drew);have c_2:=c1.l ((Below.refl _ _).drew);have b0_2:=aa b1 ((Below.refl _ _).drew);clear g1 s1 c1 b1;obtain⟨x0,x1,x2,x3,x4⟩:=g_2.cs5;obtain⟨y0,y1⟩:=s_2.cs2;have nA:w.heap.size+1+1≠w.heap.size:=by omega
 have nB:w.heap.size+1+1≠w.heap.size+1:=by omega
 go_enter func148,ntmps148
 go_wp2_with fail
 go_region_held3 (fun wq=>wq.cell? ⟨w.heap.size,0,none⟩=some (yi R)∧wq.cell? ⟨w.heap.size,1,none⟩=some (yi D)∧wq.cell? ⟨w.heap.size,2,none⟩=some (yi L)∧wq.cell? ⟨w.heap.size,3,none⟩=some (yi G)∧wq.cell? ⟨w.heap.size,4,none⟩=some (.bool gr)∧wq.cell? ⟨w.heap.size+1,0,none⟩=some (.slice ao la ca)∧wq.cell? ⟨w.heap.size+1,1,none⟩=some (yi p)) (go_keep) (first
  | (go_at_call 193;have hgd:=b0_2;clear hgd;refine(HW.out _).mono ?_;rintro z wa ⟨rfl,bb_wa⟩;have b0_wa:=aa b0_2 bb_wa;have g_wa:=g_2.l bb_wa;have s_wa:=s_2.l bb_wa;have c_wa:=c_2.l bb_wa;obtain⟨xa0,xa1,xa2,xa3,xa4⟩:=g_wa.cs5;obtain⟨ya0,ya1⟩:=s_wa.cs2;clear b0_2)
  | (go_at_call 137;have hgd:=b0_wa;clear hgd;refine(HN.out _).mono ?_;rintro z wb ⟨rfl,bb_wb⟩;have b0_wb:=aa b0_wa bb_wb;have g_wb:=g_wa.l bb_wb;have s_wb:=s_wa.l bb_wb;have c_wb:=c_wa.l bb_wb;obtain⟨xb0,xb1,xb2,xb3,xb4⟩:=g_wb.cs5;obtain⟨yb0,yb1⟩:=s_wb.cs2;have z0:=c_wb.c 0 rfl;have e0:=c_wb.f 0;have z1:=c_wb.c 1 rfl;have e1:=c_wb.f 1;have z2:=c_wb.c 2 rfl;have e2:=c_wb.f 2;clear b0_wa))
 all_goals go_wp2
 have bu:But (w.heap.size+1+1) wb (((wb.setCell ⟨w.heap.size+1+1,0,none⟩ (.bool ng)).setCell ⟨w.heap.size+1+1,1,none⟩ (.slice ao la ca)).setCell ⟨w.heap.size+1+1,2,none⟩ (yi (wd*p))):=((ag wb (w.heap.size+1+1) 0 (.bool ng)).trans (ag _ (w.heap.size+1+1) 1 (.slice ao la ca))).trans (ag _ (w.heap.size+1+1) 2 (yi (wd*p)));have cX:au (((wb.setCell ⟨w.heap.size+1+1,0,none⟩ (.bool ng)).setCell ⟨w.heap.size+1+1,1,none⟩ (.slice ao la ca)).setCell ⟨w.heap.size+1+1,2,none⟩ (yi (wd*p))) (w.heap.size+1+1) 86 (ydL ng (.slice ao la ca) (wd*p)):=((c_wb.set 0 (.bool ng)).set 1 (.slice ao la ca)).set 2 (yi (wd*p));have bX:=bu.below b0_wb (show w.heap.size≤w.heap.size+1+1 by omega)
 obtain⟨s0,s1,s2⟩:=cX.cs3;refine bodyPost_ret (v:=(ydV ng (.slice ao la ca) (wd*p))) (by simp[results,results148,go_sem,s0,s1,s2]) rfl ?_;exact⟨rfl,bX⟩
end Go.Proofs.YtdhpndnncmagiaaGreatDoor

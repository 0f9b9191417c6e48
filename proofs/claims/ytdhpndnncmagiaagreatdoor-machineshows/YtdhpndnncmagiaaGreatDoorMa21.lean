/-
  Texts laid together: Co11, Ce6, Ce7, Gh3, Ce2, Ar2, Ar4.
-/
import Derived.Test.YtdhpndnncmagiaaGreatDoorMa18
set_option maxRecDepth 100000
set_option maxHeartbeats 6400000
namespace Go.Proofs.YtdhpndnncmagiaaGreatDoor
open _root_.Go.Proofs.Tryz
open Go.RowKit
theorem KP (R D L G fam sz ex on wr:Int)(gr ng:Bool)(F:Nat)(e f:Int)(w:World)(HO:yJ 213 #[ylV R D L G gr sz ex fam F] (yi on))(HW:yJ 214 #[ylV R D L G gr sz ex fam F] (.int .u64 wr))(h1:on=e)(h2:f≠wr)(_h0:(on==0)=false):yC 203 #[ylV R D L G gr sz ex fam F,yfV ng e f] w (yR w (yi 4)):=by
 have hsf:=cD;replace HO:Hid _:=HO;replace HW:Hid _:=HW;have l0:=(ah w (ylL R D L G gr sz ex fam F) 94).l (af _ (.cells (yfA ng e f) 157));have m0:=ah (w.alloc (.cells (ylA R D L G gr sz ex fam F) 94)) (yfL ng e f) 157;have b0:=aa (af w (.cells (ylA R D L G gr sz ex fam F) 94)) (af _ (.cells (yfA ng e f) 157));rw[World.size_alloc] at m0;subst h1;have hfb:(f==wr)=false:=by simpa using h2
 clear h2;obtain⟨x0,x1,x2,x3,x4,x5,x6,x7,x8⟩:=l0.cs9;obtain⟨u0,u1,u2⟩:=m0.cs3
 go_enter func203,ntmps203
 go_wp2_with fail
 go_region_held3 (fun wq=>(wq.cell? ⟨w.heap.size,0,none⟩=some (yi R)∧wq.cell? ⟨w.heap.size,1,none⟩=some (yi D)∧wq.cell? ⟨w.heap.size,2,none⟩=some (yi L)∧wq.cell? ⟨w.heap.size,3,none⟩=some (yi G)∧wq.cell? ⟨w.heap.size,4,none⟩=some (.bool gr)∧wq.cell? ⟨w.heap.size,5,none⟩=some (yi sz)∧wq.cell? ⟨w.heap.size,6,none⟩=some (yi ex)∧wq.cell? ⟨w.heap.size,7,none⟩=some (yi fam)∧wq.cell? ⟨w.heap.size,8,none⟩=some (.func (.func F) #[] #[]))∧(wq.cell? ⟨w.heap.size+1,0,none⟩=some (.bool ng)∧wq.cell? ⟨w.heap.size+1,1,none⟩=some (yi on)∧wq.cell? ⟨w.heap.size+1,2,none⟩=some (.int .u64 f))) (go_keep) (first
  | (go_at_call 213;refine(HO.out _).mono ?_;rintro z w2 ⟨rfl,b2⟩;have l2:=l0.drew.l b2;have m2:=m0.drew.l b2;have b02:=aa b0.drew b2;obtain⟨y0,y1,y2,y3,y4,y5,y6,y7,y8⟩:=l2.cs9;obtain⟨v0,v1,v2⟩:=m2.cs3)
  | (go_at_call 214;refine(HW.out _).mono ?_;rintro z w3 ⟨rfl,b3⟩;have l3:=l2.l b3;have m3:=m2.l b3;have b03:=aa b02 b3;obtain⟨z0,z1,z2,z3,z4,z5,z6,z7,z8⟩:=l3.cs9;obtain⟨t0,t1,t2⟩:=m3.cs3))
 go_wp2_with fail
 refine wp_region_held_drew (S:=(fun wq=>(wq.cell? ⟨w.heap.size,0,none⟩=some (yi R)∧wq.cell? ⟨w.heap.size,1,none⟩=some (yi D)∧wq.cell? ⟨w.heap.size,2,none⟩=some (yi L)∧wq.cell? ⟨w.heap.size,3,none⟩=some (yi G)∧wq.cell? ⟨w.heap.size,4,none⟩=some (.bool gr)∧wq.cell? ⟨w.heap.size,5,none⟩=some (yi sz)∧wq.cell? ⟨w.heap.size,6,none⟩=some (yi ex)∧wq.cell? ⟨w.heap.size,7,none⟩=some (yi fam)∧wq.cell? ⟨w.heap.size,8,none⟩=some (.func (.func F) #[] #[]))∧(wq.cell? ⟨w.heap.size+1,0,none⟩=some (.bool ng)∧wq.cell? ⟨w.heap.size+1,1,none⟩=some (yi on)∧wq.cell? ⟨w.heap.size+1,2,none⟩=some (.int .u64 f)))) (by kernel_rfl) ⟨⟨l3.drew.c 0 rfl,l3.drew.c 1 rfl,l3.drew.c 2 rfl,l3.drew.c 3 rfl,l3.drew.c 4 rfl,l3.drew.c 5 rfl,l3.drew.c 6 rfl,l3.drew.c 7 rfl,l3.drew.c 8 rfl⟩,m3.drew.c 0 rfl,m3.drew.c 1 rfl,m3.drew.c 2 rfl⟩ (fun hS0=> ?_)
 refine tq 0 (.pointer (some ⟨w.heap.size+1,1,none⟩)) rfl (fun w0 _=>by go_simp) hS0 ?_
 refine tq 1 (yi on) rfl (fun w0 hw0=>by obtain⟨⟨p0,p1,p2,p3,p4,p5,p6,p7,p8⟩,q0,q1,q2⟩:=hw0;go_simp) hS0 ?_
 refine tq 2 ((ylV R D L G gr sz ex fam F)) rfl (fun w0 hw0=>by obtain⟨⟨p0,p1,p2,p3,p4,p5,p6,p7,p8⟩,q0,q1,q2⟩:=hw0;go_simp) hS0 ?_
 refine wpAnyH_ready (rs:=[3]) (by kernel_rfl) (by simp) ?_;refine AllReadyH.cons rfl (fun K hK=> ?_) AllReadyH.nil
 go_simp
 refine(HO.out _).mono ?_;rintro z w4 ⟨rfl,b4⟩;have l4:=l3.drew.l b4;have m4:=m3.drew.l b4;have b04:=aa b03.drew b4;refine hK.out _ _ ⟨⟨l4.c 0 rfl,l4.c 1 rfl,l4.c 2 rfl,l4.c 3 rfl,l4.c 4 rfl,l4.c 5 rfl,l4.c 6 rfl,l4.c 7 rfl,l4.c 8 rfl⟩,m4.c 0 rfl,m4.c 1 rfl,m4.c 2 rfl⟩ (fun hS3=> ?_)
 clear hK K;refine tq 4 (.bool true) rfl (fun w0 _=>by go_simp) hS3 ?_
 refine tq 5 (.bool true) rfl (fun w0 _=>by go_simp) hS3 ?_
 refine wpAnyH_take (i:=6) (v:=undef) rfl (by kernel_rfl) (by kernel_rfl) (by kernel_rfl) (fun _ _ _ h=>h) (Or.inr ⟨by kernel_rfl,rfl⟩) hS3 ?_
 refine wpAnyH_take (i:=7) (v:=undef) rfl (by kernel_rfl) (by kernel_rfl) (by kernel_rfl) (fun _ _ _ h=>h) (Or.inr ⟨by kernel_rfl,rfl⟩) hS3 ?_
 refine wpAnyH_take (i:=8) (v:=undef) rfl (by kernel_rfl) (by kernel_rfl) (by kernel_rfl) (fun _ _ _ h=>h) (Or.inr ⟨by kernel_rfl,rfl⟩) hS3 ?_
 refine wpAnyH_take (i:=9) (v:=undef) rfl (by kernel_rfl) (by kernel_rfl) (by kernel_rfl) (fun _ _ _ h=>h) (Or.inr ⟨by kernel_rfl,rfl⟩) hS3 ?_
 refine wpAnyH_take (i:=10) (v:=undef) rfl (by kernel_rfl) (by kernel_rfl) (by kernel_rfl) (fun _ _ _ h=>h) (Or.inr ⟨by kernel_rfl,rfl⟩) hS3 ?_
 refine wpAnyH_take (i:=11) (v:=undef) rfl (by kernel_rfl) (by kernel_rfl) (by kernel_rfl) (fun _ _ _ h=>h) (Or.inr ⟨by kernel_rfl,rfl⟩) hS3 ?_
 refine wpAnyH_take (i:=12) (v:=undef) rfl (by kernel_rfl) (by kernel_rfl) (by kernel_rfl) (fun _ _ _ h=>h) (Or.inr ⟨by kernel_rfl,rfl⟩) hS3 ?_
 refine wpAnyH_take (i:=13) (v:=undef) rfl (by kernel_rfl) (by kernel_rfl) (by kernel_rfl) (fun _ _ _ h=>h) (Or.inr ⟨by kernel_rfl,rfl⟩) hS3 ?_
 refine tq 14 (.bool true) rfl (fun w0 _=>by go_simp) hS3 ?_
 refine tq 15 (.bool true) rfl (fun w0 _=>by go_simp) hS3 ?_
 simp only[Act.put,List.getElem_toArray,List.getElem_cons_succ,List.getElem_cons_zero,List.setIfInBounds_toArray,List.set_cons_zero,List.set_cons_succ];refine wpAnyH_done (by kernel_rfl) ?_ _
 go_wp2
 go_ret
 exact⟨rfl,b04⟩
theorem KE (D L G fam:Int)(gr:Bool)(sz ex:Nat)(F:Nat)(s x1 x2 x3:Bool)(ao:Option Addr)(dn dc:Nat)(pw:Int)(e f:Nat)(w:World)(hE:IntKind.i64.wrap (pw-L)=(e:Int))(_he:e<65536)
  (HWd: ∀w1,yB w w1→yC 264 #[.slice ao dn dc] w1 fun z w'=>z= .returned (.int .u64 f)∧w1=w'):
  yC 212 #[ylV 16 D L G gr sz ex fam F,ypV s (.slice ao dn dc) pw x1 x2 x3] w (yR w (yfV s e f)):=by
 have hsf:=cD;have HWd':Hid _:=HWd;clear HWd;have bp:=af (w.alloc (.cells (ylA 16 D L G gr sz ex fam F) 94)) (.cells (ypA s (.slice ao dn dc) pw x1 x2 x3) 140);have bz:=af ((w.alloc (.cells (ylA 16 D L G gr sz ex fam F) 94)).alloc (.cells (ypA s (.slice ao dn dc) pw x1 x2 x3) 140)) (.cells (yfA false 0 0) 157);have ql0:=((ah w (ylL 16 D L G gr sz ex fam F) 94).l bp).l bz;have qp0:=(ah (w.alloc (.cells (ylA 16 D L G gr sz ex fam F) 94)) (ypL s (.slice ao dn dc) pw x1 x2 x3) 140).l bz;have qz0:=ah ((w.alloc (.cells (ylA 16 D L G gr sz ex fam F) 94)).alloc (.cells (ypA s (.slice ao dn dc) pw x1 x2 x3) 140)) (yfL false 0 0) 157;have b0:=aa (aa (af w (.cells (ylA 16 D L G gr sz ex fam F) 94)) bp) bz;rw[World.size_alloc] at qp0;rw[World.size_alloc,World.size_alloc] at qz0;have ba:=af (((w.alloc (.cells (ylA 16 D L G gr sz ex fam F) 94)).alloc (.cells (ypA s (.slice ao dn dc) pw x1 x2 x3) 140)).alloc (.cells (yfA false 0 0) 157)) (.cells (yfA false 0 0) 157);have b0d:=b0.drew;have b0a:=(aa b0 ba).drew;have ql0a:=(ql0.l ba).drew;have qp0a:=(qp0.l ba).drew;have ql0d:=ql0.drew;have qp0d:=qp0.drew;obtain⟨cx0,cx1,cx2,cx3,cx4,cx5,cx6,cx7,cx8⟩:=ql0d.cs9;obtain⟨cu0,cu1,cu2,cu3,cu4,cu5⟩:=qp0d.cs6;obtain⟨cxa0,cxa1,cxa2,cxa3,cxa4,cxa5,cxa6,cxa7,cxa8⟩:=ql0a.cs9;obtain⟨cua0,cua1,cua2,cua3,cua4,cua5⟩:=qp0a.cs6;have hn0:w.heap.size+1+1+1≠w.heap.size:=by omega
 have hn1:w.heap.size+1+1+1≠w.heap.size+1:=by omega
 go_enter func212,ntmps212
 go_wp2_with fail
 go_region_held3 (fun wq=>(wq.cell? ⟨w.heap.size,0,none⟩=some (yi 16)∧wq.cell? ⟨w.heap.size,1,none⟩=some (yi D)∧wq.cell? ⟨w.heap.size,2,none⟩=some (yi L)∧wq.cell? ⟨w.heap.size,3,none⟩=some (yi G)∧wq.cell? ⟨w.heap.size,4,none⟩=some (.bool gr)∧wq.cell? ⟨w.heap.size,5,none⟩=some (yi sz)∧wq.cell? ⟨w.heap.size,6,none⟩=some (yi ex)∧wq.cell? ⟨w.heap.size,7,none⟩=some (yi fam)∧wq.cell? ⟨w.heap.size,8,none⟩=some (.func (.func F) #[] #[]))∧(wq.cell? ⟨w.heap.size+1,0,none⟩=some (.bool s)∧wq.cell? ⟨w.heap.size+1,1,none⟩=some (.slice ao dn dc)∧wq.cell? ⟨w.heap.size+1,2,none⟩=some (yi pw)∧wq.cell? ⟨w.heap.size+1,3,none⟩=some (.bool x1)∧wq.cell? ⟨w.heap.size+1,4,none⟩=some (.bool x2)∧wq.cell? ⟨w.heap.size+1,5,none⟩=some (.bool x3))) (go_keep) (first
  | (go_at_call 264;(first| (with_reducible (refine(HWd'.out _ b0d).mono ?_))| (with_reducible (refine(HWd'.out _ b0a).mono ?_)));rintro z wv ⟨rfl,rfl⟩))
 all_goals (
  have ba4:=af (((w.alloc (.cells (ylA 16 D L G gr sz ex fam F) 94)).alloc (.cells (ypA s (.slice ao dn dc) pw x1 x2 x3) 140)).alloc (.cells (yfA false 0 0) 157)) (.cells (yfA s e f) 157);have ql4:=(ql0.l ba4).drew;have qz4:=(qz0.l ba4).drew;have qf4:=(ah (((w.alloc (.cells (ylA 16 D L G gr sz ex fam F) 94)).alloc (.cells (ypA s (.slice ao dn dc) pw x1 x2 x3) 140)).alloc (.cells (yfA false 0 0) 157)) (yfL s e f) 157).drew;rw[World.size_alloc,World.size_alloc,World.size_alloc] at qf4;have b4:=(aa b0 ba4).drew;clear ba4 ba b0d b0a ql0a qp0a ql0d qp0d ql0 qp0 qz0 b0 cx0 cxa0 cx1 cxa1 cx2 cxa2 cx3 cxa3 cx4 cxa4 cx5 cxa5 cx6 cxa6 cx7 cxa7 cx8 cxa8 cu0 cua0 cu1 cua1 cu2 cua2 cu3 cua3 cu4 cua4 cu5 cua5;generalize((((w.alloc (.cells (ylA 16 D L G gr sz ex fam F) 94)).alloc (.cells (ypA s (.slice ao dn dc) pw x1 x2 x3) 140)).alloc (.cells (yfA false 0 0) 157)).alloc (.cells (yfA s e f) 157)).drew=w4 at*;have c0:=ql4.c 0 rfl
  go_wp2_with fail
  go_quiet (fail)
  have bd:yB w4 (w4.drewN nq):=aL (Below.refl _ _) _;have qz5:=qz4.l bd;have qf5:=qf4.l bd;have b5:=aa b4 bd;clear c0 ql4 qz4 qf4 b4 bd;generalize w4.drewN nq=w5 at*;have bu:=((ag w5 (w.heap.size+1+1) 0 (.bool s)).trans (ag _ (w.heap.size+1+1) 1 (yi e))).trans (ag _ (w.heap.size+1+1) 2 (.int .u64 f));have cR:au (((w5.setCell ⟨w.heap.size+1+1,0,none⟩ (.bool s)).setCell ⟨w.heap.size+1+1,1,none⟩ (yi e)).setCell ⟨w.heap.size+1+1,2,none⟩ (.int .u64 f)) (w.heap.size+1+1) 157 (yfL s e f):=(((qz5.set 0 (.bool s)).set 1 (yi e)).set 2 (.int .u64 f));have bR:=bu.below b5 (by omega);have hl:=run_loadVar_mid (P:=Tryz.prog) _ (w.heap.size+1+1) 0 157 (yfL s e f) _ cR.range underlying157 rfl (by kernel_rfl);have HH:Hid (_∧_):=⟨hl,bR⟩;obtain⟨yz0,yz1,yz2⟩:=qz5.cs3;have jz0:=qz5.f 0;have jz1:=qz5.f 1;have jz2:=qz5.f 2;obtain⟨yf0,yf1,yf2⟩:=qf5.cs3;clear hl bR cR bu
  go_wp2
  obtain⟨hl,bR⟩:=HH.out;exact bodyPost_ret (br results212 rfl hl) rfl ⟨rfl,bR⟩
 )
theorem CC (R D L G fam:Int)(gr:Bool)(sz ex:Nat)(F:Nat)(s:Bool)(ao:Option Addr)(dn dc:Nat)(e:Int)(w:World)(zs:List Nat)(pn:Nat)(ps k1 k2 k3:Bool)(pw er:Int)
  (HR: ∀q w1,yB w w1→w1.cell? ⟨q,0,none⟩=some (.int .u32 1)→yC 61 #[yrV s (.slice ao dn dc) (.slice (some ⟨q,0,none⟩) 1 1) e,ygV R D L G gr,yi 3] w1 fun z w'=> ∃po pc,z= .returned (.tuple #[ypV ps (.slice po pn pc) pw k1 k2 k3,yi er])∧Rd w' .u32 (.slice po pn pc) zs∧yB w1 w')
  (fs:Bool) (fe ff:Nat) (HF: ∀po pc w1,yB w w1→Rd w1 .u32 (.slice po pn pc) zs→yC 212 #[ylV R D L G gr sz ex fam F,ypV ps (.slice po pn pc) pw k1 k2 k3] w1 (yR w1 (yfV fs fe ff)))
  (st:ByteArray) (HW:yJ 164 #[ylV R D L G gr sz ex fam F,yfV fs fe ff] (.string st)) (he:er=0) (hp:0<pn):
  yC 161 #[ylV R D L G gr sz ex fam F,ydV s (.slice ao dn dc) e] w (yR w (.tuple #[.string st,yi 0])):=by
 subst he;have HF':Hid _:=HF;clear HF;have HW':Hid _:=HW;clear HW;have hpb:((pn:Int)==0)=false:=by simp;omega
 have hsf:=cD;have HR':Hid _:=HR;clear HR;have bd:=af (w.alloc (.cells (ylA R D L G gr sz ex fam F) 94)) (.cells (ydA s (.slice ao dn dc) e) 59);have bo:=af ((w.alloc (.cells (ylA R D L G gr sz ex fam F) 94)).alloc (.cells (ydA s (.slice ao dn dc) e) 59)) (.cells #[.int .u32 1] 116);have l0:=((ah w (ylL R D L G gr sz ex fam F) 94).l bd).l bo;have o0:=ah ((w.alloc (.cells (ylA R D L G gr sz ex fam F) 94)).alloc (.cells (ydA s (.slice ao dn dc) e) 59)) [.int .u32 1] 116;have b0:=aa (aa (af w (.cells (ylA R D L G gr sz ex fam F) 94)) bd) bo;rw[World.size_alloc,World.size_alloc] at o0;clear bd bo
 go_enter func161,ntmps161
 go_wp2_with fail
 refine(HR'.out _ _ b0 (o0.c 0 rfl)).mono ?_;rintro z w1 ⟨po,pc,rfl,rp,b1⟩;have bq:=af w1 (.cells (ypA ps (.slice po pn pc) pw k1 k2 k3) 140);have l1:=(l0.l b1).l bq;have q1:=ah w1 (ypL ps (.slice po pn pc) pw k1 k2 k3) 140;have rp1:=rp.l bq;have b01:=aa (aa b0 b1) bq;clear l0 o0 b0 b1 bq rp HR';obtain⟨x0,x1,x2,x3,x4,x5,x6,x7,x8⟩:=l1.cs9;obtain⟨u0,u1,u2,u3,u4,u5⟩:=q1.cs6;have l1d:=l1.drew;have q1d:=q1.drew;have rp1d:=rp1.l (Below.refl _ _).drew;have b01d:=b01.drew;obtain⟨xd0,xd1,xd2,xd3,xd4,xd5,xd6,xd7,xd8⟩:=l1d.cs9;obtain⟨ud0,ud1,ud2,ud3,ud4,ud5⟩:=q1d.cs6
 go_wp2_with fail
 go_region_held3 (fun wq=>(wq.cell? ⟨w.heap.size,0,none⟩=some (yi R)∧wq.cell? ⟨w.heap.size,1,none⟩=some (yi D)∧wq.cell? ⟨w.heap.size,2,none⟩=some (yi L)∧wq.cell? ⟨w.heap.size,3,none⟩=some (yi G)∧wq.cell? ⟨w.heap.size,4,none⟩=some (.bool gr)∧wq.cell? ⟨w.heap.size,5,none⟩=some (yi sz)∧wq.cell? ⟨w.heap.size,6,none⟩=some (yi ex)∧wq.cell? ⟨w.heap.size,7,none⟩=some (yi fam)∧wq.cell? ⟨w.heap.size,8,none⟩=some (.func (.func F) #[] #[]))∧(wq.cell? ⟨w1.heap.size,0,none⟩=some (.bool ps)∧wq.cell? ⟨w1.heap.size,1,none⟩=some (.slice po pn pc)∧wq.cell? ⟨w1.heap.size,2,none⟩=some (yi pw)∧wq.cell? ⟨w1.heap.size,3,none⟩=some (.bool k1)∧wq.cell? ⟨w1.heap.size,4,none⟩=some (.bool k2)∧wq.cell? ⟨w1.heap.size,5,none⟩=some (.bool k3))) (go_keep) (first
  | (go_at_call 212;refine(HF'.out _ _ _ b01d rp1d).mono ?_;rintro z w2 ⟨rfl,b2⟩;have l2:=l1d.l b2;have q2:=q1d.l b2;have b02:=aa b01d b2;obtain⟨y0,y1,y2,y3,y4,y5,y6,y7,y8⟩:=l2.cs9;obtain⟨v0,v1,v2,v3,v4,v5⟩:=q2.cs6)
  | (go_at_call 164;refine(HW'.out _).mono ?_;rintro z w3 ⟨rfl,b3⟩;have l3:=l2.l b3;have q3:=q2.l b3;have b03:=aa b02 b3;obtain⟨t0,t1,t2,t3,t4,t5,t6,t7,t8⟩:=l3.cs9;obtain⟨g0,g1,g2,g3,g4,g5⟩:=q3.cs6))
 all_goals go_wp2
 all_goals go_ret2
 all_goals exact⟨rfl,b03⟩
theorem TI {w wb:World}{hd:Bool}{rd:Nat}{rk:Int}{so:Option Addr}{sc:Nat}(hc:au wb (w.heap.size+1+1) 212 [yN,yi 0])(ho:Own wb w.heap.size 116 .u32 (yT so rd sc) (Dg.dg 4294967296 rd))(hb:yB w wb):
  Xn w (.pointer (some ⟨wb.heap.size,0,none⟩)) (.bool hd) hd rd rk (wb.alloc (.cells #[yT so rd sc,yi rk] 212)):=by
 have ba:=af wb (.cells #[yT so rd sc,yi rk] 212);have:=hc.lt;exact⟨_,so,sc,rfl,rfl,by omega,by omega,ah wb [yT so rd sc,yi rk] 212,ho.l ba,hc.l ba,aa hb ba⟩
theorem acT (R D L G:Int)(gr s:Bool)(ao:Option Addr)(la ca:Nat)(e dc gc c:Int)(hd:Bool)(rd:Nat)(rk:Int)(w:World)
  (HA: ¬dc=0→hd=false∧rd=0∧rk=0∧c=dc) (HB:dc=0→ ¬gc=0→hd=false∧rd=0∧rk=0∧c=gc) (HC:dc=0→gc=0→c=0)
  (HD:yH w 262 #[ydV s (.slice ao la ca) e] (yi dc))
  (HG:yJ 146 #[ygV R D L G gr] (yi gc))
  (HO:yJ 132 #[ydV s (.slice ao la ca) e] (ydV s (.slice ao la ca) e))
  (HF:dc=0→gc=0→ ∀w1,yB w w1→yC 263 #[ygV R D L G gr,ydV s (.slice ao la ca) e] w1 (D7 w1 hd rd rk)):
  yC 211 #[ydV s (.slice ao la ca) e,ygV R D L G gr] w (DM w hd rd rk c):=by
 replace HA:Hid _:=HA;replace HB:Hid _:=HB;replace HC:Hid _:=HC;replace HD:Hid _:=HD;replace HG:Hid _:=HG;replace HO:Hid _:=HO;replace HF:Hid _:=HF;have b1:=aa (aa (af w (.cells (ydA s (.slice ao la ca) e) 59)) (af _ (.cells (ygA R D L G gr) 49))) (af _ (.cells #[yN,yi 0] 212));have q1:=((ah w (ydL s (.slice ao la ca) e) 59).l (af _ (.cells (ygA R D L G gr) 49))).l (af _ (.cells #[yN,yi 0] 212));have g1:=(ah (w.alloc (.cells (ydA s (.slice ao la ca) e) 59)) (ygL R D L G gr) 49).l (af _ (.cells #[yN,yi 0] 212));have c1:=ah ((w.alloc (.cells (ydA s (.slice ao la ca) e) 59)).alloc (.cells (ygA R D L G gr) 49)) [yN,yi 0] 212;simp only[World.size_alloc] at g1 c1
 by_cases hdc:dc=0
 ·have HB1:Hid _:=HB.out hdc
  have HC1:Hid _:=HC.out hdc;have HF1:Hid _:=HF.out hdc;clear HA HB HC HF;subst hdc
  by_cases hgc:gc=0
  ·have hc:=HC1.out hgc
   have HF2:Hid _:=HF1.out hgc;clear HB1 HC1 HF1;subst hgc hc;obtain⟨y0,y1,y2⟩:=q1.cs3
   go_enter func211,ntmps211
   go_wp2_with fail
   refine(HD.out _ b1).mono ?_;rintro z w2 ⟨rfl,bb2⟩;clear y0 y1 y2;have g_2:=g1.l bb2;have q_2:=q1.l bb2;have c_2:=c1.l bb2;have b0_2:=aa b1 bb2;clear g1 q1 c1 b1 bb2;obtain⟨x0,x1,x2,x3,x4⟩:=g_2.cs5
   go_wp2_with fail
   refine(HG.out _).mono ?_;rintro z w3 ⟨rfl,bb3⟩;have g_3:=g_2.l bb3;have q_3:=q_2.l bb3;have c_3:=c_2.l bb3;have b0_3:=aa b0_2 bb3;clear g_2 q_2 c_2 b0_2 bb3;clear x0 x1 x2 x3 x4;have hR3:w.heap.size+1+1<w3.heap.size:=c_3.lt;have be:yB w3 (w3.alloc (.cells #[yN,yi 0] 212)).drew:=(af w3 (.cells #[yN,yi 0] 212)).drew;have g_e:=g_3.l be;have q_e:=q_3.l be;have c_e:=c_3.l be;have n_e:=(ah w3 [yN,yi 0] 212).drew;have b_e:=aa b0_3 be;have bd_3:yB w3 w3.drew:=(Below.refl _ _).drew;have g_4:=g_3.l bd_3;have q_4:=q_3.l bd_3;have c_4:=c_3.l bd_3;have b0_4:=aa b0_3 bd_3;clear g_3 q_3 c_3 b0_3 bd_3;obtain⟨x0,x1,x2,x3,x4⟩:=g_4.cs5;obtain⟨y0,y1,y2⟩:=q_4.cs3;have nn0:w3.heap.size≠w.heap.size+1:=by omega
   have nn1:w3.heap.size≠w.heap.size:=by omega
   obtain⟨xe0,xe1,xe2,xe3,xe4⟩:=g_e.cs5;obtain⟨ye0,ye1,ye2⟩:=q_e.cs3
   go_upto_region 7 with fail
   go_cut [9,10] (fun s9 s10 wx=>Xn w s9 s10 hd rd rk wx)
   case first=>
    go_wp2_with fail
    go_region_held3 (fun wq=>(wq.cell? ⟨w.heap.size+1,0,none⟩=some (yi R)∧wq.cell? ⟨w.heap.size+1,1,none⟩=some (yi D)∧wq.cell? ⟨w.heap.size+1,2,none⟩=some (yi L)∧wq.cell? ⟨w.heap.size+1,3,none⟩=some (yi G)∧wq.cell? ⟨w.heap.size+1,4,none⟩=some (.bool gr))∧wq.cell? ⟨w.heap.size,0,none⟩=some (.bool s)∧wq.cell? ⟨w.heap.size,1,none⟩=some (.slice ao la ca)∧wq.cell? ⟨w.heap.size,2,none⟩=some (yi e)) (go_keep) (first
     | (go_at_call 132;refine(HO.out _).mono ?_;rintro z wa ⟨rfl,ba⟩;have g_wa:=g_4.l ba;have q_wa:=q_4.l ba;have c_wa:=c_4.l ba;have b_wa:=aa b0_4 ba;obtain⟨xwa0,xwa1,xwa2,xwa3,xwa4⟩:=g_wa.cs5;obtain⟨ywa0,ywa1,ywa2⟩:=q_wa.cs3;have m0_wa:=World.new_ne wa _ xwa0;have m1_wa:=World.new_ne wa _ ywa0;have zab:=af wa (.cells #[yN,yi 0] 212);have zag:=g_wa.l zab;have zaq:=q_wa.l zab;obtain⟨zax0,zax1,zax2,zax3,zax4⟩:=zag.cs5;obtain⟨zay0,zay1,zay2⟩:=zaq.cs3)
     | (go_at_call 132;refine(HO.out _).mono ?_;rintro z wa ⟨rfl,ba⟩;have g_wa:=g_e.l ba;have q_wa:=q_e.l ba;have c_wa:=c_e.l ba;have n_wa:=n_e.l ba;have b_wa:=aa b_e ba;obtain⟨xwa0,xwa1,xwa2,xwa3,xwa4⟩:=g_wa.cs5;obtain⟨ywa0,ywa1,ywa2⟩:=q_wa.cs3;have m0_wa:=World.new_ne wa _ xwa0;have m1_wa:=World.new_ne wa _ ywa0)
     | (go_at_call 263;have n_x:=n_wa;clear n_x;refine(HF2.out _ b_wa).mono ?_;rintro z wb ⟨u,rfl,ou,bb⟩;have oL:=ou.lower b_wa.size;have g_wb:=g_wa.l bb;have q_wb:=q_wa.l bb;have c_wb:=c_wa.l bb;have n_wb:=n_wa.l bb;have b_wb:=aa b_wa bb;obtain⟨so,sc,hu⟩:=ou.rd.shape;subst hu;obtain⟨xwb0,xwb1,xwb2,xwb3,xwb4⟩:=g_wb.cs5;obtain⟨ywb0,ywb1,ywb2⟩:=q_wb.cs3;have m0_wb:=World.new_ne wb _ xwb0;have m1_wb:=World.new_ne wb _ ywb0;obtain⟨d0,d1⟩:=n_wb.cs2;have f0:=n_wb.f 0;have f1:=n_wb.f 1)
     | (go_at_call 263;refine(HF2.out _ b_wa).mono ?_;rintro z wb ⟨u,rfl,ou,bb⟩;have oL:=ou.lower b_wa.size;have g_wb:=g_wa.l bb;have q_wb:=q_wa.l bb;have c_wb:=c_wa.l bb;have b_wb:=aa b_wa bb;obtain⟨so,sc,hu⟩:=ou.rd.shape;subst hu;obtain⟨xwb0,xwb1,xwb2,xwb3,xwb4⟩:=g_wb.cs5;obtain⟨ywb0,ywb1,ywb2⟩:=q_wb.cs3;have m0_wb:=World.new_ne wb _ xwb0;have m1_wb:=World.new_ne wb _ ywb0;have zbb:=af wb (.cells #[yN,yi 0] 212);have zbg:=g_wb.l zbb;have zbq:=q_wb.l zbb;obtain⟨zbx0,zbx1,zbx2,zbx3,zbx4⟩:=zbg.cs5;obtain⟨zby0,zby1,zby2⟩:=zbq.cs3;have zcb:=af wb (.cells #[yT so rd sc,yi rk] 212);have zcg:=g_wb.l zcb;have zcq:=q_wb.l zcb;obtain⟨zcx0,zcx1,zcx2,zcx3,zcx4⟩:=zcg.cs5;obtain⟨zcy0,zcy1,zcy2⟩:=zcq.cs3)
     | (go_at_call 263;have bn:=af wa (.cells #[yN,yi 0] 212);refine(HF2.out _ (aa b_wa bn)).mono ?_;rintro z wb ⟨u,rfl,ou,bb⟩;have oL:=ou.lower (aa b_wa bn).size;have hRa:w.heap.size+1+1<wa.heap.size:=c_wa.lt;have kk0:wa.heap.size≠w.heap.size+1:=(by omega);have kk1:wa.heap.size≠w.heap.size:=(by omega);have g_wb:=(g_wa.l bn).l bb;have q_wb:=(q_wa.l bn).l bb;have c_wb:=(c_wa.l bn).l bb;have n_wb:=(ah wa [yN,yi 0] 212).l bb;have b_wb:=aa (aa b_wa bn) bb;obtain⟨so,sc,hu⟩:=ou.rd.shape;subst hu;obtain⟨xwb0,xwb1,xwb2,xwb3,xwb4⟩:=g_wb.cs5;obtain⟨ywb0,ywb1,ywb2⟩:=q_wb.cs3;have m0_wb:=World.new_ne wb _ xwb0;have m1_wb:=World.new_ne wb _ ywb0;obtain⟨d0,d1⟩:=n_wb.cs2;have f0:=n_wb.f 0;have f1:=n_wb.f 1))
    all_goals (go_wp2_with fail)
    all_goals (first
     | (go_meet;exact TI c_wb oL b_wb)
     | (go_meet;exact Is c_wb n_wb oL b_wb (by omega) (by omega))
     | (go_meet;exact Is c_wb n_wb oL b_wb (by omega) (by omega)))
   case rest=>
    obtain⟨pb,so,sc,rfl,rfl,hpb,hpw,n9,o9,c9,b9⟩:=hcut;clear g_4 q_4 c_4 b0_4 g_e q_e c_e n_e b_e be nn0 nn1 x0 x1 x2 x3 x4 y0 y1 y2 xe0 xe1 xe2 xe3 xe4 ye0 ye1 ye2;obtain⟨p0,p1⟩:=n9.cs2;have d0:=c9.c 0 rfl;have f0:=c9.f 0;have d1:=c9.c 1 rfl;have f1:=c9.f 1
    go_wp2
    have bu:But (w.heap.size+1+1) wc ((wc.setCell ⟨w.heap.size+1+1,0,none⟩ (yT so rd sc)).setCell ⟨w.heap.size+1+1,1,none⟩ (yi rk)):=(ag wc (w.heap.size+1+1) 0 (yT so rd sc)).trans (ag _ (w.heap.size+1+1) 1 (yi rk));have cX:au ((wc.setCell ⟨w.heap.size+1+1,0,none⟩ (yT so rd sc)).setCell ⟨w.heap.size+1+1,1,none⟩ (yi rk)) (w.heap.size+1+1) 212 [yT so rd sc,yi rk]:=(c9.set 0 (yT so rd sc)).set 1 (yi rk);have bX:=bu.below b9 (show w.heap.size≤w.heap.size+1+1 by omega)
    have oX:=bu.own o9 c9 (by decide);obtain⟨s0,s1⟩:=cX.cs2;refine bodyPost_ret (v:= .tuple #[.agg #[yT so rd sc,yi rk],.bool hd,yi 0]) (by simp[results,results211,go_sem,s0,s1]) rfl ?_;exact⟨_,rfl,oX,bX⟩
  ·obtain⟨h1,h2,h3,h4⟩:=HB1.out hgc
   clear HB1 HC1 HF1;have hgf:(gc==0)=false:=by simp[hgc]
   subst h1 h2 h3 h4;obtain⟨y0,y1,y2⟩:=q1.cs3
   go_enter func211,ntmps211
   go_wp2_with fail
   refine(HD.out _ b1).mono ?_;rintro z w2 ⟨rfl,bb2⟩;clear y0 y1 y2;have g_2:=g1.l bb2;have q_2:=q1.l bb2;have c_2:=c1.l bb2;have b0_2:=aa b1 bb2;clear g1 q1 c1 b1 bb2;obtain⟨x0,x1,x2,x3,x4⟩:=g_2.cs5
   go_wp2_with fail
   refine(HG.out _).mono ?_;rintro z w3 ⟨rfl,bb3⟩;have g_3:=g_2.l bb3;have q_3:=q_2.l bb3;have c_3:=c_2.l bb3;have b0_3:=aa b0_2 bb3;clear g_2 q_2 c_2 b0_2 bb3;clear x0 x1 x2 x3 x4;have d0:=c_3.c 0 rfl;have f0:=c_3.f 0;have d1:=c_3.c 1 rfl;have f1:=c_3.f 1
   go_wp2
   have bu:But (w.heap.size+1+1) w3 ((w3.setCell ⟨w.heap.size+1+1,0,none⟩ yN).setCell ⟨w.heap.size+1+1,1,none⟩ (yi 0)):=(ag w3 (w.heap.size+1+1) 0 yN).trans (ag _ (w.heap.size+1+1) 1 (yi 0));have cX:au ((w3.setCell ⟨w.heap.size+1+1,0,none⟩ yN).setCell ⟨w.heap.size+1+1,1,none⟩ (yi 0)) (w.heap.size+1+1) 212 [yN,yi 0]:=(c_3.set 0 yN).set 1 (yi 0);have bX:=bu.below b0_3 (show w.heap.size≤w.heap.size+1+1 by omega)
   obtain⟨s0,s1⟩:=cX.cs2;refine bodyPost_ret (v:= .tuple #[.agg #[yN,yi 0],.bool false,yi c]) (by simp[results,results211,go_sem,s0,s1]) rfl ?_;exact⟨_,rfl,aQ _ _ _ _,bX⟩
 ·obtain⟨h1,h2,h3,h4⟩:=HA.out hdc
  clear HA HB HC HF;have hdf:(dc==0)=false:=by simp[hdc]
  subst h1 h2 h3 h4;obtain⟨y0,y1,y2⟩:=q1.cs3
  go_enter func211,ntmps211
  go_wp2_with fail
  refine(HD.out _ b1).mono ?_;rintro z w2 ⟨rfl,bb2⟩;clear y0 y1 y2;have g_2:=g1.l bb2;have q_2:=q1.l bb2;have c_2:=c1.l bb2;have b0_2:=aa b1 bb2;clear g1 q1 c1 b1 bb2;have d0:=c_2.c 0 rfl;have f0:=c_2.f 0;have d1:=c_2.c 1 rfl;have f1:=c_2.f 1
  go_wp2
  have bu:But (w.heap.size+1+1) w2 ((w2.setCell ⟨w.heap.size+1+1,0,none⟩ yN).setCell ⟨w.heap.size+1+1,1,none⟩ (yi 0)):=(ag w2 (w.heap.size+1+1) 0 yN).trans (ag _ (w.heap.size+1+1) 1 (yi 0));have cX:au ((w2.setCell ⟨w.heap.size+1+1,0,none⟩ yN).setCell ⟨w.heap.size+1+1,1,none⟩ (yi 0)) (w.heap.size+1+1) 212 [yN,yi 0]:=(c_2.set 0 yN).set 1 (yi 0);have bX:=bu.below b0_2 (show w.heap.size≤w.heap.size+1+1 by omega)
  obtain⟨s0,s1⟩:=cX.cs2;refine bodyPost_ret (v:= .tuple #[.agg #[yN,yi 0],.bool false,yi c]) (by simp[results,results211,go_sem,s0,s1]) rfl ?_;exact⟨_,rfl,aQ _ _ _ _,bX⟩
theorem jp.block {w:World}{base g n cap:Nat}{bs:List Bool}(h:jp w base (.slice (some ⟨g,0,none⟩) n cap) bs)(hn:n=bs.length):base≤g∧g<w.heap.size:=by
 subst hn;exact World.ownsRow.lt h g rfl
theorem jp.c {w:World}{base g n cap:Nat}{bs:List Bool}(h:jp w base (.slice (some ⟨g,0,none⟩) n cap) bs)(hn:n=bs.length)(j:Nat)(hj:j<bs.length):w.cell? ⟨g,j,none⟩=some (.bool (bs.getD j false)):=by
 subst hn;have hc:=World.ownsRow.cellAt h j (by omega);rw[hc,List.getElem?_map,List.getElem?_eq_getElem hj];simp[List.getD_eq_getElem?_getD,hj]
theorem zZ {w w':World}{base e size k:Nat}{v:Value}{xs:List Value}(h:w.ownsRow base e size v k xs)(hb:yB w w'):w'.ownsRow base e size v k xs:=by
 obtain⟨hl,h2⟩:=h;refine⟨hl, ?_⟩
 rcases h2 with h2| ⟨g,cap,cur,hv,hbg,hh,r⟩
 ·exact .inl h2
 ·refine .inr ⟨g,cap,cur,hv,hbg, ?_,r⟩
  rw[hb.block g ?_]
  ·exact hh
  ·rw[Array.getElem?_eq_some_iff] at hh
   exact hh.1
theorem F7.l {w w':World}{n:Int}{g:Option Nat}{p:ByteArray}{v:Value}(h:F7 w n g p v)(hb:yB w w'):F7 w' n g p v:=⟨h.1,h.2.1.l hb,h.2.2⟩
theorem Vc.l {w wr w':World}{n:Int}{ps:List ByteArray}{i:Nat}{lv:Value}(h:Vc w n ps i lv wr)(hb:yB wr w'):Vc w n ps i lv w':=by
 obtain⟨cs,h1,h2,h3⟩:=h;exact⟨cs,zZ h1 hb,h2.mono (fun p v k=>k.l hb),h3⟩
theorem sF.l {w w':World}{n:Int}{ps:List ByteArray}{g cap:Nat}(h:sF w n ps g cap)(hb:yB w w'):sF w' n ps g cap:=
 ⟨h.fit,h.most,fun i p hp=>by
  obtain⟨so,sc,h1,h2⟩:=h.each i p hp;exact⟨so,sc,aC h1 hb,h2.l hb⟩⟩
end Go.Proofs.YtdhpndnncmagiaaGreatDoor

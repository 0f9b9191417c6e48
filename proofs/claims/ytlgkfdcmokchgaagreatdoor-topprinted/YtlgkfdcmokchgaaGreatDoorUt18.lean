/-
  Texts laid together: Shift, Ce6, Gr1, Gr3.
-/
import Derived.Test.YtlgkfdcmokchgaaGreatDoorUt04
import Derived.Test.YtlgkfdcmokchgaaGreatDoorUt12
set_option maxRecDepth 100000
set_option maxHeartbeats 6400000
namespace Go.Proofs.YtlgkfdcmokchgaaGreatDoor
open _root_.Go.Proofs.Tryz
open Go.RowKit
theorem eO (va:Value)(xs:List Nat)(n:Int)(w:World)(ha:Rd w .u32 va xs)(sa:Dg.Small 4294967296 xs)(hla:xs.length≤1000000)(h1: -1000000≤n)(h2:n≤1000000):
  yC 91 #[va,yi n] w (Num w (shN (Dg.vl 4294967296 xs) n)):=by
 unfold shN
 by_cases hn:n<0
 ·rw[if_pos hn]
  obtain⟨m,hm⟩: ∃m:Nat,-n=(m:Int):=⟨(-n).toNat,by omega⟩;have hl:=Dj va xs m (m/32) (m % 32) w ha sa hla (by omega) (by omega) (by omega);rw[hm,Int.toNat_natCast]
  go_enter func91,ntmps91
  go_wp2_with fail
  refine hl.mono ?_;rintro e w1 ⟨v,rfl,own,bel⟩
  go_wp2
  go_ret
  exact⟨_,rfl,own,bel⟩
 ·rw[if_neg hn]
  obtain⟨m,rfl⟩: ∃m:Nat,n=(m:Int):=⟨n.toNat,by omega⟩;rw[Int.toNat_natCast]
  by_cases hne:xs=[]
  ·subst hne
   obtain⟨ao,ca,rfl⟩:=ha.shape;have hz:Dg.vl 4294967296 []*2^m=0:=by simp[Dg.vl]
   rw[hz]
   go_enter func91,ntmps91
   go_wp2
   go_ret
   exact⟨_,rfl,aQ _ _ _ _,Below.refl _ _⟩
  ·have hl:=vO va xs m (m/32) (m % 32) (2^ (m % 32)) w ha sa hla (by omega) (by omega) rfl (by omega) hne
   go_enter func91,ntmps91
   go_wp2_with fail
   refine hl.mono ?_;rintro e w1 ⟨v,rfl,own,bel⟩
   go_wp2
   go_ret
   exact⟨_,rfl,own,bel⟩
theorem KF (D L G fam:Int)(gr:Bool)(sz ex:Nat)(F:Nat)(s x1 x2 x3:Bool)(ao:Option Addr)(dn dc:Nat)(pw:Int)(e f:Nat)(w:World)(hE:IntKind.i64.wrap (pw-L)=(e:Int))(he:e<65536)
  (HWd: ∀w1,yB w w1→yC 78 #[.slice ao dn dc] w1 fun z w'=>z= .returned (.int .u64 f)∧w1=w')
  (ld:Nat) (ab:Int) (hab:bits .and .u64 f ld=ab) (habz:ab≠0)
  (HL:yJ 145 #[ylV 2 D L G gr sz ex fam F] (.int .u64 ld)):
  yC 164 #[ylV 2 D L G gr sz ex fam F,ypV s (.slice ao dn dc) pw x1 x2 x3] w (yR w (yfV s ((e:Int)+1) f)):=by
 have hsf:=cD;have HWd':Hid _:=HWd;clear HWd;have HL':Hid _:=HL;clear HL;have hz1:(ab==0)=false:=by simpa using habz
 have hz2:(ab != 0)=true:=by simpa using habz
 clear habz;have bp:=af (w.alloc (.cells (ylA 2 D L G gr sz ex fam F) 110)) (.cells (ypA s (.slice ao dn dc) pw x1 x2 x3) 84);have bz:=af ((w.alloc (.cells (ylA 2 D L G gr sz ex fam F) 110)).alloc (.cells (ypA s (.slice ao dn dc) pw x1 x2 x3) 84)) (.cells (yfA false 0 0) 112);have ql0:=((ah w (ylL 2 D L G gr sz ex fam F) 110).l bp).l bz;have qp0:=(ah (w.alloc (.cells (ylA 2 D L G gr sz ex fam F) 110)) (ypL s (.slice ao dn dc) pw x1 x2 x3) 84).l bz;have qz0:=ah ((w.alloc (.cells (ylA 2 D L G gr sz ex fam F) 110)).alloc (.cells (ypA s (.slice ao dn dc) pw x1 x2 x3) 84)) (yfL false 0 0) 112;have b0:=aa (aa (af w (.cells (ylA 2 D L G gr sz ex fam F) 110)) bp) bz;rw[World.size_alloc] at qp0;rw[World.size_alloc,World.size_alloc] at qz0;have ba:=af (((w.alloc (.cells (ylA 2 D L G gr sz ex fam F) 110)).alloc (.cells (ypA s (.slice ao dn dc) pw x1 x2 x3) 84)).alloc (.cells (yfA false 0 0) 112)) (.cells (yfA false 0 0) 112);have b0d:=b0.drew;have b0a:=(aa b0 ba).drew;have ql0a:=(ql0.l ba).drew;have qp0a:=(qp0.l ba).drew;have ql0d:=ql0.drew;have qp0d:=qp0.drew;obtain⟨cx0,cx1,cx2,cx3,cx4,cx5,cx6,cx7,cx8⟩:=ql0d.cs9;obtain⟨cu0,cu1,cu2,cu3,cu4,cu5⟩:=qp0d.cs6;obtain⟨cxa0,cxa1,cxa2,cxa3,cxa4,cxa5,cxa6,cxa7,cxa8⟩:=ql0a.cs9;obtain⟨cua0,cua1,cua2,cua3,cua4,cua5⟩:=qp0a.cs6;have hn0:w.heap.size+1+1+1≠w.heap.size:=by omega
 have hn1:w.heap.size+1+1+1≠w.heap.size+1:=by omega
 go_enter func164,ntmps164
 go_wp2_with fail
 go_region_held3 (fun wq=>(wq.cell? ⟨w.heap.size,0,none⟩=some (yi 2)∧wq.cell? ⟨w.heap.size,1,none⟩=some (yi D)∧wq.cell? ⟨w.heap.size,2,none⟩=some (yi L)∧wq.cell? ⟨w.heap.size,3,none⟩=some (yi G)∧wq.cell? ⟨w.heap.size,4,none⟩=some (.bool gr)∧wq.cell? ⟨w.heap.size,5,none⟩=some (yi sz)∧wq.cell? ⟨w.heap.size,6,none⟩=some (yi ex)∧wq.cell? ⟨w.heap.size,7,none⟩=some (yi fam)∧wq.cell? ⟨w.heap.size,8,none⟩=some (.func (.func F) #[] #[]))∧(wq.cell? ⟨w.heap.size+1,0,none⟩=some (.bool s)∧wq.cell? ⟨w.heap.size+1,1,none⟩=some (.slice ao dn dc)∧wq.cell? ⟨w.heap.size+1,2,none⟩=some (yi pw)∧wq.cell? ⟨w.heap.size+1,3,none⟩=some (.bool x1)∧wq.cell? ⟨w.heap.size+1,4,none⟩=some (.bool x2)∧wq.cell? ⟨w.heap.size+1,5,none⟩=some (.bool x3))) (go_keep) (first
  | (go_at_call 78;(first| (with_reducible (refine(HWd'.out _ b0d).mono ?_))| (with_reducible (refine(HWd'.out _ b0a).mono ?_)));rintro z wv ⟨rfl,rfl⟩))
 all_goals (
  have ba4:=af (((w.alloc (.cells (ylA 2 D L G gr sz ex fam F) 110)).alloc (.cells (ypA s (.slice ao dn dc) pw x1 x2 x3) 84)).alloc (.cells (yfA false 0 0) 112)) (.cells (yfA s e f) 112);have ql4:=(ql0.l ba4).drew;have qz4:=(qz0.l ba4).drew;have qf4:=(ah (((w.alloc (.cells (ylA 2 D L G gr sz ex fam F) 110)).alloc (.cells (ypA s (.slice ao dn dc) pw x1 x2 x3) 84)).alloc (.cells (yfA false 0 0) 112)) (yfL s e f) 112).drew;rw[World.size_alloc,World.size_alloc,World.size_alloc] at qf4;have b4:=(aa b0 ba4).drew;clear ba4 ba b0d b0a ql0a qp0a ql0d qp0d ql0 qp0 qz0 b0 cx0 cxa0 cx1 cxa1 cx2 cxa2 cx3 cxa3 cx4 cxa4 cx5 cxa5 cx6 cxa6 cx7 cxa7 cx8 cxa8 cu0 cua0 cu1 cua1 cu2 cua2 cu3 cua3 cu4 cua4 cu5 cua5;generalize((((w.alloc (.cells (ylA 2 D L G gr sz ex fam F) 110)).alloc (.cells (ypA s (.slice ao dn dc) pw x1 x2 x3) 84)).alloc (.cells (yfA false 0 0) 112)).alloc (.cells (yfA s e f) 112)).drew=w4 at*;have ql4d:=ql4.drew;have qf4d:=qf4.drew;have qz4d:=qz4.drew;have b4d:=b4.drew;obtain⟨cl0,cl1,cl2,cl3,cl4,cl5,cl6,cl7,cl8⟩:=ql4d.cs9;obtain⟨cf0,cf1,cf2⟩:=qf4d.cs3
  go_wp2_with fail
  go_region_held3 (fun wq=>(wq.cell? ⟨w.heap.size,0,none⟩=some (yi 2)∧wq.cell? ⟨w.heap.size,1,none⟩=some (yi D)∧wq.cell? ⟨w.heap.size,2,none⟩=some (yi L)∧wq.cell? ⟨w.heap.size,3,none⟩=some (yi G)∧wq.cell? ⟨w.heap.size,4,none⟩=some (.bool gr)∧wq.cell? ⟨w.heap.size,5,none⟩=some (yi sz)∧wq.cell? ⟨w.heap.size,6,none⟩=some (yi ex)∧wq.cell? ⟨w.heap.size,7,none⟩=some (yi fam)∧wq.cell? ⟨w.heap.size,8,none⟩=some (.func (.func F) #[] #[]))∧(wq.cell? ⟨w.heap.size+1+1+1,0,none⟩=some (.bool s)∧wq.cell? ⟨w.heap.size+1+1+1,1,none⟩=some (yi e)∧wq.cell? ⟨w.heap.size+1+1+1,2,none⟩=some (.int .u64 f))) (go_keep) (first
   | (go_at_call 145;refine(HL'.out _).mono ?_;rintro z w5 ⟨rfl,b5'⟩;have ql5:=ql4d.l b5';have qf5:=qf4d.l b5';have qz5:=qz4d.l b5';have b5:=aa b4d b5';obtain⟨dl0,dl1,dl2,dl3,dl4,dl5,dl6,dl7,dl8⟩:=ql5.cs9;obtain⟨df0,df1,df2⟩:=qf5.cs3))
  clear ql4 ql4d qf4 qf4d qz4 qz4d b4 b4d b5' cl0 cl1 cl2 cl3 cl4 cl5 cl6 cl7 cl8 cf0 cf1 cf2;have jf1:=qf5.f 1;have hew:IntKind.i64.wrap ((e:Int)+1)=(e:Int)+1:=IntWalk.i64_in _ ⟨by omega,by omega⟩
  go_upto_region 4 with fail
  have hfz:w.heap.size+1+1+1≠w.heap.size+1+1:=by omega
  have bu6:=ag w5 (w.heap.size+1+1+1) 1 (yi ((e:Int)+1));have qf6:au (w5.setCell ⟨w.heap.size+1+1+1,1,none⟩ (yi ((e:Int)+1))) (w.heap.size+1+1+1) 112 (yfL s ((e:Int)+1) f):=qf5.set 1 (yi ((e:Int)+1));have qz6:=qz5.off hfz 1 (yi ((e:Int)+1));have b6:=bu6.below b5 (by omega);clear bu6 qf5 qz5 b5 ql5 df0 df1 df2 jf1;generalize(w5.setCell ⟨w.heap.size+1+1+1,1,none⟩ (yi ((e:Int)+1)))=w6 at*;have bu:=((ag w6 (w.heap.size+1+1) 0 (.bool s)).trans (ag _ (w.heap.size+1+1) 1 (yi ((e:Int)+1)))).trans (ag _ (w.heap.size+1+1) 2 (.int .u64 f));have cR:au (((w6.setCell ⟨w.heap.size+1+1,0,none⟩ (.bool s)).setCell ⟨w.heap.size+1+1,1,none⟩ (yi ((e:Int)+1))).setCell ⟨w.heap.size+1+1,2,none⟩ (.int .u64 f)) (w.heap.size+1+1) 112 (yfL s ((e:Int)+1) f):=(((qz6.set 0 (.bool s)).set 1 (yi ((e:Int)+1))).set 2 (.int .u64 f));have bR:=bu.below b6 (by omega);have hl:=run_loadVar_mid (P:=Tryz.prog) _ (w.heap.size+1+1) 0 112 (yfL s ((e:Int)+1) f) _ cR.range underlying112 rfl (by kernel_rfl);have HH:Hid (_∧_):=⟨hl,bR⟩;obtain⟨yz0,yz1,yz2⟩:=qz6.cs3;have jz0:=qz6.f 0;have jz1:=qz6.f 1;have jz2:=qz6.f 2;obtain⟨yf0,yf1,yf2⟩:=qf6.cs3;clear hl bR cR bu
  go_wp2
  obtain⟨hl,bR⟩:=HH.out;exact bodyPost_ret (br results164 rfl hl) rfl ⟨rfl,bR⟩
 )
theorem KG (D L G fam:Int)(gr:Bool)(sz ex:Nat)(F:Nat)(s x1 x2 x3:Bool)(ao:Option Addr)(dn dc:Nat)(pw:Int)(e f:Nat)(w:World)(hE:IntKind.i64.wrap (pw-L)=(e:Int))(_he:e<65536)
  (HWd: ∀w1,yB w w1→yC 78 #[.slice ao dn dc] w1 fun z w'=>z= .returned (.int .u64 f)∧w1=w')
  (ld:Nat) (ab:Int) (hab:bits .and .u64 f ld=ab) (habz:ab=0)
  (HL:yJ 145 #[ylV 2 D L G gr sz ex fam F] (.int .u64 ld)):
  yC 164 #[ylV 2 D L G gr sz ex fam F,ypV s (.slice ao dn dc) pw x1 x2 x3] w (yR w (yfV s e f)):=by
 have hsf:=cD;have HWd':Hid _:=HWd;clear HWd;have HL':Hid _:=HL;clear HL;subst habz;have bp:=af (w.alloc (.cells (ylA 2 D L G gr sz ex fam F) 110)) (.cells (ypA s (.slice ao dn dc) pw x1 x2 x3) 84);have bz:=af ((w.alloc (.cells (ylA 2 D L G gr sz ex fam F) 110)).alloc (.cells (ypA s (.slice ao dn dc) pw x1 x2 x3) 84)) (.cells (yfA false 0 0) 112);have ql0:=((ah w (ylL 2 D L G gr sz ex fam F) 110).l bp).l bz;have qp0:=(ah (w.alloc (.cells (ylA 2 D L G gr sz ex fam F) 110)) (ypL s (.slice ao dn dc) pw x1 x2 x3) 84).l bz;have qz0:=ah ((w.alloc (.cells (ylA 2 D L G gr sz ex fam F) 110)).alloc (.cells (ypA s (.slice ao dn dc) pw x1 x2 x3) 84)) (yfL false 0 0) 112;have b0:=aa (aa (af w (.cells (ylA 2 D L G gr sz ex fam F) 110)) bp) bz;rw[World.size_alloc] at qp0;rw[World.size_alloc,World.size_alloc] at qz0;have ba:=af (((w.alloc (.cells (ylA 2 D L G gr sz ex fam F) 110)).alloc (.cells (ypA s (.slice ao dn dc) pw x1 x2 x3) 84)).alloc (.cells (yfA false 0 0) 112)) (.cells (yfA false 0 0) 112);have b0d:=b0.drew;have b0a:=(aa b0 ba).drew;have ql0a:=(ql0.l ba).drew;have qp0a:=(qp0.l ba).drew;have ql0d:=ql0.drew;have qp0d:=qp0.drew;obtain⟨cx0,cx1,cx2,cx3,cx4,cx5,cx6,cx7,cx8⟩:=ql0d.cs9;obtain⟨cu0,cu1,cu2,cu3,cu4,cu5⟩:=qp0d.cs6;obtain⟨cxa0,cxa1,cxa2,cxa3,cxa4,cxa5,cxa6,cxa7,cxa8⟩:=ql0a.cs9;obtain⟨cua0,cua1,cua2,cua3,cua4,cua5⟩:=qp0a.cs6;have hn0:w.heap.size+1+1+1≠w.heap.size:=by omega
 have hn1:w.heap.size+1+1+1≠w.heap.size+1:=by omega
 go_enter func164,ntmps164
 go_wp2_with fail
 go_region_held3 (fun wq=>(wq.cell? ⟨w.heap.size,0,none⟩=some (yi 2)∧wq.cell? ⟨w.heap.size,1,none⟩=some (yi D)∧wq.cell? ⟨w.heap.size,2,none⟩=some (yi L)∧wq.cell? ⟨w.heap.size,3,none⟩=some (yi G)∧wq.cell? ⟨w.heap.size,4,none⟩=some (.bool gr)∧wq.cell? ⟨w.heap.size,5,none⟩=some (yi sz)∧wq.cell? ⟨w.heap.size,6,none⟩=some (yi ex)∧wq.cell? ⟨w.heap.size,7,none⟩=some (yi fam)∧wq.cell? ⟨w.heap.size,8,none⟩=some (.func (.func F) #[] #[]))∧(wq.cell? ⟨w.heap.size+1,0,none⟩=some (.bool s)∧wq.cell? ⟨w.heap.size+1,1,none⟩=some (.slice ao dn dc)∧wq.cell? ⟨w.heap.size+1,2,none⟩=some (yi pw)∧wq.cell? ⟨w.heap.size+1,3,none⟩=some (.bool x1)∧wq.cell? ⟨w.heap.size+1,4,none⟩=some (.bool x2)∧wq.cell? ⟨w.heap.size+1,5,none⟩=some (.bool x3))) (go_keep) (first
  | (go_at_call 78;(first| (with_reducible (refine(HWd'.out _ b0d).mono ?_))| (with_reducible (refine(HWd'.out _ b0a).mono ?_)));rintro z wv ⟨rfl,rfl⟩))
 all_goals (
  have ba4:=af (((w.alloc (.cells (ylA 2 D L G gr sz ex fam F) 110)).alloc (.cells (ypA s (.slice ao dn dc) pw x1 x2 x3) 84)).alloc (.cells (yfA false 0 0) 112)) (.cells (yfA s e f) 112);have ql4:=(ql0.l ba4).drew;have qz4:=(qz0.l ba4).drew;have qf4:=(ah (((w.alloc (.cells (ylA 2 D L G gr sz ex fam F) 110)).alloc (.cells (ypA s (.slice ao dn dc) pw x1 x2 x3) 84)).alloc (.cells (yfA false 0 0) 112)) (yfL s e f) 112).drew;rw[World.size_alloc,World.size_alloc,World.size_alloc] at qf4;have b4:=(aa b0 ba4).drew;clear ba4 ba b0d b0a ql0a qp0a ql0d qp0d ql0 qp0 qz0 b0 cx0 cxa0 cx1 cxa1 cx2 cxa2 cx3 cxa3 cx4 cxa4 cx5 cxa5 cx6 cxa6 cx7 cxa7 cx8 cxa8 cu0 cua0 cu1 cua1 cu2 cua2 cu3 cua3 cu4 cua4 cu5 cua5;generalize((((w.alloc (.cells (ylA 2 D L G gr sz ex fam F) 110)).alloc (.cells (ypA s (.slice ao dn dc) pw x1 x2 x3) 84)).alloc (.cells (yfA false 0 0) 112)).alloc (.cells (yfA s e f) 112)).drew=w4 at*;have ql4d:=ql4.drew;have qf4d:=qf4.drew;have qz4d:=qz4.drew;have b4d:=b4.drew;obtain⟨cl0,cl1,cl2,cl3,cl4,cl5,cl6,cl7,cl8⟩:=ql4d.cs9;obtain⟨cf0,cf1,cf2⟩:=qf4d.cs3
  go_wp2_with fail
  go_region_held3 (fun wq=>(wq.cell? ⟨w.heap.size,0,none⟩=some (yi 2)∧wq.cell? ⟨w.heap.size,1,none⟩=some (yi D)∧wq.cell? ⟨w.heap.size,2,none⟩=some (yi L)∧wq.cell? ⟨w.heap.size,3,none⟩=some (yi G)∧wq.cell? ⟨w.heap.size,4,none⟩=some (.bool gr)∧wq.cell? ⟨w.heap.size,5,none⟩=some (yi sz)∧wq.cell? ⟨w.heap.size,6,none⟩=some (yi ex)∧wq.cell? ⟨w.heap.size,7,none⟩=some (yi fam)∧wq.cell? ⟨w.heap.size,8,none⟩=some (.func (.func F) #[] #[]))∧(wq.cell? ⟨w.heap.size+1+1+1,0,none⟩=some (.bool s)∧wq.cell? ⟨w.heap.size+1+1+1,1,none⟩=some (yi e)∧wq.cell? ⟨w.heap.size+1+1+1,2,none⟩=some (.int .u64 f))) (go_keep) (first
   | (go_at_call 145;refine(HL'.out _).mono ?_;rintro z w5 ⟨rfl,b5'⟩;have ql5:=ql4d.l b5';have qf5:=qf4d.l b5';have qz5:=qz4d.l b5';have b5:=aa b4d b5';obtain⟨dl0,dl1,dl2,dl3,dl4,dl5,dl6,dl7,dl8⟩:=ql5.cs9;obtain⟨df0,df1,df2⟩:=qf5.cs3))
  clear ql4 ql4d qf4 qf4d qz4 qz4d b4 b4d b5' cl0 cl1 cl2 cl3 cl4 cl5 cl6 cl7 cl8 cf0 cf1 cf2;have bu:=((ag w5 (w.heap.size+1+1) 0 (.bool s)).trans (ag _ (w.heap.size+1+1) 1 (yi e))).trans (ag _ (w.heap.size+1+1) 2 (.int .u64 f));have cR:au (((w5.setCell ⟨w.heap.size+1+1,0,none⟩ (.bool s)).setCell ⟨w.heap.size+1+1,1,none⟩ (yi e)).setCell ⟨w.heap.size+1+1,2,none⟩ (.int .u64 f)) (w.heap.size+1+1) 112 (yfL s e f):=(((qz5.set 0 (.bool s)).set 1 (yi e)).set 2 (.int .u64 f));have bR:=bu.below b5 (by omega);have hl:=run_loadVar_mid (P:=Tryz.prog) _ (w.heap.size+1+1) 0 112 (yfL s e f) _ cR.range underlying112 rfl (by kernel_rfl);have HH:Hid (_∧_):=⟨hl,bR⟩;obtain⟨yz0,yz1,yz2⟩:=qz5.cs3;have jz0:=qz5.f 0;have jz1:=qz5.f 1;have jz2:=qz5.f 2;obtain⟨yf0,yf1,yf2⟩:=qf5.cs3;clear hl bR cR bu
  go_wp2
  obtain⟨hl,bR⟩:=HH.out;exact bodyPost_ret (br results164 rfl hl) rfl ⟨rfl,bR⟩
 )
theorem C7 (R D L G:Int)(gr:Bool)(n:Nat)(w:World)(hn:n≤1000):
  yC 180 #[ygV R D L G gr,yi n] w (Num w (2^ (ai R*n))):=by
 have b1:=af w (.cells (ygA R D L G gr) 145);have b2:=aa b1 (af _ (.cells #[.int .u32 ((1:Nat):Int)] 54));have r2:=cE (w:=w.alloc (.cells (ygA R D L G gr) 145)) (k:= .u32) (e:=54) [1] #[.int .u32 ((1:Nat):Int)] rfl (by unfold maxLen;simp);rw[World.size_alloc] at r2;have HW:Hid (yJ 119 #[ygV R D L G gr] (yi (xg R))):=fun w1=>tY R D L G gr w1
 have hwl:=eN R;rw[jf] at HW;obtain⟨wd,hwd⟩: ∃k,ai R=k:=⟨_,rfl⟩;rw[hwd] at HW hwl⊢;have hml:wd*n≤4000:=Nat.le_trans (Nat.mul_le_mul hwl.2 hn) (by omega);have HS:Hid (∀v w1,Rd w1 .u32 v [1]→yC 91 #[v,yi ((wd:Int)*(n:Int))] w1 (Num w1 (2^ (wd*n)))):=fun v w1 r=>by
  have:=eO v [1] ((wd*n:Nat):Int) w1 r (Dg.small_cons.2 ⟨by omega,Dg.small_nil _ (by omega)⟩) (by simp) (by omega) (by omega);rw[CE _ _ (by omega),Int.toNat_natCast,show Dg.vl 4294967296 [1]=1 from rfl,Nat.one_mul] at this
  rwa [Int.natCast_mul] at this
 have hmi:(wd:Int)*(n:Int)≤4000:=by exact_mod_cast hml
 have hm0:0≤(wd:Int)*(n:Int):=by exact_mod_cast Nat.zero_le _
 have hw1:IntKind.i64.wrap ((wd:Int)*(n:Int))=(wd:Int)*(n:Int):=IntWalk.i64_in _ ⟨by omega,by omega⟩;clear hwd
 go_enter func180,ntmps180
 go_wp2_with fail
 refine(HW.out _).mono ?_;rintro z w3 ⟨rfl,b3⟩;have b03:=aa b2 b3;have r3:=r2.l b3;clear b1 b2 r2 b3
 go_wp2_with fail
 refine(HS.out _ _ r3).mono ?_;rintro z w4 ⟨v4,rfl,o4,b4⟩;have b04:=aa b03 b4;have o5:=o4.lower b03.size
 go_wp2
 go_ret
 exact⟨_,rfl,o5,b04⟩
theorem Ax (R D L G:Int)(gr:Bool)(w:World)(h1:1≤D)(h2:D≤120):
  yC 153 #[ygV R D L G gr] w (Num w (2^ (ai R*(D-1).toNat))):=by
 obtain⟨d,rfl⟩: ∃d:Nat,D=(d:Int)+1:=⟨(D-1).toNat,by omega⟩;have e0:((d:Int)+1-1).toNat=d:=by omega
 rw[e0];have b1:=af w (.cells (ygA R ((d:Int)+1) L G gr) 145);have HR:Hid (∀w1,yC 180 #[ygV R ((d:Int)+1) L G gr,yi d] w1 (Num w1 (2^ (ai R*d)))):=fun w1=>C7 R _ L G gr d w1 (by omega)
 go_enter func153,ntmps153
 go_wp2_with fail
 refine(HR.out _).mono ?_;rintro z w4 ⟨v4,rfl,o4,b4⟩;have b04:=aa b1 b4;have o5:=o4.lower b1.size
 go_wp2
 go_ret
 exact⟨_,rfl,o5,b04⟩
theorem MX (R D L G:Int)(gr:Bool)(w:World)(h1:1≤D)(h2:D≤120):
  yC 152 #[ygV R D L G gr] w (Num w (2^ (ai R*D.toNat))):=by
 obtain⟨d,rfl⟩: ∃d:Nat,D=(d:Int):=⟨D.toNat,by omega⟩;rw[Int.toNat_natCast];have b1:=af w (.cells (ygA R (d:Int) L G gr) 145);have HR:Hid (∀w1,yC 180 #[ygV R (d:Int) L G gr,yi d] w1 (Num w1 (2^ (ai R*d)))):=fun w1=>C7 R _ L G gr d w1 (by omega)
 go_enter func152,ntmps152
 go_wp2_with fail
 refine(HR.out _).mono ?_;rintro z w4 ⟨v4,rfl,o4,b4⟩;have b04:=aa b1 b4;have o5:=o4.lower b1.size
 go_wp2
 go_ret
 exact⟨_,rfl,o5,b04⟩
open Go.RowKit Go.ChangeMaps Go.MapKept
theorem sS {P:Program}{t k e:TypeId}(ht:P.underlying t=some (.map k e))(hk:P.underlying k=some (.int .i64)){w W:World}{r:Nat}{es:Array MapEntry}{c:Nat}(hb:W.heap[r]? =some (.map es c))(hr:w.heap.size≤r)(bel:yB w W)(x:Int)(v:Value)(hno:Instr.findNow (.int .i64) (yi x) es.toList 0=some none):
  ∃W',(Instr.mapUpdate t (.map (some r)) (yi x) v).run P W= .ok () W'∧W'.heap[r]? =some (.map (es.push ⟨yi x,v,c⟩) (c+1))∧yB w W':=by
 have hkey:IsKey (.int .i64) (yi x):=rfl;refine⟨setBlock W r (.map (es.push ⟨yi x,v,c⟩) (c+1)), ?_, ?_, ?_⟩
 ·simp[Instr.mapUpdate,run_underlying ht,MapKept.run_getObj_map hb,run_checkKey hk hkey,run_findKey hk hno,MapKept.run_setObj_map _ hb,Result.andThen,setBlock]
 ·exact(MapKept.heap_set hb).1
 ·refine⟨bel.os,bel.tape,bel.output, ?_,fun i hi=> ?_⟩
  ·show w.heap.size≤(W.heap.setIfInBounds r _).size
   rw[Array.size_setIfInBounds];exact bel.size
  ·show(W.heap.setIfInBounds r _)[i]? =_
   rw[(MapKept.heap_set (o':=Obj.map (es.push ⟨yi x,v,c⟩) (c+1)) hb).2 i (by omega)];exact bel.block i hi
theorem pj {P:Program}{t k e:TypeId}(ht:P.underlying t=some (.map k e))(hk:P.underlying k=some (.int .i64)){W:World}{r:Nat}{es:Array MapEntry}{c:Nat}(hb:W.heap[r]? =some (.map es c))(x:Int){i:Nat}{v:Value}(h:Instr.findNow (.int .i64) (yi x) es.toList 0=some (some (i,v))):
  (Instr.lookup t (.map (some r)) (yi x) false).run P W= .ok v W:=by
 have hkey:IsKey (.int .i64) (yi x):=rfl;simp[Instr.lookup,run_underlying ht,MapKept.run_getObj_map hb,run_checkKey hk hkey,run_findKey hk h,Result.andThen]
theorem Yc {P:Program}{t k e:TypeId}(ht:P.underlying t=some (.map k e))(hk:P.underlying k=some (.int .i64)){W:World}{r:Nat}{es:Array MapEntry}{c:Nat}(hb:W.heap[r]? =some (.map es c))(x:Int){z:Value}(hz:(zeroValue e).run P W= .ok z W)(h:Instr.findNow (.int .i64) (yi x) es.toList 0=some none):
  (Instr.lookup t (.map (some r)) (yi x) false).run P W= .ok z W:=by
 have hkey:IsKey (.int .i64) (yi x):=rfl;simp[Instr.lookup,run_underlying ht,MapKept.run_getObj_map hb,run_checkKey hk hkey,run_findKey hk h,hz,Result.andThen]
def Yd:Array MapEntry:= #[⟨yi 1,.func (.func 111) #[] #[],0⟩,⟨yi 2,.func (.func 112) #[] #[],1⟩,⟨yi 3,.func (.func 113) #[] #[],2⟩,⟨yi 4,.func (.func 114) #[] #[],3⟩,⟨yi 5,.func (.func 115) #[] #[],4⟩]
theorem Ye (w:World):yC 76 #[] w fun z w'=>z= .returned (.map (some w.heap.size))∧w'.heap[w.heap.size]? =some (.map Yd 5)∧yB w w':=by
 have ht:=underlying142;have hk:=underlying3;have hb0:(w.alloc (.map #[] 0)).heap[w.heap.size]? =some (.map #[] 0):=heap_alloc_new _ _;have b0:=af w (.map #[] 0);have e0:=run_makeMap (P:=Tryz.prog) 142 w;obtain⟨W1,e1,hb1,b1⟩:=sS ht hk hb0 (Nat.le_refl _) b0 1 (.func (.func 111) #[] #[]) rfl;obtain⟨W2,e2,hb2,b2⟩:=sS ht hk hb1 (Nat.le_refl _) b1 2 (.func (.func 112) #[] #[]) rfl;obtain⟨W3,e3,hb3,b3⟩:=sS ht hk hb2 (Nat.le_refl _) b2 3 (.func (.func 113) #[] #[]) rfl;obtain⟨W4,e4,hb4,b4⟩:=sS ht hk hb3 (Nat.le_refl _) b3 4 (.func (.func 114) #[] #[]) rfl;obtain⟨W5,e5,hb5,b5⟩:=sS ht hk hb4 (Nat.le_refl _) b4 5 (.func (.func 115) #[] #[]) rfl;have HB:Hid (W5.heap[w.heap.size]? =some (.map Yd 5)):=hb5;clear hb1 hb2 hb3 hb4 hb5 b1 b2 b3 b4 ht hk hb0
 go_enter func76,ntmps76
 go_wp2
 go_ret
 exact⟨rfl,HB.out,b5⟩
def gY (way half:Int)(odd neg:Bool):Bool:=
 if way=1 then(decide (0<half)||(decide (half=0)&&odd)) else if way=2 then decide (0≤half) else if way=4 then !neg else if way=5 then neg else false
theorem Yf (half:Int)(odd neg:Bool)(w:World):yC 111 #[.agg #[yi half,.bool odd,.bool neg]] w (yR w (.bool (gY 1 half odd neg))):=by
 have bA:=af w (.cells #[yi half,.bool odd,.bool neg] 185);have hv:gY 1 half odd neg=(decide (0<half)||(decide (half=0)&&odd)):=by simp[gY]
 rw[hv]
 by_cases h:0<half
 ·go_enter func111,ntmps111
  go_wp2
  go_ret
  exact⟨by simp[h],bA⟩
 ·have hf:decide (0<half)=false:=by simp;omega
  by_cases h0:half=0
  ·subst h0
   clear hv h hf
   go_enter func111,ntmps111
   go_wp2
   go_ret
   exact⟨by simp,bA⟩
  ·have h0f:(half==0)=false:=by simp;exact h0
   rw[hf,show decide (half=0)=false by simp;exact h0]
   clear hv
   go_enter func111,ntmps111
   go_wp2
   go_ret
   exact⟨by simp,bA⟩
theorem Yg (half:Int)(odd neg:Bool)(w:World):yC 112 #[.agg #[yi half,.bool odd,.bool neg]] w (yR w (.bool (gY 2 half odd neg))):=by
 have bA:=af w (.cells #[yi half,.bool odd,.bool neg] 185);have hv:gY 2 half odd neg=decide (0≤half):=by simp[gY]
 rw[hv];clear hv
 go_enter func112,ntmps112
 go_wp2
 go_ret
 exact⟨rfl,bA⟩
theorem Yh (half:Int)(odd neg:Bool)(w:World):yC 113 #[.agg #[yi half,.bool odd,.bool neg]] w (yR w (.bool (gY 3 half odd neg))):=by
 have hv:gY 3 half odd neg=false:=by simp[gY]
 have bA:=af w (.cells #[yi half,.bool odd,.bool neg] 185);rw[hv];clear hv
 go_enter func113,ntmps113
 go_wp2
 go_ret
 exact⟨rfl,bA⟩
theorem Yi (half:Int)(odd neg:Bool)(w:World):yC 114 #[.agg #[yi half,.bool odd,.bool neg]] w (yR w (.bool (gY 4 half odd neg))):=by
 have bA:=af w (.cells #[yi half,.bool odd,.bool neg] 185);have hv:gY 4 half odd neg= !neg:=by simp[gY]
 rw[hv];clear hv
 go_enter func114,ntmps114
 go_wp2
 go_ret
 exact⟨rfl,bA⟩
theorem Yj (half:Int)(odd neg:Bool)(w:World):yC 115 #[.agg #[yi half,.bool odd,.bool neg]] w (yR w (.bool (gY 5 half odd neg))):=by
 have bA:=af w (.cells #[yi half,.bool odd,.bool neg] 185);have hv:gY 5 half odd neg=neg:=by simp[gY]
 rw[hv];clear hv
 go_enter func115,ntmps115
 go_wp2
 go_ret
 exact⟨rfl,bA⟩
def io (R D:Int)(d:Nat):Nat:=if d=2^ (ai R*D.toNat) then 2^ (ai R*(D-1).toNat) else d
def gD (R D:Int)(d:Nat)(p:Int):Int:=if d=2^ (ai R*D.toNat) then p+1 else p
theorem Br (R D L G:Int)(gr:Bool)(v:Value)(d:Nat)(p:Int)(base:Nat)(w:World)(ho:Own w base 54 .u32 v (Dg.dg 4294967296 d))(hbs:base≤w.heap.size)(h1:1≤D)(h2:D≤120)(p1: -1000000≤p)(p2:p≤1000000):
  yC 120 #[ygV R D L G gr,.agg #[v,yi p]] w fun z w'=> ∃u,z= .returned (.agg #[u,yi (gD R D d p)])∧Own w' base 54 .u32 u (Dg.dg 4294967296 (io R D d))∧yB w w':=by
 obtain⟨ao,ca,hv⟩:=ho.rd.shape;subst hv;obtain⟨m,hm⟩: ∃m,(Dg.dg 4294967296 d).length=m:=⟨_,rfl⟩;have HE:Hid (∀w1,yC 152 #[ygV R D L G gr] w1 (Num w1 (2^ (ai R*D.toNat)))):=fun w1=>MX R D L G gr w1 h1 h2
 have HF:Hid (∀w1,yC 153 #[ygV R D L G gr] w1 (Num w1 (2^ (ai R*(D-1).toNat)))):=fun w1=>Ax R D L G gr w1 h1 h2
 obtain⟨X,hX⟩: ∃X,2^ (ai R*D.toNat)=X:=⟨_,rfl⟩;obtain⟨Y,hY⟩: ∃Y,2^ (ai R*(D-1).toNat)=Y:=⟨_,rfl⟩;rw[hX] at HE;rw[hY] at HF;have HCM:Hid (∀u w1,Rd w1 .u32 (.slice ao m ca) (Dg.dg 4294967296 d)→Rd w1 .u32 u (Dg.dg 4294967296 X)→yC 93 #[.slice ao m ca,u] w1 (yR w1 (yi (dm d (X:Int))))):=fun u w1 r1 r2=>by
  have:=jF _ u _ _ w1 r1 r2 (Dg.small_dg _ _ (by omega)) (Dg.small_dg _ _ (by omega)) (Dg.norm_dg _ _ (by omega)) (Dg.norm_dg _ _ (by omega))
  rwa [Dg.vl_dg _ _ (by omega),Dg.vl_dg _ _ (by omega)] at this
 obtain⟨cd,hcd⟩: ∃x,io R D d=x:=⟨_,rfl⟩;obtain⟨cp,hcp⟩: ∃x,gD R D d p=x:=⟨_,rfl⟩;have HPOS:Hid (d=X→Y=cd∧p+1=cp):=fun h=>by
  rw[←hcd,←hcp,←hY];unfold io gD;rw[if_pos (h.trans hX.symm),if_pos (h.trans hX.symm)];exact⟨rfl,rfl⟩
 have HNEG:Hid (¬d=X→d=cd∧p=cp):=fun h=>by
  rw[←hcd,←hcp];unfold io gD;rw[if_neg (fun e=>h (e.trans hX)),if_neg (fun e=>h (e.trans hX))]
  exact⟨rfl,rfl⟩
 rw[hcd,hcp];clear hcd hcp;rw[hm] at ho⊢;obtain⟨ds,hds⟩: ∃ds,Dg.dg 4294967296 d=ds:=⟨_,rfl⟩;have HDS:Hid (Dg.dg 4294967296 d=ds):=hds;rw[hds] at ho HCM;clear hX hY hm hds;obtain⟨cc,hcc⟩: ∃c,dm d (X:Int)=c:=⟨_,rfl⟩;have hc0:cc=0↔d=X:=by
  rw[←hcc];unfold dm
  split
  ·omega
  ·split<;>omega
 rw[hcc] at HCM;clear hcc;have b1:=aa (aa (af w (.cells (ygA R D L G gr) 145)) (af _ (.cells #[.slice ao m ca,yi p] 153))) (af _ (.cells #[yN,yi 0] 153));have g1:=((ah w (ygL R D L G gr) 145).l (af _ (.cells #[.slice ao m ca,yi p] 153))).l (af _ (.cells #[yN,yi 0] 153));have s1:=(ah (w.alloc (.cells (ygA R D L G gr) 145)) [.slice ao m ca,yi p] 153).l (af _ (.cells #[yN,yi 0] 153));have z1:=ah ((w.alloc (.cells (ygA R D L G gr) 145)).alloc (.cells #[.slice ao m ca,yi p] 153)) [yN,yi 0] 153;simp only[World.size_alloc] at s1 z1;have bd:=aa b1 ((Below.refl _ _).drew);replace g1:=g1.drew;replace s1:=s1.drew;replace z1:=z1.drew;have o1:=ho.l bd;clear b1 ho;obtain⟨c0,c1,c2,c3,c4⟩:=g1.cs5;have d0:=s1.c 0 rfl;have ne1:w.heap.size+1+1≠w.heap.size:=by omega
 have ne2:w.heap.size+1+1≠w.heap.size+1:=by omega
 have w1:IntKind.i64.wrap (p+1)=p+1:=IntWalk.i64_in _ ⟨by omega,by omega⟩
 go_enter func120,ntmps120
 go_wp2_with fail
 go_region_held3 (fun wq=>wq.cell? ⟨w.heap.size+1,0,none⟩=some (.slice ao m ca)∧(wq.cell? ⟨w.heap.size,0,none⟩=some (yi R)∧wq.cell? ⟨w.heap.size,1,none⟩=some (yi D)∧wq.cell? ⟨w.heap.size,2,none⟩=some (yi L)∧wq.cell? ⟨w.heap.size,3,none⟩=some (yi G)∧wq.cell? ⟨w.heap.size,4,none⟩=some (.bool gr))) (go_keep) (first
  | (go_at_call 152;refine(HE.out _).mono ?_;rintro z w3 ⟨v3,rfl,o3,b3⟩;have b03:=aa bd b3;have g3:=g1.l b3;have s3:=s1.l b3;have z3:=z1.l b3;have o13:=o1.l b3;obtain⟨k0,k1,k2,k3,k4⟩:=g3.cs5;have k5:=s3.c 0 rfl)
  | (go_at_call 93;refine(HCM.out _ w3 (HDS.out▸o13.rd) o3.rd).mono ?_;rintro z w4 ⟨rfl,b4⟩;have b04:=aa b03 b4;have g4:=g3.l b4;have s4:=s3.l b4;have z4:=z3.l b4;have o14:=o13.l b4;obtain⟨j0,j1,j2,j3,j4⟩:=g4.cs5;have j5:=s4.c 0 rfl))
 by_cases h0:cc=0
 ·obtain⟨h3,h4⟩:=HPOS.out (hc0.1 h0)
  subst h3;subst h4;subst h0;clear hc0 HPOS HNEG k0 k1 k2 k3 k4 k5 c0 c1 c2 c3 c4 d0 o3 g1 g3 s1 s3 z1 z3 o1 o13 bd b03 b3 b4 HE HCM;have bd4:yB w4 w4.drew:=(Below.refl _ _).drew;have b05:=aa b04 bd4;have g5:=g4.l bd4;have s5:=s4.l bd4;have z5:=z4.l bd4;clear b04 g4 s4 z4 o14 bd4 j0 j1 j2 j3 j4 j5;obtain⟨j0,j1,j2,j3,j4⟩:=g5.cs5;have j5:=s5.c 1 rfl
  go_goals
  go_wp2_with fail
  go_region_held3 (fun wq=>wq.cell? ⟨w.heap.size+1,1,none⟩=some (yi p)∧(wq.cell? ⟨w.heap.size,0,none⟩=some (yi R)∧wq.cell? ⟨w.heap.size,1,none⟩=some (yi D)∧wq.cell? ⟨w.heap.size,2,none⟩=some (yi L)∧wq.cell? ⟨w.heap.size,3,none⟩=some (yi G)∧wq.cell? ⟨w.heap.size,4,none⟩=some (.bool gr))) (go_keep) (first
   | (go_at_call 153;refine(HF.out _).mono ?_;rintro z w6 ⟨v6,rfl,o6,b6⟩;have b06:=aa b05 b6;have g6:=g5.l b6;have s6:=s5.l b6;have z6:=z5.l b6;obtain⟨k0,k1,k2,k3,k4⟩:=g6.cs5;have k5:=s6.c 1 rfl;obtain⟨y0,y1⟩:=z6.cs2;have f0:=z6.f 0;have f1:=z6.f 1;obtain⟨so,sc,hs⟩:=o6.rd.shape;subst hs))
  all_goals go_wp2
  have z7:au _ _ _ [yT so Y sc,yi (p+1)]:=(z6.set 0 (yT so Y sc)).set 1 (yi (p+1));have o7:=(o6.setE z6 (by decide) 0 (yT so Y sc)).setE (z6.set 0 (yT so Y sc)) (by decide) 1 (yi (p+1));have b7:=(b06.setCell (p:=⟨w.heap.size+1+1,0,none⟩) (by show w.heap.size≤w.heap.size+1+1;omega) (yT so Y sc)).setCell (p:=⟨w.heap.size+1+1,1,none⟩) (by show w.heap.size≤w.heap.size+1+1;omega) (yi (p+1))
  obtain⟨x0,x1⟩:=z7.cs2;refine bodyPost_ret (v:= .agg #[yT so Y sc,yi (p+1)]) (by simp[results,results120,go_sem,x0,x1]) rfl ?_;exact⟨_,rfl,o7.lower (Nat.le_trans hbs b05.size),b7⟩
 ·obtain⟨h3,h4⟩:=HNEG.out (fun h=>h0 (hc0.2 h))
  subst h3;subst h4;have hcf:(cc==0)=false:=by simp;exact h0
  clear hc0 HPOS HNEG k0 k1 k2 k3 k4 k5 c0 c1 c2 c3 c4 d0 o3 g1 g3 s1 s3 z1 z3 o1 o13 bd b03 b3 b4 HE HCM HF j0 j1 j2 j3 j4 g4;have j6:=s4.c 1 rfl;obtain⟨y0,y1⟩:=z4.cs2;have f0:=z4.f 0;have f1:=z4.f 1
  go_goals
  go_wp2
  have z7:au _ _ _ [.slice ao m ca,yi p]:=(z4.set 0 (.slice ao m ca)).set 1 (yi p);have o7:=(o14.setE z4 (by decide) 0 (.slice ao m ca)).setE (z4.set 0 (.slice ao m ca)) (by decide) 1 (yi p);have b7:=(b04.setCell (p:=⟨w.heap.size+1+1,0,none⟩) (by show w.heap.size≤w.heap.size+1+1;omega) (.slice ao m ca)).setCell (p:=⟨w.heap.size+1+1,1,none⟩) (by show w.heap.size≤w.heap.size+1+1;omega) (yi p)
  obtain⟨x0,x1⟩:=z7.cs2;refine bodyPost_ret (v:= .agg #[.slice ao m ca,yi p]) (by simp[results,results120,go_sem,x0,x1]) rfl ?_;exact⟨_,rfl,HDS.out▸o7,b7⟩
end Go.Proofs.YtlgkfdcmokchgaaGreatDoor

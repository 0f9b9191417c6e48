/-
  Texts laid together: Ce6, Ce7, Ce10, Ce11.
-/
import Derived.Test.YtbdokgamhinajaaGreatDoorSj18
import Derived.Test.YtbdokgamhinajaaGreatDoorSj25
set_option maxRecDepth 100000
set_option maxHeartbeats 6400000
namespace Go.Proofs.YtbdokgamhinajaaGreatDoor
open _root_.Go.Proofs.Tryz
open Go.RowKit
theorem KE (D L G fam:Int)(gr:Bool)(sz ex:Nat)(F:Nat)(s x1 x2 x3:Bool)(ao:Option Addr)(dn dc:Nat)(pw:Int)(e f:Nat)(w:World)(hE:IntKind.i64.wrap (pw-L)=(e:Int))(_he:e<65536)
  (HWd: ∀w1,yB w w1→yC 199 #[.slice ao dn dc] w1 fun z w'=>z= .returned (.int .u64 (f:Int))∧w1=w'):
  yC 178 #[ylV 16 D L G gr (sz:Int) (ex:Int) fam F,ypV s (.slice ao dn dc) pw x1 x2 x3] w (yR w (yfV s (e:Int) (f:Int))):=by
 have hsf:=cD;have HWd':Hid _:=HWd;clear HWd;have bp:=af (w.alloc (.cells (ylA 16 D L G gr (sz:Int) (ex:Int) fam F) 170)) (.cells (ypA s (.slice ao dn dc) pw x1 x2 x3) 95);have bz:=af ((w.alloc (.cells (ylA 16 D L G gr (sz:Int) (ex:Int) fam F) 170)).alloc (.cells (ypA s (.slice ao dn dc) pw x1 x2 x3) 95)) (.cells (yfA false 0 0) 208);have ql0:=((ah w (ylL 16 D L G gr (sz:Int) (ex:Int) fam F) 170).l bp).l bz;have qp0:=(ah (w.alloc (.cells (ylA 16 D L G gr (sz:Int) (ex:Int) fam F) 170)) (ypL s (.slice ao dn dc) pw x1 x2 x3) 95).l bz;have qz0:=ah ((w.alloc (.cells (ylA 16 D L G gr (sz:Int) (ex:Int) fam F) 170)).alloc (.cells (ypA s (.slice ao dn dc) pw x1 x2 x3) 95)) (yfL false 0 0) 208;have b0:=aa (aa (af w (.cells (ylA 16 D L G gr (sz:Int) (ex:Int) fam F) 170)) bp) bz;rw[World.size_alloc] at qp0;rw[World.size_alloc,World.size_alloc] at qz0;have ba:=af (((w.alloc (.cells (ylA 16 D L G gr (sz:Int) (ex:Int) fam F) 170)).alloc (.cells (ypA s (.slice ao dn dc) pw x1 x2 x3) 95)).alloc (.cells (yfA false 0 0) 208)) (.cells (yfA false 0 0) 208);have b0d:=b0.drew;have b0a:=(aa b0 ba).drew;have ql0a:=(ql0.l ba).drew;have qp0a:=(qp0.l ba).drew;have ql0d:=ql0.drew;have qp0d:=qp0.drew;obtain⟨cx0,cx1,cx2,cx3,cx4,cx5,cx6,cx7,cx8⟩:=ql0d.cs9;obtain⟨cu0,cu1,cu2,cu3,cu4,cu5⟩:=qp0d.cs6;obtain⟨cxa0,cxa1,cxa2,cxa3,cxa4,cxa5,cxa6,cxa7,cxa8⟩:=ql0a.cs9;obtain⟨cua0,cua1,cua2,cua3,cua4,cua5⟩:=qp0a.cs6;have hn0:w.heap.size+1+1+1≠w.heap.size:=by omega
 have hn1:w.heap.size+1+1+1≠w.heap.size+1:=by omega
 go_enter func178,ntmps178
 go_wp2_with fail
 go_region_held3 (fun wq=>(wq.cell? ⟨w.heap.size,0,none⟩=some (yi 16)∧wq.cell? ⟨w.heap.size,1,none⟩=some (yi D)∧wq.cell? ⟨w.heap.size,2,none⟩=some (yi L)∧wq.cell? ⟨w.heap.size,3,none⟩=some (yi G)∧wq.cell? ⟨w.heap.size,4,none⟩=some (.bool gr)∧wq.cell? ⟨w.heap.size,5,none⟩=some (yi (sz:Int))∧wq.cell? ⟨w.heap.size,6,none⟩=some (yi (ex:Int))∧wq.cell? ⟨w.heap.size,7,none⟩=some (yi fam)∧wq.cell? ⟨w.heap.size,8,none⟩=some (.func (.func F) #[] #[]))∧(wq.cell? ⟨w.heap.size+1,0,none⟩=some (.bool s)∧wq.cell? ⟨w.heap.size+1,1,none⟩=some (.slice ao dn dc)∧wq.cell? ⟨w.heap.size+1,2,none⟩=some (yi pw)∧wq.cell? ⟨w.heap.size+1,3,none⟩=some (.bool x1)∧wq.cell? ⟨w.heap.size+1,4,none⟩=some (.bool x2)∧wq.cell? ⟨w.heap.size+1,5,none⟩=some (.bool x3))) (go_keep) (first
  | (go_at_call 199;(first| (with_reducible (refine(HWd'.out _ b0d).mono ?_))| (with_reducible (refine(HWd'.out _ b0a).mono ?_)));rintro z wv ⟨rfl,rfl⟩))
 all_goals (
  have ba4:=af (((w.alloc (.cells (ylA 16 D L G gr (sz:Int) (ex:Int) fam F) 170)).alloc (.cells (ypA s (.slice ao dn dc) pw x1 x2 x3) 95)).alloc (.cells (yfA false 0 0) 208)) (.cells (yfA s (e:Int) (f:Int)) 208);have ql4:=(ql0.l ba4).drew;have qz4:=(qz0.l ba4).drew;have qf4:=(ah (((w.alloc (.cells (ylA 16 D L G gr (sz:Int) (ex:Int) fam F) 170)).alloc (.cells (ypA s (.slice ao dn dc) pw x1 x2 x3) 95)).alloc (.cells (yfA false 0 0) 208)) (yfL s (e:Int) (f:Int)) 208).drew;rw[World.size_alloc,World.size_alloc,World.size_alloc] at qf4;have b4:=(aa b0 ba4).drew;clear ba4 ba b0d b0a ql0a qp0a ql0d qp0d ql0 qp0 qz0 b0 cx0 cxa0 cx1 cxa1 cx2 cxa2 cx3 cxa3 cx4 cxa4 cx5 cxa5 cx6 cxa6 cx7 cxa7 cx8 cxa8 cu0 cua0 cu1 cua1 cu2 cua2 cu3 cua3 cu4 cua4 cu5 cua5;generalize((((w.alloc (.cells (ylA 16 D L G gr (sz:Int) (ex:Int) fam F) 170)).alloc (.cells (ypA s (.slice ao dn dc) pw x1 x2 x3) 95)).alloc (.cells (yfA false 0 0) 208)).alloc (.cells (yfA s (e:Int) (f:Int)) 208)).drew=w4 at*;have c0:=ql4.c 0 rfl
  go_wp2_with fail
  go_quiet (fail)
  have bd:yB w4 (w4.drewN nq):=aL (Below.refl _ _) _;have qz5:=qz4.l bd;have qf5:=qf4.l bd;have b5:=aa b4 bd;clear c0 ql4 qz4 qf4 b4 bd;generalize w4.drewN nq=w5 at*;have bu:=((ag w5 (w.heap.size+1+1) 0 (.bool s)).trans (ag _ (w.heap.size+1+1) 1 (yi (e:Int)))).trans (ag _ (w.heap.size+1+1) 2 (.int .u64 (f:Int)));have cR:au (((w5.setCell ⟨w.heap.size+1+1,0,none⟩ (.bool s)).setCell ⟨w.heap.size+1+1,1,none⟩ (yi (e:Int))).setCell ⟨w.heap.size+1+1,2,none⟩ (.int .u64 (f:Int))) (w.heap.size+1+1) 208 (yfL s (e:Int) (f:Int)):=(((qz5.set 0 (.bool s)).set 1 (yi (e:Int))).set 2 (.int .u64 (f:Int)));have bR:=bu.below b5 (by omega);have hl:=run_loadVar_mid (P:=Tryz.prog) _ (w.heap.size+1+1) 0 208 (yfL s (e:Int) (f:Int)) _ cR.range underlying208 rfl (by kernel_rfl);have HH:Hid (_∧_):=⟨hl,bR⟩;obtain⟨yz0,yz1,yz2⟩:=qz5.cs3;have jz0:=qz5.f 0;have jz1:=qz5.f 1;have jz2:=qz5.f 2;obtain⟨yf0,yf1,yf2⟩:=qf5.cs3;clear hl bR cR bu
  go_wp2
  obtain⟨hl,bR⟩:=HH.out;exact bodyPost_ret (br results178 rfl hl) rfl ⟨rfl,bR⟩
 )
theorem KF (D L G fam:Int)(gr:Bool)(sz ex:Nat)(F:Nat)(s x1 x2 x3:Bool)(ao:Option Addr)(dn dc:Nat)(pw:Int)(e f:Nat)(w:World)(hE:IntKind.i64.wrap (pw-L)=(e:Int))(he:e<65536)
  (HWd: ∀w1,yB w w1→yC 199 #[.slice ao dn dc] w1 fun z w'=>z= .returned (.int .u64 (f:Int))∧w1=w')
  (ld:Nat) (ab:Int) (hab:bits .and .u64 (f:Int) (ld:Int)=ab) (habz:ab≠0)
  (HL:yJ 181 #[ylV 2 D L G gr (sz:Int) (ex:Int) fam F] (.int .u64 (ld:Int))):
  yC 178 #[ylV 2 D L G gr (sz:Int) (ex:Int) fam F,ypV s (.slice ao dn dc) pw x1 x2 x3] w (yR w (yfV s ((e:Int)+1) (f:Int))):=by
 have hsf:=cD;have HWd':Hid _:=HWd;clear HWd;have HL':Hid _:=HL;clear HL;have hz1:(ab==0)=false:=by simpa using habz
 have hz2:(ab != 0)=true:=by simpa using habz
 clear habz;have bp:=af (w.alloc (.cells (ylA 2 D L G gr (sz:Int) (ex:Int) fam F) 170)) (.cells (ypA s (.slice ao dn dc) pw x1 x2 x3) 95);have bz:=af ((w.alloc (.cells (ylA 2 D L G gr (sz:Int) (ex:Int) fam F) 170)).alloc (.cells (ypA s (.slice ao dn dc) pw x1 x2 x3) 95)) (.cells (yfA false 0 0) 208);have ql0:=((ah w (ylL 2 D L G gr (sz:Int) (ex:Int) fam F) 170).l bp).l bz;have qp0:=(ah (w.alloc (.cells (ylA 2 D L G gr (sz:Int) (ex:Int) fam F) 170)) (ypL s (.slice ao dn dc) pw x1 x2 x3) 95).l bz;have qz0:=ah ((w.alloc (.cells (ylA 2 D L G gr (sz:Int) (ex:Int) fam F) 170)).alloc (.cells (ypA s (.slice ao dn dc) pw x1 x2 x3) 95)) (yfL false 0 0) 208;have b0:=aa (aa (af w (.cells (ylA 2 D L G gr (sz:Int) (ex:Int) fam F) 170)) bp) bz;rw[World.size_alloc] at qp0;rw[World.size_alloc,World.size_alloc] at qz0;have ba:=af (((w.alloc (.cells (ylA 2 D L G gr (sz:Int) (ex:Int) fam F) 170)).alloc (.cells (ypA s (.slice ao dn dc) pw x1 x2 x3) 95)).alloc (.cells (yfA false 0 0) 208)) (.cells (yfA false 0 0) 208);have b0d:=b0.drew;have b0a:=(aa b0 ba).drew;have ql0a:=(ql0.l ba).drew;have qp0a:=(qp0.l ba).drew;have ql0d:=ql0.drew;have qp0d:=qp0.drew;obtain⟨cx0,cx1,cx2,cx3,cx4,cx5,cx6,cx7,cx8⟩:=ql0d.cs9;obtain⟨cu0,cu1,cu2,cu3,cu4,cu5⟩:=qp0d.cs6;obtain⟨cxa0,cxa1,cxa2,cxa3,cxa4,cxa5,cxa6,cxa7,cxa8⟩:=ql0a.cs9;obtain⟨cua0,cua1,cua2,cua3,cua4,cua5⟩:=qp0a.cs6;have hn0:w.heap.size+1+1+1≠w.heap.size:=by omega
 have hn1:w.heap.size+1+1+1≠w.heap.size+1:=by omega
 go_enter func178,ntmps178
 go_wp2_with fail
 go_region_held3 (fun wq=>(wq.cell? ⟨w.heap.size,0,none⟩=some (yi 2)∧wq.cell? ⟨w.heap.size,1,none⟩=some (yi D)∧wq.cell? ⟨w.heap.size,2,none⟩=some (yi L)∧wq.cell? ⟨w.heap.size,3,none⟩=some (yi G)∧wq.cell? ⟨w.heap.size,4,none⟩=some (.bool gr)∧wq.cell? ⟨w.heap.size,5,none⟩=some (yi (sz:Int))∧wq.cell? ⟨w.heap.size,6,none⟩=some (yi (ex:Int))∧wq.cell? ⟨w.heap.size,7,none⟩=some (yi fam)∧wq.cell? ⟨w.heap.size,8,none⟩=some (.func (.func F) #[] #[]))∧(wq.cell? ⟨w.heap.size+1,0,none⟩=some (.bool s)∧wq.cell? ⟨w.heap.size+1,1,none⟩=some (.slice ao dn dc)∧wq.cell? ⟨w.heap.size+1,2,none⟩=some (yi pw)∧wq.cell? ⟨w.heap.size+1,3,none⟩=some (.bool x1)∧wq.cell? ⟨w.heap.size+1,4,none⟩=some (.bool x2)∧wq.cell? ⟨w.heap.size+1,5,none⟩=some (.bool x3))) (go_keep) (first
  | (go_at_call 199;(first| (with_reducible (refine(HWd'.out _ b0d).mono ?_))| (with_reducible (refine(HWd'.out _ b0a).mono ?_)));rintro z wv ⟨rfl,rfl⟩))
 all_goals (
  have ba4:=af (((w.alloc (.cells (ylA 2 D L G gr (sz:Int) (ex:Int) fam F) 170)).alloc (.cells (ypA s (.slice ao dn dc) pw x1 x2 x3) 95)).alloc (.cells (yfA false 0 0) 208)) (.cells (yfA s (e:Int) (f:Int)) 208);have ql4:=(ql0.l ba4).drew;have qz4:=(qz0.l ba4).drew;have qf4:=(ah (((w.alloc (.cells (ylA 2 D L G gr (sz:Int) (ex:Int) fam F) 170)).alloc (.cells (ypA s (.slice ao dn dc) pw x1 x2 x3) 95)).alloc (.cells (yfA false 0 0) 208)) (yfL s (e:Int) (f:Int)) 208).drew;rw[World.size_alloc,World.size_alloc,World.size_alloc] at qf4;have b4:=(aa b0 ba4).drew;clear ba4 ba b0d b0a ql0a qp0a ql0d qp0d ql0 qp0 qz0 b0 cx0 cxa0 cx1 cxa1 cx2 cxa2 cx3 cxa3 cx4 cxa4 cx5 cxa5 cx6 cxa6 cx7 cxa7 cx8 cxa8 cu0 cua0 cu1 cua1 cu2 cua2 cu3 cua3 cu4 cua4 cu5 cua5;generalize((((w.alloc (.cells (ylA 2 D L G gr (sz:Int) (ex:Int) fam F) 170)).alloc (.cells (ypA s (.slice ao dn dc) pw x1 x2 x3) 95)).alloc (.cells (yfA false 0 0) 208)).alloc (.cells (yfA s (e:Int) (f:Int)) 208)).drew=w4 at*;have ql4d:=ql4.drew;have qf4d:=qf4.drew;have qz4d:=qz4.drew;have b4d:=b4.drew;obtain⟨cl0,cl1,cl2,cl3,cl4,cl5,cl6,cl7,cl8⟩:=ql4d.cs9;obtain⟨cf0,cf1,cf2⟩:=qf4d.cs3
  go_wp2_with fail
  go_region_held3 (fun wq=>(wq.cell? ⟨w.heap.size,0,none⟩=some (yi 2)∧wq.cell? ⟨w.heap.size,1,none⟩=some (yi D)∧wq.cell? ⟨w.heap.size,2,none⟩=some (yi L)∧wq.cell? ⟨w.heap.size,3,none⟩=some (yi G)∧wq.cell? ⟨w.heap.size,4,none⟩=some (.bool gr)∧wq.cell? ⟨w.heap.size,5,none⟩=some (yi (sz:Int))∧wq.cell? ⟨w.heap.size,6,none⟩=some (yi (ex:Int))∧wq.cell? ⟨w.heap.size,7,none⟩=some (yi fam)∧wq.cell? ⟨w.heap.size,8,none⟩=some (.func (.func F) #[] #[]))∧(wq.cell? ⟨w.heap.size+1+1+1,0,none⟩=some (.bool s)∧wq.cell? ⟨w.heap.size+1+1+1,1,none⟩=some (yi (e:Int))∧wq.cell? ⟨w.heap.size+1+1+1,2,none⟩=some (.int .u64 (f:Int)))) (go_keep) (first
   | (go_at_call 181;refine(HL'.out _).mono ?_;rintro z w5 ⟨rfl,b5'⟩;have ql5:=ql4d.l b5';have qf5:=qf4d.l b5';have qz5:=qz4d.l b5';have b5:=aa b4d b5';obtain⟨dl0,dl1,dl2,dl3,dl4,dl5,dl6,dl7,dl8⟩:=ql5.cs9;obtain⟨df0,df1,df2⟩:=qf5.cs3))
  clear ql4 ql4d qf4 qf4d qz4 qz4d b4 b4d b5' cl0 cl1 cl2 cl3 cl4 cl5 cl6 cl7 cl8 cf0 cf1 cf2;have jf1:=qf5.f 1;have hew:IntKind.i64.wrap ((e:Int)+1)=(e:Int)+1:=IntWalk.i64_in _ ⟨by omega,by omega⟩
  go_upto_region 4 with fail
  have hfz:w.heap.size+1+1+1≠w.heap.size+1+1:=by omega
  have bu6:=ag w5 (w.heap.size+1+1+1) 1 (yi ((e:Int)+1));have qf6:au (w5.setCell ⟨w.heap.size+1+1+1,1,none⟩ (yi ((e:Int)+1))) (w.heap.size+1+1+1) 208 (yfL s ((e:Int)+1) (f:Int)):=qf5.set 1 (yi ((e:Int)+1));have qz6:=qz5.off hfz 1 (yi ((e:Int)+1));have b6:=bu6.below b5 (by omega);clear bu6 qf5 qz5 b5 ql5 df0 df1 df2 jf1;generalize(w5.setCell ⟨w.heap.size+1+1+1,1,none⟩ (yi ((e:Int)+1)))=w6 at*;have bu:=((ag w6 (w.heap.size+1+1) 0 (.bool s)).trans (ag _ (w.heap.size+1+1) 1 (yi ((e:Int)+1)))).trans (ag _ (w.heap.size+1+1) 2 (.int .u64 (f:Int)));have cR:au (((w6.setCell ⟨w.heap.size+1+1,0,none⟩ (.bool s)).setCell ⟨w.heap.size+1+1,1,none⟩ (yi ((e:Int)+1))).setCell ⟨w.heap.size+1+1,2,none⟩ (.int .u64 (f:Int))) (w.heap.size+1+1) 208 (yfL s ((e:Int)+1) (f:Int)):=(((qz6.set 0 (.bool s)).set 1 (yi ((e:Int)+1))).set 2 (.int .u64 (f:Int)));have bR:=bu.below b6 (by omega);have hl:=run_loadVar_mid (P:=Tryz.prog) _ (w.heap.size+1+1) 0 208 (yfL s ((e:Int)+1) (f:Int)) _ cR.range underlying208 rfl (by kernel_rfl);have HH:Hid (_∧_):=⟨hl,bR⟩;obtain⟨yz0,yz1,yz2⟩:=qz6.cs3;have jz0:=qz6.f 0;have jz1:=qz6.f 1;have jz2:=qz6.f 2;obtain⟨yf0,yf1,yf2⟩:=qf6.cs3;clear hl bR cR bu
  go_wp2
  obtain⟨hl,bR⟩:=HH.out;exact bodyPost_ret (br results178 rfl hl) rfl ⟨rfl,bR⟩
 )
theorem KG (D L G fam:Int)(gr:Bool)(sz ex:Nat)(F:Nat)(s x1 x2 x3:Bool)(ao:Option Addr)(dn dc:Nat)(pw:Int)(e f:Nat)(w:World)(hE:IntKind.i64.wrap (pw-L)=(e:Int))(_he:e<65536)
  (HWd: ∀w1,yB w w1→yC 199 #[.slice ao dn dc] w1 fun z w'=>z= .returned (.int .u64 (f:Int))∧w1=w')
  (ld:Nat) (ab:Int) (hab:bits .and .u64 (f:Int) (ld:Int)=ab) (habz:ab=0)
  (HL:yJ 181 #[ylV 2 D L G gr (sz:Int) (ex:Int) fam F] (.int .u64 (ld:Int))):
  yC 178 #[ylV 2 D L G gr (sz:Int) (ex:Int) fam F,ypV s (.slice ao dn dc) pw x1 x2 x3] w (yR w (yfV s (e:Int) (f:Int))):=by
 have hsf:=cD;have HWd':Hid _:=HWd;clear HWd;have HL':Hid _:=HL;clear HL;subst habz;have bp:=af (w.alloc (.cells (ylA 2 D L G gr (sz:Int) (ex:Int) fam F) 170)) (.cells (ypA s (.slice ao dn dc) pw x1 x2 x3) 95);have bz:=af ((w.alloc (.cells (ylA 2 D L G gr (sz:Int) (ex:Int) fam F) 170)).alloc (.cells (ypA s (.slice ao dn dc) pw x1 x2 x3) 95)) (.cells (yfA false 0 0) 208);have ql0:=((ah w (ylL 2 D L G gr (sz:Int) (ex:Int) fam F) 170).l bp).l bz;have qp0:=(ah (w.alloc (.cells (ylA 2 D L G gr (sz:Int) (ex:Int) fam F) 170)) (ypL s (.slice ao dn dc) pw x1 x2 x3) 95).l bz;have qz0:=ah ((w.alloc (.cells (ylA 2 D L G gr (sz:Int) (ex:Int) fam F) 170)).alloc (.cells (ypA s (.slice ao dn dc) pw x1 x2 x3) 95)) (yfL false 0 0) 208;have b0:=aa (aa (af w (.cells (ylA 2 D L G gr (sz:Int) (ex:Int) fam F) 170)) bp) bz;rw[World.size_alloc] at qp0;rw[World.size_alloc,World.size_alloc] at qz0;have ba:=af (((w.alloc (.cells (ylA 2 D L G gr (sz:Int) (ex:Int) fam F) 170)).alloc (.cells (ypA s (.slice ao dn dc) pw x1 x2 x3) 95)).alloc (.cells (yfA false 0 0) 208)) (.cells (yfA false 0 0) 208);have b0d:=b0.drew;have b0a:=(aa b0 ba).drew;have ql0a:=(ql0.l ba).drew;have qp0a:=(qp0.l ba).drew;have ql0d:=ql0.drew;have qp0d:=qp0.drew;obtain⟨cx0,cx1,cx2,cx3,cx4,cx5,cx6,cx7,cx8⟩:=ql0d.cs9;obtain⟨cu0,cu1,cu2,cu3,cu4,cu5⟩:=qp0d.cs6;obtain⟨cxa0,cxa1,cxa2,cxa3,cxa4,cxa5,cxa6,cxa7,cxa8⟩:=ql0a.cs9;obtain⟨cua0,cua1,cua2,cua3,cua4,cua5⟩:=qp0a.cs6;have hn0:w.heap.size+1+1+1≠w.heap.size:=by omega
 have hn1:w.heap.size+1+1+1≠w.heap.size+1:=by omega
 go_enter func178,ntmps178
 go_wp2_with fail
 go_region_held3 (fun wq=>(wq.cell? ⟨w.heap.size,0,none⟩=some (yi 2)∧wq.cell? ⟨w.heap.size,1,none⟩=some (yi D)∧wq.cell? ⟨w.heap.size,2,none⟩=some (yi L)∧wq.cell? ⟨w.heap.size,3,none⟩=some (yi G)∧wq.cell? ⟨w.heap.size,4,none⟩=some (.bool gr)∧wq.cell? ⟨w.heap.size,5,none⟩=some (yi (sz:Int))∧wq.cell? ⟨w.heap.size,6,none⟩=some (yi (ex:Int))∧wq.cell? ⟨w.heap.size,7,none⟩=some (yi fam)∧wq.cell? ⟨w.heap.size,8,none⟩=some (.func (.func F) #[] #[]))∧(wq.cell? ⟨w.heap.size+1,0,none⟩=some (.bool s)∧wq.cell? ⟨w.heap.size+1,1,none⟩=some (.slice ao dn dc)∧wq.cell? ⟨w.heap.size+1,2,none⟩=some (yi pw)∧wq.cell? ⟨w.heap.size+1,3,none⟩=some (.bool x1)∧wq.cell? ⟨w.heap.size+1,4,none⟩=some (.bool x2)∧wq.cell? ⟨w.heap.size+1,5,none⟩=some (.bool x3))) (go_keep) (first
  | (go_at_call 199;(first| (with_reducible (refine(HWd'.out _ b0d).mono ?_))| (with_reducible (refine(HWd'.out _ b0a).mono ?_)));rintro z wv ⟨rfl,rfl⟩))
 all_goals (
  have ba4:=af (((w.alloc (.cells (ylA 2 D L G gr (sz:Int) (ex:Int) fam F) 170)).alloc (.cells (ypA s (.slice ao dn dc) pw x1 x2 x3) 95)).alloc (.cells (yfA false 0 0) 208)) (.cells (yfA s (e:Int) (f:Int)) 208);have ql4:=(ql0.l ba4).drew;have qz4:=(qz0.l ba4).drew;have qf4:=(ah (((w.alloc (.cells (ylA 2 D L G gr (sz:Int) (ex:Int) fam F) 170)).alloc (.cells (ypA s (.slice ao dn dc) pw x1 x2 x3) 95)).alloc (.cells (yfA false 0 0) 208)) (yfL s (e:Int) (f:Int)) 208).drew;rw[World.size_alloc,World.size_alloc,World.size_alloc] at qf4;have b4:=(aa b0 ba4).drew;clear ba4 ba b0d b0a ql0a qp0a ql0d qp0d ql0 qp0 qz0 b0 cx0 cxa0 cx1 cxa1 cx2 cxa2 cx3 cxa3 cx4 cxa4 cx5 cxa5 cx6 cxa6 cx7 cxa7 cx8 cxa8 cu0 cua0 cu1 cua1 cu2 cua2 cu3 cua3 cu4 cua4 cu5 cua5;generalize((((w.alloc (.cells (ylA 2 D L G gr (sz:Int) (ex:Int) fam F) 170)).alloc (.cells (ypA s (.slice ao dn dc) pw x1 x2 x3) 95)).alloc (.cells (yfA false 0 0) 208)).alloc (.cells (yfA s (e:Int) (f:Int)) 208)).drew=w4 at*;have ql4d:=ql4.drew;have qf4d:=qf4.drew;have qz4d:=qz4.drew;have b4d:=b4.drew;obtain⟨cl0,cl1,cl2,cl3,cl4,cl5,cl6,cl7,cl8⟩:=ql4d.cs9;obtain⟨cf0,cf1,cf2⟩:=qf4d.cs3
  go_wp2_with fail
  go_region_held3 (fun wq=>(wq.cell? ⟨w.heap.size,0,none⟩=some (yi 2)∧wq.cell? ⟨w.heap.size,1,none⟩=some (yi D)∧wq.cell? ⟨w.heap.size,2,none⟩=some (yi L)∧wq.cell? ⟨w.heap.size,3,none⟩=some (yi G)∧wq.cell? ⟨w.heap.size,4,none⟩=some (.bool gr)∧wq.cell? ⟨w.heap.size,5,none⟩=some (yi (sz:Int))∧wq.cell? ⟨w.heap.size,6,none⟩=some (yi (ex:Int))∧wq.cell? ⟨w.heap.size,7,none⟩=some (yi fam)∧wq.cell? ⟨w.heap.size,8,none⟩=some (.func (.func F) #[] #[]))∧(wq.cell? ⟨w.heap.size+1+1+1,0,none⟩=some (.bool s)∧wq.cell? ⟨w.heap.size+1+1+1,1,none⟩=some (yi (e:Int))∧wq.cell? ⟨w.heap.size+1+1+1,2,none⟩=some (.int .u64 (f:Int)))) (go_keep) (first
   | (go_at_call 181;refine(HL'.out _).mono ?_;rintro z w5 ⟨rfl,b5'⟩;have ql5:=ql4d.l b5';have qf5:=qf4d.l b5';have qz5:=qz4d.l b5';have b5:=aa b4d b5';obtain⟨dl0,dl1,dl2,dl3,dl4,dl5,dl6,dl7,dl8⟩:=ql5.cs9;obtain⟨df0,df1,df2⟩:=qf5.cs3))
  clear ql4 ql4d qf4 qf4d qz4 qz4d b4 b4d b5' cl0 cl1 cl2 cl3 cl4 cl5 cl6 cl7 cl8 cf0 cf1 cf2;have bu:=((ag w5 (w.heap.size+1+1) 0 (.bool s)).trans (ag _ (w.heap.size+1+1) 1 (yi (e:Int)))).trans (ag _ (w.heap.size+1+1) 2 (.int .u64 (f:Int)));have cR:au (((w5.setCell ⟨w.heap.size+1+1,0,none⟩ (.bool s)).setCell ⟨w.heap.size+1+1,1,none⟩ (yi (e:Int))).setCell ⟨w.heap.size+1+1,2,none⟩ (.int .u64 (f:Int))) (w.heap.size+1+1) 208 (yfL s (e:Int) (f:Int)):=(((qz5.set 0 (.bool s)).set 1 (yi (e:Int))).set 2 (.int .u64 (f:Int)));have bR:=bu.below b5 (by omega);have hl:=run_loadVar_mid (P:=Tryz.prog) _ (w.heap.size+1+1) 0 208 (yfL s (e:Int) (f:Int)) _ cR.range underlying208 rfl (by kernel_rfl);have HH:Hid (_∧_):=⟨hl,bR⟩;obtain⟨yz0,yz1,yz2⟩:=qz5.cs3;have jz0:=qz5.f 0;have jz1:=qz5.f 1;have jz2:=qz5.f 2;obtain⟨yf0,yf1,yf2⟩:=qf5.cs3;clear hl bR cR bu
  go_wp2
  obtain⟨hl,bR⟩:=HH.out;exact bodyPost_ret (br results178 rfl hl) rfl ⟨rfl,bR⟩
 )
theorem CC (R D L G fam:Int)(gr:Bool)(sz ex:Nat)(F:Nat)(s:Bool)(ao:Option Addr)(dn dc:Nat)(e:Int)(w:World)(zs:List Nat)(pn:Nat)(ps k1 k2 k3:Bool)(pw er:Int)
  (HR: ∀q w1,yB w w1→w1.cell? ⟨q,0,none⟩=some (.int .u32 1)→yC 44 #[yrV s (.slice ao dn dc) (.slice (some ⟨q,0,none⟩) 1 1) e,ygV R D L G gr,yi 3] w1 fun z w'=> ∃po pc,z= .returned (.tuple #[ypV ps (.slice po pn pc) pw k1 k2 k3,yi er])∧Rd w' .u32 (.slice po pn pc) zs∧yB w1 w')
  (fs:Bool) (fe ff:Nat) (HF: ∀po pc w1,yB w w1→Rd w1 .u32 (.slice po pn pc) zs→yC 178 #[ylV R D L G gr (sz:Int) (ex:Int) fam F,ypV ps (.slice po pn pc) pw k1 k2 k3] w1 (yR w1 (yfV fs (fe:Int) (ff:Int))))
  (st:ByteArray) (HW:yJ 160 #[ylV R D L G gr (sz:Int) (ex:Int) fam F,yfV fs (fe:Int) (ff:Int)] (.string st)) (he:er=0) (hp:0<pn):
  yC 157 #[ylV R D L G gr (sz:Int) (ex:Int) fam F,ydV s (.slice ao dn dc) e] w (yR w (.tuple #[.string st,yi 0])):=by
 subst he;have HF':Hid _:=HF;clear HF;have HW':Hid _:=HW;clear HW;have hpb:((pn:Int)==0)=false:=by simp;omega
 have hsf:=cD;have HR':Hid _:=HR;clear HR;have bd:=af (w.alloc (.cells (ylA R D L G gr (sz:Int) (ex:Int) fam F) 170)) (.cells (ydA s (.slice ao dn dc) e) 72);have bo:=af ((w.alloc (.cells (ylA R D L G gr (sz:Int) (ex:Int) fam F) 170)).alloc (.cells (ydA s (.slice ao dn dc) e) 72)) (.cells #[.int .u32 1] 148);have l0:=((ah w (ylL R D L G gr (sz:Int) (ex:Int) fam F) 170).l bd).l bo;have o0:=ah ((w.alloc (.cells (ylA R D L G gr (sz:Int) (ex:Int) fam F) 170)).alloc (.cells (ydA s (.slice ao dn dc) e) 72)) [.int .u32 1] 148;have b0:=aa (aa (af w (.cells (ylA R D L G gr (sz:Int) (ex:Int) fam F) 170)) bd) bo;rw[World.size_alloc,World.size_alloc] at o0;clear bd bo
 go_enter func157,ntmps157
 go_wp2_with fail
 refine(HR'.out _ _ b0 (o0.c 0 rfl)).mono ?_;rintro z w1 ⟨po,pc,rfl,rp,b1⟩;have bq:=af w1 (.cells (ypA ps (.slice po pn pc) pw k1 k2 k3) 95);have l1:=(l0.l b1).l bq;have q1:=ah w1 (ypL ps (.slice po pn pc) pw k1 k2 k3) 95;have rp1:=rp.l bq;have b01:=aa (aa b0 b1) bq;clear l0 o0 b0 b1 bq rp HR';obtain⟨x0,x1,x2,x3,x4,x5,x6,x7,x8⟩:=l1.cs9;obtain⟨u0,u1,u2,u3,u4,u5⟩:=q1.cs6;have l1d:=l1.drew;have q1d:=q1.drew;have rp1d:=rp1.l (Below.refl _ _).drew;have b01d:=b01.drew;obtain⟨xd0,xd1,xd2,xd3,xd4,xd5,xd6,xd7,xd8⟩:=l1d.cs9;obtain⟨ud0,ud1,ud2,ud3,ud4,ud5⟩:=q1d.cs6
 go_wp2_with fail
 go_region_held3 (fun wq=>(wq.cell? ⟨w.heap.size,0,none⟩=some (yi R)∧wq.cell? ⟨w.heap.size,1,none⟩=some (yi D)∧wq.cell? ⟨w.heap.size,2,none⟩=some (yi L)∧wq.cell? ⟨w.heap.size,3,none⟩=some (yi G)∧wq.cell? ⟨w.heap.size,4,none⟩=some (.bool gr)∧wq.cell? ⟨w.heap.size,5,none⟩=some (yi (sz:Int))∧wq.cell? ⟨w.heap.size,6,none⟩=some (yi (ex:Int))∧wq.cell? ⟨w.heap.size,7,none⟩=some (yi fam)∧wq.cell? ⟨w.heap.size,8,none⟩=some (.func (.func F) #[] #[]))∧(wq.cell? ⟨w1.heap.size,0,none⟩=some (.bool ps)∧wq.cell? ⟨w1.heap.size,1,none⟩=some (.slice po pn pc)∧wq.cell? ⟨w1.heap.size,2,none⟩=some (yi pw)∧wq.cell? ⟨w1.heap.size,3,none⟩=some (.bool k1)∧wq.cell? ⟨w1.heap.size,4,none⟩=some (.bool k2)∧wq.cell? ⟨w1.heap.size,5,none⟩=some (.bool k3))) (go_keep) (first
  | (go_at_call 178;refine(HF'.out _ _ _ b01d rp1d).mono ?_;rintro z w2 ⟨rfl,b2⟩;have l2:=l1d.l b2;have q2:=q1d.l b2;have b02:=aa b01d b2;obtain⟨y0,y1,y2,y3,y4,y5,y6,y7,y8⟩:=l2.cs9;obtain⟨v0,v1,v2,v3,v4,v5⟩:=q2.cs6)
  | (go_at_call 160;refine(HW'.out _).mono ?_;rintro z w3 ⟨rfl,b3⟩;have l3:=l2.l b3;have q3:=q2.l b3;have b03:=aa b02 b3;obtain⟨t0,t1,t2,t3,t4,t5,t6,t7,t8⟩:=l3.cs9;obtain⟨g0,g1,g2,g3,g4,g5⟩:=q3.cs6))
 all_goals go_wp2
 all_goals go_ret2
 all_goals exact⟨rfl,b03⟩
theorem xD {w:World}{q:Nat}(h:w.cell? ⟨q,0,none⟩=some (.int .u32 1)):Rd w .u32 (.slice (some ⟨q,0,none⟩) 1 1) [1]:=
 ⟨_,1,rfl,Nat.le_refl _,by unfold maxLen;omega,fun _=>⟨q,0,rfl,fun i hi=>by
  obtain rfl:i=0:=by simpa using hi
  exact h⟩⟩
theorem fI (a:ak):(bare a).n=0↔a.n=0:=by
 by_cases h:a.n=0
 ·unfold bare
  rw[if_pos h];exact⟨fun _=>h,fun _=>rfl⟩
 ·unfold bare
  rw[if_neg h];obtain⟨m,hm⟩:=fO h;have:=lI hm;exact⟨fun h2=>by simp only at h2;omega,fun h2=>absurd h2 h⟩
theorem Re {k:Nat}(hk:1≤k∧k≤8):gW k<18446744073709551616:=by
 rcases bO hk with rfl|rfl|rfl|rfl|rfl|rfl|rfl|rfl<;>decide
def heE (R L:Int)(ld:Nat)(t:fz):Nat:=(t.p-L).toNat+if R=2∧t.d&&& ld≠0 then 1 else 0
theorem ZC (R D L G fam:Int)(gr:Bool)(sz ex:Nat)(F ld:Nat)(s:Bool)(ao:Option Addr)(ca:Nat)(xs:List Nat)(E:Int)(w:World)(WB:Bool→Nat→Nat→ByteArray)
  (hr:Rd w .u32 (.slice ao xs.length ca) xs) (sa:Dg.Small 4294967296 xs) (hd:aS xs E=0) (h0:Dg.vl 4294967296 xs≠0) (hg:bk R D L G=0) (h1:1≤D) (hLG:L≤G) (hD:ai R*D.toNat≤64) (hGL:G-L<60000) (hRc:R=2∨R=16) (hld:ld<18446744073709551616)
  (hh:dA R D L G gr (Dg.vl 4294967296 xs) E=true)
  (HL:yJ 181 #[ylV R D L G gr (sz:Int) (ex:Int) fam F] (.int .u64 (ld:Int)))
  (HW: ∀ng e f w1,e<65536→f<18446744073709551616→yC 160 #[ylV R D L G gr (sz:Int) (ex:Int) fam F,yfV ng ((e:Nat):Int) ((f:Nat):Int)] w1 (yR w1 (.string (WB ng e f)))):
  yC 157 #[ylV R D L G gr (sz:Int) (ex:Int) fam F,ydV s (.slice ao xs.length ca) E] w (yR w (.tuple #[.string (WB (cI R D L G gr s (Dg.vl 4294967296 xs) 1 E 3).s (heE R L ld (cI R D L G gr s (Dg.vl 4294967296 xs) 1 E 3)) (cI R D L G gr s (Dg.vl 4294967296 xs) 1 E 3).d),yi 0])):=by
 obtain⟨c1,e1,e2⟩:=bL hd;have hlen:xs.length≠0:=fun h=>h0 (by rw[List.eq_nil_of_length_eq_zero h];rfl)
 have hC:eE xs [1] E R D L G 3=0:=by
  have hq:eA xs [1] E=0:=by
   unfold eA;rw[if_pos c1,if_pos (show chk [1]=0 by decide),if_neg]
   rintro(h|h)
   ·simp at h
   ·unfold eJ at h
    simp at h;omega
  have hw:jg (eA xs [1] E) (bk R D L G)=0:=by unfold jg;rw[if_pos hq];exact hg
  unfold eE;rw[if_pos hw,if_pos (by decide)]
 have hP:df xs [1] E R D L G gr s 3=cI R D L G gr s (Dg.vl 4294967296 xs) 1 E 3:=by
  unfold df;rw[if_pos hC,if_neg hlen];rfl
 obtain⟨hov,hun,hbare⟩:=mC (s:=s) (way:=3) h1 hLG h0 hh;have hsp:=nW h1 hLG h0 (by omega:(1:Nat)≠0) hov hun;have hR:=fun q w1 (b:yB w w1) (hc:w1.cell? ⟨q,0,none⟩=some (.int .u32 1))=>jM s ao ca xs (some ⟨q,0,none⟩) 1 [1] E R D L G gr 3 w1 (hr.l b) (xD hc) sa (fun i=>by
  match i with
  |0=>decide
  |i+1=>simp)
 rw[hC,hP] at hR;obtain⟨t,ht⟩: ∃t,cI R D L G gr s (Dg.vl 4294967296 xs) 1 E 3=t:=⟨_,rfl⟩;rw[ht] at hsp hbare hR⊢;have hd0:t.d≠0:=fun h=>by
  have hz:=congrArg ak.n hbare;have a1:=(fI ⟨t.s,t.d,(ai R:Int)*t.p⟩).2 h;rw[hz] at a1;exact h0 ((fI ⟨s,Dg.vl 4294967296 xs,E⟩).1 a1)
 obtain⟨-,hp1,hp2,hdl,-⟩:=hsp.resolve_left (fun h=>hd0 h.1)
 have hd64:t.d<18446744073709551616:=by
  have:(2:Nat)^ (ai R*D.toNat)≤2^64:=Nat.pow_le_pow_right (by omega) hD;omega
 clear ht hov hun hbare hsp hC hP hh;obtain⟨e,he⟩: ∃e:Nat,t.p-L=(e:Int):=⟨(t.p-L).toNat,by omega⟩;have hel:e<60000:=by omega
 have hew:IntKind.i64.wrap (t.p-L)=(e:Int):=by rw[he];exact IntWalk.i64_in _ ⟨by omega,by omega⟩
 have hzl:(Dg.dg 4294967296 t.d).length≤2:=Dg.dg_len_le 4294967296 t.d 2 (by omega) hd64;have hzp:0< (Dg.dg 4294967296 t.d).length:=List.length_pos_iff.2 (by rw[Ne,Dg.dg_nil_iff 4294967296 t.d (by omega)];exact hd0);have HWd: ∀po pc w1,Rd w1 .u32 (.slice po (Dg.dg 4294967296 t.d).length pc) (Dg.dg 4294967296 t.d)→ ∀w2,yB w1 w2→yC 199 #[.slice po (Dg.dg 4294967296 t.d).length pc] w2 fun z w'=>z= .returned (.int .u64 (t.d:Int))∧w2=w':=fun po pc w1 h w2 b=>by
  have:=XF _ _ w2 (h.l b) (Dg.small_dg 4294967296 t.d (by omega)) hzl;rw[Dg.vl_dg 4294967296 t.d (by omega)] at this;exact this.mono (fun _ _ h=>⟨h.1,h.2.symm⟩)
 have hen:(t.p-L).toNat=e:=by omega
 unfold heE;rw[hen];have HR2: ∀q w1,yB w w1→w1.cell? ⟨q,0,none⟩=some (.int .u32 1)→yC 44 #[yrV s (.slice ao xs.length ca) (.slice (some ⟨q,0,none⟩) 1 1) E,ygV R D L G gr,yi 3] w1 fun z w'=> ∃po pc,z= .returned (.tuple #[ypV t.s (.slice po (Dg.dg 4294967296 t.d).length pc) t.p t.ex t.ov t.un,yi 0])∧Rd w' .u32 (.slice po (Dg.dg 4294967296 t.d).length pc) (Dg.dg 4294967296 t.d)∧yB w1 w':=fun q w1 b hc=>(hR q w1 b hc).mono (fun z w' h=>by
  obtain⟨v,rfl,own,b2⟩:=h;obtain⟨po,pc,hv⟩:=own.rd.shape;subst hv;exact⟨po,pc,rfl,own.rd,b2⟩)
 rcases hRc with rfl|rfl
 ·by_cases hb:t.d&&& ld=0
  ·rw[if_neg (fun h=>h.2 hb),Nat.add_zero]
   exact CC _ D L G fam gr sz ex F s ao xs.length ca E w (Dg.dg 4294967296 t.d) _ t.s t.ex t.ov t.un t.p 0 HR2 t.s e t.d (fun po pc w1 _ h=>KG D L G fam gr sz ex F t.s t.ex t.ov t.un po _ pc t.p e t.d w1 hew (by omega) (HWd po pc w1 h) ld 0 (by rw[u64_and_nat t.d ld hd64 hld,hb];rfl) rfl HL) _ (fun w1=>HW t.s e t.d w1 (by omega) hd64) rfl hzp
  ·rw[if_pos ⟨rfl,hb⟩]
   have hF: ∀po pc w1,yB w w1→Rd w1 .u32 (.slice po (Dg.dg 4294967296 t.d).length pc) (Dg.dg 4294967296 t.d)→_:=fun po pc w1 _ h=>KF D L G fam gr sz ex F t.s t.ex t.ov t.un po _ pc t.p e t.d w1 hew (by omega) (HWd po pc w1 h) ld ((t.d&&& ld:Nat):Int) (u64_and_nat t.d ld hd64 hld) (by omega) HL
   exact CC _ D L G fam gr sz ex F s ao xs.length ca E w (Dg.dg 4294967296 t.d) _ t.s t.ex t.ov t.un t.p 0 HR2 t.s (e+1) t.d hF _ (fun w1=>HW t.s (e+1) t.d w1 (by omega) hd64) rfl hzp
 ·rw[if_neg (fun h=>by have:=h.1;omega),Nat.add_zero]
  exact CC _ D L G fam gr sz ex F s ao xs.length ca E w (Dg.dg 4294967296 t.d) _ t.s t.ex t.ov t.un t.p 0 HR2 t.s e t.d (fun po pc w1 _ h=>KE D L G fam gr sz ex F t.s t.ex t.ov t.un po _ pc t.p e t.d w1 hew (by omega) (HWd po pc w1 h)) _ (fun w1=>HW t.s e t.d w1 (by omega) hd64) rfl hzp
def gsI:Nat→Int
 |1=>104|2=>971|3=>16320|4=>57|5=>49|6=>103|7=>71|8=>970|_=>0
def plT (k:Nat)(s:Bool)(n:Nat)(E:Int):fz:=cI (rdN k:Int) (dgN k:Int) (lsI k) (gsI k) (decide (k≤3)) s n 1 E 3
theorem xE (k:Nat)(hk:1≤k∧k≤8)(s:Bool)(ao:Option Addr)(ca:Nat)(xs:List Nat)(E:Int)(w:World)(hr:Rd w .u32 (.slice ao xs.length ca) xs)(sa:Dg.Small 4294967296 xs)(hd:aS xs E=0)(h0:Dg.vl 4294967296 xs≠0)
  (hh:dA (rdN k:Int) (dgN k:Int) (lsI k) (gsI k) (decide (k≤3)) (Dg.vl 4294967296 xs) E=true):
  yC 157 #[.agg (tS k).toArray,ydV s (.slice ao xs.length ca) E] w (yR w (.tuple #[.string (cF (kU k (plT k s (Dg.vl 4294967296 xs) E).s (heE (rdN k:Int) (lsI k) (gW k) (plT k s (Dg.vl 4294967296 xs) E)) (plT k s (Dg.vl 4294967296 xs) E).d)),yi 0])):=by
 have HL:=fun w1=>xX k hk w1
 have HW:=fun ng e f w1 (he:e<65536) (hf:f<18446744073709551616)=>Aq k hk ng e f w1 he hf
 have hl:=Re hk;unfold plT
 rcases bO hk with rfl|rfl|rfl|rfl|rfl|rfl|rfl|rfl
 all_goals exact ZC _ _ _ _ _ _ _ _ _ _ s ao ca xs E w (fun ng e f=>cF (kU _ ng e f)) hr sa hd h0 (by decide) (by decide) (by decide) (by decide) (by decide) (by decide) hl hh HL HW
theorem wI {c:Int}{t r:ak}(h:cC c t=(r,0)):r=bare t∧aS (Dg.dg 4294967296 r.n) r.e=0:=by
 unfold cC at h
 by_cases h0:c=0
 ·rw[if_pos h0] at h
  unfold bU at h
  by_cases h1:1200< (Dg.dg 4294967296 (bare t).n).length
  ·rw[if_pos h1] at h
   simp at h
  ·rw[if_neg h1] at h
   by_cases h2:(bare t).e< -20000∨20000< (bare t).e
   ·rw[if_pos h2] at h
    simp at h
   ·rw[if_neg h2] at h
    simp only[Prod.mk.injEq,and_true] at h;subst h;have hn:=Dg.norm_dg 4294967296 (bare t).n (by omega);refine⟨rfl, ?_⟩;unfold aS;rw[if_pos (pJ hn (by omega)),if_neg h2]
 ·rw[if_neg h0] at h
  simp only[Prod.mk.injEq] at h;exact absurd h.2 h0
def enN (k:Nat)(ng:Bool)(xs:List Nat)(p:Int):ak×Int:=
 cC (ix xs p (rdN k:Int) (dgN k:Int) (lsI k) (gsI k)) ⟨ng,Dg.vl 4294967296 xs,(ai (rdN k:Int):Int)*p⟩
def enH (k:Nat)(t:ak):Bool:=um (Dg.dg 4294967296 t.n) t.e (rdN k:Int) (dgN k:Int) (lsI k) (gsI k) (decide (k≤3))
def enE (k:Nat)(ng:Bool)(xs:List Nat)(p:Int):Int:=
 if p< -20000∨20000<p then 3 else if xs.length=0 then 4 else if(enN k ng xs p).2=0∧enH k (enN k ng xs p).1=true then 0 else 4
def enS (k:Nat)(ng:Bool)(xs:List Nat)(p:Int):ByteArray:=
 if enE k ng xs p=0 then cF (kU k (plT k (enN k ng xs p).1.s (enN k ng xs p).1.n (enN k ng xs p).1.e).s (heE (rdN k:Int) (lsI k) (gW k) (plT k (enN k ng xs p).1.s (enN k ng xs p).1.n (enN k ng xs p).1.e)) (plT k (enN k ng xs p).1.s (enN k ng xs p).1.n (enN k ng xs p).1.e).d) else⟨#[]⟩
theorem B5 (k:Nat)(hk:1≤k∧k≤8)(ng:Bool)(ao:Option Addr)(ca:Nat)(xs:List Nat)(p:Int)(w:World)(hr:Rd w .u32 (.slice ao xs.length ca) xs)(sa:Dg.Small 4294967296 xs)(hc:chk xs=0)(hT:Tab w):
  yC 133 #[.agg (tS k).toArray,yvV 2 ng (.slice ao xs.length ca) p] w (yR w (.tuple #[.string (enS k ng xs p),yi (enE k ng xs p)])):=by
 have key: ∀er,enE k ng xs p=er→enS k ng xs p=if er=0 then cF (kU k (plT k (enN k ng xs p).1.s (enN k ng xs p).1.n (enN k ng xs p).1.e).s (heE (rdN k:Int) (lsI k) (gW k) (plT k (enN k ng xs p).1.s (enN k ng xs p).1.n (enN k ng xs p).1.e)) (plT k (enN k ng xs p).1.s (enN k ng xs p).1.n (enN k ng xs p).1.e).d) else⟨#[]⟩:=fun er h=>by unfold enS;rw[h]
 by_cases hp:p< -20000∨20000<p
 ·have hE:enE k ng xs p=3:=if_pos hp
  rw[key 3 hE,hE,if_neg (by omega)]
  rcases hp with hp|hp
  ·rcases bO hk with rfl|rfl|rfl|rfl|rfl|rfl|rfl|rfl
   all_goals exact Q7 _ _ _ _ _ _ _ _ _ 2 p ng ao xs.length ca w hp
  ·rcases bO hk with rfl|rfl|rfl|rfl|rfl|rfl|rfl|rfl
   all_goals exact NN _ _ _ _ _ _ _ _ _ 2 p ng ao xs.length ca w hp
 ·have hp1: -20000≤p:=by omega
  have hp2:p≤20000:=by omega
  by_cases hl:xs.length=0
  ·have hE:enE k ng xs p=4:=by unfold enE;rw[if_neg hp,if_pos hl]
   rw[key 4 hE,hE,if_neg (by omega)]
   rcases bO hk with rfl|rfl|rfl|rfl|rfl|rfl|rfl|rfl
   all_goals exact KO _ _ _ _ _ _ _ _ _ 2 p ng ao xs.length ca w hp1 hp2 hl
  ·have hnx:Dg.vl 4294967296 xs≠0:=fun h=>by
    obtain⟨n1,-⟩:=aF hc;exact Dg.vl_ne_zero 4294967296 (by omega) xs (by intro e;subst e;simp at hl) n1 h
   have HN1:=fun w1 (b:yB w w1)=>kB (rdN k:Int) (dgN k:Int) (lsI k) (gsI k) (decide (k≤3)) ng ao ca xs p false false false w1 (hr.l b) sa (hT.l b)
   have hen:cC (ix xs p (rdN k:Int) (dgN k:Int) (lsI k) (gsI k)) ⟨ng,Dg.vl 4294967296 xs,(ai (rdN k:Int):Int)*p⟩=enN k ng xs p:=rfl;rw[hen] at HN1;have hE:enE k ng xs p=if(enN k ng xs p).2=0∧enH k (enN k ng xs p).1=true then 0 else 4:=by unfold enE;rw[if_neg hp,if_neg hl]
   have hfact:(enN k ng xs p).2=0→(enN k ng xs p).1.n≠0∧aS (Dg.dg 4294967296 (enN k ng xs p).1.n) (enN k ng xs p).1.e=0:=fun h=>by
    have h2:=wI (show cC (ix xs p (rdN k:Int) (dgN k:Int) (lsI k) (gsI k)) ⟨ng,Dg.vl 4294967296 xs,(ai (rdN k:Int):Int)*p⟩=((enN k ng xs p).1,0) from by rw[hen];exact Prod.ext rfl h)
    obtain⟨h3,h4⟩:=h2;refine⟨fun h5=> ?_,h4⟩
    rw[h3] at h5;exact hnx ((fI ⟨ng,Dg.vl 4294967296 xs,(ai (rdN k:Int):Int)*p⟩).1 h5)
   clear hen;generalize enN k ng xs p=r at*;obtain⟨t,er⟩:=r;simp only at hE hfact key HN1⊢;have HN: ∀w1,yB w w1→yC 155 #[.agg (tS k).toArray,yvV 2 ng (.slice ao xs.length ca) p] w1 (gR w1 (t,er)):=fun w1 b=>by
    rcases bO hk with rfl|rfl|rfl|rfl|rfl|rfl|rfl|rfl
    all_goals exact Je _ _ _ _ _ _ _ _ _ 2 p ng ao xs.length ca (t,er) w1 (fun w2 b2=>HN1 w2 (aa b b2))
   by_cases her:er=0
   ·obtain⟨hn0,hdc⟩:=hfact her
    have sm:=Dg.small_dg 4294967296 t.n (by omega);have HH:=fun so sc w1 (b:yB w w1) (h:Rd w1 .u32 (.slice so (Dg.dg 4294967296 t.n).length sc) (Dg.dg 4294967296 t.n))=>qR (rdN k:Int) (dgN k:Int) (lsI k) (gsI k) (decide (k≤3)) t.s so sc (Dg.dg 4294967296 t.n) t.e w1 h sm (hT.l b)
    have hgr:bk (rdN k:Int) (dgN k:Int) (lsI k) (gsI k)=0:=by
     rcases bO hk with rfl|rfl|rfl|rfl|rfl|rfl|rfl|rfl<;>decide
    have hon:onC (aS (Dg.dg 4294967296 t.n) t.e) (bk (rdN k:Int) (dgN k:Int) (lsI k) (gsI k))=0:=by unfold onC;rw[if_pos hdc];exact hgr
    rw[hon] at HH
    by_cases hq:enH k t=true
    ·rw[if_pos ⟨her,hq⟩] at hE
     rw[key 0 hE,hE,if_pos rfl];have hq':um (Dg.dg 4294967296 t.n) t.e (rdN k:Int) (dgN k:Int) (lsI k) (gsI k) (decide (k≤3))=true:=hq;have hheld:dA (rdN k:Int) (dgN k:Int) (lsI k) (gsI k) (decide (k≤3)) (Dg.vl 4294967296 (Dg.dg 4294967296 t.n)) t.e=true:=by
      have h:=hq';unfold um at h;rw[if_pos hon] at h;exact h
     have HE:=fun so sc w1 (_b:yB w w1) (h:Rd w1 .u32 (.slice so (Dg.dg 4294967296 t.n).length sc) (Dg.dg 4294967296 t.n))=>xE k hk t.s so sc (Dg.dg 4294967296 t.n) t.e w1 h sm hdc (by rw[Dg.vl_dg 4294967296 t.n (by omega)];exact hn0) hheld
     rw[Dg.vl_dg 4294967296 t.n (by omega)] at HE;rw[hq'] at HH;generalize cF (kU k (plT k t.s t.n t.e).s (heE (rdN k:Int) (lsI k) (gW k) (plT k t.s t.n t.e)) (plT k t.s t.n t.e).d)=st at*
     rcases bO hk with rfl|rfl|rfl|rfl|rfl|rfl|rfl|rfl
     all_goals exact NP _ _ _ _ _ _ _ _ _ 2 p ng ao xs.length ca w t er HN true 0 HH st 0 HE hp1 hp2 (by omega) her rfl rfl
    ·have hqf:um (Dg.dg 4294967296 t.n) t.e (rdN k:Int) (dgN k:Int) (lsI k) (gsI k) (decide (k≤3))=false:=by
      have:enH k t=false:=by simpa using hq
      exact this
     rw[if_neg (fun h=>hq h.2)] at hE
     rw[key 4 hE,hE,if_neg (by omega)];rw[hqf] at HH
     rcases bO hk with rfl|rfl|rfl|rfl|rfl|rfl|rfl|rfl
     all_goals exact NO _ _ _ _ _ _ _ _ _ 2 p ng ao xs.length ca w t er HN false 0 HH hp1 hp2 (by omega) her rfl rfl
   ·rw[if_neg (fun h=>her h.1)] at hE
    rw[key 4 hE,hE,if_neg (by omega)]
    rcases bO hk with rfl|rfl|rfl|rfl|rfl|rfl|rfl|rfl
    all_goals exact Q8 _ _ _ _ _ _ _ _ _ 2 p ng ao xs.length ca w t er HN hp1 hp2 (by omega) her
end Go.Proofs.YtbdokgamhinajaaGreatDoor

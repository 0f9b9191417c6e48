/-
  Texts laid together: Ce6, Ce7, Ce10, Ce11, Em1, Cr4.
-/
import Derived.Test.YtnhackdjplppjaaGreatDoorSp22
set_option maxRecDepth 100000
namespace Go.Proofs.YtnhackdjplppjaaGreatDoor
open Go.RowKit
set_option maxHeartbeats 6400000 in
theorem fieldsOf_hex (D L G fam:Int) (gr:Bool) (sz ex:Nat) (F:Nat) (s x1 x2 x3:Bool) (ao:Option Addr) (dn dc:Nat) (pw:Int) (e f:Nat) (w:World) (hE:IntKind.i64.wrap (pw-L)=(e:Int)) (_he:e<65536)
  (HWd: ∀w1,Below w.heap.size w w1→Calls Tryz.prog 226 #[.slice ao dn dc] w1 fun z w'=>z= .returned (.int .u64 (f:Int))∧w1=w'):
  Calls Tryz.prog 204 #[ylV 16 D L G gr (sz:Int) (ex:Int) fam F,ypV s (.slice ao dn dc) pw x1 x2 x3] w fun z w'=>z= .returned (yfV s (e:Int) (f:Int))∧Below w.heap.size w w':=by
 have hsf:=hsf_z;have HWd':Hid _:=HWd;clear HWd;have bp:=below_alloc (w.alloc (.cells (ylL 16 D L G gr (sz:Int) (ex:Int) fam F).toArray 144)) (.cells (ypL s (.slice ao dn dc) pw x1 x2 x3).toArray 86);have bz:=below_alloc ((w.alloc (.cells (ylL 16 D L G gr (sz:Int) (ex:Int) fam F).toArray 144)).alloc (.cells (ypL s (.slice ao dn dc) pw x1 x2 x3).toArray 86)) (.cells (yfL false 0 0).toArray 147);have ql0:=((locE_new w (ylL 16 D L G gr (sz:Int) (ex:Int) fam F) 144).later bp).later bz;have qp0:=(locE_new (w.alloc (.cells (ylL 16 D L G gr (sz:Int) (ex:Int) fam F).toArray 144)) (ypL s (.slice ao dn dc) pw x1 x2 x3) 86).later bz;have qz0:=locE_new ((w.alloc (.cells (ylL 16 D L G gr (sz:Int) (ex:Int) fam F).toArray 144)).alloc (.cells (ypL s (.slice ao dn dc) pw x1 x2 x3).toArray 86)) (yfL false 0 0) 147;have b0:=below_trans (below_trans (below_alloc w (.cells (ylL 16 D L G gr (sz:Int) (ex:Int) fam F).toArray 144)) bp) bz;rw[World.size_alloc] at qp0;rw[World.size_alloc,World.size_alloc] at qz0;have ba:=below_alloc (((w.alloc (.cells (ylL 16 D L G gr (sz:Int) (ex:Int) fam F).toArray 144)).alloc (.cells (ypL s (.slice ao dn dc) pw x1 x2 x3).toArray 86)).alloc (.cells (yfL false 0 0).toArray 147)) (.cells (yfL false 0 0).toArray 147);have b0d:=b0.drew;have b0a:=(below_trans b0 ba).drew;have ql0a:=(ql0.later ba).drew;have qp0a:=(qp0.later ba).drew;have ql0d:=ql0.drew;have qp0d:=qp0.drew;obtain⟨cx0,cx1,cx2,cx3,cx4,cx5,cx6,cx7,cx8⟩:=ql0d.cs9;obtain⟨cu0,cu1,cu2,cu3,cu4,cu5⟩:=qp0d.cs6;obtain⟨cxa0,cxa1,cxa2,cxa3,cxa4,cxa5,cxa6,cxa7,cxa8⟩:=ql0a.cs9;obtain⟨cua0,cua1,cua2,cua3,cua4,cua5⟩:=qp0a.cs6;have hn0:w.heap.size+1+1+1≠w.heap.size:=by omega
 have hn1:w.heap.size+1+1+1≠w.heap.size+1:=by omega
 go_enter Tryz.func204,Tryz.ntmps204
 go_wp2_with fail
 go_region_held3 (fun wq=>(wq.cell? ⟨w.heap.size,0,none⟩=some (yi 16)∧wq.cell? ⟨w.heap.size,1,none⟩=some (yi D)∧wq.cell? ⟨w.heap.size,2,none⟩=some (yi L)∧wq.cell? ⟨w.heap.size,3,none⟩=some (yi G)∧wq.cell? ⟨w.heap.size,4,none⟩=some (.bool gr)∧wq.cell? ⟨w.heap.size,5,none⟩=some (yi (sz:Int))∧wq.cell? ⟨w.heap.size,6,none⟩=some (yi (ex:Int))∧wq.cell? ⟨w.heap.size,7,none⟩=some (yi fam)∧wq.cell? ⟨w.heap.size,8,none⟩=some (.func (.func F) #[] #[]))∧(wq.cell? ⟨w.heap.size+1,0,none⟩=some (.bool s)∧wq.cell? ⟨w.heap.size+1,1,none⟩=some (.slice ao dn dc)∧wq.cell? ⟨w.heap.size+1,2,none⟩=some (yi pw)∧wq.cell? ⟨w.heap.size+1,3,none⟩=some (.bool x1)∧wq.cell? ⟨w.heap.size+1,4,none⟩=some (.bool x2)∧wq.cell? ⟨w.heap.size+1,5,none⟩=some (.bool x3))) (go_keep) (first
  | (go_at_call 226;(first| (with_reducible (refine(HWd'.out _ b0d).mono ?_))| (with_reducible (refine(HWd'.out _ b0a).mono ?_)));rintro z wv ⟨rfl,rfl⟩))
 all_goals (
  have ba4:=below_alloc (((w.alloc (.cells (ylL 16 D L G gr (sz:Int) (ex:Int) fam F).toArray 144)).alloc (.cells (ypL s (.slice ao dn dc) pw x1 x2 x3).toArray 86)).alloc (.cells (yfL false 0 0).toArray 147)) (.cells (yfL s (e:Int) (f:Int)).toArray 147);have ql4:=(ql0.later ba4).drew;have qz4:=(qz0.later ba4).drew;have qf4:=(locE_new (((w.alloc (.cells (ylL 16 D L G gr (sz:Int) (ex:Int) fam F).toArray 144)).alloc (.cells (ypL s (.slice ao dn dc) pw x1 x2 x3).toArray 86)).alloc (.cells (yfL false 0 0).toArray 147)) (yfL s (e:Int) (f:Int)) 147).drew;rw[World.size_alloc,World.size_alloc,World.size_alloc] at qf4;have b4:=(below_trans b0 ba4).drew;clear ba4 ba b0d b0a ql0a qp0a ql0d qp0d ql0 qp0 qz0 b0 cx0 cxa0 cx1 cxa1 cx2 cxa2 cx3 cxa3 cx4 cxa4 cx5 cxa5 cx6 cxa6 cx7 cxa7 cx8 cxa8 cu0 cua0 cu1 cua1 cu2 cua2 cu3 cua3 cu4 cua4 cu5 cua5;generalize((((w.alloc (.cells (ylL 16 D L G gr (sz:Int) (ex:Int) fam F).toArray 144)).alloc (.cells (ypL s (.slice ao dn dc) pw x1 x2 x3).toArray 86)).alloc (.cells (yfL false 0 0).toArray 147)).alloc (.cells (yfL s (e:Int) (f:Int)).toArray 147)).drew=w4 at*;have c0:=ql4.cell 0 rfl
  go_wp2_with fail
  go_quiet (fail)
  have bd:Below w4.heap.size w4 (w4.drewN nq):=below_drewN (Below.refl _ _) _;have qz5:=qz4.later bd;have qf5:=qf4.later bd;have b5:=below_trans b4 bd;clear c0 ql4 qz4 qf4 b4 bd;generalize w4.drewN nq=w5 at*;have bu:=((but_set w5 (w.heap.size+1+1) 0 (.bool s)).trans (but_set _ (w.heap.size+1+1) 1 (yi (e:Int)))).trans (but_set _ (w.heap.size+1+1) 2 (.int .u64 (f:Int)));have cR:LocE (((w5.setCell ⟨w.heap.size+1+1,0,none⟩ (.bool s)).setCell ⟨w.heap.size+1+1,1,none⟩ (yi (e:Int))).setCell ⟨w.heap.size+1+1,2,none⟩ (.int .u64 (f:Int))) (w.heap.size+1+1) 147 (yfL s (e:Int) (f:Int)):=(((qz5.set 0 (.bool s)).set 1 (yi (e:Int))).set 2 (.int .u64 (f:Int)));have bR:=bu.below b5 (by omega);have hl:=run_loadVar_mid (P:=Tryz.prog) _ (w.heap.size+1+1) 0 147 (yfL s (e:Int) (f:Int)) _ cR.range Tryz.underlying147 rfl (by kernel_rfl);have HH:Hid (_∧_):=⟨hl,bR⟩;obtain⟨yz0,yz1,yz2⟩:=qz5.cs3;have jz0:=qz5.free 0;have jz1:=qz5.free 1;have jz2:=qz5.free 2;obtain⟨yf0,yf1,yf2⟩:=qf5.cs3;clear hl bR cR bu
  go_wp2
  obtain⟨hl,bR⟩:=HH.out;exact bodyPost_ret (results_one Tryz.results204 rfl hl) rfl ⟨rfl,bR⟩
 )
set_option maxHeartbeats 6400000 in
theorem fieldsOf_set (D L G fam:Int) (gr:Bool) (sz ex:Nat) (F:Nat) (s x1 x2 x3:Bool) (ao:Option Addr) (dn dc:Nat) (pw:Int) (e f:Nat) (w:World) (hE:IntKind.i64.wrap (pw-L)=(e:Int)) (he:e<65536)
  (HWd: ∀w1,Below w.heap.size w w1→Calls Tryz.prog 226 #[.slice ao dn dc] w1 fun z w'=>z= .returned (.int .u64 (f:Int))∧w1=w')
  (ld:Nat) (ab:Int) (hab:bits .and .u64 (f:Int) (ld:Int)=ab) (habz:ab≠0)
  (HL: ∀w1,Calls Tryz.prog 198 #[ylV 2 D L G gr (sz:Int) (ex:Int) fam F] w1 fun z w'=>z= .returned (.int .u64 (ld:Int))∧Below w1.heap.size w1 w'):
  Calls Tryz.prog 204 #[ylV 2 D L G gr (sz:Int) (ex:Int) fam F,ypV s (.slice ao dn dc) pw x1 x2 x3] w fun z w'=>z= .returned (yfV s ((e:Int)+1) (f:Int))∧Below w.heap.size w w':=by
 have hsf:=hsf_z;have HWd':Hid _:=HWd;clear HWd;have HL':Hid _:=HL;clear HL;have hz1:(ab==0)=false:=by simpa using habz
 have hz2:(ab != 0)=true:=by simpa using habz
 clear habz;have bp:=below_alloc (w.alloc (.cells (ylL 2 D L G gr (sz:Int) (ex:Int) fam F).toArray 144)) (.cells (ypL s (.slice ao dn dc) pw x1 x2 x3).toArray 86);have bz:=below_alloc ((w.alloc (.cells (ylL 2 D L G gr (sz:Int) (ex:Int) fam F).toArray 144)).alloc (.cells (ypL s (.slice ao dn dc) pw x1 x2 x3).toArray 86)) (.cells (yfL false 0 0).toArray 147);have ql0:=((locE_new w (ylL 2 D L G gr (sz:Int) (ex:Int) fam F) 144).later bp).later bz;have qp0:=(locE_new (w.alloc (.cells (ylL 2 D L G gr (sz:Int) (ex:Int) fam F).toArray 144)) (ypL s (.slice ao dn dc) pw x1 x2 x3) 86).later bz;have qz0:=locE_new ((w.alloc (.cells (ylL 2 D L G gr (sz:Int) (ex:Int) fam F).toArray 144)).alloc (.cells (ypL s (.slice ao dn dc) pw x1 x2 x3).toArray 86)) (yfL false 0 0) 147;have b0:=below_trans (below_trans (below_alloc w (.cells (ylL 2 D L G gr (sz:Int) (ex:Int) fam F).toArray 144)) bp) bz;rw[World.size_alloc] at qp0;rw[World.size_alloc,World.size_alloc] at qz0;have ba:=below_alloc (((w.alloc (.cells (ylL 2 D L G gr (sz:Int) (ex:Int) fam F).toArray 144)).alloc (.cells (ypL s (.slice ao dn dc) pw x1 x2 x3).toArray 86)).alloc (.cells (yfL false 0 0).toArray 147)) (.cells (yfL false 0 0).toArray 147);have b0d:=b0.drew;have b0a:=(below_trans b0 ba).drew;have ql0a:=(ql0.later ba).drew;have qp0a:=(qp0.later ba).drew;have ql0d:=ql0.drew;have qp0d:=qp0.drew;obtain⟨cx0,cx1,cx2,cx3,cx4,cx5,cx6,cx7,cx8⟩:=ql0d.cs9;obtain⟨cu0,cu1,cu2,cu3,cu4,cu5⟩:=qp0d.cs6;obtain⟨cxa0,cxa1,cxa2,cxa3,cxa4,cxa5,cxa6,cxa7,cxa8⟩:=ql0a.cs9;obtain⟨cua0,cua1,cua2,cua3,cua4,cua5⟩:=qp0a.cs6;have hn0:w.heap.size+1+1+1≠w.heap.size:=by omega
 have hn1:w.heap.size+1+1+1≠w.heap.size+1:=by omega
 go_enter Tryz.func204,Tryz.ntmps204
 go_wp2_with fail
 go_region_held3 (fun wq=>(wq.cell? ⟨w.heap.size,0,none⟩=some (yi 2)∧wq.cell? ⟨w.heap.size,1,none⟩=some (yi D)∧wq.cell? ⟨w.heap.size,2,none⟩=some (yi L)∧wq.cell? ⟨w.heap.size,3,none⟩=some (yi G)∧wq.cell? ⟨w.heap.size,4,none⟩=some (.bool gr)∧wq.cell? ⟨w.heap.size,5,none⟩=some (yi (sz:Int))∧wq.cell? ⟨w.heap.size,6,none⟩=some (yi (ex:Int))∧wq.cell? ⟨w.heap.size,7,none⟩=some (yi fam)∧wq.cell? ⟨w.heap.size,8,none⟩=some (.func (.func F) #[] #[]))∧(wq.cell? ⟨w.heap.size+1,0,none⟩=some (.bool s)∧wq.cell? ⟨w.heap.size+1,1,none⟩=some (.slice ao dn dc)∧wq.cell? ⟨w.heap.size+1,2,none⟩=some (yi pw)∧wq.cell? ⟨w.heap.size+1,3,none⟩=some (.bool x1)∧wq.cell? ⟨w.heap.size+1,4,none⟩=some (.bool x2)∧wq.cell? ⟨w.heap.size+1,5,none⟩=some (.bool x3))) (go_keep) (first
  | (go_at_call 226;(first| (with_reducible (refine(HWd'.out _ b0d).mono ?_))| (with_reducible (refine(HWd'.out _ b0a).mono ?_)));rintro z wv ⟨rfl,rfl⟩))
 all_goals (
  have ba4:=below_alloc (((w.alloc (.cells (ylL 2 D L G gr (sz:Int) (ex:Int) fam F).toArray 144)).alloc (.cells (ypL s (.slice ao dn dc) pw x1 x2 x3).toArray 86)).alloc (.cells (yfL false 0 0).toArray 147)) (.cells (yfL s (e:Int) (f:Int)).toArray 147);have ql4:=(ql0.later ba4).drew;have qz4:=(qz0.later ba4).drew;have qf4:=(locE_new (((w.alloc (.cells (ylL 2 D L G gr (sz:Int) (ex:Int) fam F).toArray 144)).alloc (.cells (ypL s (.slice ao dn dc) pw x1 x2 x3).toArray 86)).alloc (.cells (yfL false 0 0).toArray 147)) (yfL s (e:Int) (f:Int)) 147).drew;rw[World.size_alloc,World.size_alloc,World.size_alloc] at qf4;have b4:=(below_trans b0 ba4).drew;clear ba4 ba b0d b0a ql0a qp0a ql0d qp0d ql0 qp0 qz0 b0 cx0 cxa0 cx1 cxa1 cx2 cxa2 cx3 cxa3 cx4 cxa4 cx5 cxa5 cx6 cxa6 cx7 cxa7 cx8 cxa8 cu0 cua0 cu1 cua1 cu2 cua2 cu3 cua3 cu4 cua4 cu5 cua5;generalize((((w.alloc (.cells (ylL 2 D L G gr (sz:Int) (ex:Int) fam F).toArray 144)).alloc (.cells (ypL s (.slice ao dn dc) pw x1 x2 x3).toArray 86)).alloc (.cells (yfL false 0 0).toArray 147)).alloc (.cells (yfL s (e:Int) (f:Int)).toArray 147)).drew=w4 at*;have ql4d:=ql4.drew;have qf4d:=qf4.drew;have qz4d:=qz4.drew;have b4d:=b4.drew;obtain⟨cl0,cl1,cl2,cl3,cl4,cl5,cl6,cl7,cl8⟩:=ql4d.cs9;obtain⟨cf0,cf1,cf2⟩:=qf4d.cs3
  go_wp2_with fail
  go_region_held3 (fun wq=>(wq.cell? ⟨w.heap.size,0,none⟩=some (yi 2)∧wq.cell? ⟨w.heap.size,1,none⟩=some (yi D)∧wq.cell? ⟨w.heap.size,2,none⟩=some (yi L)∧wq.cell? ⟨w.heap.size,3,none⟩=some (yi G)∧wq.cell? ⟨w.heap.size,4,none⟩=some (.bool gr)∧wq.cell? ⟨w.heap.size,5,none⟩=some (yi (sz:Int))∧wq.cell? ⟨w.heap.size,6,none⟩=some (yi (ex:Int))∧wq.cell? ⟨w.heap.size,7,none⟩=some (yi fam)∧wq.cell? ⟨w.heap.size,8,none⟩=some (.func (.func F) #[] #[]))∧(wq.cell? ⟨w.heap.size+1+1+1,0,none⟩=some (.bool s)∧wq.cell? ⟨w.heap.size+1+1+1,1,none⟩=some (yi (e:Int))∧wq.cell? ⟨w.heap.size+1+1+1,2,none⟩=some (.int .u64 (f:Int)))) (go_keep) (first
   | (go_at_call 198;refine(HL'.out _).mono ?_;rintro z w5 ⟨rfl,b5'⟩;have ql5:=ql4d.later b5';have qf5:=qf4d.later b5';have qz5:=qz4d.later b5';have b5:=below_trans b4d b5';obtain⟨dl0,dl1,dl2,dl3,dl4,dl5,dl6,dl7,dl8⟩:=ql5.cs9;obtain⟨df0,df1,df2⟩:=qf5.cs3))
  clear ql4 ql4d qf4 qf4d qz4 qz4d b4 b4d b5' cl0 cl1 cl2 cl3 cl4 cl5 cl6 cl7 cl8 cf0 cf1 cf2;have jf1:=qf5.free 1;have hew:IntKind.i64.wrap ((e:Int)+1)=(e:Int)+1:=IntWalk.i64_in _ ⟨by omega,by omega⟩
  go_upto_region 4 with fail
  have hfz:w.heap.size+1+1+1≠w.heap.size+1+1:=by omega
  have bu6:=but_set w5 (w.heap.size+1+1+1) 1 (yi ((e:Int)+1));have qf6:LocE (w5.setCell ⟨w.heap.size+1+1+1,1,none⟩ (yi ((e:Int)+1))) (w.heap.size+1+1+1) 147 (yfL s ((e:Int)+1) (f:Int)):=qf5.set 1 (yi ((e:Int)+1));have qz6:=qz5.off hfz 1 (yi ((e:Int)+1));have b6:=bu6.below b5 (by omega);clear bu6 qf5 qz5 b5 ql5 df0 df1 df2 jf1;generalize(w5.setCell ⟨w.heap.size+1+1+1,1,none⟩ (yi ((e:Int)+1)))=w6 at*;have bu:=((but_set w6 (w.heap.size+1+1) 0 (.bool s)).trans (but_set _ (w.heap.size+1+1) 1 (yi ((e:Int)+1)))).trans (but_set _ (w.heap.size+1+1) 2 (.int .u64 (f:Int)));have cR:LocE (((w6.setCell ⟨w.heap.size+1+1,0,none⟩ (.bool s)).setCell ⟨w.heap.size+1+1,1,none⟩ (yi ((e:Int)+1))).setCell ⟨w.heap.size+1+1,2,none⟩ (.int .u64 (f:Int))) (w.heap.size+1+1) 147 (yfL s ((e:Int)+1) (f:Int)):=(((qz6.set 0 (.bool s)).set 1 (yi ((e:Int)+1))).set 2 (.int .u64 (f:Int)));have bR:=bu.below b6 (by omega);have hl:=run_loadVar_mid (P:=Tryz.prog) _ (w.heap.size+1+1) 0 147 (yfL s ((e:Int)+1) (f:Int)) _ cR.range Tryz.underlying147 rfl (by kernel_rfl);have HH:Hid (_∧_):=⟨hl,bR⟩;obtain⟨yz0,yz1,yz2⟩:=qz6.cs3;have jz0:=qz6.free 0;have jz1:=qz6.free 1;have jz2:=qz6.free 2;obtain⟨yf0,yf1,yf2⟩:=qf6.cs3;clear hl bR cR bu
  go_wp2
  obtain⟨hl,bR⟩:=HH.out;exact bodyPost_ret (results_one Tryz.results204 rfl hl) rfl ⟨rfl,bR⟩
 )
set_option maxHeartbeats 6400000 in
theorem fieldsOf_low (D L G fam:Int) (gr:Bool) (sz ex:Nat) (F:Nat) (s x1 x2 x3:Bool) (ao:Option Addr) (dn dc:Nat) (pw:Int) (e f:Nat) (w:World) (hE:IntKind.i64.wrap (pw-L)=(e:Int)) (_he:e<65536)
  (HWd: ∀w1,Below w.heap.size w w1→Calls Tryz.prog 226 #[.slice ao dn dc] w1 fun z w'=>z= .returned (.int .u64 (f:Int))∧w1=w')
  (ld:Nat) (ab:Int) (hab:bits .and .u64 (f:Int) (ld:Int)=ab) (habz:ab=0)
  (HL: ∀w1,Calls Tryz.prog 198 #[ylV 2 D L G gr (sz:Int) (ex:Int) fam F] w1 fun z w'=>z= .returned (.int .u64 (ld:Int))∧Below w1.heap.size w1 w'):
  Calls Tryz.prog 204 #[ylV 2 D L G gr (sz:Int) (ex:Int) fam F,ypV s (.slice ao dn dc) pw x1 x2 x3] w fun z w'=>z= .returned (yfV s (e:Int) (f:Int))∧Below w.heap.size w w':=by
 have hsf:=hsf_z;have HWd':Hid _:=HWd;clear HWd;have HL':Hid _:=HL;clear HL;subst habz;have bp:=below_alloc (w.alloc (.cells (ylL 2 D L G gr (sz:Int) (ex:Int) fam F).toArray 144)) (.cells (ypL s (.slice ao dn dc) pw x1 x2 x3).toArray 86);have bz:=below_alloc ((w.alloc (.cells (ylL 2 D L G gr (sz:Int) (ex:Int) fam F).toArray 144)).alloc (.cells (ypL s (.slice ao dn dc) pw x1 x2 x3).toArray 86)) (.cells (yfL false 0 0).toArray 147);have ql0:=((locE_new w (ylL 2 D L G gr (sz:Int) (ex:Int) fam F) 144).later bp).later bz;have qp0:=(locE_new (w.alloc (.cells (ylL 2 D L G gr (sz:Int) (ex:Int) fam F).toArray 144)) (ypL s (.slice ao dn dc) pw x1 x2 x3) 86).later bz;have qz0:=locE_new ((w.alloc (.cells (ylL 2 D L G gr (sz:Int) (ex:Int) fam F).toArray 144)).alloc (.cells (ypL s (.slice ao dn dc) pw x1 x2 x3).toArray 86)) (yfL false 0 0) 147;have b0:=below_trans (below_trans (below_alloc w (.cells (ylL 2 D L G gr (sz:Int) (ex:Int) fam F).toArray 144)) bp) bz;rw[World.size_alloc] at qp0;rw[World.size_alloc,World.size_alloc] at qz0;have ba:=below_alloc (((w.alloc (.cells (ylL 2 D L G gr (sz:Int) (ex:Int) fam F).toArray 144)).alloc (.cells (ypL s (.slice ao dn dc) pw x1 x2 x3).toArray 86)).alloc (.cells (yfL false 0 0).toArray 147)) (.cells (yfL false 0 0).toArray 147);have b0d:=b0.drew;have b0a:=(below_trans b0 ba).drew;have ql0a:=(ql0.later ba).drew;have qp0a:=(qp0.later ba).drew;have ql0d:=ql0.drew;have qp0d:=qp0.drew;obtain⟨cx0,cx1,cx2,cx3,cx4,cx5,cx6,cx7,cx8⟩:=ql0d.cs9;obtain⟨cu0,cu1,cu2,cu3,cu4,cu5⟩:=qp0d.cs6;obtain⟨cxa0,cxa1,cxa2,cxa3,cxa4,cxa5,cxa6,cxa7,cxa8⟩:=ql0a.cs9;obtain⟨cua0,cua1,cua2,cua3,cua4,cua5⟩:=qp0a.cs6;have hn0:w.heap.size+1+1+1≠w.heap.size:=by omega
 have hn1:w.heap.size+1+1+1≠w.heap.size+1:=by omega
 go_enter Tryz.func204,Tryz.ntmps204
 go_wp2_with fail
 go_region_held3 (fun wq=>(wq.cell? ⟨w.heap.size,0,none⟩=some (yi 2)∧wq.cell? ⟨w.heap.size,1,none⟩=some (yi D)∧wq.cell? ⟨w.heap.size,2,none⟩=some (yi L)∧wq.cell? ⟨w.heap.size,3,none⟩=some (yi G)∧wq.cell? ⟨w.heap.size,4,none⟩=some (.bool gr)∧wq.cell? ⟨w.heap.size,5,none⟩=some (yi (sz:Int))∧wq.cell? ⟨w.heap.size,6,none⟩=some (yi (ex:Int))∧wq.cell? ⟨w.heap.size,7,none⟩=some (yi fam)∧wq.cell? ⟨w.heap.size,8,none⟩=some (.func (.func F) #[] #[]))∧(wq.cell? ⟨w.heap.size+1,0,none⟩=some (.bool s)∧wq.cell? ⟨w.heap.size+1,1,none⟩=some (.slice ao dn dc)∧wq.cell? ⟨w.heap.size+1,2,none⟩=some (yi pw)∧wq.cell? ⟨w.heap.size+1,3,none⟩=some (.bool x1)∧wq.cell? ⟨w.heap.size+1,4,none⟩=some (.bool x2)∧wq.cell? ⟨w.heap.size+1,5,none⟩=some (.bool x3))) (go_keep) (first
  | (go_at_call 226;(first| (with_reducible (refine(HWd'.out _ b0d).mono ?_))| (with_reducible (refine(HWd'.out _ b0a).mono ?_)));rintro z wv ⟨rfl,rfl⟩))
 all_goals (
  have ba4:=below_alloc (((w.alloc (.cells (ylL 2 D L G gr (sz:Int) (ex:Int) fam F).toArray 144)).alloc (.cells (ypL s (.slice ao dn dc) pw x1 x2 x3).toArray 86)).alloc (.cells (yfL false 0 0).toArray 147)) (.cells (yfL s (e:Int) (f:Int)).toArray 147);have ql4:=(ql0.later ba4).drew;have qz4:=(qz0.later ba4).drew;have qf4:=(locE_new (((w.alloc (.cells (ylL 2 D L G gr (sz:Int) (ex:Int) fam F).toArray 144)).alloc (.cells (ypL s (.slice ao dn dc) pw x1 x2 x3).toArray 86)).alloc (.cells (yfL false 0 0).toArray 147)) (yfL s (e:Int) (f:Int)) 147).drew;rw[World.size_alloc,World.size_alloc,World.size_alloc] at qf4;have b4:=(below_trans b0 ba4).drew;clear ba4 ba b0d b0a ql0a qp0a ql0d qp0d ql0 qp0 qz0 b0 cx0 cxa0 cx1 cxa1 cx2 cxa2 cx3 cxa3 cx4 cxa4 cx5 cxa5 cx6 cxa6 cx7 cxa7 cx8 cxa8 cu0 cua0 cu1 cua1 cu2 cua2 cu3 cua3 cu4 cua4 cu5 cua5;generalize((((w.alloc (.cells (ylL 2 D L G gr (sz:Int) (ex:Int) fam F).toArray 144)).alloc (.cells (ypL s (.slice ao dn dc) pw x1 x2 x3).toArray 86)).alloc (.cells (yfL false 0 0).toArray 147)).alloc (.cells (yfL s (e:Int) (f:Int)).toArray 147)).drew=w4 at*;have ql4d:=ql4.drew;have qf4d:=qf4.drew;have qz4d:=qz4.drew;have b4d:=b4.drew;obtain⟨cl0,cl1,cl2,cl3,cl4,cl5,cl6,cl7,cl8⟩:=ql4d.cs9;obtain⟨cf0,cf1,cf2⟩:=qf4d.cs3
  go_wp2_with fail
  go_region_held3 (fun wq=>(wq.cell? ⟨w.heap.size,0,none⟩=some (yi 2)∧wq.cell? ⟨w.heap.size,1,none⟩=some (yi D)∧wq.cell? ⟨w.heap.size,2,none⟩=some (yi L)∧wq.cell? ⟨w.heap.size,3,none⟩=some (yi G)∧wq.cell? ⟨w.heap.size,4,none⟩=some (.bool gr)∧wq.cell? ⟨w.heap.size,5,none⟩=some (yi (sz:Int))∧wq.cell? ⟨w.heap.size,6,none⟩=some (yi (ex:Int))∧wq.cell? ⟨w.heap.size,7,none⟩=some (yi fam)∧wq.cell? ⟨w.heap.size,8,none⟩=some (.func (.func F) #[] #[]))∧(wq.cell? ⟨w.heap.size+1+1+1,0,none⟩=some (.bool s)∧wq.cell? ⟨w.heap.size+1+1+1,1,none⟩=some (yi (e:Int))∧wq.cell? ⟨w.heap.size+1+1+1,2,none⟩=some (.int .u64 (f:Int)))) (go_keep) (first
   | (go_at_call 198;refine(HL'.out _).mono ?_;rintro z w5 ⟨rfl,b5'⟩;have ql5:=ql4d.later b5';have qf5:=qf4d.later b5';have qz5:=qz4d.later b5';have b5:=below_trans b4d b5';obtain⟨dl0,dl1,dl2,dl3,dl4,dl5,dl6,dl7,dl8⟩:=ql5.cs9;obtain⟨df0,df1,df2⟩:=qf5.cs3))
  clear ql4 ql4d qf4 qf4d qz4 qz4d b4 b4d b5' cl0 cl1 cl2 cl3 cl4 cl5 cl6 cl7 cl8 cf0 cf1 cf2;have bu:=((but_set w5 (w.heap.size+1+1) 0 (.bool s)).trans (but_set _ (w.heap.size+1+1) 1 (yi (e:Int)))).trans (but_set _ (w.heap.size+1+1) 2 (.int .u64 (f:Int)));have cR:LocE (((w5.setCell ⟨w.heap.size+1+1,0,none⟩ (.bool s)).setCell ⟨w.heap.size+1+1,1,none⟩ (yi (e:Int))).setCell ⟨w.heap.size+1+1,2,none⟩ (.int .u64 (f:Int))) (w.heap.size+1+1) 147 (yfL s (e:Int) (f:Int)):=(((qz5.set 0 (.bool s)).set 1 (yi (e:Int))).set 2 (.int .u64 (f:Int)));have bR:=bu.below b5 (by omega);have hl:=run_loadVar_mid (P:=Tryz.prog) _ (w.heap.size+1+1) 0 147 (yfL s (e:Int) (f:Int)) _ cR.range Tryz.underlying147 rfl (by kernel_rfl);have HH:Hid (_∧_):=⟨hl,bR⟩;obtain⟨yz0,yz1,yz2⟩:=qz5.cs3;have jz0:=qz5.free 0;have jz1:=qz5.free 1;have jz2:=qz5.free 2;obtain⟨yf0,yf1,yf2⟩:=qf5.cs3;clear hl bR cR bu
  go_wp2
  obtain⟨hl,bR⟩:=HH.out;exact bodyPost_ret (results_one Tryz.results204 rfl hl) rfl ⟨rfl,bR⟩
 )
end Go.Proofs.YtnhackdjplppjaaGreatDoor
namespace Go.Proofs.YtnhackdjplppjaaGreatDoor
open Go.RowKit
set_option maxHeartbeats 6400000 in
theorem heldW_num (R D L G fam:Int) (gr:Bool) (sz ex:Nat) (F:Nat) (s:Bool) (ao:Option Addr) (dn dc:Nat) (e:Int) (w:World) (zs:List Nat) (pn:Nat) (ps k1 k2 k3:Bool) (pw er:Int)
  (HR: ∀q w1,Below w.heap.size w w1→w1.cell? ⟨q,0,none⟩=some (.int .u32 1)→Calls Tryz.prog 86 #[yrV s (.slice ao dn dc) (.slice (some ⟨q,0,none⟩) 1 1) e,ygV R D L G gr,yi 3] w1 fun z w'=> ∃po pc,z= .returned (.tuple #[ypV ps (.slice po pn pc) pw k1 k2 k3,yi er])∧Rd w' .u32 (.slice po pn pc) zs∧Below w1.heap.size w1 w')
  (fs:Bool) (fe ff:Nat) (HF: ∀po pc w1,Below w.heap.size w w1→Rd w1 .u32 (.slice po pn pc) zs→Calls Tryz.prog 204 #[ylV R D L G gr (sz:Int) (ex:Int) fam F,ypV ps (.slice po pn pc) pw k1 k2 k3] w1 fun z w'=>z= .returned (yfV fs (fe:Int) (ff:Int))∧Below w1.heap.size w1 w')
  (st:ByteArray) (HW: ∀w1,Calls Tryz.prog 158 #[ylV R D L G gr (sz:Int) (ex:Int) fam F,yfV fs (fe:Int) (ff:Int)] w1 fun z w'=>z= .returned (.string st)∧Below w1.heap.size w1 w') (he:er=0) (hp:0<pn):
  Calls Tryz.prog 155 #[ylV R D L G gr (sz:Int) (ex:Int) fam F,ydV s (.slice ao dn dc) e] w fun z w'=>z= .returned (.tuple #[.string st,yi 0])∧Below w.heap.size w w':=by
 subst he;have HF':Hid _:=HF;clear HF;have HW':Hid _:=HW;clear HW;have hpb:((pn:Int)==0)=false:=by simp;omega
 have hsf:=hsf_z;have HR':Hid _:=HR;clear HR;have bd:=below_alloc (w.alloc (.cells (ylL R D L G gr (sz:Int) (ex:Int) fam F).toArray 144)) (.cells (ydL s (.slice ao dn dc) e).toArray 82);have bo:=below_alloc ((w.alloc (.cells (ylL R D L G gr (sz:Int) (ex:Int) fam F).toArray 144)).alloc (.cells (ydL s (.slice ao dn dc) e).toArray 82)) (.cells #[.int .u32 1] 141);have l0:=((locE_new w (ylL R D L G gr (sz:Int) (ex:Int) fam F) 144).later bd).later bo;have o0:=locE_new ((w.alloc (.cells (ylL R D L G gr (sz:Int) (ex:Int) fam F).toArray 144)).alloc (.cells (ydL s (.slice ao dn dc) e).toArray 82)) [.int .u32 1] 141;have b0:=below_trans (below_trans (below_alloc w (.cells (ylL R D L G gr (sz:Int) (ex:Int) fam F).toArray 144)) bd) bo;rw[World.size_alloc,World.size_alloc] at o0;clear bd bo
 go_enter Tryz.func155,Tryz.ntmps155
 go_wp2_with fail
 refine(HR'.out _ _ b0 (o0.cell 0 rfl)).mono ?_;rintro z w1 ⟨po,pc,rfl,rp,b1⟩;have bq:=below_alloc w1 (.cells (ypL ps (.slice po pn pc) pw k1 k2 k3).toArray 86);have l1:=(l0.later b1).later bq;have q1:=locE_new w1 (ypL ps (.slice po pn pc) pw k1 k2 k3) 86;have rp1:=rp.later bq;have b01:=below_trans (below_trans b0 b1) bq;clear l0 o0 b0 b1 bq rp HR';obtain⟨x0,x1,x2,x3,x4,x5,x6,x7,x8⟩:=l1.cs9;obtain⟨u0,u1,u2,u3,u4,u5⟩:=q1.cs6;have l1d:=l1.drew;have q1d:=q1.drew;have rp1d:=rp1.later (Below.refl _ _).drew;have b01d:=b01.drew;obtain⟨xd0,xd1,xd2,xd3,xd4,xd5,xd6,xd7,xd8⟩:=l1d.cs9;obtain⟨ud0,ud1,ud2,ud3,ud4,ud5⟩:=q1d.cs6
 go_wp2_with fail
 go_region_held3 (fun wq=>(wq.cell? ⟨w.heap.size,0,none⟩=some (yi R)∧wq.cell? ⟨w.heap.size,1,none⟩=some (yi D)∧wq.cell? ⟨w.heap.size,2,none⟩=some (yi L)∧wq.cell? ⟨w.heap.size,3,none⟩=some (yi G)∧wq.cell? ⟨w.heap.size,4,none⟩=some (.bool gr)∧wq.cell? ⟨w.heap.size,5,none⟩=some (yi (sz:Int))∧wq.cell? ⟨w.heap.size,6,none⟩=some (yi (ex:Int))∧wq.cell? ⟨w.heap.size,7,none⟩=some (yi fam)∧wq.cell? ⟨w.heap.size,8,none⟩=some (.func (.func F) #[] #[]))∧(wq.cell? ⟨w1.heap.size,0,none⟩=some (.bool ps)∧wq.cell? ⟨w1.heap.size,1,none⟩=some (.slice po pn pc)∧wq.cell? ⟨w1.heap.size,2,none⟩=some (yi pw)∧wq.cell? ⟨w1.heap.size,3,none⟩=some (.bool k1)∧wq.cell? ⟨w1.heap.size,4,none⟩=some (.bool k2)∧wq.cell? ⟨w1.heap.size,5,none⟩=some (.bool k3))) (go_keep) (first
  | (go_at_call 204;refine(HF'.out _ _ _ b01d rp1d).mono ?_;rintro z w2 ⟨rfl,b2⟩;have l2:=l1d.later b2;have q2:=q1d.later b2;have b02:=below_trans b01d b2;obtain⟨y0,y1,y2,y3,y4,y5,y6,y7,y8⟩:=l2.cs9;obtain⟨v0,v1,v2,v3,v4,v5⟩:=q2.cs6)
  | (go_at_call 158;refine(HW'.out _).mono ?_;rintro z w3 ⟨rfl,b3⟩;have l3:=l2.later b3;have q3:=q2.later b3;have b03:=below_trans b02 b3;obtain⟨t0,t1,t2,t3,t4,t5,t6,t7,t8⟩:=l3.cs9;obtain⟨g0,g1,g2,g3,g4,g5⟩:=q3.cs6))
 all_goals go_wp2
 all_goals go_ret2
 all_goals exact⟨rfl,b03⟩
end Go.Proofs.YtnhackdjplppjaaGreatDoor
namespace Go.Proofs.YtnhackdjplppjaaGreatDoor
open Go.RowKit
theorem rd_one {w:World} {q:Nat} (h:w.cell? ⟨q,0,none⟩=some (.int .u32 1)):Rd w .u32 (.slice (some ⟨q,0,none⟩) 1 1) [1]:=
 ⟨_,1,rfl,Nat.le_refl _,by unfold maxLen;omega,fun _=>⟨q,0,rfl,fun i hi=>by
  obtain rfl:i=0:=by simpa using hi
  exact h⟩⟩
theorem bareN_nil (a:Trip):(bare a).n=0↔a.n=0:=by
 by_cases h:a.n=0
 ·unfold bare
  rw[if_pos h];exact⟨fun _=>h,fun _=>rfl⟩
 ·unfold bare
  rw[if_neg h];obtain⟨m,hm⟩:=tz_spec h;have:=div_tz hm;exact⟨fun h2=>by simp only at h2;omega,fun h2=>absurd h2 h⟩
theorem leadN_lt64 {k:Nat} (hk:1≤k∧k≤8):leadN k<18446744073709551616:=by
 rcases eight hk with rfl|rfl|rfl|rfl|rfl|rfl|rfl|rfl<;>decide
def heE (R L:Int) (ld:Nat) (t:PlaceT):Nat:=(t.p-L).toNat+if R=2∧t.d&&& ld≠0 then 1 else 0
set_option maxHeartbeats 1600000 in
theorem held_pay (R D L G fam:Int) (gr:Bool) (sz ex:Nat) (F ld:Nat) (s:Bool) (ao:Option Addr) (ca:Nat) (xs:List Nat) (E:Int) (w:World) (WB:Bool→Nat→Nat→ByteArray)
  (hr:Rd w .u32 (.slice ao xs.length ca) xs) (sa:Dg.Small 4294967296 xs) (hd:dchk xs E=0) (h0:Dg.vl 4294967296 xs≠0) (hg:gridC R D L G=0) (h1:1≤D) (hLG:L≤G) (hD:widthN R*D.toNat≤64) (hGL:G-L<60000) (hRc:R=2∨R=16) (hld:ld<18446744073709551616)
  (hh:heldB R D L G gr (Dg.vl 4294967296 xs) E=true)
  (HL: ∀w1,Calls Tryz.prog 198 #[ylV R D L G gr (sz:Int) (ex:Int) fam F] w1 fun z w'=>z= .returned (.int .u64 (ld:Int))∧Below w1.heap.size w1 w')
  (HW: ∀ng e f w1,e<65536→f<18446744073709551616→Calls Tryz.prog 158 #[ylV R D L G gr (sz:Int) (ex:Int) fam F,yfV ng ((e:Nat):Int) ((f:Nat):Int)] w1 fun z w'=>z= .returned (.string (WB ng e f))∧Below w1.heap.size w1 w'):
  Calls Tryz.prog 155 #[ylV R D L G gr (sz:Int) (ex:Int) fam F,ydV s (.slice ao xs.length ca) E] w fun z w'=>z= .returned (.tuple #[.string (WB (roundT R D L G gr s (Dg.vl 4294967296 xs) 1 E 3).s (heE R L ld (roundT R D L G gr s (Dg.vl 4294967296 xs) 1 E 3)) (roundT R D L G gr s (Dg.vl 4294967296 xs) 1 E 3).d),yi 0])∧Below w.heap.size w w':=by
 obtain⟨c1,e1,e2⟩:=dchk_zero hd;have hlen:xs.length≠0:=fun h=>h0 (by rw[List.eq_nil_of_length_eq_zero h];rfl)
 have hC:roundC xs [1] E R D L G 3=0:=by
  have hq:ratioC xs [1] E=0:=by
   unfold ratioC;rw[if_pos c1,if_pos (show chk [1]=0 by decide),if_neg]
   rintro(h|h)
   ·simp at h
   ·unfold farB at h
    simp at h;omega
  have hw:wrongG (ratioC xs [1] E) (gridC R D L G)=0:=by unfold wrongG;rw[if_pos hq];exact hg
  unfold roundC;rw[if_pos hw,if_pos (by decide)]
 have hP:roundP xs [1] E R D L G gr s 3=roundT R D L G gr s (Dg.vl 4294967296 xs) 1 E 3:=by
  unfold roundP;rw[if_pos hC,if_neg hlen];rfl
 obtain⟨hov,hun,hbare⟩:=held_round (s:=s) (way:=3) h1 hLG h0 hh;have hsp:=round_spot h1 hLG h0 (by omega:(1:Nat)≠0) hov hun;have hR:=fun q w1 (b:Below w.heap.size w w1) (hc:w1.cell? ⟨q,0,none⟩=some (.int .u32 1))=>gRound_any s ao ca xs (some ⟨q,0,none⟩) 1 [1] E R D L G gr 3 w1 (hr.later b) (rd_one hc) sa (fun i=>by
  match i with
  |0=>decide
  |i+1=>simp)
 rw[hC,hP] at hR;obtain⟨t,ht⟩: ∃t,roundT R D L G gr s (Dg.vl 4294967296 xs) 1 E 3=t:=⟨_,rfl⟩;rw[ht] at hsp hbare hR⊢;have hd0:t.d≠0:=fun h=>by
  have hz:=congrArg Trip.n hbare;have a1:=(bareN_nil ⟨t.s,t.d,(widthN R:Int)*t.p⟩).2 h;rw[hz] at a1;exact h0 ((bareN_nil ⟨s,Dg.vl 4294967296 xs,E⟩).1 a1)
 obtain⟨-,hp1,hp2,hdl,-⟩:=hsp.resolve_left (fun h=>hd0 h.1)
 have hd64:t.d<18446744073709551616:=by
  have:(2:Nat)^ (widthN R*D.toNat)≤2^64:=Nat.pow_le_pow_right (by omega) hD;omega
 clear ht hov hun hbare hsp hC hP hh;obtain⟨e,he⟩: ∃e:Nat,t.p-L=(e:Int):=⟨(t.p-L).toNat,by omega⟩;have hel:e<60000:=by omega
 have hew:IntKind.i64.wrap (t.p-L)=(e:Int):=by rw[he];exact IntWalk.i64_in _ ⟨by omega,by omega⟩
 have hzl:(Dg.dg 4294967296 t.d).length≤2:=Dg.dg_len_le 4294967296 t.d 2 (by omega) hd64;have hzp:0< (Dg.dg 4294967296 t.d).length:=List.length_pos_iff.2 (by rw[Ne,Dg.dg_nil_iff 4294967296 t.d (by omega)];exact hd0);have HWd: ∀po pc w1,Rd w1 .u32 (.slice po (Dg.dg 4294967296 t.d).length pc) (Dg.dg 4294967296 t.d)→ ∀w2,Below w1.heap.size w1 w2→Calls Tryz.prog 226 #[.slice po (Dg.dg 4294967296 t.d).length pc] w2 fun z w'=>z= .returned (.int .u64 (t.d:Int))∧w2=w':=fun po pc w1 h w2 b=>by
  have:=word_any _ _ w2 (h.later b) (Dg.small_dg 4294967296 t.d (by omega)) hzl;rw[Dg.vl_dg 4294967296 t.d (by omega)] at this;exact this.mono (fun _ _ h=>⟨h.1,h.2.symm⟩)
 have hen:(t.p-L).toNat=e:=by omega
 unfold heE;rw[hen];have HR2: ∀q w1,Below w.heap.size w w1→w1.cell? ⟨q,0,none⟩=some (.int .u32 1)→Calls Tryz.prog 86 #[yrV s (.slice ao xs.length ca) (.slice (some ⟨q,0,none⟩) 1 1) E,ygV R D L G gr,yi 3] w1 fun z w'=> ∃po pc,z= .returned (.tuple #[ypV t.s (.slice po (Dg.dg 4294967296 t.d).length pc) t.p t.ex t.ov t.un,yi 0])∧Rd w' .u32 (.slice po (Dg.dg 4294967296 t.d).length pc) (Dg.dg 4294967296 t.d)∧Below w1.heap.size w1 w':=fun q w1 b hc=>(hR q w1 b hc).mono (fun z w' h=>by
  obtain⟨v,rfl,own,b2⟩:=h;obtain⟨po,pc,hv⟩:=own.rd.shape;subst hv;exact⟨po,pc,rfl,own.rd,b2⟩)
 rcases hRc with rfl|rfl
 ·by_cases hb:t.d&&& ld=0
  ·rw[if_neg (fun h=>h.2 hb),Nat.add_zero]
   exact heldW_num _ D L G fam gr sz ex F s ao xs.length ca E w (Dg.dg 4294967296 t.d) _ t.s t.ex t.ov t.un t.p 0 HR2 t.s e t.d (fun po pc w1 _ h=>fieldsOf_low D L G fam gr sz ex F t.s t.ex t.ov t.un po _ pc t.p e t.d w1 hew (by omega) (HWd po pc w1 h) ld 0 (by rw[u64_and_nat t.d ld hd64 hld,hb];rfl) rfl HL) _ (fun w1=>HW t.s e t.d w1 (by omega) hd64) rfl hzp
  ·rw[if_pos ⟨rfl,hb⟩]
   have hF: ∀po pc w1,Below w.heap.size w w1→Rd w1 .u32 (.slice po (Dg.dg 4294967296 t.d).length pc) (Dg.dg 4294967296 t.d)→_:=fun po pc w1 _ h=>fieldsOf_set D L G fam gr sz ex F t.s t.ex t.ov t.un po _ pc t.p e t.d w1 hew (by omega) (HWd po pc w1 h) ld ((t.d&&& ld:Nat):Int) (u64_and_nat t.d ld hd64 hld) (by omega) HL
   exact heldW_num _ D L G fam gr sz ex F s ao xs.length ca E w (Dg.dg 4294967296 t.d) _ t.s t.ex t.ov t.un t.p 0 HR2 t.s (e+1) t.d hF _ (fun w1=>HW t.s (e+1) t.d w1 (by omega) hd64) rfl hzp
 ·rw[if_neg (fun h=>by have:=h.1;omega),Nat.add_zero]
  exact heldW_num _ D L G fam gr sz ex F s ao xs.length ca E w (Dg.dg 4294967296 t.d) _ t.s t.ex t.ov t.un t.p 0 HR2 t.s e t.d (fun po pc w1 _ h=>fieldsOf_hex D L G fam gr sz ex F t.s t.ex t.ov t.un po _ pc t.p e t.d w1 hew (by omega) (HWd po pc w1 h)) _ (fun w1=>HW t.s e t.d w1 (by omega) hd64) rfl hzp
def gsI:Nat→Int
 |1=>104|2=>971|3=>16320|4=>57|5=>49|6=>103|7=>71|8=>970|_=>0
def plT (k:Nat) (s:Bool) (n:Nat) (E:Int):PlaceT:=roundT (rdN k:Int) (dgN k:Int) (lsI k) (gsI k) (decide (k≤3)) s n 1 E 3
theorem encodeHeld_any (k:Nat) (hk:1≤k∧k≤8) (s:Bool) (ao:Option Addr) (ca:Nat) (xs:List Nat) (E:Int) (w:World) (hr:Rd w .u32 (.slice ao xs.length ca) xs) (sa:Dg.Small 4294967296 xs) (hd:dchk xs E=0) (h0:Dg.vl 4294967296 xs≠0)
  (hh:heldB (rdN k:Int) (dgN k:Int) (lsI k) (gsI k) (decide (k≤3)) (Dg.vl 4294967296 xs) E=true):
  Calls Tryz.prog 155 #[.agg (layV k).toArray,ydV s (.slice ao xs.length ca) E] w fun z w'=>z= .returned (.tuple #[.string (strOf (wrtB k (plT k s (Dg.vl 4294967296 xs) E).s (heE (rdN k:Int) (lsI k) (leadN k) (plT k s (Dg.vl 4294967296 xs) E)) (plT k s (Dg.vl 4294967296 xs) E).d)),yi 0])∧Below w.heap.size w w':=by
 have HL:=fun w1=>llead_any k hk w1
 have HW:=fun ng e f w1 (he:e<65536) (hf:f<18446744073709551616)=>cwrite_any k hk ng e f w1 he hf
 have hl:=leadN_lt64 hk;unfold plT
 rcases eight hk with rfl|rfl|rfl|rfl|rfl|rfl|rfl|rfl
 all_goals exact held_pay _ _ _ _ _ _ _ _ _ _ s ao ca xs E w (fun ng e f=>strOf (wrtB _ ng e f)) hr sa hd h0 (by decide) (by decide) (by decide) (by decide) (by decide) (by decide) hl hh HL HW
end Go.Proofs.YtnhackdjplppjaaGreatDoor
namespace Go.Proofs.YtnhackdjplppjaaGreatDoor
open Go.RowKit
theorem en_short {c:Int} {t r:Trip} (h:dbothR c t=(r,0)):r=bare t∧dchk (Dg.dg 4294967296 r.n) r.e=0:=by
 unfold dbothR at h
 by_cases h0:c=0
 ·rw[if_pos h0] at h
  unfold shortT at h
  by_cases h1:1200< (Dg.dg 4294967296 (bare t).n).length
  ·rw[if_pos h1] at h
   simp at h
  ·rw[if_neg h1] at h
   by_cases h2:(bare t).e< -20000∨20000< (bare t).e
   ·rw[if_pos h2] at h
    simp at h
   ·rw[if_neg h2] at h
    simp only[Prod.mk.injEq,and_true] at h;subst h;have hn:=Dg.norm_dg 4294967296 (bare t).n (by omega);refine⟨rfl, ?_⟩;unfold dchk;rw[if_pos (chk_of hn (by omega)),if_neg h2]
 ·rw[if_neg h0] at h
  simp only[Prod.mk.injEq] at h;exact absurd h.2 h0
def enN (k:Nat) (ng:Bool) (xs:List Nat) (p:Int):Trip×Int:=
 dbothR (placeC xs p (rdN k:Int) (dgN k:Int) (lsI k) (gsI k)) ⟨ng,Dg.vl 4294967296 xs,(widthN (rdN k:Int):Int)*p⟩
def enH (k:Nat) (t:Trip):Bool:=ansH (Dg.dg 4294967296 t.n) t.e (rdN k:Int) (dgN k:Int) (lsI k) (gsI k) (decide (k≤3))
def enE (k:Nat) (ng:Bool) (xs:List Nat) (p:Int):Int:=
 if p< -20000∨20000<p then 3 else if xs.length=0 then 4 else if(enN k ng xs p).2=0∧enH k (enN k ng xs p).1=true then 0 else 4
def enS (k:Nat) (ng:Bool) (xs:List Nat) (p:Int):ByteArray:=
 if enE k ng xs p=0 then strOf (wrtB k (plT k (enN k ng xs p).1.s (enN k ng xs p).1.n (enN k ng xs p).1.e).s (heE (rdN k:Int) (lsI k) (leadN k) (plT k (enN k ng xs p).1.s (enN k ng xs p).1.n (enN k ng xs p).1.e)) (plT k (enN k ng xs p).1.s (enN k ng xs p).1.n (enN k ng xs p).1.e).d) else⟨#[]⟩
set_option maxHeartbeats 1600000 in
theorem encodeNumber_any (k:Nat) (hk:1≤k∧k≤8) (ng:Bool) (ao:Option Addr) (ca:Nat) (xs:List Nat) (p:Int) (w:World) (hr:Rd w .u32 (.slice ao xs.length ca) xs) (sa:Dg.Small 4294967296 xs) (hc:chk xs=0) (hT:Tab w):
  Calls Tryz.prog 99 #[.agg (layV k).toArray,yvV 2 ng (.slice ao xs.length ca) p] w fun z w'=>z= .returned (.tuple #[.string (enS k ng xs p),yi (enE k ng xs p)])∧Below w.heap.size w w':=by
 have key: ∀er,enE k ng xs p=er→enS k ng xs p=if er=0 then strOf (wrtB k (plT k (enN k ng xs p).1.s (enN k ng xs p).1.n (enN k ng xs p).1.e).s (heE (rdN k:Int) (lsI k) (leadN k) (plT k (enN k ng xs p).1.s (enN k ng xs p).1.n (enN k ng xs p).1.e)) (plT k (enN k ng xs p).1.s (enN k ng xs p).1.n (enN k ng xs p).1.e).d) else⟨#[]⟩:=fun er h=>by unfold enS;rw[h]
 by_cases hp:p< -20000∨20000<p
 ·have hE:enE k ng xs p=3:=if_pos hp
  rw[key 3 hE,hE,if_neg (by omega)]
  rcases hp with hp|hp
  ·rcases eight hk with rfl|rfl|rfl|rfl|rfl|rfl|rfl|rfl
   all_goals exact encNum_low _ _ _ _ _ _ _ _ _ 2 p ng ao xs.length ca w hp
  ·rcases eight hk with rfl|rfl|rfl|rfl|rfl|rfl|rfl|rfl
   all_goals exact encNum_high _ _ _ _ _ _ _ _ _ 2 p ng ao xs.length ca w hp
 ·have hp1: -20000≤p:=by omega
  have hp2:p≤20000:=by omega
  by_cases hl:xs.length=0
  ·have hE:enE k ng xs p=4:=by unfold enE;rw[if_neg hp,if_pos hl]
   rw[key 4 hE,hE,if_neg (by omega)]
   rcases eight hk with rfl|rfl|rfl|rfl|rfl|rfl|rfl|rfl
   all_goals exact encNum_empty _ _ _ _ _ _ _ _ _ 2 p ng ao xs.length ca w hp1 hp2 hl
  ·have hnx:Dg.vl 4294967296 xs≠0:=fun h=>by
    obtain⟨n1,-⟩:=chk_zero hc;exact Dg.vl_ne_zero 4294967296 (by omega) xs (by intro e;subst e;simp at hl) n1 h
   have HN1:=fun w1 (b:Below w.heap.size w w1)=>gNumber_any (rdN k:Int) (dgN k:Int) (lsI k) (gsI k) (decide (k≤3)) ng ao ca xs p false false false w1 (hr.later b) sa (hT.later b)
   have hen:dbothR (placeC xs p (rdN k:Int) (dgN k:Int) (lsI k) (gsI k)) ⟨ng,Dg.vl 4294967296 xs,(widthN (rdN k:Int):Int)*p⟩=enN k ng xs p:=rfl;rw[hen] at HN1;have hE:enE k ng xs p=if(enN k ng xs p).2=0∧enH k (enN k ng xs p).1=true then 0 else 4:=by unfold enE;rw[if_neg hp,if_neg hl]
   have hfact:(enN k ng xs p).2=0→(enN k ng xs p).1.n≠0∧dchk (Dg.dg 4294967296 (enN k ng xs p).1.n) (enN k ng xs p).1.e=0:=fun h=>by
    have h2:=en_short (show dbothR (placeC xs p (rdN k:Int) (dgN k:Int) (lsI k) (gsI k)) ⟨ng,Dg.vl 4294967296 xs,(widthN (rdN k:Int):Int)*p⟩=((enN k ng xs p).1,0) from by rw[hen];exact Prod.ext rfl h)
    obtain⟨h3,h4⟩:=h2;refine⟨fun h5=> ?_,h4⟩
    rw[h3] at h5;exact hnx ((bareN_nil ⟨ng,Dg.vl 4294967296 xs,(widthN (rdN k:Int):Int)*p⟩).1 h5)
   clear hen;generalize enN k ng xs p=r at*;obtain⟨t,er⟩:=r;simp only at hE hfact key HN1⊢;have HN: ∀w1,Below w.heap.size w w1→Calls Tryz.prog 154 #[.agg (layV k).toArray,yvV 2 ng (.slice ao xs.length ca) p] w1 (DAns w1 (t,er)):=fun w1 b=>by
    rcases eight hk with rfl|rfl|rfl|rfl|rfl|rfl|rfl|rfl
    all_goals exact lnumber_W _ _ _ _ _ _ _ _ _ 2 p ng ao xs.length ca (t,er) w1 (fun w2 b2=>HN1 w2 (below_trans b b2))
   by_cases her:er=0
   ·obtain⟨hn0,hdc⟩:=hfact her
    have sm:=Dg.small_dg 4294967296 t.n (by omega);have HH:=fun so sc w1 (b:Below w.heap.size w w1) (h:Rd w1 .u32 (.slice so (Dg.dg 4294967296 t.n).length sc) (Dg.dg 4294967296 t.n))=>gHolds_any (rdN k:Int) (dgN k:Int) (lsI k) (gsI k) (decide (k≤3)) t.s so sc (Dg.dg 4294967296 t.n) t.e w1 h sm (hT.later b)
    have hgr:gridC (rdN k:Int) (dgN k:Int) (lsI k) (gsI k)=0:=by
     rcases eight hk with rfl|rfl|rfl|rfl|rfl|rfl|rfl|rfl<;>decide
    have hon:onC (dchk (Dg.dg 4294967296 t.n) t.e) (gridC (rdN k:Int) (dgN k:Int) (lsI k) (gsI k))=0:=by unfold onC;rw[if_pos hdc];exact hgr
    rw[hon] at HH
    by_cases hq:enH k t=true
    ·rw[if_pos ⟨her,hq⟩] at hE
     rw[key 0 hE,hE,if_pos rfl];have hq':ansH (Dg.dg 4294967296 t.n) t.e (rdN k:Int) (dgN k:Int) (lsI k) (gsI k) (decide (k≤3))=true:=hq;have hheld:heldB (rdN k:Int) (dgN k:Int) (lsI k) (gsI k) (decide (k≤3)) (Dg.vl 4294967296 (Dg.dg 4294967296 t.n)) t.e=true:=by
      have h:=hq';unfold ansH at h;rw[if_pos hon] at h;exact h
     have HE:=fun so sc w1 (_b:Below w.heap.size w w1) (h:Rd w1 .u32 (.slice so (Dg.dg 4294967296 t.n).length sc) (Dg.dg 4294967296 t.n))=>encodeHeld_any k hk t.s so sc (Dg.dg 4294967296 t.n) t.e w1 h sm hdc (by rw[Dg.vl_dg 4294967296 t.n (by omega)];exact hn0) hheld
     rw[Dg.vl_dg 4294967296 t.n (by omega)] at HE;rw[hq'] at HH;generalize strOf (wrtB k (plT k t.s t.n t.e).s (heE (rdN k:Int) (lsI k) (leadN k) (plT k t.s t.n t.e)) (plT k t.s t.n t.e).d)=st at*
     rcases eight hk with rfl|rfl|rfl|rfl|rfl|rfl|rfl|rfl
     all_goals exact encNum_held _ _ _ _ _ _ _ _ _ 2 p ng ao xs.length ca w t er HN true 0 HH st 0 HE hp1 hp2 (by omega) her rfl rfl
    ·have hqf:ansH (Dg.dg 4294967296 t.n) t.e (rdN k:Int) (dgN k:Int) (lsI k) (gsI k) (decide (k≤3))=false:=by
      have:enH k t=false:=by simpa using hq
      exact this
     rw[if_neg (fun h=>hq h.2)] at hE
     rw[key 4 hE,hE,if_neg (by omega)];rw[hqf] at HH
     rcases eight hk with rfl|rfl|rfl|rfl|rfl|rfl|rfl|rfl
     all_goals exact encNum_off0 _ _ _ _ _ _ _ _ _ 2 p ng ao xs.length ca w t er HN false 0 HH hp1 hp2 (by omega) her rfl rfl
   ·rw[if_neg (fun h=>her h.1)] at hE
    rw[key 4 hE,hE,if_neg (by omega)]
    rcases eight hk with rfl|rfl|rfl|rfl|rfl|rfl|rfl|rfl
    all_goals exact encNum_far _ _ _ _ _ _ _ _ _ 2 p ng ao xs.length ca w t er HN hp1 hp2 (by omega) her
end Go.Proofs.YtnhackdjplppjaaGreatDoor
namespace Go.Proofs.YtnhackdjplppjaaGreatDoor
open Go.RowKit
theorem parts_one (n:Nat) (x:Int):numP n x/denP 1 x=shN n x:=by
 unfold numP denP shN
 by_cases h:x<0
 ·rw[if_pos h,if_pos h,if_pos h,Nat.one_mul]
 ·rw[if_neg h,if_neg h,if_neg h,Nat.div_one]
theorem held_place {R D L G:Int} {gr s:Bool} {n:Nat} {e way:Int} (h1:1≤D) (hLG:L≤G) (h0:n≠0) (hh:heldB R D L G gr n e=true):
  (roundT R D L G gr s n 1 e way).s=s∧(roundT R D L G gr s n 1 e way).d=shN n (e-(widthN R:Int)*spotK R D L gr n e)∧(roundT R D L G gr s n 1 e way).p=spotK R D L gr n e∧shN n (e-(widthN R:Int)*spotK R D L gr n e)≠0:=by
 have hM:(1:Nat)≠0:=by omega
 have hb:=(held_round (s:=s) (way:=way) h1 hLG h0 hh).2.2;have hs:L≤spotK R D L gr n e∧spotK R D L gr n e≤G∧(widthN R:Int)*spotK R D L gr n e≤e+(tz n:Int):=by
  unfold heldB at hh
  rcases of_decide_eq_true hh with h|h
  ·exact absurd h h0
  ·exact h
 have hc:cutP R D L gr n 1 e=spotK R D L gr n e:=by
  unfold cutP spotK;rw[topQ_one h0]
 obtain⟨p1,-⟩:=one_parts s n e ((widthN R:Int)*spotK R D L gr n e) hs.2.2;have hl:leftP R D L gr n 1 e=0:=by
  unfold leftP shP;rw[hc];exact p1
 have hd:digP R D L gr s n 1 e way=wholeP R D L gr n 1 e:=by
  unfold digP;rw[if_neg];rintro⟨c,-⟩;exact of_decide_eq_false c hl
 obtain⟨c1,c2⟩:=dig_short R D L gr n 1 e h1 h0 hM (cutP R D L gr n 1 e);have hw:wholeP R D L gr n 1 e=shN n (e-(widthN R:Int)*spotK R D L gr n e):=by
  unfold wholeP shP;rw[hc,parts_one]
 have hdn:(roundT R D L G gr s n 1 e way).d≠0:=fun hz=>by
  have h2:(bare ⟨(roundT R D L G gr s n 1 e way).s,(roundT R D L G gr s n 1 e way).d,(widthN R:Int)*(roundT R D L G gr s n 1 e way).p⟩).n=0:=(bareN_nil _).2 hz;rw[hb] at h2;exact h0 ((bareN_nil _).1 h2)
 rw[roundT_flat gr s n 1 e way h1 hLG h0 hM,hd,c1,c2,hc] at hdn⊢;simp only at hdn⊢;rw[if_neg hdn];rw[hw] at hdn⊢;exact⟨trivial,rfl,rfl,hdn⟩
end Go.Proofs.YtnhackdjplppjaaGreatDoor
namespace Go.Proofs.YtnhackdjplppjaaGreatDoor
open Go.RowKit
def wdI (R:Int):Int:=if R=16 then 4 else 1
structure NumF (w:World) (bn bf:Nat) (ng:Bool) (fv:List Value) (v:Value) (m:Nat) (w':World):Prop where
 q:LocE w' w.heap.size 32 (yoL 0 false false (.slice none 0 0) 0)
 f:LocE w' bf 58 fv
 n:w'.cell? ⟨bn,0,none⟩=some (.bool ng)
 b:Below w.heap.size w w'
 r:Rd w' .i64 v (Dg.dg 65536 m)
theorem NumF.later {w w1 w2:World} {bn bf:Nat} {ng:Bool} {fv:List Value} {v:Value} {m:Nat} (h:NumF w bn bf ng fv v m w1) (b:Below w1.heap.size w1 w2):NumF w bn bf ng fv v m w2:=
 ⟨h.q.later b,h.f.later b,cell_later b h.n,below_trans h.b b,h.r.later b⟩
end Go.Proofs.YtnhackdjplppjaaGreatDoor

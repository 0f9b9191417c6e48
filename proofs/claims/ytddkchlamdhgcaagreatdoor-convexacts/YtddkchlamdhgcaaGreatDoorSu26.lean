/-
  Texts laid together: Co9, Co11, Co12, Co13, Co14, Co17, Ar1, Gh1, Gn1.
-/
import Derived.Test.YtddkchlamdhgcaaGreatDoorSu07
import Derived.Test.YtddkchlamdhgcaaGreatDoorSu11
import Derived.Test.YtddkchlamdhgcaaGreatDoorSu12
set_option maxRecDepth 100000
set_option maxHeartbeats 12800000
namespace Go.Proofs.YtddkchlamdhgcaaGreatDoor
open _root_.Go.Proofs.Tryz
open Go.RowKit
theorem L6 (R D L G sz ex fam fr:Int)(gr:Bool)(F:Nat)(w:World)(hlt:fr<D)
  (HF:yJ 115 #[ylV R D L G gr sz ex fam F] (yi fr)):
  yC 124 #[ylV R D L G gr sz ex fam F] w (yR w (.int .u64 0)):=by
 have hsf:=cD;replace HF:Hid _:=HF;have l0:=ah w (ylL R D L G gr sz ex fam F) 116;have b0:=af w (.cells (ylA R D L G gr sz ex fam F) 116);obtain⟨x0,x1,x2,x3,x4,x5,x6,x7,x8⟩:=l0.cs9
 go_enter func124,ntmps124
 go_wp2_with fail
 go_region_held3 (fun wq=>wq.cell? ⟨w.heap.size,0,none⟩=some (yi R)∧wq.cell? ⟨w.heap.size,1,none⟩=some (yi D)∧wq.cell? ⟨w.heap.size,2,none⟩=some (yi L)∧wq.cell? ⟨w.heap.size,3,none⟩=some (yi G)∧wq.cell? ⟨w.heap.size,4,none⟩=some (.bool gr)∧wq.cell? ⟨w.heap.size,5,none⟩=some (yi sz)∧wq.cell? ⟨w.heap.size,6,none⟩=some (yi ex)∧wq.cell? ⟨w.heap.size,7,none⟩=some (yi fam)∧wq.cell? ⟨w.heap.size,8,none⟩=some (.func (.func F) #[] #[])) (go_keep) (first
  | (go_at_call 115;refine(HF.out _).mono ?_;rintro z w2 ⟨rfl,b2⟩;have l2:=l0.drew.l b2;obtain⟨y0,y1,y2,y3,y4,y5,y6,y7,y8⟩:=l2.cs9))
 all_goals go_wp2
 all_goals go_ret
 all_goals exact⟨rfl,aa b0.drew b2⟩
theorem L7 (R D L G sz ex fam fr ld:Int)(gr:Bool)(F:Nat)(w:World)(hlt: ¬fr<D)
  (HF:yJ 115 #[ylV R D L G gr sz ex fam F] (yi fr))
  (HL:yJ 116 #[ylV R D L G gr sz ex fam F] (.int .u64 ld)):
  yC 124 #[ylV R D L G gr sz ex fam F] w (yR w (.int .u64 ld)):=by
 have hsf:=cD;replace HF:Hid _:=HF;replace HL:Hid _:=HL;have l0:=ah w (ylL R D L G gr sz ex fam F) 116;have b0:=af w (.cells (ylA R D L G gr sz ex fam F) 116);obtain⟨x0,x1,x2,x3,x4,x5,x6,x7,x8⟩:=l0.cs9
 go_enter func124,ntmps124
 go_wp2_with fail
 go_region_held3 (fun wq=>wq.cell? ⟨w.heap.size,0,none⟩=some (yi R)∧wq.cell? ⟨w.heap.size,1,none⟩=some (yi D)∧wq.cell? ⟨w.heap.size,2,none⟩=some (yi L)∧wq.cell? ⟨w.heap.size,3,none⟩=some (yi G)∧wq.cell? ⟨w.heap.size,4,none⟩=some (.bool gr)∧wq.cell? ⟨w.heap.size,5,none⟩=some (yi sz)∧wq.cell? ⟨w.heap.size,6,none⟩=some (yi ex)∧wq.cell? ⟨w.heap.size,7,none⟩=some (yi fam)∧wq.cell? ⟨w.heap.size,8,none⟩=some (.func (.func F) #[] #[])) (go_keep) (first
  | (go_at_call 115;refine(HF.out _).mono ?_;rintro z w2 ⟨rfl,b2⟩;have l2:=l0.drew.l b2;obtain⟨y0,y1,y2,y3,y4,y5,y6,y7,y8⟩:=l2.cs9))
 all_goals go_wp2_with fail
 all_goals (refine(HL.out _).mono ?_;rintro z w3 ⟨rfl,b3⟩;go_wp2;go_ret;exact⟨rfl,aa (aa b0.drew b2) b3⟩)
theorem Ra (R D L G fam sz ex on wr:Int)(gr ng:Bool)(F:Nat)(e f:Int)(w:World)(HO:yJ 123 #[ylV R D L G gr sz ex fam F] (yi on))(HW:yJ 124 #[ylV R D L G gr sz ex fam F] (.int .u64 wr))(h1:on=e)(h2:wr=f)(_h0:(on==0)=false):yC 112 #[ylV R D L G gr sz ex fam F,yfV ng e f] w (yR w (yi 3)):=by
 have hsf:=cD;replace HO:Hid _:=HO;replace HW:Hid _:=HW;have l0:=(ah w (ylL R D L G gr sz ex fam F) 116).l (af _ (.cells (yfA ng e f) 119));have m0:=ah (w.alloc (.cells (ylA R D L G gr sz ex fam F) 116)) (yfL ng e f) 119;have b0:=aa (af w (.cells (ylA R D L G gr sz ex fam F) 116)) (af _ (.cells (yfA ng e f) 119));rw[World.size_alloc] at m0;subst h1 h2;obtain⟨x0,x1,x2,x3,x4,x5,x6,x7,x8⟩:=l0.cs9;obtain⟨u0,u1,u2⟩:=m0.cs3
 go_enter func112,ntmps112
 go_wp2_with fail
 go_region_held3 (fun wq=>(wq.cell? ⟨w.heap.size,0,none⟩=some (yi R)∧wq.cell? ⟨w.heap.size,1,none⟩=some (yi D)∧wq.cell? ⟨w.heap.size,2,none⟩=some (yi L)∧wq.cell? ⟨w.heap.size,3,none⟩=some (yi G)∧wq.cell? ⟨w.heap.size,4,none⟩=some (.bool gr)∧wq.cell? ⟨w.heap.size,5,none⟩=some (yi sz)∧wq.cell? ⟨w.heap.size,6,none⟩=some (yi ex)∧wq.cell? ⟨w.heap.size,7,none⟩=some (yi fam)∧wq.cell? ⟨w.heap.size,8,none⟩=some (.func (.func F) #[] #[]))∧(wq.cell? ⟨w.heap.size+1,0,none⟩=some (.bool ng)∧wq.cell? ⟨w.heap.size+1,1,none⟩=some (yi on)∧wq.cell? ⟨w.heap.size+1,2,none⟩=some (.int .u64 wr))) (go_keep) (first
  | (go_at_call 123;refine(HO.out _).mono ?_;rintro z w2 ⟨rfl,b2⟩;have l2:=l0.drew.l b2;have m2:=m0.drew.l b2;have b02:=aa b0.drew b2;obtain⟨y0,y1,y2,y3,y4,y5,y6,y7,y8⟩:=l2.cs9;obtain⟨v0,v1,v2⟩:=m2.cs3)
  | (go_at_call 124;refine(HW.out _).mono ?_;rintro z w3 ⟨rfl,b3⟩;have l3:=l2.l b3;have m3:=m2.l b3;have b03:=aa b02 b3;obtain⟨z0,z1,z2,z3,z4,z5,z6,z7,z8⟩:=l3.cs9;obtain⟨t0,t1,t2⟩:=m3.cs3))
 all_goals go_wp2
 all_goals go_ret
 all_goals exact⟨rfl,b03⟩
theorem Zd (D L G sz ex fam ld o:Int)(gr ng:Bool)(F e f:Nat)(w:World)(h1:((e:Int)==0)=false)(ho:bits .or .u64 f ld=o)
  (hw1:IntKind.i64.wrap (L+(e:Int))=L+(e:Int)) (hw2:IntKind.i64.wrap (L+(e:Int)-1)=L+(e:Int)-1)
  (HL:yJ 116 #[ylV 2 D L G gr sz ex fam F] (.int .u64 ld)):
  yC 80 #[ylV 2 D L G gr sz ex fam F,yfV ng e f] w (yR w (.tuple #[.int .u64 o,yi (L+(e:Int)-1)])):=by
 replace HL:Hid _:=HL;have hsf:=cD;have l0:=(ah w (ylL 2 D L G gr sz ex fam F) 116).l (af _ (.cells (yfA ng e f) 119));have m0:=ah (w.alloc (.cells (ylA 2 D L G gr sz ex fam F) 116)) (yfL ng e f) 119;have b0:=aa (af w (.cells (ylA 2 D L G gr sz ex fam F) 116)) (af _ (.cells (yfA ng e f) 119));rw[World.size_alloc] at m0;obtain⟨x0,x1,x2,x3,x4,x5,x6,x7,x8⟩:=l0.cs9;obtain⟨u0,u1,u2⟩:=m0.cs3
 go_enter func80,ntmps80
 go_wp2_with fail
 go_region_held3 (fun wq=>(wq.cell? ⟨w.heap.size,0,none⟩=some (yi 2)∧wq.cell? ⟨w.heap.size,1,none⟩=some (yi D)∧wq.cell? ⟨w.heap.size,2,none⟩=some (yi L)∧wq.cell? ⟨w.heap.size,3,none⟩=some (yi G)∧wq.cell? ⟨w.heap.size,4,none⟩=some (.bool gr)∧wq.cell? ⟨w.heap.size,5,none⟩=some (yi sz)∧wq.cell? ⟨w.heap.size,6,none⟩=some (yi ex)∧wq.cell? ⟨w.heap.size,7,none⟩=some (yi fam)∧wq.cell? ⟨w.heap.size,8,none⟩=some (.func (.func F) #[] #[]))∧(wq.cell? ⟨w.heap.size+1,0,none⟩=some (.bool ng)∧wq.cell? ⟨w.heap.size+1,1,none⟩=some (yi e)∧wq.cell? ⟨w.heap.size+1,2,none⟩=some (.int .u64 f))) (go_keep) (first
  | (go_at_call 116;refine(HL.out _).mono ?_;rintro z w2 ⟨rfl,b2⟩;have l2:=l0.drew.l b2;have m2:=m0.drew.l b2;have b02:=aa b0.drew b2;obtain⟨y0,y1,y2,y3,y4,y5,y6,y7,y8⟩:=l2.cs9;obtain⟨v0,v1,v2⟩:=m2.cs3))
 all_goals go_wp2
 all_goals go_ret2
 all_goals exact⟨by first|rfl|simp[Act.put],b02⟩
theorem Uz {P:Program}(W:World)(src dst e:TypeId)(s:ByteArray)(hs:P.underlying src=some .string)(hd:P.underlying dst=some (.slice e))(he:P.underlying e=some (.int .u8)):
  ∃W1 cap,(convert src dst (.string s)).run P W= .ok (.slice (some ⟨W.heap.size,0,none⟩) s.size cap) W1∧ik W1 W.heap.size (jr s)∧yB W W1:=by
 refine⟨_,_,run_bytes_of_string W src dst e s hs hd he, ?_, ?_⟩
 ·refine⟨fun i hi=> ?_,fun i hi=> ?_, ?_⟩
  ·have hi':i<s.data.size:=by rw[oV] at hi;exact hi
   rw[show W.heap.size=W.drew.heap.size from rfl,World.cell?_alloc_mark,bytesRow_at s _ i hi',jr,List.getD_eq_getElem?_getD,List.getElem?_map,Array.getElem?_toList,Array.getElem?_eq_getElem hi']
   rfl
  ·have hi':i<s.data.size:=by rw[oV] at hi;exact hi
   rw[show W.heap.size=W.drew.heap.size from rfl,World.frozen?_alloc_mark]
   have: ¬((bytesRow s (grownCap W s.size 0 e)).size≤i):=by
    unfold bytesRow;rw[Array.size_append,Array.size_map];omega
   simp[this]
  ·show W.heap.size< (W.drew.alloc _).heap.size
   rw[World.size_alloc];exact Nat.lt_succ_self _
 ·exact((Below.refl _ _).drew).alloc (Nat.le_refl _) _
theorem acf (R D L G fam:Int)(gr:Bool)(sz ex fr:Nat)(F:Nat)(s:ByteArray)(ts:List Nat)(w:World)(hs:s.size=sz)(hlen:ts.length=sz)(hsm:Dg.Small 256 ts)(hfr:1+ex+fr=8*sz)(hex:ex≤15)(hsz:sz≤10)(hfr64:fr≤64)
  (HT: ∀g cap w1,ik w1 g (jr s)→yC F #[.slice (some ⟨g,0,none⟩) sz cap] w1 fun z w'=>z= .returned (.tuple #[])∧ik w' g ts∧w1.grownBy w' (some g))
  (HFR:yJ 115 #[ylV R D L G gr sz ex fam F] (yi fr))
  (HE: ∀args W,Sem.run Tryz.prog (callFunc F args) W= .ok (.enter F args) W):
  yC 79 #[ylV R D L G gr sz ex fam F,.string s] w (yR w (yfV (decide (eH ts 0 1=1)) ((eH ts 1 ex:Nat):Int) ((eH ts (1+ex) fr:Nat):Int))):=by
 have hsf:=cD;have l0:=(ah w (ylL R D L G gr sz ex fam F) 116).l (af _ (.cells (yfA false 0 0) 119));have m0:=ah (w.alloc (.cells (ylA R D L G gr sz ex fam F) 116)) (yfL false 0 0) 119;have b0:=aa (af w (.cells (ylA R D L G gr sz ex fam F) 116)) (af _ (.cells (yfA false 0 0) 119));rw[World.size_alloc] at m0;have H2:((w.alloc (.cells (ylA R D L G gr sz ex fam F) 116)).alloc (.cells (yfA false 0 0) 119)).heap.size=w.heap.size+2:=by rw[World.size_alloc,World.size_alloc]
 obtain⟨W1,cap,hrun,hrow,hbel⟩:=Uz (P:=Tryz.prog) ((w.alloc (.cells (ylA R D L G gr sz ex fam F) 116)).alloc (.cells (yfA false 0 0) 119)) 9 193 5 s underlying9 underlying193 underlying5;have l1:=l0.l hbel;have m1:=m0.l hbel;have b1:=aa b0 hbel;rw[H2] at hrun hrow;rw[hs] at hrun;obtain⟨g,hg⟩: ∃g,w.heap.size+2=g:=⟨_,rfl⟩;rw[hg] at hrun hrow;have x8:=l1.c 8 rfl;have HT':Hid _:=HT;have HFR':Hid _:=HFR;have HHg:Hid _:=hg;have HL:Hid (_∧_):=⟨hlen,hfr⟩;obtain⟨n0,hn0⟩: ∃n,eH ts 0 1=n:=⟨_,rfl⟩;obtain⟨n1,hn1⟩: ∃n,eH ts 1 ex=n:=⟨_,rfl⟩;obtain⟨n2,hn2⟩: ∃n,eH ts (1+ex) fr=n:=⟨_,rfl⟩;rw[hn0,hn1,hn2];have HN:Hid (_∧_∧_):=⟨hn0,hn1,hn2⟩;have hd0:((n0:Int)==1)=decide (n0=1):=by
  by_cases h:n0=1
  ·subst h;rfl
  ·rw[decide_eq_false h];simp;omega
 obtain⟨q0,hq0⟩: ∃q,decide (n0=1)=q:=⟨_,rfl⟩;rw[hq0] at hd0⊢;clear HT HFR hg hlen hfr hn0 hn1 hn2 hq0
 go_enter func79,ntmps79
 go_wp2_with fail
 refine(HT'.out _ _ _ hrow).mono ?_;rintro z w2 ⟨rfl,r2,g2⟩;have hgg:=HHg.out;have l2:=(l1.grown g2 (by omega)).drew;have m2:=(m1.grown g2 (by omega)).drew;have b2:=(b1.grown g2 b1.size (fun k h=>by cases h;omega)).drew
 have r2':=r2.drew;obtain⟨hlen,hfr⟩:=HL.out;have HB0:Hid (∀w1,ik w1 g ts→yC 114 #[.slice (some ⟨g,0,none⟩) sz cap,yi 0,yi 1] w1 fun z w'=>z= .returned (.int .u64 ((eH ts 0 1:Nat):Int))∧w1=w'):=fun w1 h=>by
  have:=Cr g cap ts 0 1 w1 h hsm (by omega) (by omega) (by omega);rw[hlen] at this;exact this.mono (fun _ _ h=>⟨h.1,h.2.symm⟩)
 have HB1:Hid (∀w1,ik w1 g ts→yC 114 #[.slice (some ⟨g,0,none⟩) sz cap,yi 1,yi ex] w1 fun z w'=>z= .returned (.int .u64 ((eH ts 1 ex:Nat):Int))∧w1=w'):=fun w1 h=>by
  have:=Cr g cap ts 1 ex w1 h hsm (by omega) (by omega) (by omega);rw[hlen] at this;exact this.mono (fun _ _ h=>⟨h.1,h.2.symm⟩)
 have HB2:Hid (∀w1,ik w1 g ts→yC 114 #[.slice (some ⟨g,0,none⟩) sz cap,yi (1+(ex:Int)),yi fr] w1 fun z w'=>z= .returned (.int .u64 ((eH ts (1+ex) fr:Nat):Int))∧w1=w'):=fun w1 h=>by
  have:=Cr g cap ts (1+ex) fr w1 h hsm (by omega) (by omega) (by omega);rw[hlen,show(((1+ex:Nat):Nat):Int)=1+(ex:Int) from by omega] at this
  exact this.mono (fun _ _ h=>⟨h.1,h.2.symm⟩)
 have h1l:=gh ts 1 ex;have h1p:(2:Nat)^ex≤2^15:=Nat.pow_le_pow_right (by omega) hex;obtain⟨hn0,hn1,hn2⟩:=HN.out;rw[hn0] at HB0;rw[hn1] at HB1 h1l;rw[hn2] at HB2;have hn1b:n1<32768:=by omega
 clear hn0 hn1 hn2 h1l h1p hlen hfr l0 l1 m0 m1 b0 b1 r2 hrow hrun hbel x8 H2 hgg;have hexI:(ex:Int)≤15:=by omega
 have hwr:IntKind.i64.wrap (1+(ex:Int))=1+(ex:Int):=IntWalk.i64_in _ ⟨by omega,by omega⟩;have hwn:IntKind.i64.wrap (n1:Int)=(n1:Int):=IntWalk.i64_in _ ⟨by omega,by omega⟩;obtain⟨x0,x1,x2,x3,x4,x5,x6,x7,x8⟩:=l2.cs9
 go_wp2_with fail
 go_region_held3 (fun wq=>wq.cell? ⟨w.heap.size,0,none⟩=some (yi R)∧wq.cell? ⟨w.heap.size,1,none⟩=some (yi D)∧wq.cell? ⟨w.heap.size,2,none⟩=some (yi L)∧wq.cell? ⟨w.heap.size,3,none⟩=some (yi G)∧wq.cell? ⟨w.heap.size,4,none⟩=some (.bool gr)∧wq.cell? ⟨w.heap.size,5,none⟩=some (yi sz)∧wq.cell? ⟨w.heap.size,6,none⟩=some (yi ex)∧wq.cell? ⟨w.heap.size,7,none⟩=some (yi fam)∧wq.cell? ⟨w.heap.size,8,none⟩=some (.func (.func F) #[] #[])) (go_keep) (first
  | (go_at_call 115;refine(HFR'.out _).mono ?_;rintro z w5 ⟨rfl,b5⟩;have l5:=l2.l b5;have m5:=m2.l b5;have b05:=aa b2 b5;have r5:=r2'.l b5;obtain⟨y0,y1,y2,y3,y4,y5,y6,y7,y8⟩:=l5.cs9;obtain⟨u0,u1,u2⟩:=m5.cs3;have f0:=m5.f 0;have f1:=m5.f 1;have f2:=m5.f 2)
  | (go_at_call 114;(with_reducible (refine(HB0.out _ (by assumption)).mono ?_));rintro z wv ⟨rfl,rfl⟩)
  | (go_at_call 114;(with_reducible (refine(HB1.out _ (by assumption)).mono ?_));rintro z wv ⟨rfl,rfl⟩)
  | (go_at_call 114;(with_reducible (refine(HB2.out _ (by assumption)).mono ?_));rintro z wv ⟨rfl,rfl⟩))
 have cR:au (((w5.setCell ⟨w.heap.size+1,0,none⟩ (.bool q0)).setCell ⟨w.heap.size+1,1,none⟩ (yi (n1:Int))).setCell ⟨w.heap.size+1,2,none⟩ (.int .u64 (n2:Int))) (w.heap.size+1) 119 (yfL q0 (n1:Int) (n2:Int)):=((m5.set 0 (.bool q0)).set 1 (yi (n1:Int))).set 2 (.int .u64 (n2:Int));have bR:=(((ag w5 (w.heap.size+1) 0 (.bool q0)).trans (ag _ (w.heap.size+1) 1 (yi (n1:Int)))).trans (ag _ (w.heap.size+1) 2 (.int .u64 (n2:Int)))).below b05 (by omega);have hl:=run_loadVar_mid (P:=Tryz.prog) _ (w.heap.size+1) 0 119 (yfL q0 (n1:Int) (n2:Int)) _ cR.range underlying119 rfl (by kernel_rfl);have HH:Hid (_∧_):=⟨hl,bR⟩;clear hl bR cR l2 m2 b2 l5 m5 b05
 go_wp2
 obtain⟨hl,bR⟩:=HH.out;exact bodyPost_ret (br results79 rfl hl) rfl ⟨rfl,bR⟩
theorem N7 (n:Int)(R sz ex:Nat)(D L G fam:Int)(gr:Bool)(F:Nat)(ng:Bool)(e f:Nat)(s:ByteArray)(w:World)(hs:s.size=sz)
  (HL:yJ 57 #[yi n] (.tuple #[ylV R D L G gr sz ex fam F,yi 0]))
  (HR:yJ 79 #[ylV R D L G gr sz ex fam F,.string s] (yfV ng e f)):
  yC 55 #[yi n,.string s] w (yR w (.tuple #[ylV R D L G gr sz ex fam F,yfV ng e f,yi 0])):=by
 have hsf:=cD;have hsn:=gn;have bl:=af w (.cells (yzA 0 0 0 0 false 0 0 0) 116);have bf:=af (w.alloc (.cells (yzA 0 0 0 0 false 0 0 0) 116)) (.cells (yfA false 0 0) 119);have l0:=(ah w (yzL 0 0 0 0 false 0 0 0) 116).l bf;have m0:=ah (w.alloc (.cells (yzA 0 0 0 0 false 0 0 0) 116)) (yfL false 0 0) 119;have b0:=aa bl bf;rw[World.size_alloc] at m0;clear bl bf;have HL':Hid _:=HL;have HR':Hid _:=HR;clear HL HR
 go_enter func55,ntmps55
 go_wp2_with fail
 refine(HL'.out _).mono ?_;rintro z w1 ⟨rfl,b1⟩;have bq:=af w1 (.cells (ylA R D L G gr sz ex fam F) 116);have l1:=((l0.l b1).l bq).drew;have m1:=((m0.l b1).l bq).drew;have q1:=ah w1 (ylL R D L G gr sz ex fam F) 116;have b01:=(aa (aa b0 b1) bq).drew;have q1d:=q1.drew;have hne0:w.heap.size≠w1.heap.size:=Nat.ne_of_lt (l0.l b1).lt;have hne1:w.heap.size+1≠w1.heap.size:=Nat.ne_of_lt (m0.l b1).lt;obtain⟨p0,p1,p2,p3,p4,p5,p6,p7,p8⟩:=q1.cs9;have hsz:((s.size:Int) != (sz:Int))=false:=by rw[hs];simp
 go_wp2_with fail
 go_region_held3 (fun wq=>wq.cell? ⟨w1.heap.size,0,none⟩=some (yi R)∧wq.cell? ⟨w1.heap.size,1,none⟩=some (yi D)∧wq.cell? ⟨w1.heap.size,2,none⟩=some (yi L)∧wq.cell? ⟨w1.heap.size,3,none⟩=some (yi G)∧wq.cell? ⟨w1.heap.size,4,none⟩=some (.bool gr)∧wq.cell? ⟨w1.heap.size,5,none⟩=some (yi sz)∧wq.cell? ⟨w1.heap.size,6,none⟩=some (yi ex)∧wq.cell? ⟨w1.heap.size,7,none⟩=some (yi fam)∧wq.cell? ⟨w1.heap.size,8,none⟩=some (.func (.func F) #[] #[])) (go_keep) (first
  | (go_at_call 79;refine(HR'.out _).mono ?_;rintro z w2 ⟨rfl,b2⟩;have l2:=l1.l b2;have m2:=m1.l b2;have q2:=q1d.l b2;have b02:=aa b01 b2;obtain⟨x0,x1,x2,x3,x4,x5,x6,x7,x8⟩:=l2.cs9;have jx0:=l2.f 0;have jx1:=l2.f 1;have jx2:=l2.f 2;have jx3:=l2.f 3;have jx4:=l2.f 4;have jx5:=l2.f 5;have jx6:=l2.f 6;have jx7:=l2.f 7;have jx8:=l2.f 8;obtain⟨y0,y1,y2⟩:=m2.cs3;have jy0:=m2.f 0;have jy1:=m2.f 1;have jy2:=m2.f 2;obtain⟨s0,s1,s2,s3,s4,s5,s6,s7,s8⟩:=q2.cs9))
 have hn1:w.heap.size+1≠w.heap.size:=Nat.succ_ne_self _;have cL:au ((((((((((((w2.setCell ⟨w.heap.size,0,none⟩ (yi R)).setCell ⟨w.heap.size,1,none⟩ (yi D)).setCell ⟨w.heap.size,2,none⟩ (yi L)).setCell ⟨w.heap.size,3,none⟩ (yi G)).setCell ⟨w.heap.size,4,none⟩ (.bool gr)).setCell ⟨w.heap.size,5,none⟩ (yi sz)).setCell ⟨w.heap.size,6,none⟩ (yi ex)).setCell ⟨w.heap.size,7,none⟩ (yi fam)).setCell ⟨w.heap.size,8,none⟩ (.func (.func F) #[] #[])).setCell ⟨w.heap.size+1,0,none⟩ (.bool ng)).setCell ⟨w.heap.size+1,1,none⟩ (yi e)).setCell ⟨w.heap.size+1,2,none⟩ (.int .u64 f)) w.heap.size 116 (ylL R D L G gr sz ex fam F):=((((((((((((l2.set 0 (yi R)).set 1 (yi D)).set 2 (yi L)).set 3 (yi G)).set 4 (.bool gr)).set 5 (yi sz)).set 6 (yi ex)).set 7 (yi fam)).set 8 (.func (.func F) #[] #[])).off hn1 0 (.bool ng)).off hn1 1 (yi e)).off hn1 2 (.int .u64 f));have cM:au ((((((((((((w2.setCell ⟨w.heap.size,0,none⟩ (yi R)).setCell ⟨w.heap.size,1,none⟩ (yi D)).setCell ⟨w.heap.size,2,none⟩ (yi L)).setCell ⟨w.heap.size,3,none⟩ (yi G)).setCell ⟨w.heap.size,4,none⟩ (.bool gr)).setCell ⟨w.heap.size,5,none⟩ (yi sz)).setCell ⟨w.heap.size,6,none⟩ (yi ex)).setCell ⟨w.heap.size,7,none⟩ (yi fam)).setCell ⟨w.heap.size,8,none⟩ (.func (.func F) #[] #[])).setCell ⟨w.heap.size+1,0,none⟩ (.bool ng)).setCell ⟨w.heap.size+1,1,none⟩ (yi e)).setCell ⟨w.heap.size+1,2,none⟩ (.int .u64 f)) (w.heap.size+1) 119 (yfL ng e f):=((((((((((((m2.off (Ne.symm hn1) 0 (yi R)).off (Ne.symm hn1) 1 (yi D)).off (Ne.symm hn1) 2 (yi L)).off (Ne.symm hn1) 3 (yi G)).off (Ne.symm hn1) 4 (.bool gr)).off (Ne.symm hn1) 5 (yi sz)).off (Ne.symm hn1) 6 (yi ex)).off (Ne.symm hn1) 7 (yi fam)).off (Ne.symm hn1) 8 (.func (.func F) #[] #[])).set 0 (.bool ng)).set 1 (yi e)).set 2 (.int .u64 f));have bR:=(((ag _ (w.heap.size+1) 0 (.bool ng)).trans (ag _ (w.heap.size+1) 1 (yi e))).trans (ag _ (w.heap.size+1) 2 (.int .u64 f))).below ((((((((((ag w2 w.heap.size 0 (yi R)).trans (ag _ w.heap.size 1 (yi D))).trans (ag _ w.heap.size 2 (yi L))).trans (ag _ w.heap.size 3 (yi G))).trans (ag _ w.heap.size 4 (.bool gr))).trans (ag _ w.heap.size 5 (yi sz))).trans (ag _ w.heap.size 6 (yi ex))).trans (ag _ w.heap.size 7 (yi fam))).trans (ag _ w.heap.size 8 (.func (.func F) #[] #[]))).below b02 (Nat.le_refl _)) (Nat.le_succ _);have hl:=run_loadVar_mid (P:=Tryz.prog) _ w.heap.size 0 116 (ylL R D L G gr sz ex fam F) _ cL.range underlying116 rfl (by kernel_rfl);have hm:=run_loadVar_mid (P:=Tryz.prog) _ (w.heap.size+1) 0 119 (yfL ng e f) _ cM.range underlying119 rfl (by kernel_rfl);have HH:Hid (_∧_∧_):=⟨hl,hm,bR⟩;clear hl hm bR cL cM l2 m2 q2 b02 l1 m1 q1 q1d b01 l0 m0 b0 bq b1 b2
 go_wp2
 obtain⟨hl,hm,bR⟩:=HH.out;exact bodyPost_ret (kg results55 rfl rfl rfl hl hm) rfl ⟨rfl,bR⟩
theorem abe (n R D L G c p:Int)(gr ng:Bool)(m:Nat)(t:ak)(s:ByteArray)(w:World)
  (HG:yJ 43 #[yi n] (.tuple #[ygV R D L G gr,yi 0]))
  (HD: ∀w1,yC 28 #[yi n,.string s] w1 (eP w1 c ng m p 0))
  (HN: ∀vo vc w1,yB w w1→Rd w1 .u32 (yT vo m vc) (Dg.dg 4294967296 m)→yC 87 #[yvV c ng (yT vo m vc) p,ygV R D L G gr] w1 (acy w1 t)):
  yC 61 #[yi n,.string s] w (Ys w c ng m p t 0):=by
 replace HG:Hid _:=HG;replace HD:Hid _:=HD;replace HN:Hid _:=HN;have bv:=af w (.cells (yvA 0 false yN 0) 68);have bx:=af (w.alloc (.cells (yvA 0 false yN 0) 68)) (.cells (ydA false yN 0) 76);have v0:=(ah w (yvL 0 false yN 0) 68).l bx;have x0:=ah (w.alloc (.cells (yvA 0 false yN 0) 68)) (ydL false yN 0) 76;have b0:=aa bv bx;rw[World.size_alloc] at x0;clear bv bx
 go_enter func61,ntmps61
 go_upto_region 1 with fail
 generalize(w.alloc (.cells (yvA 0 false yN 0) 68)).alloc (.cells (ydA false yN 0) 76)=W0 at v0 x0 b0⊢
 go_wp2_with fail
 refine(HG.out _).mono ?_;rintro z w1 ⟨rfl,b1⟩;have bg:=af w1 (.cells (ygA R D L G gr) 40);have g1:=ah w1 (ygL R D L G gr) 40;have v1:=(v0.l b1).l bg;have x1:=(x0.l b1).l bg;have b01:=aa (aa b0 b1) bg;have hlG:w.heap.size+1<w1.heap.size:=(x0.l b1).lt
 go_upto_region 4 with fail
 generalize w1.alloc (.cells (ygA R D L G gr) 40)=WG at g1 v1 x1 b01⊢;generalize w1.heap.size=PG at g1 hlG⊢;clear v0 x0 b0 b1 bg HG
 go_wp2_with fail
 refine(HD.out _).mono ?_;rintro z w2 ⟨vv,rfl,r2,b2⟩;obtain⟨vo,vc,hv⟩:=r2.shape;subst hv;have bl:=af w2 (.cells (yvA c ng (yT vo m vc) p) 68);have q2:=ah w2 (yvL c ng (yT vo m vc) p) 68;have g2:=(g1.l b2).l bl;have v2:=(v1.l b2).l bl;have x2:=(x1.l b2).l bl;have rr:=r2.l bl;have b02:=aa (aa b01 b2) bl;have hlQ:PG<w2.heap.size:=(g1.l b2).lt
 go_upto_region 7 with fail
 generalize w2.alloc (.cells (yvA c ng (yT vo m vc) p) 68)=W2 at q2 g2 v2 x2 rr b02⊢;generalize w2.heap.size=PQ at q2 hlQ⊢;clear v1 x1 g1 b01 b2 bl r2 HD;have qd:=q2.drew;have gd:=g2.drew;have vd:=v2.drew;have xd:=x2.drew;have rd:=Rd.l rr ((Below.refl _ _).drew);have n1:w.heap.size≠PG:=by omega
 have n2:w.heap.size+1≠PG:=by omega
 have n3:w.heap.size≠PQ:=by omega
 have n4:w.heap.size+1≠PQ:=by omega
 have bd:=b02.drew;obtain⟨a0,a1,a2,a3⟩:=q2.cs4;obtain⟨y0,y1,y2,y3,y4⟩:=g2.cs5
 go_region_held3 (fun wq=>(wq.cell? ⟨PQ,0,none⟩=some (yi c)∧wq.cell? ⟨PQ,1,none⟩=some (.bool ng)∧wq.cell? ⟨PQ,2,none⟩=some (yT vo m vc)∧wq.cell? ⟨PQ,3,none⟩=some (yi p))∧(wq.cell? ⟨PG,0,none⟩=some (yi R)∧wq.cell? ⟨PG,1,none⟩=some (yi D)∧wq.cell? ⟨PG,2,none⟩=some (yi L)∧wq.cell? ⟨PG,3,none⟩=some (yi G)∧wq.cell? ⟨PG,4,none⟩=some (.bool gr))) (go_keep) (first
  | (go_at_call 87;refine(HN.out _ _ _ bd rd).mono ?_;rintro z w3 ⟨sv,rfl,r4,fx,b3⟩;obtain⟨so,sc,hs⟩:=r4.shape;subst hs;have q3:=qd.l b3;have g3:=gd.l b3;have v3:=vd.l b3;have x3:=xd.l b3;have r3:=rd.l b3;have b03:=aa bd b3;obtain⟨c0,c1,c2,c3⟩:=q3.cs4;obtain⟨d0,d1,d2,d3,d4⟩:=g3.cs5;obtain⟨e0,e1,e2,e3⟩:=v3.cs4;obtain⟨k0,k1,k2⟩:=x3.cs3;have f0:=v3.f 0;have f1:=v3.f 1;have f2:=v3.f 2;have f3:=v3.f 3;have g0:=x3.f 0;have g1:=x3.f 1;have g2:=x3.f 2))
 all_goals
  have cV:au (((((((w3.setCell ⟨w.heap.size,0,none⟩ (yi c)).setCell ⟨w.heap.size,1,none⟩ (.bool ng)).setCell ⟨w.heap.size,2,none⟩ (yT vo m vc)).setCell ⟨w.heap.size,3,none⟩ (yi p)).setCell ⟨w.heap.size+1,0,none⟩ (.bool t.s)).setCell ⟨w.heap.size+1,1,none⟩ (yT so t.n sc)).setCell ⟨w.heap.size+1,2,none⟩ (yi t.e)) w.heap.size 68 (yvL c ng (yT vo m vc) p):=(((((((v3.set 0 (yi c)).set 1 (.bool ng)).set 2 (yT vo m vc)).set 3 (yi p)).off (show w.heap.size+1≠w.heap.size by omega) 0 (.bool t.s)).off (show w.heap.size+1≠w.heap.size by omega) 1 (yT so t.n sc)).off (show w.heap.size+1≠w.heap.size by omega) 2 (yi t.e))
  have cX:au (((((((w3.setCell ⟨w.heap.size,0,none⟩ (yi c)).setCell ⟨w.heap.size,1,none⟩ (.bool ng)).setCell ⟨w.heap.size,2,none⟩ (yT vo m vc)).setCell ⟨w.heap.size,3,none⟩ (yi p)).setCell ⟨w.heap.size+1,0,none⟩ (.bool t.s)).setCell ⟨w.heap.size+1,1,none⟩ (yT so t.n sc)).setCell ⟨w.heap.size+1,2,none⟩ (yi t.e)) (w.heap.size+1) 76 (yDL t so sc):=(((((((x3.off (show w.heap.size≠w.heap.size+1 by omega) 0 (yi c)).off (show w.heap.size≠w.heap.size+1 by omega) 1 (.bool ng)).off (show w.heap.size≠w.heap.size+1 by omega) 2 (yT vo m vc)).off (show w.heap.size≠w.heap.size+1 by omega) 3 (yi p)).set 0 (.bool t.s)).set 1 (yT so t.n sc)).set 2 (yi t.e))
  have cX0:=((((x3.off (show w.heap.size≠w.heap.size+1 by omega) 0 (yi c)).off (show w.heap.size≠w.heap.size+1 by omega) 1 (.bool ng)).off (show w.heap.size≠w.heap.size+1 by omega) 2 (yT vo m vc)).off (show w.heap.size≠w.heap.size+1 by omega) 3 (yi p))
  have bu1:=(((ag w3 w.heap.size 0 (yi c)).trans (ag _ w.heap.size 1 (.bool ng))).trans (ag _ w.heap.size 2 (yT vo m vc))).trans (ag _ w.heap.size 3 (yi p));have bu2:=((ag ((((w3.setCell ⟨w.heap.size,0,none⟩ (yi c)).setCell ⟨w.heap.size,1,none⟩ (.bool ng)).setCell ⟨w.heap.size,2,none⟩ (yT vo m vc)).setCell ⟨w.heap.size,3,none⟩ (yi p)) (w.heap.size+1) 0 (.bool t.s)).trans (ag _ (w.heap.size+1) 1 (yT so t.n sc))).trans (ag _ (w.heap.size+1) 2 (yi t.e));have bR:=bu2.below (bu1.below b03 (Nat.le_refl _)) (by omega);have rV1:=bu1.rd r3 (aX r3 v3 (by simp));have rV:=bu2.rd rV1 (aX rV1 cX0 (by simp));have rX1:=bu1.rd r4 (aX r4 v3 (by simp));have rX:=bu2.rd rX1 (aX rX1 cX0 (by simp));have hl1:=run_loadVar_mid (P:=Tryz.prog) _ w.heap.size 0 68 (yvL c ng (yT vo m vc) p) _ cV.range underlying68 rfl (by kernel_rfl);have hl2:=run_loadVar_mid (P:=Tryz.prog) _ (w.heap.size+1) 0 76 (yDL t so sc) _ cX.range underlying76 rfl (by kernel_rfl);have HH:Hid (_∧_∧_∧_∧_):=⟨hl1,hl2,rV,rX,bR⟩;clear hl1 hl2 bR bu1 bu2 cV cX cX0 rV rV1 rX rX1;clear v3 x3 r3 r4 b03 q3 g3
  go_wp2
  obtain⟨hl1,hl2,rV,rX,bR⟩:=HH.out;exact bodyPost_ret (kg results61 rfl rfl rfl hl1 hl2) rfl ⟨_,_,rfl,rV,rX,(fun a n c hv=>Nat.le_trans bd.size (fx a n c hv)),bR⟩
theorem RT (R D L G:Int)(gr s:Bool)(ao:Option Addr)(la ca:Nat)(e:Int)(w:World)
  (HSG:yH w 137 #[ydV s (.slice ao la ca) e] (yi 0)):
  yC 108 #[ygV R D L G gr,ydV s (.slice ao la ca) e] w (D7 w true 0 L):=by
 replace HSG:Hid _:=HSG;have b1:=aa (aa (af w (.cells (ygA R D L G gr) 133)) (af _ (.cells (ydA s (.slice ao la ca) e) 187))) (af _ (.cells #[yN,yi 0] 145));have g1:=((ah w (ygL R D L G gr) 133).l (af _ (.cells (ydA s (.slice ao la ca) e) 187))).l (af _ (.cells #[yN,yi 0] 145));have q1:=(ah (w.alloc (.cells (ygA R D L G gr) 133)) (ydL s (.slice ao la ca) e) 187).l (af _ (.cells #[yN,yi 0] 145));have c1:=ah ((w.alloc (.cells (ygA R D L G gr) 133)).alloc (.cells (ydA s (.slice ao la ca) e) 187)) [yN,yi 0] 145;simp only[World.size_alloc] at q1 c1;obtain⟨y0,y1,y2⟩:=q1.cs3
 go_enter func108,ntmps108
 go_wp2_with fail
 refine(HSG.out _ b1).mono ?_;rintro z w2 ⟨rfl,bb2⟩;clear y0 y1 y2;have g_2:=g1.l bb2;have q_2:=q1.l bb2;have c_2:=c1.l bb2;have b0_2:=aa b1 bb2;clear g1 q1 c1 b1 bb2;have x2:=g_2.c 2 rfl;have d0:=c_2.c 0 rfl;have f0:=c_2.f 0;have d1:=c_2.c 1 rfl;have f1:=c_2.f 1
 go_wp2
 have bu:But (w.heap.size+1+1) w2 ((w2.setCell ⟨w.heap.size+1+1,0,none⟩ yN).setCell ⟨w.heap.size+1+1,1,none⟩ (yi L)):=(ag w2 (w.heap.size+1+1) 0 yN).trans (ag _ (w.heap.size+1+1) 1 (yi L));have cX:au ((w2.setCell ⟨w.heap.size+1+1,0,none⟩ yN).setCell ⟨w.heap.size+1+1,1,none⟩ (yi L)) (w.heap.size+1+1) 145 [yN,yi L]:=(c_2.set 0 yN).set 1 (yi L);have bX:=bu.below b0_2 (show w.heap.size≤w.heap.size+1+1 by omega)
 obtain⟨s0,s1⟩:=cX.cs2;refine bodyPost_ret (v:= .tuple #[.agg #[yN,yi L],.bool true]) (by simp[results,results108,go_sem,s0,s1]) rfl ?_;exact⟨_,rfl,aQ _ _ _ _,bX⟩
theorem Zq (R D L G:Int)(gr ng:Bool)(ao:Option Addr)(la ca:Nat)(p wd:Int)(w:World)(WP:IntKind.i64.wrap (wd*p)=wd*p)
  (HW:yJ 98 #[ygV R D L G gr] (yi wd)):
  yC 142 #[ygV R D L G gr,.bool ng,.agg #[.slice ao la ca,yi p]] w (yR w (ydV ng (.slice ao la ca) (wd*p))):=by
 replace HW:Hid _:=HW;have HN:Hid (∀w1,yC 151 (ydA ng (.slice ao la ca) (wd*p)) w1 (yR w1 (ydV ng (.slice ao la ca) (wd*p)))):=fun w1=>l9 ng ao la ca (wd*p) w1
 have b1:=aa (aa (af w (.cells (ygA R D L G gr) 133)) (af _ (.cells #[.slice ao la ca,yi p] 145))) (af _ (.cells (ydA false yN 0) 187));have g1:=((ah w (ygL R D L G gr) 133).l (af _ (.cells #[.slice ao la ca,yi p] 145))).l (af _ (.cells (ydA false yN 0) 187));have s1:=(ah (w.alloc (.cells (ygA R D L G gr) 133)) [.slice ao la ca,yi p] 145).l (af _ (.cells (ydA false yN 0) 187));have c1:=ah ((w.alloc (.cells (ygA R D L G gr) 133)).alloc (.cells #[.slice ao la ca,yi p] 145)) (ydL false yN 0) 187;simp only[World.size_alloc] at s1 c1;have g_2:=g1.l ((Below.refl _ _).drew);have s_2:=s1.l ((Below.refl _ _).drew);have c_2:=c1.l ((Below.refl _ _).drew);have b0_2:=aa b1 ((Below.refl _ _).drew);clear g1 s1 c1 b1;obtain⟨x0,x1,x2,x3,x4⟩:=g_2.cs5;obtain⟨y0,y1⟩:=s_2.cs2;have nA:w.heap.size+1+1≠w.heap.size:=by omega
 have nB:w.heap.size+1+1≠w.heap.size+1:=by omega
 go_enter func142,ntmps142
 go_wp2_with fail
 go_region_held3 (fun wq=>wq.cell? ⟨w.heap.size,0,none⟩=some (yi R)∧wq.cell? ⟨w.heap.size,1,none⟩=some (yi D)∧wq.cell? ⟨w.heap.size,2,none⟩=some (yi L)∧wq.cell? ⟨w.heap.size,3,none⟩=some (yi G)∧wq.cell? ⟨w.heap.size,4,none⟩=some (.bool gr)∧wq.cell? ⟨w.heap.size+1,0,none⟩=some (.slice ao la ca)∧wq.cell? ⟨w.heap.size+1,1,none⟩=some (yi p)) (go_keep) (first
  | (go_at_call 98;have hgd:=b0_2;clear hgd;refine(HW.out _).mono ?_;rintro z wa ⟨rfl,bb_wa⟩;have b0_wa:=aa b0_2 bb_wa;have g_wa:=g_2.l bb_wa;have s_wa:=s_2.l bb_wa;have c_wa:=c_2.l bb_wa;obtain⟨xa0,xa1,xa2,xa3,xa4⟩:=g_wa.cs5;obtain⟨ya0,ya1⟩:=s_wa.cs2;clear b0_2)
  | (go_at_call 151;have hgd:=b0_wa;clear hgd;refine(HN.out _).mono ?_;rintro z wb ⟨rfl,bb_wb⟩;have b0_wb:=aa b0_wa bb_wb;have g_wb:=g_wa.l bb_wb;have s_wb:=s_wa.l bb_wb;have c_wb:=c_wa.l bb_wb;obtain⟨xb0,xb1,xb2,xb3,xb4⟩:=g_wb.cs5;obtain⟨yb0,yb1⟩:=s_wb.cs2;have z0:=c_wb.c 0 rfl;have e0:=c_wb.f 0;have z1:=c_wb.c 1 rfl;have e1:=c_wb.f 1;have z2:=c_wb.c 2 rfl;have e2:=c_wb.f 2;clear b0_wa))
 all_goals go_wp2
 have bu:But (w.heap.size+1+1) wb (((wb.setCell ⟨w.heap.size+1+1,0,none⟩ (.bool ng)).setCell ⟨w.heap.size+1+1,1,none⟩ (.slice ao la ca)).setCell ⟨w.heap.size+1+1,2,none⟩ (yi (wd*p))):=((ag wb (w.heap.size+1+1) 0 (.bool ng)).trans (ag _ (w.heap.size+1+1) 1 (.slice ao la ca))).trans (ag _ (w.heap.size+1+1) 2 (yi (wd*p)));have cX:au (((wb.setCell ⟨w.heap.size+1+1,0,none⟩ (.bool ng)).setCell ⟨w.heap.size+1+1,1,none⟩ (.slice ao la ca)).setCell ⟨w.heap.size+1+1,2,none⟩ (yi (wd*p))) (w.heap.size+1+1) 187 (ydL ng (.slice ao la ca) (wd*p)):=((c_wb.set 0 (.bool ng)).set 1 (.slice ao la ca)).set 2 (yi (wd*p));have bX:=bu.below b0_wb (show w.heap.size≤w.heap.size+1+1 by omega)
 obtain⟨s0,s1,s2⟩:=cX.cs3;refine bodyPost_ret (v:=(ydV ng (.slice ao la ca) (wd*p))) (by simp[results,results142,go_sem,s0,s1,s2]) rfl ?_;exact⟨rfl,bX⟩
end Go.Proofs.YtddkchlamdhgcaaGreatDoor

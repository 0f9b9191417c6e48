/-
  Texts laid together: Co9, Co13, Co14, Co11, Gr5, Gr6, Du1.
-/
import Derived.Test.YtdhpndnncmagiaaGreatDoorMa11
import Derived.Test.YtdhpndnncmagiaaGreatDoorMa17
set_option maxRecDepth 100000
set_option maxHeartbeats 12800000
namespace Go.Proofs.YtdhpndnncmagiaaGreatDoor
open _root_.Go.Proofs.Tryz
open Go.RowKit
theorem L6 (R D L G sz ex fam fr:Int)(gr:Bool)(F:Nat)(w:World)(hlt:fr<D)
  (HF:yJ 202 #[ylV R D L G gr sz ex fam F] (yi fr)):
  yC 214 #[ylV R D L G gr sz ex fam F] w (yR w (.int .u64 0)):=by
 have hsf:=cD;replace HF:Hid _:=HF;have l0:=ah w (ylL R D L G gr sz ex fam F) 94;have b0:=af w (.cells (ylA R D L G gr sz ex fam F) 94);obtain⟨x0,x1,x2,x3,x4,x5,x6,x7,x8⟩:=l0.cs9
 go_enter func214,ntmps214
 go_wp2_with fail
 go_region_held3 (fun wq=>wq.cell? ⟨w.heap.size,0,none⟩=some (yi R)∧wq.cell? ⟨w.heap.size,1,none⟩=some (yi D)∧wq.cell? ⟨w.heap.size,2,none⟩=some (yi L)∧wq.cell? ⟨w.heap.size,3,none⟩=some (yi G)∧wq.cell? ⟨w.heap.size,4,none⟩=some (.bool gr)∧wq.cell? ⟨w.heap.size,5,none⟩=some (yi sz)∧wq.cell? ⟨w.heap.size,6,none⟩=some (yi ex)∧wq.cell? ⟨w.heap.size,7,none⟩=some (yi fam)∧wq.cell? ⟨w.heap.size,8,none⟩=some (.func (.func F) #[] #[])) (go_keep) (first
  | (go_at_call 202;refine(HF.out _).mono ?_;rintro z w2 ⟨rfl,b2⟩;have l2:=l0.drew.l b2;obtain⟨y0,y1,y2,y3,y4,y5,y6,y7,y8⟩:=l2.cs9))
 all_goals go_wp2
 all_goals go_ret
 all_goals exact⟨rfl,aa b0.drew b2⟩
theorem Uz {P:Program}(W:World)(src dst e:TypeId)(s:ByteArray)(hs:P.underlying src=some .string)(hd:P.underlying dst=some (.slice e))(he:P.underlying e=some (.int .u8)):
  ∃W1 cap,(convert src dst (.string s)).run P W= .ok (.slice (some ⟨W.heap.size,0,none⟩) s.size cap) W1∧ik W1 W.heap.size (jr s)∧yB W W1:=by
 refine⟨_,_,run_bytes_of_string W src dst e s hs hd he, ?_, ?_⟩
 ·refine⟨fun i hi=> ?_,fun i hi=> ?_, ?_⟩
  ·have hi':i<s.data.size:=by rw[oV] at hi;exact hi
   rw[show W.heap.size=W.drew.heap.size from rfl,World.cell?_alloc_mark,bytesRow_at s _ i hi',jr,List.getD_eq_getElem?_getD,List.getElem?_map,Array.getElem?_toList,Array.getElem?_eq_getElem hi']
   rfl
  ·have hi':i<s.data.size:=by rw[oV] at hi;exact hi
   rw[show W.heap.size=W.drew.heap.size from rfl,World.frozen?_alloc_mark]
   have: ¬((bytesRow s (grownCap W s.size 0 e)).size≤i):=by
    unfold bytesRow;rw[Array.size_append,Array.size_map];omega
   simp[this]
  ·show W.heap.size< (W.drew.alloc _).heap.size
   rw[World.size_alloc];exact Nat.lt_succ_self _
 ·exact((Below.refl _ _).drew).alloc (Nat.le_refl _) _
theorem acf (R D L G fam:Int)(gr:Bool)(sz ex fr:Nat)(F:Nat)(s:ByteArray)(ts:List Nat)(w:World)(hs:s.size=sz)(hlen:ts.length=sz)(hsm:Dg.Small 256 ts)(hfr:1+ex+fr=8*sz)(hex:ex≤15)(hsz:sz≤10)(hfr64:fr≤64)
  (HT: ∀g cap w1,ik w1 g (jr s)→yC F #[.slice (some ⟨g,0,none⟩) sz cap] w1 fun z w'=>z= .returned (.tuple #[])∧ik w' g ts∧w1.grownBy w' (some g))
  (HFR:yJ 202 #[ylV R D L G gr sz ex fam F] (yi fr))
  (HE: ∀args W,Sem.run Tryz.prog (callFunc F args) W= .ok (.enter F args) W):
  yC 142 #[ylV R D L G gr sz ex fam F,.string s] w (yR w (yfV (decide (eH ts 0 1=1)) ((eH ts 1 ex:Nat):Int) ((eH ts (1+ex) fr:Nat):Int))):=by
 have hsf:=cD;have l0:=(ah w (ylL R D L G gr sz ex fam F) 94).l (af _ (.cells (yfA false 0 0) 157));have m0:=ah (w.alloc (.cells (ylA R D L G gr sz ex fam F) 94)) (yfL false 0 0) 157;have b0:=aa (af w (.cells (ylA R D L G gr sz ex fam F) 94)) (af _ (.cells (yfA false 0 0) 157));rw[World.size_alloc] at m0;have H2:((w.alloc (.cells (ylA R D L G gr sz ex fam F) 94)).alloc (.cells (yfA false 0 0) 157)).heap.size=w.heap.size+2:=by rw[World.size_alloc,World.size_alloc]
 obtain⟨W1,cap,hrun,hrow,hbel⟩:=Uz (P:=Tryz.prog) ((w.alloc (.cells (ylA R D L G gr sz ex fam F) 94)).alloc (.cells (yfA false 0 0) 157)) 9 70 5 s underlying9 underlying70 underlying5;have l1:=l0.l hbel;have m1:=m0.l hbel;have b1:=aa b0 hbel;rw[H2] at hrun hrow;rw[hs] at hrun;obtain⟨g,hg⟩: ∃g,w.heap.size+2=g:=⟨_,rfl⟩;rw[hg] at hrun hrow;have x8:=l1.c 8 rfl;have HT':Hid _:=HT;have HFR':Hid _:=HFR;have HHg:Hid _:=hg;have HL:Hid (_∧_):=⟨hlen,hfr⟩;obtain⟨n0,hn0⟩: ∃n,eH ts 0 1=n:=⟨_,rfl⟩;obtain⟨n1,hn1⟩: ∃n,eH ts 1 ex=n:=⟨_,rfl⟩;obtain⟨n2,hn2⟩: ∃n,eH ts (1+ex) fr=n:=⟨_,rfl⟩;rw[hn0,hn1,hn2];have HN:Hid (_∧_∧_):=⟨hn0,hn1,hn2⟩;have hd0:((n0:Int)==1)=decide (n0=1):=by
  by_cases h:n0=1
  ·subst h;rfl
  ·rw[decide_eq_false h];simp;omega
 obtain⟨q0,hq0⟩: ∃q,decide (n0=1)=q:=⟨_,rfl⟩;rw[hq0] at hd0⊢;clear HT HFR hg hlen hfr hn0 hn1 hn2 hq0
 go_enter func142,ntmps142
 go_wp2_with fail
 refine(HT'.out _ _ _ hrow).mono ?_;rintro z w2 ⟨rfl,r2,g2⟩;have hgg:=HHg.out;have l2:=(l1.grown g2 (by omega)).drew;have m2:=(m1.grown g2 (by omega)).drew;have b2:=(b1.grown g2 b1.size (fun k h=>by cases h;omega)).drew
 have r2':=r2.drew;obtain⟨hlen,hfr⟩:=HL.out;have HB0:Hid (∀w1,ik w1 g ts→yC 201 #[.slice (some ⟨g,0,none⟩) sz cap,yi 0,yi 1] w1 fun z w'=>z= .returned (.int .u64 ((eH ts 0 1:Nat):Int))∧w1=w'):=fun w1 h=>by
  have:=Cr g cap ts 0 1 w1 h hsm (by omega) (by omega) (by omega);rw[hlen] at this;exact this.mono (fun _ _ h=>⟨h.1,h.2.symm⟩)
 have HB1:Hid (∀w1,ik w1 g ts→yC 201 #[.slice (some ⟨g,0,none⟩) sz cap,yi 1,yi ex] w1 fun z w'=>z= .returned (.int .u64 ((eH ts 1 ex:Nat):Int))∧w1=w'):=fun w1 h=>by
  have:=Cr g cap ts 1 ex w1 h hsm (by omega) (by omega) (by omega);rw[hlen] at this;exact this.mono (fun _ _ h=>⟨h.1,h.2.symm⟩)
 have HB2:Hid (∀w1,ik w1 g ts→yC 201 #[.slice (some ⟨g,0,none⟩) sz cap,yi (1+(ex:Int)),yi fr] w1 fun z w'=>z= .returned (.int .u64 ((eH ts (1+ex) fr:Nat):Int))∧w1=w'):=fun w1 h=>by
  have:=Cr g cap ts (1+ex) fr w1 h hsm (by omega) (by omega) (by omega);rw[hlen,show(((1+ex:Nat):Nat):Int)=1+(ex:Int) from by omega] at this
  exact this.mono (fun _ _ h=>⟨h.1,h.2.symm⟩)
 have h1l:=gh ts 1 ex;have h1p:(2:Nat)^ex≤2^15:=Nat.pow_le_pow_right (by omega) hex;obtain⟨hn0,hn1,hn2⟩:=HN.out;rw[hn0] at HB0;rw[hn1] at HB1 h1l;rw[hn2] at HB2;have hn1b:n1<32768:=by omega
 clear hn0 hn1 hn2 h1l h1p hlen hfr l0 l1 m0 m1 b0 b1 r2 hrow hrun hbel x8 H2 hgg;have hexI:(ex:Int)≤15:=by omega
 have hwr:IntKind.i64.wrap (1+(ex:Int))=1+(ex:Int):=IntWalk.i64_in _ ⟨by omega,by omega⟩;have hwn:IntKind.i64.wrap (n1:Int)=(n1:Int):=IntWalk.i64_in _ ⟨by omega,by omega⟩;obtain⟨x0,x1,x2,x3,x4,x5,x6,x7,x8⟩:=l2.cs9
 go_wp2_with fail
 go_region_held3 (fun wq=>wq.cell? ⟨w.heap.size,0,none⟩=some (yi R)∧wq.cell? ⟨w.heap.size,1,none⟩=some (yi D)∧wq.cell? ⟨w.heap.size,2,none⟩=some (yi L)∧wq.cell? ⟨w.heap.size,3,none⟩=some (yi G)∧wq.cell? ⟨w.heap.size,4,none⟩=some (.bool gr)∧wq.cell? ⟨w.heap.size,5,none⟩=some (yi sz)∧wq.cell? ⟨w.heap.size,6,none⟩=some (yi ex)∧wq.cell? ⟨w.heap.size,7,none⟩=some (yi fam)∧wq.cell? ⟨w.heap.size,8,none⟩=some (.func (.func F) #[] #[])) (go_keep) (first
  | (go_at_call 202;refine(HFR'.out _).mono ?_;rintro z w5 ⟨rfl,b5⟩;have l5:=l2.l b5;have m5:=m2.l b5;have b05:=aa b2 b5;have r5:=r2'.l b5;obtain⟨y0,y1,y2,y3,y4,y5,y6,y7,y8⟩:=l5.cs9;obtain⟨u0,u1,u2⟩:=m5.cs3;have f0:=m5.f 0;have f1:=m5.f 1;have f2:=m5.f 2)
  | (go_at_call 201;(with_reducible (refine(HB0.out _ (by assumption)).mono ?_));rintro z wv ⟨rfl,rfl⟩)
  | (go_at_call 201;(with_reducible (refine(HB1.out _ (by assumption)).mono ?_));rintro z wv ⟨rfl,rfl⟩)
  | (go_at_call 201;(with_reducible (refine(HB2.out _ (by assumption)).mono ?_));rintro z wv ⟨rfl,rfl⟩))
 have cR:au (((w5.setCell ⟨w.heap.size+1,0,none⟩ (.bool q0)).setCell ⟨w.heap.size+1,1,none⟩ (yi (n1:Int))).setCell ⟨w.heap.size+1,2,none⟩ (.int .u64 (n2:Int))) (w.heap.size+1) 157 (yfL q0 (n1:Int) (n2:Int)):=((m5.set 0 (.bool q0)).set 1 (yi (n1:Int))).set 2 (.int .u64 (n2:Int));have bR:=(((ag w5 (w.heap.size+1) 0 (.bool q0)).trans (ag _ (w.heap.size+1) 1 (yi (n1:Int)))).trans (ag _ (w.heap.size+1) 2 (.int .u64 (n2:Int)))).below b05 (by omega);have hl:=run_loadVar_mid (P:=Tryz.prog) _ (w.heap.size+1) 0 157 (yfL q0 (n1:Int) (n2:Int)) _ cR.range underlying157 rfl (by kernel_rfl);have HH:Hid (_∧_):=⟨hl,bR⟩;clear hl bR cR l2 m2 b2 l5 m5 b05
 go_wp2
 obtain⟨hl,bR⟩:=HH.out;exact bodyPost_ret (br results142 rfl hl) rfl ⟨rfl,bR⟩
theorem Ra (R D L G fam sz ex on wr:Int)(gr ng:Bool)(F:Nat)(e f:Int)(w:World)(HO:yJ 213 #[ylV R D L G gr sz ex fam F] (yi on))(HW:yJ 214 #[ylV R D L G gr sz ex fam F] (.int .u64 wr))(h1:on=e)(h2:wr=f)(_h0:(on==0)=false):yC 203 #[ylV R D L G gr sz ex fam F,yfV ng e f] w (yR w (yi 3)):=by
 have hsf:=cD;replace HO:Hid _:=HO;replace HW:Hid _:=HW;have l0:=(ah w (ylL R D L G gr sz ex fam F) 94).l (af _ (.cells (yfA ng e f) 157));have m0:=ah (w.alloc (.cells (ylA R D L G gr sz ex fam F) 94)) (yfL ng e f) 157;have b0:=aa (af w (.cells (ylA R D L G gr sz ex fam F) 94)) (af _ (.cells (yfA ng e f) 157));rw[World.size_alloc] at m0;subst h1 h2;obtain⟨x0,x1,x2,x3,x4,x5,x6,x7,x8⟩:=l0.cs9;obtain⟨u0,u1,u2⟩:=m0.cs3
 go_enter func203,ntmps203
 go_wp2_with fail
 go_region_held3 (fun wq=>(wq.cell? ⟨w.heap.size,0,none⟩=some (yi R)∧wq.cell? ⟨w.heap.size,1,none⟩=some (yi D)∧wq.cell? ⟨w.heap.size,2,none⟩=some (yi L)∧wq.cell? ⟨w.heap.size,3,none⟩=some (yi G)∧wq.cell? ⟨w.heap.size,4,none⟩=some (.bool gr)∧wq.cell? ⟨w.heap.size,5,none⟩=some (yi sz)∧wq.cell? ⟨w.heap.size,6,none⟩=some (yi ex)∧wq.cell? ⟨w.heap.size,7,none⟩=some (yi fam)∧wq.cell? ⟨w.heap.size,8,none⟩=some (.func (.func F) #[] #[]))∧(wq.cell? ⟨w.heap.size+1,0,none⟩=some (.bool ng)∧wq.cell? ⟨w.heap.size+1,1,none⟩=some (yi on)∧wq.cell? ⟨w.heap.size+1,2,none⟩=some (.int .u64 wr))) (go_keep) (first
  | (go_at_call 213;refine(HO.out _).mono ?_;rintro z w2 ⟨rfl,b2⟩;have l2:=l0.drew.l b2;have m2:=m0.drew.l b2;have b02:=aa b0.drew b2;obtain⟨y0,y1,y2,y3,y4,y5,y6,y7,y8⟩:=l2.cs9;obtain⟨v0,v1,v2⟩:=m2.cs3)
  | (go_at_call 214;refine(HW.out _).mono ?_;rintro z w3 ⟨rfl,b3⟩;have l3:=l2.l b3;have m3:=m2.l b3;have b03:=aa b02 b3;obtain⟨z0,z1,z2,z3,z4,z5,z6,z7,z8⟩:=l3.cs9;obtain⟨t0,t1,t2⟩:=m3.cs3))
 all_goals go_wp2
 all_goals go_ret
 all_goals exact⟨rfl,b03⟩
def rf (R D L:Int)(gr qs:Bool)(N M:Nat)(E way:Int):Bool:=
 gY way (dm ((gF R D L gr N M E*2:Nat):Int) ((dX M (shP R D L gr N M E):Nat):Int)) (decide (cH R D L gr N M E % 2=1)) qs
def fM (R D L:Int)(gr qs:Bool)(N M:Nat)(E way:Int):Nat:=
 if decide (gF R D L gr N M E=0)=false∧rf R D L gr qs N M E way=true then cH R D L gr N M E+1 else cH R D L gr N M E
def cI (R D L G:Int)(gr qs:Bool)(N M:Nat)(E way:Int):fz:=
 if fM R D L gr qs N M E way=0 then⟨qs,0,0,decide (gF R D L gr N M E=0),false,decide (aT R D (dY N M E)<L)⟩
 else⟨qs,io R D (fM R D L gr qs N M E way),gD R D (fM R D L gr qs N M E way) (dj R D L gr N M E),decide (gF R D L gr N M E=0),decide (G<gD R D (fM R D L gr qs N M E way) (dj R D L gr N M E)),decide (aT R D (dY N M E)<L)⟩
theorem Ob (R D L G:Int)(gr:Bool)(qs:Bool)(no:Option Addr)(nl nc:Nat)(eo:Option Addr)(el ec:Nat)(E way:Int)(c:Int)(fv:Value)(fn:FuncId)(isf z:Bool)(PT:fz)(ac:Int)(at_:fz)(w:World)
  (hfv:isf=true→fv= .func (.func fn) #[] #[]) (hfn:isf=false→fv= .nilFunc) (hz:((nl:Int)==0)=z)
  (HB: ¬c=0→ac=c∧at_=oI) (HK:c=0→isf=false→ac=6∧at_=oI) (HZ:c=0→isf=true→z=true→ac=0∧at_=⟨false,0,0,true,false,false⟩) (HG:c=0→isf=true→z=false→ac=0∧at_=PT)
  (HW:yH w 128 #[yrV qs (.slice no nl nc) (.slice eo el ec) E,ygV R D L G gr] (yi c))
  (HL: ∀w1 r,w1.heap[r]? =some (.map Yd 5)→(Instr.lookup 194 (.map (some r)) (yi way) false).run Tryz.prog w1= .ok fv w1)
  (HR:c=0→isf=true→z=false→ ∀w1,yB w w1→yC 130 #[ygV R D L G gr,yrV qs (.slice no nl nc) (.slice eo el ec) E,.func (.func fn) #[] #[]] w1 (Fk w1 PT)):
  yC 61 #[yrV qs (.slice no nl nc) (.slice eo el ec) E,ygV R D L G gr,yi way] w (sq w ac at_):=by
 replace HB:Hid _:=HB;replace HK:Hid _:=HK;replace HZ:Hid _:=HZ;replace HG:Hid _:=HG;replace HW:Hid _:=HW;replace HL:Hid _:=HL;replace HR:Hid _:=HR;replace hfv:Hid _:=hfv;replace hfn:Hid _:=hfn;have HWY:Hid _:=Ye;have b1:=aa (aa (af w (.cells (yrA qs (.slice no nl nc) (.slice eo el ec) E) 77)) (af _ (.cells (ygA R D L G gr) 49))) (af _ (.cells (ypA false yN 0 false false false) 140));have q1:=((ah w (yrL qs (.slice no nl nc) (.slice eo el ec) E) 77).l (af _ (.cells (ygA R D L G gr) 49))).l (af _ (.cells (ypA false yN 0 false false false) 140));have g1:=(ah (w.alloc (.cells (yrA qs (.slice no nl nc) (.slice eo el ec) E) 77)) (ygL R D L G gr) 49).l (af _ (.cells (ypA false yN 0 false false false) 140));have c1:=ah ((w.alloc (.cells (yrA qs (.slice no nl nc) (.slice eo el ec) E) 77)).alloc (.cells (ygA R D L G gr) 49)) (ypL false yN 0 false false false) 140;simp only[World.size_alloc] at g1 c1;obtain⟨x0,x1,x2,x3⟩:=q1.cs4;obtain⟨y0,y1,y2,y3,y4⟩:=g1.cs5;have en:=fun w1=>Oa (P:=Tryz.prog) w1 underlying193
 have ef:=fun w1=>Rq (P:=Tryz.prog) w1 underlying193 (.func fn) #[] #[]
 go_enter func61,ntmps61
 go_wp2_with fail
 refine(HW.out _ b1).mono ?_;rintro z wa ⟨rfl,bb2⟩;have q_2:=q1.l bb2;have g_2:=g1.l bb2;have c_2:=c1.l bb2;have b0_2:=aa b1 bb2;clear q1 g1 c1 b1 bb2;clear x0 x1 x2 x3 y0 y1 y2 y3 y4
 by_cases hc:c=0
 ·have HK2:Hid _:=HK.out hc
  have HZ2:Hid _:=HZ.out hc;have HG2:Hid _:=HG.out hc;have HR2:Hid _:=HR.out hc;clear HB HK HZ HG HR;subst hc
  go_wp2_with fail
  refine(HWY.out _).mono ?_;rintro z wb ⟨rfl,hm,bb3⟩;have q_3:=q_2.l bb3;have g_3:=g_2.l bb3;have c_3:=c_2.l bb3;have b0_3:=aa b0_2 bb3;clear q_2 g_2 c_2 b0_2 bb3;have hl:=HL.out wb _ hm;clear hm
  cases isf
  ·have hf:=hfn.out rfl
   have HF:Hid _:=HK2.out rfl;clear HK2 HZ2 HG2 HR2 hfn hfv;subst hf;have s0:=c_3.c 0 rfl;have f0:=c_3.f 0;have s1:=c_3.c 1 rfl;have f1:=c_3.f 1;have s2:=c_3.c 2 rfl;have f2:=c_3.f 2;have s3:=c_3.c 3 rfl;have f3:=c_3.f 3;have s4:=c_3.c 4 rfl;have f4:=c_3.f 4;have s5:=c_3.c 5 rfl;have f5:=c_3.f 5
   go_wp2
   have bu:But (w.heap.size+1+1) wb ((((((wb.setCell ⟨w.heap.size+1+1,0,none⟩ (.bool false)).setCell ⟨w.heap.size+1+1,1,none⟩ yN).setCell ⟨w.heap.size+1+1,2,none⟩ (yi 0)).setCell ⟨w.heap.size+1+1,3,none⟩ (.bool false)).setCell ⟨w.heap.size+1+1,4,none⟩ (.bool false)).setCell ⟨w.heap.size+1+1,5,none⟩ (.bool false)):=(((((ag wb (w.heap.size+1+1) 0 (.bool false)).trans (ag _ (w.heap.size+1+1) 1 yN)).trans (ag _ (w.heap.size+1+1) 2 (yi 0))).trans (ag _ (w.heap.size+1+1) 3 (.bool false))).trans (ag _ (w.heap.size+1+1) 4 (.bool false))).trans (ag _ (w.heap.size+1+1) 5 (.bool false));have cR:au ((((((wb.setCell ⟨w.heap.size+1+1,0,none⟩ (.bool false)).setCell ⟨w.heap.size+1+1,1,none⟩ yN).setCell ⟨w.heap.size+1+1,2,none⟩ (yi 0)).setCell ⟨w.heap.size+1+1,3,none⟩ (.bool false)).setCell ⟨w.heap.size+1+1,4,none⟩ (.bool false)).setCell ⟨w.heap.size+1+1,5,none⟩ (.bool false)) (w.heap.size+1+1) 140 (ypL false yN 0 false false false):=(((((c_3.set 0 (.bool false)).set 1 yN).set 2 (yi 0)).set 3 (.bool false)).set 4 (.bool false)).set 5 (.bool false);have bR:=bu.below b0_3 (show w.heap.size≤w.heap.size+1+1 by omega)
   clear bu s0 s1 s2 s3 s4 s5 f0 f1 f2 f3 f4 f5 q_3 g_3 c_3;generalize((((((wb.setCell ⟨w.heap.size+1+1,0,none⟩ (.bool false)).setCell ⟨w.heap.size+1+1,1,none⟩ yN).setCell ⟨w.heap.size+1+1,2,none⟩ (yi 0)).setCell ⟨w.heap.size+1+1,3,none⟩ (.bool false)).setCell ⟨w.heap.size+1+1,4,none⟩ (.bool false)).setCell ⟨w.heap.size+1+1,5,none⟩ (.bool false))=WR at cR bR⊢;obtain⟨s0,s1,s2,s3,s4,s5⟩:=cR.cs6;rw[HF.out.1,HF.out.2]
   show bodyPost _ _ _ .ret _ _
   refine bodyPost_ret (v:= .tuple #[ypV false yN 0 false false false,yi 6]) (by simp[results,results61,go_sem,s0,s1,s2,s3,s4,s5]) rfl ?_;exact⟨_,rfl,aQ _ _ _ _,bR⟩
  ·have hf:=hfv.out rfl
   have HZ3:Hid _:=HZ2.out rfl;have HG3:Hid _:=HG2.out rfl;have HR3:Hid _:=HR2.out rfl;clear HK2 HZ2 HG2 HR2 hfn hfv;subst hf;have x1:=q_3.c 1 rfl
   cases z
   ·have HF:Hid _:=HG3.out rfl
    have HRF:Hid _:=HR3.out rfl;clear HZ3 HG3 HR3;have x0:=q_3.c 0 rfl;have x2:=q_3.c 2 rfl;have x3:=q_3.c 3 rfl;obtain⟨y0,y1,y2,y3,y4⟩:=g_3.cs5;have hwb:=b0_3.size
    go_wp2_with fail
    refine(HRF.out _ b0_3).mono ?_;rintro z wc ⟨v,rfl,ou,bb4⟩;have q_4:=q_3.l bb4;have g_4:=g_3.l bb4;have c_4:=c_3.l bb4;have b0_4:=aa b0_3 bb4;clear q_3 g_3 c_3 b0_3 bb4;clear x0 x1 x2 x3 y0 y1 y2 y3 y4;obtain⟨uo,uk,hv⟩:=ou.rd.shape;subst hv;obtain⟨lu,hlu⟩: ∃x,(Dg.dg 4294967296 PT.d).length=x:=⟨_,rfl⟩;rw[hlu] at ou;rw[hlu];clear hlu;have s0:=c_4.c 0 rfl;have f0:=c_4.f 0;have s1:=c_4.c 1 rfl;have f1:=c_4.f 1;have s2:=c_4.c 2 rfl;have f2:=c_4.f 2;have s3:=c_4.c 3 rfl;have f3:=c_4.f 3;have s4:=c_4.c 4 rfl;have f4:=c_4.f 4;have s5:=c_4.c 5 rfl;have f5:=c_4.f 5
    go_wp2
    have bu:But (w.heap.size+1+1) wc ((((((wc.setCell ⟨w.heap.size+1+1,0,none⟩ (.bool PT.s)).setCell ⟨w.heap.size+1+1,1,none⟩ (.slice uo lu uk)).setCell ⟨w.heap.size+1+1,2,none⟩ (yi PT.p)).setCell ⟨w.heap.size+1+1,3,none⟩ (.bool PT.ex)).setCell ⟨w.heap.size+1+1,4,none⟩ (.bool PT.ov)).setCell ⟨w.heap.size+1+1,5,none⟩ (.bool PT.un)):=(((((ag wc (w.heap.size+1+1) 0 (.bool PT.s)).trans (ag _ (w.heap.size+1+1) 1 (.slice uo lu uk))).trans (ag _ (w.heap.size+1+1) 2 (yi PT.p))).trans (ag _ (w.heap.size+1+1) 3 (.bool PT.ex))).trans (ag _ (w.heap.size+1+1) 4 (.bool PT.ov))).trans (ag _ (w.heap.size+1+1) 5 (.bool PT.un));have cR:au ((((((wc.setCell ⟨w.heap.size+1+1,0,none⟩ (.bool PT.s)).setCell ⟨w.heap.size+1+1,1,none⟩ (.slice uo lu uk)).setCell ⟨w.heap.size+1+1,2,none⟩ (yi PT.p)).setCell ⟨w.heap.size+1+1,3,none⟩ (.bool PT.ex)).setCell ⟨w.heap.size+1+1,4,none⟩ (.bool PT.ov)).setCell ⟨w.heap.size+1+1,5,none⟩ (.bool PT.un)) (w.heap.size+1+1) 140 (ypL PT.s (.slice uo lu uk) PT.p PT.ex PT.ov PT.un):=(((((c_4.set 0 (.bool PT.s)).set 1 (.slice uo lu uk)).set 2 (yi PT.p)).set 3 (.bool PT.ex)).set 4 (.bool PT.ov)).set 5 (.bool PT.un);have bR:=bu.below b0_4 (show w.heap.size≤w.heap.size+1+1 by omega)
    have oR:=bu.own (ou.lower hwb) c_4 (by decide);clear bu s0 s1 s2 s3 s4 s5 f0 f1 f2 f3 f4 f5 q_4 g_4 c_4;generalize((((((wc.setCell ⟨w.heap.size+1+1,0,none⟩ (.bool PT.s)).setCell ⟨w.heap.size+1+1,1,none⟩ (.slice uo lu uk)).setCell ⟨w.heap.size+1+1,2,none⟩ (yi PT.p)).setCell ⟨w.heap.size+1+1,3,none⟩ (.bool PT.ex)).setCell ⟨w.heap.size+1+1,4,none⟩ (.bool PT.ov)).setCell ⟨w.heap.size+1+1,5,none⟩ (.bool PT.un))=WR at cR bR oR⊢;obtain⟨s0,s1,s2,s3,s4,s5⟩:=cR.cs6;rw[HF.out.1,HF.out.2]
    show bodyPost _ _ _ .ret _ _
    refine bodyPost_ret (v:= .tuple #[ypV PT.s (.slice uo lu uk) PT.p PT.ex PT.ov PT.un,yi 0]) (by simp[results,results61,go_sem,s0,s1,s2,s3,s4,s5]) rfl ?_;exact⟨_,rfl,oR,bR⟩
   ·have HF:Hid _:=HZ3.out rfl
    clear HZ3 HG3 HR3;have s0:=c_3.c 0 rfl;have f0:=c_3.f 0;have s1:=c_3.c 1 rfl;have f1:=c_3.f 1;have s2:=c_3.c 2 rfl;have f2:=c_3.f 2;have s3:=c_3.c 3 rfl;have f3:=c_3.f 3;have s4:=c_3.c 4 rfl;have f4:=c_3.f 4;have s5:=c_3.c 5 rfl;have f5:=c_3.f 5
    go_wp2
    have bu:But (w.heap.size+1+1) wb ((((((wb.setCell ⟨w.heap.size+1+1,0,none⟩ (.bool false)).setCell ⟨w.heap.size+1+1,1,none⟩ yN).setCell ⟨w.heap.size+1+1,2,none⟩ (yi 0)).setCell ⟨w.heap.size+1+1,3,none⟩ (.bool true)).setCell ⟨w.heap.size+1+1,4,none⟩ (.bool false)).setCell ⟨w.heap.size+1+1,5,none⟩ (.bool false)):=(((((ag wb (w.heap.size+1+1) 0 (.bool false)).trans (ag _ (w.heap.size+1+1) 1 yN)).trans (ag _ (w.heap.size+1+1) 2 (yi 0))).trans (ag _ (w.heap.size+1+1) 3 (.bool true))).trans (ag _ (w.heap.size+1+1) 4 (.bool false))).trans (ag _ (w.heap.size+1+1) 5 (.bool false));have cR:au ((((((wb.setCell ⟨w.heap.size+1+1,0,none⟩ (.bool false)).setCell ⟨w.heap.size+1+1,1,none⟩ yN).setCell ⟨w.heap.size+1+1,2,none⟩ (yi 0)).setCell ⟨w.heap.size+1+1,3,none⟩ (.bool true)).setCell ⟨w.heap.size+1+1,4,none⟩ (.bool false)).setCell ⟨w.heap.size+1+1,5,none⟩ (.bool false)) (w.heap.size+1+1) 140 (ypL false yN 0 true false false):=(((((c_3.set 0 (.bool false)).set 1 yN).set 2 (yi 0)).set 3 (.bool true)).set 4 (.bool false)).set 5 (.bool false);have bR:=bu.below b0_3 (show w.heap.size≤w.heap.size+1+1 by omega)
    clear bu s0 s1 s2 s3 s4 s5 f0 f1 f2 f3 f4 f5 q_3 g_3 c_3;generalize((((((wb.setCell ⟨w.heap.size+1+1,0,none⟩ (.bool false)).setCell ⟨w.heap.size+1+1,1,none⟩ yN).setCell ⟨w.heap.size+1+1,2,none⟩ (yi 0)).setCell ⟨w.heap.size+1+1,3,none⟩ (.bool true)).setCell ⟨w.heap.size+1+1,4,none⟩ (.bool false)).setCell ⟨w.heap.size+1+1,5,none⟩ (.bool false))=WR at cR bR⊢;obtain⟨s0,s1,s2,s3,s4,s5⟩:=cR.cs6;rw[HF.out.1,HF.out.2]
    show bodyPost _ _ _ .ret _ _
    refine bodyPost_ret (v:= .tuple #[ypV false yN 0 true false false,yi 0]) (by simp[results,results61,go_sem,s0,s1,s2,s3,s4,s5]) rfl ?_;exact⟨_,rfl,aQ _ _ _ _,bR⟩
 ·have hcf:(c==0)=false:=by simp;exact hc
  have HF:Hid _:=HB.out hc;clear hc HB HK HZ HG HR;have s0:=c_2.c 0 rfl;have f0:=c_2.f 0;have s1:=c_2.c 1 rfl;have f1:=c_2.f 1;have s2:=c_2.c 2 rfl;have f2:=c_2.f 2;have s3:=c_2.c 3 rfl;have f3:=c_2.f 3;have s4:=c_2.c 4 rfl;have f4:=c_2.f 4;have s5:=c_2.c 5 rfl;have f5:=c_2.f 5
  go_wp2
  have bu:But (w.heap.size+1+1) wa ((((((wa.setCell ⟨w.heap.size+1+1,0,none⟩ (.bool false)).setCell ⟨w.heap.size+1+1,1,none⟩ yN).setCell ⟨w.heap.size+1+1,2,none⟩ (yi 0)).setCell ⟨w.heap.size+1+1,3,none⟩ (.bool false)).setCell ⟨w.heap.size+1+1,4,none⟩ (.bool false)).setCell ⟨w.heap.size+1+1,5,none⟩ (.bool false)):=(((((ag wa (w.heap.size+1+1) 0 (.bool false)).trans (ag _ (w.heap.size+1+1) 1 yN)).trans (ag _ (w.heap.size+1+1) 2 (yi 0))).trans (ag _ (w.heap.size+1+1) 3 (.bool false))).trans (ag _ (w.heap.size+1+1) 4 (.bool false))).trans (ag _ (w.heap.size+1+1) 5 (.bool false));have cR:au ((((((wa.setCell ⟨w.heap.size+1+1,0,none⟩ (.bool false)).setCell ⟨w.heap.size+1+1,1,none⟩ yN).setCell ⟨w.heap.size+1+1,2,none⟩ (yi 0)).setCell ⟨w.heap.size+1+1,3,none⟩ (.bool false)).setCell ⟨w.heap.size+1+1,4,none⟩ (.bool false)).setCell ⟨w.heap.size+1+1,5,none⟩ (.bool false)) (w.heap.size+1+1) 140 (ypL false yN 0 false false false):=(((((c_2.set 0 (.bool false)).set 1 yN).set 2 (yi 0)).set 3 (.bool false)).set 4 (.bool false)).set 5 (.bool false);have bR:=bu.below b0_2 (show w.heap.size≤w.heap.size+1+1 by omega)
  clear bu s0 s1 s2 s3 s4 s5 f0 f1 f2 f3 f4 f5 q_2 g_2 c_2;generalize((((((wa.setCell ⟨w.heap.size+1+1,0,none⟩ (.bool false)).setCell ⟨w.heap.size+1+1,1,none⟩ yN).setCell ⟨w.heap.size+1+1,2,none⟩ (yi 0)).setCell ⟨w.heap.size+1+1,3,none⟩ (.bool false)).setCell ⟨w.heap.size+1+1,4,none⟩ (.bool false)).setCell ⟨w.heap.size+1+1,5,none⟩ (.bool false))=WR at cR bR⊢;obtain⟨s0,s1,s2,s3,s4,s5⟩:=cR.cs6;rw[HF.out.1,HF.out.2]
  show bodyPost _ _ _ .ret _ _
  refine bodyPost_ret (v:= .tuple #[ypV false yN 0 false false false,yi c]) (by simp[results,results61,go_sem,s0,s1,s2,s3,s4,s5]) rfl ?_;exact⟨_,rfl,aQ _ _ _ _,bR⟩
theorem xG (s:Bool)(v:Value)(m:Nat)(e:Int)(left:Bool)(w:World)(hr:Rd w .u32 v (Dg.dg 4294967296 m))(hL:(Dg.dg 4294967296 m).length≤500000)(he1: -2000000≤e)(he2:e≤2000000):
  yC 257 #[.bool s,v,yi e,.bool left] w (jN w (d8 s m e left)):=by
 have HSH:Hid (∀w1,yB w w1→yC 47 #[v,yi 1] w1 (Num w1 (m*2))):=fun w1 b1=>by
  have:=eO v _ 1 w1 (hr.l b1) (Dg.small_dg _ _ (by omega)) (by omega) (by omega) (by omega);rw[Dg.vl_dg _ _ (by omega)] at this;exact this
 have hl2:(Dg.dg 4294967296 (m*2)).length≤500001:=by
  have:=CF m 1 500000 1 hL (by omega)
  rwa [Nat.pow_one] at this
 have HP1:Hid (∀v1 v2 w1,Rd w1 .u32 v1 (Dg.dg 4294967296 (m*2))→Rd w1 .u32 v2 [1]→yC 48 #[v1,v2] w1 (Num w1 (m*2+1))):=fun v1 v2 w1 h1 h2=>by
  have:=rj v1 v2 _ _ w1 h1 h2 (Dg.small_dg _ _ (by omega)) (Dg.small_cons.2 ⟨by omega,Dg.small_nil _ (by omega)⟩) (by omega) (by simp)
  rwa [Dg.vl_dg _ _ (by omega),show Dg.vl 4294967296 [1]=1 from rfl] at this
 obtain⟨ao,ca,rfl⟩:=hr.shape;obtain⟨l,hl⟩: ∃l,(Dg.dg 4294967296 m).length=l:=⟨_,rfl⟩;rw[hl] at HSH⊢;have bA:=af w (.cells (ydA false yN 0) 86);have l2:=aA w (.bool false) yN (yi 0) 86;have hew:IntKind.i64.wrap (e-1)=e-1:=IntWalk.i64_in _ ⟨by omega,by omega⟩;unfold d8;clear hr hL hl hl2
 cases left
 ·rw[if_neg (by decide),Nat.add_zero]
  go_enter func257,ntmps257
  go_wp2_with fail
  refine(HSH.out _ bA).mono ?_;rintro z w1 ⟨v1,rfl,o1,b1⟩;have o1:=o1.lower (show w.heap.size+1≤_ by simp[World.size_alloc])
  replace l2:=l2.l b1;replace bA:=aa bA b1;obtain⟨so,sc,hvr⟩:=o1.rd.shape;subst hvr;clear b1
  go_wp2_with fail
  refine(l9 s so (Dg.dg 4294967296 (m*2)).length sc (e-1) _).mono ?_;rintro z w8 ⟨rfl,b8⟩;replace l2:=l2.l b8;replace bA:=aa bA b8;replace o1:=o1.l b8;clear b8;obtain⟨hl2,⟨d0,d1,d2⟩,f0,f1,f2⟩:=id l2;obtain⟨-,⟨g0,g1,g2⟩,-⟩:=aD l2 (.bool s) (.slice so (Dg.dg 4294967296 (m*2)).length sc) (yi (e-1));have o7:=o1.apart3 (b:=w.heap.size) (by omega) (.bool s) (.slice so (Dg.dg 4294967296 (m*2)).length sc) (yi (e-1));have b9:=am bA (Nat.le_refl _) (.bool s) (.slice so (Dg.dg 4294967296 (m*2)).length sc) (yi (e-1))
  go_wp2
  refine bodyPost_ret (v:=(ydV s (.slice so (Dg.dg 4294967296 (m*2)).length sc) (e-1))) (by simp[results,results257,go_sem,g0,g1,g2]) rfl ?_;exact⟨_,rfl,o7.lower (by omega),b9⟩
 ·rw[if_pos rfl]
  go_enter func257,ntmps257
  go_wp2_with fail
  refine(HSH.out _ bA).mono ?_;rintro z w1 ⟨v1,rfl,o1,b1⟩;replace l2:=l2.l b1;replace bA:=aa bA b1;have b7:=af w1 (.cells #[.int .u32 ((1:Nat):Int)] 116);have rn:=cE (w:=w1) (k:= .u32) (e:=116) [1] #[.int .u32 ((1:Nat):Int)] rfl (by unfold maxLen;simp);have hpl:=HP1.out _ _ _ (o1.rd.l b7) rn;replace l2:=l2.l b7;replace bA:=aa bA b7;have hsz:=l2.1;clear b1 b7 rn o1
  go_wp2_with fail
  refine hpl.mono ?_;rintro z w3 ⟨v3,rfl,o1,b3⟩;have o1:=o1.lower (show w.heap.size+1≤_ from hsz)
  replace l2:=l2.l b3;replace bA:=aa bA b3;obtain⟨so,sc,hvr⟩:=o1.rd.shape;subst hvr;clear b3 hpl
  go_wp2_with fail
  refine(l9 s so (Dg.dg 4294967296 (m*2+1)).length sc (e-1) _).mono ?_;rintro z w8 ⟨rfl,b8⟩;replace l2:=l2.l b8;replace bA:=aa bA b8;replace o1:=o1.l b8;clear b8;obtain⟨hl2,⟨d0,d1,d2⟩,f0,f1,f2⟩:=id l2;obtain⟨-,⟨g0,g1,g2⟩,-⟩:=aD l2 (.bool s) (.slice so (Dg.dg 4294967296 (m*2+1)).length sc) (yi (e-1));have o7:=o1.apart3 (b:=w.heap.size) (by omega) (.bool s) (.slice so (Dg.dg 4294967296 (m*2+1)).length sc) (yi (e-1));have b9:=am bA (Nat.le_refl _) (.bool s) (.slice so (Dg.dg 4294967296 (m*2+1)).length sc) (yi (e-1))
  go_wp2
  refine bodyPost_ret (v:=(ydV s (.slice so (Dg.dg 4294967296 (m*2+1)).length sc) (e-1))) (by simp[results,results257,go_sem,g0,g1,g2]) rfl ?_;exact⟨_,rfl,o7.lower (by omega),b9⟩
end Go.Proofs.YtdhpndnncmagiaaGreatDoor

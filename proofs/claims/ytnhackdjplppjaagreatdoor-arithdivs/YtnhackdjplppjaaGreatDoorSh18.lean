/-
  Texts laid together: Co19, Co20.
-/
import Derived.Test.YtnhackdjplppjaaGreatDoorSh17
set_option maxRecDepth 100000
set_option maxHeartbeats 6400000
namespace Go.Proofs.YtnhackdjplppjaaGreatDoor
open _root_.Go.Proofs.Tryz
open Go.RowKit
theorem il (f:Nat): ∀(c x:Nat) (zs:List Nat),(iS f c x zs).length=zs.length
 |0,_,_=>rfl
 |c+1,x,zs=>by rw[iS,il f c];exact List.length_set
theorem mj (f:Nat): ∀(c x:Nat) (zs:List Nat),Dg.Small 256 zs→Dg.Small 256 (iS f c x zs)
 |0,_,_,h=>h
 |c+1,x,zs,h=>by
  rw[iS];exact mj f c _ _ (Io h _ _ (Nat.or_lt_two_pow (n:=8) (h _) (Cf _ _)))
theorem vi {P:Program}{w:World}{e g cap:Nat}{zs:List Nat}(src dst:TypeId)(hs:P.underlying src=some (.slice e))(he:P.underlying e=some (.int .u8))(hd:P.underlying dst=some .string)
  (h:ik w g zs):(convert src dst (.slice (some ⟨g,0,none⟩) zs.length cap)).run P w= .ok (.string (cF zs)) w:=by
 rw[run_convert_bytes_string w src dst e _ _ _ hs he hd];have hl:=run_loadCells_list (P:=P) w ⟨g,0,none⟩ (zs.map (fun n:Nat=>Value.int .u8 (n:Int))) (by
  intro j u hj;have hjl:j<zs.length:=by have:=(List.getElem?_eq_some_iff.1 hj).1;simpa using this
  rw[j9 _ zs j hjl] at hj;rw[rO,Nat.zero_add,h.c j hjl];exact hj)
 rw[List.length_map] at hl;have:=run_bytesToString (P:=P) w ⟨g,0,none⟩ zs.length cap (zs.map (fun n:Nat=>(n:Int))) (by
  rw[hl];simp)
 rw[this,Iu];simp[cF]
theorem Mw (R D L G fam:Int)(gr:Bool)(sz ex fr:Nat)(F:Nat)(e f:Nat)(ts:List Nat)(w:World)(hfr:1+ex+fr=8*sz)(hex:ex≤15)(hsz:sz≤10)(he:e<65536)(hf:f<18446744073709551616)(hts:ts.length=sz)
  (HT: ∀g cap w1,ik w1 g (iS (1+ex) fr f (iS 1 ex e (iS 0 1 1 (List.replicate sz 0))))→yC F #[.slice (some ⟨g,0,none⟩) sz cap] w1 fun z w'=>z= .returned (.tuple #[])∧ik w' g ts∧w1.grownBy w' (some g))
  (HFR:yJ 197 #[ylV R D L G gr (sz:Int) (ex:Int) fam F] (yi (fr:Int)))
  (HE: ∀args W,Sem.run Tryz.prog (callFunc F args) W= .ok (.enter F args) W):
  yC 158 #[ylV R D L G gr (sz:Int) (ex:Int) fam F,yfV true (e:Int) (f:Int)] w (yR w (.string (cF ts))):=by
 have hsf:=cD;have l0:=(ah w (ylL R D L G gr (sz:Int) (ex:Int) fam F) 144).l (af _ (.cells (yfA true (e:Int) (f:Int)) 147));have m0:=ah (w.alloc (.cells (ylA R D L G gr (sz:Int) (ex:Int) fam F) 144)) (yfL true (e:Int) (f:Int)) 147;have b0:=aa (af w (.cells (ylA R D L G gr (sz:Int) (ex:Int) fam F) 144)) (af _ (.cells (yfA true (e:Int) (f:Int)) 147));rw[World.size_alloc] at m0;have H2:((w.alloc (.cells (ylA R D L G gr (sz:Int) (ex:Int) fam F) 144)).alloc (.cells (yfA true (e:Int) (f:Int)) 147)).heap.size=w.heap.size+2:=by rw[World.size_alloc,World.size_alloc]
 obtain⟨i0,hi,hz0,hz1,hz2⟩:=info_parts Tryz.infoU8;have HT':Hid _:=HT;have HFR':Hid _:=HFR;clear HT HFR;obtain⟨x0,x1,x2,x3,x4,x5,x6,x7,x8⟩:=l0.cs9;obtain⟨u0,u1,u2⟩:=m0.cs3
 go_enter func158,ntmps158
 go_wp2_with (at_make;refine wpList_make_full _ rfl _ _ 110 rfl (w.heap.size+2) 5 i0 (.int .u8 0) 1 underlying110 hi hz0 hz1 _ _ _ _ sz rfl rfl (by omega) (by omega) ?b2 ?b3 (Nat.le_of_eq H2.symm) ?_)
 case b2=>rw[hz2];omega
 case b3=>unfold maxLen;omega
 intro w1 hown hgrow;have r1:=Ev (gL hown);have bg:=(Below.refl _ _).grown hgrow (Nat.le_refl _) (fun k h=>by cases h)
 have l1:=l0.l bg;have m1:=m0.l bg;have b1:=aa b0 bg;clear hown hgrow bg l0 m0 b0 hi hz0 hz1 hz2 H2 x0 x1 x2 x3 x4 x5 x6 x7 x8 u0 u1 u2;obtain⟨g,hg⟩: ∃g,w.heap.size+2=g:=⟨_,rfl⟩;have hg0:w.heap.size≠g:=by omega
 have hg1:w.heap.size+1≠g:=by omega
 have hgl:w.heap.size≤g:=by omega
 rw[hg] at r1⊢;clear hg;have HSB:Hid (∀(c a b:Nat) (zs:List Nat) w1,ik w1 g zs→zs.length=sz→Dg.Small 256 zs→a+b≤8*sz→c<18446744073709551616→yC 207 #[.slice (some ⟨g,0,none⟩) sz sz,yi (a:Int),yi (b:Int),.int .u64 (c:Int)] w1 fun z w'=>z= .returned (.tuple #[])∧ik w' g (iS a b c zs)∧w1.grownBy w' (some g)):=fun c a b zs w1 h hz hm hab hc=>by
  have:=AY g sz zs a b c w1 h hm hc (by omega) (by omega);rw[hz] at this;exact this
 have sm0:Dg.Small 256 (List.replicate sz 0):=by
  intro i
  by_cases hi:i<sz
  ·simp[List.getD_eq_getElem?_getD,hi]
  ·simp[List.getD_eq_getElem?_getD,hi]
 have ln0:(List.replicate sz 0).length=sz:=List.length_replicate;have hwe:IntKind.u64.wrap (e:Int)=(e:Int):=IntWalk.u64_in _ ⟨by omega,by omega⟩;have hwr:IntKind.i64.wrap (1+(ex:Int))=1+(ex:Int):=IntWalk.i64_in _ ⟨by omega,by omega⟩;have HN:Hid _:=hfr;have ln1:(iS 0 1 1 (List.replicate sz 0)).length=sz:=by rw[il];exact ln0
 have sm1:Dg.Small 256 (iS 0 1 1 (List.replicate sz 0)):=mj _ _ _ _ sm0;have hs0:=HSB.out 1 0 1 (List.replicate sz 0) _ r1 ln0 sm0 (by omega) (by omega);have HS0:Hid _:=hs0;clear hs0;obtain⟨x0,x1,x2,x3,x4,x5,x6,x7,x8⟩:=l1.cs9;obtain⟨u0,u1,u2⟩:=m1.cs3
 go_wp2_with fail
 refine Calls.mono HS0.out ?_;rintro z w2 ⟨rfl,r2,g2⟩;have l2:=l1.grown g2 hg0;have m2:=m1.grown g2 hg1;have b2:=b1.grown g2 b1.size (fun k h=>by cases h;exact hgl)
 clear x0 x1 x2 x3 x4 x5 x6 x7 x8 u0 u1 u2 l1 m1 b1 g2 HS0 r1;obtain⟨z2,hz2⟩: ∃z,iS 1 ex e (iS 0 1 1 (List.replicate sz 0))=z:=⟨_,rfl⟩;obtain⟨z3,hz3⟩: ∃z,iS (1+ex) fr f z2=z:=⟨_,rfl⟩;have ln2:z2.length=sz:=by rw[←hz2,il];exact ln1
 have sm2:Dg.Small 256 z2:=by rw[←hz2];exact mj _ _ _ _ sm1
 have hs1:=HSB.out e 1 ex (iS 0 1 1 (List.replicate sz 0)) _ r2 ln1 sm1 (by omega) (by omega);have HS3:Hid (∀w1,ik w1 g z2→yC 207 #[.slice (some ⟨g,0,none⟩) sz sz,yi (1+(ex:Int)),yi (fr:Int),.int .u64 (f:Int)] w1 fun z w'=>z= .returned (.tuple #[])∧ik w' g z3∧w1.grownBy w' (some g)):=fun w1 h=>by
  have:=HSB.out f (1+ex) fr z2 w1 h ln2 sm2 (by omega) hf;rw[hz3,show(((1+ex:Nat):Nat):Int)=1+(ex:Int) from by omega] at this
  exact this
 rw[hz2,hz3] at HT';rw[hz2] at hs1;have HS1:Hid _:=hs1;clear hs1 hz2 hz3 sm2 ln2 sm0 ln0 HSB hfr ln1 sm1;obtain⟨x0,x1,x2,x3,x4,x5,x6,x7,x8⟩:=l2.cs9;obtain⟨u0,u1,u2⟩:=m2.cs3
 go_wp2_with fail
 refine Calls.mono HS1.out ?_;rintro z w3 ⟨rfl,r3,g3⟩;have l3:=(l2.grown g3 hg0).drew;have m3:=(m2.grown g3 hg1).drew;have b3:=(b2.grown g3 b2.size (fun k h=>by cases h;exact hgl)).drew
 have r3d:=r3.drew;clear x0 x1 x2 x3 x4 x5 x6 x7 x8 u0 u1 u2 l2 m2 b2 g3 HS1 r3 r2;obtain⟨x0,x1,x2,x3,x4,x5,x6,x7,x8⟩:=l3.cs9;obtain⟨u0,u1,u2⟩:=m3.cs3
 go_wp2_with fail
 go_region_held3 (fun wq=>(wq.cell? ⟨w.heap.size,0,none⟩=some (yi (R:Int))∧wq.cell? ⟨w.heap.size,1,none⟩=some (yi D)∧wq.cell? ⟨w.heap.size,2,none⟩=some (yi L)∧wq.cell? ⟨w.heap.size,3,none⟩=some (yi G)∧wq.cell? ⟨w.heap.size,4,none⟩=some (.bool gr)∧wq.cell? ⟨w.heap.size,5,none⟩=some (yi (sz:Int))∧wq.cell? ⟨w.heap.size,6,none⟩=some (yi (ex:Int))∧wq.cell? ⟨w.heap.size,7,none⟩=some (yi fam)∧wq.cell? ⟨w.heap.size,8,none⟩=some (.func (.func F) #[] #[]))∧(wq.cell? ⟨w.heap.size+1,0,none⟩=some (.bool true)∧wq.cell? ⟨w.heap.size+1,1,none⟩=some (yi (e:Int))∧wq.cell? ⟨w.heap.size+1,2,none⟩=some (.int .u64 (f:Int)))) (go_keep) (first
  | (go_at_call 197;refine(HFR'.out _).mono ?_;rintro z w4 ⟨rfl,b4⟩;have l4:=l3.l b4;have m4:=m3.l b4;have b04:=aa b3 b4;have r4:=r3d.l b4;obtain⟨y0,y1,y2,y3,y4,y5,y6,y7,y8⟩:=l4.cs9;obtain⟨v0,v1,v2⟩:=m4.cs3)
  | (go_at_call 207;refine(HS3.out _ r4).mono ?_;rintro z w5 ⟨rfl,r5,g5⟩;have l5:=l4.grown g5 hg0;have m5:=m4.grown g5 hg1;have b05:=b04.grown g5 b04.size (fun k h=>by cases h;exact hgl);obtain⟨t0,t1,t2,t3,t4,t5,t6,t7,t8⟩:=l5.cs9;obtain⟨s0,s1,s2⟩:=m5.cs3))
 go_wp2_with fail
 refine(HT'.out _ _ _ r5).mono ?_;rintro z w6 ⟨rfl,r6,g6⟩;have b06:=b05.grown g6 b05.size (fun k h=>by cases h;exact hgl)
 have hcv:=vi (cap:=sz) 110 9 underlying110 underlying5 underlying9 r6;rw[hts] at hcv
 go_wp2
 go_ret
 exact⟨rfl,b06⟩
theorem Km (R D L G fam:Int)(gr:Bool)(sz ex fr:Nat)(F:Nat)(e f:Nat)(ts:List Nat)(w:World)(hfr:1+ex+fr=8*sz)(hex:ex≤15)(hsz:sz≤10)(he:e<65536)(hf:f<18446744073709551616)(hts:ts.length=sz)
  (HT: ∀g cap w1,ik w1 g (iS (1+ex) fr f (iS 1 ex e (List.replicate sz 0)))→yC F #[.slice (some ⟨g,0,none⟩) sz cap] w1 fun z w'=>z= .returned (.tuple #[])∧ik w' g ts∧w1.grownBy w' (some g))
  (HFR:yJ 197 #[ylV R D L G gr (sz:Int) (ex:Int) fam F] (yi (fr:Int)))
  (HE: ∀args W,Sem.run Tryz.prog (callFunc F args) W= .ok (.enter F args) W):
  yC 158 #[ylV R D L G gr (sz:Int) (ex:Int) fam F,yfV false (e:Int) (f:Int)] w (yR w (.string (cF ts))):=by
 have hsf:=cD;have l0:=(ah w (ylL R D L G gr (sz:Int) (ex:Int) fam F) 144).l (af _ (.cells (yfA false (e:Int) (f:Int)) 147));have m0:=ah (w.alloc (.cells (ylA R D L G gr (sz:Int) (ex:Int) fam F) 144)) (yfL false (e:Int) (f:Int)) 147;have b0:=aa (af w (.cells (ylA R D L G gr (sz:Int) (ex:Int) fam F) 144)) (af _ (.cells (yfA false (e:Int) (f:Int)) 147));rw[World.size_alloc] at m0;have H2:((w.alloc (.cells (ylA R D L G gr (sz:Int) (ex:Int) fam F) 144)).alloc (.cells (yfA false (e:Int) (f:Int)) 147)).heap.size=w.heap.size+2:=by rw[World.size_alloc,World.size_alloc]
 obtain⟨i0,hi,hz0,hz1,hz2⟩:=info_parts Tryz.infoU8;have HT':Hid _:=HT;have HFR':Hid _:=HFR;clear HT HFR;obtain⟨x0,x1,x2,x3,x4,x5,x6,x7,x8⟩:=l0.cs9;obtain⟨u0,u1,u2⟩:=m0.cs3
 go_enter func158,ntmps158
 go_wp2_with (at_make;refine wpList_make_full _ rfl _ _ 110 rfl (w.heap.size+2) 5 i0 (.int .u8 0) 1 underlying110 hi hz0 hz1 _ _ _ _ sz rfl rfl (by omega) (by omega) ?b2 ?b3 (Nat.le_of_eq H2.symm) ?_)
 case b2=>rw[hz2];omega
 case b3=>unfold maxLen;omega
 intro w1 hown hgrow;have r1:=Ev (gL hown);have bg:=(Below.refl _ _).grown hgrow (Nat.le_refl _) (fun k h=>by cases h)
 have l1:=l0.l bg;have m1:=m0.l bg;have b1:=aa b0 bg;clear hown hgrow bg l0 m0 b0 hi hz0 hz1 hz2 H2 x0 x1 x2 x3 x4 x5 x6 x7 x8 u0 u1 u2;obtain⟨g,hg⟩: ∃g,w.heap.size+2=g:=⟨_,rfl⟩;have hg0:w.heap.size≠g:=by omega
 have hg1:w.heap.size+1≠g:=by omega
 have hgl:w.heap.size≤g:=by omega
 rw[hg] at r1⊢;clear hg;have HSB:Hid (∀(c a b:Nat) (zs:List Nat) w1,ik w1 g zs→zs.length=sz→Dg.Small 256 zs→a+b≤8*sz→c<18446744073709551616→yC 207 #[.slice (some ⟨g,0,none⟩) sz sz,yi (a:Int),yi (b:Int),.int .u64 (c:Int)] w1 fun z w'=>z= .returned (.tuple #[])∧ik w' g (iS a b c zs)∧w1.grownBy w' (some g)):=fun c a b zs w1 h hz hm hab hc=>by
  have:=AY g sz zs a b c w1 h hm hc (by omega) (by omega);rw[hz] at this;exact this
 have sm0:Dg.Small 256 (List.replicate sz 0):=by
  intro i
  by_cases hi:i<sz
  ·simp[List.getD_eq_getElem?_getD,hi]
  ·simp[List.getD_eq_getElem?_getD,hi]
 have ln0:(List.replicate sz 0).length=sz:=List.length_replicate;have hwe:IntKind.u64.wrap (e:Int)=(e:Int):=IntWalk.u64_in _ ⟨by omega,by omega⟩;have hwr:IntKind.i64.wrap (1+(ex:Int))=1+(ex:Int):=IntWalk.i64_in _ ⟨by omega,by omega⟩;have HN:Hid _:=hfr;obtain⟨z2,hz2⟩: ∃z,iS 1 ex e (List.replicate sz 0)=z:=⟨_,rfl⟩;obtain⟨z3,hz3⟩: ∃z,iS (1+ex) fr f z2=z:=⟨_,rfl⟩;have ln2:z2.length=sz:=by rw[←hz2,il];exact ln0
 have sm2:Dg.Small 256 z2:=by rw[←hz2];exact mj _ _ _ _ sm0
 have hs1:=HSB.out e 1 ex (List.replicate sz 0) _ r1 ln0 sm0 (by omega) (by omega);have HS3:Hid (∀w1,ik w1 g z2→yC 207 #[.slice (some ⟨g,0,none⟩) sz sz,yi (1+(ex:Int)),yi (fr:Int),.int .u64 (f:Int)] w1 fun z w'=>z= .returned (.tuple #[])∧ik w' g z3∧w1.grownBy w' (some g)):=fun w1 h=>by
  have:=HSB.out f (1+ex) fr z2 w1 h ln2 sm2 (by omega) hf;rw[hz3,show(((1+ex:Nat):Nat):Int)=1+(ex:Int) from by omega] at this
  exact this
 rw[hz2,hz3] at HT';rw[hz2] at hs1;have HS1:Hid _:=hs1;clear hs1 hz2 hz3 sm2 ln2 sm0 ln0 HSB hfr;obtain⟨x0,x1,x2,x3,x4,x5,x6,x7,x8⟩:=l1.cs9;obtain⟨u0,u1,u2⟩:=m1.cs3
 go_wp2_with fail
 refine Calls.mono HS1.out ?_;rintro z w3 ⟨rfl,r3,g3⟩;have l3:=(l1.grown g3 hg0).drew;have m3:=(m1.grown g3 hg1).drew;have b3:=(b1.grown g3 b1.size (fun k h=>by cases h;exact hgl)).drew
 have r3d:=r3.drew;clear x0 x1 x2 x3 x4 x5 x6 x7 x8 u0 u1 u2 l1 m1 b1 g3 HS1 r3 r1;obtain⟨x0,x1,x2,x3,x4,x5,x6,x7,x8⟩:=l3.cs9;obtain⟨u0,u1,u2⟩:=m3.cs3
 go_wp2_with fail
 go_region_held3 (fun wq=>(wq.cell? ⟨w.heap.size,0,none⟩=some (yi (R:Int))∧wq.cell? ⟨w.heap.size,1,none⟩=some (yi D)∧wq.cell? ⟨w.heap.size,2,none⟩=some (yi L)∧wq.cell? ⟨w.heap.size,3,none⟩=some (yi G)∧wq.cell? ⟨w.heap.size,4,none⟩=some (.bool gr)∧wq.cell? ⟨w.heap.size,5,none⟩=some (yi (sz:Int))∧wq.cell? ⟨w.heap.size,6,none⟩=some (yi (ex:Int))∧wq.cell? ⟨w.heap.size,7,none⟩=some (yi fam)∧wq.cell? ⟨w.heap.size,8,none⟩=some (.func (.func F) #[] #[]))∧(wq.cell? ⟨w.heap.size+1,0,none⟩=some (.bool false)∧wq.cell? ⟨w.heap.size+1,1,none⟩=some (yi (e:Int))∧wq.cell? ⟨w.heap.size+1,2,none⟩=some (.int .u64 (f:Int)))) (go_keep) (first
  | (go_at_call 197;refine(HFR'.out _).mono ?_;rintro z w4 ⟨rfl,b4⟩;have l4:=l3.l b4;have m4:=m3.l b4;have b04:=aa b3 b4;have r4:=r3d.l b4;obtain⟨y0,y1,y2,y3,y4,y5,y6,y7,y8⟩:=l4.cs9;obtain⟨v0,v1,v2⟩:=m4.cs3)
  | (go_at_call 207;refine(HS3.out _ r4).mono ?_;rintro z w5 ⟨rfl,r5,g5⟩;have l5:=l4.grown g5 hg0;have m5:=m4.grown g5 hg1;have b05:=b04.grown g5 b04.size (fun k h=>by cases h;exact hgl);obtain⟨t0,t1,t2,t3,t4,t5,t6,t7,t8⟩:=l5.cs9;obtain⟨s0,s1,s2⟩:=m5.cs3))
 go_wp2_with fail
 refine(HT'.out _ _ _ r5).mono ?_;rintro z w6 ⟨rfl,r6,g6⟩;have b06:=b05.grown g6 b05.size (fun k h=>by cases h;exact hgl)
 have hcv:=vi (cap:=sz) 110 9 underlying110 underlying5 underlying9 r6;rw[hts] at hcv
 go_wp2
 go_ret
 exact⟨rfl,b06⟩
def kU (k:Nat)(ng:Bool)(e f:Nat):List Nat:=jT k (iS (1+exN k) (frN k) f (iS 1 (exN k) e (if ng then iS 0 1 1 (List.replicate (szN k) 0) else List.replicate (szN k) 0)))
theorem Mx (k:Nat)(ng:Bool)(e f:Nat):(kU k ng e f).length=szN k:=by
 unfold kU;rw[nM,il,il]
 split
 ·rw[il,List.length_replicate]
 ·rw[List.length_replicate]
theorem Aq (k:Nat)(hk:1≤k∧k≤8)(ng:Bool)(e f:Nat)(w:World)(he:e<65536)(hf:f<18446744073709551616):
  yC 158 #[.agg (tS k).toArray,yfV ng (e:Int) (f:Int)] w (yR w (.string (cF (kU k ng e f)))):=by
 obtain⟨h1,h2,h3,h4,h5,-⟩:=fZ hk;have hl:=Mx k ng e f;have HF:=fun w1=>tm k hk w1
 have HE:=fun args W=>Db k args W
 have HT:=fun zs (hz:zs.length=szN k) g cap w1 h=>IV k g cap zs w1 h (by omega) (by rw[hz];exact h5)
 cases ng
 ·have HT': ∀g cap w1,ik w1 g (iS (1+exN k) (frN k) f (iS 1 (exN k) e (List.replicate (szN k) 0)))→yC (C9 k) #[.slice (some ⟨g,0,none⟩) (szN k) cap] w1 fun z w'=>z= .returned (.tuple #[])∧ik w' g (kU k false e f)∧w1.grownBy w' (some g):=fun g cap w1 h=>by
   have hz:(iS (1+exN k) (frN k) f (iS 1 (exN k) e (List.replicate (szN k) 0))).length=szN k:=by rw[il,il,List.length_replicate]
   have:=HT _ hz g cap w1 h;rw[hz] at this;exact this
  rcases bO hk with rfl|rfl|rfl|rfl|rfl|rfl|rfl|rfl
  all_goals exact Km _ _ _ _ _ _ _ _ _ _ e f _ w h1 h2 h3 he hf hl HT' HF HE
 ·have HT': ∀g cap w1,ik w1 g (iS (1+exN k) (frN k) f (iS 1 (exN k) e (iS 0 1 1 (List.replicate (szN k) 0))))→yC (C9 k) #[.slice (some ⟨g,0,none⟩) (szN k) cap] w1 fun z w'=>z= .returned (.tuple #[])∧ik w' g (kU k true e f)∧w1.grownBy w' (some g):=fun g cap w1 h=>by
   have hz:(iS (1+exN k) (frN k) f (iS 1 (exN k) e (iS 0 1 1 (List.replicate (szN k) 0)))).length=szN k:=by rw[il,il,il,List.length_replicate]
   have:=HT _ hz g cap w1 h;rw[hz] at this;exact this
  rcases bO hk with rfl|rfl|rfl|rfl|rfl|rfl|rfl|rfl
  all_goals exact Mw _ _ _ _ _ _ _ _ _ _ e f _ w h1 h2 h3 he hf hl HT' HF HE
structure XU (w:World) (lv:List Value) (w':World):Prop where
 ly:au w' w.heap.size 144 lv
 m:au w' (w.heap.size+1) 147 (yfL false 0 0)
 b:yB w w'
theorem XU.l {w w1 w2:World}{lv:List Value}(h:XU w lv w1)(b:yB w1 w2):XU w lv w2:=⟨h.ly.l b,h.m.l b,aa h.b b⟩
theorem Ku (R D L G fam:Int)(gr:Bool)(sz ex:Nat)(F:Nat)(w:World):yC 156 #[ylV R D L G gr (sz:Int) (ex:Int) fam F,yi 1] w (yR w (.tuple #[yfV false 0 0,.bool true])):=by
 have hsf:=cD;have bf:=af (w.alloc (.cells (ylA R D L G gr (sz:Int) (ex:Int) fam F) 144)) (.cells (yfA false 0 0) 147);have l0:=(ah w (ylL R D L G gr (sz:Int) (ex:Int) fam F) 144).l bf;have m0:=ah (w.alloc (.cells (ylA R D L G gr (sz:Int) (ex:Int) fam F) 144)) (yfL false 0 0) 147;have b0:=aa (af w (.cells (ylA R D L G gr (sz:Int) (ex:Int) fam F) 144)) bf;rw[World.size_alloc] at m0;clear bf;obtain⟨x0,x1,x2,x3,x4,x5,x6,x7,x8⟩:=l0.cs9;obtain⟨u0,u1,u2⟩:=m0.cs3;have j0:=m0.f 0;have j1:=m0.f 1;have j2:=m0.f 2;have cR:=ah (w.alloc (.cells (ylA R D L G gr (sz:Int) (ex:Int) fam F) 144)) (yfL false 0 0) 147;rw[World.size_alloc] at cR;have bR:=aa (af w (.cells (ylA R D L G gr (sz:Int) (ex:Int) fam F) 144)) (af _ (.cells (yfA false 0 0) 147));have hl:=run_loadVar_mid (P:=Tryz.prog) _ (w.heap.size+1) 0 147 (yfL false 0 0) _ cR.range underlying147 rfl (by kernel_rfl);have HH:Hid (_∧_):=⟨hl,bR⟩;clear hl bR cR
 go_enter func156,ntmps156
 go_wp2
 obtain⟨hl,bR⟩:=HH.out;exact bodyPost_ret (aj results156 rfl rfl hl) rfl ⟨rfl,bR⟩
theorem MJ (R D L G fam:Int)(gr:Bool)(sz ex:Nat)(F:Nat)(w:World)(hfa:(fam==1)=false):yC 156 #[ylV R D L G gr (sz:Int) (ex:Int) fam F,yi 3] w (yR w (.tuple #[yfV false 0 0,.bool false])):=by
 have hsf:=cD;have bf:=af (w.alloc (.cells (ylA R D L G gr (sz:Int) (ex:Int) fam F) 144)) (.cells (yfA false 0 0) 147);have l0:=(ah w (ylL R D L G gr (sz:Int) (ex:Int) fam F) 144).l bf;have m0:=ah (w.alloc (.cells (ylA R D L G gr (sz:Int) (ex:Int) fam F) 144)) (yfL false 0 0) 147;have b0:=aa (af w (.cells (ylA R D L G gr (sz:Int) (ex:Int) fam F) 144)) bf;rw[World.size_alloc] at m0;clear bf;obtain⟨x0,x1,x2,x3,x4,x5,x6,x7,x8⟩:=l0.cs9;obtain⟨u0,u1,u2⟩:=m0.cs3;have j0:=m0.f 0;have j1:=m0.f 1;have j2:=m0.f 2;have cR:=ah (w.alloc (.cells (ylA R D L G gr (sz:Int) (ex:Int) fam F) 144)) (yfL false 0 0) 147;rw[World.size_alloc] at cR;have bR:=aa (af w (.cells (ylA R D L G gr (sz:Int) (ex:Int) fam F) 144)) (af _ (.cells (yfA false 0 0) 147));have hl:=run_loadVar_mid (P:=Tryz.prog) _ (w.heap.size+1) 0 147 (yfL false 0 0) _ cR.range underlying147 rfl (by kernel_rfl);have HH:Hid (_∧_):=⟨hl,bR⟩;clear hl bR cR
 go_enter func156,ntmps156
 go_wp2
 obtain⟨hl,bR⟩:=HH.out;exact bodyPost_ret (aj results156 rfl rfl hl) rfl ⟨rfl,bR⟩
theorem MK (R D L G fam:Int)(gr:Bool)(sz ex:Nat)(F:Nat)(w:World)(hfa:(fam==1)=false):yC 156 #[ylV R D L G gr (sz:Int) (ex:Int) fam F,yi 4] w (yR w (.tuple #[yfV false 0 0,.bool false])):=by
 have hsf:=cD;have bf:=af (w.alloc (.cells (ylA R D L G gr (sz:Int) (ex:Int) fam F) 144)) (.cells (yfA false 0 0) 147);have l0:=(ah w (ylL R D L G gr (sz:Int) (ex:Int) fam F) 144).l bf;have m0:=ah (w.alloc (.cells (ylA R D L G gr (sz:Int) (ex:Int) fam F) 144)) (yfL false 0 0) 147;have b0:=aa (af w (.cells (ylA R D L G gr (sz:Int) (ex:Int) fam F) 144)) bf;rw[World.size_alloc] at m0;clear bf;obtain⟨x0,x1,x2,x3,x4,x5,x6,x7,x8⟩:=l0.cs9;obtain⟨u0,u1,u2⟩:=m0.cs3;have j0:=m0.f 0;have j1:=m0.f 1;have j2:=m0.f 2;have cR:=ah (w.alloc (.cells (ylA R D L G gr (sz:Int) (ex:Int) fam F) 144)) (yfL false 0 0) 147;rw[World.size_alloc] at cR;have bR:=aa (af w (.cells (ylA R D L G gr (sz:Int) (ex:Int) fam F) 144)) (af _ (.cells (yfA false 0 0) 147));have hl:=run_loadVar_mid (P:=Tryz.prog) _ (w.heap.size+1) 0 147 (yfL false 0 0) _ cR.range underlying147 rfl (by kernel_rfl);have HH:Hid (_∧_):=⟨hl,bR⟩;clear hl bR cR
 go_enter func156,ntmps156
 go_wp2
 obtain⟨hl,bR⟩:=HH.out;exact bodyPost_ret (aj results156 rfl rfl hl) rfl ⟨rfl,bR⟩
theorem ML (R D L G fam:Int)(gr:Bool)(sz ex:Nat)(F:Nat)(w:World)(hfa:(fam==3)=false):yC 156 #[ylV R D L G gr (sz:Int) (ex:Int) fam F,yi 5] w (yR w (.tuple #[yfV false 0 0,.bool false])):=by
 have hsf:=cD;have bf:=af (w.alloc (.cells (ylA R D L G gr (sz:Int) (ex:Int) fam F) 144)) (.cells (yfA false 0 0) 147);have l0:=(ah w (ylL R D L G gr (sz:Int) (ex:Int) fam F) 144).l bf;have m0:=ah (w.alloc (.cells (ylA R D L G gr (sz:Int) (ex:Int) fam F) 144)) (yfL false 0 0) 147;have b0:=aa (af w (.cells (ylA R D L G gr (sz:Int) (ex:Int) fam F) 144)) bf;rw[World.size_alloc] at m0;clear bf;obtain⟨x0,x1,x2,x3,x4,x5,x6,x7,x8⟩:=l0.cs9;obtain⟨u0,u1,u2⟩:=m0.cs3;have j0:=m0.f 0;have j1:=m0.f 1;have j2:=m0.f 2;have cR:=ah (w.alloc (.cells (ylA R D L G gr (sz:Int) (ex:Int) fam F) 144)) (yfL false 0 0) 147;rw[World.size_alloc] at cR;have bR:=aa (af w (.cells (ylA R D L G gr (sz:Int) (ex:Int) fam F) 144)) (af _ (.cells (yfA false 0 0) 147));have hl:=run_loadVar_mid (P:=Tryz.prog) _ (w.heap.size+1) 0 147 (yfL false 0 0) _ cR.range underlying147 rfl (by kernel_rfl);have HH:Hid (_∧_):=⟨hl,bR⟩;clear hl bR cR
 go_enter func156,ntmps156
 go_wp2
 obtain⟨hl,bR⟩:=HH.out;exact bodyPost_ret (aj results156 rfl rfl hl) rfl ⟨rfl,bR⟩
theorem MM (R D L G fam:Int)(gr:Bool)(sz ex:Nat)(F:Nat)(w:World)(hfa:fam=3):yC 156 #[ylV R D L G gr (sz:Int) (ex:Int) fam F,yi 5] w (yR w (.tuple #[yfV true 0 0,.bool true])):=by
 subst hfa;have hsf:=cD;have bf:=af (w.alloc (.cells (ylA R D L G gr (sz:Int) (ex:Int) 3 F) 144)) (.cells (yfA false 0 0) 147);have l0:=(ah w (ylL R D L G gr (sz:Int) (ex:Int) 3 F) 144).l bf;have m0:=ah (w.alloc (.cells (ylA R D L G gr (sz:Int) (ex:Int) 3 F) 144)) (yfL false 0 0) 147;have b0:=aa (af w (.cells (ylA R D L G gr (sz:Int) (ex:Int) 3 F) 144)) bf;rw[World.size_alloc] at m0;clear bf;obtain⟨x0,x1,x2,x3,x4,x5,x6,x7,x8⟩:=l0.cs9;obtain⟨u0,u1,u2⟩:=m0.cs3;have j0:=m0.f 0;have j1:=m0.f 1;have j2:=m0.f 2;have cR:=ah (w.alloc (.cells (ylA R D L G gr (sz:Int) (ex:Int) 3 F) 144)) (yfL true 0 0) 147;rw[World.size_alloc] at cR;have bR:=aa (af w (.cells (ylA R D L G gr (sz:Int) (ex:Int) 3 F) 144)) (af _ (.cells (yfA true 0 0) 147));have hl:=run_loadVar_mid (P:=Tryz.prog) _ (w.heap.size+1) 0 147 (yfL true 0 0) _ cR.range underlying147 rfl (by kernel_rfl);have HH:Hid (_∧_):=⟨hl,bR⟩;clear hl bR cR
 go_enter func156,ntmps156
 go_wp2
 obtain⟨hl,bR⟩:=HH.out;exact bodyPost_ret (aj results156 rfl rfl hl) rfl ⟨rfl,bR⟩
theorem MN (R D L G:Int)(gr:Bool)(sz ex:Nat)(F:Nat)(w:World)(on wr:Nat)
  (Hones:yJ 205 #[ylV R D L G gr (sz:Int) (ex:Int) 1 F] (yi (on:Int)))
  (Hwritten:yJ 206 #[ylV R D L G gr (sz:Int) (ex:Int) 1 F] (.int .u64 (wr:Int))):yC 156 #[ylV R D L G gr (sz:Int) (ex:Int) 1 F,yi 3] w (yR w (.tuple #[yfV false (on:Int) (wr:Int),.bool true])):=by
 have hsf:=cD;have bf:=af (w.alloc (.cells (ylA R D L G gr (sz:Int) (ex:Int) 1 F) 144)) (.cells (yfA false 0 0) 147);have l0:=(ah w (ylL R D L G gr (sz:Int) (ex:Int) 1 F) 144).l bf;have m0:=ah (w.alloc (.cells (ylA R D L G gr (sz:Int) (ex:Int) 1 F) 144)) (yfL false 0 0) 147;have b0:=aa (af w (.cells (ylA R D L G gr (sz:Int) (ex:Int) 1 F) 144)) bf;rw[World.size_alloc] at m0;clear bf;obtain⟨x0,x1,x2,x3,x4,x5,x6,x7,x8⟩:=l0.cs9;obtain⟨u0,u1,u2⟩:=m0.cs3;have j0:=m0.f 0;have j1:=m0.f 1;have j2:=m0.f 2;have Hones':Hid _:=Hones;have Hwritten':Hid _:=Hwritten;have CX:XU w (ylL R D L G gr (sz:Int) (ex:Int) 1 F) _:=⟨l0.drew,m0.drew,b0.drew⟩;clear l0 m0 b0 Hones Hwritten
 go_enter func156,ntmps156
 go_wp2_with fail
 go_region_held3 (fun wq=>wq.cell? ⟨w.heap.size,0,none⟩=some (yi R)∧wq.cell? ⟨w.heap.size,1,none⟩=some (yi D)∧wq.cell? ⟨w.heap.size,2,none⟩=some (yi L)∧wq.cell? ⟨w.heap.size,3,none⟩=some (yi G)∧wq.cell? ⟨w.heap.size,4,none⟩=some (.bool gr)∧wq.cell? ⟨w.heap.size,5,none⟩=some (yi (sz:Int))∧wq.cell? ⟨w.heap.size,6,none⟩=some (yi (ex:Int))∧wq.cell? ⟨w.heap.size,7,none⟩=some (yi 1)∧wq.cell? ⟨w.heap.size,8,none⟩=some (.func (.func F) #[] #[])) (go_keep) (first
  | (go_at_call 205;refine(Hones'.out _).mono ?_;rintro z wones ⟨rfl,bb⟩;have CY:=CX.l bb;clear CX;have CX:=CY;clear CY bb;obtain⟨lq,mq,-⟩:=id CX;obtain⟨x0,x1,x2,x3,x4,x5,x6,x7,x8⟩:=lq.cs9;obtain⟨u0,u1,u2⟩:=mq.cs3;have j0:=mq.f 0;have j1:=mq.f 1;have j2:=mq.f 2;clear lq mq)
  | (go_at_call 206;refine(Hwritten'.out _).mono ?_;rintro z wwritten ⟨rfl,bb⟩;have CY:=CX.l bb;clear CX;have CX:=CY;clear CY bb;obtain⟨lq,mq,-⟩:=id CX;obtain⟨x0,x1,x2,x3,x4,x5,x6,x7,x8⟩:=lq.cs9;obtain⟨u0,u1,u2⟩:=mq.cs3;have j0:=mq.f 0;have j1:=mq.f 1;have j2:=mq.f 2;clear lq mq))
 have mz:=CX.m;have bz:=CX.b;have bu:=((ag wwritten (w.heap.size+1) 0 (.bool false)).trans (ag _ (w.heap.size+1) 1 (yi (on:Int)))).trans (ag _ (w.heap.size+1) 2 (.int .u64 (wr:Int)));have cR:au (((wwritten.setCell ⟨w.heap.size+1,0,none⟩ (.bool false)).setCell ⟨w.heap.size+1,1,none⟩ (yi (on:Int))).setCell ⟨w.heap.size+1,2,none⟩ (.int .u64 (wr:Int))) (w.heap.size+1) 147 (yfL false (on:Int) (wr:Int)):=(((mz.set 0 (.bool false)).set 1 (yi (on:Int))).set 2 (.int .u64 (wr:Int)));have bR:=bu.below bz (by omega);have hl:=run_loadVar_mid (P:=Tryz.prog) _ (w.heap.size+1) 0 147 (yfL false (on:Int) (wr:Int)) _ cR.range underlying147 rfl (by kernel_rfl);have HH:Hid (_∧_):=⟨hl,bR⟩;clear hl bR cR bu;clear mz bz CX
 go_wp2
 obtain⟨hl,bR⟩:=HH.out;exact bodyPost_ret (aj results156 rfl rfl hl) rfl ⟨rfl,bR⟩
theorem MO (R D L G:Int)(gr:Bool)(sz ex:Nat)(F:Nat)(w:World)(on wr ld:Nat)(hwl:wr<18446744073709551616)(hld:ld<18446744073709551616)
  (Hones:yJ 205 #[ylV R D L G gr (sz:Int) (ex:Int) 1 F] (yi (on:Int)))
  (Hwritten:yJ 206 #[ylV R D L G gr (sz:Int) (ex:Int) 1 F] (.int .u64 (wr:Int)))
  (Hlead:yJ 198 #[ylV R D L G gr (sz:Int) (ex:Int) 1 F] (.int .u64 (ld:Int))):yC 156 #[ylV R D L G gr (sz:Int) (ex:Int) 1 F,yi 4] w (yR w (.tuple #[yfV false (on:Int) ((wr|||ld/2:Nat):Int),.bool true])):=by
 have hsf:=cD;have bf:=af (w.alloc (.cells (ylA R D L G gr (sz:Int) (ex:Int) 1 F) 144)) (.cells (yfA false 0 0) 147);have l0:=(ah w (ylL R D L G gr (sz:Int) (ex:Int) 1 F) 144).l bf;have m0:=ah (w.alloc (.cells (ylA R D L G gr (sz:Int) (ex:Int) 1 F) 144)) (yfL false 0 0) 147;have b0:=aa (af w (.cells (ylA R D L G gr (sz:Int) (ex:Int) 1 F) 144)) bf;rw[World.size_alloc] at m0;clear bf;obtain⟨x0,x1,x2,x3,x4,x5,x6,x7,x8⟩:=l0.cs9;obtain⟨u0,u1,u2⟩:=m0.cs3;have j0:=m0.f 0;have j1:=m0.f 1;have j2:=m0.f 2;have Hones':Hid _:=Hones;have Hwritten':Hid _:=Hwritten;have Hlead':Hid _:=Hlead;have hor:bits .or .u64 (wr:Int) ((ld/2:Nat):Int)=((wr|||ld/2:Nat):Int):=u64_or_nat wr (ld/2) hwl (by omega)
 have hhf:(ld:Int)/2=((ld/2:Nat):Int):=by omega
 obtain⟨fr,hfr⟩: ∃x,wr|||ld/2=x:=⟨_,rfl⟩
 rw[hfr] at hor⊢;generalize ld/2=lh at*;clear hfr;have CX:XU w (ylL R D L G gr (sz:Int) (ex:Int) 1 F) _:=⟨l0.drew,m0.drew,b0.drew⟩;clear l0 m0 b0 Hones Hwritten Hlead
 go_enter func156,ntmps156
 go_wp2_with fail
 go_region_held3 (fun wq=>wq.cell? ⟨w.heap.size,0,none⟩=some (yi R)∧wq.cell? ⟨w.heap.size,1,none⟩=some (yi D)∧wq.cell? ⟨w.heap.size,2,none⟩=some (yi L)∧wq.cell? ⟨w.heap.size,3,none⟩=some (yi G)∧wq.cell? ⟨w.heap.size,4,none⟩=some (.bool gr)∧wq.cell? ⟨w.heap.size,5,none⟩=some (yi (sz:Int))∧wq.cell? ⟨w.heap.size,6,none⟩=some (yi (ex:Int))∧wq.cell? ⟨w.heap.size,7,none⟩=some (yi 1)∧wq.cell? ⟨w.heap.size,8,none⟩=some (.func (.func F) #[] #[])) (go_keep) (first
  | (go_at_call 205;refine(Hones'.out _).mono ?_;rintro z wones ⟨rfl,bb⟩;have CY:=CX.l bb;clear CX;have CX:=CY;clear CY bb;obtain⟨lq,mq,-⟩:=id CX;obtain⟨x0,x1,x2,x3,x4,x5,x6,x7,x8⟩:=lq.cs9;obtain⟨u0,u1,u2⟩:=mq.cs3;have j0:=mq.f 0;have j1:=mq.f 1;have j2:=mq.f 2;clear lq mq)
  | (go_at_call 206;refine(Hwritten'.out _).mono ?_;rintro z wwritten ⟨rfl,bb⟩;have CY:=CX.l bb;clear CX;have CX:=CY;clear CY bb;obtain⟨lq,mq,-⟩:=id CX;obtain⟨x0,x1,x2,x3,x4,x5,x6,x7,x8⟩:=lq.cs9;obtain⟨u0,u1,u2⟩:=mq.cs3;have j0:=mq.f 0;have j1:=mq.f 1;have j2:=mq.f 2;clear lq mq)
  | (go_at_call 198;refine(Hlead'.out _).mono ?_;rintro z wlead ⟨rfl,bb⟩;have CY:=CX.l bb;clear CX;have CX:=CY;clear CY bb;obtain⟨lq,mq,-⟩:=id CX;obtain⟨x0,x1,x2,x3,x4,x5,x6,x7,x8⟩:=lq.cs9;obtain⟨u0,u1,u2⟩:=mq.cs3;have j0:=mq.f 0;have j1:=mq.f 1;have j2:=mq.f 2;clear lq mq))
 have mz:=CX.m;have bz:=CX.b;have bu:=((ag wlead (w.heap.size+1) 0 (.bool false)).trans (ag _ (w.heap.size+1) 1 (yi (on:Int)))).trans (ag _ (w.heap.size+1) 2 (.int .u64 (fr:Int)));have cR:au (((wlead.setCell ⟨w.heap.size+1,0,none⟩ (.bool false)).setCell ⟨w.heap.size+1,1,none⟩ (yi (on:Int))).setCell ⟨w.heap.size+1,2,none⟩ (.int .u64 (fr:Int))) (w.heap.size+1) 147 (yfL false (on:Int) (fr:Int)):=(((mz.set 0 (.bool false)).set 1 (yi (on:Int))).set 2 (.int .u64 (fr:Int)));have bR:=bu.below bz (by omega);have hl:=run_loadVar_mid (P:=Tryz.prog) _ (w.heap.size+1) 0 147 (yfL false (on:Int) (fr:Int)) _ cR.range underlying147 rfl (by kernel_rfl);have HH:Hid (_∧_):=⟨hl,bR⟩;clear hl bR cR bu;clear mz bz CX
 go_wp2
 obtain⟨hl,bR⟩:=HH.out;exact bodyPost_ret (aj results156 rfl rfl hl) rfl ⟨rfl,bR⟩
def iR (k c:Nat):Bool:=c==1||(c==3||c==4)&&decide (k≤3)||c==5&&decide (6≤k)
def pI (k c:Nat):Bool:=c==5&&decide (6≤k)
def pg (k c:Nat):Nat:=if(c=3∨c=4)∧k≤3 then kp k else 0
def lS (k c:Nat):Nat:=if k≤3 then(if c=3 then wrN k else if c=4 then wrN k|||gW k/2 else 0) else 0
theorem MP (k c:Nat)(hk:1≤k∧k≤8)(hc:c=1∨c=3∨c=4∨c=5)(w:World):
  yC 156 #[.agg (tS k).toArray,yi (c:Int)] w (yR w (.tuple #[yfV (pI k c) ((pg k c:Nat):Int) ((lS k c:Nat):Int),.bool (iR k c)])):=by
 have HO:=fun w1=>jy k hk w1
 have HW:=fun w1=>gj k hk w1
 have HL:=fun w1=>xX k hk w1
 rcases hc with rfl|rfl|rfl|rfl
 ·rw[show pI k 1=false from rfl,show pg k 1=0 from if_neg (fun h=>by omega),show lS k 1=0 from by unfold lS;simp,show iR k 1=true from rfl]
  rcases bO hk with rfl|rfl|rfl|rfl|rfl|rfl|rfl|rfl
  all_goals exact Ku _ _ _ _ _ _ _ _ _ w
 ·rw[show pI k 3=false from rfl]
  by_cases h3:k≤3
  ·rw[show pg k 3=kp k from if_pos ⟨.inl rfl,h3⟩,show lS k 3=wrN k from by unfold lS;rw[if_pos h3,if_pos rfl],show iR k 3=true from by simp[iR,h3]]
   generalize kp k=on at*;generalize wrN k=wr at*
   rcases(by omega:k=1∨k=2∨k=3) with rfl|rfl|rfl
   all_goals exact MN _ _ _ _ _ _ _ _ w _ _ HO HW
  ·rw[show pg k 3=0 from if_neg (fun h=>h3 h.2),show lS k 3=0 from if_neg h3,show iR k 3=false from by simp[iR,h3]]
   rcases(by omega:k=4∨k=5∨k=6∨k=7∨k=8) with rfl|rfl|rfl|rfl|rfl
   all_goals exact MJ _ _ _ _ _ _ _ _ _ w rfl
 ·rw[show pI k 4=false from rfl]
  by_cases h3:k≤3
  ·rw[show pg k 4=kp k from if_pos ⟨.inr rfl,h3⟩,show lS k 4=wrN k|||gW k/2 from by unfold lS;rw[if_pos h3,if_neg (by omega),if_pos rfl],show iR k 4=true from by simp[iR,h3]]
   have hw:wrN k<18446744073709551616:=by rcases(by omega:k=1∨k=2∨k=3) with rfl|rfl|rfl<;>decide
   have hl:gW k<18446744073709551616:=by rcases(by omega:k=1∨k=2∨k=3) with rfl|rfl|rfl<;>decide
   generalize kp k=on at*;generalize wrN k=wr at*;generalize gW k=ld at*
   rcases(by omega:k=1∨k=2∨k=3) with rfl|rfl|rfl
   all_goals exact MO _ _ _ _ _ _ _ _ w _ _ _ hw hl HO HW HL
  ·rw[show pg k 4=0 from if_neg (fun h=>h3 h.2),show lS k 4=0 from if_neg h3,show iR k 4=false from by simp[iR,h3]]
   rcases(by omega:k=4∨k=5∨k=6∨k=7∨k=8) with rfl|rfl|rfl|rfl|rfl
   all_goals exact MK _ _ _ _ _ _ _ _ _ w rfl
 ·rw[show pg k 5=0 from if_neg (fun h=>by omega),show lS k 5=0 from by unfold lS;simp]
  by_cases h6:6≤k
  ·rw[show pI k 5=true from by simp[pI,h6],show iR k 5=true from by simp[iR,h6]]
   rcases(by omega:k=6∨k=7∨k=8) with rfl|rfl|rfl
   all_goals exact MM _ _ _ _ _ _ _ _ _ w rfl
  ·rw[show pI k 5=false from by simp[pI,h6],show iR k 5=false from by simp[iR,h6]]
   rcases(by omega:k=1∨k=2∨k=3∨k=4∨k=5) with rfl|rfl|rfl|rfl|rfl
   all_goals exact ML _ _ _ _ _ _ _ _ _ w rfl
def Bk (k c:Nat):Bool:=c==3||c==1&&decide (k≤5)
theorem MQ (R D L G fam:Int)(gr:Bool)(sz ex:Nat)(F:Nat)(c:Int)(q3 q1 qf:Bool)(w:World)(h3:(c==3)=q3)(h1:(c==1)=q1)(hf:(fam != 3)=qf):yC 157 #[ylV R D L G gr (sz:Int) (ex:Int) fam F,yi c] w (yR w (.bool (q3||q1&&qf))):=by
 have hsf:=cD;have b0:=af w (.cells (ylA R D L G gr (sz:Int) (ex:Int) fam F) 144)
 cases q3<;>cases q1<;>cases qf
 all_goals go_enter func157,ntmps157
 all_goals go_wp2
 all_goals go_ret
 all_goals exact⟨rfl,b0⟩
theorem Qa (k c:Nat)(hk:1≤k∧k≤8)(hc:c=1∨c=3∨c=4∨c=5)(w:World):
  yC 157 #[.agg (tS k).toArray,yi (c:Int)] w (yR w (.bool (Bk k c))):=by
 rcases bO hk with rfl|rfl|rfl|rfl|rfl|rfl|rfl|rfl
 all_goals rcases hc with rfl|rfl|rfl|rfl
 all_goals first
  |exact MQ _ _ _ _ _ _ _ _ _ _ _ _ true w rfl rfl rfl
  |exact MQ _ _ _ _ _ _ _ _ _ _ _ _ false w rfl rfl rfl
end Go.Proofs.YtnhackdjplppjaaGreatDoor

/-
  Texts laid together: Co19, Ce3, Ce4.
-/
import Derived.Test.YtbdokgamhinajaaGreatDoorSm21
set_option maxRecDepth 100000
set_option maxHeartbeats 6400000
namespace Go.Proofs.YtbdokgamhinajaaGreatDoor
open _root_.Go.Proofs.Tryz
open Go.RowKit
theorem il (f:Nat): ∀(c x:Nat) (zs:List Nat),(iS f c x zs).length=zs.length
 |0,_,_=>rfl
 |c+1,x,zs=>by rw[iS,il f c];exact List.length_set
theorem mj (f:Nat): ∀(c x:Nat) (zs:List Nat),Dg.Small 256 zs→Dg.Small 256 (iS f c x zs)
 |0,_,_,h=>h
 |c+1,x,zs,h=>by
  rw[iS];exact mj f c _ _ (Io h _ _ (Nat.or_lt_two_pow (n:=8) (h _) (Cf _ _)))
theorem vi {P:Program}{w:World}{e g cap:Nat}{zs:List Nat}(src dst:TypeId)(hs:P.underlying src=some (.slice e))(he:P.underlying e=some (.int .u8))(hd:P.underlying dst=some .string)
  (h:ik w g zs):(convert src dst (.slice (some ⟨g,0,none⟩) zs.length cap)).run P w= .ok (.string (cF zs)) w:=by
 rw[run_convert_bytes_string w src dst e _ _ _ hs he hd];have hl:=run_loadCells_list (P:=P) w ⟨g,0,none⟩ (zs.map (fun n:Nat=>Value.int .u8 (n:Int))) (by
  intro j u hj;have hjl:j<zs.length:=by have:=(List.getElem?_eq_some_iff.1 hj).1;simpa using this
  rw[j9 _ zs j hjl] at hj;rw[rO,Nat.zero_add,h.c j hjl];exact hj)
 rw[List.length_map] at hl;have:=run_bytesToString (P:=P) w ⟨g,0,none⟩ zs.length cap (zs.map (fun n:Nat=>(n:Int))) (by
  rw[hl];simp)
 rw[this,Iu];simp[cF]
theorem Mw (R D L G fam:Int)(gr:Bool)(sz ex fr:Nat)(F:Nat)(e f:Nat)(ts:List Nat)(w:World)(hfr:1+ex+fr=8*sz)(hex:ex≤15)(hsz:sz≤10)(he:e<65536)(hf:f<18446744073709551616)(hts:ts.length=sz)
  (HT: ∀g cap w1,ik w1 g (iS (1+ex) fr f (iS 1 ex e (iS 0 1 1 (List.replicate sz 0))))→yC F #[.slice (some ⟨g,0,none⟩) sz cap] w1 fun z w'=>z= .returned (.tuple #[])∧ik w' g ts∧w1.grownBy w' (some g))
  (HFR:yJ 183 #[ylV R D L G gr sz ex fam F] (yi fr))
  (HE: ∀args W,Sem.run Tryz.prog (callFunc F args) W= .ok (.enter F args) W):
  yC 160 #[ylV R D L G gr sz ex fam F,yfV true e f] w (yR w (.string (cF ts))):=by
 have hsf:=cD;have l0:=(ah w (ylL R D L G gr sz ex fam F) 170).l (af _ (.cells (yfA true e f) 208));have m0:=ah (w.alloc (.cells (ylA R D L G gr sz ex fam F) 170)) (yfL true e f) 208;have b0:=aa (af w (.cells (ylA R D L G gr sz ex fam F) 170)) (af _ (.cells (yfA true e f) 208));rw[World.size_alloc] at m0;have H2:((w.alloc (.cells (ylA R D L G gr sz ex fam F) 170)).alloc (.cells (yfA true e f) 208)).heap.size=w.heap.size+2:=by rw[World.size_alloc,World.size_alloc]
 obtain⟨i0,hi,hz0,hz1,hz2⟩:=info_parts Tryz.infoU8;have HT':Hid _:=HT;have HFR':Hid _:=HFR;clear HT HFR;obtain⟨x0,x1,x2,x3,x4,x5,x6,x7,x8⟩:=l0.cs9;obtain⟨u0,u1,u2⟩:=m0.cs3
 go_enter func160,ntmps160
 go_wp2_with (at_make;refine wpList_make_full _ rfl _ _ 88 rfl (w.heap.size+2) 5 i0 (.int .u8 0) 1 underlying88 hi hz0 hz1 _ _ _ _ sz rfl rfl (by omega) (by omega) ?b2 ?b3 (Nat.le_of_eq H2.symm) ?_)
 case b2=>rw[hz2];omega
 case b3=>unfold maxLen;omega
 intro w1 hown hgrow;have r1:=Ev (gL hown);have bg:=(Below.refl _ _).grown hgrow (Nat.le_refl _) (fun k h=>by cases h)
 have l1:=l0.l bg;have m1:=m0.l bg;have b1:=aa b0 bg;clear hown hgrow bg l0 m0 b0 hi hz0 hz1 hz2 H2 x0 x1 x2 x3 x4 x5 x6 x7 x8 u0 u1 u2;obtain⟨g,hg⟩: ∃g,w.heap.size+2=g:=⟨_,rfl⟩;have hg0:w.heap.size≠g:=by omega
 have hg1:w.heap.size+1≠g:=by omega
 have hgl:w.heap.size≤g:=by omega
 rw[hg] at r1⊢;clear hg;have HSB:Hid (∀(c a b:Nat) (zs:List Nat) w1,ik w1 g zs→zs.length=sz→Dg.Small 256 zs→a+b≤8*sz→c<18446744073709551616→yC 182 #[.slice (some ⟨g,0,none⟩) sz sz,yi a,yi b,.int .u64 c] w1 fun z w'=>z= .returned (.tuple #[])∧ik w' g (iS a b c zs)∧w1.grownBy w' (some g)):=fun c a b zs w1 h hz hm hab hc=>by
  have:=AY g sz zs a b c w1 h hm hc (by omega) (by omega);rw[hz] at this;exact this
 have sm0:Dg.Small 256 (List.replicate sz 0):=by
  intro i
  by_cases hi:i<sz
  ·simp[List.getD_eq_getElem?_getD,hi]
  ·simp[List.getD_eq_getElem?_getD,hi]
 have ln0:(List.replicate sz 0).length=sz:=List.length_replicate;have hwe:IntKind.u64.wrap e=(e:Int):=IntWalk.u64_in _ ⟨by omega,by omega⟩;have hwr:IntKind.i64.wrap (1+(ex:Int))=1+(ex:Int):=IntWalk.i64_in _ ⟨by omega,by omega⟩;have HN:Hid _:=hfr;have ln1:(iS 0 1 1 (List.replicate sz 0)).length=sz:=by rw[il];exact ln0
 have sm1:Dg.Small 256 (iS 0 1 1 (List.replicate sz 0)):=mj _ _ _ _ sm0;have hs0:=HSB.out 1 0 1 (List.replicate sz 0) _ r1 ln0 sm0 (by omega) (by omega);have HS0:Hid _:=hs0;clear hs0;obtain⟨x0,x1,x2,x3,x4,x5,x6,x7,x8⟩:=l1.cs9;obtain⟨u0,u1,u2⟩:=m1.cs3
 go_wp2_with fail
 refine Calls.mono HS0.out ?_;rintro z w2 ⟨rfl,r2,g2⟩;have l2:=l1.grown g2 hg0;have m2:=m1.grown g2 hg1;have b2:=b1.grown g2 b1.size (fun k h=>by cases h;exact hgl)
 clear x0 x1 x2 x3 x4 x5 x6 x7 x8 u0 u1 u2 l1 m1 b1 g2 HS0 r1;obtain⟨z2,hz2⟩: ∃z,iS 1 ex e (iS 0 1 1 (List.replicate sz 0))=z:=⟨_,rfl⟩;obtain⟨z3,hz3⟩: ∃z,iS (1+ex) fr f z2=z:=⟨_,rfl⟩;have ln2:z2.length=sz:=by rw[←hz2,il];exact ln1
 have sm2:Dg.Small 256 z2:=by rw[←hz2];exact mj _ _ _ _ sm1
 have hs1:=HSB.out e 1 ex (iS 0 1 1 (List.replicate sz 0)) _ r2 ln1 sm1 (by omega) (by omega);have HS3:Hid (∀w1,ik w1 g z2→yC 182 #[.slice (some ⟨g,0,none⟩) sz sz,yi (1+(ex:Int)),yi fr,.int .u64 f] w1 fun z w'=>z= .returned (.tuple #[])∧ik w' g z3∧w1.grownBy w' (some g)):=fun w1 h=>by
  have:=HSB.out f (1+ex) fr z2 w1 h ln2 sm2 (by omega) hf;rw[hz3,show(((1+ex:Nat):Nat):Int)=1+(ex:Int) from by omega] at this
  exact this
 rw[hz2,hz3] at HT';rw[hz2] at hs1;have HS1:Hid _:=hs1;clear hs1 hz2 hz3 sm2 ln2 sm0 ln0 HSB hfr ln1 sm1;obtain⟨x0,x1,x2,x3,x4,x5,x6,x7,x8⟩:=l2.cs9;obtain⟨u0,u1,u2⟩:=m2.cs3
 go_wp2_with fail
 refine Calls.mono HS1.out ?_;rintro z w3 ⟨rfl,r3,g3⟩;have l3:=(l2.grown g3 hg0).drew;have m3:=(m2.grown g3 hg1).drew;have b3:=(b2.grown g3 b2.size (fun k h=>by cases h;exact hgl)).drew
 have r3d:=r3.drew;clear x0 x1 x2 x3 x4 x5 x6 x7 x8 u0 u1 u2 l2 m2 b2 g3 HS1 r3 r2;obtain⟨x0,x1,x2,x3,x4,x5,x6,x7,x8⟩:=l3.cs9;obtain⟨u0,u1,u2⟩:=m3.cs3
 go_wp2_with fail
 go_region_held3 (fun wq=>(wq.cell? ⟨w.heap.size,0,none⟩=some (yi (R:Int))∧wq.cell? ⟨w.heap.size,1,none⟩=some (yi D)∧wq.cell? ⟨w.heap.size,2,none⟩=some (yi L)∧wq.cell? ⟨w.heap.size,3,none⟩=some (yi G)∧wq.cell? ⟨w.heap.size,4,none⟩=some (.bool gr)∧wq.cell? ⟨w.heap.size,5,none⟩=some (yi sz)∧wq.cell? ⟨w.heap.size,6,none⟩=some (yi ex)∧wq.cell? ⟨w.heap.size,7,none⟩=some (yi fam)∧wq.cell? ⟨w.heap.size,8,none⟩=some (.func (.func F) #[] #[]))∧(wq.cell? ⟨w.heap.size+1,0,none⟩=some (.bool true)∧wq.cell? ⟨w.heap.size+1,1,none⟩=some (yi e)∧wq.cell? ⟨w.heap.size+1,2,none⟩=some (.int .u64 f))) (go_keep) (first
  | (go_at_call 183;refine(HFR'.out _).mono ?_;rintro z w4 ⟨rfl,b4⟩;have l4:=l3.l b4;have m4:=m3.l b4;have b04:=aa b3 b4;have r4:=r3d.l b4;obtain⟨y0,y1,y2,y3,y4,y5,y6,y7,y8⟩:=l4.cs9;obtain⟨v0,v1,v2⟩:=m4.cs3)
  | (go_at_call 182;refine(HS3.out _ r4).mono ?_;rintro z w5 ⟨rfl,r5,g5⟩;have l5:=l4.grown g5 hg0;have m5:=m4.grown g5 hg1;have b05:=b04.grown g5 b04.size (fun k h=>by cases h;exact hgl);obtain⟨t0,t1,t2,t3,t4,t5,t6,t7,t8⟩:=l5.cs9;obtain⟨s0,s1,s2⟩:=m5.cs3))
 go_wp2_with fail
 refine(HT'.out _ _ _ r5).mono ?_;rintro z w6 ⟨rfl,r6,g6⟩;have b06:=b05.grown g6 b05.size (fun k h=>by cases h;exact hgl)
 have hcv:=vi (cap:=sz) 88 9 underlying88 underlying5 underlying9 r6;rw[hts] at hcv
 go_wp2
 go_ret
 exact⟨rfl,b06⟩
theorem Km (R D L G fam:Int)(gr:Bool)(sz ex fr:Nat)(F:Nat)(e f:Nat)(ts:List Nat)(w:World)(hfr:1+ex+fr=8*sz)(hex:ex≤15)(hsz:sz≤10)(he:e<65536)(hf:f<18446744073709551616)(hts:ts.length=sz)
  (HT: ∀g cap w1,ik w1 g (iS (1+ex) fr f (iS 1 ex e (List.replicate sz 0)))→yC F #[.slice (some ⟨g,0,none⟩) sz cap] w1 fun z w'=>z= .returned (.tuple #[])∧ik w' g ts∧w1.grownBy w' (some g))
  (HFR:yJ 183 #[ylV R D L G gr sz ex fam F] (yi fr))
  (HE: ∀args W,Sem.run Tryz.prog (callFunc F args) W= .ok (.enter F args) W):
  yC 160 #[ylV R D L G gr sz ex fam F,yfV false e f] w (yR w (.string (cF ts))):=by
 have hsf:=cD;have l0:=(ah w (ylL R D L G gr sz ex fam F) 170).l (af _ (.cells (yfA false e f) 208));have m0:=ah (w.alloc (.cells (ylA R D L G gr sz ex fam F) 170)) (yfL false e f) 208;have b0:=aa (af w (.cells (ylA R D L G gr sz ex fam F) 170)) (af _ (.cells (yfA false e f) 208));rw[World.size_alloc] at m0;have H2:((w.alloc (.cells (ylA R D L G gr sz ex fam F) 170)).alloc (.cells (yfA false e f) 208)).heap.size=w.heap.size+2:=by rw[World.size_alloc,World.size_alloc]
 obtain⟨i0,hi,hz0,hz1,hz2⟩:=info_parts Tryz.infoU8;have HT':Hid _:=HT;have HFR':Hid _:=HFR;clear HT HFR;obtain⟨x0,x1,x2,x3,x4,x5,x6,x7,x8⟩:=l0.cs9;obtain⟨u0,u1,u2⟩:=m0.cs3
 go_enter func160,ntmps160
 go_wp2_with (at_make;refine wpList_make_full _ rfl _ _ 88 rfl (w.heap.size+2) 5 i0 (.int .u8 0) 1 underlying88 hi hz0 hz1 _ _ _ _ sz rfl rfl (by omega) (by omega) ?b2 ?b3 (Nat.le_of_eq H2.symm) ?_)
 case b2=>rw[hz2];omega
 case b3=>unfold maxLen;omega
 intro w1 hown hgrow;have r1:=Ev (gL hown);have bg:=(Below.refl _ _).grown hgrow (Nat.le_refl _) (fun k h=>by cases h)
 have l1:=l0.l bg;have m1:=m0.l bg;have b1:=aa b0 bg;clear hown hgrow bg l0 m0 b0 hi hz0 hz1 hz2 H2 x0 x1 x2 x3 x4 x5 x6 x7 x8 u0 u1 u2;obtain⟨g,hg⟩: ∃g,w.heap.size+2=g:=⟨_,rfl⟩;have hg0:w.heap.size≠g:=by omega
 have hg1:w.heap.size+1≠g:=by omega
 have hgl:w.heap.size≤g:=by omega
 rw[hg] at r1⊢;clear hg;have HSB:Hid (∀(c a b:Nat) (zs:List Nat) w1,ik w1 g zs→zs.length=sz→Dg.Small 256 zs→a+b≤8*sz→c<18446744073709551616→yC 182 #[.slice (some ⟨g,0,none⟩) sz sz,yi a,yi b,.int .u64 c] w1 fun z w'=>z= .returned (.tuple #[])∧ik w' g (iS a b c zs)∧w1.grownBy w' (some g)):=fun c a b zs w1 h hz hm hab hc=>by
  have:=AY g sz zs a b c w1 h hm hc (by omega) (by omega);rw[hz] at this;exact this
 have sm0:Dg.Small 256 (List.replicate sz 0):=by
  intro i
  by_cases hi:i<sz
  ·simp[List.getD_eq_getElem?_getD,hi]
  ·simp[List.getD_eq_getElem?_getD,hi]
 have ln0:(List.replicate sz 0).length=sz:=List.length_replicate;have hwe:IntKind.u64.wrap e=(e:Int):=IntWalk.u64_in _ ⟨by omega,by omega⟩;have hwr:IntKind.i64.wrap (1+(ex:Int))=1+(ex:Int):=IntWalk.i64_in _ ⟨by omega,by omega⟩;have HN:Hid _:=hfr;obtain⟨z2,hz2⟩: ∃z,iS 1 ex e (List.replicate sz 0)=z:=⟨_,rfl⟩;obtain⟨z3,hz3⟩: ∃z,iS (1+ex) fr f z2=z:=⟨_,rfl⟩;have ln2:z2.length=sz:=by rw[←hz2,il];exact ln0
 have sm2:Dg.Small 256 z2:=by rw[←hz2];exact mj _ _ _ _ sm0
 have hs1:=HSB.out e 1 ex (List.replicate sz 0) _ r1 ln0 sm0 (by omega) (by omega);have HS3:Hid (∀w1,ik w1 g z2→yC 182 #[.slice (some ⟨g,0,none⟩) sz sz,yi (1+(ex:Int)),yi fr,.int .u64 f] w1 fun z w'=>z= .returned (.tuple #[])∧ik w' g z3∧w1.grownBy w' (some g)):=fun w1 h=>by
  have:=HSB.out f (1+ex) fr z2 w1 h ln2 sm2 (by omega) hf;rw[hz3,show(((1+ex:Nat):Nat):Int)=1+(ex:Int) from by omega] at this
  exact this
 rw[hz2,hz3] at HT';rw[hz2] at hs1;have HS1:Hid _:=hs1;clear hs1 hz2 hz3 sm2 ln2 sm0 ln0 HSB hfr;obtain⟨x0,x1,x2,x3,x4,x5,x6,x7,x8⟩:=l1.cs9;obtain⟨u0,u1,u2⟩:=m1.cs3
 go_wp2_with fail
 refine Calls.mono HS1.out ?_;rintro z w3 ⟨rfl,r3,g3⟩;have l3:=(l1.grown g3 hg0).drew;have m3:=(m1.grown g3 hg1).drew;have b3:=(b1.grown g3 b1.size (fun k h=>by cases h;exact hgl)).drew
 have r3d:=r3.drew;clear x0 x1 x2 x3 x4 x5 x6 x7 x8 u0 u1 u2 l1 m1 b1 g3 HS1 r3 r1;obtain⟨x0,x1,x2,x3,x4,x5,x6,x7,x8⟩:=l3.cs9;obtain⟨u0,u1,u2⟩:=m3.cs3
 go_wp2_with fail
 go_region_held3 (fun wq=>(wq.cell? ⟨w.heap.size,0,none⟩=some (yi (R:Int))∧wq.cell? ⟨w.heap.size,1,none⟩=some (yi D)∧wq.cell? ⟨w.heap.size,2,none⟩=some (yi L)∧wq.cell? ⟨w.heap.size,3,none⟩=some (yi G)∧wq.cell? ⟨w.heap.size,4,none⟩=some (.bool gr)∧wq.cell? ⟨w.heap.size,5,none⟩=some (yi sz)∧wq.cell? ⟨w.heap.size,6,none⟩=some (yi ex)∧wq.cell? ⟨w.heap.size,7,none⟩=some (yi fam)∧wq.cell? ⟨w.heap.size,8,none⟩=some (.func (.func F) #[] #[]))∧(wq.cell? ⟨w.heap.size+1,0,none⟩=some (.bool false)∧wq.cell? ⟨w.heap.size+1,1,none⟩=some (yi e)∧wq.cell? ⟨w.heap.size+1,2,none⟩=some (.int .u64 f))) (go_keep) (first
  | (go_at_call 183;refine(HFR'.out _).mono ?_;rintro z w4 ⟨rfl,b4⟩;have l4:=l3.l b4;have m4:=m3.l b4;have b04:=aa b3 b4;have r4:=r3d.l b4;obtain⟨y0,y1,y2,y3,y4,y5,y6,y7,y8⟩:=l4.cs9;obtain⟨v0,v1,v2⟩:=m4.cs3)
  | (go_at_call 182;refine(HS3.out _ r4).mono ?_;rintro z w5 ⟨rfl,r5,g5⟩;have l5:=l4.grown g5 hg0;have m5:=m4.grown g5 hg1;have b05:=b04.grown g5 b04.size (fun k h=>by cases h;exact hgl);obtain⟨t0,t1,t2,t3,t4,t5,t6,t7,t8⟩:=l5.cs9;obtain⟨s0,s1,s2⟩:=m5.cs3))
 go_wp2_with fail
 refine(HT'.out _ _ _ r5).mono ?_;rintro z w6 ⟨rfl,r6,g6⟩;have b06:=b05.grown g6 b05.size (fun k h=>by cases h;exact hgl)
 have hcv:=vi (cap:=sz) 88 9 underlying88 underlying5 underlying9 r6;rw[hts] at hcv
 go_wp2
 go_ret
 exact⟨rfl,b06⟩
def kU (k:Nat)(ng:Bool)(e f:Nat):List Nat:=jT k (iS (1+exN k) (frN k) f (iS 1 (exN k) e (if ng then iS 0 1 1 (List.replicate (szN k) 0) else List.replicate (szN k) 0)))
theorem Mx (k:Nat)(ng:Bool)(e f:Nat):(kU k ng e f).length=szN k:=by
 unfold kU;rw[nM,il,il]
 split
 ·rw[il,List.length_replicate]
 ·rw[List.length_replicate]
theorem Aq (k:Nat)(hk:1≤k∧k≤8)(ng:Bool)(e f:Nat)(w:World)(he:e<65536)(hf:f<18446744073709551616):
  yC 160 #[.agg (tS k).toArray,yfV ng e f] w (yR w (.string (cF (kU k ng e f)))):=by
 obtain⟨h1,h2,h3,h4,h5,-⟩:=fZ hk;have hl:=Mx k ng e f;have HF:=fun w1=>tm k hk w1
 have HE:=fun args W=>Db k args W
 have HT:=fun zs (hz:zs.length=szN k) g cap w1 h=>IV k g cap zs w1 h (by omega) (by rw[hz];exact h5)
 cases ng
 ·have HT': ∀g cap w1,ik w1 g (iS (1+exN k) (frN k) f (iS 1 (exN k) e (List.replicate (szN k) 0)))→yC (C9 k) #[.slice (some ⟨g,0,none⟩) (szN k) cap] w1 fun z w'=>z= .returned (.tuple #[])∧ik w' g (kU k false e f)∧w1.grownBy w' (some g):=fun g cap w1 h=>by
   have hz:(iS (1+exN k) (frN k) f (iS 1 (exN k) e (List.replicate (szN k) 0))).length=szN k:=by rw[il,il,List.length_replicate]
   have:=HT _ hz g cap w1 h;rw[hz] at this;exact this
  rcases bO hk with rfl|rfl|rfl|rfl|rfl|rfl|rfl|rfl
  all_goals exact Km _ _ _ _ _ _ _ _ _ _ e f _ w h1 h2 h3 he hf hl HT' HF HE
 ·have HT': ∀g cap w1,ik w1 g (iS (1+exN k) (frN k) f (iS 1 (exN k) e (iS 0 1 1 (List.replicate (szN k) 0))))→yC (C9 k) #[.slice (some ⟨g,0,none⟩) (szN k) cap] w1 fun z w'=>z= .returned (.tuple #[])∧ik w' g (kU k true e f)∧w1.grownBy w' (some g):=fun g cap w1 h=>by
   have hz:(iS (1+exN k) (frN k) f (iS 1 (exN k) e (iS 0 1 1 (List.replicate (szN k) 0)))).length=szN k:=by rw[il,il,il,List.length_replicate]
   have:=HT _ hz g cap w1 h;rw[hz] at this;exact this
  rcases bO hk with rfl|rfl|rfl|rfl|rfl|rfl|rfl|rfl
  all_goals exact Mw _ _ _ _ _ _ _ _ _ _ e f _ w h1 h2 h3 he hf hl HT' HF HE
def byL (bf:Nat→Bool)(n:Nat):List Nat:=(List.range n).map fun i=>jY (fun j=>bf (8*i+j)) 8
theorem xT (bf:Nat→Bool)(n:Nat):(byL bf n).length=n:=by simp[byL]
theorem JB (bf:Nat→Bool)(n i:Nat)(h:i<n):(byL bf n).getD i 0=jY (fun j=>bf (8*i+j)) 8:=by
 simp[byL,List.getD_eq_getElem?_getD,h]
theorem xU {k i:Nat}(hk:1≤k∧k≤8)(hi:i<szN k):plN k (plN k i)=i:=by
 obtain⟨m,hm⟩:=(fZ hk).2.2.2.2.1;unfold plN
 by_cases h3:k=3
 ·rw[if_pos h3,if_pos h3]
  omega
 ·rw[if_neg h3,if_neg h3]
  by_cases h6:6≤k
  ·rw[if_pos h6,if_pos h6]
   omega
  ·rw[if_neg h6,if_neg h6]
def PlI (k:Nat)(bf:Nat→Bool)(i:Nat)(cur:List Nat):Prop:=
 cur.length=szN k∧ ∀j,j<i→cur.getD (plN k j) 0=jY (fun u=>bf (8*j+u)) 8
theorem WU {k i:Nat}(hk:1≤k∧k≤8){bf:Nat→Bool}{cur:List Nat}(h:PlI k bf i cur)(hi:i<szN k):PlI k bf (i+1) (cur.set (plN k i) (jY (fun u=>bf (8*i+u)) 8)):=by
 obtain⟨h1,h2⟩:=h;have hl:=Co hk hi;refine⟨by simpa using h1,fun j hj=> ?_⟩
 by_cases e:j=i
 ·subst e
  rw[Dg.getD_set _ _ _ _ (by omega),if_pos rfl]
 ·have hne:plN k i≠plN k j:=fun he=>by
   have h3:=xU hk hi;rw[he,xU hk (by omega)] at h3;exact e h3
  rw[Dg.getD_set _ _ _ _ (by omega),if_neg hne,h2 j (by omega)]
theorem aaJ {k:Nat}(hk:1≤k∧k≤8){bf:Nat→Bool}{cur:List Nat}(h:PlI k bf (szN k) cur):cur=jT k (byL bf (szN k)):=by
 obtain⟨h1,h2⟩:=h;apply List.ext_getElem (by rw[nM,xT];exact h1);intro p hp1 hp2;have hp:p<szN k:=by omega
 have e1:cur.getD p 0=cur[p]:=by simp[List.getD_eq_getElem?_getD,hp1]
 have e2:(jT k (byL bf (szN k))).getD p 0=(jT k (byL bf (szN k)))[p]:=by simp only[List.getD_eq_getElem?_getD,List.getElem?_eq_getElem hp2,Option.getD_some]
 rw[←e1,←e2,Kh k _ p (xT _ _) (by rw[xT];exact hp),JB _ _ _ (Co hk hp)];have:=h2 (plN k p) (Co hk hp);rw[xU hk hp] at this;exact this
theorem G8 (k:Nat)(hk:1≤k∧k≤8)(g off cap:Nat)(bf:Nat→Bool)(w:World)(hc: ∀i,i<8*szN k→w.cell? ⟨g,off+i,none⟩=some (.bool (bf i))):
  yC 79 #[yi k,.slice (some ⟨g,off,none⟩) (8*szN k) cap] w (yR w (.string (cF (jT k (byL bf (szN k)))))):=by
 obtain⟨i0,hi,hz0,hz1,hz2⟩:=info_parts Tryz.infoU8;have hsz:=(fZ hk).2.2.1;have hsz1:1≤szN k:=by rcases bO hk with rfl|rfl|rfl|rfl|rfl|rfl|rfl|rfl<;>decide
 have HP:Hid (∀(i:Nat) w1,i<szN k→yC 110 #[yi k,yi i] w1 (yR w1 (yi ((plN k i:Nat):Int)))):=fun i w1 h=>IF k hk i h w1
 have HCC:Hid _:=hc;have HE:Hid (∀cur,PlI k bf (szN k) cur→cur=jT k (byL bf (szN k))):=fun cur h=>aaJ hk h
 have HS:Hid (∀i cur,PlI k bf i cur→i<szN k→PlI k bf (i+1) (cur.set (plN k i) (jY (fun u=>bf (8*i+u)) 8))∧plN k i<szN k):=fun i cur h h'=>⟨WU hk h h',Co hk h'⟩
 obtain⟨sz,esz⟩: ∃x,szN k=x:=⟨_,rfl⟩;have HL:Hid (∀i cur,PlI k bf i cur→cur.length=sz):=fun i cur h=>by rw[←esz];exact h.1
 have hst0:PlI k bf 0 (List.replicate sz 0):=⟨by simp[esz],fun j hj=>absurd hj (Nat.not_lt_zero _)⟩
 rw[esz] at hsz hsz1 HP HCC HE HS⊢;obtain⟨nb,enb⟩: ∃x,8*sz=x:=⟨_,rfl⟩;have hq:(nb:Int)/8=(sz:Int):=by omega
 have hnb:nb≤80:=by omega
 have HNB:Hid (8*sz=nb):=enb;rw[enb] at HCC⊢;obtain⟨st,est⟩: ∃x,cF (jT k (byL bf sz))=x:=⟨_,rfl⟩;have HST:Hid (cF (jT k (byL bf sz))=st):=est;rw[est];clear hc esz enb est hk
 go_enter func79,ntmps79
 go_wp2_with (at_make;refine wpList_make_full _ rfl _ _ 88 rfl w.heap.size 5 i0 (.int .u8 0) 1 underlying88 hi hz0 hz1 _ _ _ _ sz rfl rfl (by omega) (by omega) ?b2 ?b3 (Nat.le_refl _) ?_)
 case b2=>rw[hz2];omega
 case b3=>unfold maxLen;omega
 intro w0 hown hgrow;have r0:=Ev (gL hown);have b0:yB w w0:=(Below.refl _ _).grown hgrow (Nat.le_refl _) (fun k h=>by cases h)
 clear hown hgrow
 go_wp2
 go_loopw [6] (fun iv wr=> ∃(i:Nat) (cur:List Nat),i≤sz∧iv=yi i∧ik wr w.heap.size cur∧PlI k bf i cur∧yB w wr) (fun iv _=>sz-(intOf iv).toNat)
 case atStart=>exact⟨0,List.replicate sz 0,by omega,rfl,r0,hst0,b0⟩
 case round=>
  obtain⟨i,cur,hi1,rfl,row,hI,bel⟩:=hrel
  by_cases hlt:i<sz
  ·go_wp2
   go_loop [7,8] (fun cv jv=> ∃j c:Nat,j≤8∧Hid (c=jY (fun u=>bf (8*i+u)) j∧c<2^j)∧c<256∧cv=yi (c:Int)∧jv=yi (j:Int)) (fun _ jv=>8-(intOf jv).toNat)
   case atStart=>exact⟨0,0,by omega,⟨rfl,by simp⟩,by omega,rfl,rfl⟩
   case round=>
    obtain⟨j,c,hj,HX,hc256,rfl,rfl⟩:=hrel
    by_cases hj8:j<8
    ·have hce:=cell_later bel (HCC.out (8*i+j) (by have:=HNB.out;omega))
     have hx:=HX.out.1;have hxl:=HX.out.2;have hsv:jY (fun u=>bf (8*i+u)) (j+1)=c*2+if bf (8*i+j) then 1 else 0:=by rw[jY,←hx]
     obtain⟨bb,ebb⟩: ∃x,bf (8*i+j)=x:=⟨_,rfl⟩;rw[ebb] at hce hsv;obtain⟨p,ep⟩: ∃x,8*i+j=x:=⟨_,rfl⟩;rw[ep] at hce;have hpI:(8:Int)*(i:Int)+(j:Int)=(p:Int):=by omega
     have hpl:p<nb:=by have:=HNB.out;omega
     have hl2:(2:Nat)^ (j+1)≤2^8:=Nat.pow_le_pow_right (by omega) (by omega);have hvl:=DZ (fun u=>bf (8*i+u)) (j+1)
     have HH:Hid (_∧_):=⟨hsv,hvl⟩;clear hx ebb ep hsv HX
     cases bb
     all_goals go_wp2
     all_goals (obtain⟨hsv,hvl⟩:=HH.out;simp only[Bool.false_eq_true,if_false,if_true] at hsv;refine⟨⟨j+1,jY (fun u=>bf (8*i+u)) (j+1),by omega,⟨rfl,hvl⟩,by omega,by rw[hsv];congr 1;omega,rfl⟩,by simp only[intOf];omega⟩)
    ·obtain⟨hx,hxl⟩:=HX.out
     have hj':j=8:=by omega
     rw[hj'] at hx;obtain⟨hst,hpl⟩:=HS.out i cur hI hlt;have hp:=fun w1=>HP.out i w1 hlt
     obtain⟨pp,ep⟩: ∃x,plN k i=x:=⟨_,rfl⟩;rw[ep] at hst hpl hp;rw[←hx] at hst;have HPP:Hid _:=hp;have hcl:=HL.out i cur hI;have hjI: ¬((j:Int)<8):=by omega
     have hwc:IntKind.u8.wrap (c:Int)=(c:Int):=by rw[IntKind.wrap_u8'];omega
     clear hp hx hj' ep HX hI
     go_wp2_with fail
     refine(HPP.out _).mono ?_;rintro z w2 ⟨rfl,b2⟩;have row2:=row.l b2;have bel2:=aa bel b2;have hf:=row2.f pp (by omega);have hce:=row2.c pp (by omega);have row3:=row2.store pp c;have bel3:=(ag w2 w.heap.size pp (.int .u8 (c:Int))).below bel2 (Nat.le_refl _);have HR:Hid (_∧_∧_):=⟨row3,bel3,hst⟩;clear row3 bel3 hst row row2 bel bel2 b2
     go_wp2
     go_roundw
     case rel=>
      obtain⟨row3,bel3,hst⟩:=HR.out;exact⟨i+1,_,by omega,by go_num,row3,hst,bel3⟩
     case measure=>simp[intOf];omega
  ·have HI:Hid (i=sz):=(by omega:i=sz)
   have hcl:=HL.out i cur hI;have hcv:=vi (cap:=sz) 88 9 underlying88 underlying5 underlying9 row;have he:cur=jT k (byL bf sz):=HE.out cur (by have:=HI.out;rw[←this] at*;exact hI);rw[hcl,he,HST.out] at hcv;clear he
   go_wp2
   go_ret
   exact⟨rfl,bel⟩
theorem Ib (zs:List Nat)(i:Nat):fU zs i=((zs.getD (i/8) 0).testBit (7-i % 8)).toNat:=by
 unfold fU;rw[Nat.testBit_eq_decide_div_mod_eq];have h:=Nat.mod_lt (zs.getD (i/8) 0/2^ (7-i % 8)) (show 0<2 by omega)
 rcases(show zs.getD (i/8) 0/2^ (7-i % 8) % 2=0∨zs.getD (i/8) 0/2^ (7-i % 8) % 2=1 by omega) with e|e<;>rw[e]<;>rfl
theorem Lp (y b t u:Nat)(hb:b<2):(y|||b*2^t).testBit u=(y.testBit u||(decide (b=1)&&decide (t=u))):=by
 rw[Nat.testBit_or]
 rcases(show b=0∨b=1 by omega) with rfl|rfl
 ·simp
 ·rw[Nat.one_mul,Nat.testBit_two_pow]
  simp
theorem Wp (zs:List Nat)(p b i:Nat)(hb:b<2)(hp:p/8<zs.length):fU (zs.set (p/8) (zs.getD (p/8) 0|||b*2^ (7-p % 8))) i=if i=p then(if b=1 then 1 else fU zs i) else fU zs i:=by
 rw[Ib,Ib,Dg.getD_set _ _ _ _ hp]
 by_cases h8:p/8=i/8
 ·rw[if_pos h8,Lp _ _ _ _ hb,h8]
  by_cases hi:i=p
  ·subst hi
   rw[if_pos rfl]
   rcases(show b=0∨b=1 by omega) with rfl|rfl
   ·simp
   ·simp
  ·rw[if_neg hi,decide_eq_false (show¬7-p % 8=7-i % 8 by omega)]
   simp
 ·rw[if_neg h8,if_neg (show¬i=p from fun e=>h8 (by rw[e]))]
theorem xO (f:Nat): ∀(c x:Nat) (zs:List Nat) (i:Nat),f+c≤8*zs.length→fU (iS f c x zs) i=if f≤i∧i<f+c then(if x/2^ (f+c-1-i) % 2=1 then 1 else fU zs i) else fU zs i
 |0,x,zs,i,_=>by
  rw[iS,if_neg (by omega)]
 |c+1,x,zs,i,h=>by
  rw[iS,xO f c (x/2) _ i (by rw[List.length_set];omega),Wp _ _ _ _ (Nat.mod_lt _ (by omega)) (by omega)]
  by_cases h1:f≤i∧i<f+c
  ·rw[if_pos h1,if_pos (show f≤i∧i<f+(c+1) by omega),if_neg (show¬i=f+c by omega),Nat.div_div_eq_div_mul,←Nat.pow_succ',show(f+c-1-i).succ=f+(c+1)-1-i from by omega]
  ·rw[if_neg h1]
   by_cases h2:i=f+c
   ·rw[if_pos h2,if_pos (show f≤i∧i<f+(c+1) by omega),show f+(c+1)-1-i=0 from by omega,Nat.pow_zero,Nat.div_one]
   ·rw[if_neg h2,if_neg (show¬(f≤i∧i<f+(c+1)) by omega)]
theorem Tk (y:Nat)(h:y<256):jY (fun j=>decide (y/2^ (7-j) % 2=1)) 8=y:=by
 have e: ∀n,(if decide (n % 2=1)=true then 1 else 0)=n % 2:=fun n=>by
  rcases(show n % 2=0∨n % 2=1 by omega) with h|h<;>rw[h]<;>rfl
 simp only[jY,e];omega
theorem nz {f g:Nat→Bool}: ∀n,(∀j,j<n→f j=g j)→jY f n=jY g n
 |0,_=>rfl
 |n+1,h=>by
  rw[jY,jY,nz n (fun j hj=>h j (by omega)),h n (by omega)]
theorem OT (zs:List Nat)(hs:Dg.Small 256 zs):zs=byL (fun i=>decide (fU zs i=1)) zs.length:=by
 apply List.ext_getElem (by rw[xT]);intro p hp1 hp2;have e1:zs.getD p 0=zs[p]:=by simp[List.getD_eq_getElem?_getD,hp1]
 have e2:(byL (fun i=>decide (fU zs i=1)) zs.length).getD p 0=(byL (fun i=>decide (fU zs i=1)) zs.length)[p]:=by simp only[List.getD_eq_getElem?_getD,List.getElem?_eq_getElem hp2,Option.getD_some]
 rw[←e1,←e2,JB _ _ _ hp1];refine(Tk (zs.getD p 0) (hs p)).symm.trans (nz 8 (fun j hj=> ?_))
 unfold fU;rw[show(8*p+j)/8=p from by omega,show(8*p+j) % 8=j from by omega]
theorem Ic {f g:Nat→Bool}(n:Nat)(h: ∀i,i<8*n→f i=g i):byL f n=byL g n:=by
 unfold byL;apply List.map_congr_left;intro i hi;have:=List.mem_range.1 hi;exact nz 8 (fun j hj=>h _ (by omega))
theorem Ea (n i:Nat):fU (List.replicate n 0) i=0:=by
 unfold fU;have:(List.replicate n 0).getD (i/8) 0=0:=by
  by_cases h:i/8<n
  ·simp[List.getD_eq_getElem?_getD,h]
  ·simp[List.getD_eq_getElem?_getD,h]
 rw[this];simp
def Eb (ex fr:Nat)(ng:Bool)(e f:Nat)(i:Nat):Bool:=
 if i=0 then ng else if i≤ex then decide (e/2^ (ex-i) % 2=1) else decide (f/2^ (ex+fr-i) % 2=1)
theorem xP {k:Nat}(hk:1≤k∧k≤8)(ng:Bool)(e f:Nat):kU k ng e f=jT k (byL (Eb (exN k) (frN k) ng e f) (szN k)):=by
 obtain⟨h1,h2,h3,h4,-,h7⟩:=fZ hk;unfold kU
 congr 1
 have sm0:Dg.Small 256 (List.replicate (szN k) 0):=by
  intro i
  by_cases hi:i<szN k
  ·simp[List.getD_eq_getElem?_getD,hi]
  ·simp[List.getD_eq_getElem?_getD,hi]
 have key: ∀zs:List Nat,zs.length=szN k→Dg.Small 256 zs→(∀i,fU zs i=if i=0∧ng=true then 1 else 0)→iS (1+exN k) (frN k) f (iS 1 (exN k) e zs)=byL (Eb (exN k) (frN k) ng e f) (szN k):=fun zs hl hs hb=>by
  have hl2:(iS (1+exN k) (frN k) f (iS 1 (exN k) e zs)).length=szN k:=by rw[il,il,hl]
  rw[OT _ (mj _ _ _ _ (mj _ _ _ _ hs)),hl2];refine Ic _ (fun i hi=> ?_)
  rw[xO _ _ _ _ _ (by rw[il];omega),xO _ _ _ _ _ (by omega),hb i];unfold Eb
  by_cases h0:i=0
  ·subst h0
   rw[if_neg (by omega),if_neg (by omega),if_pos rfl]
   cases ng<;>rfl
  ·rw[if_neg h0]
   have hz:(if i=0∧ng=true then 1 else 0)=0:=if_neg (fun h=>h0 h.1)
   rw[hz]
   by_cases hx:i≤exN k
   ·rw[if_pos hx,if_neg (by omega),if_pos (show 1≤i∧i<1+exN k by omega),show 1+exN k-1-i=exN k-i from by omega]
    split
    ·rename_i h;rw[h]
    ·rename_i h;rw[decide_eq_false h];rfl
   ·rw[if_neg hx,if_pos (show 1+exN k≤i∧i<1+exN k+frN k by omega),if_neg (show¬(1≤i∧i<1+exN k) by omega),show 1+exN k+frN k-1-i=exN k+frN k-i from by omega]
    split
    ·rename_i h;rw[h]
    ·rename_i h;rw[decide_eq_false h];rfl
 cases ng
 ·rw[if_neg (by simp)]
  exact key _ List.length_replicate sm0 (fun i=>by rw[Ea];simp)
 ·rw[if_pos rfl]
  refine key _ (by rw[il];exact List.length_replicate) (mj _ _ _ _ sm0) (fun i=> ?_)
  rw[xO _ _ _ _ _ (by rw[List.length_replicate];omega),Ea]
  by_cases h0:i=0
  ·subst h0
   rfl
  ·rw[if_neg (by omega),if_neg (fun h=>h0 h.1)]
end Go.Proofs.YtbdokgamhinajaaGreatDoor

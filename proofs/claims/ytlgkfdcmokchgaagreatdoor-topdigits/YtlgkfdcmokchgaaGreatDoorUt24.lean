/-
  Texts laid together: Dy2, Co19, Co20, Tx3, Co16, Tx11.
-/
import Derived.Test.YtlgkfdcmokchgaaGreatDoorUt10
import Derived.Test.YtlgkfdcmokchgaaGreatDoorUt18
import Derived.Test.YtlgkfdcmokchgaaGreatDoorUt19
set_option maxRecDepth 100000
set_option maxHeartbeats 6400000
namespace Go.Proofs.YtlgkfdcmokchgaaGreatDoor
open _root_.Go.Proofs.Tryz
open Go.RowKit
theorem II (v:Value)(t:ak)(w:World)(hv:Dv w v t)(hL:(Dg.dg 4294967296 t.n).length≤500000)(he: -1000000≤t.e∧t.e≤1000000)(hT:Tab w)(htz:tz t.n≤1000000):
  Calls Tryz.prog 161 #[v] w (jN w (bare t)):=by
 obtain⟨s,rfl,hr⟩:=hv;obtain⟨ts,n,e⟩:=t;simp only at hr hL he htz⊢;obtain⟨ao,ca,rfl⟩:=hr.shape;obtain⟨e1,e2⟩:=he
 by_cases hn:n=0
 ·subst hn
  rw[show Dg.dg 4294967296 0=[] from rfl] at hr⊢
  go_enter func161,ntmps161
  rw[show bare ⟨ts,0,e⟩=⟨false,0,0⟩ from by unfold bare;rfl]
  go_wp2
  go_returns
  exact⟨_,rfl,aQ _ _ _ _,((Below.refl _ _).alloc (Nat.le_refl _) _).alloc (by simp[World.size_alloc]) _⟩
 ·have h0:(((Dg.dg 4294967296 n).length:Int)==0)=false:=by simp[Dg.dg_nil_iff 4294967296 n (by omega)];exact hn
  have HB:Hid (bare ⟨ts,n,e⟩=⟨ts,n/2^tz n,e+tz n⟩):=by show bare ⟨ts,n,e⟩=_;unfold bare;rw[if_neg hn]
  have hsm:=Dg.small_dg 4294967296 n (by omega);have hvl:=Dg.vl_dg 4294967296 n (by omega);have HTW:Hid (∀w1,Below w.heap.size w w1→Calls Tryz.prog 108 #[.slice ao (Dg.dg 4294967296 n).length ca] w1 fun e w'=>e= .returned (.int .i64 ((tz n:Nat):Int))∧w'=w1):=fun w1 b1=>by
   have:=Gl _ n w1 (hr.l b1) (by omega) (hT.l b1)
   rwa [if_neg hn] at this
  have HSH:Hid (∀w1,Below w.heap.size w w1→Calls Tryz.prog 91 #[.slice ao (Dg.dg 4294967296 n).length ca,.int .i64 (-((tz n:Nat):Int))] w1 (Num w1 (n/2^tz n))):=fun w1 b1=>by
   have:=eO _ _ (-((tz n:Nat):Int)) w1 (hr.l b1) hsm (by omega) (by omega) (by omega);rw[hvl] at this;have e:shN n (-((tz n:Nat):Int))=n/2^tz n:=by
    unfold shN
    by_cases hz: -((tz n:Nat):Int)<0
    ·rw[if_pos hz];congr 2;omega
    ·rw[if_neg hz]
     have h0:tz n=0:=by omega
     rw[h0];simp
   rwa [e] at this
  obtain⟨m,hm⟩: ∃m,(Dg.dg 4294967296 n).length=m:=⟨_,rfl⟩;obtain⟨k,hk⟩: ∃k,tz n=k:=⟨_,rfl⟩;obtain⟨q,hq⟩: ∃q,n/2^tz n=q:=⟨_,rfl⟩;rw[hq,hk] at HB;rw[hq,hk,hm] at HSH;rw[hk,hm] at HTW;rw[hm] at h0 hL⊢;rw[hk] at htz;rw[HB.out];clear hm hk hq hr hsm hvl HB hn hT;have l1:=(aA w (.bool ts) (.slice ao m ca) (.int .i64 e) 197).l (af _ (.cells #[.bool false,.slice none 0 0,.int .i64 0] 197));have l2:=aA (w.alloc (.cells #[.bool ts,.slice ao m ca,.int .i64 e] 197)) (.bool false) (.slice none 0 0) (.int .i64 0) 197;have bA:=aa (af w (.cells #[.bool ts,.slice ao m ca,.int .i64 e] 197)) (af _ (.cells #[.bool false,.slice none 0 0,.int .i64 0] 197));rw[World.size_alloc] at l2
  go_enter func161,ntmps161
  go_wp2_with fail
  refine(cN ts ao m ca e _).mono ?_;rintro x w1 ⟨rfl,b1⟩;have l1:=l1.l b1;have l2:=l2.l b1;have b01:=aa bA b1;clear bA b1
  go_wp2_with fail
  refine(HTW.out w1 b01).mono ?_;rintro x w2 ⟨rfl,rfl⟩;have bd:Below w2.heap.size w2 w2.drew:=(Below.refl _ _).drew;have l1:=l1.l bd;have l2:=l2.l bd;have b02:=aa b01 bd;obtain⟨-,⟨c0,c1,c2⟩,-⟩:=id l1;clear b01 bd;have e3:IntKind.i64.wrap (-(k:Int))= -(k:Int):=IntWalk.i64_in _ ⟨by omega,by omega⟩;have e4:IntKind.i64.wrap (e+(k:Int))=e+(k:Int):=IntWalk.i64_in _ ⟨by omega,by omega⟩
  go_wp2_with fail
  go_region_held3 (fun wq=>wq.cell? ⟨w.heap.size,0,none⟩=some (.bool ts)∧wq.cell? ⟨w.heap.size,1,none⟩=some (.slice ao m ca)∧wq.cell? ⟨w.heap.size,2,none⟩=some (.int .i64 e)) (go_keep) (first
   | (go_at_call 160;refine(cN ts ao m ca e _).mono ?_;rintro x w3 ⟨rfl,b3⟩;have l13:=l1.l b3;have l23:=l2.l b3;have b03:=aa b02 b3;obtain⟨-,⟨p0,p1,p2⟩,-⟩:=id l13)
   | (go_at_call 91;refine(HSH.out _ b03).mono ?_;rintro x w4 ⟨vs,rfl,own4,b4⟩;have l14:=l13.l b4;have l24:=l23.l b4;have b04:=aa b03 b4;obtain⟨so,sc,hvs⟩:=own4.rd.shape;subst hvs;obtain⟨-,⟨q0,q1,q2⟩,-⟩:=id l14)
   | (go_at_call 181;refine(l9 ts so _ sc _ _).mono ?_;rintro x w5 ⟨rfl,b5⟩;have l25:=l24.l b5;have l15:=l14.l b5;obtain⟨-,⟨r0,r1,r2⟩,-⟩:=id l15;have b05:=aa b04 b5;have rd5:=own4.rd.l b5;obtain⟨hl5,⟨d0,d1,d2⟩,f0,f1,f2⟩:=id l25))
  all_goals go_wp2
  have l5:=aD l25 (.bool ts) (.slice so (Dg.dg 4294967296 q).length sc) (.int .i64 (e+(k:Int)));have hbw:w.heap.size≤w.heap.size+1:=by omega
  have b5':=((b05.setCell (p:=⟨w.heap.size+1,0,none⟩) hbw (.bool ts)).setCell (p:=⟨w.heap.size+1,1,none⟩) hbw (.slice so (Dg.dg 4294967296 q).length sc)).setCell (p:=⟨w.heap.size+1,2,none⟩) hbw (.int .i64 (e+(k:Int)));have own5:=(own4.l b5).apart3 (b:=w.heap.size+1) l23.1 (.bool ts) (.slice so (Dg.dg 4294967296 q).length sc) (.int .i64 (e+(k:Int)));obtain⟨-,⟨g0,g1,g2⟩,-⟩:=l5;refine bodyPost_ret (v:= .agg #[.bool ts,.slice so (Dg.dg 4294967296 q).length sc,.int .i64 (e+(k:Int))]) (by simp[results,results161,go_sem,g0,g1,g2]) rfl ?_;exact⟨_,rfl,own5.lower b03.size,b5'⟩
theorem Mw (R D L G fam:Int)(gr:Bool)(sz ex fr:Nat)(F:Nat)(e f:Nat)(ts:List Nat)(w:World)(hfr:1+ex+fr=8*sz)(hex:ex≤15)(hsz:sz≤10)(he:e<65536)(hf:f<18446744073709551616)(hts:ts.length=sz)
  (HT: ∀g cap w1,ik w1 g (iS (1+ex) fr f (iS 1 ex e (iS 0 1 1 (List.replicate sz 0))))→yC F #[.slice (some ⟨g,0,none⟩) sz cap] w1 fun z w'=>z= .returned (.tuple #[])∧ik w' g ts∧w1.grownBy w' (some g))
  (HFR:yJ 144 #[ylV R D L G gr sz ex fam F] (yi fr))
  (HE: ∀args W,Sem.run Tryz.prog (callFunc F args) W= .ok (.enter F args) W):
  yC 132 #[ylV R D L G gr sz ex fam F,yfV true e f] w (yR w (.string (cF ts))):=by
 have hsf:=cD;have l0:=(ah w (ylL R D L G gr sz ex fam F) 110).l (af _ (.cells (yfA true e f) 112));have m0:=ah (w.alloc (.cells (ylA R D L G gr sz ex fam F) 110)) (yfL true e f) 112;have b0:=aa (af w (.cells (ylA R D L G gr sz ex fam F) 110)) (af _ (.cells (yfA true e f) 112));rw[World.size_alloc] at m0;have H2:((w.alloc (.cells (ylA R D L G gr sz ex fam F) 110)).alloc (.cells (yfA true e f) 112)).heap.size=w.heap.size+2:=by rw[World.size_alloc,World.size_alloc]
 obtain⟨i0,hi,hz0,hz1,hz2⟩:=info_parts Tryz.infoU8;have HT':Hid _:=HT;have HFR':Hid _:=HFR;clear HT HFR;obtain⟨x0,x1,x2,x3,x4,x5,x6,x7,x8⟩:=l0.cs9;obtain⟨u0,u1,u2⟩:=m0.cs3
 go_enter func132,ntmps132
 go_wp2_with (at_make;refine wpList_make_full _ rfl _ _ 63 rfl (w.heap.size+2) 5 i0 (.int .u8 0) 1 underlying63 hi hz0 hz1 _ _ _ _ sz rfl rfl (by omega) (by omega) ?b2 ?b3 (Nat.le_of_eq H2.symm) ?_)
 case b2=>rw[hz2];omega
 case b3=>unfold maxLen;omega
 intro w1 hown hgrow;have r1:=Ev (gL hown);have bg:=(Below.refl _ _).grown hgrow (Nat.le_refl _) (fun k h=>by cases h)
 have l1:=l0.l bg;have m1:=m0.l bg;have b1:=aa b0 bg;clear hown hgrow bg l0 m0 b0 hi hz0 hz1 hz2 H2 x0 x1 x2 x3 x4 x5 x6 x7 x8 u0 u1 u2;obtain⟨g,hg⟩: ∃g,w.heap.size+2=g:=⟨_,rfl⟩;have hg0:w.heap.size≠g:=by omega
 have hg1:w.heap.size+1≠g:=by omega
 have hgl:w.heap.size≤g:=by omega
 rw[hg] at r1⊢;clear hg;have HSB:Hid (∀(c a b:Nat) (zs:List Nat) w1,ik w1 g zs→zs.length=sz→Dg.Small 256 zs→a+b≤8*sz→c<18446744073709551616→yC 167 #[.slice (some ⟨g,0,none⟩) sz sz,yi a,yi b,.int .u64 c] w1 fun z w'=>z= .returned (.tuple #[])∧ik w' g (iS a b c zs)∧w1.grownBy w' (some g)):=fun c a b zs w1 h hz hm hab hc=>by
  have:=AY g sz zs a b c w1 h hm hc (by omega) (by omega);rw[hz] at this;exact this
 have sm0:Dg.Small 256 (List.replicate sz 0):=by
  intro i
  by_cases hi:i<sz
  ·simp[List.getD_eq_getElem?_getD,hi]
  ·simp[List.getD_eq_getElem?_getD,hi]
 have ln0:(List.replicate sz 0).length=sz:=List.length_replicate;have hwe:IntKind.u64.wrap e=(e:Int):=IntWalk.u64_in _ ⟨by omega,by omega⟩;have hwr:IntKind.i64.wrap (1+(ex:Int))=1+(ex:Int):=IntWalk.i64_in _ ⟨by omega,by omega⟩;have HN:Hid _:=hfr;have ln1:(iS 0 1 1 (List.replicate sz 0)).length=sz:=by rw[il];exact ln0
 have sm1:Dg.Small 256 (iS 0 1 1 (List.replicate sz 0)):=mj _ _ _ _ sm0;have hs0:=HSB.out 1 0 1 (List.replicate sz 0) _ r1 ln0 sm0 (by omega) (by omega);have HS0:Hid _:=hs0;clear hs0;obtain⟨x0,x1,x2,x3,x4,x5,x6,x7,x8⟩:=l1.cs9;obtain⟨u0,u1,u2⟩:=m1.cs3
 go_wp2_with fail
 refine Calls.mono HS0.out ?_;rintro z w2 ⟨rfl,r2,g2⟩;have l2:=l1.grown g2 hg0;have m2:=m1.grown g2 hg1;have b2:=b1.grown g2 b1.size (fun k h=>by cases h;exact hgl)
 clear x0 x1 x2 x3 x4 x5 x6 x7 x8 u0 u1 u2 l1 m1 b1 g2 HS0 r1;obtain⟨z2,hz2⟩: ∃z,iS 1 ex e (iS 0 1 1 (List.replicate sz 0))=z:=⟨_,rfl⟩;obtain⟨z3,hz3⟩: ∃z,iS (1+ex) fr f z2=z:=⟨_,rfl⟩;have ln2:z2.length=sz:=by rw[←hz2,il];exact ln1
 have sm2:Dg.Small 256 z2:=by rw[←hz2];exact mj _ _ _ _ sm1
 have hs1:=HSB.out e 1 ex (iS 0 1 1 (List.replicate sz 0)) _ r2 ln1 sm1 (by omega) (by omega);have HS3:Hid (∀w1,ik w1 g z2→yC 167 #[.slice (some ⟨g,0,none⟩) sz sz,yi (1+(ex:Int)),yi fr,.int .u64 f] w1 fun z w'=>z= .returned (.tuple #[])∧ik w' g z3∧w1.grownBy w' (some g)):=fun w1 h=>by
  have:=HSB.out f (1+ex) fr z2 w1 h ln2 sm2 (by omega) hf;rw[hz3,show(((1+ex:Nat):Nat):Int)=1+(ex:Int) from by omega] at this
  exact this
 rw[hz2,hz3] at HT';rw[hz2] at hs1;have HS1:Hid _:=hs1;clear hs1 hz2 hz3 sm2 ln2 sm0 ln0 HSB hfr ln1 sm1;obtain⟨x0,x1,x2,x3,x4,x5,x6,x7,x8⟩:=l2.cs9;obtain⟨u0,u1,u2⟩:=m2.cs3
 go_wp2_with fail
 refine Calls.mono HS1.out ?_;rintro z w3 ⟨rfl,r3,g3⟩;have l3:=(l2.grown g3 hg0).drew;have m3:=(m2.grown g3 hg1).drew;have b3:=(b2.grown g3 b2.size (fun k h=>by cases h;exact hgl)).drew
 have r3d:=r3.drew;clear x0 x1 x2 x3 x4 x5 x6 x7 x8 u0 u1 u2 l2 m2 b2 g3 HS1 r3 r2;obtain⟨x0,x1,x2,x3,x4,x5,x6,x7,x8⟩:=l3.cs9;obtain⟨u0,u1,u2⟩:=m3.cs3
 go_wp2_with fail
 go_region_held3 (fun wq=>(wq.cell? ⟨w.heap.size,0,none⟩=some (yi (R:Int))∧wq.cell? ⟨w.heap.size,1,none⟩=some (yi D)∧wq.cell? ⟨w.heap.size,2,none⟩=some (yi L)∧wq.cell? ⟨w.heap.size,3,none⟩=some (yi G)∧wq.cell? ⟨w.heap.size,4,none⟩=some (.bool gr)∧wq.cell? ⟨w.heap.size,5,none⟩=some (yi sz)∧wq.cell? ⟨w.heap.size,6,none⟩=some (yi ex)∧wq.cell? ⟨w.heap.size,7,none⟩=some (yi fam)∧wq.cell? ⟨w.heap.size,8,none⟩=some (.func (.func F) #[] #[]))∧(wq.cell? ⟨w.heap.size+1,0,none⟩=some (.bool true)∧wq.cell? ⟨w.heap.size+1,1,none⟩=some (yi e)∧wq.cell? ⟨w.heap.size+1,2,none⟩=some (.int .u64 f))) (go_keep) (first
  | (go_at_call 144;refine(HFR'.out _).mono ?_;rintro z w4 ⟨rfl,b4⟩;have l4:=l3.l b4;have m4:=m3.l b4;have b04:=aa b3 b4;have r4:=r3d.l b4;obtain⟨y0,y1,y2,y3,y4,y5,y6,y7,y8⟩:=l4.cs9;obtain⟨v0,v1,v2⟩:=m4.cs3)
  | (go_at_call 167;refine(HS3.out _ r4).mono ?_;rintro z w5 ⟨rfl,r5,g5⟩;have l5:=l4.grown g5 hg0;have m5:=m4.grown g5 hg1;have b05:=b04.grown g5 b04.size (fun k h=>by cases h;exact hgl);obtain⟨t0,t1,t2,t3,t4,t5,t6,t7,t8⟩:=l5.cs9;obtain⟨s0,s1,s2⟩:=m5.cs3))
 go_wp2_with fail
 refine(HT'.out _ _ _ r5).mono ?_;rintro z w6 ⟨rfl,r6,g6⟩;have b06:=b05.grown g6 b05.size (fun k h=>by cases h;exact hgl)
 have hcv:=vi (cap:=sz) 63 9 underlying63 underlying5 underlying9 r6;rw[hts] at hcv
 go_wp2
 go_ret
 exact⟨rfl,b06⟩
theorem Km (R D L G fam:Int)(gr:Bool)(sz ex fr:Nat)(F:Nat)(e f:Nat)(ts:List Nat)(w:World)(hfr:1+ex+fr=8*sz)(hex:ex≤15)(hsz:sz≤10)(he:e<65536)(hf:f<18446744073709551616)(hts:ts.length=sz)
  (HT: ∀g cap w1,ik w1 g (iS (1+ex) fr f (iS 1 ex e (List.replicate sz 0)))→yC F #[.slice (some ⟨g,0,none⟩) sz cap] w1 fun z w'=>z= .returned (.tuple #[])∧ik w' g ts∧w1.grownBy w' (some g))
  (HFR:yJ 144 #[ylV R D L G gr sz ex fam F] (yi fr))
  (HE: ∀args W,Sem.run Tryz.prog (callFunc F args) W= .ok (.enter F args) W):
  yC 132 #[ylV R D L G gr sz ex fam F,yfV false e f] w (yR w (.string (cF ts))):=by
 have hsf:=cD;have l0:=(ah w (ylL R D L G gr sz ex fam F) 110).l (af _ (.cells (yfA false e f) 112));have m0:=ah (w.alloc (.cells (ylA R D L G gr sz ex fam F) 110)) (yfL false e f) 112;have b0:=aa (af w (.cells (ylA R D L G gr sz ex fam F) 110)) (af _ (.cells (yfA false e f) 112));rw[World.size_alloc] at m0;have H2:((w.alloc (.cells (ylA R D L G gr sz ex fam F) 110)).alloc (.cells (yfA false e f) 112)).heap.size=w.heap.size+2:=by rw[World.size_alloc,World.size_alloc]
 obtain⟨i0,hi,hz0,hz1,hz2⟩:=info_parts Tryz.infoU8;have HT':Hid _:=HT;have HFR':Hid _:=HFR;clear HT HFR;obtain⟨x0,x1,x2,x3,x4,x5,x6,x7,x8⟩:=l0.cs9;obtain⟨u0,u1,u2⟩:=m0.cs3
 go_enter func132,ntmps132
 go_wp2_with (at_make;refine wpList_make_full _ rfl _ _ 63 rfl (w.heap.size+2) 5 i0 (.int .u8 0) 1 underlying63 hi hz0 hz1 _ _ _ _ sz rfl rfl (by omega) (by omega) ?b2 ?b3 (Nat.le_of_eq H2.symm) ?_)
 case b2=>rw[hz2];omega
 case b3=>unfold maxLen;omega
 intro w1 hown hgrow;have r1:=Ev (gL hown);have bg:=(Below.refl _ _).grown hgrow (Nat.le_refl _) (fun k h=>by cases h)
 have l1:=l0.l bg;have m1:=m0.l bg;have b1:=aa b0 bg;clear hown hgrow bg l0 m0 b0 hi hz0 hz1 hz2 H2 x0 x1 x2 x3 x4 x5 x6 x7 x8 u0 u1 u2;obtain⟨g,hg⟩: ∃g,w.heap.size+2=g:=⟨_,rfl⟩;have hg0:w.heap.size≠g:=by omega
 have hg1:w.heap.size+1≠g:=by omega
 have hgl:w.heap.size≤g:=by omega
 rw[hg] at r1⊢;clear hg;have HSB:Hid (∀(c a b:Nat) (zs:List Nat) w1,ik w1 g zs→zs.length=sz→Dg.Small 256 zs→a+b≤8*sz→c<18446744073709551616→yC 167 #[.slice (some ⟨g,0,none⟩) sz sz,yi a,yi b,.int .u64 c] w1 fun z w'=>z= .returned (.tuple #[])∧ik w' g (iS a b c zs)∧w1.grownBy w' (some g)):=fun c a b zs w1 h hz hm hab hc=>by
  have:=AY g sz zs a b c w1 h hm hc (by omega) (by omega);rw[hz] at this;exact this
 have sm0:Dg.Small 256 (List.replicate sz 0):=by
  intro i
  by_cases hi:i<sz
  ·simp[List.getD_eq_getElem?_getD,hi]
  ·simp[List.getD_eq_getElem?_getD,hi]
 have ln0:(List.replicate sz 0).length=sz:=List.length_replicate;have hwe:IntKind.u64.wrap e=(e:Int):=IntWalk.u64_in _ ⟨by omega,by omega⟩;have hwr:IntKind.i64.wrap (1+(ex:Int))=1+(ex:Int):=IntWalk.i64_in _ ⟨by omega,by omega⟩;have HN:Hid _:=hfr;obtain⟨z2,hz2⟩: ∃z,iS 1 ex e (List.replicate sz 0)=z:=⟨_,rfl⟩;obtain⟨z3,hz3⟩: ∃z,iS (1+ex) fr f z2=z:=⟨_,rfl⟩;have ln2:z2.length=sz:=by rw[←hz2,il];exact ln0
 have sm2:Dg.Small 256 z2:=by rw[←hz2];exact mj _ _ _ _ sm0
 have hs1:=HSB.out e 1 ex (List.replicate sz 0) _ r1 ln0 sm0 (by omega) (by omega);have HS3:Hid (∀w1,ik w1 g z2→yC 167 #[.slice (some ⟨g,0,none⟩) sz sz,yi (1+(ex:Int)),yi fr,.int .u64 f] w1 fun z w'=>z= .returned (.tuple #[])∧ik w' g z3∧w1.grownBy w' (some g)):=fun w1 h=>by
  have:=HSB.out f (1+ex) fr z2 w1 h ln2 sm2 (by omega) hf;rw[hz3,show(((1+ex:Nat):Nat):Int)=1+(ex:Int) from by omega] at this
  exact this
 rw[hz2,hz3] at HT';rw[hz2] at hs1;have HS1:Hid _:=hs1;clear hs1 hz2 hz3 sm2 ln2 sm0 ln0 HSB hfr;obtain⟨x0,x1,x2,x3,x4,x5,x6,x7,x8⟩:=l1.cs9;obtain⟨u0,u1,u2⟩:=m1.cs3
 go_wp2_with fail
 refine Calls.mono HS1.out ?_;rintro z w3 ⟨rfl,r3,g3⟩;have l3:=(l1.grown g3 hg0).drew;have m3:=(m1.grown g3 hg1).drew;have b3:=(b1.grown g3 b1.size (fun k h=>by cases h;exact hgl)).drew
 have r3d:=r3.drew;clear x0 x1 x2 x3 x4 x5 x6 x7 x8 u0 u1 u2 l1 m1 b1 g3 HS1 r3 r1;obtain⟨x0,x1,x2,x3,x4,x5,x6,x7,x8⟩:=l3.cs9;obtain⟨u0,u1,u2⟩:=m3.cs3
 go_wp2_with fail
 go_region_held3 (fun wq=>(wq.cell? ⟨w.heap.size,0,none⟩=some (yi (R:Int))∧wq.cell? ⟨w.heap.size,1,none⟩=some (yi D)∧wq.cell? ⟨w.heap.size,2,none⟩=some (yi L)∧wq.cell? ⟨w.heap.size,3,none⟩=some (yi G)∧wq.cell? ⟨w.heap.size,4,none⟩=some (.bool gr)∧wq.cell? ⟨w.heap.size,5,none⟩=some (yi sz)∧wq.cell? ⟨w.heap.size,6,none⟩=some (yi ex)∧wq.cell? ⟨w.heap.size,7,none⟩=some (yi fam)∧wq.cell? ⟨w.heap.size,8,none⟩=some (.func (.func F) #[] #[]))∧(wq.cell? ⟨w.heap.size+1,0,none⟩=some (.bool false)∧wq.cell? ⟨w.heap.size+1,1,none⟩=some (yi e)∧wq.cell? ⟨w.heap.size+1,2,none⟩=some (.int .u64 f))) (go_keep) (first
  | (go_at_call 144;refine(HFR'.out _).mono ?_;rintro z w4 ⟨rfl,b4⟩;have l4:=l3.l b4;have m4:=m3.l b4;have b04:=aa b3 b4;have r4:=r3d.l b4;obtain⟨y0,y1,y2,y3,y4,y5,y6,y7,y8⟩:=l4.cs9;obtain⟨v0,v1,v2⟩:=m4.cs3)
  | (go_at_call 167;refine(HS3.out _ r4).mono ?_;rintro z w5 ⟨rfl,r5,g5⟩;have l5:=l4.grown g5 hg0;have m5:=m4.grown g5 hg1;have b05:=b04.grown g5 b04.size (fun k h=>by cases h;exact hgl);obtain⟨t0,t1,t2,t3,t4,t5,t6,t7,t8⟩:=l5.cs9;obtain⟨s0,s1,s2⟩:=m5.cs3))
 go_wp2_with fail
 refine(HT'.out _ _ _ r5).mono ?_;rintro z w6 ⟨rfl,r6,g6⟩;have b06:=b05.grown g6 b05.size (fun k h=>by cases h;exact hgl)
 have hcv:=vi (cap:=sz) 63 9 underlying63 underlying5 underlying9 r6;rw[hts] at hcv
 go_wp2
 go_ret
 exact⟨rfl,b06⟩
theorem MO (R D L G:Int)(gr:Bool)(sz ex:Nat)(F:Nat)(w:World)(on wr ld:Nat)(hwl:wr<18446744073709551616)(hld:ld<18446744073709551616)
  (Hones:yJ 165 #[ylV R D L G gr sz ex 1 F] (yi on))
  (Hwritten:yJ 166 #[ylV R D L G gr sz ex 1 F] (.int .u64 wr))
  (Hlead:yJ 145 #[ylV R D L G gr sz ex 1 F] (.int .u64 ld)):yC 130 #[ylV R D L G gr sz ex 1 F,yi 4] w (yR w (.tuple #[yfV false on ((wr|||ld/2:Nat):Int),.bool true])):=by
 have hsf:=cD;have bf:=af (w.alloc (.cells (ylA R D L G gr sz ex 1 F) 110)) (.cells (yfA false 0 0) 112);have l0:=(ah w (ylL R D L G gr sz ex 1 F) 110).l bf;have m0:=ah (w.alloc (.cells (ylA R D L G gr sz ex 1 F) 110)) (yfL false 0 0) 112;have b0:=aa (af w (.cells (ylA R D L G gr sz ex 1 F) 110)) bf;rw[World.size_alloc] at m0;clear bf;obtain⟨x0,x1,x2,x3,x4,x5,x6,x7,x8⟩:=l0.cs9;obtain⟨u0,u1,u2⟩:=m0.cs3;have j0:=m0.f 0;have j1:=m0.f 1;have j2:=m0.f 2;have Hones':Hid _:=Hones;have Hwritten':Hid _:=Hwritten;have Hlead':Hid _:=Hlead;have hor:bits .or .u64 wr ((ld/2:Nat):Int)=((wr|||ld/2:Nat):Int):=u64_or_nat wr (ld/2) hwl (by omega)
 have hhf:(ld:Int)/2=((ld/2:Nat):Int):=by omega
 obtain⟨fr,hfr⟩: ∃x,wr|||ld/2=x:=⟨_,rfl⟩
 rw[hfr] at hor⊢;generalize ld/2=lh at*;clear hfr;have CX:XU w (ylL R D L G gr sz ex 1 F) _:=⟨l0.drew,m0.drew,b0.drew⟩;clear l0 m0 b0 Hones Hwritten Hlead
 go_enter func130,ntmps130
 go_wp2_with fail
 go_region_held3 (fun wq=>wq.cell? ⟨w.heap.size,0,none⟩=some (yi R)∧wq.cell? ⟨w.heap.size,1,none⟩=some (yi D)∧wq.cell? ⟨w.heap.size,2,none⟩=some (yi L)∧wq.cell? ⟨w.heap.size,3,none⟩=some (yi G)∧wq.cell? ⟨w.heap.size,4,none⟩=some (.bool gr)∧wq.cell? ⟨w.heap.size,5,none⟩=some (yi sz)∧wq.cell? ⟨w.heap.size,6,none⟩=some (yi ex)∧wq.cell? ⟨w.heap.size,7,none⟩=some (yi 1)∧wq.cell? ⟨w.heap.size,8,none⟩=some (.func (.func F) #[] #[])) (go_keep) (first
  | (go_at_call 165;refine(Hones'.out _).mono ?_;rintro z wones ⟨rfl,bb⟩;have CY:=CX.l bb;clear CX;have CX:=CY;clear CY bb;obtain⟨lq,mq,-⟩:=id CX;obtain⟨x0,x1,x2,x3,x4,x5,x6,x7,x8⟩:=lq.cs9;obtain⟨u0,u1,u2⟩:=mq.cs3;have j0:=mq.f 0;have j1:=mq.f 1;have j2:=mq.f 2;clear lq mq)
  | (go_at_call 166;refine(Hwritten'.out _).mono ?_;rintro z wwritten ⟨rfl,bb⟩;have CY:=CX.l bb;clear CX;have CX:=CY;clear CY bb;obtain⟨lq,mq,-⟩:=id CX;obtain⟨x0,x1,x2,x3,x4,x5,x6,x7,x8⟩:=lq.cs9;obtain⟨u0,u1,u2⟩:=mq.cs3;have j0:=mq.f 0;have j1:=mq.f 1;have j2:=mq.f 2;clear lq mq)
  | (go_at_call 145;refine(Hlead'.out _).mono ?_;rintro z wlead ⟨rfl,bb⟩;have CY:=CX.l bb;clear CX;have CX:=CY;clear CY bb;obtain⟨lq,mq,-⟩:=id CX;obtain⟨x0,x1,x2,x3,x4,x5,x6,x7,x8⟩:=lq.cs9;obtain⟨u0,u1,u2⟩:=mq.cs3;have j0:=mq.f 0;have j1:=mq.f 1;have j2:=mq.f 2;clear lq mq))
 have mz:=CX.m;have bz:=CX.b;have bu:=((ag wlead (w.heap.size+1) 0 (.bool false)).trans (ag _ (w.heap.size+1) 1 (yi on))).trans (ag _ (w.heap.size+1) 2 (.int .u64 (fr:Int)));have cR:au (((wlead.setCell ⟨w.heap.size+1,0,none⟩ (.bool false)).setCell ⟨w.heap.size+1,1,none⟩ (yi on)).setCell ⟨w.heap.size+1,2,none⟩ (.int .u64 (fr:Int))) (w.heap.size+1) 112 (yfL false on (fr:Int)):=(((mz.set 0 (.bool false)).set 1 (yi on)).set 2 (.int .u64 (fr:Int)));have bR:=bu.below bz (by omega);have hl:=run_loadVar_mid (P:=Tryz.prog) _ (w.heap.size+1) 0 112 (yfL false on (fr:Int)) _ cR.range underlying112 rfl (by kernel_rfl);have HH:Hid (_∧_):=⟨hl,bR⟩;clear hl bR cR bu;clear mz bz CX
 go_wp2
 obtain⟨hl,bR⟩:=HH.out;exact bodyPost_ret (aj results130 rfl rfl hl) rfl ⟨rfl,bR⟩
theorem fives_any (k:Nat)(w:World)(hk:k≤300000):yC 106 #[yi k] w (NmR w (5^k)):=by
 have al:=af w (.cells #[.int .u32 5] 54);have q:=ah w [.int .u32 5] 54;have hr:Rd (w.alloc (.cells #[.int .u32 5] 54)) .u32 (.slice (some ⟨w.heap.size,0,none⟩) 1 1) (Dg.dg 4294967296 5):=by
  rw[show Dg.dg 4294967296 5=[5] by decide]
  exact⟨_,_,rfl,by simp,by unfold maxLen;simp,fun _=>⟨_,0,rfl,fun i hi=>by
   obtain rfl:i=0:=by simpa using hi
   exact q.c 0 rfl⟩⟩
 have HP:Hid _:=Iq _ 5 k 1 _ hr (by decide) (by omega) (by omega) (by omega);clear q hr
 go_enter func106,ntmps106
 go_wp2_with fail
 refine Calls.mono HP.out ?_;rintro z w1 ⟨v,rfl,o,b⟩;have bb:=aa al b;have rr:=o.rd;clear al b o HP
 go_wp2
 go_ret
 exact⟨_,rfl,rr,bb⟩
theorem We (R sz ex:Nat)(D L G fam:Int)(gr:Bool)(F:Nat)(ng:Bool)(e f d:Nat)(p:Int)(w:World)(hR:2≤R)(hR2:R≤16)(hd0:0<d)(hd:d<18446744073709551616)(hp1: -100000≤p)(hp2:p≤100000)
  (HC:yJ 96 #[ylV R D L G gr sz ex fam F,yfV ng e f] (yi 2))
  (HP:yJ 99 #[ylV R D L G gr sz ex fam F,yfV ng e f] (.tuple #[.int .u64 d,yi p])):
  yC 54 #[ylV R D L G gr sz ex fam F,yfV ng e f] w (iT w 2 ng (lJ R 64 d p).1 (lJ R 64 d p).2):=by
 have hsf:=cD;have bl:=af w (.cells (ylA R D L G gr sz ex fam F) 110);have bf:=af (w.alloc (.cells (ylA R D L G gr sz ex fam F) 110)) (.cells (yfA ng e f) 112);have bz:=af ((w.alloc (.cells (ylA R D L G gr sz ex fam F) 110)).alloc (.cells (yfA ng e f) 112)) (.cells (yvA 0 false yN 0) 48);have l0:=((ah w (ylL R D L G gr sz ex fam F) 110).l bf).l bz;have m0:=(ah (w.alloc (.cells (ylA R D L G gr sz ex fam F) 110)) (yfL ng e f) 112).l bz;have v0:=ah ((w.alloc (.cells (ylA R D L G gr sz ex fam F) 110)).alloc (.cells (yfA ng e f) 112)) (yvL 0 false yN 0) 48;have b0:=aa (aa bl bf) bz;rw[World.size_alloc] at m0;rw[World.size_alloc,World.size_alloc] at v0;clear bl bf bz;have HC':Hid _:=HC;have HP':Hid _:=HP;obtain⟨m,hm⟩: ∃m,(lJ R 64 d p).1=m:=⟨_,rfl⟩;obtain⟨pw,hpw⟩: ∃m,(lJ R 64 d p).2=m:=⟨_,rfl⟩;have HS:Hid (lJ R 64 d p=(m,pw)):=Prod.ext hm hpw;rw[hm,hpw];clear hm hpw HC HP
 go_enter func54,ntmps54
 go_wp2_with fail
 refine(HC'.out _).mono ?_;rintro z w1 ⟨rfl,b1⟩;have bq:=af w1 (.cells (yvA 2 false yN 0) 48);have l1:=(l0.l b1).l bq;have m1:=(m0.l b1).l bq;have v1:=(v0.l b1).l bq;have q1:=ah w1 (yvL 2 false yN 0) 48;have b01:=aa (aa b0 b1) bq;have hq3:w.heap.size+3≤w1.heap.size:=(v0.l b1).lt;obtain⟨x0,x1,x2,x3,x4,x5,x6,x7,x8⟩:=l1.cs9;obtain⟨y0,y1,y2⟩:=m1.cs3;clear l0 m0 v0 b0 b1 bq
 go_wp2_with fail
 refine(HP'.out _).mono ?_;rintro z w2 ⟨rfl,b2⟩;have l2:=l1.l b2;have m2:=m1.l b2;have v2:=v1.l b2;have q2:=q1.l b2;have b02:=aa b01 b2;clear l1 m1 v1 q1 b01 b2 x0 x1 x2 x3 x4 x5 x6 x7 x8 y0 y1 y2;generalize w1.heap.size=q at*;have x0:=l2.c 0 rfl;have hwR:IntKind.u64.wrap R=(R:Int):=IntWalk.u64_in _ ⟨by omega,by omega⟩;have hRn:((R:Int) != 0)=true:=by rw[bne_iff_ne];omega
 go_wp2
 go_loop [6,7] (fun dv pv=> ∃(n y:Nat) (r:Int),Hid (lJ R n y r=(m,pw)∧y<2^n)∧n≤64∧0<y∧y<18446744073709551616∧r+n≤p+64∧p≤r∧dv= .int .u64 y∧pv=yi r) (fun dv _=>(intOf dv).toNat)
 case atStart=>exact⟨64,d,p,⟨HS.out,hd⟩,by omega,hd0,hd,by omega,by omega,rfl,rfl⟩
 case round=>
  obtain⟨n,y,r,HY,hn,hy0,hy,hr1,hr2,rfl,rfl⟩:=hrel;obtain⟨t,ht⟩: ∃t,y % R=t:=⟨_,rfl⟩;obtain⟨u,hu⟩: ∃u,y/R=u:=⟨_,rfl⟩;have htI:(y:Int) % (R:Int)=(t:Int):=by rw[←ht];exact(Int.natCast_emod y R).symm
  have huI:(y:Int)/(R:Int)=(u:Int):=by rw[←hu];exact(Int.natCast_ediv y R).symm
  by_cases ht0:t=0
  ·subst ht0
   have hul:u<y:=by rw[←hu];exact Nat.div_lt_self hy0 hR
   have hu0:0<u:=by
    rw[←hu];exact Nat.div_pos (Nat.le_of_dvd hy0 (Nat.dvd_of_mod_eq_zero ht)) (by omega)
   have HH:Hid (_∧_):=⟨ht,hu⟩;clear ht hu
   go_wp2
   obtain⟨ht,hu⟩:=HH.out;obtain⟨hs1,hs2⟩:=HY.out;obtain⟨n',rfl⟩: ∃n',n=n'+1:=by
    cases n with
    |zero=>simp at hs2;omega
    |succ n'=>exact⟨n',rfl⟩
   rw[lJ,if_pos ht,hu] at hs1;refine⟨⟨n',u,r+1,⟨hs1, ?_⟩,by omega,hu0,by omega,by omega,by omega,rfl,rfl⟩, ?_⟩
   ·rw[Nat.pow_succ] at hs2
    have h2:y/R≤y/2:=Nat.div_le_div_left hR (by omega);omega
   ·simp only[intOf]
    omega
  ·have ht1:((t:Int)==0)=false:=by simp;omega
   have HH:Hid (_∧_):=⟨ht,hu⟩;obtain⟨hs1,hs2⟩:=HY.out;obtain⟨n',rfl⟩: ∃n',n=n'+1:=by
    cases n with
    |zero=>simp at hs2;omega
    |succ n'=>exact⟨n',rfl⟩
   rw[lJ,if_neg (by omega),Prod.mk.injEq] at hs1;obtain⟨rfl,rfl⟩:=hs1;clear ht hu huI hs2 HY HH HS;obtain⟨y0,y1,y2⟩:=m2.cs3;obtain⟨u0,u1,u2,u3⟩:=q2.cs4;have k1:=q2.f 1;have k2:=q2.f 2;have k3:=q2.f 3;have q2d:=q2.drew;have q2a:=q2d.set 1 (.bool ng);have q2b:=q2d.set 3 (yi r);have q2ab:=q2a.set 3 (yi r);have q2ba:=q2b.set 1 (.bool ng);have hne:q≠w.heap.size+1:=by omega
   have hnv:q≠w.heap.size+1+1:=by omega
   have m2d:=m2.drew;have m2a:=m2d.off hne 1 (.bool ng);have m2b:=m2d.off hne 3 (yi r);have m2ab:=m2a.off hne 3 (yi r);have m2ba:=m2b.off hne 1 (.bool ng);have v2d:=v2.drew;have v2a:=v2d.off hnv 1 (.bool ng);have v2b:=v2d.off hnv 3 (yi r);have v2ab:=v2a.off hnv 3 (yi r);have v2ba:=v2b.off hnv 1 (.bool ng);have hbq:w.heap.size≤q:=by omega
   have b2d:=b02.drew;have b2a:=(ag _ q 1 (.bool ng)).below b2d hbq;have b2b:=(ag _ q 3 (yi r)).below b2d hbq;have b2ab:=(ag _ q 3 (yi r)).below b2a hbq;have b2ba:=(ag _ q 1 (.bool ng)).below b2b hbq;have HFW:Hid (∀w1,yC 24 #[.int .u64 y] w1 fun z w'=> ∃v,z= .returned v∧Own w' w1.heap.size 54 .u32 v (Dg.dg 4294967296 y)∧yB w1 w'):=fun w1=>KH y hy w1
   go_wp2_with fail
   go_region_held3 (fun wq=>wq.cell? ⟨w.heap.size+1,0,none⟩=some (.bool ng)∧wq.cell? ⟨w.heap.size+1,1,none⟩=some (yi e)∧wq.cell? ⟨w.heap.size+1,2,none⟩=some (.int .u64 f)) (go_keep) (first
    | (go_at_call 24;refine(HFW.out _).mono ?_;rintro z w3 ⟨v,rfl,own3,b3⟩;obtain⟨so,sc,hvs⟩:=own3.rd.shape;subst hvs;(first| (have q3:=q2d.l b3;have m3:=m2d.l b3;have v3:=v2d.l b3;have b03:=aa b2d b3)| (have q3:=q2a.l b3;have m3:=m2a.l b3;have v3:=v2a.l b3;have b03:=aa b2a b3)| (have q3:=q2b.l b3;have m3:=m2b.l b3;have v3:=v2b.l b3;have b03:=aa b2b b3)| (have q3:=q2ab.l b3;have m3:=m2ab.l b3;have v3:=v2ab.l b3;have b03:=aa b2ab b3)| (have q3:=q2ba.l b3;have m3:=m2ba.l b3;have v3:=v2ba.l b3;have b03:=aa b2ba b3));obtain⟨t0,t1,t2⟩:=m3.cs3;obtain⟨s0,s1,s2,s3⟩:=q3.cs4;have j1:=q3.f 1;have j2:=q3.f 2;have j3:=q3.f 3))
   have bu4:=((ag w3 q 1 (.bool ng)).trans (ag _ q 2 (yT so y sc))).trans (ag _ q 3 (yi r));have q4:au (((w3.setCell ⟨q,1,none⟩ (.bool ng)).setCell ⟨q,2,none⟩ (yT so y sc)).setCell ⟨q,3,none⟩ (yi r)) q 48 (yvL 2 ng (yT so y sc) r):=((q3.set 1 (.bool ng)).set 2 (yT so y sc)).set 3 (yi r);have v4:=((v3.off hnv 1 (.bool ng)).off hnv 2 (yT so y sc)).off hnv 3 (yi r);have b04:=bu4.below b03 hbq;have own4:=(bu4.own own3 q3 (by decide)).rd;have ov4:=cq own4 (Dg.norm_dg _ _ (by omega)) v4 (fun x hx n hn=>by simp at hx;rcases hx with rfl|rfl|rfl|rfl<;>simp)
   generalize(((w3.setCell ⟨q,1,none⟩ (.bool ng)).setCell ⟨q,2,none⟩ (yT so y sc)).setCell ⟨q,3,none⟩ (yi r))=w4 at*;clear b3 q3 m3 v3 own3 bu4 t0 t1 t2 s0 s1 s2 s3 j1 j2 j3 u0 u1 u2 u3 k1 k2 k3 y0 y1 y2 x0 q2d q2a q2b q2ab q2ba m2d m2a m2b m2ab m2ba v2d v2a v2b v2ab v2ba b2d b2a b2b b2ab b2ba q2 m2 v2 l2 b02 b03;obtain⟨s0,s1,s2,s3⟩:=q4.cs4;obtain⟨t0,t1,t2,t3⟩:=v4.cs4;have j0:=v4.f 0;have j1:=v4.f 1;have j2:=v4.f 2;have j3:=v4.f 3;have bu5:=(((ag w4 (w.heap.size+1+1) 0 (yi 2)).trans (ag _ (w.heap.size+1+1) 1 (.bool ng))).trans (ag _ (w.heap.size+1+1) 2 (yT so y sc))).trans (ag _ (w.heap.size+1+1) 3 (yi r));have cR:au ((((w4.setCell ⟨w.heap.size+1+1,0,none⟩ (yi 2)).setCell ⟨w.heap.size+1+1,1,none⟩ (.bool ng)).setCell ⟨w.heap.size+1+1,2,none⟩ (yT so y sc)).setCell ⟨w.heap.size+1+1,3,none⟩ (yi r)) (w.heap.size+1+1) 48 (yvL 2 ng (yT so y sc) r):=(((v4.set 0 (yi 2)).set 1 (.bool ng)).set 2 (yT so y sc)).set 3 (yi r);have bR:=bu5.below b04 (by omega);have rR:=bu5.rd own4 ov4;have hl:=run_loadVar_mid (P:=Tryz.prog) _ (w.heap.size+1+1) 0 48 (yvL 2 ng (yT so y sc) r) _ cR.range underlying48 rfl (by kernel_rfl);have HH:Hid (_∧_∧_):=⟨hl,rR,bR⟩;clear hl rR bR cR bu5 own4 ov4 b04 q4 v4
   go_wp2
   obtain⟨hl,rR,bR⟩:=HH.out;exact bodyPost_ret (br results54 rfl hl) rfl ⟨_,rfl,rR,bR⟩
theorem fives_int (k:Int)(w:World)(h1:0≤k)(h2:k≤300000):yC 106 #[yi k] w (NmR w (5^k.toNat)):=by
 have:=fives_any k.toNat w (by omega);rw[show((k.toNat:Nat):Int)=k by omega] at this
 exact this
end Go.Proofs.YtlgkfdcmokchgaaGreatDoor

/-
  Texts laid together: Co10, Co19, Co20, Tx7.
-/
import Derived.Test.YtdhpndnncmagiaaGreatDoorMa08
import Derived.Test.YtdhpndnncmagiaaGreatDoorMa10
import Derived.Test.YtdhpndnncmagiaaGreatDoorMa11
set_option maxRecDepth 100000
set_option maxHeartbeats 12800000
namespace Go.Proofs.YtdhpndnncmagiaaGreatDoor
open _root_.Go.Proofs.Tryz
open Go.RowKit
theorem AY (g cap:Nat)(zs:List Nat)(f c x:Nat)(w:World)(hr:ik w g zs)(hs:Dg.Small 256 zs)(hx:x<18446744073709551616)(hfc:f+c≤8*zs.length)(hl:zs.length≤1000):
  yC 215 #[.slice (some ⟨g,0,none⟩) zs.length cap,yi f,yi c,.int .u64 x] w fun e w'=>e= .returned (.tuple #[])∧ik w' g (iS f c x zs)∧w.grownBy w' (some g):=by
 go_enter func215,ntmps215
 go_wp2
 go_loopw [3,8] (fun xv iv wr=> ∃(j y:Nat) (cur:List Nat),j≤c∧iv=yi ((f:Int)+j-1)∧xv= .int .u64 y∧y<18446744073709551616∧ik wr g cur∧Dg.Small 256 cur∧Hid (cur.length=zs.length)∧Hid (iS f j y cur=iS f c x zs)∧w.grownBy wr (some g))
  (fun _ iv _=>(intOf iv+1).toNat)
 case atStart=>exact⟨c,x,zs,Nat.le_refl _,by go_num,rfl,hx,hr,hs,rfl,rfl,ib _ _⟩
 case round=>
  obtain⟨j,y,cur,hj,rfl,rfl,hy,own,hsm,Hl,Hx,gr⟩:=hrel;have hlen:=Hl.out
  by_cases hj0:0<j
  ·obtain⟨j',rfl⟩: ∃j',j=j'+1:=⟨j-1,by omega⟩
   obtain⟨i,hi⟩: ∃i,f+j'=i:=⟨_,rfl⟩;have hiI:(f:Int)+((j'+1:Nat):Int)-1=(i:Int):=by omega
   rw[hiI];obtain⟨q,hq⟩: ∃q,i/8=q:=⟨_,rfl⟩;obtain⟨r,hr'⟩: ∃r,i % 8=r:=⟨_,rfl⟩;have hqI:(i:Int)/8=(q:Int):=by omega
   have hrI:(i:Int) % 8=(r:Int):=by omega
   have hcell:=own.c q (by omega);have hfree:=own.f q (by omega);have hs1:=hsm q;obtain⟨b,hb⟩: ∃b,cur.getD q 0=b:=⟨_,rfl⟩;rw[hb] at hcell hs1;have hql:q<zs.length:=by omega
   have hr8:r<8:=by omega
   have HH:Hid (_∧_∧_∧_):=⟨hi,hq,hr',hb⟩;have hic:(f:Int)≤(i:Int):=by omega
   have hib:(i:Int)≤8000:=by omega
   clear hi hq hr' hb hlen hiI
   go_wp2
   go_region
   all_goals go_wp2
   all_goals go_roundw
   case rel=>
    obtain⟨hi,hq,hr',hb⟩:=HH.out;have hbl:b|||y % 2*2^ (7-r)<256:=Nat.or_lt_two_pow (n:=8) hs1 (Cf y r)
    refine⟨j',y/2,cur.set q (b|||y % 2*2^ (7-r)),by omega,by congr 1;omega,rfl,by omega, ?_,Io hsm _ _ hbl, ?_, ?_,eF gr (eF (bI _ _ _ _) (vm _ _))⟩
    ·rw[aaR b y r hs1 hy]
     exact(own.store q _).drew
    ·show _=_
     rw[List.length_set];exact Hl.out
    ·show _=_
     have:=Hx.out;rw[iS,hi,hq,hr',hb] at this;exact this
   case measure=>simp only[intOf];omega
  ·have hd: ¬((f:Int)≤(f:Int)+(j:Int)-1):=by omega
   have h0:Hid (j=0):=(by omega:j=0);clear hlen
   go_wp2
   go_end0
   have h1:=h0.out;subst h1;have:=Hx.out;rw[iS] at this;rw[←this];exact⟨rfl,own,gr⟩
theorem cwrite_true_mg:
  (∀(R D L G fam:Int) (gr:Bool) (sz ex fr:Nat) (F:Nat) (e f:Nat) (ts:List Nat) (w:World) (_:1+ex+fr=8*sz) (_:ex≤15) (_:sz≤10) (_:e<65536) (_:f<18446744073709551616) (_:ts.length=sz)
  (_: ∀g cap w1,ik w1 g (iS (1+ex) fr f (iS 1 ex e (iS 0 1 1 (List.replicate sz 0))))→yC F #[.slice (some ⟨g,0,none⟩) sz cap] w1 fun z w'=>z= .returned (.tuple #[])∧ik w' g ts∧w1.grownBy w' (some g))
  (_:yJ 202 #[ylV R D L G gr sz ex fam F] (yi fr))
  (_: ∀args W,Sem.run Tryz.prog (callFunc F args) W= .ok (.enter F args) W),
  yC 164 #[ylV R D L G gr sz ex fam F,yfV true e f] w (yR w (.string (cF ts))))∧
  (∀(R D L G fam:Int) (gr:Bool) (sz ex fr:Nat) (F:Nat) (e f:Nat) (ts:List Nat) (w:World) (_:1+ex+fr=8*sz) (_:ex≤15) (_:sz≤10) (_:e<65536) (_:f<18446744073709551616) (_:ts.length=sz)
  (_: ∀g cap w1,ik w1 g (iS (1+ex) fr f (iS 1 ex e (List.replicate sz 0)))→yC F #[.slice (some ⟨g,0,none⟩) sz cap] w1 fun z w'=>z= .returned (.tuple #[])∧ik w' g ts∧w1.grownBy w' (some g))
  (_:yJ 202 #[ylV R D L G gr sz ex fam F] (yi fr))
  (_: ∀args W,Sem.run Tryz.prog (callFunc F args) W= .ok (.enter F args) W),
  yC 164 #[ylV R D L G gr sz ex fam F,yfV false e f] w (yR w (.string (cF ts)))):=by
 refine⟨?_, ?_⟩;have _z:Mgk 0:=mgkI 0
 all_goals
  intro R D L G fam gr sz ex fr F e f ts w hfr hex hsz he hf hts HT HFR HE;have hsf:=cD
  first| (rename Mgk 0=>_z;have l0:=(ah w (ylL R D L G gr sz ex fam F) 94).l (af _ (.cells (yfA true e f) 157)))| (have l0:=(ah w (ylL R D L G gr sz ex fam F) 94).l (af _ (.cells (yfA false e f) 157)))
  first| (rename Mgk 0=>_z;have m0:=ah (w.alloc (.cells (ylA R D L G gr sz ex fam F) 94)) (yfL true e f) 157)| (have m0:=ah (w.alloc (.cells (ylA R D L G gr sz ex fam F) 94)) (yfL false e f) 157)
  first| (rename Mgk 0=>_z;have b0:=aa (af w (.cells (ylA R D L G gr sz ex fam F) 94)) (af _ (.cells (yfA true e f) 157)))| (have b0:=aa (af w (.cells (ylA R D L G gr sz ex fam F) 94)) (af _ (.cells (yfA false e f) 157)))
  rw[World.size_alloc] at m0
  first| (rename Mgk 0=>_z;have H2:((w.alloc (.cells (ylA R D L G gr sz ex fam F) 94)).alloc (.cells (yfA true e f) 157)).heap.size=w.heap.size+2:=by rw[World.size_alloc,World.size_alloc])| (have H2:((w.alloc (.cells (ylA R D L G gr sz ex fam F) 94)).alloc (.cells (yfA false e f) 157)).heap.size=w.heap.size+2:=by rw[World.size_alloc,World.size_alloc])
  obtain⟨i0,hi,hz0,hz1,hz2⟩:=info_parts Tryz.infoU8;have HT':Hid _:=HT;have HFR':Hid _:=HFR;clear HT HFR;obtain⟨x0,x1,x2,x3,x4,x5,x6,x7,x8⟩:=l0.cs9;obtain⟨u0,u1,u2⟩:=m0.cs3
  go_enter func164,ntmps164
  go_wp2_with (at_make;refine wpList_make_full _ rfl _ _ 70 rfl (w.heap.size+2) 5 i0 (.int .u8 0) 1 underlying70 hi hz0 hz1 _ _ _ _ sz rfl rfl (by omega) (by omega) ?b2 ?b3 (Nat.le_of_eq H2.symm) ?_)
  case b2=>rw[hz2];omega
  case b3=>unfold maxLen;omega
  intro w1 hown hgrow;have r1:=Ev (gL hown);have bg:=(Below.refl _ _).grown hgrow (Nat.le_refl _) (fun k h=>by cases h)
  have l1:=l0.l bg;have m1:=m0.l bg;have b1:=aa b0 bg;clear hown hgrow bg l0 m0 b0 hi hz0 hz1 hz2 H2 x0 x1 x2 x3 x4 x5 x6 x7 x8 u0 u1 u2;obtain⟨g,hg⟩: ∃g,w.heap.size+2=g:=⟨_,rfl⟩;have hg0:w.heap.size≠g:=by omega
  have hg1:w.heap.size+1≠g:=by omega
  have hgl:w.heap.size≤g:=by omega
  rw[hg] at r1⊢;clear hg;have HSB:Hid (∀(c a b:Nat) (zs:List Nat) w1,ik w1 g zs→zs.length=sz→Dg.Small 256 zs→a+b≤8*sz→c<18446744073709551616→yC 215 #[.slice (some ⟨g,0,none⟩) sz sz,yi a,yi b,.int .u64 c] w1 fun z w'=>z= .returned (.tuple #[])∧ik w' g (iS a b c zs)∧w1.grownBy w' (some g)):=fun c a b zs w1 h hz hm hab hc=>by
   have:=AY g sz zs a b c w1 h hm hc (by omega) (by omega);rw[hz] at this;exact this
  have sm0:Dg.Small 256 (List.replicate sz 0):=by
   intro i
   by_cases hi:i<sz
   ·simp[List.getD_eq_getElem?_getD,hi]
   ·simp[List.getD_eq_getElem?_getD,hi]
  have ln0:(List.replicate sz 0).length=sz:=List.length_replicate;have hwe:IntKind.u64.wrap e=(e:Int):=IntWalk.u64_in _ ⟨by omega,by omega⟩;have hwr:IntKind.i64.wrap (1+(ex:Int))=1+(ex:Int):=IntWalk.i64_in _ ⟨by omega,by omega⟩;have HN:Hid _:=hfr
  first| (rename Mgk 0=>_z;(have ln1:(iS 0 1 1 (List.replicate sz 0)).length=sz:=by rw[il];exact ln0);have sm1:Dg.Small 256 (iS 0 1 1 (List.replicate sz 0)):=mj _ _ _ _ sm0;have hs0:=HSB.out 1 0 1 (List.replicate sz 0) _ r1 ln0 sm0 (by omega) (by omega);have HS0:Hid _:=hs0;clear hs0;obtain⟨x0,x1,x2,x3,x4,x5,x6,x7,x8⟩:=l1.cs9;obtain⟨u0,u1,u2⟩:=m1.cs3;go_wp2_with fail;refine Calls.mono HS0.out ?_;rintro z w2 ⟨rfl,r2,g2⟩;have l2:=l1.grown g2 hg0;have m2:=m1.grown g2 hg1;(have b2:=b1.grown g2 b1.size (fun k h=>by cases h;exact hgl));clear x0 x1 x2 x3 x4 x5 x6 x7 x8 u0 u1 u2 l1 m1 b1 g2 HS0 r1;obtain⟨z2,hz2⟩: ∃z,iS 1 ex e (iS 0 1 1 (List.replicate sz 0))=z:=⟨_,rfl⟩)| (obtain⟨z2,hz2⟩: ∃z,iS 1 ex e (List.replicate sz 0)=z:=⟨_,rfl⟩)
  obtain⟨z3,hz3⟩: ∃z,iS (1+ex) fr f z2=z:=⟨_,rfl⟩
  first| (rename Mgk 0=>_z;have ln2:z2.length=sz:=by rw[←hz2,il];exact ln1)| (have ln2:z2.length=sz:=by rw[←hz2,il];exact ln0)
  first| (rename Mgk 0=>_z;have sm2:Dg.Small 256 z2:=by rw[←hz2];exact mj _ _ _ _ sm1)| (have sm2:Dg.Small 256 z2:=by rw[←hz2];exact mj _ _ _ _ sm0)
  first| (rename Mgk 0=>_z;have hs1:=HSB.out e 1 ex (iS 0 1 1 (List.replicate sz 0)) _ r2 ln1 sm1 (by omega) (by omega))| (have hs1:=HSB.out e 1 ex (List.replicate sz 0) _ r1 ln0 sm0 (by omega) (by omega))
  have HS3:Hid (∀w1,ik w1 g z2→yC 215 #[.slice (some ⟨g,0,none⟩) sz sz,yi (1+(ex:Int)),yi fr,.int .u64 f] w1 fun z w'=>z= .returned (.tuple #[])∧ik w' g z3∧w1.grownBy w' (some g)):=fun w1 h=>by
   have:=HSB.out f (1+ex) fr z2 w1 h ln2 sm2 (by omega) hf;rw[hz3,show(((1+ex:Nat):Nat):Int)=1+(ex:Int) from by omega] at this
   exact this
  rw[hz2,hz3] at HT';rw[hz2] at hs1;have HS1:Hid _:=hs1
  first| (rename Mgk 0=>_z;clear hs1 hz2 hz3 sm2 ln2 sm0 ln0 HSB hfr ln1 sm1)| (clear hs1 hz2 hz3 sm2 ln2 sm0 ln0 HSB hfr)
  first| (rename Mgk 0=>_z;obtain⟨x0,x1,x2,x3,x4,x5,x6,x7,x8⟩:=l2.cs9)| (obtain⟨x0,x1,x2,x3,x4,x5,x6,x7,x8⟩:=l1.cs9)
  first| (rename Mgk 0=>_z;obtain⟨u0,u1,u2⟩:=m2.cs3)| (obtain⟨u0,u1,u2⟩:=m1.cs3)
  go_wp2_with fail
  refine Calls.mono HS1.out ?_;rintro z w3 ⟨rfl,r3,g3⟩
  first| (rename Mgk 0=>_z;have l3:=(l2.grown g3 hg0).drew)| (have l3:=(l1.grown g3 hg0).drew)
  first| (rename Mgk 0=>_z;have m3:=(m2.grown g3 hg1).drew)| (have m3:=(m1.grown g3 hg1).drew)
  first| (rename Mgk 0=>_z;have b3:=(b2.grown g3 b2.size (fun k h=>by cases h;exact hgl)).drew)| (have b3:=(b1.grown g3 b1.size (fun k h=>by cases h;exact hgl)).drew)
  have r3d:=r3.drew
  first| (rename Mgk 0=>_z;clear x0 x1 x2 x3 x4 x5 x6 x7 x8 u0 u1 u2 l2 m2 b2 g3 HS1 r3 r2)| (clear x0 x1 x2 x3 x4 x5 x6 x7 x8 u0 u1 u2 l1 m1 b1 g3 HS1 r3 r1)
  obtain⟨x0,x1,x2,x3,x4,x5,x6,x7,x8⟩:=l3.cs9;obtain⟨u0,u1,u2⟩:=m3.cs3
  go_wp2_with fail
  first
  |
   rename Mgk 0=>_z
   go_region_held3 (fun wq=>(wq.cell? ⟨w.heap.size,0,none⟩=some (yi (R:Int))∧wq.cell? ⟨w.heap.size,1,none⟩=some (yi D)∧wq.cell? ⟨w.heap.size,2,none⟩=some (yi L)∧wq.cell? ⟨w.heap.size,3,none⟩=some (yi G)∧wq.cell? ⟨w.heap.size,4,none⟩=some (.bool gr)∧wq.cell? ⟨w.heap.size,5,none⟩=some (yi sz)∧wq.cell? ⟨w.heap.size,6,none⟩=some (yi ex)∧wq.cell? ⟨w.heap.size,7,none⟩=some (yi fam)∧wq.cell? ⟨w.heap.size,8,none⟩=some (.func (.func F) #[] #[]))∧(wq.cell? ⟨w.heap.size+1,0,none⟩=some (.bool true)∧wq.cell? ⟨w.heap.size+1,1,none⟩=some (yi e)∧wq.cell? ⟨w.heap.size+1,2,none⟩=some (.int .u64 f))) (go_keep) (first
    | (go_at_call 202;refine(HFR'.out _).mono ?_;rintro z w4 ⟨rfl,b4⟩;have l4:=l3.l b4;have m4:=m3.l b4;have b04:=aa b3 b4;have r4:=r3d.l b4;obtain⟨y0,y1,y2,y3,y4,y5,y6,y7,y8⟩:=l4.cs9;obtain⟨v0,v1,v2⟩:=m4.cs3)
    | (go_at_call 215;refine(HS3.out _ r4).mono ?_;rintro z w5 ⟨rfl,r5,g5⟩;have l5:=l4.grown g5 hg0;have m5:=m4.grown g5 hg1;have b05:=b04.grown g5 b04.size (fun k h=>by cases h;exact hgl);obtain⟨t0,t1,t2,t3,t4,t5,t6,t7,t8⟩:=l5.cs9;obtain⟨s0,s1,s2⟩:=m5.cs3))
  |
   go_region_held3 (fun wq=>(wq.cell? ⟨w.heap.size,0,none⟩=some (yi (R:Int))∧wq.cell? ⟨w.heap.size,1,none⟩=some (yi D)∧wq.cell? ⟨w.heap.size,2,none⟩=some (yi L)∧wq.cell? ⟨w.heap.size,3,none⟩=some (yi G)∧wq.cell? ⟨w.heap.size,4,none⟩=some (.bool gr)∧wq.cell? ⟨w.heap.size,5,none⟩=some (yi sz)∧wq.cell? ⟨w.heap.size,6,none⟩=some (yi ex)∧wq.cell? ⟨w.heap.size,7,none⟩=some (yi fam)∧wq.cell? ⟨w.heap.size,8,none⟩=some (.func (.func F) #[] #[]))∧(wq.cell? ⟨w.heap.size+1,0,none⟩=some (.bool false)∧wq.cell? ⟨w.heap.size+1,1,none⟩=some (yi e)∧wq.cell? ⟨w.heap.size+1,2,none⟩=some (.int .u64 f))) (go_keep) (first
    | (go_at_call 202;refine(HFR'.out _).mono ?_;rintro z w4 ⟨rfl,b4⟩;have l4:=l3.l b4;have m4:=m3.l b4;have b04:=aa b3 b4;have r4:=r3d.l b4;obtain⟨y0,y1,y2,y3,y4,y5,y6,y7,y8⟩:=l4.cs9;obtain⟨v0,v1,v2⟩:=m4.cs3)
    | (go_at_call 215;refine(HS3.out _ r4).mono ?_;rintro z w5 ⟨rfl,r5,g5⟩;have l5:=l4.grown g5 hg0;have m5:=m4.grown g5 hg1;have b05:=b04.grown g5 b04.size (fun k h=>by cases h;exact hgl);obtain⟨t0,t1,t2,t3,t4,t5,t6,t7,t8⟩:=l5.cs9;obtain⟨s0,s1,s2⟩:=m5.cs3))
  go_wp2_with fail
  refine(HT'.out _ _ _ r5).mono ?_;rintro z w6 ⟨rfl,r6,g6⟩;have b06:=b05.grown g6 b05.size (fun k h=>by cases h;exact hgl)
  have hcv:=vi (cap:=sz) 70 9 underlying70 underlying5 underlying9 r6;rw[hts] at hcv
  go_wp2
  go_ret
  exact⟨rfl,b06⟩
theorem special_nan_mg:
  (∀(R D L G:Int) (gr:Bool) (sz ex:Nat) (F:Nat) (w:World) (on wr ld:Nat) (_:wr<18446744073709551616) (_:ld<18446744073709551616)
  (_:yJ 213 #[ylV R D L G gr sz ex 1 F] (yi on))
  (_:yJ 214 #[ylV R D L G gr sz ex 1 F] (.int .u64 wr))
  (_:yJ 205 #[ylV R D L G gr sz ex 1 F] (.int .u64 ld)),
  yC 162 #[ylV R D L G gr sz ex 1 F,yi 4] w (yR w (.tuple #[yfV false on ((wr|||ld/2:Nat):Int),.bool true])))∧
  (∀(R D L G:Int) (gr:Bool) (sz ex:Nat) (F:Nat) (w:World) (on wr:Nat)
  (_:yJ 213 #[ylV R D L G gr sz ex 1 F] (yi on))
  (_:yJ 214 #[ylV R D L G gr sz ex 1 F] (.int .u64 wr)),
  yC 162 #[ylV R D L G gr sz ex 1 F,yi 3] w (yR w (.tuple #[yfV false on wr,.bool true]))):=by
 refine⟨?_, ?_⟩;have _z:Mgk 0:=mgkI 0
 all_goals
  first| (rename Mgk 0=>_z;intro R D L G gr sz ex F w on wr ld hwl hld Hones Hwritten Hlead)| (intro R D L G gr sz ex F w on wr Hones Hwritten)
  have hsf:=cD;have bf:=af (w.alloc (.cells (ylA R D L G gr sz ex 1 F) 94)) (.cells (yfA false 0 0) 157);have l0:=(ah w (ylL R D L G gr sz ex 1 F) 94).l bf;have m0:=ah (w.alloc (.cells (ylA R D L G gr sz ex 1 F) 94)) (yfL false 0 0) 157;have b0:=aa (af w (.cells (ylA R D L G gr sz ex 1 F) 94)) bf;rw[World.size_alloc] at m0;clear bf;obtain⟨x0,x1,x2,x3,x4,x5,x6,x7,x8⟩:=l0.cs9;obtain⟨u0,u1,u2⟩:=m0.cs3;have j0:=m0.f 0;have j1:=m0.f 1;have j2:=m0.f 2;have Hones':Hid _:=Hones;have Hwritten':Hid _:=Hwritten
  first| (rename Mgk 0=>_z;have Hlead':Hid _:=Hlead;have hor:bits .or .u64 wr ((ld/2:Nat):Int)=((wr|||ld/2:Nat):Int):=u64_or_nat wr (ld/2) hwl (by omega);(have hhf:(ld:Int)/2=((ld/2:Nat):Int):=by omega);obtain⟨fr,hfr⟩: ∃x,wr|||ld/2=x:=⟨_,rfl⟩;rw[hfr] at hor⊢;generalize ld/2=lh at*;clear hfr)|skip
  have CX:XU w (ylL R D L G gr sz ex 1 F) _:=⟨l0.drew,m0.drew,b0.drew⟩
  first| (rename Mgk 0=>_z;clear l0 m0 b0 Hones Hwritten Hlead)| (clear l0 m0 b0 Hones Hwritten)
  go_enter func162,ntmps162
  go_wp2_with fail
  first
  |
   rename Mgk 0=>_z
   go_region_held3 (fun wq=>wq.cell? ⟨w.heap.size,0,none⟩=some (yi R)∧wq.cell? ⟨w.heap.size,1,none⟩=some (yi D)∧wq.cell? ⟨w.heap.size,2,none⟩=some (yi L)∧wq.cell? ⟨w.heap.size,3,none⟩=some (yi G)∧wq.cell? ⟨w.heap.size,4,none⟩=some (.bool gr)∧wq.cell? ⟨w.heap.size,5,none⟩=some (yi sz)∧wq.cell? ⟨w.heap.size,6,none⟩=some (yi ex)∧wq.cell? ⟨w.heap.size,7,none⟩=some (yi 1)∧wq.cell? ⟨w.heap.size,8,none⟩=some (.func (.func F) #[] #[])) (go_keep) (first
    | (go_at_call 213;refine(Hones'.out _).mono ?_;rintro z wones ⟨rfl,bb⟩;have CY:=CX.l bb;clear CX;have CX:=CY;clear CY bb;obtain⟨lq,mq,-⟩:=id CX;obtain⟨x0,x1,x2,x3,x4,x5,x6,x7,x8⟩:=lq.cs9;obtain⟨u0,u1,u2⟩:=mq.cs3;have j0:=mq.f 0;have j1:=mq.f 1;have j2:=mq.f 2;clear lq mq)
    | (go_at_call 214;refine(Hwritten'.out _).mono ?_;rintro z wwritten ⟨rfl,bb⟩;have CY:=CX.l bb;clear CX;have CX:=CY;clear CY bb;obtain⟨lq,mq,-⟩:=id CX;obtain⟨x0,x1,x2,x3,x4,x5,x6,x7,x8⟩:=lq.cs9;obtain⟨u0,u1,u2⟩:=mq.cs3;have j0:=mq.f 0;have j1:=mq.f 1;have j2:=mq.f 2;clear lq mq)
    | (go_at_call 205;refine(Hlead'.out _).mono ?_;rintro z wlead ⟨rfl,bb⟩;have CY:=CX.l bb;clear CX;have CX:=CY;clear CY bb;obtain⟨lq,mq,-⟩:=id CX;obtain⟨x0,x1,x2,x3,x4,x5,x6,x7,x8⟩:=lq.cs9;obtain⟨u0,u1,u2⟩:=mq.cs3;have j0:=mq.f 0;have j1:=mq.f 1;have j2:=mq.f 2;clear lq mq))
  |
   go_region_held3 (fun wq=>wq.cell? ⟨w.heap.size,0,none⟩=some (yi R)∧wq.cell? ⟨w.heap.size,1,none⟩=some (yi D)∧wq.cell? ⟨w.heap.size,2,none⟩=some (yi L)∧wq.cell? ⟨w.heap.size,3,none⟩=some (yi G)∧wq.cell? ⟨w.heap.size,4,none⟩=some (.bool gr)∧wq.cell? ⟨w.heap.size,5,none⟩=some (yi sz)∧wq.cell? ⟨w.heap.size,6,none⟩=some (yi ex)∧wq.cell? ⟨w.heap.size,7,none⟩=some (yi 1)∧wq.cell? ⟨w.heap.size,8,none⟩=some (.func (.func F) #[] #[])) (go_keep) (first
    | (go_at_call 213;refine(Hones'.out _).mono ?_;rintro z wones ⟨rfl,bb⟩;have CY:=CX.l bb;clear CX;have CX:=CY;clear CY bb;obtain⟨lq,mq,-⟩:=id CX;obtain⟨x0,x1,x2,x3,x4,x5,x6,x7,x8⟩:=lq.cs9;obtain⟨u0,u1,u2⟩:=mq.cs3;have j0:=mq.f 0;have j1:=mq.f 1;have j2:=mq.f 2;clear lq mq)
    | (go_at_call 214;refine(Hwritten'.out _).mono ?_;rintro z wwritten ⟨rfl,bb⟩;have CY:=CX.l bb;clear CX;have CX:=CY;clear CY bb;obtain⟨lq,mq,-⟩:=id CX;obtain⟨x0,x1,x2,x3,x4,x5,x6,x7,x8⟩:=lq.cs9;obtain⟨u0,u1,u2⟩:=mq.cs3;have j0:=mq.f 0;have j1:=mq.f 1;have j2:=mq.f 2;clear lq mq))
  have mz:=CX.m;have bz:=CX.b
  first| (rename Mgk 0=>_z;have bu:=((ag wlead (w.heap.size+1) 0 (.bool false)).trans (ag _ (w.heap.size+1) 1 (yi on))).trans (ag _ (w.heap.size+1) 2 (.int .u64 (fr:Int))))| (have bu:=((ag wwritten (w.heap.size+1) 0 (.bool false)).trans (ag _ (w.heap.size+1) 1 (yi on))).trans (ag _ (w.heap.size+1) 2 (.int .u64 wr)))
  first| (rename Mgk 0=>_z;have cR:au (((wlead.setCell ⟨w.heap.size+1,0,none⟩ (.bool false)).setCell ⟨w.heap.size+1,1,none⟩ (yi on)).setCell ⟨w.heap.size+1,2,none⟩ (.int .u64 (fr:Int))) (w.heap.size+1) 157 (yfL false on (fr:Int)):=(((mz.set 0 (.bool false)).set 1 (yi on)).set 2 (.int .u64 (fr:Int))))| (have cR:au (((wwritten.setCell ⟨w.heap.size+1,0,none⟩ (.bool false)).setCell ⟨w.heap.size+1,1,none⟩ (yi on)).setCell ⟨w.heap.size+1,2,none⟩ (.int .u64 wr)) (w.heap.size+1) 157 (yfL false on wr):=(((mz.set 0 (.bool false)).set 1 (yi on)).set 2 (.int .u64 wr)))
  have bR:=bu.below bz (by omega)
  first| (rename Mgk 0=>_z;have hl:=run_loadVar_mid (P:=Tryz.prog) _ (w.heap.size+1) 0 157 (yfL false on (fr:Int)) _ cR.range underlying157 rfl (by kernel_rfl))| (have hl:=run_loadVar_mid (P:=Tryz.prog) _ (w.heap.size+1) 0 157 (yfL false on wr) _ cR.range underlying157 rfl (by kernel_rfl))
  have HH:Hid (_∧_):=⟨hl,bR⟩;clear hl bR cR bu;clear mz bz CX
  go_wp2
  obtain⟨hl,bR⟩:=HH.out;exact bodyPost_ret (aj results162 rfl rfl hl) rfl ⟨rfl,bR⟩
theorem tscaled_ud_mg:
  (∀(xg:Bool) (xn:Nat) (xo:Option Addr) (xc:Nat) (e n tw mt:Int) (F M Dn qt rm:Nat) (w:World) (_:Rd w .u32 (yT xo xn xc) (Dg.dg 4294967296 xn)) (_:IntKind.i64.wrap (e+n)=tw) (_:0<n) (_: ¬0<tw) (_:IntKind.i64.wrap (-tw)=mt)
  (_: ∀w1,yC 77 #[yi n] w1 (NmR w1 F))
  (_: ∀xo xc fo fc w1,Rd w1 .u32 (yT xo xn xc) (Dg.dg 4294967296 xn)→Rd w1 .u32 (yT fo F fc) (Dg.dg 4294967296 F)→yC 76 #[yT xo xn xc,yT fo F fc] w1 (NmR w1 M))
  (_: ∀q w1,au w1 q 116 [.int .u32 1]→yC 47 #[.slice (some ⟨q,0,none⟩) 1 1,yi mt] w1 (NmR w1 Dn))
  (_: ∀mo mc go gc w1,Rd w1 .u32 (yT mo M mc) (Dg.dg 4294967296 M)→Rd w1 .u32 (yT go Dn gc) (Dg.dg 4294967296 Dn)→yC 50 #[yT mo M mc,yT go Dn gc] w1 (TwR w1 qt rm)),
  yC 45 #[ydV xg (yT xo xn xc) e,yi n] w (NbR w qt (decide (0< (Dg.dg 4294967296 rm).length))))∧
  (∀(xg:Bool) (xn:Nat) (xo:Option Addr) (xc:Nat) (e n tw:Int) (F M Nn qt rm:Nat) (w:World) (_:Rd w .u32 (yT xo xn xc) (Dg.dg 4294967296 xn)) (_:IntKind.i64.wrap (e+n)=tw) (_:0<n) (_:0<tw)
  (_: ∀w1,yC 77 #[yi n] w1 (NmR w1 F))
  (_: ∀xo xc fo fc w1,Rd w1 .u32 (yT xo xn xc) (Dg.dg 4294967296 xn)→Rd w1 .u32 (yT fo F fc) (Dg.dg 4294967296 F)→yC 76 #[yT xo xn xc,yT fo F fc] w1 (NmR w1 M))
  (_: ∀mo mc w1,Rd w1 .u32 (yT mo M mc) (Dg.dg 4294967296 M)→yC 47 #[yT mo M mc,yi tw] w1 (NmR w1 Nn))
  (_: ∀no nc q w1,Rd w1 .u32 (yT no Nn nc) (Dg.dg 4294967296 Nn)→au w1 q 116 [.int .u32 1]→yC 50 #[yT no Nn nc,.slice (some ⟨q,0,none⟩) 1 1] w1 (TwR w1 qt rm)),
  yC 45 #[ydV xg (yT xo xn xc) e,yi n] w (NbR w qt (decide (0< (Dg.dg 4294967296 rm).length))))∧
  (∀(xg:Bool) (xn:Nat) (xo:Option Addr) (xc:Nat) (e n tw mn mt:Int) (F Dn qt rm:Nat) (w:World) (_:Rd w .u32 (yT xo xn xc) (Dg.dg 4294967296 xn)) (_:IntKind.i64.wrap (e+n)=tw) (_: ¬0<n) (_: ¬0<tw) (_:IntKind.i64.wrap (-n)=mn) (_:IntKind.i64.wrap (-tw)=mt)
  (_: ∀w1,yC 77 #[yi mn] w1 (NmR w1 F))
  (_: ∀fo fc w1,Rd w1 .u32 (yT fo F fc) (Dg.dg 4294967296 F)→yC 47 #[yT fo F fc,yi mt] w1 (NmR w1 Dn))
  (_: ∀xo xc go gc w1,Rd w1 .u32 (yT xo xn xc) (Dg.dg 4294967296 xn)→Rd w1 .u32 (yT go Dn gc) (Dg.dg 4294967296 Dn)→yC 50 #[yT xo xn xc,yT go Dn gc] w1 (TwR w1 qt rm)),
  yC 45 #[ydV xg (yT xo xn xc) e,yi n] w (NbR w qt (decide (0< (Dg.dg 4294967296 rm).length))))∧
  (∀(xg:Bool) (xn:Nat) (xo:Option Addr) (xc:Nat) (e n tw mn:Int) (F Nn qt rm:Nat) (w:World) (_:Rd w .u32 (yT xo xn xc) (Dg.dg 4294967296 xn)) (_:IntKind.i64.wrap (e+n)=tw) (_: ¬0<n) (_:0<tw) (_:IntKind.i64.wrap (-n)=mn)
  (_: ∀w1,yC 77 #[yi mn] w1 (NmR w1 F))
  (_: ∀xo xc w1,Rd w1 .u32 (yT xo xn xc) (Dg.dg 4294967296 xn)→yC 47 #[yT xo xn xc,yi tw] w1 (NmR w1 Nn))
  (_: ∀no nc fo fc w1,Rd w1 .u32 (yT no Nn nc) (Dg.dg 4294967296 Nn)→Rd w1 .u32 (yT fo F fc) (Dg.dg 4294967296 F)→yC 50 #[yT no Nn nc,yT fo F fc] w1 (TwR w1 qt rm)),
  yC 45 #[ydV xg (yT xo xn xc) e,yi n] w (NbR w qt (decide (0< (Dg.dg 4294967296 rm).length)))):=by
 refine⟨?_, ?_, ?_, ?_⟩;have _z:Mgk 0:=mgkI 0
 rotate_left
 have _z:Mgk 1:=mgkI 1
 rotate_left
 have _z:Mgk 2:=mgkI 2
 rotate_left
 rotate_left
 all_goals
  first| (rename Mgk 0=>_z;intro xg xn xo xc e n tw mt F M Dn qt rm w rx htw hn ht hmt HF HT HS HO)| (rename Mgk 1=>_z;intro xg xn xo xc e n tw F M Nn qt rm w rx htw hn ht HF HT HS HO)| (rename Mgk 2=>_z;intro xg xn xo xc e n tw mn mt F Dn qt rm w rx htw hn ht hmn hmt HF HS HO)| (intro xg xn xo xc e n tw mn F Nn qt rm w rx htw hn ht hmn HF HS HO)
  replace HF:Hid _:=HF
  first| (rename Mgk 0=>_z;replace HT:Hid _:=HT)| (rename Mgk 1=>_z;replace HT:Hid _:=HT)| (rename Mgk 2=>_z)|skip
  replace HS:Hid _:=HS;replace HO:Hid _:=HO;obtain⟨W3,hW4,q1,b2⟩:=cA w (ydL xg (yT xo xn xc) e) 59;replace hW4:Hid _:=hW4;have r5:=rx.l b2;clear rx
  go_enter func45,ntmps45
  go_upto_region 1 with fail
  rw[hW4.out];clear hW4
  go_upto_region 1 with fail
  have bW6:yB W3 W3.drew:=(Below.refl _ _).drew;have q7:=q1.l bW6;have r8:=r5.l bW6;have b9:=aa b2 bW6;clear q1 r5 b2 bW6;refine wp_region_held_drew (S:=fun wq=>au wq w.heap.size 59 (ydL xg (yT xo xn xc) e)) (by kernel_rfl) q7 (fun hS0=> ?_)
  generalize W3.drew=WD10 at q7 r8 b9 hS0⊢;refine tq 0 (.pointer (some ⟨w.heap.size,1,none⟩)) rfl (fun _ _=>by kernel_rfl) hS0 ?_
  refine tq 1 (yT xo xn xc) rfl (fun _ hw0=>gU 55 (.tmp 11) rfl w.heap.size 1 (by kernel_rfl) _ _ underlying55 rfl (hw0.c 1 rfl)) hS0 ?_
  refine tq 3 (.pointer (some ⟨w.heap.size,2,none⟩)) rfl (fun _ _=>by kernel_rfl) hS0 ?_
  refine tq 4 (yi e) rfl (fun _ hw0=>gU 3 (.tmp 14) rfl w.heap.size 2 (by kernel_rfl) _ _ underlying3 rfl (hw0.c 2 rfl)) hS0 ?_
  refine tq 5 (yi n) rfl (fun _ _=>by kernel_rfl) hS0 ?_
  refine tq 6 (yi tw) rfl (fun _ _=>by go_simp) hS0 ?_
  refine tq 7 (yT xo xn xc) rfl (fun _ _=>by kernel_rfl) hS0 ?_
  refine wpAnyH_ready (rs:=[2]) (by kernel_rfl) (by simp) ?_;refine AllReadyH.cons rfl (fun K hK=> ?_) AllReadyH.nil
  go_simp
  have al11:=af WD10 (.cells #[.int .u32 1] 116);have q12:=ah WD10 [.int .u32 1] 116;have hl15:w.heap.size≤WD10.heap.size:=b9.size;have hl16:=q7.lt;have q17:=q7.l al11;have r18:=r8.l al11;have b19:=aa b9 al11;refine hK.out _ _ q17 (fun hS20=> ?_)
  clear hK K;clear q7 r8 b9 al11;generalize WD10.alloc (.cells #[.int .u32 1] 116)=WN13 at q17 q12 r18 b19 hS20⊢;generalize WD10.heap.size=PQ14 at q12 hl15 hl16⊢;refine tq 8 (.slice (some ⟨PQ14,0,none⟩) 1 1) rfl (fun _ _=>by kernel_rfl) hS20 ?_
  refine tq 9 (yi tw) rfl (fun _ _=>by kernel_rfl) hS20 ?_
  refine wpAnyH_done (by kernel_rfl) ?_ _;clear hS0 hS20;simp only[Act.put,List.getElem_toArray,List.getElem_cons_succ,List.getElem_cons_zero,List.setIfInBounds_toArray,List.set_cons_zero,List.set_cons_succ]
  go_wp2_with fail
  refine(HF.out _).mono ?_;rintro zz w21 ⟨v1x23,rfl,r1x24,bb22⟩
  first| (rename Mgk 0=>_z;have q25:=q12.l bb22;have r26:=r18.l bb22;have b27:=aa b19 bb22)| (rename Mgk 1=>_z;have q25:=q12.l bb22;have r26:=r18.l bb22;have b27:=aa b19 bb22)| (rename Mgk 2=>_z;have r25:=r18.l bb22;have b26:=aa b19 bb22)| (have r25:=r18.l bb22;have b26:=aa b19 bb22)
  obtain⟨fo,fc,hv⟩:=r1x24.shape;subst hv;clear q17 q12 r18 b19 bb22 HF
  go_wp2_with fail
  first| (rename Mgk 0=>_z;refine(HT.out _ _ _ _ _ r26 r1x24).mono ?_)| (rename Mgk 1=>_z;refine(HT.out _ _ _ _ _ r26 r1x24).mono ?_)| (rename Mgk 2=>_z;refine(HS.out _ _ _ r1x24).mono ?_)| (refine(HS.out _ _ _ r25).mono ?_)
  first| (rename Mgk 0=>_z;rintro zz w28 ⟨v1x30,rfl,r1x31,bb29⟩)| (rename Mgk 1=>_z;rintro zz w28 ⟨v1x30,rfl,r1x31,bb29⟩)| (rename Mgk 2=>_z;rintro zz w27 ⟨v1x29,rfl,r1x30,bb28⟩)| (rintro zz w27 ⟨v1x29,rfl,r1x30,bb28⟩)
  first| (rename Mgk 0=>_z;have q32:=q25.l bb29)| (rename Mgk 1=>_z;have q32:=q25.l bb29)| (rename Mgk 2=>_z;have r31:=r25.l bb28)| (have r31:=r1x24.l bb28)
  first| (rename Mgk 0=>_z;have b33:=aa b27 bb29)| (rename Mgk 1=>_z;have b33:=aa b27 bb29)| (rename Mgk 2=>_z;have b32:=aa b26 bb28)| (have b32:=aa b26 bb28)
  first| (rename Mgk 0=>_z;obtain⟨mo,mc,hv⟩:=r1x31.shape)| (rename Mgk 1=>_z;obtain⟨mo,mc,hv⟩:=r1x31.shape)| (rename Mgk 2=>_z;obtain⟨go,gc,hv⟩:=r1x30.shape)| (obtain⟨no,nc,hv⟩:=r1x30.shape)
  subst hv
  first| (rename Mgk 0=>_z;clear q25 r26 r1x24 b27 bb29 HT)| (rename Mgk 1=>_z;clear q25 r26 r1x24 b27 bb29 HT)| (rename Mgk 2=>_z;clear r25 r1x24 b26 bb28 HS)| (clear r25 r1x24 b26 bb28 HS)
  go_wp2_with fail
  first| (rename Mgk 0=>_z;refine(HS.out _ _ q32).mono ?_;rintro zz w34 ⟨v1x36,rfl,r1x37,bb35⟩;have r38:=r1x31.l bb35;have b39:=aa b33 bb35;obtain⟨go,gc,hv⟩:=r1x37.shape)| (rename Mgk 1=>_z;refine(HS.out _ _ _ r1x31).mono ?_;rintro zz w34 ⟨v1x36,rfl,r1x37,bb35⟩;have q38:=q32.l bb35;have b39:=aa b33 bb35;obtain⟨no,nc,hv⟩:=r1x37.shape)| (rename Mgk 2=>_z;refine(HO.out _ _ _ _ _ r31 r1x30).mono ?_;rintro zz w33 ⟨v1x35,v2x36,rfl,r1x37,r2x38,bb34⟩;have b39:=aa b32 bb34;obtain⟨qo,qc,hv⟩:=r1x37.shape)| (refine(HO.out _ _ _ _ _ r1x30 r31).mono ?_;rintro zz w33 ⟨v1x35,v2x36,rfl,r1x37,r2x38,bb34⟩;have b39:=aa b32 bb34;obtain⟨qo,qc,hv⟩:=r1x37.shape)
  subst hv
  first| (rename Mgk 0=>_z;clear q32 r1x31 b33 bb35 HS;go_wp2_with fail;refine(HO.out _ _ _ _ _ r38 r1x37).mono ?_;rintro zz w40 ⟨v1x42,v2x43,rfl,r1x44,r2x45,bb41⟩;have b46:=aa b39 bb41;obtain⟨qo,qc,hv⟩:=r1x44.shape)| (rename Mgk 1=>_z;clear q32 r1x31 b33 bb35 HS;go_wp2_with fail;refine(HO.out _ _ _ _ r1x37 q38).mono ?_;rintro zz w40 ⟨v1x42,v2x43,rfl,r1x44,r2x45,bb41⟩;have b46:=aa b39 bb41;obtain⟨qo,qc,hv⟩:=r1x44.shape)| (rename Mgk 2=>_z;obtain⟨so,sc,hv⟩:=r2x38.shape)| (obtain⟨so,sc,hv⟩:=r2x38.shape)
  subst hv
  first| (rename Mgk 0=>_z;obtain⟨so,sc,hv⟩:=r2x45.shape;subst hv;clear r38 r1x37 b39 bb41 HO)| (rename Mgk 1=>_z;obtain⟨so,sc,hv⟩:=r2x45.shape;subst hv;clear q38 r1x37 b39 bb41 HO)| (rename Mgk 2=>_z;clear r31 r1x30 b32 bb34 HO)| (clear r31 r1x30 b32 bb34 HO)
  go_wp2
  go_ret2
  first| (rename Mgk 0=>_z;exact⟨_,rfl,r1x44,b46⟩)| (rename Mgk 1=>_z;exact⟨_,rfl,r1x44,b46⟩)| (rename Mgk 2=>_z;exact⟨_,rfl,r1x37,b39⟩)| (exact⟨_,rfl,r1x37,b39⟩)
end Go.Proofs.YtdhpndnncmagiaaGreatDoor

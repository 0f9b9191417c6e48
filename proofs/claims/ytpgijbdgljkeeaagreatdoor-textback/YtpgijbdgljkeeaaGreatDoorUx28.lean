/-
  Texts laid together: Co19, Tx11.
-/
import Derived.Test.YtpgijbdgljkeeaaGreatDoorUx17
import Derived.Test.YtpgijbdgljkeeaaGreatDoorUx23
import Derived.Test.YtpgijbdgljkeeaaGreatDoorUx24
set_option maxRecDepth 100000
set_option maxHeartbeats 6400000
namespace Go.Proofs.YtpgijbdgljkeeaaGreatDoor
open _root_.Go.Proofs.Tryz
open Go.RowKit
theorem Mw (R D L G fam:Int)(gr:Bool)(sz ex fr:Nat)(F:Nat)(e f:Nat)(ts:List Nat)(w:World)(hfr:1+ex+fr=8*sz)(hex:ex≤15)(hsz:sz≤10)(he:e<65536)(hf:f<18446744073709551616)(hts:ts.length=sz)
  (HT: ∀g cap w1,ik w1 g (iS (1+ex) fr f (iS 1 ex e (iS 0 1 1 (List.replicate sz 0))))→yC F #[.slice (some ⟨g,0,none⟩) sz cap] w1 fun z w'=>z= .returned (.tuple #[])∧ik w' g ts∧w1.grownBy w' (some g))
  (HFR:yJ 154 #[ylV R D L G gr sz ex fam F] (yi fr))
  (HE: ∀args W,Sem.run Tryz.prog (callFunc F args) W= .ok (.enter F args) W):
  yC 150 #[ylV R D L G gr sz ex fam F,yfV true e f] w (yR w (.string (cF ts))):=by
 have hsf:=cD;have l0:=(ah w (ylL R D L G gr sz ex fam F) 124).l (af _ (.cells (yfA true e f) 127));have m0:=ah (w.alloc (.cells (ylA R D L G gr sz ex fam F) 124)) (yfL true e f) 127;have b0:=aa (af w (.cells (ylA R D L G gr sz ex fam F) 124)) (af _ (.cells (yfA true e f) 127));rw[World.size_alloc] at m0;have H2:((w.alloc (.cells (ylA R D L G gr sz ex fam F) 124)).alloc (.cells (yfA true e f) 127)).heap.size=w.heap.size+2:=by rw[World.size_alloc,World.size_alloc]
 obtain⟨i0,hi,hz0,hz1,hz2⟩:=info_parts Tryz.infoU8;have HT':Hid _:=HT;have HFR':Hid _:=HFR;clear HT HFR;obtain⟨x0,x1,x2,x3,x4,x5,x6,x7,x8⟩:=l0.cs9;obtain⟨u0,u1,u2⟩:=m0.cs3
 go_enter func150,ntmps150
 go_wp2_with (at_make;refine wpList_make_full _ rfl _ _ 205 rfl (w.heap.size+2) 5 i0 (.int .u8 0) 1 underlying205 hi hz0 hz1 _ _ _ _ sz rfl rfl (by omega) (by omega) ?b2 ?b3 (Nat.le_of_eq H2.symm) ?_)
 case b2=>rw[hz2];omega
 case b3=>unfold maxLen;omega
 intro w1 hown hgrow;have r1:=Ev (gL hown);have bg:=(Below.refl _ _).grown hgrow (Nat.le_refl _) (fun k h=>by cases h)
 have l1:=l0.l bg;have m1:=m0.l bg;have b1:=aa b0 bg;clear hown hgrow bg l0 m0 b0 hi hz0 hz1 hz2 H2 x0 x1 x2 x3 x4 x5 x6 x7 x8 u0 u1 u2;obtain⟨g,hg⟩: ∃g,w.heap.size+2=g:=⟨_,rfl⟩;have hg0:w.heap.size≠g:=by omega
 have hg1:w.heap.size+1≠g:=by omega
 have hgl:w.heap.size≤g:=by omega
 rw[hg] at r1⊢;clear hg;have HSB:Hid (∀(c a b:Nat) (zs:List Nat) w1,ik w1 g zs→zs.length=sz→Dg.Small 256 zs→a+b≤8*sz→c<18446744073709551616→yC 193 #[.slice (some ⟨g,0,none⟩) sz sz,yi a,yi b,.int .u64 c] w1 fun z w'=>z= .returned (.tuple #[])∧ik w' g (iS a b c zs)∧w1.grownBy w' (some g)):=fun c a b zs w1 h hz hm hab hc=>by
  have:=AY g sz zs a b c w1 h hm hc (by omega) (by omega);rw[hz] at this;exact this
 have sm0:Dg.Small 256 (List.replicate sz 0):=by
  intro i
  by_cases hi:i<sz
  ·simp[List.getD_eq_getElem?_getD,hi]
  ·simp[List.getD_eq_getElem?_getD,hi]
 have ln0:(List.replicate sz 0).length=sz:=List.length_replicate;have hwe:IntKind.u64.wrap e=(e:Int):=IntWalk.u64_in _ ⟨by omega,by omega⟩;have hwr:IntKind.i64.wrap (1+(ex:Int))=1+(ex:Int):=IntWalk.i64_in _ ⟨by omega,by omega⟩;have HN:Hid _:=hfr;have ln1:(iS 0 1 1 (List.replicate sz 0)).length=sz:=by rw[il];exact ln0
 have sm1:Dg.Small 256 (iS 0 1 1 (List.replicate sz 0)):=mj _ _ _ _ sm0;have hs0:=HSB.out 1 0 1 (List.replicate sz 0) _ r1 ln0 sm0 (by omega) (by omega);have HS0:Hid _:=hs0;clear hs0;obtain⟨x0,x1,x2,x3,x4,x5,x6,x7,x8⟩:=l1.cs9;obtain⟨u0,u1,u2⟩:=m1.cs3
 go_wp2_with fail
 refine Calls.mono HS0.out ?_;rintro z w2 ⟨rfl,r2,g2⟩;have l2:=l1.grown g2 hg0;have m2:=m1.grown g2 hg1;have b2:=b1.grown g2 b1.size (fun k h=>by cases h;exact hgl)
 clear x0 x1 x2 x3 x4 x5 x6 x7 x8 u0 u1 u2 l1 m1 b1 g2 HS0 r1;obtain⟨z2,hz2⟩: ∃z,iS 1 ex e (iS 0 1 1 (List.replicate sz 0))=z:=⟨_,rfl⟩;obtain⟨z3,hz3⟩: ∃z,iS (1+ex) fr f z2=z:=⟨_,rfl⟩;have ln2:z2.length=sz:=by rw[←hz2,il];exact ln1
 have sm2:Dg.Small 256 z2:=by rw[←hz2];exact mj _ _ _ _ sm1
 have hs1:=HSB.out e 1 ex (iS 0 1 1 (List.replicate sz 0)) _ r2 ln1 sm1 (by omega) (by omega);have HS3:Hid (∀w1,ik w1 g z2→yC 193 #[.slice (some ⟨g,0,none⟩) sz sz,yi (1+(ex:Int)),yi fr,.int .u64 f] w1 fun z w'=>z= .returned (.tuple #[])∧ik w' g z3∧w1.grownBy w' (some g)):=fun w1 h=>by
  have:=HSB.out f (1+ex) fr z2 w1 h ln2 sm2 (by omega) hf;rw[hz3,show(((1+ex:Nat):Nat):Int)=1+(ex:Int) from by omega] at this
  exact this
 rw[hz2,hz3] at HT';rw[hz2] at hs1;have HS1:Hid _:=hs1;clear hs1 hz2 hz3 sm2 ln2 sm0 ln0 HSB hfr ln1 sm1;obtain⟨x0,x1,x2,x3,x4,x5,x6,x7,x8⟩:=l2.cs9;obtain⟨u0,u1,u2⟩:=m2.cs3
 go_wp2_with fail
 refine Calls.mono HS1.out ?_;rintro z w3 ⟨rfl,r3,g3⟩;have l3:=(l2.grown g3 hg0).drew;have m3:=(m2.grown g3 hg1).drew;have b3:=(b2.grown g3 b2.size (fun k h=>by cases h;exact hgl)).drew
 have r3d:=r3.drew;clear x0 x1 x2 x3 x4 x5 x6 x7 x8 u0 u1 u2 l2 m2 b2 g3 HS1 r3 r2;obtain⟨x0,x1,x2,x3,x4,x5,x6,x7,x8⟩:=l3.cs9;obtain⟨u0,u1,u2⟩:=m3.cs3
 go_wp2_with fail
 go_region_held3 (fun wq=>(wq.cell? ⟨w.heap.size,0,none⟩=some (yi (R:Int))∧wq.cell? ⟨w.heap.size,1,none⟩=some (yi D)∧wq.cell? ⟨w.heap.size,2,none⟩=some (yi L)∧wq.cell? ⟨w.heap.size,3,none⟩=some (yi G)∧wq.cell? ⟨w.heap.size,4,none⟩=some (.bool gr)∧wq.cell? ⟨w.heap.size,5,none⟩=some (yi sz)∧wq.cell? ⟨w.heap.size,6,none⟩=some (yi ex)∧wq.cell? ⟨w.heap.size,7,none⟩=some (yi fam)∧wq.cell? ⟨w.heap.size,8,none⟩=some (.func (.func F) #[] #[]))∧(wq.cell? ⟨w.heap.size+1,0,none⟩=some (.bool true)∧wq.cell? ⟨w.heap.size+1,1,none⟩=some (yi e)∧wq.cell? ⟨w.heap.size+1,2,none⟩=some (.int .u64 f))) (go_keep) (first
  | (go_at_call 154;refine(HFR'.out _).mono ?_;rintro z w4 ⟨rfl,b4⟩;have l4:=l3.l b4;have m4:=m3.l b4;have b04:=aa b3 b4;have r4:=r3d.l b4;obtain⟨y0,y1,y2,y3,y4,y5,y6,y7,y8⟩:=l4.cs9;obtain⟨v0,v1,v2⟩:=m4.cs3)
  | (go_at_call 193;refine(HS3.out _ r4).mono ?_;rintro z w5 ⟨rfl,r5,g5⟩;have l5:=l4.grown g5 hg0;have m5:=m4.grown g5 hg1;have b05:=b04.grown g5 b04.size (fun k h=>by cases h;exact hgl);obtain⟨t0,t1,t2,t3,t4,t5,t6,t7,t8⟩:=l5.cs9;obtain⟨s0,s1,s2⟩:=m5.cs3))
 go_wp2_with fail
 refine(HT'.out _ _ _ r5).mono ?_;rintro z w6 ⟨rfl,r6,g6⟩;have b06:=b05.grown g6 b05.size (fun k h=>by cases h;exact hgl)
 have hcv:=vi (cap:=sz) 205 9 underlying205 underlying5 underlying9 r6;rw[hts] at hcv
 go_wp2
 go_ret
 exact⟨rfl,b06⟩
theorem Km (R D L G fam:Int)(gr:Bool)(sz ex fr:Nat)(F:Nat)(e f:Nat)(ts:List Nat)(w:World)(hfr:1+ex+fr=8*sz)(hex:ex≤15)(hsz:sz≤10)(he:e<65536)(hf:f<18446744073709551616)(hts:ts.length=sz)
  (HT: ∀g cap w1,ik w1 g (iS (1+ex) fr f (iS 1 ex e (List.replicate sz 0)))→yC F #[.slice (some ⟨g,0,none⟩) sz cap] w1 fun z w'=>z= .returned (.tuple #[])∧ik w' g ts∧w1.grownBy w' (some g))
  (HFR:yJ 154 #[ylV R D L G gr sz ex fam F] (yi fr))
  (HE: ∀args W,Sem.run Tryz.prog (callFunc F args) W= .ok (.enter F args) W):
  yC 150 #[ylV R D L G gr sz ex fam F,yfV false e f] w (yR w (.string (cF ts))):=by
 have hsf:=cD;have l0:=(ah w (ylL R D L G gr sz ex fam F) 124).l (af _ (.cells (yfA false e f) 127));have m0:=ah (w.alloc (.cells (ylA R D L G gr sz ex fam F) 124)) (yfL false e f) 127;have b0:=aa (af w (.cells (ylA R D L G gr sz ex fam F) 124)) (af _ (.cells (yfA false e f) 127));rw[World.size_alloc] at m0;have H2:((w.alloc (.cells (ylA R D L G gr sz ex fam F) 124)).alloc (.cells (yfA false e f) 127)).heap.size=w.heap.size+2:=by rw[World.size_alloc,World.size_alloc]
 obtain⟨i0,hi,hz0,hz1,hz2⟩:=info_parts Tryz.infoU8;have HT':Hid _:=HT;have HFR':Hid _:=HFR;clear HT HFR;obtain⟨x0,x1,x2,x3,x4,x5,x6,x7,x8⟩:=l0.cs9;obtain⟨u0,u1,u2⟩:=m0.cs3
 go_enter func150,ntmps150
 go_wp2_with (at_make;refine wpList_make_full _ rfl _ _ 205 rfl (w.heap.size+2) 5 i0 (.int .u8 0) 1 underlying205 hi hz0 hz1 _ _ _ _ sz rfl rfl (by omega) (by omega) ?b2 ?b3 (Nat.le_of_eq H2.symm) ?_)
 case b2=>rw[hz2];omega
 case b3=>unfold maxLen;omega
 intro w1 hown hgrow;have r1:=Ev (gL hown);have bg:=(Below.refl _ _).grown hgrow (Nat.le_refl _) (fun k h=>by cases h)
 have l1:=l0.l bg;have m1:=m0.l bg;have b1:=aa b0 bg;clear hown hgrow bg l0 m0 b0 hi hz0 hz1 hz2 H2 x0 x1 x2 x3 x4 x5 x6 x7 x8 u0 u1 u2;obtain⟨g,hg⟩: ∃g,w.heap.size+2=g:=⟨_,rfl⟩;have hg0:w.heap.size≠g:=by omega
 have hg1:w.heap.size+1≠g:=by omega
 have hgl:w.heap.size≤g:=by omega
 rw[hg] at r1⊢;clear hg;have HSB:Hid (∀(c a b:Nat) (zs:List Nat) w1,ik w1 g zs→zs.length=sz→Dg.Small 256 zs→a+b≤8*sz→c<18446744073709551616→yC 193 #[.slice (some ⟨g,0,none⟩) sz sz,yi a,yi b,.int .u64 c] w1 fun z w'=>z= .returned (.tuple #[])∧ik w' g (iS a b c zs)∧w1.grownBy w' (some g)):=fun c a b zs w1 h hz hm hab hc=>by
  have:=AY g sz zs a b c w1 h hm hc (by omega) (by omega);rw[hz] at this;exact this
 have sm0:Dg.Small 256 (List.replicate sz 0):=by
  intro i
  by_cases hi:i<sz
  ·simp[List.getD_eq_getElem?_getD,hi]
  ·simp[List.getD_eq_getElem?_getD,hi]
 have ln0:(List.replicate sz 0).length=sz:=List.length_replicate;have hwe:IntKind.u64.wrap e=(e:Int):=IntWalk.u64_in _ ⟨by omega,by omega⟩;have hwr:IntKind.i64.wrap (1+(ex:Int))=1+(ex:Int):=IntWalk.i64_in _ ⟨by omega,by omega⟩;have HN:Hid _:=hfr;obtain⟨z2,hz2⟩: ∃z,iS 1 ex e (List.replicate sz 0)=z:=⟨_,rfl⟩;obtain⟨z3,hz3⟩: ∃z,iS (1+ex) fr f z2=z:=⟨_,rfl⟩;have ln2:z2.length=sz:=by rw[←hz2,il];exact ln0
 have sm2:Dg.Small 256 z2:=by rw[←hz2];exact mj _ _ _ _ sm0
 have hs1:=HSB.out e 1 ex (List.replicate sz 0) _ r1 ln0 sm0 (by omega) (by omega);have HS3:Hid (∀w1,ik w1 g z2→yC 193 #[.slice (some ⟨g,0,none⟩) sz sz,yi (1+(ex:Int)),yi fr,.int .u64 f] w1 fun z w'=>z= .returned (.tuple #[])∧ik w' g z3∧w1.grownBy w' (some g)):=fun w1 h=>by
  have:=HSB.out f (1+ex) fr z2 w1 h ln2 sm2 (by omega) hf;rw[hz3,show(((1+ex:Nat):Nat):Int)=1+(ex:Int) from by omega] at this
  exact this
 rw[hz2,hz3] at HT';rw[hz2] at hs1;have HS1:Hid _:=hs1;clear hs1 hz2 hz3 sm2 ln2 sm0 ln0 HSB hfr;obtain⟨x0,x1,x2,x3,x4,x5,x6,x7,x8⟩:=l1.cs9;obtain⟨u0,u1,u2⟩:=m1.cs3
 go_wp2_with fail
 refine Calls.mono HS1.out ?_;rintro z w3 ⟨rfl,r3,g3⟩;have l3:=(l1.grown g3 hg0).drew;have m3:=(m1.grown g3 hg1).drew;have b3:=(b1.grown g3 b1.size (fun k h=>by cases h;exact hgl)).drew
 have r3d:=r3.drew;clear x0 x1 x2 x3 x4 x5 x6 x7 x8 u0 u1 u2 l1 m1 b1 g3 HS1 r3 r1;obtain⟨x0,x1,x2,x3,x4,x5,x6,x7,x8⟩:=l3.cs9;obtain⟨u0,u1,u2⟩:=m3.cs3
 go_wp2_with fail
 go_region_held3 (fun wq=>(wq.cell? ⟨w.heap.size,0,none⟩=some (yi (R:Int))∧wq.cell? ⟨w.heap.size,1,none⟩=some (yi D)∧wq.cell? ⟨w.heap.size,2,none⟩=some (yi L)∧wq.cell? ⟨w.heap.size,3,none⟩=some (yi G)∧wq.cell? ⟨w.heap.size,4,none⟩=some (.bool gr)∧wq.cell? ⟨w.heap.size,5,none⟩=some (yi sz)∧wq.cell? ⟨w.heap.size,6,none⟩=some (yi ex)∧wq.cell? ⟨w.heap.size,7,none⟩=some (yi fam)∧wq.cell? ⟨w.heap.size,8,none⟩=some (.func (.func F) #[] #[]))∧(wq.cell? ⟨w.heap.size+1,0,none⟩=some (.bool false)∧wq.cell? ⟨w.heap.size+1,1,none⟩=some (yi e)∧wq.cell? ⟨w.heap.size+1,2,none⟩=some (.int .u64 f))) (go_keep) (first
  | (go_at_call 154;refine(HFR'.out _).mono ?_;rintro z w4 ⟨rfl,b4⟩;have l4:=l3.l b4;have m4:=m3.l b4;have b04:=aa b3 b4;have r4:=r3d.l b4;obtain⟨y0,y1,y2,y3,y4,y5,y6,y7,y8⟩:=l4.cs9;obtain⟨v0,v1,v2⟩:=m4.cs3)
  | (go_at_call 193;refine(HS3.out _ r4).mono ?_;rintro z w5 ⟨rfl,r5,g5⟩;have l5:=l4.grown g5 hg0;have m5:=m4.grown g5 hg1;have b05:=b04.grown g5 b04.size (fun k h=>by cases h;exact hgl);obtain⟨t0,t1,t2,t3,t4,t5,t6,t7,t8⟩:=l5.cs9;obtain⟨s0,s1,s2⟩:=m5.cs3))
 go_wp2_with fail
 refine(HT'.out _ _ _ r5).mono ?_;rintro z w6 ⟨rfl,r6,g6⟩;have b06:=b05.grown g6 b05.size (fun k h=>by cases h;exact hgl)
 have hcv:=vi (cap:=sz) 205 9 underlying205 underlying5 underlying9 r6;rw[hts] at hcv
 go_wp2
 go_ret
 exact⟨rfl,b06⟩
theorem scaled_any (xg:Bool)(xn:Nat)(xo:Option Addr)(xc:Nat)(e n:Int)(w:World)(rx:Rd w .u32 (yT xo xn xc) (Dg.dg 4294967296 xn))(hx:xn<2^64)(e1: -16500≤e)(e2:e≤16500)(n1: -5100≤n)(n2:n≤5100):
  yC 97 #[ydV xg (yT xo xn xc) e,yi n] w (NbR w (scA xn e n/scB e n) (decide (0< (Dg.dg 4294967296 (scA xn e n % scB e n)).length))):=by
 obtain⟨a,ha⟩: ∃a,a=64:=⟨_,rfl⟩;obtain⟨c,hc⟩: ∃c,c=36964:=⟨_,rfl⟩;rw[←ha] at hx;obtain⟨l1,l2,l3⟩:=sc_in ha hc hx e2 n2;have hxl:(Dg.dg 4294967296 xn).length≤2:=jq hx (by omega);have htw:IntKind.i64.wrap (e+n)=e+n:=IntWalk.i64_in _ ⟨by omega,by omega⟩;have hmt:IntKind.i64.wrap (-(e+n))= -(e+n):=IntWalk.i64_in _ ⟨by omega,by omega⟩;have hmn:IntKind.i64.wrap (-n)= -n:=IntWalk.i64_in _ ⟨by omega,by omega⟩;have SH: ∀(m:Nat) (t:Int) o k w1,(Dg.dg 4294967296 m).length≤900000→0≤t→t≤900000→Rd w1 .u32 (yT o m k) (Dg.dg 4294967296 m)→yC 75 #[yT o m k,yi t] w1 (NmR w1 (m*2^t.toNat)):=fun m t o k w1 hl t0 t1 hr=>by
  have:=eO _ _ t w1 hr (Dg.small_dg _ _ (by omega)) (by omega) (by omega) (by omega);rw[Dg.vl_dg _ _ (by omega),CE m t t0] at this;exact this.mono fun _ _ h=>num_nmR h
 have OV: ∀(m d:Nat) o k o2 k2 w1,(Dg.dg 4294967296 m).length≤900000→d≠0→Rd w1 .u32 (yT o m k) (Dg.dg 4294967296 m)→Rd w1 .u32 (yT o2 d k2) (Dg.dg 4294967296 d)→yC 101 #[yT o m k,yT o2 d k2] w1 (TwR w1 (m/d) (m % d)):=fun m d o k o2 k2 w1 hl hd h1 h2=>by
  have:=A9 _ _ _ _ w1 h1 h2 (Dg.small_dg _ _ (by omega)) (Dg.small_dg _ _ (by omega)) (Dg.norm_dg _ _ (by omega)) (Dg.norm_dg _ _ (by omega)) (fun c=>hd ((Dg.dg_nil_iff 4294967296 _ (by omega)).1 c)) hl
  rw[Dg.vl_dg _ _ (by omega),Dg.vl_dg _ _ (by omega)] at this;exact this.mono fun _ _ h=>two_tw h
 have hone:Dg.dg 4294967296 1=[1]:=by decide
 have ln: ∀m,m<2^c→(Dg.dg 4294967296 m).length≤900000:=fun m h=>Nat.le_trans (jq (L:=1156) h (by omega)) (by omega)
 have p5: ∀k:Nat,5^k≠0:=fun k=>Nat.ne_of_gt (Nat.pow_pos (by omega))
 have p2: ∀k:Nat,2^k≠0:=fun k=>Nat.ne_of_gt (Nat.pow_pos (by omega))
 obtain⟨d,hd⟩: ∃d,d=15301:=⟨_,rfl⟩
 by_cases hn:0<n
 ·have HF:=fun w1=>fives_int n w1 (by omega) (by omega)
  have h5l:(Dg.dg 4294967296 (5^n.toNat)).length≤479:=jq (k:=d) (Nat.lt_of_le_of_lt (pow5_two _) (Nat.pow_lt_pow_right (by omega) (by omega))) (by omega);have HT: ∀xo xc fo fc w1,Rd w1 .u32 (yT xo xn xc) (Dg.dg 4294967296 xn)→Rd w1 .u32 (.slice fo (Dg.dg 4294967296 (5^n.toNat)).length fc) (Dg.dg 4294967296 (5^n.toNat))→yC 71 #[yT xo xn xc,.slice fo (Dg.dg 4294967296 (5^n.toNat)).length fc] w1 (NmR w1 (xn*5^n.toNat)):=fun xo xc fo fc w1 h1 h2=>by
   have:=qC _ _ _ _ w1 h1 h2 (Dg.small_dg _ _ (by omega)) (Dg.small_dg _ _ (by omega)) (by omega) (by omega);rw[Dg.vl_dg _ _ (by omega),Dg.vl_dg _ _ (by omega)] at this;exact this.mono fun _ _ h=>num_nmR h
  have hB5:(-n).toNat=0:=by omega
  by_cases ht:0<e+n
  ·have hB:scB e n=1:=by
    unfold scB;rw[hB5,show(-(e+n)).toNat=0 by omega]
   rw[hB];exact tscaled_uu xg xn xo xc e n _ _ _ (scA xn e n) _ _ w rx htw hn ht HF HT (fun mo mc w1 h=>SH _ _ mo mc w1 (ln _ l2) (by omega) (by omega) h) (fun no nc q w1 h hq=>by
    have:=OV _ 1 no nc (some ⟨q,0,none⟩) 1 w1 (ln _ l1) (by omega) h (by rw[hone];exact xD (hq.c 0 rfl));exact this)
  ·have hA:scA xn e n=xn*5^n.toNat:=by
    unfold scA;rw[show(e+n).toNat=0 by omega,Nat.pow_zero,Nat.mul_one]
   have hB:scB e n=2^ (-(e+n)).toNat:=by
    unfold scB;rw[hB5,Nat.pow_zero,Nat.one_mul]
   rw[hA,hB];exact tscaled_ud xg xn xo xc e n _ _ _ _ (2^ (-(e+n)).toNat) _ _ w rx htw hn ht hmt HF HT (fun q w1 hq=>by
    have:=SH 1 (-(e+n)) (some ⟨q,0,none⟩) 1 w1 (by rw[hone];simp) (by omega) (by omega) (by rw[hone];exact xD (hq.c 0 rfl));rw[Nat.one_mul] at this;exact this) (fun mo mc go gc w1 h1 h2=>OV _ _ mo mc go gc w1 (ln _ l2) (p2 _) h1 h2)
 ·have HF:=fun w1=>fives_int (-n) w1 (by omega) (by omega)
  have h5l:(Dg.dg 4294967296 (5^ (-n).toNat)).length≤479:=jq (k:=d) (Nat.lt_of_le_of_lt (pow5_two _) (Nat.pow_lt_pow_right (by omega) (by omega))) (by omega);have hA5:n.toNat=0:=by omega
  have hA:scA xn e n=xn*2^ (e+n).toNat:=by
   unfold scA;rw[hA5,Nat.pow_zero,Nat.mul_one]
  by_cases ht:0<e+n
  ·have hB:scB e n=5^ (-n).toNat:=by
    unfold scB;rw[show(-(e+n)).toNat=0 by omega,Nat.pow_zero,Nat.mul_one]
   rw[hA,hB];exact tscaled_du xg xn xo xc e n _ _ _ (xn*2^ (e+n).toNat) _ _ w rx htw hn ht hmn HF (fun mo mc w1 h=>SH _ _ mo mc w1 (by omega) (by omega) (by omega) h) (fun no nc fo fc w1 h1 h2=>OV _ _ no nc fo fc w1 (ln _ l3) (p5 _) h1 h2)
  ·have hA2:scA xn e n=xn:=by
    rw[hA,show(e+n).toNat=0 by omega,Nat.pow_zero,Nat.mul_one]
   have hB:scB e n=5^ (-n).toNat*2^ (-(e+n)).toNat:=rfl;rw[hA2];exact tscaled_dd xg xn xo xc e n _ _ _ _ (scB e n) _ _ w rx htw hn ht hmn hmt HF (fun fo fc w1 h=>SH _ _ fo fc w1 (by omega) (by omega) (by omega) h) (fun mo mc go gc w1 h1 h2=>OV _ _ mo mc go gc w1 (by omega) (Nat.mul_ne_zero (p5 _) (p2 _)) h1 h2)
end Go.Proofs.YtpgijbdgljkeeaaGreatDoor

/-
  Texts laid together: Co14, Co15, Co16.
-/
import Derived.Test.YtpainhklfoaniaaGreatDoorSc09
set_option maxRecDepth 100000
set_option maxHeartbeats 12800000
namespace Go.Proofs.YtpainhklfoaniaaGreatDoor
open _root_.Go.Proofs.Tryz
open Go.RowKit
theorem au.grown {w w':World}{b g:Nat}{ty:TypeId}{vs:List Value}(h:au w b ty vs)(hg:w.grownBy w' (some g))(hne:b≠g):au w' b ty vs:=
 (hg.block b h.lt (fun e=>hne (Option.some.inj e))).trans h
theorem acf (R D L G fam:Int)(gr:Bool)(sz ex fr:Nat)(F:Nat)(s:ByteArray)(ts:List Nat)(w:World)(hs:s.size=sz)(hlen:ts.length=sz)(hsm:Dg.Small 256 ts)(hfr:1+ex+fr=8*sz)(hex:ex≤15)(hsz:sz≤10)(hfr64:fr≤64)
  (HT: ∀g cap w1,ik w1 g (jr s)→yC F #[.slice (some ⟨g,0,none⟩) sz cap] w1 fun z w'=>z= .returned (.tuple #[])∧ik w' g ts∧w1.grownBy w' (some g))
  (HFR:yJ 130 #[ylV R D L G gr sz ex fam F] (yi fr))
  (HE: ∀args W,Sem.run Tryz.prog (callFunc F args) W= .ok (.enter F args) W):
  yC 95 #[ylV R D L G gr sz ex fam F,.string s] w (yR w (yfV (decide (eH ts 0 1=1)) ((eH ts 1 ex:Nat):Int) ((eH ts (1+ex) fr:Nat):Int))):=by
 have hsf:=cD;have l0:=(ah w (ylL R D L G gr sz ex fam F) 131).l (af _ (.cells (yfA false 0 0) 133));have m0:=ah (w.alloc (.cells (ylA R D L G gr sz ex fam F) 131)) (yfL false 0 0) 133;have b0:=aa (af w (.cells (ylA R D L G gr sz ex fam F) 131)) (af _ (.cells (yfA false 0 0) 133));rw[World.size_alloc] at m0;have H2:((w.alloc (.cells (ylA R D L G gr sz ex fam F) 131)).alloc (.cells (yfA false 0 0) 133)).heap.size=w.heap.size+2:=by rw[World.size_alloc,World.size_alloc]
 obtain⟨W1,cap,hrun,hrow,hbel⟩:=Uz (P:=Tryz.prog) ((w.alloc (.cells (ylA R D L G gr sz ex fam F) 131)).alloc (.cells (yfA false 0 0) 133)) 9 187 5 s underlying9 underlying187 underlying5;have l1:=l0.l hbel;have m1:=m0.l hbel;have b1:=aa b0 hbel;rw[H2] at hrun hrow;rw[hs] at hrun;obtain⟨g,hg⟩: ∃g,w.heap.size+2=g:=⟨_,rfl⟩;rw[hg] at hrun hrow;have x8:=l1.c 8 rfl;have HT':Hid _:=HT;have HFR':Hid _:=HFR;have HHg:Hid _:=hg;have HL:Hid (_∧_):=⟨hlen,hfr⟩;obtain⟨n0,hn0⟩: ∃n,eH ts 0 1=n:=⟨_,rfl⟩;obtain⟨n1,hn1⟩: ∃n,eH ts 1 ex=n:=⟨_,rfl⟩;obtain⟨n2,hn2⟩: ∃n,eH ts (1+ex) fr=n:=⟨_,rfl⟩;rw[hn0,hn1,hn2];have HN:Hid (_∧_∧_):=⟨hn0,hn1,hn2⟩;have hd0:((n0:Int)==1)=decide (n0=1):=by
  by_cases h:n0=1
  ·subst h;rfl
  ·rw[decide_eq_false h];simp;omega
 obtain⟨q0,hq0⟩: ∃q,decide (n0=1)=q:=⟨_,rfl⟩;rw[hq0] at hd0⊢;clear HT HFR hg hlen hfr hn0 hn1 hn2 hq0
 go_enter func95,ntmps95
 go_wp2_with fail
 refine(HT'.out _ _ _ hrow).mono ?_;rintro z w2 ⟨rfl,r2,g2⟩;have hgg:=HHg.out;have l2:=(l1.grown g2 (by omega)).drew;have m2:=(m1.grown g2 (by omega)).drew;have b2:=(b1.grown g2 b1.size (fun k h=>by cases h;omega)).drew
 have r2':=r2.drew;obtain⟨hlen,hfr⟩:=HL.out;have HB0:Hid (∀w1,ik w1 g ts→yC 129 #[.slice (some ⟨g,0,none⟩) sz cap,yi 0,yi 1] w1 fun z w'=>z= .returned (.int .u64 ((eH ts 0 1:Nat):Int))∧w1=w'):=fun w1 h=>by
  have:=Cr g cap ts 0 1 w1 h hsm (by omega) (by omega) (by omega);rw[hlen] at this;exact this.mono (fun _ _ h=>⟨h.1,h.2.symm⟩)
 have HB1:Hid (∀w1,ik w1 g ts→yC 129 #[.slice (some ⟨g,0,none⟩) sz cap,yi 1,yi ex] w1 fun z w'=>z= .returned (.int .u64 ((eH ts 1 ex:Nat):Int))∧w1=w'):=fun w1 h=>by
  have:=Cr g cap ts 1 ex w1 h hsm (by omega) (by omega) (by omega);rw[hlen] at this;exact this.mono (fun _ _ h=>⟨h.1,h.2.symm⟩)
 have HB2:Hid (∀w1,ik w1 g ts→yC 129 #[.slice (some ⟨g,0,none⟩) sz cap,yi (1+(ex:Int)),yi fr] w1 fun z w'=>z= .returned (.int .u64 ((eH ts (1+ex) fr:Nat):Int))∧w1=w'):=fun w1 h=>by
  have:=Cr g cap ts (1+ex) fr w1 h hsm (by omega) (by omega) (by omega);rw[hlen,show(((1+ex:Nat):Nat):Int)=1+(ex:Int) from by omega] at this
  exact this.mono (fun _ _ h=>⟨h.1,h.2.symm⟩)
 have h1l:=gh ts 1 ex;have h1p:(2:Nat)^ex≤2^15:=Nat.pow_le_pow_right (by omega) hex;obtain⟨hn0,hn1,hn2⟩:=HN.out;rw[hn0] at HB0;rw[hn1] at HB1 h1l;rw[hn2] at HB2;have hn1b:n1<32768:=by omega
 clear hn0 hn1 hn2 h1l h1p hlen hfr l0 l1 m0 m1 b0 b1 r2 hrow hrun hbel x8 H2 hgg;have hexI:(ex:Int)≤15:=by omega
 have hwr:IntKind.i64.wrap (1+(ex:Int))=1+(ex:Int):=IntWalk.i64_in _ ⟨by omega,by omega⟩;have hwn:IntKind.i64.wrap (n1:Int)=(n1:Int):=IntWalk.i64_in _ ⟨by omega,by omega⟩;obtain⟨x0,x1,x2,x3,x4,x5,x6,x7,x8⟩:=l2.cs9
 go_wp2_with fail
 go_region_held3 (fun wq=>wq.cell? ⟨w.heap.size,0,none⟩=some (yi R)∧wq.cell? ⟨w.heap.size,1,none⟩=some (yi D)∧wq.cell? ⟨w.heap.size,2,none⟩=some (yi L)∧wq.cell? ⟨w.heap.size,3,none⟩=some (yi G)∧wq.cell? ⟨w.heap.size,4,none⟩=some (.bool gr)∧wq.cell? ⟨w.heap.size,5,none⟩=some (yi sz)∧wq.cell? ⟨w.heap.size,6,none⟩=some (yi ex)∧wq.cell? ⟨w.heap.size,7,none⟩=some (yi fam)∧wq.cell? ⟨w.heap.size,8,none⟩=some (.func (.func F) #[] #[])) (go_keep) (first
  | (go_at_call 130;refine(HFR'.out _).mono ?_;rintro z w5 ⟨rfl,b5⟩;have l5:=l2.l b5;have m5:=m2.l b5;have b05:=aa b2 b5;have r5:=r2'.l b5;obtain⟨y0,y1,y2,y3,y4,y5,y6,y7,y8⟩:=l5.cs9;obtain⟨u0,u1,u2⟩:=m5.cs3;have f0:=m5.f 0;have f1:=m5.f 1;have f2:=m5.f 2)
  | (go_at_call 129;(with_reducible (refine(HB0.out _ (by assumption)).mono ?_));rintro z wv ⟨rfl,rfl⟩)
  | (go_at_call 129;(with_reducible (refine(HB1.out _ (by assumption)).mono ?_));rintro z wv ⟨rfl,rfl⟩)
  | (go_at_call 129;(with_reducible (refine(HB2.out _ (by assumption)).mono ?_));rintro z wv ⟨rfl,rfl⟩))
 have cR:au (((w5.setCell ⟨w.heap.size+1,0,none⟩ (.bool q0)).setCell ⟨w.heap.size+1,1,none⟩ (yi (n1:Int))).setCell ⟨w.heap.size+1,2,none⟩ (.int .u64 (n2:Int))) (w.heap.size+1) 133 (yfL q0 (n1:Int) (n2:Int)):=((m5.set 0 (.bool q0)).set 1 (yi (n1:Int))).set 2 (.int .u64 (n2:Int));have bR:=(((ag w5 (w.heap.size+1) 0 (.bool q0)).trans (ag _ (w.heap.size+1) 1 (yi (n1:Int)))).trans (ag _ (w.heap.size+1) 2 (.int .u64 (n2:Int)))).below b05 (by omega);have hl:=run_loadVar_mid (P:=Tryz.prog) _ (w.heap.size+1) 0 133 (yfL q0 (n1:Int) (n2:Int)) _ cR.range underlying133 rfl (by kernel_rfl);have HH:Hid (_∧_):=⟨hl,bR⟩;clear hl bR cR l2 m2 b2 l5 m5 b05
 go_wp2
 obtain⟨hl,bR⟩:=HH.out;exact bodyPost_ret (br results95 rfl hl) rfl ⟨rfl,bR⟩
def wG (k:Nat)(s:ByteArray):List Nat:=jT k (jr s)
def aZ (k:Nat)(s:ByteArray):Bool:=decide (eH (wG k s) 0 1=1)
def aR (k:Nat)(s:ByteArray):Nat:=eH (wG k s) 1 (exN k)
def aU (k:Nat)(s:ByteArray):Nat:=eH (wG k s) (1+exN k) (frN k)
theorem fZ {k:Nat}(hk:1≤k∧k≤8):1+exN k+frN k=8*szN k∧exN k≤15∧szN k≤10∧frN k≤64∧(∃m,szN k=2*m)∧7≤exN k:=by
 rcases bO hk with rfl|rfl|rfl|rfl|rfl|rfl|rfl|rfl
 ·exact⟨by decide,by decide,by decide,by decide,⟨2,rfl⟩,by decide⟩
 ·exact⟨by decide,by decide,by decide,by decide,⟨4,rfl⟩,by decide⟩
 ·exact⟨by decide,by decide,by decide,by decide,⟨5,rfl⟩,by decide⟩
 ·exact⟨by decide,by decide,by decide,by decide,⟨2,rfl⟩,by decide⟩
 ·exact⟨by decide,by decide,by decide,by decide,⟨4,rfl⟩,by decide⟩
 ·exact⟨by decide,by decide,by decide,by decide,⟨2,rfl⟩,by decide⟩
 ·exact⟨by decide,by decide,by decide,by decide,⟨4,rfl⟩,by decide⟩
 ·exact⟨by decide,by decide,by decide,by decide,⟨4,rfl⟩,by decide⟩
theorem VY (k:Nat)(hk:1≤k∧k≤8)(s:ByteArray)(w:World)(hs:s.size=szN k):
  yC 95 #[.agg (tS k).toArray,.string s] w (yR w (yfV (aZ k s) ((aR k s:Nat):Int) ((aU k s:Nat):Int))):=by
 obtain⟨h1,h2,h3,h4,h5,-⟩:=fZ hk;have hb:=oV s;have HT: ∀g cap w1,ik w1 g (jr s)→yC (C9 k) #[.slice (some ⟨g,0,none⟩) (szN k) cap] w1 fun z w'=>z= .returned (.tuple #[])∧ik w' g (wG k s)∧w1.grownBy w' (some g):=fun g cap w1 h=>by
  have:=IV k g cap (jr s) w1 h (by omega) (by rw[hb,hs];exact h5);rw[hb,hs] at this;exact this
 have HF:=fun w1=>tm k hk w1
 have hl:(wG k s).length=szN k:=by rw[wG,nM,hb,hs]
 have hm:=xi k _ (zU s);have HE:=fun args W=>Db k args W
 unfold aZ aR aU
 rcases bO hk with rfl|rfl|rfl|rfl|rfl|rfl|rfl|rfl
 all_goals exact acf _ _ _ _ _ _ _ _ _ _ s _ w hs hl hm h1 h2 h3 h4 HT HF HE
theorem S5 {k:Nat}(s:ByteArray):aR k s<2^exN k:=gh _ _ _
theorem GM {k:Nat}(hk:1≤k∧k≤8)(s:ByteArray):aR k s<65536:=by
 have h1:=S5 (k:=k) s;have h2:(2:Nat)^exN k≤2^15:=Nat.pow_le_pow_right (by omega) (fZ hk).2.1;omega
theorem S6 {k:Nat}(s:ByteArray):aU k s<2^frN k:=gh _ _ _
theorem vW {k:Nat}(hk:1≤k∧k≤8)(s:ByteArray):aU k s<18446744073709551616:=by
 have h1:=S6 (k:=k) s;have h2:(2:Nat)^frN k≤2^64:=Nat.pow_le_pow_right (by omega) (fZ hk).2.2.2.1;omega
theorem Nq (x:Nat):Dg.vl 4294967296 [x % 4294967296,x/4294967296]=x:=by
 simp only[Dg.vl];omega
theorem KH (x:Nat)(hx:x<18446744073709551616)(w:World):
  yC 53 #[.int .u64 x] w fun z w'=> ∃v,z= .returned v∧Own w' w.heap.size 108 .u32 v (Dg.dg 4294967296 x)∧yB w w':=by
 have hlo:(x:Int) % 4294967296=((x % 4294967296:Nat):Int):=by omega
 have hhi:(x:Int)/4294967296=((x/4294967296:Nat):Int):=by omega
 have hx2:x/4294967296<4294967296:=by omega
 have hx1:x % 4294967296<4294967296:=Nat.mod_lt _ (by omega);have hd:=Nq x;obtain⟨lo,elo⟩: ∃n,x % 4294967296=n:=⟨_,rfl⟩;obtain⟨hi,ehi⟩: ∃n,x/4294967296=n:=⟨_,rfl⟩;rw[elo] at hlo hd hx1;rw[ehi] at hhi hd hx2;have own:Own (w.alloc (.cells #[.int .u32 (lo:Int),.int .u32 (hi:Int)] 108)) w.heap.size 108 .u32 (.slice (some ⟨w.heap.size,0,none⟩) 2 2) [lo,hi]:=
  pr (zs:=[lo,hi]) (heap_alloc_new _ _) (Nat.le_refl _) (by unfold maxLen;simp)
 have htr:=jD (some ⟨w.heap.size,0,none⟩) 2 2 [lo,hi] _ own.rd;have hsm:Dg.Small 4294967296 [lo,hi]:=by
  intro i
  match i with
  |0=>exact hx1
  |1=>exact hx2
  |i+2=>simp
 have b0:=af w (.cells #[.int .u32 (lo:Int),.int .u32 (hi:Int)] 108);have HH:Hid (_∧_):=⟨hd,hsm⟩;have hxI:(x:Int)<18446744073709551616:=by omega
 clear elo ehi hd hsm
 go_enter func53,ntmps53
 go_wp2_with fail
 refine htr.mono ?_;rintro z w1 ⟨n,rfl,ht,rfl⟩
 go_wp2
 go_ret
 obtain⟨hd,hsm⟩:=HH.out;refine⟨_,rfl, ?_,b0⟩;have:=Dg.trim_eq 4294967296 (by omega) [lo,hi] n hsm ht.1 ht.2.1 ht.2.2;rw[hd] at this;rw[←this];exact own.take n ht.1
def lJ (r:Nat):Nat→Nat→Int→Nat×Int
 |0,d,p=>(d,p)
 |n+1,d,p=>if d % r=0 then lJ r n (d/r) (p+1) else(d,p)
def iT (w:World)(c:Int)(ng:Bool)(m:Nat)(p:Int)(z:Ending)(w':World):Prop:=
 ∃v,z= .returned (yvV c ng v p)∧Rd w' .u32 v (Dg.dg 4294967296 m)∧yB w w'
theorem We (R sz ex:Nat)(D L G fam:Int)(gr:Bool)(F:Nat)(ng:Bool)(e f d:Nat)(p:Int)(w:World)(hR:2≤R)(hR2:R≤16)(hd0:0<d)(hd:d<18446744073709551616)(hp1: -100000≤p)(hp2:p≤100000)
  (HC:yJ 94 #[ylV R D L G gr sz ex fam F,yfV ng e f] (yi 2))
  (HP:yJ 96 #[ylV R D L G gr sz ex fam F,yfV ng e f] (.tuple #[.int .u64 d,yi p])):
  yC 69 #[ylV R D L G gr sz ex fam F,yfV ng e f] w (iT w 2 ng (lJ R 64 d p).1 (lJ R 64 d p).2):=by
 have hsf:=cD;have bl:=af w (.cells (ylA R D L G gr sz ex fam F) 131);have bf:=af (w.alloc (.cells (ylA R D L G gr sz ex fam F) 131)) (.cells (yfA ng e f) 133);have bz:=af ((w.alloc (.cells (ylA R D L G gr sz ex fam F) 131)).alloc (.cells (yfA ng e f) 133)) (.cells (yvA 0 false yN 0) 77);have l0:=((ah w (ylL R D L G gr sz ex fam F) 131).l bf).l bz;have m0:=(ah (w.alloc (.cells (ylA R D L G gr sz ex fam F) 131)) (yfL ng e f) 133).l bz;have v0:=ah ((w.alloc (.cells (ylA R D L G gr sz ex fam F) 131)).alloc (.cells (yfA ng e f) 133)) (yvL 0 false yN 0) 77;have b0:=aa (aa bl bf) bz;rw[World.size_alloc] at m0;rw[World.size_alloc,World.size_alloc] at v0;clear bl bf bz;have HC':Hid _:=HC;have HP':Hid _:=HP;obtain⟨m,hm⟩: ∃m,(lJ R 64 d p).1=m:=⟨_,rfl⟩;obtain⟨pw,hpw⟩: ∃m,(lJ R 64 d p).2=m:=⟨_,rfl⟩;have HS:Hid (lJ R 64 d p=(m,pw)):=Prod.ext hm hpw;rw[hm,hpw];clear hm hpw HC HP
 go_enter func69,ntmps69
 go_wp2_with fail
 refine(HC'.out _).mono ?_;rintro z w1 ⟨rfl,b1⟩;have bq:=af w1 (.cells (yvA 2 false yN 0) 77);have l1:=(l0.l b1).l bq;have m1:=(m0.l b1).l bq;have v1:=(v0.l b1).l bq;have q1:=ah w1 (yvL 2 false yN 0) 77;have b01:=aa (aa b0 b1) bq;have hq3:w.heap.size+3≤w1.heap.size:=(v0.l b1).lt;obtain⟨x0,x1,x2,x3,x4,x5,x6,x7,x8⟩:=l1.cs9;obtain⟨y0,y1,y2⟩:=m1.cs3;clear l0 m0 v0 b0 b1 bq
 go_wp2_with fail
 refine(HP'.out _).mono ?_;rintro z w2 ⟨rfl,b2⟩;have l2:=l1.l b2;have m2:=m1.l b2;have v2:=v1.l b2;have q2:=q1.l b2;have b02:=aa b01 b2;clear l1 m1 v1 q1 b01 b2 x0 x1 x2 x3 x4 x5 x6 x7 x8 y0 y1 y2;generalize w1.heap.size=q at*;have x0:=l2.c 0 rfl;have hwR:IntKind.u64.wrap R=(R:Int):=IntWalk.u64_in _ ⟨by omega,by omega⟩;have hRn:((R:Int) != 0)=true:=by rw[bne_iff_ne];omega
 go_wp2
 go_loop [6,7] (fun dv pv=> ∃(n y:Nat) (r:Int),Hid (lJ R n y r=(m,pw)∧y<2^n)∧n≤64∧0<y∧y<18446744073709551616∧r+n≤p+64∧p≤r∧dv= .int .u64 y∧pv=yi r) (fun dv _=>(intOf dv).toNat)
 case atStart=>exact⟨64,d,p,⟨HS.out,hd⟩,by omega,hd0,hd,by omega,by omega,rfl,rfl⟩
 case round=>
  obtain⟨n,y,r,HY,hn,hy0,hy,hr1,hr2,rfl,rfl⟩:=hrel;obtain⟨t,ht⟩: ∃t,y % R=t:=⟨_,rfl⟩;obtain⟨u,hu⟩: ∃u,y/R=u:=⟨_,rfl⟩;have htI:(y:Int) % (R:Int)=(t:Int):=by rw[←ht];exact(Int.natCast_emod y R).symm
  have huI:(y:Int)/(R:Int)=(u:Int):=by rw[←hu];exact(Int.natCast_ediv y R).symm
  by_cases ht0:t=0
  ·subst ht0
   have hul:u<y:=by rw[←hu];exact Nat.div_lt_self hy0 hR
   have hu0:0<u:=by
    rw[←hu];exact Nat.div_pos (Nat.le_of_dvd hy0 (Nat.dvd_of_mod_eq_zero ht)) (by omega)
   have HH:Hid (_∧_):=⟨ht,hu⟩;clear ht hu
   go_wp2
   obtain⟨ht,hu⟩:=HH.out;obtain⟨hs1,hs2⟩:=HY.out;obtain⟨n',rfl⟩: ∃n',n=n'+1:=by
    cases n with
    |zero=>simp at hs2;omega
    |succ n'=>exact⟨n',rfl⟩
   rw[lJ,if_pos ht,hu] at hs1;refine⟨⟨n',u,r+1,⟨hs1, ?_⟩,by omega,hu0,by omega,by omega,by omega,rfl,rfl⟩, ?_⟩
   ·rw[Nat.pow_succ] at hs2
    have h2:y/R≤y/2:=Nat.div_le_div_left hR (by omega);omega
   ·simp only[intOf]
    omega
  ·have ht1:((t:Int)==0)=false:=by simp;omega
   have HH:Hid (_∧_):=⟨ht,hu⟩;obtain⟨hs1,hs2⟩:=HY.out;obtain⟨n',rfl⟩: ∃n',n=n'+1:=by
    cases n with
    |zero=>simp at hs2;omega
    |succ n'=>exact⟨n',rfl⟩
   rw[lJ,if_neg (by omega),Prod.mk.injEq] at hs1;obtain⟨rfl,rfl⟩:=hs1;clear ht hu huI hs2 HY HH HS;obtain⟨y0,y1,y2⟩:=m2.cs3;obtain⟨u0,u1,u2,u3⟩:=q2.cs4;have k1:=q2.f 1;have k2:=q2.f 2;have k3:=q2.f 3;have q2d:=q2.drew;have q2a:=q2d.set 1 (.bool ng);have q2b:=q2d.set 3 (yi r);have q2ab:=q2a.set 3 (yi r);have q2ba:=q2b.set 1 (.bool ng);have hne:q≠w.heap.size+1:=by omega
   have hnv:q≠w.heap.size+1+1:=by omega
   have m2d:=m2.drew;have m2a:=m2d.off hne 1 (.bool ng);have m2b:=m2d.off hne 3 (yi r);have m2ab:=m2a.off hne 3 (yi r);have m2ba:=m2b.off hne 1 (.bool ng);have v2d:=v2.drew;have v2a:=v2d.off hnv 1 (.bool ng);have v2b:=v2d.off hnv 3 (yi r);have v2ab:=v2a.off hnv 3 (yi r);have v2ba:=v2b.off hnv 1 (.bool ng);have hbq:w.heap.size≤q:=by omega
   have b2d:=b02.drew;have b2a:=(ag _ q 1 (.bool ng)).below b2d hbq;have b2b:=(ag _ q 3 (yi r)).below b2d hbq;have b2ab:=(ag _ q 3 (yi r)).below b2a hbq;have b2ba:=(ag _ q 1 (.bool ng)).below b2b hbq;have HFW:Hid (∀w1,yC 53 #[.int .u64 y] w1 fun z w'=> ∃v,z= .returned v∧Own w' w1.heap.size 108 .u32 v (Dg.dg 4294967296 y)∧yB w1 w'):=fun w1=>KH y hy w1
   go_wp2_with fail
   go_region_held3 (fun wq=>wq.cell? ⟨w.heap.size+1,0,none⟩=some (.bool ng)∧wq.cell? ⟨w.heap.size+1,1,none⟩=some (yi e)∧wq.cell? ⟨w.heap.size+1,2,none⟩=some (.int .u64 f)) (go_keep) (first
    | (go_at_call 53;refine(HFW.out _).mono ?_;rintro z w3 ⟨v,rfl,own3,b3⟩;obtain⟨so,sc,hvs⟩:=own3.rd.shape;subst hvs;(first| (have q3:=q2d.l b3;have m3:=m2d.l b3;have v3:=v2d.l b3;have b03:=aa b2d b3)| (have q3:=q2a.l b3;have m3:=m2a.l b3;have v3:=v2a.l b3;have b03:=aa b2a b3)| (have q3:=q2b.l b3;have m3:=m2b.l b3;have v3:=v2b.l b3;have b03:=aa b2b b3)| (have q3:=q2ab.l b3;have m3:=m2ab.l b3;have v3:=v2ab.l b3;have b03:=aa b2ab b3)| (have q3:=q2ba.l b3;have m3:=m2ba.l b3;have v3:=v2ba.l b3;have b03:=aa b2ba b3));obtain⟨t0,t1,t2⟩:=m3.cs3;obtain⟨s0,s1,s2,s3⟩:=q3.cs4;have j1:=q3.f 1;have j2:=q3.f 2;have j3:=q3.f 3))
   have bu4:=((ag w3 q 1 (.bool ng)).trans (ag _ q 2 (yT so y sc))).trans (ag _ q 3 (yi r));have q4:au (((w3.setCell ⟨q,1,none⟩ (.bool ng)).setCell ⟨q,2,none⟩ (yT so y sc)).setCell ⟨q,3,none⟩ (yi r)) q 77 (yvL 2 ng (yT so y sc) r):=((q3.set 1 (.bool ng)).set 2 (yT so y sc)).set 3 (yi r);have v4:=((v3.off hnv 1 (.bool ng)).off hnv 2 (yT so y sc)).off hnv 3 (yi r);have b04:=bu4.below b03 hbq;have own4:=(bu4.own own3 q3 (by decide)).rd;have ov4:=cq own4 (Dg.norm_dg _ _ (by omega)) v4 (fun x hx n hn=>by simp at hx;rcases hx with rfl|rfl|rfl|rfl<;>simp)
   generalize(((w3.setCell ⟨q,1,none⟩ (.bool ng)).setCell ⟨q,2,none⟩ (yT so y sc)).setCell ⟨q,3,none⟩ (yi r))=w4 at*;clear b3 q3 m3 v3 own3 bu4 t0 t1 t2 s0 s1 s2 s3 j1 j2 j3 u0 u1 u2 u3 k1 k2 k3 y0 y1 y2 x0 q2d q2a q2b q2ab q2ba m2d m2a m2b m2ab m2ba v2d v2a v2b v2ab v2ba b2d b2a b2b b2ab b2ba q2 m2 v2 l2 b02 b03;obtain⟨s0,s1,s2,s3⟩:=q4.cs4;obtain⟨t0,t1,t2,t3⟩:=v4.cs4;have j0:=v4.f 0;have j1:=v4.f 1;have j2:=v4.f 2;have j3:=v4.f 3;have bu5:=(((ag w4 (w.heap.size+1+1) 0 (yi 2)).trans (ag _ (w.heap.size+1+1) 1 (.bool ng))).trans (ag _ (w.heap.size+1+1) 2 (yT so y sc))).trans (ag _ (w.heap.size+1+1) 3 (yi r));have cR:au ((((w4.setCell ⟨w.heap.size+1+1,0,none⟩ (yi 2)).setCell ⟨w.heap.size+1+1,1,none⟩ (.bool ng)).setCell ⟨w.heap.size+1+1,2,none⟩ (yT so y sc)).setCell ⟨w.heap.size+1+1,3,none⟩ (yi r)) (w.heap.size+1+1) 77 (yvL 2 ng (yT so y sc) r):=(((v4.set 0 (yi 2)).set 1 (.bool ng)).set 2 (yT so y sc)).set 3 (yi r);have bR:=bu5.below b04 (by omega);have rR:=bu5.rd own4 ov4;have hl:=run_loadVar_mid (P:=Tryz.prog) _ (w.heap.size+1+1) 0 77 (yvL 2 ng (yT so y sc) r) _ cR.range underlying77 rfl (by kernel_rfl);have HH:Hid (_∧_∧_):=⟨hl,rR,bR⟩;clear hl rR bR cR bu5 own4 ov4 b04 q4 v4
   go_wp2
   obtain⟨hl,rR,bR⟩:=HH.out;exact bodyPost_ret (br results69 rfl hl) rfl ⟨_,rfl,rR,bR⟩
theorem aab (R sz ex:Nat)(D L G fam:Int)(gr:Bool)(F:Nat)(ng:Bool)(e f:Nat)(w:World)
  (HC:yJ 94 #[ylV R D L G gr sz ex fam F,yfV ng e f] (yi 1)):
  yC 69 #[ylV R D L G gr sz ex fam F,yfV ng e f] w (iT w 1 ng 0 0):=by
 have hsf:=cD;have bl:=af w (.cells (ylA R D L G gr sz ex fam F) 131);have bf:=af (w.alloc (.cells (ylA R D L G gr sz ex fam F) 131)) (.cells (yfA ng e f) 133);have bz:=af ((w.alloc (.cells (ylA R D L G gr sz ex fam F) 131)).alloc (.cells (yfA ng e f) 133)) (.cells (yvA 0 false yN 0) 77);have l0:=((ah w (ylL R D L G gr sz ex fam F) 131).l bf).l bz;have m0:=(ah (w.alloc (.cells (ylA R D L G gr sz ex fam F) 131)) (yfL ng e f) 133).l bz;have v0:=ah ((w.alloc (.cells (ylA R D L G gr sz ex fam F) 131)).alloc (.cells (yfA ng e f) 133)) (yvL 0 false yN 0) 77;have b0:=aa (aa bl bf) bz;rw[World.size_alloc] at m0;rw[World.size_alloc,World.size_alloc] at v0;clear bl bf bz;have HC':Hid _:=HC;clear HC
 go_enter func69,ntmps69
 go_wp2_with fail
 refine(HC'.out _).mono ?_;rintro z w1 ⟨rfl,b1⟩;have bq:=af w1 (.cells (yvA 1 ng yN 0) 77);have m1:=(m0.l b1).l bq;have v1:=(v0.l b1).l bq;have q1:=ah w1 (yvL 1 ng yN 0) 77;have b01:=aa (aa b0 b1) bq;have hq3:w.heap.size+3≤w1.heap.size:=(v0.l b1).lt;have y0:=((m0.l b1).l (af w1 (.cells (yvA 1 false yN 0) 77))).c 0 rfl;obtain⟨z0,z1,z2,z3⟩:=v1.cs4;have j0:=v1.f 0;have j1:=v1.f 1;have j2:=v1.f 2;have j3:=v1.f 3;obtain⟨s0,s1,s2,s3⟩:=q1.cs4;have hne:w1.heap.size≠w.heap.size+1+1:=by omega
 have bu5:=(((ag (w1.alloc (.cells (yvA 1 ng yN 0) 77)) (w.heap.size+1+1) 0 (yi 1)).trans (ag _ (w.heap.size+1+1) 1 (.bool ng))).trans (ag _ (w.heap.size+1+1) 2 yN)).trans (ag _ (w.heap.size+1+1) 3 (yi 0));have cR:au (((((w1.alloc (.cells (yvA 1 ng yN 0) 77)).setCell ⟨w.heap.size+1+1,0,none⟩ (yi 1)).setCell ⟨w.heap.size+1+1,1,none⟩ (.bool ng)).setCell ⟨w.heap.size+1+1,2,none⟩ yN).setCell ⟨w.heap.size+1+1,3,none⟩ (yi 0)) (w.heap.size+1+1) 77 (yvL 1 ng yN 0):=(((v1.set 0 (yi 1)).set 1 (.bool ng)).set 2 yN).set 3 (yi 0);have bR:=bu5.below b01 (by omega);have hl:=run_loadVar_mid (P:=Tryz.prog) _ (w.heap.size+1+1) 0 77 (yvL 1 ng yN 0) _ cR.range underlying77 rfl (by kernel_rfl);have HH:Hid (_∧_):=⟨hl,bR⟩;clear hl bR cR bu5 b01 q1 v1 m1 l0 m0 v0 b0 b1 bq
 go_wp2
 obtain⟨hl,bR⟩:=HH.out;exact bodyPost_ret (br results69 rfl hl) rfl ⟨_,rfl,aN _ _,bR⟩
theorem aac (R sz ex:Nat)(D L G fam:Int)(gr:Bool)(F:Nat)(ng:Bool)(e f:Nat)(w:World)
  (HC:yJ 94 #[ylV R D L G gr sz ex fam F,yfV ng e f] (yi 3)):
  yC 69 #[ylV R D L G gr sz ex fam F,yfV ng e f] w (iT w 3 ng 0 0):=by
 have hsf:=cD;have bl:=af w (.cells (ylA R D L G gr sz ex fam F) 131);have bf:=af (w.alloc (.cells (ylA R D L G gr sz ex fam F) 131)) (.cells (yfA ng e f) 133);have bz:=af ((w.alloc (.cells (ylA R D L G gr sz ex fam F) 131)).alloc (.cells (yfA ng e f) 133)) (.cells (yvA 0 false yN 0) 77);have l0:=((ah w (ylL R D L G gr sz ex fam F) 131).l bf).l bz;have m0:=(ah (w.alloc (.cells (ylA R D L G gr sz ex fam F) 131)) (yfL ng e f) 133).l bz;have v0:=ah ((w.alloc (.cells (ylA R D L G gr sz ex fam F) 131)).alloc (.cells (yfA ng e f) 133)) (yvL 0 false yN 0) 77;have b0:=aa (aa bl bf) bz;rw[World.size_alloc] at m0;rw[World.size_alloc,World.size_alloc] at v0;clear bl bf bz;have HC':Hid _:=HC;clear HC
 go_enter func69,ntmps69
 go_wp2_with fail
 refine(HC'.out _).mono ?_;rintro z w1 ⟨rfl,b1⟩;have bq:=af w1 (.cells (yvA 3 ng yN 0) 77);have m1:=(m0.l b1).l bq;have v1:=(v0.l b1).l bq;have q1:=ah w1 (yvL 3 ng yN 0) 77;have b01:=aa (aa b0 b1) bq;have hq3:w.heap.size+3≤w1.heap.size:=(v0.l b1).lt;have y0:=((m0.l b1).l (af w1 (.cells (yvA 3 false yN 0) 77))).c 0 rfl;obtain⟨z0,z1,z2,z3⟩:=v1.cs4;have j0:=v1.f 0;have j1:=v1.f 1;have j2:=v1.f 2;have j3:=v1.f 3;obtain⟨s0,s1,s2,s3⟩:=q1.cs4;have hne:w1.heap.size≠w.heap.size+1+1:=by omega
 have bu5:=(((ag (w1.alloc (.cells (yvA 3 ng yN 0) 77)) (w.heap.size+1+1) 0 (yi 3)).trans (ag _ (w.heap.size+1+1) 1 (.bool ng))).trans (ag _ (w.heap.size+1+1) 2 yN)).trans (ag _ (w.heap.size+1+1) 3 (yi 0));have cR:au (((((w1.alloc (.cells (yvA 3 ng yN 0) 77)).setCell ⟨w.heap.size+1+1,0,none⟩ (yi 3)).setCell ⟨w.heap.size+1+1,1,none⟩ (.bool ng)).setCell ⟨w.heap.size+1+1,2,none⟩ yN).setCell ⟨w.heap.size+1+1,3,none⟩ (yi 0)) (w.heap.size+1+1) 77 (yvL 3 ng yN 0):=(((v1.set 0 (yi 3)).set 1 (.bool ng)).set 2 yN).set 3 (yi 0);have bR:=bu5.below b01 (by omega);have hl:=run_loadVar_mid (P:=Tryz.prog) _ (w.heap.size+1+1) 0 77 (yvL 3 ng yN 0) _ cR.range underlying77 rfl (by kernel_rfl);have HH:Hid (_∧_):=⟨hl,bR⟩;clear hl bR cR bu5 b01 q1 v1 m1 l0 m0 v0 b0 b1 bq
 go_wp2
 obtain⟨hl,bR⟩:=HH.out;exact bodyPost_ret (br results69 rfl hl) rfl ⟨_,rfl,aN _ _,bR⟩
theorem aad (R sz ex:Nat)(D L G fam:Int)(gr:Bool)(F:Nat)(ng:Bool)(e f:Nat)(w:World)
  (HC:yJ 94 #[ylV R D L G gr sz ex fam F,yfV ng e f] (yi 4)):
  yC 69 #[ylV R D L G gr sz ex fam F,yfV ng e f] w (iT w 4 false 0 0):=by
 have hsf:=cD;have bl:=af w (.cells (ylA R D L G gr sz ex fam F) 131);have bf:=af (w.alloc (.cells (ylA R D L G gr sz ex fam F) 131)) (.cells (yfA ng e f) 133);have bz:=af ((w.alloc (.cells (ylA R D L G gr sz ex fam F) 131)).alloc (.cells (yfA ng e f) 133)) (.cells (yvA 0 false yN 0) 77);have l0:=((ah w (ylL R D L G gr sz ex fam F) 131).l bf).l bz;have m0:=(ah (w.alloc (.cells (ylA R D L G gr sz ex fam F) 131)) (yfL ng e f) 133).l bz;have v0:=ah ((w.alloc (.cells (ylA R D L G gr sz ex fam F) 131)).alloc (.cells (yfA ng e f) 133)) (yvL 0 false yN 0) 77;have b0:=aa (aa bl bf) bz;rw[World.size_alloc] at m0;rw[World.size_alloc,World.size_alloc] at v0;clear bl bf bz;have HC':Hid _:=HC;clear HC
 go_enter func69,ntmps69
 go_wp2_with fail
 refine(HC'.out _).mono ?_;rintro z w1 ⟨rfl,b1⟩;have bq:=af w1 (.cells (yvA 4 false yN 0) 77);have m1:=(m0.l b1).l bq;have v1:=(v0.l b1).l bq;have q1:=ah w1 (yvL 4 false yN 0) 77;have b01:=aa (aa b0 b1) bq;have hq3:w.heap.size+3≤w1.heap.size:=(v0.l b1).lt;have y0:=((m0.l b1).l (af w1 (.cells (yvA 4 false yN 0) 77))).c 0 rfl;obtain⟨z0,z1,z2,z3⟩:=v1.cs4;have j0:=v1.f 0;have j1:=v1.f 1;have j2:=v1.f 2;have j3:=v1.f 3;obtain⟨s0,s1,s2,s3⟩:=q1.cs4;have hne:w1.heap.size≠w.heap.size+1+1:=by omega
 have bu5:=(((ag (w1.alloc (.cells (yvA 4 false yN 0) 77)) (w.heap.size+1+1) 0 (yi 4)).trans (ag _ (w.heap.size+1+1) 1 (.bool false))).trans (ag _ (w.heap.size+1+1) 2 yN)).trans (ag _ (w.heap.size+1+1) 3 (yi 0));have cR:au (((((w1.alloc (.cells (yvA 4 false yN 0) 77)).setCell ⟨w.heap.size+1+1,0,none⟩ (yi 4)).setCell ⟨w.heap.size+1+1,1,none⟩ (.bool false)).setCell ⟨w.heap.size+1+1,2,none⟩ yN).setCell ⟨w.heap.size+1+1,3,none⟩ (yi 0)) (w.heap.size+1+1) 77 (yvL 4 false yN 0):=(((v1.set 0 (yi 4)).set 1 (.bool false)).set 2 yN).set 3 (yi 0);have bR:=bu5.below b01 (by omega);have hl:=run_loadVar_mid (P:=Tryz.prog) _ (w.heap.size+1+1) 0 77 (yvL 4 false yN 0) _ cR.range underlying77 rfl (by kernel_rfl);have HH:Hid (_∧_):=⟨hl,bR⟩;clear hl bR cR bu5 b01 q1 v1 m1 l0 m0 v0 b0 b1 bq
 go_wp2
 obtain⟨hl,bR⟩:=HH.out;exact bodyPost_ret (br results69 rfl hl) rfl ⟨_,rfl,aN _ _,bR⟩
theorem aae (R sz ex:Nat)(D L G fam:Int)(gr:Bool)(F:Nat)(ng:Bool)(e f:Nat)(w:World)
  (HC:yJ 94 #[ylV R D L G gr sz ex fam F,yfV ng e f] (yi 5)):
  yC 69 #[ylV R D L G gr sz ex fam F,yfV ng e f] w (iT w 5 false 0 0):=by
 have hsf:=cD;have bl:=af w (.cells (ylA R D L G gr sz ex fam F) 131);have bf:=af (w.alloc (.cells (ylA R D L G gr sz ex fam F) 131)) (.cells (yfA ng e f) 133);have bz:=af ((w.alloc (.cells (ylA R D L G gr sz ex fam F) 131)).alloc (.cells (yfA ng e f) 133)) (.cells (yvA 0 false yN 0) 77);have l0:=((ah w (ylL R D L G gr sz ex fam F) 131).l bf).l bz;have m0:=(ah (w.alloc (.cells (ylA R D L G gr sz ex fam F) 131)) (yfL ng e f) 133).l bz;have v0:=ah ((w.alloc (.cells (ylA R D L G gr sz ex fam F) 131)).alloc (.cells (yfA ng e f) 133)) (yvL 0 false yN 0) 77;have b0:=aa (aa bl bf) bz;rw[World.size_alloc] at m0;rw[World.size_alloc,World.size_alloc] at v0;clear bl bf bz;have HC':Hid _:=HC;clear HC
 go_enter func69,ntmps69
 go_wp2_with fail
 refine(HC'.out _).mono ?_;rintro z w1 ⟨rfl,b1⟩;have bq:=af w1 (.cells (yvA 5 false yN 0) 77);have m1:=(m0.l b1).l bq;have v1:=(v0.l b1).l bq;have q1:=ah w1 (yvL 5 false yN 0) 77;have b01:=aa (aa b0 b1) bq;have hq3:w.heap.size+3≤w1.heap.size:=(v0.l b1).lt;have y0:=((m0.l b1).l (af w1 (.cells (yvA 5 false yN 0) 77))).c 0 rfl;obtain⟨z0,z1,z2,z3⟩:=v1.cs4;have j0:=v1.f 0;have j1:=v1.f 1;have j2:=v1.f 2;have j3:=v1.f 3;obtain⟨s0,s1,s2,s3⟩:=q1.cs4;have hne:w1.heap.size≠w.heap.size+1+1:=by omega
 have bu5:=(((ag (w1.alloc (.cells (yvA 5 false yN 0) 77)) (w.heap.size+1+1) 0 (yi 5)).trans (ag _ (w.heap.size+1+1) 1 (.bool false))).trans (ag _ (w.heap.size+1+1) 2 yN)).trans (ag _ (w.heap.size+1+1) 3 (yi 0));have cR:au (((((w1.alloc (.cells (yvA 5 false yN 0) 77)).setCell ⟨w.heap.size+1+1,0,none⟩ (yi 5)).setCell ⟨w.heap.size+1+1,1,none⟩ (.bool false)).setCell ⟨w.heap.size+1+1,2,none⟩ yN).setCell ⟨w.heap.size+1+1,3,none⟩ (yi 0)) (w.heap.size+1+1) 77 (yvL 5 false yN 0):=(((v1.set 0 (yi 5)).set 1 (.bool false)).set 2 yN).set 3 (yi 0);have bR:=bu5.below b01 (by omega);have hl:=run_loadVar_mid (P:=Tryz.prog) _ (w.heap.size+1+1) 0 77 (yvL 5 false yN 0) _ cR.range underlying77 rfl (by kernel_rfl);have HH:Hid (_∧_):=⟨hl,bR⟩;clear hl bR cR bu5 b01 q1 v1 m1 l0 m0 v0 b0 b1 bq
 go_wp2
 obtain⟨hl,bR⟩:=HH.out;exact bodyPost_ret (br results69 rfl hl) rfl ⟨_,rfl,aN _ _,bR⟩
end Go.Proofs.YtpainhklfoaniaaGreatDoor

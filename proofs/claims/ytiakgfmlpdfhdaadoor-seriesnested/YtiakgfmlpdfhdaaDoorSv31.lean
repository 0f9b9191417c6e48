/-
  Texts laid together: Dr2, Dk1, Bs2.
-/
import Derived.Test.YtiakgfmlpdfhdaaDoorSv24
import Derived.Test.YtiakgfmlpdfhdaaDoorSv25
import Derived.Test.YtiakgfmlpdfhdaaDoorSv26
import Derived.Test.YtiakgfmlpdfhdaaDoorSv27
set_option maxRecDepth 100000
set_option maxHeartbeats 1600000
namespace Go.Proofs.YtiakgfmlpdfhdaaDoor
open Go.RowKit
theorem bQ (s:Bool)(ao:Option Addr)(ca:Nat)(xs:List Nat)(e:Int)(w:World)(hr:Rd w .u32 (.slice ao xs.length ca) xs)(sa:Dg.Small 4294967296 xs)(hL:xs.length≤20000)(he1: -1000000≤e)(he2:e≤1000000):
  yC 22 #[ydV s (.slice ao xs.length ca) e] w (dr w (bare ⟨s,Dg.vl 4294967296 xs,e⟩)):=
 (Aw s ao ca xs e w hr sa hL he1 he2).mono fun _ _ h=>h.near
theorem Ij (v:Value)(t:ak)(b:Int)(up:Bool)(w:World)(hv:Dv w v t)(hL:(Dg.dg 4294967296 t.n).length≤9000)(he1: -1000000≤t.e)(he2:t.e≤1000000)(hb1:1≤b)(hb2:b≤4096)(hT:Tab w):
  yC 62 #[v,yi b,.bool up] w (Lx w (aY t b up)):=by
 obtain⟨s0,rfl,hr⟩:=hv;obtain⟨ts,n,e⟩:=t;simp only at hr hL he1 he2⊢;have hbl:=gf hL;have HBT:Hid (∀w1,yB w w1→yC 82 #[s0] w1 fun z w'=>z= .returned (yi (bitLen n:Nat))∧w'=w1):=fun w1 b1=>by
  have:=kE s0 _ w1 (hr.l b1) (Dg.small_dg _ _ (by omega)) (Dg.norm_dg _ _ (by omega)) (by omega)
  rwa [Dg.vl_dg _ _ (by omega)] at this
 have HTW:Hid (∀w1,yB w w1→yC 83 #[s0] w1 fun z w'=>z= .returned (yi ((if n=0 then 0 else tz n:Nat):Int))∧w'=w1):=fun w1 b1=>Gl s0 n w1 (hr.l b1) (by omega) (hT.l b1)
 have htz:(if n=0 then 0 else tz n:Nat)≤288000:=by
  split
  ·omega
  ·have:=gZ n 9000 hL;omega
 have HSH:Hid (∀(j:Nat) w1,j≤1000000→yB w w1→yC 73 #[s0,yi (-(j:Int))] w1 (Num w1 (n/2^j))):=fun j w1 hj b1=>by
  have:=eO s0 _ (-(j:Int)) w1 (hr.l b1) (Dg.small_dg _ _ (by omega)) (by omega) (by omega) (by omega);rw[Dg.vl_dg _ _ (by omega)] at this;unfold shN at this
  rcases Nat.eq_zero_or_pos j with h|h
  ·subst h
   simpa using this
  ·rw[if_pos (by omega),Int.neg_neg,Int.toNat_natCast] at this
   exact this
 have HP1:Hid (∀v1 v2 x w1,(Dg.dg 4294967296 x).length≤9000→Rd w1 .u32 v1 (Dg.dg 4294967296 x)→Rd w1 .u32 v2 [1]→yC 75 #[v1,v2] w1 (Num w1 (x+1))):=fun v1 v2 x w1 hl h1 h2=>by
  have:=rj v1 v2 _ _ w1 h1 h2 (Dg.small_dg _ _ (by omega)) (Dg.small_cons.2 ⟨by omega,Dg.small_nil _ (by omega)⟩) (by omega) (by simp)
  rwa [Dg.vl_dg _ _ (by omega),show Dg.vl 4294967296 [1]=1 from rfl] at this
 have HKL:Hid (∀j,(Dg.dg 4294967296 (n/2^j)).length≤9000):=fun j=>Nat.le_trans (aH 4294967296 _ n (by omega) (Nat.div_le_self _ _)) hL
 have HCUT:Hid (∀(j:Nat),(bitLen n:Int)-b=(j:Int)→ ¬(j:Int)≤((if n=0 then 0 else tz n:Nat):Int)→aY ⟨ts,n,e⟩ b up=⟨ts,n/2^j+(if(up != ts)=true then 1 else 0),e+(j:Int)⟩):=fun j hj hc=>by
  unfold aY;simp only;rw[hj,if_neg hc,Int.toNat_natCast]
 have HSAME:Hid ((bitLen n:Int)-b≤((if n=0 then 0 else tz n:Nat):Int)→aY ⟨ts,n,e⟩ b up=⟨ts,n,e⟩):=fun hc=>if_pos hc
 have HNN:=Dg.norm_dg 4294967296 n (by omega);obtain⟨ao,ca,rfl⟩:=hr.shape;obtain⟨L,hLe⟩: ∃L,bitLen n=L:=⟨_,rfl⟩;obtain⟨k,hk⟩: ∃k,(if n=0 then 0 else tz n:Nat)=k:=⟨_,rfl⟩
 rw[hLe] at HBT hbl HCUT HSAME;rw[hk] at HTW htz HCUT HSAME;obtain⟨ds,hds⟩: ∃ds,Dg.dg 4294967296 n=ds:=⟨_,rfl⟩;rw[hds] at hr hL HBT HTW HSH HNN⊢;have HDS:Hid (Dg.dg 4294967296 n=ds):=hds;have HNN2:Hid _:=HNN;have HRR:Hid (Rd w .u32 (.slice ao ds.length ca) ds):=hr;have bA:=aa (af w (.cells (ydA ts (.slice ao ds.length ca) e) 66)) (af _ (.cells (ydA false yN 0) 66));have l1:=(aA w (.bool ts) (.slice ao ds.length ca) (yi e) 66).l (af _ (.cells (ydA false yN 0) 66));have l2:=aA (w.alloc (.cells (ydA ts (.slice ao ds.length ca) e) 66)) (.bool false) yN (yi 0) 66;have z2:=dI (w.alloc (.cells (ydA ts (.slice ao ds.length ca) e) 66)) 66;rw[World.size_alloc] at l2 z2;clear hr hLe hk hds HNN
 by_cases hc:(L:Int)-b≤(k:Int)
 ·have hcut:=HSAME.out hc
  rw[hcut]
  go_enter Tryd.func62,Tryd.ntmps62
  go_wp2_with fail
  refine(cN ts ao ds.length ca e _).mono ?_;rintro z w1 ⟨rfl,b1⟩;replace l1:=l1.l b1;replace l2:=l2.l b1;replace z2:=z2.l b1;replace bA:=aa bA b1;clear b1
  go_wp2_with fail
  refine(HBT.out _ bA).mono ?_;rintro z w2 ⟨rfl,rfl⟩;obtain⟨-,⟨c0,c1,c2⟩,-⟩:=id l1
  go_wp2_with fail
  refine(cN ts ao ds.length ca e _).mono ?_;rintro z w3 ⟨rfl,b3⟩;replace l1:=l1.l b3;replace l2:=l2.l b3;replace z2:=z2.l b3;replace bA:=aa bA b3;clear b3 c0 c1 c2
  go_wp2_with fail
  refine(HTW.out _ bA).mono ?_;rintro z w4 ⟨rfl,rfl⟩;obtain⟨-,⟨c0,c1,c2⟩,-⟩:=id l1;obtain⟨hl2,⟨d0,d1,d2⟩,f0,f1,f2⟩:=id l2;have g3:=aD l2 (.bool ts) (.slice ao ds.length ca) (yi (e));obtain⟨-,⟨g0,g1,g2⟩,-⟩:=g3;have rr:=gu (HRR.out.l bA) z2 HNN2.out (.bool ts) (.slice ao ds.length ca) (yi (e));have b8:=am bA (show w.heap.size≤w.heap.size+1 by omega) (.bool ts) (.slice ao ds.length ca) (yi (e))
  go_wp2
  refine bodyPost_ret (v:=(ydV ts (.slice ao ds.length ca) (e))) (by simp[results,Tryd.results62,go_sem,g0,g1,g2]) rfl ?_;exact⟨_,rfl,by rw[HDS.out];exact rr,b8⟩
 ·obtain⟨j,hj⟩: ∃j:Nat,(L:Int)-b=(j:Int):=⟨((L:Int)-b).toNat,by omega⟩
  rw[hj] at hc;have hcut:=HCUT.out j hj hc;have hjl:j≤288000:=by omega
  have hew:IntKind.i64.wrap (e+(j:Int))=e+(j:Int):=IntWalk.i64_in _ ⟨by omega,by omega⟩;clear HCUT HSAME
  cases up
  ·cases ts
   ·rw[if_neg (by decide),Nat.add_zero] at hcut
    rw[hcut]
    go_enter Tryd.func62,Tryd.ntmps62
    go_wp2_with fail
    refine(cN false ao ds.length ca e _).mono ?_;rintro z w1 ⟨rfl,b1⟩;replace l1:=l1.l b1;replace l2:=l2.l b1;replace z2:=z2.l b1;replace bA:=aa bA b1;clear b1
    go_wp2_with fail
    refine(HBT.out _ bA).mono ?_;rintro z w2 ⟨rfl,rfl⟩;obtain⟨-,⟨c0,c1,c2⟩,-⟩:=id l1
    go_wp2_with fail
    refine(cN false ao ds.length ca e _).mono ?_;rintro z w3 ⟨rfl,b3⟩;replace l1:=l1.l b3;replace l2:=l2.l b3;replace z2:=z2.l b3;replace bA:=aa bA b3;clear b3 c0 c1 c2
    go_wp2_with fail
    refine(HTW.out _ bA).mono ?_;rintro z w4 ⟨rfl,rfl⟩;obtain⟨-,⟨c0,c1,c2⟩,-⟩:=id l1
    go_wp2_with fail
    refine(cN false ao ds.length ca e _).mono ?_;rintro z w5 ⟨rfl,b5⟩;replace l1:=l1.l b5;replace l2:=l2.l b5;replace z2:=z2.l b5;replace bA:=aa bA b5;clear b5 c0 c1 c2
    go_wp2_with fail
    refine(HSH.out j _ (by omega) bA).mono ?_;rintro z w6 ⟨v6,rfl,o6,b6⟩;replace l1:=l1.l b6;replace l2:=l2.l b6;replace z2:=z2.l b6;replace bA:=aa bA b6;have r6:=o6.rd;clear b6 o6;obtain⟨-,⟨c0,c1,c2⟩,-⟩:=id l1;obtain⟨so,sc,hvr⟩:=r6.shape;subst hvr
    go_wp2_with fail
    refine(l9 false so (Dg.dg 4294967296 (n/2^j)).length sc (e+(j:Int)) _).mono ?_;rintro z w8 ⟨rfl,b8⟩;replace l2:=l2.l b8;replace z2:=z2.l b8;replace bA:=aa bA b8;replace r6:=r6.l b8;clear b8 c0 c1 c2 l1;obtain⟨hl2,⟨d0,d1,d2⟩,f0,f1,f2⟩:=id l2;have g3:=aD l2 (.bool false) (.slice so (Dg.dg 4294967296 (n/2^j)).length sc) (yi (e+(j:Int)));obtain⟨-,⟨g0,g1,g2⟩,-⟩:=g3;have rr:=gu r6 z2 (Dg.norm_dg _ _ (by omega)) (.bool false) (.slice so (Dg.dg 4294967296 (n/2^j)).length sc) (yi (e+(j:Int)));have b8:=am bA (show w.heap.size≤w.heap.size+1 by omega) (.bool false) (.slice so (Dg.dg 4294967296 (n/2^j)).length sc) (yi (e+(j:Int)))
    go_wp2
    refine bodyPost_ret (v:=(ydV false (.slice so (Dg.dg 4294967296 (n/2^j)).length sc) (e+(j:Int)))) (by simp[results,Tryd.results62,go_sem,g0,g1,g2]) rfl ?_;exact⟨_,rfl,rr,b8⟩
   ·rw[if_pos (by decide)] at hcut
    rw[hcut]
    go_enter Tryd.func62,Tryd.ntmps62
    go_wp2_with fail
    refine(cN true ao ds.length ca e _).mono ?_;rintro z w1 ⟨rfl,b1⟩;replace l1:=l1.l b1;replace l2:=l2.l b1;replace z2:=z2.l b1;replace bA:=aa bA b1;clear b1
    go_wp2_with fail
    refine(HBT.out _ bA).mono ?_;rintro z w2 ⟨rfl,rfl⟩;obtain⟨-,⟨c0,c1,c2⟩,-⟩:=id l1
    go_wp2_with fail
    refine(cN true ao ds.length ca e _).mono ?_;rintro z w3 ⟨rfl,b3⟩;replace l1:=l1.l b3;replace l2:=l2.l b3;replace z2:=z2.l b3;replace bA:=aa bA b3;clear b3 c0 c1 c2
    go_wp2_with fail
    refine(HTW.out _ bA).mono ?_;rintro z w4 ⟨rfl,rfl⟩;obtain⟨-,⟨c0,c1,c2⟩,-⟩:=id l1
    go_wp2_with fail
    refine(cN true ao ds.length ca e _).mono ?_;rintro z w5 ⟨rfl,b5⟩;replace l1:=l1.l b5;replace l2:=l2.l b5;replace z2:=z2.l b5;replace bA:=aa bA b5;clear b5 c0 c1 c2
    go_wp2_with fail
    refine(HSH.out j _ (by omega) bA).mono ?_;rintro z w6 ⟨v6,rfl,o6,b6⟩;replace l1:=l1.l b6;replace l2:=l2.l b6;replace z2:=z2.l b6;replace bA:=aa bA b6;have r6:=o6.rd;clear b6 o6;obtain⟨-,⟨c0,c1,c2⟩,-⟩:=id l1;have b7:=af w6 (.cells #[.int .u32 ((1:Nat):Int)] 87);have rn:=cE (w:=w6) (k:= .u32) (e:=87) [1] #[.int .u32 ((1:Nat):Int)] rfl (by unfold maxLen;simp);have hpl:=HP1.out _ _ (n/2^j) _ (HKL.out j) (r6.l b7) rn;replace l1:=l1.l b7;replace l2:=l2.l b7;replace z2:=z2.l b7;replace bA:=aa bA b7;clear b7 rn r6
    go_wp2_with fail
    refine hpl.mono ?_;rintro z w7 ⟨v7,rfl,o7,b7⟩;replace l1:=l1.l b7;replace l2:=l2.l b7;replace z2:=z2.l b7;replace bA:=aa bA b7;have r6:=o7.rd;clear b7 o7 hpl c0 c1 c2;obtain⟨-,⟨c0,c1,c2⟩,-⟩:=id l1;obtain⟨so,sc,hvr⟩:=r6.shape;subst hvr
    go_wp2_with fail
    refine(l9 true so (Dg.dg 4294967296 (n/2^j+1)).length sc (e+(j:Int)) _).mono ?_;rintro z w8 ⟨rfl,b8⟩;replace l2:=l2.l b8;replace z2:=z2.l b8;replace bA:=aa bA b8;replace r6:=r6.l b8;clear b8 c0 c1 c2 l1;obtain⟨hl2,⟨d0,d1,d2⟩,f0,f1,f2⟩:=id l2;have g3:=aD l2 (.bool true) (.slice so (Dg.dg 4294967296 (n/2^j+1)).length sc) (yi (e+(j:Int)));obtain⟨-,⟨g0,g1,g2⟩,-⟩:=g3;have rr:=gu r6 z2 (Dg.norm_dg _ _ (by omega)) (.bool true) (.slice so (Dg.dg 4294967296 (n/2^j+1)).length sc) (yi (e+(j:Int)));have b8:=am bA (show w.heap.size≤w.heap.size+1 by omega) (.bool true) (.slice so (Dg.dg 4294967296 (n/2^j+1)).length sc) (yi (e+(j:Int)))
    go_wp2
    refine bodyPost_ret (v:=(ydV true (.slice so (Dg.dg 4294967296 (n/2^j+1)).length sc) (e+(j:Int)))) (by simp[results,Tryd.results62,go_sem,g0,g1,g2]) rfl ?_;exact⟨_,rfl,rr,b8⟩
  ·cases ts
   ·rw[if_pos (by decide)] at hcut
    rw[hcut]
    go_enter Tryd.func62,Tryd.ntmps62
    go_wp2_with fail
    refine(cN false ao ds.length ca e _).mono ?_;rintro z w1 ⟨rfl,b1⟩;replace l1:=l1.l b1;replace l2:=l2.l b1;replace z2:=z2.l b1;replace bA:=aa bA b1;clear b1
    go_wp2_with fail
    refine(HBT.out _ bA).mono ?_;rintro z w2 ⟨rfl,rfl⟩;obtain⟨-,⟨c0,c1,c2⟩,-⟩:=id l1
    go_wp2_with fail
    refine(cN false ao ds.length ca e _).mono ?_;rintro z w3 ⟨rfl,b3⟩;replace l1:=l1.l b3;replace l2:=l2.l b3;replace z2:=z2.l b3;replace bA:=aa bA b3;clear b3 c0 c1 c2
    go_wp2_with fail
    refine(HTW.out _ bA).mono ?_;rintro z w4 ⟨rfl,rfl⟩;obtain⟨-,⟨c0,c1,c2⟩,-⟩:=id l1
    go_wp2_with fail
    refine(cN false ao ds.length ca e _).mono ?_;rintro z w5 ⟨rfl,b5⟩;replace l1:=l1.l b5;replace l2:=l2.l b5;replace z2:=z2.l b5;replace bA:=aa bA b5;clear b5 c0 c1 c2
    go_wp2_with fail
    refine(HSH.out j _ (by omega) bA).mono ?_;rintro z w6 ⟨v6,rfl,o6,b6⟩;replace l1:=l1.l b6;replace l2:=l2.l b6;replace z2:=z2.l b6;replace bA:=aa bA b6;have r6:=o6.rd;clear b6 o6;obtain⟨-,⟨c0,c1,c2⟩,-⟩:=id l1;have b7:=af w6 (.cells #[.int .u32 ((1:Nat):Int)] 87);have rn:=cE (w:=w6) (k:= .u32) (e:=87) [1] #[.int .u32 ((1:Nat):Int)] rfl (by unfold maxLen;simp);have hpl:=HP1.out _ _ (n/2^j) _ (HKL.out j) (r6.l b7) rn;replace l1:=l1.l b7;replace l2:=l2.l b7;replace z2:=z2.l b7;replace bA:=aa bA b7;clear b7 rn r6
    go_wp2_with fail
    refine hpl.mono ?_;rintro z w7 ⟨v7,rfl,o7,b7⟩;replace l1:=l1.l b7;replace l2:=l2.l b7;replace z2:=z2.l b7;replace bA:=aa bA b7;have r6:=o7.rd;clear b7 o7 hpl c0 c1 c2;obtain⟨-,⟨c0,c1,c2⟩,-⟩:=id l1;obtain⟨so,sc,hvr⟩:=r6.shape;subst hvr
    go_wp2_with fail
    refine(l9 false so (Dg.dg 4294967296 (n/2^j+1)).length sc (e+(j:Int)) _).mono ?_;rintro z w8 ⟨rfl,b8⟩;replace l2:=l2.l b8;replace z2:=z2.l b8;replace bA:=aa bA b8;replace r6:=r6.l b8;clear b8 c0 c1 c2 l1;obtain⟨hl2,⟨d0,d1,d2⟩,f0,f1,f2⟩:=id l2;have g3:=aD l2 (.bool false) (.slice so (Dg.dg 4294967296 (n/2^j+1)).length sc) (yi (e+(j:Int)));obtain⟨-,⟨g0,g1,g2⟩,-⟩:=g3;have rr:=gu r6 z2 (Dg.norm_dg _ _ (by omega)) (.bool false) (.slice so (Dg.dg 4294967296 (n/2^j+1)).length sc) (yi (e+(j:Int)));have b8:=am bA (show w.heap.size≤w.heap.size+1 by omega) (.bool false) (.slice so (Dg.dg 4294967296 (n/2^j+1)).length sc) (yi (e+(j:Int)))
    go_wp2
    refine bodyPost_ret (v:=(ydV false (.slice so (Dg.dg 4294967296 (n/2^j+1)).length sc) (e+(j:Int)))) (by simp[results,Tryd.results62,go_sem,g0,g1,g2]) rfl ?_;exact⟨_,rfl,rr,b8⟩
   ·rw[if_neg (by decide),Nat.add_zero] at hcut
    rw[hcut]
    go_enter Tryd.func62,Tryd.ntmps62
    go_wp2_with fail
    refine(cN true ao ds.length ca e _).mono ?_;rintro z w1 ⟨rfl,b1⟩;replace l1:=l1.l b1;replace l2:=l2.l b1;replace z2:=z2.l b1;replace bA:=aa bA b1;clear b1
    go_wp2_with fail
    refine(HBT.out _ bA).mono ?_;rintro z w2 ⟨rfl,rfl⟩;obtain⟨-,⟨c0,c1,c2⟩,-⟩:=id l1
    go_wp2_with fail
    refine(cN true ao ds.length ca e _).mono ?_;rintro z w3 ⟨rfl,b3⟩;replace l1:=l1.l b3;replace l2:=l2.l b3;replace z2:=z2.l b3;replace bA:=aa bA b3;clear b3 c0 c1 c2
    go_wp2_with fail
    refine(HTW.out _ bA).mono ?_;rintro z w4 ⟨rfl,rfl⟩;obtain⟨-,⟨c0,c1,c2⟩,-⟩:=id l1
    go_wp2_with fail
    refine(cN true ao ds.length ca e _).mono ?_;rintro z w5 ⟨rfl,b5⟩;replace l1:=l1.l b5;replace l2:=l2.l b5;replace z2:=z2.l b5;replace bA:=aa bA b5;clear b5 c0 c1 c2
    go_wp2_with fail
    refine(HSH.out j _ (by omega) bA).mono ?_;rintro z w6 ⟨v6,rfl,o6,b6⟩;replace l1:=l1.l b6;replace l2:=l2.l b6;replace z2:=z2.l b6;replace bA:=aa bA b6;have r6:=o6.rd;clear b6 o6;obtain⟨-,⟨c0,c1,c2⟩,-⟩:=id l1;obtain⟨so,sc,hvr⟩:=r6.shape;subst hvr
    go_wp2_with fail
    refine(l9 true so (Dg.dg 4294967296 (n/2^j)).length sc (e+(j:Int)) _).mono ?_;rintro z w8 ⟨rfl,b8⟩;replace l2:=l2.l b8;replace z2:=z2.l b8;replace bA:=aa bA b8;replace r6:=r6.l b8;clear b8 c0 c1 c2 l1;obtain⟨hl2,⟨d0,d1,d2⟩,f0,f1,f2⟩:=id l2;have g3:=aD l2 (.bool true) (.slice so (Dg.dg 4294967296 (n/2^j)).length sc) (yi (e+(j:Int)));obtain⟨-,⟨g0,g1,g2⟩,-⟩:=g3;have rr:=gu r6 z2 (Dg.norm_dg _ _ (by omega)) (.bool true) (.slice so (Dg.dg 4294967296 (n/2^j)).length sc) (yi (e+(j:Int)));have b8:=am bA (show w.heap.size≤w.heap.size+1 by omega) (.bool true) (.slice so (Dg.dg 4294967296 (n/2^j)).length sc) (yi (e+(j:Int)))
    go_wp2
    refine bodyPost_ret (v:=(ydV true (.slice so (Dg.dg 4294967296 (n/2^j)).length sc) (e+(j:Int)))) (by simp[results,Tryd.results62,go_sem,g0,g1,g2]) rfl ?_;exact⟨_,rfl,rr,b8⟩
theorem Nt (s:Bool)(ao:Option Addr)(ca la:Nat)(e:Int)(t:Bool)(bo:Option Addr)(cb lb:Nat)(f:Int)(n:Int)(x y:ak)(w:World)
  (HL: ∀w1,yB w w1→yC 62 #[ydV s (.slice ao la ca) e,yi n,.bool false] w1 (Lx w1 x))
  (HH: ∀w1,yB w w1→yC 62 #[ydV t (.slice bo lb cb) f,yi n,.bool true] w1 (Lx w1 y)):
  yC 44 #[.agg #[.bool s,.slice ao la ca,yi e,.bool t,.slice bo lb cb,yi f],yi n] w (aeT w x y):=by
 have H1:Hid _:=HL;have H2:Hid _:=HH;clear HL HH;obtain⟨xs,xn,xe⟩:=x;obtain⟨ys,yn,ye⟩:=y;have l1:=(aJ w (.bool s) (.slice ao la ca) (yi e) (.bool t) (.slice bo lb cb) (yi f) 68).l (af _ (.cells #[.bool false,yN,yi 0,.bool false,yN,yi 0] 68));have k1:=aJ (w.alloc (.cells #[.bool s,.slice ao la ca,yi e,.bool t,.slice bo lb cb,yi f] 68)) (.bool false) yN (yi 0) (.bool false) yN (yi 0) 68;have z1:=pM (w.alloc (.cells #[.bool s,.slice ao la ca,yi e,.bool t,.slice bo lb cb,yi f] 68)) 68;have b1:=aa (af w (.cells #[.bool s,.slice ao la ca,yi e,.bool t,.slice bo lb cb,yi f] 68)) (af _ (.cells #[.bool false,yN,yi 0,.bool false,yN,yi 0] 68));simp only[World.size_alloc] at k1 z1;obtain⟨W,hW⟩: ∃W,((w.alloc (.cells #[.bool s,.slice ao la ca,yi e,.bool t,.slice bo lb cb,yi f] 68)).alloc (.cells #[.bool false,yN,yi 0,.bool false,yN,yi 0] 68))=W:=⟨_,rfl⟩;rw[hW] at l1 k1 z1 b1;have bd:yB W W.drew:=(Below.refl _ _).drew;have l2:=l1.l bd;have k2:=k1.l bd;have z2:=z1.l bd;have b02:=aa b1 bd;rw[←hW] at l2 k2 z2 b02;clear l1 k1 z1 b1 bd hW;obtain⟨-,⟨c0,c1,c2,c3,c4,c5⟩,-⟩:=id l2;have ne1:w.heap.size+1≠w.heap.size:=by omega
 have ne2:w.heap.size≠w.heap.size+1:=by omega
 go_enter Tryd.func44,Tryd.ntmps44
 go_wp2_with fail
 go_region_held3 (fun wq=>wq.cell? ⟨w.heap.size,0,none⟩=some (.bool s)∧wq.cell? ⟨w.heap.size,1,none⟩=some (.slice ao la ca)∧wq.cell? ⟨w.heap.size,2,none⟩=some (yi e)∧wq.cell? ⟨w.heap.size,3,none⟩=some (.bool t)∧wq.cell? ⟨w.heap.size,4,none⟩=some (.slice bo lb cb)∧wq.cell? ⟨w.heap.size,5,none⟩=some (yi f)) (go_keep) (first
  | (go_at_call 62;have hgd:=b02;clear hgd;refine(H1.out _ b02).mono ?_;rintro z w3 ⟨v3,rfl,r3,b3⟩;have l3:=l2.l b3;have k3:=k2.l b3;have z3:=z2.l b3;have b03:=aa b02 b3;obtain⟨po,pc,hp⟩:=r3.shape;subst hp;obtain⟨-,⟨d0,d1,d2,d3,d4,d5⟩,-⟩:=id l3;clear b02)
  | (go_at_call 62;have hgd:=b03;clear hgd;refine(H2.out _ b03).mono ?_;rintro z w4 ⟨v4,rfl,r4,b4⟩;have r34:=r3.l b4;have l4:=l3.l b4;have k4:=k3.l b4;have z4:=z3.l b4;have b04:=aa b03 b4;obtain⟨qo,qc,hq⟩:=r4.shape;subst hq;obtain⟨-,⟨e0,e1,e2,e3,e4,e5⟩,-⟩:=id l4;obtain⟨hl,⟨v0,v1,v2,v3,v4,v5⟩,f0,f1,f2,f3,f4,f5⟩:=id k4;clear b03))
 all_goals go_wp2
 obtain⟨-,⟨u0,u1,u2,u3,u4,u5⟩,-⟩:=bP k4 (.bool xs) (yT po xn pc) (yi xe) (.bool ys) (yT qo yn qc) (yi ye);have bb:=aW b04 (show w.heap.size≤w.heap.size+1 by omega) (.bool xs) (yT po xn pc) (yi xe) (.bool ys) (yT qo yn qc) (yi ye)
 have r5:=z4.rd32 r34 (.bool xs) (yT po xn pc) (yi xe) (.bool ys) (yT qo yn qc) (yi ye);have r6:=z4.rd32 r4 (.bool xs) (yT po xn pc) (yi xe) (.bool ys) (yT qo yn qc) (yi ye);refine bodyPost_ret (v:= .agg #[.bool xs,yT po xn pc,yi xe,.bool ys,yT qo yn qc,yi ye]) (by simp[results,Tryd.results44,go_sem,u0,u1,u2,u3,u4,u5]) rfl ?_;exact⟨_,_,rfl,r5,r6,bb⟩
end Go.Proofs.YtiakgfmlpdfhdaaDoor

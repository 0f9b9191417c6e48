/-
  Texts laid together: Dy2, Dk1, Se1, Se2, Se6.
-/
import Derived.Test.YtiakgfmlpdfhdaaGreatDoorTa15
import Derived.Test.YtiakgfmlpdfhdaaGreatDoorTa16
import Derived.Test.YtiakgfmlpdfhdaaGreatDoorTa26
set_option maxRecDepth 100000
set_option maxHeartbeats 12800000
namespace Go.Proofs.YtiakgfmlpdfhdaaGreatDoor
open _root_.Go.Proofs.Tryz
open Go.RowKit
theorem II (v:Value)(t:ak)(w:World)(hv:Dv w v t)(hL:(Dg.dg 4294967296 t.n).length≤500000)(he: -1000000≤t.e∧t.e≤1000000)(hT:Tab w)(htz:tz t.n≤1000000):
  Calls Tryz.prog 102 #[v] w (jN w (bare t)):=by
 obtain⟨s,rfl,hr⟩:=hv;obtain⟨ts,n,e⟩:=t;simp only at hr hL he htz⊢;obtain⟨ao,ca,rfl⟩:=hr.shape;obtain⟨e1,e2⟩:=he
 by_cases hn:n=0
 ·subst hn
  rw[show Dg.dg 4294967296 0=[] from rfl] at hr⊢
  go_enter func102,ntmps102
  rw[show bare ⟨ts,0,e⟩=⟨false,0,0⟩ from by unfold bare;rfl]
  go_wp2
  go_returns
  exact⟨_,rfl,aQ _ _ _ _,((Below.refl _ _).alloc (Nat.le_refl _) _).alloc (by simp[World.size_alloc]) _⟩
 ·have h0:(((Dg.dg 4294967296 n).length:Int)==0)=false:=by simp[Dg.dg_nil_iff 4294967296 n (by omega)];exact hn
  have HB:Hid (bare ⟨ts,n,e⟩=⟨ts,n/2^tz n,e+tz n⟩):=by show bare ⟨ts,n,e⟩=_;unfold bare;rw[if_neg hn]
  have hsm:=Dg.small_dg 4294967296 n (by omega);have hvl:=Dg.vl_dg 4294967296 n (by omega);have HTW:Hid (∀w1,Below w.heap.size w w1→Calls Tryz.prog 76 #[.slice ao (Dg.dg 4294967296 n).length ca] w1 fun e w'=>e= .returned (.int .i64 ((tz n:Nat):Int))∧w'=w1):=fun w1 b1=>by
   have:=Gl _ n w1 (hr.l b1) (by omega) (hT.l b1)
   rwa [if_neg hn] at this
  have HSH:Hid (∀w1,Below w.heap.size w w1→Calls Tryz.prog 77 #[.slice ao (Dg.dg 4294967296 n).length ca,.int .i64 (-((tz n:Nat):Int))] w1 (Num w1 (n/2^tz n))):=fun w1 b1=>by
   have:=eO _ _ (-((tz n:Nat):Int)) w1 (hr.l b1) hsm (by omega) (by omega) (by omega);rw[hvl] at this;have e:shN n (-((tz n:Nat):Int))=n/2^tz n:=by
    unfold shN
    by_cases hz: -((tz n:Nat):Int)<0
    ·rw[if_pos hz];congr 2;omega
    ·rw[if_neg hz]
     have h0:tz n=0:=by omega
     rw[h0];simp
   rwa [e] at this
  obtain⟨m,hm⟩: ∃m,(Dg.dg 4294967296 n).length=m:=⟨_,rfl⟩;obtain⟨k,hk⟩: ∃k,tz n=k:=⟨_,rfl⟩;obtain⟨q,hq⟩: ∃q,n/2^tz n=q:=⟨_,rfl⟩;rw[hq,hk] at HB;rw[hq,hk,hm] at HSH;rw[hk,hm] at HTW;rw[hm] at h0 hL⊢;rw[hk] at htz;rw[HB.out];clear hm hk hq hr hsm hvl HB hn hT;have l1:=(aA w (.bool ts) (.slice ao m ca) (.int .i64 e) 54).l (af _ (.cells #[.bool false,.slice none 0 0,.int .i64 0] 54));have l2:=aA (w.alloc (.cells #[.bool ts,.slice ao m ca,.int .i64 e] 54)) (.bool false) (.slice none 0 0) (.int .i64 0) 54;have bA:=aa (af w (.cells #[.bool ts,.slice ao m ca,.int .i64 e] 54)) (af _ (.cells #[.bool false,.slice none 0 0,.int .i64 0] 54));rw[World.size_alloc] at l2
  go_enter func102,ntmps102
  go_wp2_with fail
  refine(cN ts ao m ca e _).mono ?_;rintro x w1 ⟨rfl,b1⟩;have l1:=l1.l b1;have l2:=l2.l b1;have b01:=aa bA b1;clear bA b1
  go_wp2_with fail
  refine(HTW.out w1 b01).mono ?_;rintro x w2 ⟨rfl,rfl⟩;have bd:Below w2.heap.size w2 w2.drew:=(Below.refl _ _).drew;have l1:=l1.l bd;have l2:=l2.l bd;have b02:=aa b01 bd;obtain⟨-,⟨c0,c1,c2⟩,-⟩:=id l1;clear b01 bd;have e3:IntKind.i64.wrap (-(k:Int))= -(k:Int):=IntWalk.i64_in _ ⟨by omega,by omega⟩;have e4:IntKind.i64.wrap (e+(k:Int))=e+(k:Int):=IntWalk.i64_in _ ⟨by omega,by omega⟩
  go_wp2_with fail
  go_region_held3 (fun wq=>wq.cell? ⟨w.heap.size,0,none⟩=some (.bool ts)∧wq.cell? ⟨w.heap.size,1,none⟩=some (.slice ao m ca)∧wq.cell? ⟨w.heap.size,2,none⟩=some (.int .i64 e)) (go_keep) (first
   | (go_at_call 67;refine(cN ts ao m ca e _).mono ?_;rintro x w3 ⟨rfl,b3⟩;have l13:=l1.l b3;have l23:=l2.l b3;have b03:=aa b02 b3;obtain⟨-,⟨p0,p1,p2⟩,-⟩:=id l13)
   | (go_at_call 77;refine(HSH.out _ b03).mono ?_;rintro x w4 ⟨vs,rfl,own4,b4⟩;have l14:=l13.l b4;have l24:=l23.l b4;have b04:=aa b03 b4;obtain⟨so,sc,hvs⟩:=own4.rd.shape;subst hvs;obtain⟨-,⟨q0,q1,q2⟩,-⟩:=id l14)
   | (go_at_call 66;refine(l9 ts so _ sc _ _).mono ?_;rintro x w5 ⟨rfl,b5⟩;have l25:=l24.l b5;have l15:=l14.l b5;obtain⟨-,⟨r0,r1,r2⟩,-⟩:=id l15;have b05:=aa b04 b5;have rd5:=own4.rd.l b5;obtain⟨hl5,⟨d0,d1,d2⟩,f0,f1,f2⟩:=id l25))
  all_goals go_wp2
  have l5:=aD l25 (.bool ts) (.slice so (Dg.dg 4294967296 q).length sc) (.int .i64 (e+(k:Int)));have hbw:w.heap.size≤w.heap.size+1:=by omega
  have b5':=((b05.setCell (p:=⟨w.heap.size+1,0,none⟩) hbw (.bool ts)).setCell (p:=⟨w.heap.size+1,1,none⟩) hbw (.slice so (Dg.dg 4294967296 q).length sc)).setCell (p:=⟨w.heap.size+1,2,none⟩) hbw (.int .i64 (e+(k:Int)));have own5:=(own4.l b5).apart3 (b:=w.heap.size+1) l23.1 (.bool ts) (.slice so (Dg.dg 4294967296 q).length sc) (.int .i64 (e+(k:Int)));obtain⟨-,⟨g0,g1,g2⟩,-⟩:=l5;refine bodyPost_ret (v:= .agg #[.bool ts,.slice so (Dg.dg 4294967296 q).length sc,.int .i64 (e+(k:Int))]) (by simp[results,results102,go_sem,g0,g1,g2]) rfl ?_;exact⟨_,rfl,own5.lower b03.size,b5'⟩
theorem Ij (v:Value)(t:ak)(b:Int)(up:Bool)(w:World)(hv:Dv w v t)(hL:(Dg.dg 4294967296 t.n).length≤9000)(he1: -1000000≤t.e)(he2:t.e≤1000000)(hb1:1≤b)(hb2:b≤4096)(hT:Tab w):
  yC 44 #[v,yi b,.bool up] w (Lx w (aY t b up)):=by
 obtain⟨s0,rfl,hr⟩:=hv;obtain⟨ts,n,e⟩:=t;simp only at hr hL he1 he2⊢;have hbl:=gf hL;have HBT:Hid (∀w1,yB w w1→yC 75 #[s0] w1 fun z w'=>z= .returned (yi (bitLen n:Nat))∧w'=w1):=fun w1 b1=>by
  have:=kE s0 _ w1 (hr.l b1) (Dg.small_dg _ _ (by omega)) (Dg.norm_dg _ _ (by omega)) (by omega)
  rwa [Dg.vl_dg _ _ (by omega)] at this
 have HTW:Hid (∀w1,yB w w1→yC 76 #[s0] w1 fun z w'=>z= .returned (yi ((if n=0 then 0 else tz n:Nat):Int))∧w'=w1):=fun w1 b1=>Gl s0 n w1 (hr.l b1) (by omega) (hT.l b1)
 have htz:(if n=0 then 0 else tz n:Nat)≤288000:=by
  split
  ·omega
  ·have:=gZ n 9000 hL;omega
 have HSH:Hid (∀(j:Nat) w1,j≤1000000→yB w w1→yC 77 #[s0,yi (-(j:Int))] w1 (Num w1 (n/2^j))):=fun j w1 hj b1=>by
  have:=eO s0 _ (-(j:Int)) w1 (hr.l b1) (Dg.small_dg _ _ (by omega)) (by omega) (by omega) (by omega);rw[Dg.vl_dg _ _ (by omega)] at this;unfold shN at this
  rcases Nat.eq_zero_or_pos j with h|h
  ·subst h
   simpa using this
  ·rw[if_pos (by omega),Int.neg_neg,Int.toNat_natCast] at this
   exact this
 have HP1:Hid (∀v1 v2 x w1,(Dg.dg 4294967296 x).length≤9000→Rd w1 .u32 v1 (Dg.dg 4294967296 x)→Rd w1 .u32 v2 [1]→yC 70 #[v1,v2] w1 (Num w1 (x+1))):=fun v1 v2 x w1 hl h1 h2=>by
  have:=rj v1 v2 _ _ w1 h1 h2 (Dg.small_dg _ _ (by omega)) (Dg.small_cons.2 ⟨by omega,Dg.small_nil _ (by omega)⟩) (by omega) (by simp)
  rwa [Dg.vl_dg _ _ (by omega),show Dg.vl 4294967296 [1]=1 from rfl] at this
 have HKL:Hid (∀j,(Dg.dg 4294967296 (n/2^j)).length≤9000):=fun j=>Nat.le_trans (aH 4294967296 _ n (by omega) (Nat.div_le_self _ _)) hL
 have HCUT:Hid (∀(j:Nat),(bitLen n:Int)-b=(j:Int)→ ¬(j:Int)≤((if n=0 then 0 else tz n:Nat):Int)→aY ⟨ts,n,e⟩ b up=⟨ts,n/2^j+(if(up != ts)=true then 1 else 0),e+(j:Int)⟩):=fun j hj hc=>by
  unfold aY;simp only;rw[hj,if_neg hc,Int.toNat_natCast]
 have HSAME:Hid ((bitLen n:Int)-b≤((if n=0 then 0 else tz n:Nat):Int)→aY ⟨ts,n,e⟩ b up=⟨ts,n,e⟩):=fun hc=>if_pos hc
 have HNN:=Dg.norm_dg 4294967296 n (by omega);obtain⟨ao,ca,rfl⟩:=hr.shape;obtain⟨L,hLe⟩: ∃L,bitLen n=L:=⟨_,rfl⟩;obtain⟨k,hk⟩: ∃k,(if n=0 then 0 else tz n:Nat)=k:=⟨_,rfl⟩
 rw[hLe] at HBT hbl HCUT HSAME;rw[hk] at HTW htz HCUT HSAME;obtain⟨ds,hds⟩: ∃ds,Dg.dg 4294967296 n=ds:=⟨_,rfl⟩;rw[hds] at hr hL HBT HTW HSH HNN⊢;have HDS:Hid (Dg.dg 4294967296 n=ds):=hds;have HNN2:Hid _:=HNN;have HRR:Hid (Rd w .u32 (.slice ao ds.length ca) ds):=hr;have bA:=aa (af w (.cells (ydA ts (.slice ao ds.length ca) e) 54)) (af _ (.cells (ydA false yN 0) 54));have l1:=(aA w (.bool ts) (.slice ao ds.length ca) (yi e) 54).l (af _ (.cells (ydA false yN 0) 54));have l2:=aA (w.alloc (.cells (ydA ts (.slice ao ds.length ca) e) 54)) (.bool false) yN (yi 0) 54;have z2:=dI (w.alloc (.cells (ydA ts (.slice ao ds.length ca) e) 54)) 54;rw[World.size_alloc] at l2 z2;clear hr hLe hk hds HNN
 by_cases hc:(L:Int)-b≤(k:Int)
 ·have hcut:=HSAME.out hc
  rw[hcut]
  go_enter func44,ntmps44
  go_wp2_with fail
  refine(cN ts ao ds.length ca e _).mono ?_;rintro z w1 ⟨rfl,b1⟩;replace l1:=l1.l b1;replace l2:=l2.l b1;replace z2:=z2.l b1;replace bA:=aa bA b1;clear b1
  go_wp2_with fail
  refine(HBT.out _ bA).mono ?_;rintro z w2 ⟨rfl,rfl⟩;obtain⟨-,⟨c0,c1,c2⟩,-⟩:=id l1
  go_wp2_with fail
  refine(cN ts ao ds.length ca e _).mono ?_;rintro z w3 ⟨rfl,b3⟩;replace l1:=l1.l b3;replace l2:=l2.l b3;replace z2:=z2.l b3;replace bA:=aa bA b3;clear b3 c0 c1 c2
  go_wp2_with fail
  refine(HTW.out _ bA).mono ?_;rintro z w4 ⟨rfl,rfl⟩;obtain⟨-,⟨c0,c1,c2⟩,-⟩:=id l1;obtain⟨hl2,⟨d0,d1,d2⟩,f0,f1,f2⟩:=id l2;have g3:=aD l2 (.bool ts) (.slice ao ds.length ca) (yi (e));obtain⟨-,⟨g0,g1,g2⟩,-⟩:=g3;have rr:=gu (HRR.out.l bA) z2 HNN2.out (.bool ts) (.slice ao ds.length ca) (yi (e));have b8:=am bA (show w.heap.size≤w.heap.size+1 by omega) (.bool ts) (.slice ao ds.length ca) (yi (e))
  go_wp2
  refine bodyPost_ret (v:=(ydV ts (.slice ao ds.length ca) (e))) (by simp[results,results44,go_sem,g0,g1,g2]) rfl ?_;exact⟨_,rfl,by rw[HDS.out];exact rr,b8⟩
 ·obtain⟨j,hj⟩: ∃j:Nat,(L:Int)-b=(j:Int):=⟨((L:Int)-b).toNat,by omega⟩
  rw[hj] at hc;have hcut:=HCUT.out j hj hc;have hjl:j≤288000:=by omega
  have hew:IntKind.i64.wrap (e+(j:Int))=e+(j:Int):=IntWalk.i64_in _ ⟨by omega,by omega⟩;clear HCUT HSAME
  cases up
  ·cases ts
   ·rw[if_neg (by decide),Nat.add_zero] at hcut
    rw[hcut]
    go_enter func44,ntmps44
    go_wp2_with fail
    refine(cN false ao ds.length ca e _).mono ?_;rintro z w1 ⟨rfl,b1⟩;replace l1:=l1.l b1;replace l2:=l2.l b1;replace z2:=z2.l b1;replace bA:=aa bA b1;clear b1
    go_wp2_with fail
    refine(HBT.out _ bA).mono ?_;rintro z w2 ⟨rfl,rfl⟩;obtain⟨-,⟨c0,c1,c2⟩,-⟩:=id l1
    go_wp2_with fail
    refine(cN false ao ds.length ca e _).mono ?_;rintro z w3 ⟨rfl,b3⟩;replace l1:=l1.l b3;replace l2:=l2.l b3;replace z2:=z2.l b3;replace bA:=aa bA b3;clear b3 c0 c1 c2
    go_wp2_with fail
    refine(HTW.out _ bA).mono ?_;rintro z w4 ⟨rfl,rfl⟩;obtain⟨-,⟨c0,c1,c2⟩,-⟩:=id l1
    go_wp2_with fail
    refine(cN false ao ds.length ca e _).mono ?_;rintro z w5 ⟨rfl,b5⟩;replace l1:=l1.l b5;replace l2:=l2.l b5;replace z2:=z2.l b5;replace bA:=aa bA b5;clear b5 c0 c1 c2
    go_wp2_with fail
    refine(HSH.out j _ (by omega) bA).mono ?_;rintro z w6 ⟨v6,rfl,o6,b6⟩;replace l1:=l1.l b6;replace l2:=l2.l b6;replace z2:=z2.l b6;replace bA:=aa bA b6;have r6:=o6.rd;clear b6 o6;obtain⟨-,⟨c0,c1,c2⟩,-⟩:=id l1;obtain⟨so,sc,hvr⟩:=r6.shape;subst hvr
    go_wp2_with fail
    refine(l9 false so (Dg.dg 4294967296 (n/2^j)).length sc (e+(j:Int)) _).mono ?_;rintro z w8 ⟨rfl,b8⟩;replace l2:=l2.l b8;replace z2:=z2.l b8;replace bA:=aa bA b8;replace r6:=r6.l b8;clear b8 c0 c1 c2 l1;obtain⟨hl2,⟨d0,d1,d2⟩,f0,f1,f2⟩:=id l2;have g3:=aD l2 (.bool false) (.slice so (Dg.dg 4294967296 (n/2^j)).length sc) (yi (e+(j:Int)));obtain⟨-,⟨g0,g1,g2⟩,-⟩:=g3;have rr:=gu r6 z2 (Dg.norm_dg _ _ (by omega)) (.bool false) (.slice so (Dg.dg 4294967296 (n/2^j)).length sc) (yi (e+(j:Int)));have b8:=am bA (show w.heap.size≤w.heap.size+1 by omega) (.bool false) (.slice so (Dg.dg 4294967296 (n/2^j)).length sc) (yi (e+(j:Int)))
    go_wp2
    refine bodyPost_ret (v:=(ydV false (.slice so (Dg.dg 4294967296 (n/2^j)).length sc) (e+(j:Int)))) (by simp[results,results44,go_sem,g0,g1,g2]) rfl ?_;exact⟨_,rfl,rr,b8⟩
   ·rw[if_pos (by decide)] at hcut
    rw[hcut]
    go_enter func44,ntmps44
    go_wp2_with fail
    refine(cN true ao ds.length ca e _).mono ?_;rintro z w1 ⟨rfl,b1⟩;replace l1:=l1.l b1;replace l2:=l2.l b1;replace z2:=z2.l b1;replace bA:=aa bA b1;clear b1
    go_wp2_with fail
    refine(HBT.out _ bA).mono ?_;rintro z w2 ⟨rfl,rfl⟩;obtain⟨-,⟨c0,c1,c2⟩,-⟩:=id l1
    go_wp2_with fail
    refine(cN true ao ds.length ca e _).mono ?_;rintro z w3 ⟨rfl,b3⟩;replace l1:=l1.l b3;replace l2:=l2.l b3;replace z2:=z2.l b3;replace bA:=aa bA b3;clear b3 c0 c1 c2
    go_wp2_with fail
    refine(HTW.out _ bA).mono ?_;rintro z w4 ⟨rfl,rfl⟩;obtain⟨-,⟨c0,c1,c2⟩,-⟩:=id l1
    go_wp2_with fail
    refine(cN true ao ds.length ca e _).mono ?_;rintro z w5 ⟨rfl,b5⟩;replace l1:=l1.l b5;replace l2:=l2.l b5;replace z2:=z2.l b5;replace bA:=aa bA b5;clear b5 c0 c1 c2
    go_wp2_with fail
    refine(HSH.out j _ (by omega) bA).mono ?_;rintro z w6 ⟨v6,rfl,o6,b6⟩;replace l1:=l1.l b6;replace l2:=l2.l b6;replace z2:=z2.l b6;replace bA:=aa bA b6;have r6:=o6.rd;clear b6 o6;obtain⟨-,⟨c0,c1,c2⟩,-⟩:=id l1;have b7:=af w6 (.cells #[.int .u32 ((1:Nat):Int)] 49);have rn:=cE (w:=w6) (k:= .u32) (e:=49) [1] #[.int .u32 ((1:Nat):Int)] rfl (by unfold maxLen;simp);have hpl:=HP1.out _ _ (n/2^j) _ (HKL.out j) (r6.l b7) rn;replace l1:=l1.l b7;replace l2:=l2.l b7;replace z2:=z2.l b7;replace bA:=aa bA b7;clear b7 rn r6
    go_wp2_with fail
    refine hpl.mono ?_;rintro z w7 ⟨v7,rfl,o7,b7⟩;replace l1:=l1.l b7;replace l2:=l2.l b7;replace z2:=z2.l b7;replace bA:=aa bA b7;have r6:=o7.rd;clear b7 o7 hpl c0 c1 c2;obtain⟨-,⟨c0,c1,c2⟩,-⟩:=id l1;obtain⟨so,sc,hvr⟩:=r6.shape;subst hvr
    go_wp2_with fail
    refine(l9 true so (Dg.dg 4294967296 (n/2^j+1)).length sc (e+(j:Int)) _).mono ?_;rintro z w8 ⟨rfl,b8⟩;replace l2:=l2.l b8;replace z2:=z2.l b8;replace bA:=aa bA b8;replace r6:=r6.l b8;clear b8 c0 c1 c2 l1;obtain⟨hl2,⟨d0,d1,d2⟩,f0,f1,f2⟩:=id l2;have g3:=aD l2 (.bool true) (.slice so (Dg.dg 4294967296 (n/2^j+1)).length sc) (yi (e+(j:Int)));obtain⟨-,⟨g0,g1,g2⟩,-⟩:=g3;have rr:=gu r6 z2 (Dg.norm_dg _ _ (by omega)) (.bool true) (.slice so (Dg.dg 4294967296 (n/2^j+1)).length sc) (yi (e+(j:Int)));have b8:=am bA (show w.heap.size≤w.heap.size+1 by omega) (.bool true) (.slice so (Dg.dg 4294967296 (n/2^j+1)).length sc) (yi (e+(j:Int)))
    go_wp2
    refine bodyPost_ret (v:=(ydV true (.slice so (Dg.dg 4294967296 (n/2^j+1)).length sc) (e+(j:Int)))) (by simp[results,results44,go_sem,g0,g1,g2]) rfl ?_;exact⟨_,rfl,rr,b8⟩
  ·cases ts
   ·rw[if_pos (by decide)] at hcut
    rw[hcut]
    go_enter func44,ntmps44
    go_wp2_with fail
    refine(cN false ao ds.length ca e _).mono ?_;rintro z w1 ⟨rfl,b1⟩;replace l1:=l1.l b1;replace l2:=l2.l b1;replace z2:=z2.l b1;replace bA:=aa bA b1;clear b1
    go_wp2_with fail
    refine(HBT.out _ bA).mono ?_;rintro z w2 ⟨rfl,rfl⟩;obtain⟨-,⟨c0,c1,c2⟩,-⟩:=id l1
    go_wp2_with fail
    refine(cN false ao ds.length ca e _).mono ?_;rintro z w3 ⟨rfl,b3⟩;replace l1:=l1.l b3;replace l2:=l2.l b3;replace z2:=z2.l b3;replace bA:=aa bA b3;clear b3 c0 c1 c2
    go_wp2_with fail
    refine(HTW.out _ bA).mono ?_;rintro z w4 ⟨rfl,rfl⟩;obtain⟨-,⟨c0,c1,c2⟩,-⟩:=id l1
    go_wp2_with fail
    refine(cN false ao ds.length ca e _).mono ?_;rintro z w5 ⟨rfl,b5⟩;replace l1:=l1.l b5;replace l2:=l2.l b5;replace z2:=z2.l b5;replace bA:=aa bA b5;clear b5 c0 c1 c2
    go_wp2_with fail
    refine(HSH.out j _ (by omega) bA).mono ?_;rintro z w6 ⟨v6,rfl,o6,b6⟩;replace l1:=l1.l b6;replace l2:=l2.l b6;replace z2:=z2.l b6;replace bA:=aa bA b6;have r6:=o6.rd;clear b6 o6;obtain⟨-,⟨c0,c1,c2⟩,-⟩:=id l1;have b7:=af w6 (.cells #[.int .u32 ((1:Nat):Int)] 49);have rn:=cE (w:=w6) (k:= .u32) (e:=49) [1] #[.int .u32 ((1:Nat):Int)] rfl (by unfold maxLen;simp);have hpl:=HP1.out _ _ (n/2^j) _ (HKL.out j) (r6.l b7) rn;replace l1:=l1.l b7;replace l2:=l2.l b7;replace z2:=z2.l b7;replace bA:=aa bA b7;clear b7 rn r6
    go_wp2_with fail
    refine hpl.mono ?_;rintro z w7 ⟨v7,rfl,o7,b7⟩;replace l1:=l1.l b7;replace l2:=l2.l b7;replace z2:=z2.l b7;replace bA:=aa bA b7;have r6:=o7.rd;clear b7 o7 hpl c0 c1 c2;obtain⟨-,⟨c0,c1,c2⟩,-⟩:=id l1;obtain⟨so,sc,hvr⟩:=r6.shape;subst hvr
    go_wp2_with fail
    refine(l9 false so (Dg.dg 4294967296 (n/2^j+1)).length sc (e+(j:Int)) _).mono ?_;rintro z w8 ⟨rfl,b8⟩;replace l2:=l2.l b8;replace z2:=z2.l b8;replace bA:=aa bA b8;replace r6:=r6.l b8;clear b8 c0 c1 c2 l1;obtain⟨hl2,⟨d0,d1,d2⟩,f0,f1,f2⟩:=id l2;have g3:=aD l2 (.bool false) (.slice so (Dg.dg 4294967296 (n/2^j+1)).length sc) (yi (e+(j:Int)));obtain⟨-,⟨g0,g1,g2⟩,-⟩:=g3;have rr:=gu r6 z2 (Dg.norm_dg _ _ (by omega)) (.bool false) (.slice so (Dg.dg 4294967296 (n/2^j+1)).length sc) (yi (e+(j:Int)));have b8:=am bA (show w.heap.size≤w.heap.size+1 by omega) (.bool false) (.slice so (Dg.dg 4294967296 (n/2^j+1)).length sc) (yi (e+(j:Int)))
    go_wp2
    refine bodyPost_ret (v:=(ydV false (.slice so (Dg.dg 4294967296 (n/2^j+1)).length sc) (e+(j:Int)))) (by simp[results,results44,go_sem,g0,g1,g2]) rfl ?_;exact⟨_,rfl,rr,b8⟩
   ·rw[if_neg (by decide),Nat.add_zero] at hcut
    rw[hcut]
    go_enter func44,ntmps44
    go_wp2_with fail
    refine(cN true ao ds.length ca e _).mono ?_;rintro z w1 ⟨rfl,b1⟩;replace l1:=l1.l b1;replace l2:=l2.l b1;replace z2:=z2.l b1;replace bA:=aa bA b1;clear b1
    go_wp2_with fail
    refine(HBT.out _ bA).mono ?_;rintro z w2 ⟨rfl,rfl⟩;obtain⟨-,⟨c0,c1,c2⟩,-⟩:=id l1
    go_wp2_with fail
    refine(cN true ao ds.length ca e _).mono ?_;rintro z w3 ⟨rfl,b3⟩;replace l1:=l1.l b3;replace l2:=l2.l b3;replace z2:=z2.l b3;replace bA:=aa bA b3;clear b3 c0 c1 c2
    go_wp2_with fail
    refine(HTW.out _ bA).mono ?_;rintro z w4 ⟨rfl,rfl⟩;obtain⟨-,⟨c0,c1,c2⟩,-⟩:=id l1
    go_wp2_with fail
    refine(cN true ao ds.length ca e _).mono ?_;rintro z w5 ⟨rfl,b5⟩;replace l1:=l1.l b5;replace l2:=l2.l b5;replace z2:=z2.l b5;replace bA:=aa bA b5;clear b5 c0 c1 c2
    go_wp2_with fail
    refine(HSH.out j _ (by omega) bA).mono ?_;rintro z w6 ⟨v6,rfl,o6,b6⟩;replace l1:=l1.l b6;replace l2:=l2.l b6;replace z2:=z2.l b6;replace bA:=aa bA b6;have r6:=o6.rd;clear b6 o6;obtain⟨-,⟨c0,c1,c2⟩,-⟩:=id l1;obtain⟨so,sc,hvr⟩:=r6.shape;subst hvr
    go_wp2_with fail
    refine(l9 true so (Dg.dg 4294967296 (n/2^j)).length sc (e+(j:Int)) _).mono ?_;rintro z w8 ⟨rfl,b8⟩;replace l2:=l2.l b8;replace z2:=z2.l b8;replace bA:=aa bA b8;replace r6:=r6.l b8;clear b8 c0 c1 c2 l1;obtain⟨hl2,⟨d0,d1,d2⟩,f0,f1,f2⟩:=id l2;have g3:=aD l2 (.bool true) (.slice so (Dg.dg 4294967296 (n/2^j)).length sc) (yi (e+(j:Int)));obtain⟨-,⟨g0,g1,g2⟩,-⟩:=g3;have rr:=gu r6 z2 (Dg.norm_dg _ _ (by omega)) (.bool true) (.slice so (Dg.dg 4294967296 (n/2^j)).length sc) (yi (e+(j:Int)));have b8:=am bA (show w.heap.size≤w.heap.size+1 by omega) (.bool true) (.slice so (Dg.dg 4294967296 (n/2^j)).length sc) (yi (e+(j:Int)))
    go_wp2
    refine bodyPost_ret (v:=(ydV true (.slice so (Dg.dg 4294967296 (n/2^j)).length sc) (e+(j:Int)))) (by simp[results,results44,go_sem,g0,g1,g2]) rfl ?_;exact⟨_,rfl,rr,b8⟩
theorem spanWhole_W (n:Int)(x:ak)(w:World)(HW: ∀w1,yC 88 #[yi n] w1 (Lx w1 x))
  (HO: ∀xo xc w1,yC 101 #[yDV x xo xc] w1 (yR w1 (.agg #[.bool x.s,yT xo x.n xc,yi x.e,.bool x.s,yT xo x.n xc,yi x.e]))):
  yC 82 #[yi n] w (aeT w x x):=by
 replace HW:Hid _:=HW;replace HO:Hid _:=HO;obtain⟨W3,hW4,q1,b2⟩:=cA w [.bool false,yN,yi 0,.bool false,yN,yi 0] 57;replace hW4:Hid _:=hW4
 go_enter func82,ntmps82
 go_upto_region 1 with fail
 rw[hW4.out];clear hW4
 go_wp2_with fail
 refine(HW.out _).mono ?_;rintro zz w5 ⟨v1x7,rfl,r1x8,bb6⟩;have q9:=q1.l bb6;have b10:=aa b2 bb6;obtain⟨xo,xc,hv⟩:=r1x8.shape;subst hv;clear q1 b2 bb6 HW
 go_wp2_with fail
 refine(HO.out _ _ _).mono ?_;rintro zz w11 ⟨rfl,bb12⟩;have q13:=q9.l bb12;have r14:=r1x8.l bb12;have b15:=aa b10 bb12;clear q9 r1x8 b10 bb12 HO;have hf:=fin6 (P:=Tryz.prog) q13 b15 (by omega) underlying57 rfl (by kernel_rfl) (.bool x.s) (yT xo x.n xc) (yi x.e) (.bool x.s) (yT xo x.n xc) (yi x.e);have HH:Hid (_∧_∧_):=⟨hf.1,hf.2.2.rd r14 (aX r14 q13 (by simp)),hf.2.1⟩;obtain⟨⟨z0,z1,z2,z3,z4,z5⟩,y0,y1,y2,y3,y4,y5⟩:=csf6 q13;clear hf q13 r14 b15
 go_wp2
 obtain⟨hl,rRx,bR⟩:=HH.out;exact bodyPost_ret (br results82 rfl hl) rfl ⟨_,_,rfl,rRx,rRx,bR⟩
theorem spanMinus_W (a b p q:ak)(ao bo po qo:Option Addr)(ac bc pc qc:Nat)(x y:ak)(w:World)
  (H1:yJ 86 #[.agg #[.bool p.s,yT po p.n pc,yi p.e,.bool q.s,yT qo q.n qc,yi q.e]] (.agg #[.bool (!q.s),yT qo q.n qc,yi q.e,.bool (!p.s),yT po p.n pc,yi p.e]))
  (H2: ∀w1,yB w w1→yC 83 #[.agg #[.bool a.s,yT ao a.n ac,yi a.e,.bool b.s,yT bo b.n bc,yi b.e],.agg #[.bool (!q.s),yT qo q.n qc,yi q.e,.bool (!p.s),yT po p.n pc,yi p.e]] w1 (aeT w1 x y)):
  yC 61 #[.agg #[.bool a.s,yT ao a.n ac,yi a.e,.bool b.s,yT bo b.n bc,yi b.e],.agg #[.bool p.s,yT po p.n pc,yi p.e,.bool q.s,yT qo q.n qc,yi q.e]] w (aeT w x y):=by
 replace H1:Hid _:=H1;replace H2:Hid _:=H2;obtain⟨W5,hW6,q1,q2,q3,b4⟩:=lG w [.bool a.s,yT ao a.n ac,yi a.e,.bool b.s,yT bo b.n bc,yi b.e] 57 [.bool p.s,yT po p.n pc,yi p.e,.bool q.s,yT qo q.n qc,yi q.e] 57 [.bool false,yN,yi 0,.bool false,yN,yi 0] 57;replace hW6:Hid _:=hW6
 go_enter func61,ntmps61
 go_upto_region 1 with fail
 rw[hW6.out];clear hW6
 go_upto_region 1 with fail
 have bW7:yB W5 W5.drew:=(Below.refl _ _).drew;have q8:=q1.l bW7;have q9:=q2.l bW7;have q10:=q3.l bW7;have b11:=aa b4 bW7;clear q1 q2 q3 b4 bW7;refine wp_region_held_drew (S:=fun wq=>au wq w.heap.size 57 [.bool a.s,yT ao a.n ac,yi a.e,.bool b.s,yT bo b.n bc,yi b.e]∧au wq (w.heap.size+1) 57 [.bool p.s,yT po p.n pc,yi p.e,.bool q.s,yT qo q.n qc,yi q.e]) (by kernel_rfl) ⟨q8,q9⟩ (fun hS0=> ?_)
 generalize W5.drew=WD12 at q8 q9 q10 b11 hS0⊢;refine tq 0 (.agg #[.bool a.s,yT ao a.n ac,yi a.e,.bool b.s,yT bo b.n bc,yi b.e]) rfl (fun _ hw0=>fy 57 (.tmp 2) rfl w.heap.size 0 (by kernel_rfl) _ _ hw0.1.range underlying57 rfl (by kernel_rfl)) hS0 ?_
 refine tq 1 (.agg #[.bool p.s,yT po p.n pc,yi p.e,.bool q.s,yT qo q.n qc,yi q.e]) rfl (fun _ hw0=>fy 57 (.tmp 3) rfl (w.heap.size+1) 0 (by kernel_rfl) _ _ hw0.2.range underlying57 rfl (by kernel_rfl)) hS0 ?_
 refine wpAnyH_ready (rs:=[2]) (by kernel_rfl) (by simp) ?_;refine AllReadyH.cons rfl (fun K hK=> ?_) AllReadyH.nil
 go_simp
 refine(H1.out _).mono ?_;rintro zz w13 ⟨rfl,bb14⟩;have q15:=q8.l bb14;have q16:=q9.l bb14;have q17:=q10.l bb14;have b18:=aa b11 bb14;clear q8 q9 q10 b11 bb14 H1;refine hK.out _ _ ⟨q15,q16⟩ (fun hS19=> ?_)
 clear hK K;refine wpAnyH_ready (rs:=[3]) (by kernel_rfl) (by simp) ?_;refine AllReadyH.cons rfl (fun K hK=> ?_) AllReadyH.nil
 go_simp
 refine(H2.out _ b18).mono ?_;rintro zz w20 ⟨v1x22,v2x23,rfl,r1x24,r2x25,bb21⟩;have q26:=q15.l bb21;have q27:=q16.l bb21;have q28:=q17.l bb21;have b29:=aa b18 bb21;obtain⟨xo,xc,hv⟩:=r1x24.shape;subst hv;obtain⟨yo,yc,hv⟩:=r2x25.shape;subst hv;clear q15 q16 q17 b18 bb21 H2;refine hK.out _ _ ⟨q26,q27⟩ (fun hS30=> ?_)
 clear hK K;refine wpAnyH_ready (rs:=[4]) (by kernel_rfl) (by simp) ?_;refine AllReadyH.cons rfl (fun K hK=> ?_) AllReadyH.nil
 have bu:But (w.heap.size+1+1) w20 (w20.setCells (w.heap.size+1+1) 0 [.bool x.s,yT xo x.n xc,yi x.e,.bool y.s,yT yo y.n yc,yi y.e]):=de _ _ _ _;have hth:w20.there (w.heap.size+1+1) 0 6:=dD q28;have q31:au (w20.setCells (w.heap.size+1+1) 0 [.bool x.s,yT xo x.n xc,yi x.e,.bool y.s,yT yo y.n yc,yi y.e]) (w.heap.size+1+1) 57 [.bool x.s,yT xo x.n xc,yi x.e,.bool y.s,yT yo y.n yc,yi y.e]:=q28.sets _ rfl;have r32:=bu.rd r1x24 (aX r1x24 q28 (by simp));have r33:=bu.rd r2x25 (aX r2x25 q28 (by simp));have q34:=bu.loc q26 (by omega);have q35:=bu.loc q27 (by omega);have b36:=bu.below b29 (by omega);rw[if_pos (by kernel_rfl)];refine wp_store_mid 57 (.tmp 4) (.tmp 8) rfl (w.heap.size+1+1) 0 #[.bool x.s,yT xo x.n xc,yi x.e,.bool y.s,yT yo y.n yc,yi y.e] (by kernel_rfl) (by kernel_rfl) hth (by kernel_rfl) (by simp[Value.oneCell']) ?_;refine hK.out _ _ ⟨q34,q35⟩ (fun hS37=> ?_)
 clear hK K;clear q28 r1x24 r2x25 q26 q27 b29 bu hth;refine wpAnyH_done (by kernel_rfl) ?_ _;clear hS0 hS19 hS30 hS37;change Exit.then _ _ _ _ (World.setCells w20 (w.heap.size+1+1) 0 [.bool x.s,yT xo x.n xc,yi x.e,.bool y.s,yT yo y.n yc,yi y.e]);generalize World.setCells w20 (w.heap.size+1+1) 0 [.bool x.s,yT xo x.n xc,yi x.e,.bool y.s,yT yo y.n yc,yi y.e]=W38 at q34 q35 q31 r32 r33 b36⊢;simp only[Act.put,List.getElem_toArray,List.getElem_cons_succ,List.getElem_cons_zero];have hl:=run_loadVar_mid (P:=Tryz.prog) _ (w.heap.size+1+1) 0 57 [.bool x.s,yT xo x.n xc,yi x.e,.bool y.s,yT yo y.n yc,yi y.e] _ q31.range underlying57 rfl (by kernel_rfl)
 go_wp2
 exact bodyPost_ret (br results61 rfl hl) rfl ⟨_,_,rfl,r32,r33,b36⟩
theorem sumsAtanh_W (x y:ak)(n k:Int)(w:World)
  (HI: ∀w1,yB w w1→yC 63 #[yi n,yi k,yi 0] w1 (aeT w1 x y)):
  yC 80 #[yi n,yi k] w (aeT w x y):=by
 replace HI:Hid _:=HI;obtain⟨W3,hW4,q1,b2⟩:=cA w [.bool false,yN,yi 0,.bool false,yN,yi 0] 57;replace hW4:Hid _:=hW4
 go_enter func80,ntmps80
 go_upto_region 1 with fail
 rw[hW4.out];clear hW4
 go_wp2_with fail
 refine(HI.out _ b2).mono ?_;rintro zz w5 ⟨v1x7,v2x8,rfl,r1x9,r2x10,bb6⟩;have q11:=q1.l bb6;have b12:=aa b2 bb6;obtain⟨xo,xc,hv⟩:=r1x9.shape;subst hv;obtain⟨yo,yc,hv⟩:=r2x10.shape;subst hv;clear q1 b2 bb6 HI;have hf:=fin6 (P:=Tryz.prog) q11 b12 (by omega) underlying57 rfl (by kernel_rfl) (.bool x.s) (yT xo x.n xc) (yi x.e) (.bool y.s) (yT yo y.n yc) (yi y.e);have HH:Hid (_∧_∧_∧_):=⟨hf.1,hf.2.2.rd r1x9 (aX r1x9 q11 (by simp)),hf.2.2.rd r2x10 (aX r2x10 q11 (by simp)),hf.2.1⟩;obtain⟨⟨z0,z1,z2,z3,z4,z5⟩,y0,y1,y2,y3,y4,y5⟩:=csf6 q11;clear hf q11 r1x9 r2x10 b12
 go_wp2
 obtain⟨hl,rRx,rRy,bR⟩:=HH.out;exact bodyPost_ret (br results80 rfl hl) rfl ⟨_,_,rfl,rRx,rRy,bR⟩
theorem serBegun_W (a b p q x y z:ak)(c1 c2 c3:Int)(w:World)(h1:c1≤0)(h2:c2<0)(h3:0<c3)
  (HP: ∀w1,yB w w1→yC 15 #[yi 20] w1 (BRd w1 a b 0))
  (HL: ∀w1,yB w w1→yC 28 #[yi 20] w1 (BRd w1 p q 0))
  (O1: ∀ao ac w1,yB w w1→Rd w1 .u32 (yT ao a.n ac) (Dg.dg 4294967296 a.n)→yC 27 #[yDV a ao ac] w1 (dr w1 x))
  (O2: ∀bo bc w1,yB w w1→Rd w1 .u32 (yT bo b.n bc) (Dg.dg 4294967296 b.n)→yC 27 #[yDV b bo bc] w1 (dr w1 y))
  (O3: ∀po pc w1,yB w w1→Rd w1 .u32 (yT po p.n pc) (Dg.dg 4294967296 p.n)→yC 27 #[yDV p po pc] w1 (dr w1 z))
  (D1: ∀r xo xc w1,yB w w1→au w1 r 3 [yi 3]→Rd w1 .i64 (yS xo x.n xc) (Dg.dg 65536 x.n)→yC 11 #[ydV false (.slice (some ⟨r,0,none⟩) 1 1) 0,ydV x.s (yS xo x.n xc) x.e] w1 (yR w1 (yi c1)))
  (D2: ∀r yo yc w1,yB w w1→au w1 r 3 [yi 4]→Rd w1 .i64 (yS yo y.n yc) (Dg.dg 65536 y.n)→yC 11 #[ydV y.s (yS yo y.n yc) y.e,ydV false (.slice (some ⟨r,0,none⟩) 1 1) 0] w1 (yR w1 (yi c2)))
  (D3: ∀zo zc w1,yB w w1→Rd w1 .i64 (yS zo z.n zc) (Dg.dg 65536 z.n)→yC 13 #[ydV z.s (yS zo z.n zc) z.e] w1 (yR w1 (yi c3))):
  yC 7 #[] w (yR w (.bool true)):=by
 replace HP:Hid _:=HP;replace HL:Hid _:=HL;replace O1:Hid _:=O1;replace O2:Hid _:=O2;replace O3:Hid _:=O3;replace D1:Hid _:=D1;replace D2:Hid _:=D2;replace D3:Hid _:=D3
 go_enter func7,ntmps7
 have b0:=Below.refl w.heap.size w
 go_wp2_with fail
 refine(HP.out _ b0).mono ?_;rintro zz w1 ⟨v1x3,v2x4,rfl,r1x5,r2x6,bb2⟩;have b7:=aa b0 bb2;obtain⟨ao,ac,hv⟩:=r1x5.shape;subst hv;obtain⟨bo,bc,hv⟩:=r2x6.shape;subst hv;clear b0 bb2 HP;obtain⟨W10,hW9,q11,al8⟩:=cA w1 [.bool a.s,yT ao a.n ac,yi a.e,.bool b.s,yT bo b.n bc,yi b.e] 27;replace hW9:Hid _:=hW9;have hl12:w.heap.size≤w1.heap.size:=b7.size;have r13:=r1x5.l al8;have r14:=r2x6.l al8;have b15:=aa b7 al8;clear r1x5 r2x6 b7 al8
 go_upto_region 2 with fail
 rw[hW9.out];clear hW9
 go_wp2_with fail
 refine(HL.out _ b15).mono ?_;rintro zz w16 ⟨v1x18,v2x19,rfl,r1x20,r2x21,bb17⟩;have q22:=q11.l bb17;have r23:=r13.l bb17;have r24:=r14.l bb17;have b25:=aa b15 bb17;obtain⟨po,pc,hv⟩:=r1x20.shape;subst hv;obtain⟨qo,qc,hv⟩:=r2x21.shape;subst hv;clear q11 r13 r14 b15 bb17 HL;obtain⟨W28,hW27,q29,al26⟩:=cA w16 [.bool p.s,yT po p.n pc,yi p.e,.bool q.s,yT qo q.n qc,yi q.e] 27;replace hW27:Hid _:=hW27;have hl30:w.heap.size≤w16.heap.size:=b25.size;have hl31:=q22.lt;have q32:=q22.l al26;have r33:=r23.l al26;have r34:=r24.l al26;have r35:=r1x20.l al26;have b36:=aa b25 al26;clear q22 r23 r24 r1x20 r2x21 b25 al26
 go_upto_region 3 with fail
 rw[hW27.out];clear hW27;have hl39:=q32.lt;have hl40:=q29.lt;have al37:=af W28 (.cells #[yi 3] 3);have q38:=ah W28 [yi 3] 3;have q41:=q32.l al37;have q42:=q29.l al37;have r43:=r33.l al37;have r44:=r34.l al37;have r45:=r35.l al37;have b46:=aa b36 al37;have al47:=af (W28.alloc (.cells #[yi 3] 3)) (.cells #[yi 4] 3);have q48:=ah (W28.alloc (.cells #[yi 3] 3)) [yi 4] 3;simp only[World.size_alloc] at q48;have q49:=q41.l al47;have q50:=q42.l al47;have q51:=q38.l al47;have r52:=r43.l al47;have r53:=r44.l al47;have r54:=r45.l al47;have b55:=aa b46 al47;obtain⟨W58,hW57,q59,q60,al56⟩:=iG ((W28.alloc (.cells #[yi 3] 3)).alloc (.cells #[yi 4] 3)) (ydL false (.slice (some ⟨W28.heap.size,0,none⟩) 1 1) 0) 35 (ydL false (.slice (some ⟨W28.heap.size+1,0,none⟩) 1 1) 0) 35;replace hW57:Hid _:=hW57;have hl61:w.heap.size≤((W28.alloc (.cells #[yi 3] 3)).alloc (.cells #[yi 4] 3)).heap.size:=b55.size;have hl62:=q49.lt;have hl63:=q50.lt;have hl64:=q51.lt;have hl65:=q48.lt;simp only[World.size_alloc] at q59 q60 hl61 hl62 hl63 hl64 hl65;have q66:=q49.l al56;have q67:=q50.l al56;have q68:=q51.l al56;have q69:=q48.l al56;have r70:=r52.l al56;have r71:=r53.l al56;have r72:=r54.l al56;have b73:=aa b55 al56;clear q49 q50 q51 q48 r52 r53 r54 b55 al56 q32 q29 r33 r34 r35 b36 al37 q41 q42 q38 r43 r44 r45 b46 al47
 go_upto_region 4 with fail
 rw[hW57.out];clear hW57
 go_upto_region 4 with fail
 have bW74:yB W58 W58.drew:=(Below.refl _ _).drew;have q75:=q66.l bW74;have q76:=q67.l bW74;have q77:=q68.l bW74;have q78:=q69.l bW74;have q79:=q59.l bW74;have q80:=q60.l bW74;have r81:=r70.l bW74;have r82:=r71.l bW74;have r83:=r72.l bW74;have b84:=aa b73 bW74;clear q66 q67 q68 q69 q59 q60 r70 r71 r72 b73 bW74;refine wp_region_held_drew (S:=fun wq=>au wq w1.heap.size 27 [.bool a.s,yT ao a.n ac,yi a.e,.bool b.s,yT bo b.n bc,yi b.e]∧au wq w16.heap.size 27 [.bool p.s,yT po p.n pc,yi p.e,.bool q.s,yT qo q.n qc,yi q.e]∧au wq (W28.heap.size+1+1) 35 (ydL false (.slice (some ⟨W28.heap.size,0,none⟩) 1 1) 0)∧au wq (W28.heap.size+1+1+1) 35 (ydL false (.slice (some ⟨W28.heap.size+1,0,none⟩) 1 1) 0)) (by kernel_rfl) ⟨q75,q76,q79,q80⟩ (fun hS0=> ?_)
 generalize W58.drew=WD85 at q75 q76 q77 q78 q79 q80 r81 r82 r83 b84 hS0⊢;refine tq 0 (yi 0) rfl (fun _ _=>by kernel_rfl) hS0 ?_
 refine tq 1 (.bool true) rfl (fun _ _=>by go_simp) hS0 ?_
 refine tq 2 (.bool true) rfl (fun _ _=>by kernel_rfl) hS0 ?_
 refine tq 3 (yi 0) rfl (fun _ _=>by kernel_rfl) hS0 ?_
 refine tq 4 (.bool true) rfl (fun _ _=>by go_simp) hS0 ?_
 refine tq 5 (.bool true) rfl (fun _ _=>by kernel_rfl) hS0 ?_
 refine tq 6 (.bool true) rfl (fun _ _=>by kernel_rfl) hS0 ?_
 refine tq 7 (ydV false (.slice (some ⟨W28.heap.size,0,none⟩) 1 1) 0) rfl (fun _ hw0=>fy 35 (.tmp 5) rfl (W28.heap.size+1+1) 0 (by kernel_rfl) _ _ hw0.2.2.1.range underlying35 rfl (by kernel_rfl)) hS0 ?_
 refine tq 8 (.pointer (some ⟨w1.heap.size,0,none⟩)) rfl (fun _ _=>by kernel_rfl) hS0 ?_
 refine tq 9 (yDV a ao ac) rfl (fun _ hw0=>fy 25 (.tmp 27) rfl w1.heap.size 0 (by kernel_rfl) _ _ (kY hw0.1 0 3 rfl) underlying25 rfl (by kernel_rfl)) hS0 ?_
 refine wpAnyH_ready (rs:=[10]) (by kernel_rfl) (by simp) ?_;refine AllReadyH.cons rfl (fun K hK=> ?_) AllReadyH.nil
 go_simp
 refine(O1.out _ _ _ b84 r81).mono ?_;rintro zz w86 ⟨v1x88,rfl,r1x89,bb87⟩;have q90:=q75.l bb87;have q91:=q76.l bb87;have q92:=q77.l bb87;have q93:=q78.l bb87;have q94:=q79.l bb87;have q95:=q80.l bb87;have r96:=r82.l bb87;have r97:=r83.l bb87;have b98:=aa b84 bb87;obtain⟨xo,xc,hv⟩:=r1x89.shape;subst hv;clear q75 q76 q77 q78 q79 q80 r81 r82 r83 b84 bb87 O1;refine hK.out _ _ ⟨q90,q91,q94,q95⟩ (fun hS99=> ?_)
 clear hK K;refine wpAnyH_ready (rs:=[11]) (by kernel_rfl) (by simp) ?_;refine AllReadyH.cons rfl (fun K hK=> ?_) AllReadyH.nil
 go_simp
 refine(D1.out _ _ _ _ b98 q92 r1x89).mono ?_;rintro zz w100 ⟨rfl,bb101⟩;have q102:=q90.l bb101;have q103:=q91.l bb101;have q104:=q93.l bb101;have q105:=q94.l bb101;have q106:=q95.l bb101;have r107:=r96.l bb101;have r108:=r97.l bb101;have b109:=aa b98 bb101;clear q90 q91 q92 q93 q94 q95 r96 r97 r1x89 b98 bb101 D1;refine hK.out _ _ ⟨q102,q103,q105,q106⟩ (fun hS110=> ?_)
 clear hK K;refine tq 12 (.bool true) rfl (fun _ _=>by go_simp) hS110 ?_
 refine tq 13 (.bool true) rfl (fun _ _=>by kernel_rfl) hS110 ?_
 refine tq 14 (.bool true) rfl (fun _ _=>by kernel_rfl) hS110 ?_
 refine tq 15 (.pointer (some ⟨w1.heap.size,3,none⟩)) rfl (fun _ _=>by kernel_rfl) hS110 ?_
 refine tq 16 (yDV b bo bc) rfl (fun _ hw0=>fy 25 (.tmp 34) rfl w1.heap.size 3 (by kernel_rfl) _ _ (kY hw0.1 3 3 rfl) underlying25 rfl (by kernel_rfl)) hS110 ?_
 refine tq 18 (ydV false (.slice (some ⟨W28.heap.size+1,0,none⟩) 1 1) 0) rfl (fun _ hw0=>fy 35 (.tmp 6) rfl (W28.heap.size+1+1+1) 0 (by kernel_rfl) _ _ hw0.2.2.2.range underlying35 rfl (by kernel_rfl)) hS110 ?_
 refine wpAnyH_ready (rs:=[17]) (by kernel_rfl) (by simp) ?_;refine AllReadyH.cons rfl (fun K hK=> ?_) AllReadyH.nil
 go_simp
 refine(O2.out _ _ _ b109 r107).mono ?_;rintro zz w111 ⟨v1x113,rfl,r1x114,bb112⟩;have q115:=q102.l bb112;have q116:=q103.l bb112;have q117:=q104.l bb112;have q118:=q105.l bb112;have q119:=q106.l bb112;have r120:=r108.l bb112;have b121:=aa b109 bb112;obtain⟨yo,yc,hv⟩:=r1x114.shape;subst hv;clear q102 q103 q104 q105 q106 r107 r108 b109 bb112 O2;refine hK.out _ _ ⟨q115,q116,q118,q119⟩ (fun hS122=> ?_)
 clear hK K;refine wpAnyH_ready (rs:=[19]) (by kernel_rfl) (by simp) ?_;refine AllReadyH.cons rfl (fun K hK=> ?_) AllReadyH.nil
 go_simp
 refine(D2.out _ _ _ _ b121 q117 r1x114).mono ?_;rintro zz w123 ⟨rfl,bb124⟩;have q125:=q115.l bb124;have q126:=q116.l bb124;have q127:=q118.l bb124;have q128:=q119.l bb124;have r129:=r120.l bb124;have b130:=aa b121 bb124;clear q115 q116 q117 q118 q119 r120 r1x114 b121 bb124 D2;refine hK.out _ _ ⟨q125,q126,q127,q128⟩ (fun hS131=> ?_)
 clear hK K;refine tq 20 (.bool true) rfl (fun _ _=>by go_simp) hS131 ?_
 refine tq 21 (.bool true) rfl (fun _ _=>by kernel_rfl) hS131 ?_
 refine tq 22 (.bool true) rfl (fun _ _=>by kernel_rfl) hS131 ?_
 refine tq 23 (.pointer (some ⟨w16.heap.size,0,none⟩)) rfl (fun _ _=>by kernel_rfl) hS131 ?_
 refine tq 24 (yDV p po pc) rfl (fun _ hw0=>fy 25 (.tmp 42) rfl w16.heap.size 0 (by kernel_rfl) _ _ (kY hw0.2.1 0 3 rfl) underlying25 rfl (by kernel_rfl)) hS131 ?_
 refine wpAnyH_ready (rs:=[25]) (by kernel_rfl) (by simp) ?_;refine AllReadyH.cons rfl (fun K hK=> ?_) AllReadyH.nil
 go_simp
 refine(O3.out _ _ _ b130 r129).mono ?_;rintro zz w132 ⟨v1x134,rfl,r1x135,bb133⟩;have q136:=q125.l bb133;have q137:=q126.l bb133;have q138:=q127.l bb133;have q139:=q128.l bb133;have b140:=aa b130 bb133;obtain⟨zo,zc,hv⟩:=r1x135.shape;subst hv;clear q125 q126 q127 q128 r129 b130 bb133 O3;refine hK.out _ _ ⟨q136,q137,q138,q139⟩ (fun hS141=> ?_)
 clear hK K;refine wpAnyH_ready (rs:=[26]) (by kernel_rfl) (by simp) ?_;refine AllReadyH.cons rfl (fun K hK=> ?_) AllReadyH.nil
 go_simp
 refine(D3.out _ _ _ b140 r1x135).mono ?_;rintro zz w142 ⟨rfl,bb143⟩;have q144:=q136.l bb143;have q145:=q137.l bb143;have q146:=q138.l bb143;have q147:=q139.l bb143;have b148:=aa b140 bb143;clear q136 q137 q138 q139 r1x135 b140 bb143 D3;refine hK.out _ _ ⟨q144,q145,q146,q147⟩ (fun hS149=> ?_)
 clear hK K;refine tq 27 (.bool true) rfl (fun _ _=>by go_simp) hS149 ?_
 refine tq 28 (.bool true) rfl (fun _ _=>by kernel_rfl) hS149 ?_
 refine tq 29 (.bool true) rfl (fun _ _=>by kernel_rfl) hS149 ?_
 refine wpAnyH_done (by kernel_rfl) ?_ _;clear hS0 hS99 hS110 hS122 hS131 hS141 hS149;simp only[Act.put,List.getElem_toArray,List.getElem_cons_succ,List.getElem_cons_zero,List.setIfInBounds_toArray,List.set_cons_zero,List.set_cons_succ]
 go_wp2
 go_ret
 exact⟨by simp,b148⟩
end Go.Proofs.YtiakgfmlpdfhdaaGreatDoor

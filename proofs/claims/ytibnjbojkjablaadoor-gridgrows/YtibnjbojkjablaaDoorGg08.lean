/-
  Texts laid together: Dy4, Gr1, GrP.
-/
import Derived.Test.YtibnjbojkjablaaDoorGg07
set_option maxRecDepth 100000
set_option maxHeartbeats 3200000
namespace Go.Proofs.YtibnjbojkjablaaDoor
open Go.RowKit
theorem CE (n:Nat)(i:Int)(h:0≤i):shN n i=n*2^i.toNat:=by
 unfold shN;rw[if_neg (by omega)]
theorem Zm (ts:Bool)(ao:Option Addr)(ca n:Nat)(e x:Int)(w:World)(hr:Rd w .u32 (.slice ao (Dg.dg 4294967296 n).length ca) (Dg.dg 4294967296 n))(hL:(Dg.dg 4294967296 n).length≤500000)
  (_h1: -1000000≤e) (_h2:e≤1000000) (_h3: -1000000≤x) (h4:x≤e) (h5:e-x≤1000000):
  yC 69 #[ydV ts (.slice ao (Dg.dg 4294967296 n).length ca) e,yi x] w (Num w (n*2^ (e-x).toNat)):=by
 have HSH:Hid (∀w1,yB w w1→yC 46 #[.slice ao (Dg.dg 4294967296 n).length ca,yi (e-x)] w1 (Num w1 (n*2^ (e-x).toNat))):=fun w1 b1=>by
  have:=eO _ _ (e-x) w1 (hr.l b1) (Dg.small_dg _ _ (by omega)) (by omega) (by omega) (by omega)
  rwa [Dg.vl_dg _ _ (by omega),CE n _ (by omega)] at this
 obtain⟨m,hm⟩: ∃m,(Dg.dg 4294967296 n).length=m:=⟨_,rfl⟩;obtain⟨q,hq⟩: ∃q,n*2^ (e-x).toNat=q:=⟨_,rfl⟩;rw[hm,hq] at HSH⊢;clear hm hr hL hq;have l1:=aA w (.bool ts) (.slice ao m ca) (yi e) 57;have bA:=af w (.cells (ydA ts (.slice ao m ca) e) 57);have bd:Below (w.alloc (.cells (ydA ts (.slice ao m ca) e) 57)).heap.size (w.alloc (.cells (ydA ts (.slice ao m ca) e) 57)) (w.alloc (.cells (ydA ts (.slice ao m ca) e) 57)).drew:=(Below.refl _ _).drew;have l1:=l1.l bd;have b02:=aa bA bd;clear bA bd;have e3:IntKind.i64.wrap (e-x)=e-x:=IntWalk.i64_in _ ⟨by omega,by omega⟩;obtain⟨-,⟨c0,c1,c2⟩,-⟩:=id l1
 go_enter Tryd.func69,Tryd.ntmps69
 go_wp2_with fail
 go_region_held3 (fun wq=>wq.cell? ⟨w.heap.size,0,none⟩=some (.bool ts)∧wq.cell? ⟨w.heap.size,1,none⟩=some (.slice ao m ca)∧wq.cell? ⟨w.heap.size,2,none⟩=some (yi e)) (go_keep) (first
  | (go_at_call 67;refine(cN ts ao m ca e _).mono ?_;rintro x w3 ⟨rfl,b3⟩;have l13:=l1.l b3;have b03:=aa b02 b3;obtain⟨-,⟨p0,p1,p2⟩,-⟩:=id l13)
  | (go_at_call 46;refine(HSH.out _ b03).mono ?_;rintro x w4 ⟨vs,rfl,own4,b4⟩;have l14:=l13.l b4;have b04:=aa b03 b4;obtain⟨-,⟨q0,q1,q2⟩,-⟩:=id l14))
 all_goals go_wp2
 go_ret
 exact⟨_,rfl,own4.lower b03.size,b04⟩
theorem CF (n k L j:Nat)(h:(Dg.dg 4294967296 n).length≤L)(hk:k≤32*j):(Dg.dg 4294967296 (n*2^k)).length≤L+j:=by
 apply Dg.dg_len_le 4294967296 _ _ (by omega);have h1:=Dg.vl_lt 4294967296 (Dg.dg 4294967296 n) (Dg.small_dg _ _ (by omega));rw[Dg.vl_dg _ _ (by omega)] at h1;have h2:4294967296^ (Dg.dg 4294967296 n).length≤4294967296^L:=Nat.pow_le_pow_right (by omega) h;have h3:2^k≤4294967296^j:=by
  rw[show(4294967296:Nat)=2^32 from rfl,←Nat.pow_mul]
  exact Nat.pow_le_pow_right (by omega) (by omega)
 rw[Nat.pow_add];have h4:0<4294967296^j:=Nat.pow_pos (by omega);generalize 4294967296^j=c at*;generalize 4294967296^L=d at*;have h5:n*2^k≤n*c:=Nat.mul_le_mul_left _ h3;have h6:n*c<d*c:=Nat.mul_lt_mul_of_pos_right (by omega) h4;omega
theorem uj (v u:Value)(a b:ak)(w:World)(hv:Dv w v a)(hu:Dv w u b)(hLa:(Dg.dg 4294967296 a.n).length≤100000)(hLb:(Dg.dg 4294967296 b.n).length≤100000)
  (ha1: -100000≤a.e) (ha2:a.e≤100000) (hb1: -100000≤b.e) (hb2:b.e≤100000):
  yC 54 #[v,u] w (jN w (aG a b)):=by
 obtain⟨s0,rfl,ra⟩:=hv;obtain⟨ao,ca,rfl⟩:=ra.shape;obtain⟨s1,rfl,rb⟩:=hu;obtain⟨bo,cb,rfl⟩:=rb.shape;obtain⟨sa,an,ae⟩:=a;obtain⟨sb,bn,be⟩:=b;simp only at ra rb hLa hLb ha1 ha2 hb1 hb2⊢;have HATA:Hid (∀w1,yB w w1→yC 69 #[ydV sa (.slice ao (Dg.dg 4294967296 an).length ca) ae,yi (min ae be)] w1 (Num w1 (an*2^ (ae-min ae be).toNat))):=fun w1 b1=>
  Zm sa ao ca an ae (min ae be) w1 (ra.l b1) (by omega) (by omega) (by omega) (by omega) (by omega) (by omega)
 have HATB:Hid (∀w1,yB w w1→yC 69 #[ydV sb (.slice bo (Dg.dg 4294967296 bn).length cb) be,yi (min ae be)] w1 (Num w1 (bn*2^ (be-min ae be).toNat))):=fun w1 b1=>
  Zm sb bo cb bn be (min ae be) w1 (rb.l b1) (by omega) (by omega) (by omega) (by omega) (by omega) (by omega)
 have lX:=CF an (ae-min ae be).toNat 100000 6251 hLa (by omega);have lY:=CF bn (be-min ae be).toNat 100000 6251 hLb (by omega);unfold aG;simp only;obtain⟨X,hX⟩: ∃X,an*2^ (ae-min ae be).toNat=X:=⟨_,rfl⟩;obtain⟨Y,hY⟩: ∃Y,bn*2^ (be-min ae be).toNat=Y:=⟨_,rfl⟩;obtain⟨ma,hma⟩: ∃m,(Dg.dg 4294967296 an).length=m:=⟨_,rfl⟩;obtain⟨mb,hmb⟩: ∃m,(Dg.dg 4294967296 bn).length=m:=⟨_,rfl⟩;rw[hX] at HATA lX⊢;rw[hY] at HATB lY⊢;rw[hma] at HATA⊢;rw[hmb] at HATB⊢;obtain⟨x,hx⟩: ∃x,min ae be=x:=⟨_,rfl⟩;have HX:Hid _:=hx;have HPL:Hid (∀v1 v2 w1,Rd w1 .u32 v1 (Dg.dg 4294967296 X)→Rd w1 .u32 v2 (Dg.dg 4294967296 Y)→yC 49 #[v1,v2] w1 (Num w1 (X+Y))):=fun v1 v2 w1 h1 h2=>by
  have:=rj v1 v2 _ _ w1 h1 h2 (Dg.small_dg _ _ (by omega)) (Dg.small_dg _ _ (by omega)) (by omega) (by omega)
  rwa [Dg.vl_dg _ _ (by omega),Dg.vl_dg _ _ (by omega)] at this
 have HCM:Hid (∀v1 v2 w1,Rd w1 .u32 v1 (Dg.dg 4294967296 X)→Rd w1 .u32 v2 (Dg.dg 4294967296 Y)→yC 47 #[v1,v2] w1 (yR w1 (yi (dm X Y)))):=fun v1 v2 w1 h1 h2=>by
  have:=jF v1 v2 _ _ w1 h1 h2 (Dg.small_dg _ _ (by omega)) (Dg.small_dg _ _ (by omega)) (Dg.norm_dg _ _ (by omega)) (Dg.norm_dg _ _ (by omega))
  rwa [Dg.vl_dg _ _ (by omega),Dg.vl_dg _ _ (by omega)] at this
 have HMI:Hid (∀P Q v1 v2 w1,P≤Q→(Dg.dg 4294967296 Q).length≤500000→Rd w1 .u32 v1 (Dg.dg 4294967296 Q)→Rd w1 .u32 v2 (Dg.dg 4294967296 P)→yC 70 #[v1,v2] w1 (Num w1 (Q-P))):=fun P Q v1 v2 w1 hle hl h1 h2=>by
  have:=zL v1 v2 _ _ w1 h1 h2 (Dg.small_dg _ _ (by omega)) (Dg.small_dg _ _ (by omega)) (by omega) (aH _ _ _ (by omega) hle) (by rw[Dg.vl_dg _ _ (by omega),Dg.vl_dg _ _ (by omega)];exact hle)
  rwa [Dg.vl_dg _ _ (by omega),Dg.vl_dg _ _ (by omega)] at this
 clear hX hY hma hmb hx ra rb hLa hLb;obtain⟨A,hA⟩: ∃A,w.alloc (.cells (ydA sa (.slice ao ma ca) ae) 57)=A:=⟨_,rfl⟩;have la:=aA w (.bool sa) (.slice ao ma ca) (yi ae) 57;have bA:=af w (.cells (ydA sa (.slice ao ma ca) ae) 57);have sA:A.heap.size=w.heap.size+1:=by rw[←hA,World.size_alloc]
 rw[hA] at la bA;obtain⟨B,hB⟩: ∃B,A.alloc (.cells (ydA sb (.slice bo mb cb) be) 57)=B:=⟨_,rfl⟩;have lb:=aA A (.bool sb) (.slice bo mb cb) (yi be) 57;have bB:=af A (.cells (ydA sb (.slice bo mb cb) be) 57);have sB:B.heap.size=w.heap.size+1+1:=by rw[←hB,World.size_alloc,sA]
 rw[hB] at lb bB;rw[sA] at lb;have lc:=aA B (.bool false) (.slice none 0 0) (yi 0) 57;have bC:=af B (.cells (ydA false (.slice none 0 0) 0) 57);rw[sB] at lc;have bd:Below (B.alloc (.cells (ydA false (.slice none 0 0) 0) 57)).heap.size (B.alloc (.cells (ydA false (.slice none 0 0) 0) 57)) (B.alloc (.cells (ydA false (.slice none 0 0) 0) 57)).drew:=(Below.refl _ _).drew;have la:=((la.l bB).l bC).l bd;have lb:=(lb.l bC).l bd;have lc:=lc.l bd;have b02:=aa (aa (aa bA bB) bC) bd;rw[←hB,←hA] at la lb lc b02;clear bA bB bC bd sA sB hA hB;have ne3:w.heap.size+1+1≠w.heap.size:=by omega
 have ne4:w.heap.size≠w.heap.size+1+1:=by omega
 by_cases hs:sa=sb
 ·subst hs
  rw[if_pos rfl]
  go_enter Tryd.func54,Tryd.ntmps54
  obtain⟨-,⟨ca0,ca1,ca2⟩,-⟩:=id la;obtain⟨-,⟨cb0,cb1,cb2⟩,-⟩:=id lb
  go_wp2_with fail
  go_region_held3 (fun wq=>(wq.cell? ⟨w.heap.size,0,none⟩=some (.bool sa)∧wq.cell? ⟨w.heap.size,1,none⟩=some (.slice ao ma ca)∧wq.cell? ⟨w.heap.size,2,none⟩=some (yi ae))∧wq.cell? ⟨w.heap.size+1,0,none⟩=some (.bool sa)∧wq.cell? ⟨w.heap.size+1,1,none⟩=some (.slice bo mb cb)∧wq.cell? ⟨w.heap.size+1,2,none⟩=some (yi be)) (go_keep) (first
   | (go_at_call 69;refine(HATA.out _ b02).mono ?_;rintro z w3 ⟨v1,rfl,o1,b3⟩;have la3:=la.l b3;have lb3:=lb.l b3;have lc3:=lc.l b3;have b03:=aa b02 b3;obtain⟨-,⟨p0,p1,p2⟩,-⟩:=id la3;obtain⟨-,⟨p3,p4,p5⟩,-⟩:=id lb3;clear b02)
   | (go_at_call 69;refine(HATB.out _ b03).mono ?_;rintro z w4 ⟨v2,rfl,o2,b4⟩;have la4:=la3.l b4;have lb4:=lb3.l b4;have lc4:=lc3.l b4;have b04:=aa b03 b4;obtain⟨-,⟨q0,q1,q2⟩,-⟩:=id la4;obtain⟨-,⟨q3,q4,q5⟩,-⟩:=id lb4))
  clear la lb lc la3 lb3 lc3 p0 p1 p2 p3 p4 p5 ca0 ca1 ca2 cb0 cb1 cb2 b03;have r1:=(o1.l b4).rd;have r2:=o2.rd;clear o1 o2 b3 b4;have bd:yB w4 w4.drew:=(Below.refl _ _).drew;have la5:=la4.l bd;have lb5:=lb4.l bd;have lc5:=lc4.l bd;have b05:=aa b04 bd;have r1:=r1.l bd;have r2:=r2.l bd;obtain⟨-,⟨c0,c1,c2⟩,-⟩:=id la5;obtain⟨-,⟨c3,c4,c5⟩,-⟩:=id lb5;clear la4 lb4 lc4 bd q0 q1 q2 q3 q4 q5
  go_wp2
  go_region_held3 (fun wq=>wq.cell? ⟨w.heap.size,0,none⟩=some (.bool sa)) (go_keep) (first
   | (go_at_call 49;refine(HPL.out v1 v2 _ r1 r2).mono ?_;rintro z w6 ⟨vs,rfl,o6,b6⟩;have la6:=la5.l b6;have lb6:=lb5.l b6;have lc6:=lc5.l b6;have b06:=aa b05 b6;obtain⟨so,sc,hvs⟩:=o6.rd.shape;subst hvs;obtain⟨-,⟨t0,t1,t2⟩,-⟩:=id la6;clear r1)
   | (go_at_call 51;refine(l9 sa so _ sc _ _).mono ?_;rintro z w7 ⟨rfl,b7⟩;have la7:=la6.l b7;have lb7:=lb6.l b7;have lc7:=lc6.l b7;have b07:=aa b06 b7;obtain⟨-,⟨u0,u1,u2⟩,-⟩:=id la7;obtain⟨hl7,⟨d0,d1,d2⟩,f0,f1,f2⟩:=id lc7))
  all_goals go_wp2
  obtain⟨-,⟨g0,g1,g2⟩,-⟩:=aD lc7 (.bool sa) (.slice so (Dg.dg 4294967296 (X+Y)).length sc) (yi (min ae be));have o7:=(o6.l b7).apart3 (b:=w.heap.size+1+1) lc5.1 (.bool sa) (.slice so (Dg.dg 4294967296 (X+Y)).length sc) (yi (min ae be));have b8:=am b07 (show w.heap.size≤w.heap.size+1+1 by omega) (.bool sa) (.slice so (Dg.dg 4294967296 (X+Y)).length sc) (yi (min ae be))
  refine bodyPost_ret (v:=(ydV sa (.slice so (Dg.dg 4294967296 (X+Y)).length sc) (min ae be))) (by simp[results,Tryd.results54,go_sem,g0,g1,g2]) rfl ?_;exact⟨_,rfl,o7.lower b05.size,b8⟩
 ·rw[if_neg hs]
  have hsb:(sa==sb)=false:=by simp[hs]
  by_cases hlt:X<Y
  ·rw[if_pos hlt]
   rw[gX (by omega)] at HCM
   go_enter Tryd.func54,Tryd.ntmps54
   obtain⟨-,⟨ca0,ca1,ca2⟩,-⟩:=id la;obtain⟨-,⟨cb0,cb1,cb2⟩,-⟩:=id lb
   go_wp2_with fail
   go_region_held3 (fun wq=>(wq.cell? ⟨w.heap.size,0,none⟩=some (.bool sa)∧wq.cell? ⟨w.heap.size,1,none⟩=some (.slice ao ma ca)∧wq.cell? ⟨w.heap.size,2,none⟩=some (yi ae))∧wq.cell? ⟨w.heap.size+1,0,none⟩=some (.bool sb)∧wq.cell? ⟨w.heap.size+1,1,none⟩=some (.slice bo mb cb)∧wq.cell? ⟨w.heap.size+1,2,none⟩=some (yi be)) (go_keep) (first
    | (go_at_call 69;refine(HATA.out _ b02).mono ?_;rintro z w3 ⟨v1,rfl,o1,b3⟩;have la3:=la.l b3;have lb3:=lb.l b3;have lc3:=lc.l b3;have b03:=aa b02 b3;obtain⟨-,⟨p0,p1,p2⟩,-⟩:=id la3;obtain⟨-,⟨p3,p4,p5⟩,-⟩:=id lb3;clear b02)
    | (go_at_call 69;refine(HATB.out _ b03).mono ?_;rintro z w4 ⟨v2,rfl,o2,b4⟩;have la4:=la3.l b4;have lb4:=lb3.l b4;have lc4:=lc3.l b4;have b04:=aa b03 b4;obtain⟨-,⟨q0,q1,q2⟩,-⟩:=id la4;obtain⟨-,⟨q3,q4,q5⟩,-⟩:=id lb4))
   clear la lb lc la3 lb3 lc3 p0 p1 p2 p3 p4 p5 ca0 ca1 ca2 cb0 cb1 cb2 b03;have r1:=(o1.l b4).rd;have r2:=o2.rd;clear o1 o2 b3 b4
   go_wp2_with fail
   refine(HCM.out v1 v2 w4 r1 r2).mono ?_;rintro z w9 ⟨rfl,b9⟩;have la4:=la4.l b9;have lb4:=lb4.l b9;have lc4:=lc4.l b9;have b04:=aa b04 b9;have r1:=r1.l b9;have r2:=r2.l b9;clear b9;have bd:yB w9 w9.drew:=(Below.refl _ _).drew;have la5:=la4.l bd;have lb5:=lb4.l bd;have lc5:=lc4.l bd;have b05:=aa b04 bd;have r1:=r1.l bd;have r2:=r2.l bd;obtain⟨-,⟨c0,c1,c2⟩,-⟩:=id la5;obtain⟨-,⟨c3,c4,c5⟩,-⟩:=id lb5;clear la4 lb4 lc4 bd q0 q1 q2 q3 q4 q5
   go_wp2
   go_region_held3 (fun wq=>wq.cell? ⟨w.heap.size+1,0,none⟩=some (.bool sb)) (go_keep) (first
    | (go_at_call 70;refine(HMI.out X Y v2 v1 _ (by omega) (by omega) r2 r1).mono ?_;rintro z w6 ⟨vs,rfl,o6,b6⟩;have la6:=la5.l b6;have lb6:=lb5.l b6;have lc6:=lc5.l b6;have b06:=aa b05 b6;obtain⟨so,sc,hvs⟩:=o6.rd.shape;subst hvs;obtain⟨-,⟨t0,t1,t2⟩,-⟩:=id lb6;clear r1)
    | (go_at_call 51;refine(l9 sb so _ sc _ _).mono ?_;rintro z w7 ⟨rfl,b7⟩;have la7:=la6.l b7;have lb7:=lb6.l b7;have lc7:=lc6.l b7;have b07:=aa b06 b7;obtain⟨-,⟨u0,u1,u2⟩,-⟩:=id lb7;obtain⟨hl7,⟨d0,d1,d2⟩,f0,f1,f2⟩:=id lc7))
   all_goals go_wp2
   obtain⟨-,⟨g0,g1,g2⟩,-⟩:=aD lc7 (.bool sb) (.slice so (Dg.dg 4294967296 (Y-X)).length sc) (yi (min ae be));have o7:=(o6.l b7).apart3 (b:=w.heap.size+1+1) lc5.1 (.bool sb) (.slice so (Dg.dg 4294967296 (Y-X)).length sc) (yi (min ae be));have b8:=am b07 (show w.heap.size≤w.heap.size+1+1 by omega) (.bool sb) (.slice so (Dg.dg 4294967296 (Y-X)).length sc) (yi (min ae be))
   refine bodyPost_ret (v:=(ydV sb (.slice so (Dg.dg 4294967296 (Y-X)).length sc) (min ae be))) (by simp[results,Tryd.results54,go_sem,g0,g1,g2]) rfl ?_;exact⟨_,rfl,o7.lower b05.size,b8⟩
  ·rw[if_neg hlt]
   have hd:=abX (a:=(X:Int)) (b:=(Y:Int)) (by omega);obtain⟨r,hr⟩: ∃r,dm X Y=r:=⟨_,rfl⟩;rw[hr] at hd HCM;clear hr
   go_enter Tryd.func54,Tryd.ntmps54
   obtain⟨-,⟨ca0,ca1,ca2⟩,-⟩:=id la;obtain⟨-,⟨cb0,cb1,cb2⟩,-⟩:=id lb
   go_wp2_with fail
   go_region_held3 (fun wq=>(wq.cell? ⟨w.heap.size,0,none⟩=some (.bool sa)∧wq.cell? ⟨w.heap.size,1,none⟩=some (.slice ao ma ca)∧wq.cell? ⟨w.heap.size,2,none⟩=some (yi ae))∧wq.cell? ⟨w.heap.size+1,0,none⟩=some (.bool sb)∧wq.cell? ⟨w.heap.size+1,1,none⟩=some (.slice bo mb cb)∧wq.cell? ⟨w.heap.size+1,2,none⟩=some (yi be)) (go_keep) (first
    | (go_at_call 69;refine(HATA.out _ b02).mono ?_;rintro z w3 ⟨v1,rfl,o1,b3⟩;have la3:=la.l b3;have lb3:=lb.l b3;have lc3:=lc.l b3;have b03:=aa b02 b3;obtain⟨-,⟨p0,p1,p2⟩,-⟩:=id la3;obtain⟨-,⟨p3,p4,p5⟩,-⟩:=id lb3;clear b02)
    | (go_at_call 69;refine(HATB.out _ b03).mono ?_;rintro z w4 ⟨v2,rfl,o2,b4⟩;have la4:=la3.l b4;have lb4:=lb3.l b4;have lc4:=lc3.l b4;have b04:=aa b03 b4;obtain⟨-,⟨q0,q1,q2⟩,-⟩:=id la4;obtain⟨-,⟨q3,q4,q5⟩,-⟩:=id lb4))
   clear la lb lc la3 lb3 lc3 p0 p1 p2 p3 p4 p5 ca0 ca1 ca2 cb0 cb1 cb2 b03;have r1:=(o1.l b4).rd;have r2:=o2.rd;clear o1 o2 b3 b4
   go_wp2_with fail
   refine(HCM.out v1 v2 w4 r1 r2).mono ?_;rintro z w9 ⟨rfl,b9⟩;have la4:=la4.l b9;have lb4:=lb4.l b9;have lc4:=lc4.l b9;have b04:=aa b04 b9;have r1:=r1.l b9;have r2:=r2.l b9;clear b9;have bd:yB w9 w9.drew:=(Below.refl _ _).drew;have la5:=la4.l bd;have lb5:=lb4.l bd;have lc5:=lc4.l bd;have b05:=aa b04 bd;have r1:=r1.l bd;have r2:=r2.l bd;obtain⟨-,⟨c0,c1,c2⟩,-⟩:=id la5;obtain⟨-,⟨c3,c4,c5⟩,-⟩:=id lb5;clear la4 lb4 lc4 bd q0 q1 q2 q3 q4 q5
   go_wp2
   go_region_held3 (fun wq=>wq.cell? ⟨w.heap.size,0,none⟩=some (.bool sa)) (go_keep) (first
    | (go_at_call 70;refine(HMI.out Y X v1 v2 _ (by omega) (by omega) r1 r2).mono ?_;rintro z w6 ⟨vs,rfl,o6,b6⟩;have la6:=la5.l b6;have lb6:=lb5.l b6;have lc6:=lc5.l b6;have b06:=aa b05 b6;obtain⟨so,sc,hvs⟩:=o6.rd.shape;subst hvs;obtain⟨-,⟨t0,t1,t2⟩,-⟩:=id la6;clear r1)
    | (go_at_call 51;refine(l9 sa so _ sc _ _).mono ?_;rintro z w7 ⟨rfl,b7⟩;have la7:=la6.l b7;have lb7:=lb6.l b7;have lc7:=lc6.l b7;have b07:=aa b06 b7;obtain⟨-,⟨u0,u1,u2⟩,-⟩:=id la7;obtain⟨hl7,⟨d0,d1,d2⟩,f0,f1,f2⟩:=id lc7))
   all_goals go_wp2
   obtain⟨-,⟨g0,g1,g2⟩,-⟩:=aD lc7 (.bool sa) (.slice so (Dg.dg 4294967296 (X-Y)).length sc) (yi (min ae be));have o7:=(o6.l b7).apart3 (b:=w.heap.size+1+1) lc5.1 (.bool sa) (.slice so (Dg.dg 4294967296 (X-Y)).length sc) (yi (min ae be));have b8:=am b07 (show w.heap.size≤w.heap.size+1+1 by omega) (.bool sa) (.slice so (Dg.dg 4294967296 (X-Y)).length sc) (yi (min ae be))
   refine bodyPost_ret (v:=(ydV sa (.slice so (Dg.dg 4294967296 (X-Y)).length sc) (min ae be))) (by simp[results,Tryd.results54,go_sem,g0,g1,g2]) rfl ?_;exact⟨_,rfl,o7.lower b05.size,b8⟩
def eJ (m n:Int):Bool:=decide (n< -m)||decide (m<n)
theorem nK (n m:Int)(w:World)(h0:0≤m)(h1:m≤1000000):yC 27 #[yi n,yi m] w fun z w'=>z= .returned (.bool (eJ m n))∧w'=w:=by
 have hw:IntKind.i64.wrap (-m)= -m:=IntWalk.i64_in _ ⟨by omega,by omega⟩;unfold eJ
 by_cases h:n< -m
 ·go_enter Tryd.func27,Tryd.ntmps27
  go_wp2
  go_ret
  simp[h]
 ·go_enter Tryd.func27,Tryd.ntmps27
  go_wp2
  go_ret
  simp;omega
def xa (R:Int):Int:=if R=16 then 4000 else 17000
def bk (R D L G:Int):Int:=if R=2∨R=16 then(if D<1∨120<D∨eJ (xa R) L=true∨eJ (xa R) G=true∨G<L then 3 else 0) else 6
theorem FD {R D L G:Int}(h1: ¬R=2)(h2: ¬R=16):bk R D L G=6:=if_neg (fun h=>h.elim h1 h2)
theorem zp {R D L G:Int}(h:R=2∨R=16)(hb:D<1∨120<D∨eJ (xa R) L=true∨eJ (xa R) G=true∨G<L):bk R D L G=3:=(if_pos h).trans (if_pos hb)
theorem Bm {R D L G:Int}(h:R=2∨R=16)(hb: ¬(D<1∨120<D∨eJ (xa R) L=true∨eJ (xa R) G=true∨G<L)):bk R D L G=0:=(if_pos h).trans (if_neg hb)
theorem cB {R D L G:Int}(h:bk R D L G=0):(R=2∨R=16)∧1≤D∧D≤120∧ -17000≤L∧L≤17000∧ -17000≤G∧G≤17000∧L≤G∧(R=16→ -4000≤L∧G≤4000):=by
 unfold bk at h
 split at h
 ·rename_i h1
  split at h
  ·omega
  ·rename_i h2
   have f1:eJ (xa R) L=false:=by
    cases hc:eJ (xa R) L
    ·rfl
    ·exact absurd (.inr (.inr (.inl hc))) h2
   have f2:eJ (xa R) G=false:=by
    cases hc:eJ (xa R) G
    ·rfl
    ·exact absurd (.inr (.inr (.inr (.inl hc)))) h2
   unfold eJ xa at f1 f2;simp only[Bool.or_eq_false_iff,decide_eq_false_iff_not] at f1 f2;refine⟨h1,by omega,by omega, ?_⟩
   split at f1<;>split at f2<;>first|omega| (refine⟨by omega,by omega,by omega,by omega,by omega,fun _=>by omega⟩)
 ·omega
theorem MW (D L G:Int)(gr:Bool)(w:World):
  yC 26 #[ygV 2 D L G gr] w (yR w (yi (bk 2 D L G))):=by
 have bA:=af w (.cells (ygA 2 D L G gr) 27);have l1:=ah w (ygL 2 D L G gr) 27;have c1:=l1.c 1 rfl;have c2:=l1.c 2 rfl;have c3:=l1.c 3 rfl;obtain⟨C,hC⟩: ∃C,bk 2 D L G=C:=⟨_,rfl⟩;have HC3:Hid (D<1∨120<D∨eJ 17000 L=true∨eJ 17000 G=true∨G<L→3=C):=fun h=>by rw[←hC];exact(zp (R:=2) (by omega) h).symm
 have HC0:Hid (¬(D<1∨120<D∨eJ 17000 L=true∨eJ 17000 G=true∨G<L)→0=C):=fun h=>by rw[←hC];exact(Bm (R:=2) (by omega) h).symm
 rw[hC];have H1:Hid (∀w1,yC 27 #[yi L,yi 17000] w1 fun z w'=>z= .returned (.bool (eJ 17000 L))∧w'=w1):=fun w1=>nK L 17000 w1 (by omega) (by omega)
 have H2:Hid (∀w1,yC 27 #[yi G,yi 17000] w1 fun z w'=>z= .returned (.bool (eJ 17000 G))∧w'=w1):=fun w1=>nK G 17000 w1 (by omega) (by omega)
 obtain⟨bl,hbl⟩: ∃b,eJ 17000 L=b:=⟨_,rfl⟩;obtain⟨bg,hbg⟩: ∃b,eJ 17000 G=b:=⟨_,rfl⟩;rw[hbl] at H1 HC3 HC0;rw[hbg] at H2 HC3 HC0;clear hC hbl hbg
 by_cases d1:D<1
 ·obtain rfl:=HC3.out (.inl d1)
  go_enter Tryd.func26,Tryd.ntmps26
  go_wp2
  go_ret
  exact⟨rfl,bA⟩
 ·by_cases d2:120<D
  ·obtain rfl:=HC3.out (.inr (.inl d2))
   go_enter Tryd.func26,Tryd.ntmps26
   go_wp2
   go_ret
   exact⟨rfl,bA⟩
  ·cases bl
   ·cases bg
    ·by_cases d3:G<L
     ·obtain rfl:=HC3.out (.inr (.inr (.inr (.inr d3))))
      go_enter Tryd.func26,Tryd.ntmps26
      go_wp2_with fail
      refine(H1.out _).mono ?_;rintro z w2 ⟨rfl,rfl⟩
      go_wp2_with fail
      refine(H2.out _).mono ?_;rintro z w3 ⟨rfl,rfl⟩
      go_wp2
      go_ret
      exact⟨rfl,bA⟩
     ·obtain rfl:=HC0.out (by simp[d1,d2,d3])
      go_enter Tryd.func26,Tryd.ntmps26
      go_wp2_with fail
      refine(H1.out _).mono ?_;rintro z w2 ⟨rfl,rfl⟩
      go_wp2_with fail
      refine(H2.out _).mono ?_;rintro z w3 ⟨rfl,rfl⟩
      go_wp2
      go_ret
      exact⟨rfl,bA⟩
    ·obtain rfl:=HC3.out (.inr (.inr (.inr (.inl rfl))))
     go_enter Tryd.func26,Tryd.ntmps26
     go_wp2_with fail
     refine(H1.out _).mono ?_;rintro z w2 ⟨rfl,rfl⟩
     go_wp2_with fail
     refine(H2.out _).mono ?_;rintro z w3 ⟨rfl,rfl⟩
     go_wp2
     go_ret
     exact⟨rfl,bA⟩
   ·obtain rfl:=HC3.out (.inr (.inr (.inl rfl)))
    go_enter Tryd.func26,Tryd.ntmps26
    go_wp2_with fail
    refine(H1.out _).mono ?_;rintro z w2 ⟨rfl,rfl⟩
    go_wp2
    go_ret
    exact⟨rfl,bA⟩
theorem Ky (D L G:Int)(gr:Bool)(w:World):
  yC 26 #[ygV 16 D L G gr] w (yR w (yi (bk 16 D L G))):=by
 have bA:=af w (.cells (ygA 16 D L G gr) 27);have l1:=ah w (ygL 16 D L G gr) 27;have c1:=l1.c 1 rfl;have c2:=l1.c 2 rfl;have c3:=l1.c 3 rfl;obtain⟨C,hC⟩: ∃C,bk 16 D L G=C:=⟨_,rfl⟩;have HC3:Hid (D<1∨120<D∨eJ 4000 L=true∨eJ 4000 G=true∨G<L→3=C):=fun h=>by rw[←hC];exact(zp (R:=16) (by omega) h).symm
 have HC0:Hid (¬(D<1∨120<D∨eJ 4000 L=true∨eJ 4000 G=true∨G<L)→0=C):=fun h=>by rw[←hC];exact(Bm (R:=16) (by omega) h).symm
 rw[hC];have H1:Hid (∀w1,yC 27 #[yi L,yi 4000] w1 fun z w'=>z= .returned (.bool (eJ 4000 L))∧w'=w1):=fun w1=>nK L 4000 w1 (by omega) (by omega)
 have H2:Hid (∀w1,yC 27 #[yi G,yi 4000] w1 fun z w'=>z= .returned (.bool (eJ 4000 G))∧w'=w1):=fun w1=>nK G 4000 w1 (by omega) (by omega)
 obtain⟨bl,hbl⟩: ∃b,eJ 4000 L=b:=⟨_,rfl⟩;obtain⟨bg,hbg⟩: ∃b,eJ 4000 G=b:=⟨_,rfl⟩;rw[hbl] at H1 HC3 HC0;rw[hbg] at H2 HC3 HC0;clear hC hbl hbg
 by_cases d1:D<1
 ·obtain rfl:=HC3.out (.inl d1)
  go_enter Tryd.func26,Tryd.ntmps26
  go_wp2
  go_ret
  exact⟨rfl,bA⟩
 ·by_cases d2:120<D
  ·obtain rfl:=HC3.out (.inr (.inl d2))
   go_enter Tryd.func26,Tryd.ntmps26
   go_wp2
   go_ret
   exact⟨rfl,bA⟩
  ·cases bl
   ·cases bg
    ·by_cases d3:G<L
     ·obtain rfl:=HC3.out (.inr (.inr (.inr (.inr d3))))
      go_enter Tryd.func26,Tryd.ntmps26
      go_wp2_with fail
      refine(H1.out _).mono ?_;rintro z w2 ⟨rfl,rfl⟩
      go_wp2_with fail
      refine(H2.out _).mono ?_;rintro z w3 ⟨rfl,rfl⟩
      go_wp2
      go_ret
      exact⟨rfl,bA⟩
     ·obtain rfl:=HC0.out (by simp[d1,d2,d3])
      go_enter Tryd.func26,Tryd.ntmps26
      go_wp2_with fail
      refine(H1.out _).mono ?_;rintro z w2 ⟨rfl,rfl⟩
      go_wp2_with fail
      refine(H2.out _).mono ?_;rintro z w3 ⟨rfl,rfl⟩
      go_wp2
      go_ret
      exact⟨rfl,bA⟩
    ·obtain rfl:=HC3.out (.inr (.inr (.inr (.inl rfl))))
     go_enter Tryd.func26,Tryd.ntmps26
     go_wp2_with fail
     refine(H1.out _).mono ?_;rintro z w2 ⟨rfl,rfl⟩
     go_wp2_with fail
     refine(H2.out _).mono ?_;rintro z w3 ⟨rfl,rfl⟩
     go_wp2
     go_ret
     exact⟨rfl,bA⟩
   ·obtain rfl:=HC3.out (.inr (.inr (.inl rfl)))
    go_enter Tryd.func26,Tryd.ntmps26
    go_wp2_with fail
    refine(H1.out _).mono ?_;rintro z w2 ⟨rfl,rfl⟩
    go_wp2
    go_ret
    exact⟨rfl,bA⟩
theorem vE (R D L G:Int)(gr:Bool)(w:World):
  yC 26 #[ygV R D L G gr] w (yR w (yi (bk R D L G))):=by
 by_cases h2:R=2
 ·subst h2
  exact MW D L G gr w
 ·by_cases h16:R=16
  ·subst h16
   exact Ky D L G gr w
  ·rw[FD h2 h16]
   have bA:=af w (.cells (ygA R D L G gr) 27);have e1:(R != 2)=true:=by simp;exact h2
   have e2:(R != 16)=true:=by simp;exact h16
   go_enter Tryd.func26,Tryd.ntmps26
   go_wp2
   go_ret
   exact⟨rfl,bA⟩
def xg (R:Int):Int:=if R=16 then 4 else 1
theorem tY (R D L G:Int)(gr:Bool)(w:World):
  yC 45 #[ygV R D L G gr] w (yR w (yi (xg R))):=by
 have bA:=af w (.cells (ygA R D L G gr) 65);unfold xg
 by_cases h:R=16
 ·rw[if_pos h]
  subst h
  go_enter Tryd.func45,Tryd.ntmps45
  go_wp2
  go_ret
  exact⟨rfl,bA⟩
 ·rw[if_neg h]
  have e:(R==16)=false:=by simp;exact h
  go_enter Tryd.func45,Tryd.ntmps45
  go_wp2
  go_ret
  exact⟨rfl,bA⟩
def ai (R:Int):Nat:=if R=16 then 4 else 1
theorem jf (R:Int):xg R=(ai R:Int):=by unfold xg ai;split<;>rfl
theorem eN (R:Int):1≤ai R∧ai R≤4:=by unfold ai;split<;>omega
theorem C7 (R D L G:Int)(gr:Bool)(n:Nat)(w:World)(hn:n≤1000):
  yC 77 #[ygV R D L G gr,yi n] w (Num w (2^ (ai R*n))):=by
 have b1:=af w (.cells (ygA R D L G gr) 65);have b2:=aa b1 (af _ (.cells #[.int .u32 ((1:Nat):Int)] 48));have r2:=cE (w:=w.alloc (.cells (ygA R D L G gr) 65)) (k:= .u32) (e:=48) [1] #[.int .u32 ((1:Nat):Int)] rfl (by unfold maxLen;simp);rw[World.size_alloc] at r2;have HW:Hid (yJ 45 #[ygV R D L G gr] (yi (xg R))):=fun w1=>tY R D L G gr w1
 have hwl:=eN R;rw[jf] at HW;obtain⟨wd,hwd⟩: ∃k,ai R=k:=⟨_,rfl⟩;rw[hwd] at HW hwl⊢;have hml:wd*n≤4000:=Nat.le_trans (Nat.mul_le_mul hwl.2 hn) (by omega);have HS:Hid (∀v w1,Rd w1 .u32 v [1]→yC 46 #[v,yi ((wd:Int)*(n:Int))] w1 (Num w1 (2^ (wd*n)))):=fun v w1 r=>by
  have:=eO v [1] ((wd*n:Nat):Int) w1 r (Dg.small_cons.2 ⟨by omega,Dg.small_nil _ (by omega)⟩) (by simp) (by omega) (by omega);rw[CE _ _ (by omega),Int.toNat_natCast,show Dg.vl 4294967296 [1]=1 from rfl,Nat.one_mul] at this
  rwa [Int.natCast_mul] at this
 have hmi:(wd:Int)*(n:Int)≤4000:=by exact_mod_cast hml
 have hm0:0≤(wd:Int)*(n:Int):=by exact_mod_cast Nat.zero_le _
 have hw1:IntKind.i64.wrap ((wd:Int)*(n:Int))=(wd:Int)*(n:Int):=IntWalk.i64_in _ ⟨by omega,by omega⟩;clear hwd
 go_enter Tryd.func77,Tryd.ntmps77
 go_wp2_with fail
 refine(HW.out _).mono ?_;rintro z w3 ⟨rfl,b3⟩;have b03:=aa b2 b3;have r3:=r2.l b3;clear b1 b2 r2 b3
 go_wp2_with fail
 refine(HS.out _ _ r3).mono ?_;rintro z w4 ⟨v4,rfl,o4,b4⟩;have b04:=aa b03 b4;have o5:=o4.lower b03.size
 go_wp2
 go_ret
 exact⟨_,rfl,o5,b04⟩
theorem Ax (R D L G:Int)(gr:Bool)(w:World)(h1:1≤D)(h2:D≤120):
  yC 66 #[ygV R D L G gr] w (Num w (2^ (ai R*(D-1).toNat))):=by
 obtain⟨d,rfl⟩: ∃d:Nat,D=(d:Int)+1:=⟨(D-1).toNat,by omega⟩;have e0:((d:Int)+1-1).toNat=d:=by omega
 rw[e0];have b1:=af w (.cells (ygA R ((d:Int)+1) L G gr) 65);have HR:Hid (∀w1,yC 77 #[ygV R ((d:Int)+1) L G gr,yi d] w1 (Num w1 (2^ (ai R*d)))):=fun w1=>C7 R _ L G gr d w1 (by omega)
 go_enter Tryd.func66,Tryd.ntmps66
 go_wp2_with fail
 refine(HR.out _).mono ?_;rintro z w4 ⟨v4,rfl,o4,b4⟩;have b04:=aa b1 b4;have o5:=o4.lower b1.size
 go_wp2
 go_ret
 exact⟨_,rfl,o5,b04⟩
theorem MX (R D L G:Int)(gr:Bool)(w:World)(h1:1≤D)(h2:D≤120):
  yC 65 #[ygV R D L G gr] w (Num w (2^ (ai R*D.toNat))):=by
 obtain⟨d,rfl⟩: ∃d:Nat,D=(d:Int):=⟨D.toNat,by omega⟩;rw[Int.toNat_natCast];have b1:=af w (.cells (ygA R (d:Int) L G gr) 65);have HR:Hid (∀w1,yC 77 #[ygV R (d:Int) L G gr,yi d] w1 (Num w1 (2^ (ai R*d)))):=fun w1=>C7 R _ L G gr d w1 (by omega)
 go_enter Tryd.func65,Tryd.ntmps65
 go_wp2_with fail
 refine(HR.out _).mono ?_;rintro z w4 ⟨v4,rfl,o4,b4⟩;have b04:=aa b1 b4;have o5:=o4.lower b1.size
 go_wp2
 go_ret
 exact⟨_,rfl,o5,b04⟩
def aT (R D top:Int):Int:=top/(ai R:Int)-(D-1)
theorem Qd (a:Int)(k:Nat)(hk:0<k):(a<a.tdiv k*k→a/(k:Int)=a.tdiv k-1)∧(¬a<a.tdiv k*k→a/(k:Int)=a.tdiv k):=by
 have e:=Int.tmod_add_mul_tdiv a k;have h1:a.tmod k<k:=Int.tmod_lt_of_pos a (by omega);have h2: -(k:Int)<a.tmod k:=by
  have h:=Int.tmod_lt_of_pos (-a) (b:=(k:Int)) (by omega);rw[Int.neg_tmod] at h;omega
 have e2:(k:Int)*a.tdiv k=a.tdiv k*k:=Int.mul_comm _ _;rw[e2] at e
 constructor
 ·intro h
  have h3:a=(a.tmod k+k)+(k:Int)*(a.tdiv k-1):=by
   rw[Int.mul_sub,e2];omega
  rw[h3,Int.add_mul_ediv_left _ _ (by omega),Int.ediv_eq_zero_of_lt (by omega) (by omega)];rw[←h3];omega
 ·intro h
  have h3:a=a.tmod k+(k:Int)*a.tdiv k:=by
   rw[e2];omega
  rw[h3,Int.add_mul_ediv_left _ _ (by omega),Int.ediv_eq_zero_of_lt (by omega) (by omega)];rw[←h3];omega
theorem FE (R D L G:Int)(gr:Bool)(top:Int)(w:World)(h1:1≤D)(h2:D≤120)(t1: -1000000≤top)(t2:top≤1000000):
  yC 42 #[ygV R D L G gr,yi top] w (yR w (yi (aT R D top))):=by
 have b1:=af w (.cells (ygA R D L G gr) 65);have l1:=ah w (ygL R D L G gr) 65;have HW:Hid (yJ 45 #[ygV R D L G gr] (yi (xg R))):=fun w1=>tY R D L G gr w1
 have hwl:=eN R;have hfl:=Qd top (ai R) (by omega);unfold aT;rw[jf] at HW;obtain⟨wd,hwd⟩: ∃k,ai R=k:=⟨_,rfl⟩;rw[hwd] at HW hwl hfl⊢;have hne:((wd:Int)==0)=false:=by simp;omega
 have hne2: ¬(wd:Int)=0:=by omega
 have q1: -1000000≤top.tdiv wd∧top.tdiv wd≤1000000:=by
  have:=Int.natAbs_tdiv_le_natAbs top wd;omega
 have q2: -1000004≤top.tdiv wd*wd∧top.tdiv wd*wd≤1000004:=by
  have e:=Int.tmod_add_mul_tdiv top wd;have e2:(wd:Int)*top.tdiv wd=top.tdiv wd*wd:=Int.mul_comm _ _;have hx:=Int.tmod_lt_of_pos top (b:=(wd:Int)) (by omega);have hy:=Int.tmod_lt_of_pos (-top) (b:=(wd:Int)) (by omega);rw[Int.neg_tmod] at hy;omega
 obtain⟨q,hq⟩: ∃q,top.tdiv wd=q:=⟨_,rfl⟩;rw[hq] at hfl q1 q2;obtain⟨m,hm⟩: ∃m,q*(wd:Int)=m:=⟨_,rfl⟩;rw[hm] at hfl q2;have w0:IntKind.i64.wrap q=q:=IntWalk.i64_in _ ⟨by omega,by omega⟩;have w1:IntKind.i64.wrap m=m:=IntWalk.i64_in _ ⟨by omega,by omega⟩;have w2:IntKind.i64.wrap (D-1)=D-1:=IntWalk.i64_in _ ⟨by omega,by omega⟩;clear hwd
 by_cases hlt:top<m
 ·rw[hfl.1 hlt]
  have w3:IntKind.i64.wrap (q-1)=q-1:=IntWalk.i64_in _ ⟨by omega,by omega⟩;have w4:IntKind.i64.wrap (q-1-(D-1))=q-1-(D-1):=IntWalk.i64_in _ ⟨by omega,by omega⟩;clear hfl
  go_enter Tryd.func42,Tryd.ntmps42
  go_wp2_with fail
  refine(HW.out _).mono ?_;rintro z w3' ⟨rfl,b3⟩;have b03:=aa b1 b3;have c1:=(l1.l b3).c 1 rfl
  go_wp2
  go_ret
  exact⟨rfl,b03⟩
 ·rw[hfl.2 hlt]
  have hltf:decide (top<m)=false:=by simp;omega
  have w4:IntKind.i64.wrap (q-(D-1))=q-(D-1):=IntWalk.i64_in _ ⟨by omega,by omega⟩;clear hfl
  go_enter Tryd.func42,Tryd.ntmps42
  go_wp2_with fail
  refine(HW.out _).mono ?_;rintro z w3' ⟨rfl,b3⟩;have b03:=aa b1 b3;have c1:=(l1.l b3).c 1 rfl
  go_wp2
  go_ret
  exact⟨rfl,b03⟩
def eA (xs ys:List Nat)(E:Int):Int:=if chk xs=0 then(if chk ys=0 then(if ys.length=0∨eJ 20000 E=true then 3 else 0) else chk ys) else chk xs
def jg (c d:Int):Int:=if c=0 then d else c
def nL (cx cy:Int)(ly:Nat)(fe:Bool)(gc:Int):Int:=if cx=0 then(if cy=0 then(if ly=0∨fe=true then 3 else gc) else cy) else cx
theorem Uu (xs ys:List Nat)(E gc:Int):jg (eA xs ys E) gc=nL (chk xs) (chk ys) ys.length (eJ 20000 E) gc:=by
 unfold jg eA nL
 by_cases h1:chk xs=0
 ·rw[if_pos h1,if_pos h1]
  by_cases h2:chk ys=0
  ·rw[if_pos h2,if_pos h2]
   by_cases h3:ys.length=0∨eJ 20000 E=true
   ·rw[if_pos h3,if_pos h3,if_neg (by omega)]
   ·rw[if_neg h3,if_neg h3,if_pos rfl]
  ·rw[if_neg h2,if_neg h2,if_neg h2]
 ·rw[if_neg h1,if_neg h1,if_neg h1]
theorem MY (qs:Bool)(ao:Option Addr)(ca la:Nat)(bo:Option Addr)(cb lb:Nat)(E R D L G:Int)(gr:Bool)(cx cy:Int)(fe:Bool)(gc:Int)(w:World)
  (H1: ∀w1,yB w w1→yC 25 #[.slice ao la ca] w1 fun z w'=>z= .returned (yi cx)∧w'=w1)
  (H2: ∀w1,yB w w1→yC 25 #[.slice bo lb cb] w1 fun z w'=>z= .returned (yi cy)∧w'=w1)
  (H3: ∀w1,yC 27 #[yi E,yi 20000] w1 fun z w'=>z= .returned (.bool fe)∧w'=w1)
  (H4:yJ 26 #[ygV R D L G gr] (yi gc)):
  yC 22 #[yrV qs (.slice ao la ca) (.slice bo lb cb) E,ygV R D L G gr] w (yR w (yi (nL cx cy lb fe gc))):=by
 replace H1:Hid _:=H1;replace H2:Hid _:=H2;replace H3:Hid _:=H3;replace H4:Hid _:=H4;have b1:=aa (af w (.cells (yrA qs (.slice ao la ca) (.slice bo lb cb) E) 25)) (af _ (.cells (ygA R D L G gr) 27))
 by_cases hx:cx=0
 ·subst hx
  by_cases hy:cy=0
  ·subst hy
   by_cases hl:lb=0
   ·subst hl
    rw[show nL 0 0 0 fe gc=3 from by unfold nL;simp]
    go_enter Tryd.func22,Tryd.ntmps22
    go_wp2_with fail
    refine(H1.out _ b1).mono ?_;rintro z w2 ⟨rfl,rfl⟩
    go_wp2_with fail
    refine(H2.out _ b1).mono ?_;rintro z w2 ⟨rfl,rfl⟩
    go_wp2
    go_ret
    exact⟨rfl,b1⟩
   ·have hlf:((lb:Int)==0)=false:=by simp;exact hl
    cases fe
    ·rw[show nL 0 0 lb false gc=gc from by unfold nL;simp[hl]]
     go_enter Tryd.func22,Tryd.ntmps22
     go_wp2_with fail
     refine(H1.out _ b1).mono ?_;rintro z w2 ⟨rfl,rfl⟩
     go_wp2_with fail
     refine(H2.out _ b1).mono ?_;rintro z w2 ⟨rfl,rfl⟩
     go_wp2_with fail
     refine(H3.out _).mono ?_;rintro z w2 ⟨rfl,rfl⟩
     go_wp2_with fail
     refine(H4.out _).mono ?_;rintro z w4 ⟨rfl,b4⟩;have b04:=aa b1 b4
     go_wp2
     go_ret
     exact⟨rfl,b04⟩
    ·rw[show nL 0 0 lb true gc=3 from by unfold nL;simp]
     go_enter Tryd.func22,Tryd.ntmps22
     go_wp2_with fail
     refine(H1.out _ b1).mono ?_;rintro z w2 ⟨rfl,rfl⟩
     go_wp2_with fail
     refine(H2.out _ b1).mono ?_;rintro z w2 ⟨rfl,rfl⟩
     go_wp2_with fail
     refine(H3.out _).mono ?_;rintro z w2 ⟨rfl,rfl⟩
     go_wp2
     go_ret
     exact⟨rfl,b1⟩
  ·have hyf:(cy==0)=false:=by simp;exact hy
   rw[show nL 0 cy lb fe gc=cy from by unfold nL;simp[hy]]
   go_enter Tryd.func22,Tryd.ntmps22
   go_wp2_with fail
   refine(H1.out _ b1).mono ?_;rintro z w2 ⟨rfl,rfl⟩
   go_wp2_with fail
   refine(H2.out _ b1).mono ?_;rintro z w2 ⟨rfl,rfl⟩
   go_wp2
   go_ret
   exact⟨rfl,b1⟩
 ·have hxf:(cx==0)=false:=by simp;exact hx
  rw[show nL cx cy lb fe gc=cx from by unfold nL;simp[hx]]
  go_enter Tryd.func22,Tryd.ntmps22
  go_wp2_with fail
  refine(H1.out _ b1).mono ?_;rintro z w2 ⟨rfl,rfl⟩
  go_wp2
  go_ret
  exact⟨rfl,b1⟩
theorem Qe (qs:Bool)(ao:Option Addr)(ca:Nat)(xs:List Nat)(bo:Option Addr)(cb:Nat)(ys:List Nat)(E R D L G:Int)(gr:Bool)(w:World)(ha:Rd w .u32 (.slice ao xs.length ca) xs)(hb:Rd w .u32 (.slice bo ys.length cb) ys):
  yC 22 #[yrV qs (.slice ao xs.length ca) (.slice bo ys.length cb) E,ygV R D L G gr] w (yR w (yi (jg (eA xs ys E) (bk R D L G)))):=by
 rw[Uu];exact MY qs ao ca xs.length bo cb ys.length E R D L G gr _ _ _ _ w (fun w1 b1=>jC _ _ w1 (ha.l b1)) (fun w1 b1=>jC _ _ w1 (hb.l b1)) (fun w1=>nK E 20000 w1 (by omega) (by omega)) (fun w1=>vE R D L G gr w1)
open Go.ChangeShapes Go.WideShapes Go.ChangeAt Go.RowKit
theorem adC {α:Type}{cs:Array α}(h:cs.size=5): ∃c0 c1 c2 c3 c4,cs= #[c0,c1,c2,c3,c4]:=by
 obtain⟨l⟩:=cs
 match l,h with
 | [c0,c1,c2,c3,c4],_=>exact⟨c0,c1,c2,c3,c4,rfl⟩
theorem adD:Tryd.prog.cellsOf 27=5:=by kernel_rfl
theorem BP:Tryd.prog.cellsOf 3=1:=by kernel_rfl
theorem zI:Tryd.prog.cellsOf 4=1:=by kernel_rfl
theorem sw {H:Type}{enc:TypeId×Value→H}{P:Program}{w:World}{base:Nat}{spare:Nat→Bool}{held:Bool}{fuel:Nat}{t:TypeId}{cs:List Value}{x:DataW H×List MemPlace}(ht:P.underlying t=some .bool)(h:DataW.trod enc P w base spare held fuel t cs=some x): ∃b,cs=[.bool b]:=by
 cases fuel with
 |zero=>simp[DataW.trod] at h
 |succ n=>
  unfold DataW.trod at h;rw[ht] at h
  split at h<;>simp_all
theorem lD {H:Type}{enc:TypeId×Value→H}{W:World}{base:Nat}{v:Value}{d:DataW H}{p:List MemPlace}(hv:Value.okWide Tryd.prog W .any base 27 v)(h:DataW.Trod enc Tryd.prog W 0 (fun _=>true) true 27 v d p):
  ∃(R D L G:Int) (gr:Bool),v=(ygV R D L G gr)∧(Lit.int .i64 R).wf=true∧(Lit.int .i64 D).wf=true∧(Lit.int .i64 L).wf=true∧(Lit.int .i64 G).wf=true:=by
 obtain⟨cs,rfl,hsz⟩:=okWide_struct Tryd.underlying27 hv;obtain⟨c0,c1,c2,c3,c4,rfl⟩:=adC (hsz.trans adD);obtain⟨fuel,hf⟩:=h;obtain⟨xs,n,_,_,hl,hlen,hff⟩:=DataW.trod_struct Tryd.underlying27 hf;have h0:=hff 0 _ rfl;have h1:=hff 1 _ rfl;have h2:=hff 2 _ rfl;have h3:=hff 3 _ rfl;have h4:=hff 4 _ rfl
 match xs,hlen with
 | [y0,y1,y2,y3,y4],_=>
  simp[Value.cells,BP,zI] at h0 h1 h2 h3 h4;obtain⟨R,e0,-,w0⟩:=DataW.trod_int Tryd.underlying3 h0;obtain⟨D,e1,-,w1⟩:=DataW.trod_int Tryd.underlying3 h1;obtain⟨L,e2,-,w2⟩:=DataW.trod_int Tryd.underlying3 h2;obtain⟨G,e3,-,w3⟩:=DataW.trod_int Tryd.underlying3 h3;obtain⟨gr,e4⟩:=sw Tryd.underlying4 h4;simp at e0 e1 e2 e3 e4;subst e0 e1 e2 e3 e4;exact⟨R,D,L,G,gr,rfl,w0,w1,w2,w3⟩
end Go.Proofs.YtibnjbojkjablaaDoor

/-
  Texts laid together: Dr5a, Dr5b.
-/
import Derived.Test.YtibnjbojkjablaaDoorGg12
set_option maxRecDepth 100000
set_option maxHeartbeats 6400000
namespace Go.Proofs.YtibnjbojkjablaaDoor
open Go.RowKit
theorem Gc (v u:Value)(a b:ak)(w:World)(hv:Rv w v a)(hu:Rv w u b)(hLa:(Dg.dg 65536 a.n).length≤30000)(hLb:(Dg.dg 65536 b.n).length≤30000)
  (ha1: -200000≤a.e) (ha2:a.e≤200000) (hb1: -200000≤b.e) (hb2:b.e≤200000) (hs: ¬a.s=b.s) (ha0:a.n=0) (hb0:b.n=0):
  yC 20 #[v,u] w (di w (bare (cO a b))):=by
 obtain⟨s0,rfl,ra⟩:=hv;obtain⟨ao,ca,rfl⟩:=ra.shape;obtain⟨s1,rfl,rb⟩:=hu;obtain⟨bo,cb,rfl⟩:=rb.shape;obtain⟨sa,an,ae⟩:=a;obtain⟨sb,bn,be⟩:=b;simp only at ra rb hLa hLb ha1 ha2 hb1 hb2 hs ha0 hb0⊢;have HU:Hid (∀(k:Int) w1,0≤k→k≤400000→yB w w1→yC 33 #[.slice ao (Dg.dg 65536 an).length ca,yi k] w1 (cG w1 (an*2^k.toNat))):=fun k w1 h1 h2 b1=>by
  have:=kD _ _ k.toNat w1 (ra.l b1) (Dg.small_dg _ _ (by omega)) (by omega) (by omega)
  rwa [Dg.vl_dg _ _ (by omega),show((k.toNat:Nat):Int)=k from by omega] at this
 have HV:Hid (∀(k:Int) w1,0≤k→k≤400000→yB w w1→yC 33 #[.slice bo (Dg.dg 65536 bn).length cb,yi k] w1 (cG w1 (bn*2^k.toNat))):=fun k w1 h1 h2 b1=>by
  have:=kD _ _ k.toNat w1 (rb.l b1) (Dg.small_dg _ _ (by omega)) (by omega) (by omega)
  rwa [Dg.vl_dg _ _ (by omega),show((k.toNat:Nat):Int)=k from by omega] at this
 have HPL:Hid (∀P Q v1 v2 w1,(Dg.dg 65536 P).length≤60000→(Dg.dg 65536 Q).length≤60000→Rd w1 .i64 v1 (Dg.dg 65536 P)→Rd w1 .i64 v2 (Dg.dg 65536 Q)→yC 34 #[v1,v2] w1 (cG w1 (P+Q))):=fun P Q v1 v2 w1 l1 l2 h1 h2=>by
  have:=ew v1 v2 _ _ w1 h1 h2 (Dg.small_dg _ _ (by omega)) (Dg.small_dg _ _ (by omega)) (Dg.norm_dg _ _ (by omega)) (Dg.norm_dg _ _ (by omega)) (by omega) (by omega)
  rwa [Dg.vl_dg _ _ (by omega),Dg.vl_dg _ _ (by omega)] at this
 have HCM:Hid (∀P Q v1 v2 w1,Rd w1 .i64 v1 (Dg.dg 65536 P)→Rd w1 .i64 v2 (Dg.dg 65536 Q)→yC 35 #[v1,v2] w1 (yR w1 (yi (dm P Q)))):=fun P Q v1 v2 w1 h1 h2=>by
  have:=fm v1 v2 _ _ w1 h1 h2 (Dg.small_dg _ _ (by omega)) (Dg.small_dg _ _ (by omega)) (Dg.norm_dg _ _ (by omega)) (Dg.norm_dg _ _ (by omega))
  rwa [Dg.vl_dg _ _ (by omega),Dg.vl_dg _ _ (by omega)] at this
 have HLS:Hid (∀P Q v1 v2 w1,Q≤P→(Dg.dg 65536 P).length≤60000→Rd w1 .i64 v1 (Dg.dg 65536 P)→Rd w1 .i64 v2 (Dg.dg 65536 Q)→yC 36 #[v1,v2] w1 (cG w1 (P-Q))):=fun P Q v1 v2 w1 hle l1 h1 h2=>by
  have:=kI v1 v2 _ _ w1 h1 h2 (Dg.small_dg _ _ (by omega)) (Dg.small_dg _ _ (by omega)) (by omega) (aH _ _ _ (by omega) hle) (by rw[Dg.vl_dg _ _ (by omega),Dg.vl_dg _ _ (by omega)];exact hle)
  rwa [Dg.vl_dg _ _ (by omega),Dg.vl_dg _ _ (by omega)] at this
 have HBR:Hid (∀v t w1,Rv w1 v t→(Dg.dg 65536 t.n).length≤100000→ -1000000≤t.e→t.e≤1000000→yC 7 #[v] w1 (di w1 (bare t))):=fun v t w1 h1 h2 h3 h4=>lA v t w1 h1 h2 h3 h4
 have lu: ∀k:Int,k≤400000→(Dg.dg 65536 (an*2^k.toNat)).length≤55001:=fun k hk=>Nat.le_trans (jZ an k.toNat 30000 25001 hLa (by omega)) (by omega)
 have lv: ∀k:Int,k≤400000→(Dg.dg 65536 (bn*2^k.toNat)).length≤55001:=fun k hk=>Nat.le_trans (jZ bn k.toNat 30000 25001 hLb (by omega)) (by omega)
 have n1:=Dg.dg_nil_iff 65536 an (by omega);have n2:=Dg.dg_nil_iff 65536 bn (by omega);have z1:(((Dg.dg 65536 an).length:Int)==0)=decide (an=0):=by
  by_cases h:an=0
  ·rw[decide_eq_true h,n1.2 h];rfl
  ·rw[decide_eq_false h];simp;exact fun e=>h (n1.1 e)
 have z2:(((Dg.dg 65536 bn).length:Int)==0)=decide (bn=0):=by
  by_cases h:bn=0
  ·rw[decide_eq_true h,n2.2 h];rfl
  ·rw[decide_eq_false h];simp;exact fun e=>h (n2.1 e)
 obtain⟨ma,hma⟩: ∃m,(Dg.dg 65536 an).length=m:=⟨_,rfl⟩;obtain⟨mb,hmb⟩: ∃m,(Dg.dg 65536 bn).length=m:=⟨_,rfl⟩;rw[hma] at HU z1⊢;rw[hmb] at HV z2⊢;clear hma hmb ra rb hLa hLb n1 n2;obtain⟨la,lb,lc,b01,-⟩:=ju w (.bool sa) (.slice ao ma ca) (yi ae) (.bool sb) (.slice bo mb cb) (yi be) (.bool false) (.slice none 0 0) (yi 0) 35 35 35;have zc:=rI w (.bool sa) (.slice ao ma ca) (yi ae) (.bool sb) (.slice bo mb cb) (yi be) 35 35 35;obtain⟨W,hW⟩: ∃W,(((w.alloc (.cells (ydA sa (.slice ao ma ca) ae) 35)).alloc (.cells (ydA sb (.slice bo mb cb) be) 35)).alloc (.cells (ydA false (.slice none 0 0) 0) 35))=W:=⟨_,rfl⟩;rw[hW] at la lb lc b01 zc;have bd:yB W W.drew:=(Below.refl _ _).drew;have la:=la.l bd;have lb:=lb.l bd;have lc:=lc.l bd;have zc:=zc.l bd;have b02:=aa b01 bd;rw[←hW] at la lb lc b02 zc;clear bd b01 hW;have ne3:w.heap.size+1+1≠w.heap.size:=by omega
 have ne4:w.heap.size≠w.heap.size+1+1:=by omega
 unfold cO;simp only;rw[decide_eq_true ha0] at z1;rw[decide_eq_true hb0] at z2;have E0:(if bn=0 then ae else if an=0 then be else min ae be)=ae:=by simp[hb0]
 rw[E0];clear E0
 by_cases hle:bn*2^ (max 0 (be-ae):Int).toNat≤an*2^ (0:Int).toNat
 ·rw[show max 0 (ae-ae)=0 from by omega]
  have eb:IntKind.i64.wrap (be-(ae))=be-(ae):=IntWalk.i64_in _ ⟨by omega,by omega⟩;have hua:=HU.out (0:Int);have hvb:=HV.out (max 0 (be-ae));have lX:=lu (0:Int) (by omega);have lY:=lv (max 0 (be-ae)) (by omega);obtain⟨X,hX⟩: ∃X,an*2^ (0:Int).toNat=X:=⟨_,rfl⟩;obtain⟨Y,hY⟩: ∃Y,bn*2^ (max 0 (be-ae)).toNat=Y:=⟨_,rfl⟩;rw[hX] at hua lX hle⊢;rw[hY] at hvb lY hle⊢;have HUA:Hid (∀w1,yB w w1→yC 33 #[.slice ao ma ca,yi (0:Int)] w1 (cG w1 X)):=fun w1 b1=>hua w1 (by omega) (by omega) b1
  have HVB:Hid (∀w1,yB w w1→yC 33 #[.slice bo mb cb,yi (max 0 (be-ae))] w1 (cG w1 Y)):=fun w1 b1=>hvb w1 (by omega) (by omega) b1
  clear hua hvb HU HV lu lv hX hY;rw[if_neg hs,if_pos hle];have hsb:(sa==sb)=false:=by simp[hs]
  have hd:=D3 (a:=(X:Int)) (b:=(Y:Int)) (by omega);obtain⟨r,hr⟩: ∃r,dm X Y=r:=⟨_,rfl⟩;have HCM2:=HCM.out X Y;rw[hr] at HCM2 hd;have HCM3:Hid _:=HCM2;clear hr HCM2
  go_enter Tryd.func20,Tryd.ntmps20
  obtain⟨-,⟨ca0,ca1,ca2⟩,-⟩:=id la;obtain⟨-,⟨cb0,cb1,cb2⟩,-⟩:=id lb
  go_wp2_with fail
  go_region_held3 (fun wq=>(wq.cell? ⟨w.heap.size,0,none⟩=some (.bool sa)∧wq.cell? ⟨w.heap.size,1,none⟩=some (.slice ao ma ca)∧wq.cell? ⟨w.heap.size,2,none⟩=some (yi ae))∧wq.cell? ⟨w.heap.size+1,0,none⟩=some (.bool sb)∧wq.cell? ⟨w.heap.size+1,1,none⟩=some (.slice bo mb cb)∧wq.cell? ⟨w.heap.size+1,2,none⟩=some (yi be)) (go_keep) (first
   | (go_at_call 33;refine(HUA.out _ b02).mono ?_;rintro z w3 ⟨v1,rfl,o1,b3⟩;have la3:=la.l b3;have lb3:=lb.l b3;have lc3:=lc.l b3;have zc3:=zc.l b3;have b03:=aa b02 b3;obtain⟨-,⟨p0,p1,p2⟩,-⟩:=id la3;obtain⟨-,⟨p3,p4,p5⟩,-⟩:=id lb3;clear b02)
   | (go_at_call 33;refine(HVB.out _ b03).mono ?_;rintro z w4 ⟨v2,rfl,r2,b4⟩;have la4:=la3.l b4;have lb4:=lb3.l b4;have lc4:=lc3.l b4;have zc4:=zc3.l b4;have b04:=aa b03 b4;have r1:=o1.l b4;obtain⟨-,⟨q0,q1,q2⟩,-⟩:=id la4;obtain⟨-,⟨q3,q4,q5⟩,-⟩:=id lb4))
  all_goals
   clear la lb lc zc la3 lb3 lc3 zc3 p0 p1 p2 p3 p4 p5 ca0 ca1 ca2 cb0 cb1 cb2 b03 o1 b3 b4 HUA HVB
   go_wp2_with fail
   refine(HCM3.out v1 v2 w4 r1 r2).mono ?_;rintro z w9 ⟨rfl,b9⟩;have la4:=la4.l b9;have lb4:=lb4.l b9;have lc4:=lc4.l b9;have zc4:=zc4.l b9;have b04:=aa b04 b9;have r1:=r1.l b9;have r2:=r2.l b9;clear b9;have bd:yB w9 w9.drew:=(Below.refl _ _).drew;have la5:=la4.l bd;have lb5:=lb4.l bd;have lc5:=lc4.l bd;have zc5:=zc4.l bd;have b05:=aa b04 bd;have r1:=r1.l bd;have r2:=r2.l bd;obtain⟨-,⟨c0,c1,c2⟩,-⟩:=id la5;obtain⟨-,⟨c3,c4,c5⟩,-⟩:=id lb5;obtain⟨⟨rs,rn,re⟩,hbt⟩: ∃bt,bare ⟨sa,X-Y,ae⟩=bt:=⟨_,rfl⟩;have HBR2:Hid (∀v w1,Rv w1 v ⟨sa,X-Y,ae⟩→yC 7 #[v] w1 (di w1 ⟨rs,rn,re⟩)):=fun v w1 hv=>by
    have:=HBR.out v ⟨sa,X-Y,ae⟩ w1 hv (by simp only;exact Nat.le_trans (aH 65536 _ X (by omega) (Nat.sub_le _ _)) (by omega)) (by simp only;omega) (by simp only;omega)
    rwa [hbt] at this
   have HBT:Hid (bare ⟨sa,X-Y,ae⟩=⟨rs,rn,re⟩):=hbt;clear la4 lb4 lc4 zc4 bd q0 q1 q2 q3 q4 q5 hbt HBR HCM
   go_wp2
   go_region_held3 (fun wq=>wq.cell? ⟨w.heap.size,0,none⟩=some (.bool sa)) (go_keep) (first
    | (go_at_call 36;refine(HLS.out X Y v1 v2 _ hle (by omega) r1 r2).mono ?_;rintro z w6 ⟨vs,rfl,r6,b6⟩;have la6:=la5.l b6;have lb6:=lb5.l b6;have lc6:=lc5.l b6;have zc6:=zc5.l b6;have b06:=aa b05 b6;obtain⟨so,sc,hvs⟩:=r6.shape;subst hvs;obtain⟨-,⟨t0,t1,t2⟩,-⟩:=id la6)
    | (go_at_call 7;refine(HBR2.out _ w6 ⟨_,rfl,r6⟩).mono ?_;rintro z w7 ⟨vt,rfl,r7,hF7,b7⟩;have la7:=la6.l b7;have lb7:=lb6.l b7;have lc7:=lc6.l b7;have zc7:=zc6.l b7;have b07:=aa b06 b7;obtain⟨tq,tc,hvt⟩:=r7.shape;subst hvt;have HF:Hid (Far w.heap.size (.slice tq (Dg.dg 65536 rn).length tc)):=hF7.mono b06.size;clear hF7;obtain⟨-,⟨u0,u1,u2⟩,-⟩:=id la7;obtain⟨hl7,⟨d0,d1,d2⟩,f0,f1,f2⟩:=id lc7))
   all_goals go_wp2
   obtain⟨-,⟨g0,g1,g2⟩,-⟩:=aD lc7 (.bool rs) (.slice tq (Dg.dg 65536 rn).length tc) (yi re);have r8:=zc7.rd r7 (Dg.norm_dg _ _ (by omega)) (.bool rs) (.slice tq (Dg.dg 65536 rn).length tc) (yi re);have b8:=am b07 (show w.heap.size≤w.heap.size+1+1 by omega) (.bool rs) (.slice tq (Dg.dg 65536 rn).length tc) (yi re)
   refine bodyPost_ret (v:=(ydV rs (.slice tq (Dg.dg 65536 rn).length tc) re)) (by simp[results,Tryd.results20,go_sem,g0,g1,g2]) rfl ?_
   show di w (bare ⟨sa,X-Y,ae⟩) _ _
   rw[HBT.out];exact⟨_,rfl,r8,HF.out,b8⟩
 ·rw[show max 0 (ae-ae)=0 from by omega]
  have eb:IntKind.i64.wrap (be-(ae))=be-(ae):=IntWalk.i64_in _ ⟨by omega,by omega⟩;have hua:=HU.out (0:Int);have hvb:=HV.out (max 0 (be-ae));have lX:=lu (0:Int) (by omega);have lY:=lv (max 0 (be-ae)) (by omega);obtain⟨X,hX⟩: ∃X,an*2^ (0:Int).toNat=X:=⟨_,rfl⟩;obtain⟨Y,hY⟩: ∃Y,bn*2^ (max 0 (be-ae)).toNat=Y:=⟨_,rfl⟩;rw[hX] at hua lX hle⊢;rw[hY] at hvb lY hle⊢;have HUA:Hid (∀w1,yB w w1→yC 33 #[.slice ao ma ca,yi (0:Int)] w1 (cG w1 X)):=fun w1 b1=>hua w1 (by omega) (by omega) b1
  have HVB:Hid (∀w1,yB w w1→yC 33 #[.slice bo mb cb,yi (max 0 (be-ae))] w1 (cG w1 Y)):=fun w1 b1=>hvb w1 (by omega) (by omega) b1
  clear hua hvb HU HV lu lv hX hY;rw[if_neg hs,if_neg hle];have hsb:(sa==sb)=false:=by simp[hs]
  have HCM2:=HCM.out X Y;rw[gX (by omega)] at HCM2;have HCM3:Hid _:=HCM2;clear HCM2
  go_enter Tryd.func20,Tryd.ntmps20
  obtain⟨-,⟨ca0,ca1,ca2⟩,-⟩:=id la;obtain⟨-,⟨cb0,cb1,cb2⟩,-⟩:=id lb
  go_wp2_with fail
  go_region_held3 (fun wq=>(wq.cell? ⟨w.heap.size,0,none⟩=some (.bool sa)∧wq.cell? ⟨w.heap.size,1,none⟩=some (.slice ao ma ca)∧wq.cell? ⟨w.heap.size,2,none⟩=some (yi ae))∧wq.cell? ⟨w.heap.size+1,0,none⟩=some (.bool sb)∧wq.cell? ⟨w.heap.size+1,1,none⟩=some (.slice bo mb cb)∧wq.cell? ⟨w.heap.size+1,2,none⟩=some (yi be)) (go_keep) (first
   | (go_at_call 33;refine(HUA.out _ b02).mono ?_;rintro z w3 ⟨v1,rfl,o1,b3⟩;have la3:=la.l b3;have lb3:=lb.l b3;have lc3:=lc.l b3;have zc3:=zc.l b3;have b03:=aa b02 b3;obtain⟨-,⟨p0,p1,p2⟩,-⟩:=id la3;obtain⟨-,⟨p3,p4,p5⟩,-⟩:=id lb3;clear b02)
   | (go_at_call 33;refine(HVB.out _ b03).mono ?_;rintro z w4 ⟨v2,rfl,r2,b4⟩;have la4:=la3.l b4;have lb4:=lb3.l b4;have lc4:=lc3.l b4;have zc4:=zc3.l b4;have b04:=aa b03 b4;have r1:=o1.l b4;obtain⟨-,⟨q0,q1,q2⟩,-⟩:=id la4;obtain⟨-,⟨q3,q4,q5⟩,-⟩:=id lb4))
  all_goals
   clear la lb lc zc la3 lb3 lc3 zc3 p0 p1 p2 p3 p4 p5 ca0 ca1 ca2 cb0 cb1 cb2 b03 o1 b3 b4 HUA HVB
   go_wp2_with fail
   refine(HCM3.out v1 v2 w4 r1 r2).mono ?_;rintro z w9 ⟨rfl,b9⟩;have la4:=la4.l b9;have lb4:=lb4.l b9;have lc4:=lc4.l b9;have zc4:=zc4.l b9;have b04:=aa b04 b9;have r1:=r1.l b9;have r2:=r2.l b9;clear b9;have bd:yB w9 w9.drew:=(Below.refl _ _).drew;have la5:=la4.l bd;have lb5:=lb4.l bd;have lc5:=lc4.l bd;have zc5:=zc4.l bd;have b05:=aa b04 bd;have r1:=r1.l bd;have r2:=r2.l bd;obtain⟨-,⟨c0,c1,c2⟩,-⟩:=id la5;obtain⟨-,⟨c3,c4,c5⟩,-⟩:=id lb5;obtain⟨⟨rs,rn,re⟩,hbt⟩: ∃bt,bare ⟨sb,Y-X,ae⟩=bt:=⟨_,rfl⟩;have HBR2:Hid (∀v w1,Rv w1 v ⟨sb,Y-X,ae⟩→yC 7 #[v] w1 (di w1 ⟨rs,rn,re⟩)):=fun v w1 hv=>by
    have:=HBR.out v ⟨sb,Y-X,ae⟩ w1 hv (by simp only;exact Nat.le_trans (aH 65536 _ Y (by omega) (Nat.sub_le _ _)) (by omega)) (by simp only;omega) (by simp only;omega)
    rwa [hbt] at this
   have HBT:Hid (bare ⟨sb,Y-X,ae⟩=⟨rs,rn,re⟩):=hbt;clear la4 lb4 lc4 zc4 bd q0 q1 q2 q3 q4 q5 hbt HBR HCM
   go_wp2
   go_region_held3 (fun wq=>wq.cell? ⟨w.heap.size+1,0,none⟩=some (.bool sb)) (go_keep) (first
    | (go_at_call 36;refine(HLS.out Y X v2 v1 _ (by omega) (by omega) r2 r1).mono ?_;rintro z w6 ⟨vs,rfl,r6,b6⟩;have la6:=la5.l b6;have lb6:=lb5.l b6;have lc6:=lc5.l b6;have zc6:=zc5.l b6;have b06:=aa b05 b6;obtain⟨so,sc,hvs⟩:=r6.shape;subst hvs;obtain⟨-,⟨t0,t1,t2⟩,-⟩:=id lb6)
    | (go_at_call 7;refine(HBR2.out _ w6 ⟨_,rfl,r6⟩).mono ?_;rintro z w7 ⟨vt,rfl,r7,hF7,b7⟩;have la7:=la6.l b7;have lb7:=lb6.l b7;have lc7:=lc6.l b7;have zc7:=zc6.l b7;have b07:=aa b06 b7;obtain⟨tq,tc,hvt⟩:=r7.shape;subst hvt;have HF:Hid (Far w.heap.size (.slice tq (Dg.dg 65536 rn).length tc)):=hF7.mono b06.size;clear hF7;obtain⟨-,⟨u0,u1,u2⟩,-⟩:=id lb7;obtain⟨hl7,⟨d0,d1,d2⟩,f0,f1,f2⟩:=id lc7))
   all_goals go_wp2
   obtain⟨-,⟨g0,g1,g2⟩,-⟩:=aD lc7 (.bool rs) (.slice tq (Dg.dg 65536 rn).length tc) (yi re);have r8:=zc7.rd r7 (Dg.norm_dg _ _ (by omega)) (.bool rs) (.slice tq (Dg.dg 65536 rn).length tc) (yi re);have b8:=am b07 (show w.heap.size≤w.heap.size+1+1 by omega) (.bool rs) (.slice tq (Dg.dg 65536 rn).length tc) (yi re)
   refine bodyPost_ret (v:=(ydV rs (.slice tq (Dg.dg 65536 rn).length tc) re)) (by simp[results,Tryd.results20,go_sem,g0,g1,g2]) rfl ?_
   show di w (bare ⟨sb,Y-X,ae⟩) _ _
   rw[HBT.out];exact⟨_,rfl,r8,HF.out,b8⟩
theorem GE (v u:Value)(a b:ak)(w:World)(hv:Rv w v a)(hu:Rv w u b)(hLa:(Dg.dg 65536 a.n).length≤30000)(hLb:(Dg.dg 65536 b.n).length≤30000)
  (ha1: -200000≤a.e) (ha2:a.e≤200000) (hb1: -200000≤b.e) (hb2:b.e≤200000) (hs: ¬a.s=b.s) (ha0:a.n=0) (hb0: ¬b.n=0):
  yC 20 #[v,u] w (di w (bare (cO a b))):=by
 obtain⟨s0,rfl,ra⟩:=hv;obtain⟨ao,ca,rfl⟩:=ra.shape;obtain⟨s1,rfl,rb⟩:=hu;obtain⟨bo,cb,rfl⟩:=rb.shape;obtain⟨sa,an,ae⟩:=a;obtain⟨sb,bn,be⟩:=b;simp only at ra rb hLa hLb ha1 ha2 hb1 hb2 hs ha0 hb0⊢;have HU:Hid (∀(k:Int) w1,0≤k→k≤400000→yB w w1→yC 33 #[.slice ao (Dg.dg 65536 an).length ca,yi k] w1 (cG w1 (an*2^k.toNat))):=fun k w1 h1 h2 b1=>by
  have:=kD _ _ k.toNat w1 (ra.l b1) (Dg.small_dg _ _ (by omega)) (by omega) (by omega)
  rwa [Dg.vl_dg _ _ (by omega),show((k.toNat:Nat):Int)=k from by omega] at this
 have HV:Hid (∀(k:Int) w1,0≤k→k≤400000→yB w w1→yC 33 #[.slice bo (Dg.dg 65536 bn).length cb,yi k] w1 (cG w1 (bn*2^k.toNat))):=fun k w1 h1 h2 b1=>by
  have:=kD _ _ k.toNat w1 (rb.l b1) (Dg.small_dg _ _ (by omega)) (by omega) (by omega)
  rwa [Dg.vl_dg _ _ (by omega),show((k.toNat:Nat):Int)=k from by omega] at this
 have HPL:Hid (∀P Q v1 v2 w1,(Dg.dg 65536 P).length≤60000→(Dg.dg 65536 Q).length≤60000→Rd w1 .i64 v1 (Dg.dg 65536 P)→Rd w1 .i64 v2 (Dg.dg 65536 Q)→yC 34 #[v1,v2] w1 (cG w1 (P+Q))):=fun P Q v1 v2 w1 l1 l2 h1 h2=>by
  have:=ew v1 v2 _ _ w1 h1 h2 (Dg.small_dg _ _ (by omega)) (Dg.small_dg _ _ (by omega)) (Dg.norm_dg _ _ (by omega)) (Dg.norm_dg _ _ (by omega)) (by omega) (by omega)
  rwa [Dg.vl_dg _ _ (by omega),Dg.vl_dg _ _ (by omega)] at this
 have HCM:Hid (∀P Q v1 v2 w1,Rd w1 .i64 v1 (Dg.dg 65536 P)→Rd w1 .i64 v2 (Dg.dg 65536 Q)→yC 35 #[v1,v2] w1 (yR w1 (yi (dm P Q)))):=fun P Q v1 v2 w1 h1 h2=>by
  have:=fm v1 v2 _ _ w1 h1 h2 (Dg.small_dg _ _ (by omega)) (Dg.small_dg _ _ (by omega)) (Dg.norm_dg _ _ (by omega)) (Dg.norm_dg _ _ (by omega))
  rwa [Dg.vl_dg _ _ (by omega),Dg.vl_dg _ _ (by omega)] at this
 have HLS:Hid (∀P Q v1 v2 w1,Q≤P→(Dg.dg 65536 P).length≤60000→Rd w1 .i64 v1 (Dg.dg 65536 P)→Rd w1 .i64 v2 (Dg.dg 65536 Q)→yC 36 #[v1,v2] w1 (cG w1 (P-Q))):=fun P Q v1 v2 w1 hle l1 h1 h2=>by
  have:=kI v1 v2 _ _ w1 h1 h2 (Dg.small_dg _ _ (by omega)) (Dg.small_dg _ _ (by omega)) (by omega) (aH _ _ _ (by omega) hle) (by rw[Dg.vl_dg _ _ (by omega),Dg.vl_dg _ _ (by omega)];exact hle)
  rwa [Dg.vl_dg _ _ (by omega),Dg.vl_dg _ _ (by omega)] at this
 have HBR:Hid (∀v t w1,Rv w1 v t→(Dg.dg 65536 t.n).length≤100000→ -1000000≤t.e→t.e≤1000000→yC 7 #[v] w1 (di w1 (bare t))):=fun v t w1 h1 h2 h3 h4=>lA v t w1 h1 h2 h3 h4
 have lu: ∀k:Int,k≤400000→(Dg.dg 65536 (an*2^k.toNat)).length≤55001:=fun k hk=>Nat.le_trans (jZ an k.toNat 30000 25001 hLa (by omega)) (by omega)
 have lv: ∀k:Int,k≤400000→(Dg.dg 65536 (bn*2^k.toNat)).length≤55001:=fun k hk=>Nat.le_trans (jZ bn k.toNat 30000 25001 hLb (by omega)) (by omega)
 have n1:=Dg.dg_nil_iff 65536 an (by omega);have n2:=Dg.dg_nil_iff 65536 bn (by omega);have z1:(((Dg.dg 65536 an).length:Int)==0)=decide (an=0):=by
  by_cases h:an=0
  ·rw[decide_eq_true h,n1.2 h];rfl
  ·rw[decide_eq_false h];simp;exact fun e=>h (n1.1 e)
 have z2:(((Dg.dg 65536 bn).length:Int)==0)=decide (bn=0):=by
  by_cases h:bn=0
  ·rw[decide_eq_true h,n2.2 h];rfl
  ·rw[decide_eq_false h];simp;exact fun e=>h (n2.1 e)
 obtain⟨ma,hma⟩: ∃m,(Dg.dg 65536 an).length=m:=⟨_,rfl⟩;obtain⟨mb,hmb⟩: ∃m,(Dg.dg 65536 bn).length=m:=⟨_,rfl⟩;rw[hma] at HU z1⊢;rw[hmb] at HV z2⊢;clear hma hmb ra rb hLa hLb n1 n2;obtain⟨la,lb,lc,b01,-⟩:=ju w (.bool sa) (.slice ao ma ca) (yi ae) (.bool sb) (.slice bo mb cb) (yi be) (.bool false) (.slice none 0 0) (yi 0) 35 35 35;have zc:=rI w (.bool sa) (.slice ao ma ca) (yi ae) (.bool sb) (.slice bo mb cb) (yi be) 35 35 35;obtain⟨W,hW⟩: ∃W,(((w.alloc (.cells (ydA sa (.slice ao ma ca) ae) 35)).alloc (.cells (ydA sb (.slice bo mb cb) be) 35)).alloc (.cells (ydA false (.slice none 0 0) 0) 35))=W:=⟨_,rfl⟩;rw[hW] at la lb lc b01 zc;have bd:yB W W.drew:=(Below.refl _ _).drew;have la:=la.l bd;have lb:=lb.l bd;have lc:=lc.l bd;have zc:=zc.l bd;have b02:=aa b01 bd;rw[←hW] at la lb lc b02 zc;clear bd b01 hW;have ne3:w.heap.size+1+1≠w.heap.size:=by omega
 have ne4:w.heap.size≠w.heap.size+1+1:=by omega
 unfold cO;simp only;rw[decide_eq_true ha0] at z1;rw[decide_eq_false hb0] at z2;have E0:(if bn=0 then ae else if an=0 then be else min ae be)=be:=by simp[ha0,hb0]
 rw[E0];clear E0
 by_cases hle:bn*2^ (0:Int).toNat≤an*2^ (max 0 (ae-be):Int).toNat
 ·have ea:IntKind.i64.wrap (ae-(be))=ae-(be):=IntWalk.i64_in _ ⟨by omega,by omega⟩
  rw[show max 0 (be-be)=0 from by omega]
  have hua:=HU.out (max 0 (ae-be));have hvb:=HV.out (0:Int);have lX:=lu (max 0 (ae-be)) (by omega);have lY:=lv (0:Int) (by omega);obtain⟨X,hX⟩: ∃X,an*2^ (max 0 (ae-be)).toNat=X:=⟨_,rfl⟩;obtain⟨Y,hY⟩: ∃Y,bn*2^ (0:Int).toNat=Y:=⟨_,rfl⟩;rw[hX] at hua lX hle⊢;rw[hY] at hvb lY hle⊢;have HUA:Hid (∀w1,yB w w1→yC 33 #[.slice ao ma ca,yi (max 0 (ae-be))] w1 (cG w1 X)):=fun w1 b1=>hua w1 (by omega) (by omega) b1
  have HVB:Hid (∀w1,yB w w1→yC 33 #[.slice bo mb cb,yi (0:Int)] w1 (cG w1 Y)):=fun w1 b1=>hvb w1 (by omega) (by omega) b1
  clear hua hvb HU HV lu lv hX hY;rw[if_neg hs,if_pos hle];have hsb:(sa==sb)=false:=by simp[hs]
  have hd:=D3 (a:=(X:Int)) (b:=(Y:Int)) (by omega);obtain⟨r,hr⟩: ∃r,dm X Y=r:=⟨_,rfl⟩;have HCM2:=HCM.out X Y;rw[hr] at HCM2 hd;have HCM3:Hid _:=HCM2;clear hr HCM2
  go_enter Tryd.func20,Tryd.ntmps20
  obtain⟨-,⟨ca0,ca1,ca2⟩,-⟩:=id la;obtain⟨-,⟨cb0,cb1,cb2⟩,-⟩:=id lb
  go_wp2_with fail
  go_region_held3 (fun wq=>(wq.cell? ⟨w.heap.size,0,none⟩=some (.bool sa)∧wq.cell? ⟨w.heap.size,1,none⟩=some (.slice ao ma ca)∧wq.cell? ⟨w.heap.size,2,none⟩=some (yi ae))∧wq.cell? ⟨w.heap.size+1,0,none⟩=some (.bool sb)∧wq.cell? ⟨w.heap.size+1,1,none⟩=some (.slice bo mb cb)∧wq.cell? ⟨w.heap.size+1,2,none⟩=some (yi be)) (go_keep) (first
   | (go_at_call 33;refine(HUA.out _ b02).mono ?_;rintro z w3 ⟨v1,rfl,o1,b3⟩;have la3:=la.l b3;have lb3:=lb.l b3;have lc3:=lc.l b3;have zc3:=zc.l b3;have b03:=aa b02 b3;obtain⟨-,⟨p0,p1,p2⟩,-⟩:=id la3;obtain⟨-,⟨p3,p4,p5⟩,-⟩:=id lb3;clear b02)
   | (go_at_call 33;refine(HVB.out _ b03).mono ?_;rintro z w4 ⟨v2,rfl,r2,b4⟩;have la4:=la3.l b4;have lb4:=lb3.l b4;have lc4:=lc3.l b4;have zc4:=zc3.l b4;have b04:=aa b03 b4;have r1:=o1.l b4;obtain⟨-,⟨q0,q1,q2⟩,-⟩:=id la4;obtain⟨-,⟨q3,q4,q5⟩,-⟩:=id lb4))
  all_goals
   clear la lb lc zc la3 lb3 lc3 zc3 p0 p1 p2 p3 p4 p5 ca0 ca1 ca2 cb0 cb1 cb2 b03 o1 b3 b4 HUA HVB
   go_wp2_with fail
   refine(HCM3.out v1 v2 w4 r1 r2).mono ?_;rintro z w9 ⟨rfl,b9⟩;have la4:=la4.l b9;have lb4:=lb4.l b9;have lc4:=lc4.l b9;have zc4:=zc4.l b9;have b04:=aa b04 b9;have r1:=r1.l b9;have r2:=r2.l b9;clear b9;have bd:yB w9 w9.drew:=(Below.refl _ _).drew;have la5:=la4.l bd;have lb5:=lb4.l bd;have lc5:=lc4.l bd;have zc5:=zc4.l bd;have b05:=aa b04 bd;have r1:=r1.l bd;have r2:=r2.l bd;obtain⟨-,⟨c0,c1,c2⟩,-⟩:=id la5;obtain⟨-,⟨c3,c4,c5⟩,-⟩:=id lb5;obtain⟨⟨rs,rn,re⟩,hbt⟩: ∃bt,bare ⟨sa,X-Y,be⟩=bt:=⟨_,rfl⟩;have HBR2:Hid (∀v w1,Rv w1 v ⟨sa,X-Y,be⟩→yC 7 #[v] w1 (di w1 ⟨rs,rn,re⟩)):=fun v w1 hv=>by
    have:=HBR.out v ⟨sa,X-Y,be⟩ w1 hv (by simp only;exact Nat.le_trans (aH 65536 _ X (by omega) (Nat.sub_le _ _)) (by omega)) (by simp only;omega) (by simp only;omega)
    rwa [hbt] at this
   have HBT:Hid (bare ⟨sa,X-Y,be⟩=⟨rs,rn,re⟩):=hbt;clear la4 lb4 lc4 zc4 bd q0 q1 q2 q3 q4 q5 hbt HBR HCM
   go_wp2
   go_region_held3 (fun wq=>wq.cell? ⟨w.heap.size,0,none⟩=some (.bool sa)) (go_keep) (first
    | (go_at_call 36;refine(HLS.out X Y v1 v2 _ hle (by omega) r1 r2).mono ?_;rintro z w6 ⟨vs,rfl,r6,b6⟩;have la6:=la5.l b6;have lb6:=lb5.l b6;have lc6:=lc5.l b6;have zc6:=zc5.l b6;have b06:=aa b05 b6;obtain⟨so,sc,hvs⟩:=r6.shape;subst hvs;obtain⟨-,⟨t0,t1,t2⟩,-⟩:=id la6)
    | (go_at_call 7;refine(HBR2.out _ w6 ⟨_,rfl,r6⟩).mono ?_;rintro z w7 ⟨vt,rfl,r7,hF7,b7⟩;have la7:=la6.l b7;have lb7:=lb6.l b7;have lc7:=lc6.l b7;have zc7:=zc6.l b7;have b07:=aa b06 b7;obtain⟨tq,tc,hvt⟩:=r7.shape;subst hvt;have HF:Hid (Far w.heap.size (.slice tq (Dg.dg 65536 rn).length tc)):=hF7.mono b06.size;clear hF7;obtain⟨-,⟨u0,u1,u2⟩,-⟩:=id la7;obtain⟨hl7,⟨d0,d1,d2⟩,f0,f1,f2⟩:=id lc7))
   all_goals go_wp2
   obtain⟨-,⟨g0,g1,g2⟩,-⟩:=aD lc7 (.bool rs) (.slice tq (Dg.dg 65536 rn).length tc) (yi re);have r8:=zc7.rd r7 (Dg.norm_dg _ _ (by omega)) (.bool rs) (.slice tq (Dg.dg 65536 rn).length tc) (yi re);have b8:=am b07 (show w.heap.size≤w.heap.size+1+1 by omega) (.bool rs) (.slice tq (Dg.dg 65536 rn).length tc) (yi re)
   refine bodyPost_ret (v:=(ydV rs (.slice tq (Dg.dg 65536 rn).length tc) re)) (by simp[results,Tryd.results20,go_sem,g0,g1,g2]) rfl ?_
   show di w (bare ⟨sa,X-Y,be⟩) _ _
   rw[HBT.out];exact⟨_,rfl,r8,HF.out,b8⟩
 ·have ea:IntKind.i64.wrap (ae-(be))=ae-(be):=IntWalk.i64_in _ ⟨by omega,by omega⟩
  rw[show max 0 (be-be)=0 from by omega]
  have hua:=HU.out (max 0 (ae-be));have hvb:=HV.out (0:Int);have lX:=lu (max 0 (ae-be)) (by omega);have lY:=lv (0:Int) (by omega);obtain⟨X,hX⟩: ∃X,an*2^ (max 0 (ae-be)).toNat=X:=⟨_,rfl⟩;obtain⟨Y,hY⟩: ∃Y,bn*2^ (0:Int).toNat=Y:=⟨_,rfl⟩;rw[hX] at hua lX hle⊢;rw[hY] at hvb lY hle⊢;have HUA:Hid (∀w1,yB w w1→yC 33 #[.slice ao ma ca,yi (max 0 (ae-be))] w1 (cG w1 X)):=fun w1 b1=>hua w1 (by omega) (by omega) b1
  have HVB:Hid (∀w1,yB w w1→yC 33 #[.slice bo mb cb,yi (0:Int)] w1 (cG w1 Y)):=fun w1 b1=>hvb w1 (by omega) (by omega) b1
  clear hua hvb HU HV lu lv hX hY;rw[if_neg hs,if_neg hle];have hsb:(sa==sb)=false:=by simp[hs]
  have HCM2:=HCM.out X Y;rw[gX (by omega)] at HCM2;have HCM3:Hid _:=HCM2;clear HCM2
  go_enter Tryd.func20,Tryd.ntmps20
  obtain⟨-,⟨ca0,ca1,ca2⟩,-⟩:=id la;obtain⟨-,⟨cb0,cb1,cb2⟩,-⟩:=id lb
  go_wp2_with fail
  go_region_held3 (fun wq=>(wq.cell? ⟨w.heap.size,0,none⟩=some (.bool sa)∧wq.cell? ⟨w.heap.size,1,none⟩=some (.slice ao ma ca)∧wq.cell? ⟨w.heap.size,2,none⟩=some (yi ae))∧wq.cell? ⟨w.heap.size+1,0,none⟩=some (.bool sb)∧wq.cell? ⟨w.heap.size+1,1,none⟩=some (.slice bo mb cb)∧wq.cell? ⟨w.heap.size+1,2,none⟩=some (yi be)) (go_keep) (first
   | (go_at_call 33;refine(HUA.out _ b02).mono ?_;rintro z w3 ⟨v1,rfl,o1,b3⟩;have la3:=la.l b3;have lb3:=lb.l b3;have lc3:=lc.l b3;have zc3:=zc.l b3;have b03:=aa b02 b3;obtain⟨-,⟨p0,p1,p2⟩,-⟩:=id la3;obtain⟨-,⟨p3,p4,p5⟩,-⟩:=id lb3;clear b02)
   | (go_at_call 33;refine(HVB.out _ b03).mono ?_;rintro z w4 ⟨v2,rfl,r2,b4⟩;have la4:=la3.l b4;have lb4:=lb3.l b4;have lc4:=lc3.l b4;have zc4:=zc3.l b4;have b04:=aa b03 b4;have r1:=o1.l b4;obtain⟨-,⟨q0,q1,q2⟩,-⟩:=id la4;obtain⟨-,⟨q3,q4,q5⟩,-⟩:=id lb4))
  all_goals
   clear la lb lc zc la3 lb3 lc3 zc3 p0 p1 p2 p3 p4 p5 ca0 ca1 ca2 cb0 cb1 cb2 b03 o1 b3 b4 HUA HVB
   go_wp2_with fail
   refine(HCM3.out v1 v2 w4 r1 r2).mono ?_;rintro z w9 ⟨rfl,b9⟩;have la4:=la4.l b9;have lb4:=lb4.l b9;have lc4:=lc4.l b9;have zc4:=zc4.l b9;have b04:=aa b04 b9;have r1:=r1.l b9;have r2:=r2.l b9;clear b9;have bd:yB w9 w9.drew:=(Below.refl _ _).drew;have la5:=la4.l bd;have lb5:=lb4.l bd;have lc5:=lc4.l bd;have zc5:=zc4.l bd;have b05:=aa b04 bd;have r1:=r1.l bd;have r2:=r2.l bd;obtain⟨-,⟨c0,c1,c2⟩,-⟩:=id la5;obtain⟨-,⟨c3,c4,c5⟩,-⟩:=id lb5;obtain⟨⟨rs,rn,re⟩,hbt⟩: ∃bt,bare ⟨sb,Y-X,be⟩=bt:=⟨_,rfl⟩;have HBR2:Hid (∀v w1,Rv w1 v ⟨sb,Y-X,be⟩→yC 7 #[v] w1 (di w1 ⟨rs,rn,re⟩)):=fun v w1 hv=>by
    have:=HBR.out v ⟨sb,Y-X,be⟩ w1 hv (by simp only;exact Nat.le_trans (aH 65536 _ Y (by omega) (Nat.sub_le _ _)) (by omega)) (by simp only;omega) (by simp only;omega)
    rwa [hbt] at this
   have HBT:Hid (bare ⟨sb,Y-X,be⟩=⟨rs,rn,re⟩):=hbt;clear la4 lb4 lc4 zc4 bd q0 q1 q2 q3 q4 q5 hbt HBR HCM
   go_wp2
   go_region_held3 (fun wq=>wq.cell? ⟨w.heap.size+1,0,none⟩=some (.bool sb)) (go_keep) (first
    | (go_at_call 36;refine(HLS.out Y X v2 v1 _ (by omega) (by omega) r2 r1).mono ?_;rintro z w6 ⟨vs,rfl,r6,b6⟩;have la6:=la5.l b6;have lb6:=lb5.l b6;have lc6:=lc5.l b6;have zc6:=zc5.l b6;have b06:=aa b05 b6;obtain⟨so,sc,hvs⟩:=r6.shape;subst hvs;obtain⟨-,⟨t0,t1,t2⟩,-⟩:=id lb6)
    | (go_at_call 7;refine(HBR2.out _ w6 ⟨_,rfl,r6⟩).mono ?_;rintro z w7 ⟨vt,rfl,r7,hF7,b7⟩;have la7:=la6.l b7;have lb7:=lb6.l b7;have lc7:=lc6.l b7;have zc7:=zc6.l b7;have b07:=aa b06 b7;obtain⟨tq,tc,hvt⟩:=r7.shape;subst hvt;have HF:Hid (Far w.heap.size (.slice tq (Dg.dg 65536 rn).length tc)):=hF7.mono b06.size;clear hF7;obtain⟨-,⟨u0,u1,u2⟩,-⟩:=id lb7;obtain⟨hl7,⟨d0,d1,d2⟩,f0,f1,f2⟩:=id lc7))
   all_goals go_wp2
   obtain⟨-,⟨g0,g1,g2⟩,-⟩:=aD lc7 (.bool rs) (.slice tq (Dg.dg 65536 rn).length tc) (yi re);have r8:=zc7.rd r7 (Dg.norm_dg _ _ (by omega)) (.bool rs) (.slice tq (Dg.dg 65536 rn).length tc) (yi re);have b8:=am b07 (show w.heap.size≤w.heap.size+1+1 by omega) (.bool rs) (.slice tq (Dg.dg 65536 rn).length tc) (yi re)
   refine bodyPost_ret (v:=(ydV rs (.slice tq (Dg.dg 65536 rn).length tc) re)) (by simp[results,Tryd.results20,go_sem,g0,g1,g2]) rfl ?_
   show di w (bare ⟨sb,Y-X,be⟩) _ _
   rw[HBT.out];exact⟨_,rfl,r8,HF.out,b8⟩
end Go.Proofs.YtibnjbojkjablaaDoor

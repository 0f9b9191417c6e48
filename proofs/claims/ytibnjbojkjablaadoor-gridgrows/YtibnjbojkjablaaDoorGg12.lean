/-
  Texts laid together: Dr4, Dr3a, Dr3.
-/
import Derived.Test.YtibnjbojkjablaaDoorGg11
set_option maxRecDepth 100000
set_option maxHeartbeats 6400000
namespace Go.Proofs.YtibnjbojkjablaaDoor
open Go.RowKit
theorem rI (w:World)(a0 a1 a2 b0 b1 b2:Value)(ta tb tc:TypeId):
  ZB (((w.alloc (.cells #[a0,a1,a2] ta)).alloc (.cells #[b0,b1,b2] tb)).alloc (.cells (ydA false (.slice none 0 0) 0) tc)) (w.heap.size+1+1):=by
 have:=dI ((w.alloc (.cells #[a0,a1,a2] ta)).alloc (.cells #[b0,b1,b2] tb)) tc
 rwa [World.size_alloc,World.size_alloc] at this
theorem zv (x y L M:Nat)(hx:(Dg.dg 65536 x).length≤L)(hy:(Dg.dg 65536 y).length≤M):(Dg.dg 65536 (x*y)).length≤L+M:=by
 apply Dg.dg_len_le 65536 _ _ (by omega);have h1:=Dg.vl_lt 65536 (Dg.dg 65536 x) (Dg.small_dg _ _ (by omega));have h2:=Dg.vl_lt 65536 (Dg.dg 65536 y) (Dg.small_dg _ _ (by omega));rw[Dg.vl_dg _ _ (by omega)] at h1 h2;have h3:65536^ (Dg.dg 65536 x).length≤65536^L:=Nat.pow_le_pow_right (by omega) hx;have h4:65536^ (Dg.dg 65536 y).length≤65536^M:=Nat.pow_le_pow_right (by omega) hy;rw[Nat.pow_add];exact Nat.mul_lt_mul'' (by omega) (by omega)
theorem jh (v u:Value)(a b:ak)(w:World)(hv:Rv w v a)(hu:Rv w u b)(hLa:(Dg.dg 65536 a.n).length≤30000)(hLb:(Dg.dg 65536 b.n).length≤30000)
  (ha1: -200000≤a.e) (ha2:a.e≤200000) (hb1: -200000≤b.e) (hb2:b.e≤200000):
  yC 6 #[v,u] w (dr w (bare (aK a b))):=by
 obtain⟨s0,rfl,ra⟩:=hv;obtain⟨ao,ca,rfl⟩:=ra.shape;obtain⟨s1,rfl,rb⟩:=hu;obtain⟨bo,cb,rfl⟩:=rb.shape;obtain⟨sa,an,ae⟩:=a;obtain⟨sb,bn,be⟩:=b;simp only at ra rb hLa hLb ha1 ha2 hb1 hb2⊢;have HTI:Hid (∀w1,yB w w1→yC 14 #[.slice ao (Dg.dg 65536 an).length ca,.slice bo (Dg.dg 65536 bn).length cb] w1 (cG w1 (an*bn))):=fun w1 b1=>by
  have:=fN _ _ _ _ w1 (ra.l b1) (rb.l b1) (Dg.small_dg _ _ (by omega)) (Dg.small_dg _ _ (by omega)) (by omega) (by omega)
  rwa [Dg.vl_dg _ _ (by omega),Dg.vl_dg _ _ (by omega)] at this
 have hml:=zv an bn 30000 30000 hLa hLb;unfold aK;simp only;obtain⟨X,hX⟩: ∃X,an*bn=X:=⟨_,rfl⟩;obtain⟨ma,hma⟩: ∃m,(Dg.dg 65536 an).length=m:=⟨_,rfl⟩;obtain⟨mb,hmb⟩: ∃m,(Dg.dg 65536 bn).length=m:=⟨_,rfl⟩;rw[hX,hma,hmb] at HTI;rw[hX] at hml;rw[hX,hma,hmb];have HB:Hid (∀v w1,Rv w1 v ⟨sa != sb,X,ae+be⟩→yC 7 #[v] w1 (dr w1 (bare ⟨sa != sb,X,ae+be⟩))):=fun v w1 hv=>iJ v _ w1 hv (by simp only;omega) (by simp only;omega) (by simp only;omega)
 obtain⟨⟨rs,rn,re⟩,hbt⟩: ∃bt,bare ⟨sa != sb,X,ae+be⟩=bt:=⟨_,rfl⟩;rw[hbt] at HB⊢;clear hX hma hmb ra rb hLa hLb hbt hml;obtain⟨la,lb,lc,b01,-⟩:=ju w (.bool sa) (.slice ao ma ca) (yi ae) (.bool sb) (.slice bo mb cb) (yi be) (.bool false) (.slice none 0 0) (yi 0) 35 35 35;have zc:=rI w (.bool sa) (.slice ao ma ca) (yi ae) (.bool sb) (.slice bo mb cb) (yi be) 35 35 35;obtain⟨W,hW⟩: ∃W,(((w.alloc (.cells (ydA sa (.slice ao ma ca) ae) 35)).alloc (.cells (ydA sb (.slice bo mb cb) be) 35)).alloc (.cells (ydA false (.slice none 0 0) 0) 35))=W:=⟨_,rfl⟩;rw[hW] at la lb lc b01 zc;have bd:yB W W.drew:=(Below.refl _ _).drew;have la:=la.l bd;have lb:=lb.l bd;have lc:=lc.l bd;have zc:=zc.l bd;have b02:=aa b01 bd;rw[←hW] at la lb lc b02 zc;clear bd b01 hW;obtain⟨-,⟨ca0,ca1,ca2⟩,-⟩:=id la;obtain⟨-,⟨cb0,cb1,cb2⟩,-⟩:=id lb;have ne3:w.heap.size+1+1≠w.heap.size:=by omega
 have ne4:w.heap.size≠w.heap.size+1+1:=by omega
 have e4:IntKind.i64.wrap (ae+be)=ae+be:=IntWalk.i64_in _ ⟨by omega,by omega⟩
 go_enter Tryd.func6,Tryd.ntmps6
 go_wp2_with fail
 go_region_held3 (fun wq=>(wq.cell? ⟨w.heap.size,0,none⟩=some (.bool sa)∧wq.cell? ⟨w.heap.size,1,none⟩=some (.slice ao ma ca)∧wq.cell? ⟨w.heap.size,2,none⟩=some (yi ae))∧wq.cell? ⟨w.heap.size+1,0,none⟩=some (.bool sb)∧wq.cell? ⟨w.heap.size+1,1,none⟩=some (.slice bo mb cb)∧wq.cell? ⟨w.heap.size+1,2,none⟩=some (yi be)) (go_keep) (first
  | (go_at_call 14;refine(HTI.out _ b02).mono ?_;rintro z w5 ⟨vs,rfl,r5,b5⟩;have la5:=la.l b5;have lb5:=lb.l b5;have lc5:=lc.l b5;have zc5:=zc.l b5;have b05:=aa b02 b5;obtain⟨-,⟨t0,t1,t2⟩,-⟩:=id la5;obtain⟨-,⟨t3,t4,t5⟩,-⟩:=id lb5;obtain⟨so,sc,hvs⟩:=r5.shape;subst hvs)
  | (go_at_call 7;refine(HB.out _ w5 ⟨_,rfl,r5⟩).mono ?_;rintro z w6 ⟨vt,rfl,r6,b6⟩;have la6:=la5.l b6;have lb6:=lb5.l b6;have lc6:=lc5.l b6;have zc6:=zc5.l b6;have b06:=aa b05 b6;obtain⟨-,⟨u0,u1,u2⟩,-⟩:=id la6;obtain⟨-,⟨u3,u4,u5⟩,-⟩:=id lb6;obtain⟨to0,tc,hvt⟩:=r6.shape;subst hvt;obtain⟨hl6,⟨d0,d1,d2⟩,f0,f1,f2⟩:=id lc6))
 all_goals go_wp2
 obtain⟨-,⟨g0,g1,g2⟩,-⟩:=aD lc6 (.bool rs) (.slice to0 (Dg.dg 65536 rn).length tc) (yi re);have r7:=zc6.rd r6 (Dg.norm_dg _ _ (by omega)) (.bool rs) (.slice to0 (Dg.dg 65536 rn).length tc) (yi re);have b8:=am b06 (show w.heap.size≤w.heap.size+1+1 by omega) (.bool rs) (.slice to0 (Dg.dg 65536 rn).length tc) (yi re)
 refine bodyPost_ret (v:=(ydV rs (.slice to0 (Dg.dg 65536 rn).length tc) re)) (by simp[results,Tryd.results6,go_sem,g0,g1,g2]) rfl ?_;exact⟨_,rfl,r7,b8⟩
theorem jZ (n k L j:Nat)(h:(Dg.dg 65536 n).length≤L)(hk:k≤16*j):(Dg.dg 65536 (n*2^k)).length≤L+j:=by
 apply Dg.dg_len_le 65536 _ _ (by omega);have h1:=Dg.vl_lt 65536 (Dg.dg 65536 n) (Dg.small_dg _ _ (by omega));rw[Dg.vl_dg _ _ (by omega)] at h1;have h2:65536^ (Dg.dg 65536 n).length≤65536^L:=Nat.pow_le_pow_right (by omega) h;have h3:2^k≤65536^j:=by
  rw[show(65536:Nat)=2^16 from rfl,←Nat.pow_mul]
  exact Nat.pow_le_pow_right (by omega) (by omega)
 rw[Nat.pow_add];have h4:0<65536^j:=Nat.pow_pos (by omega);generalize 65536^j=c at*;generalize 65536^L=d at*;have h5:n*2^k≤n*c:=Nat.mul_le_mul_left _ h3;have h6:n*c<d*c:=Nat.mul_lt_mul_of_pos_right (by omega) h4;omega
theorem og (x y L:Nat)(hx:(Dg.dg 65536 x).length≤L)(hy:(Dg.dg 65536 y).length≤L):(Dg.dg 65536 (x+y)).length≤L+1:=by
 apply Dg.dg_len_le 65536 _ _ (by omega);have h1:=Dg.vl_lt 65536 (Dg.dg 65536 x) (Dg.small_dg _ _ (by omega));have h2:=Dg.vl_lt 65536 (Dg.dg 65536 y) (Dg.small_dg _ _ (by omega));rw[Dg.vl_dg _ _ (by omega)] at h1 h2;have h3:65536^ (Dg.dg 65536 x).length≤65536^L:=Nat.pow_le_pow_right (by omega) hx;have h4:65536^ (Dg.dg 65536 y).length≤65536^L:=Nat.pow_le_pow_right (by omega) hy;rw[Nat.pow_succ];omega
theorem D3 {a b:Int}(h:b≤a):decide (0≤dm a b)=true:=by
 unfold dm;rw[if_neg (by omega)]
 by_cases h2:b<a
 ·rw[if_pos h2];rfl
 ·rw[if_neg h2];rfl
theorem Hr (v u:Value)(a b:ak)(w:World)(hv:Rv w v a)(hu:Rv w u b)(hLa:(Dg.dg 65536 a.n).length≤30000)(hLb:(Dg.dg 65536 b.n).length≤30000)
  (ha1: -200000≤a.e) (ha2:a.e≤200000) (hb1: -200000≤b.e) (hb2:b.e≤200000) (hs:a.s=b.s):
  yC 20 #[v,u] w (di w (bare (cO a b))):=by
 obtain⟨s0,rfl,ra⟩:=hv;obtain⟨ao,ca,rfl⟩:=ra.shape;obtain⟨s1,rfl,rb⟩:=hu;obtain⟨bo,cb,rfl⟩:=rb.shape;obtain⟨sa,an,ae⟩:=a;obtain⟨sb,bn,be⟩:=b;simp only at ra rb hLa hLb ha1 ha2 hb1 hb2 hs⊢;have HU:Hid (∀(k:Int) w1,0≤k→k≤400000→yB w w1→yC 33 #[.slice ao (Dg.dg 65536 an).length ca,yi k] w1 (cG w1 (an*2^k.toNat))):=fun k w1 h1 h2 b1=>by
  have:=kD _ _ k.toNat w1 (ra.l b1) (Dg.small_dg _ _ (by omega)) (by omega) (by omega)
  rwa [Dg.vl_dg _ _ (by omega),show((k.toNat:Nat):Int)=k from by omega] at this
 have HV:Hid (∀(k:Int) w1,0≤k→k≤400000→yB w w1→yC 33 #[.slice bo (Dg.dg 65536 bn).length cb,yi k] w1 (cG w1 (bn*2^k.toNat))):=fun k w1 h1 h2 b1=>by
  have:=kD _ _ k.toNat w1 (rb.l b1) (Dg.small_dg _ _ (by omega)) (by omega) (by omega)
  rwa [Dg.vl_dg _ _ (by omega),show((k.toNat:Nat):Int)=k from by omega] at this
 have HPL:Hid (∀P Q v1 v2 w1,(Dg.dg 65536 P).length≤60000→(Dg.dg 65536 Q).length≤60000→Rd w1 .i64 v1 (Dg.dg 65536 P)→Rd w1 .i64 v2 (Dg.dg 65536 Q)→yC 34 #[v1,v2] w1 (cG w1 (P+Q))):=fun P Q v1 v2 w1 l1 l2 h1 h2=>by
  have:=ew v1 v2 _ _ w1 h1 h2 (Dg.small_dg _ _ (by omega)) (Dg.small_dg _ _ (by omega)) (Dg.norm_dg _ _ (by omega)) (Dg.norm_dg _ _ (by omega)) (by omega) (by omega)
  rwa [Dg.vl_dg _ _ (by omega),Dg.vl_dg _ _ (by omega)] at this
 have HCM:Hid (∀P Q v1 v2 w1,Rd w1 .i64 v1 (Dg.dg 65536 P)→Rd w1 .i64 v2 (Dg.dg 65536 Q)→yC 35 #[v1,v2] w1 (yR w1 (yi (dm P Q)))):=fun P Q v1 v2 w1 h1 h2=>by
  have:=fm v1 v2 _ _ w1 h1 h2 (Dg.small_dg _ _ (by omega)) (Dg.small_dg _ _ (by omega)) (Dg.norm_dg _ _ (by omega)) (Dg.norm_dg _ _ (by omega))
  rwa [Dg.vl_dg _ _ (by omega),Dg.vl_dg _ _ (by omega)] at this
 have HLS:Hid (∀P Q v1 v2 w1,Q≤P→(Dg.dg 65536 P).length≤60000→Rd w1 .i64 v1 (Dg.dg 65536 P)→Rd w1 .i64 v2 (Dg.dg 65536 Q)→yC 36 #[v1,v2] w1 (cG w1 (P-Q))):=fun P Q v1 v2 w1 hle l1 h1 h2=>by
  have:=kI v1 v2 _ _ w1 h1 h2 (Dg.small_dg _ _ (by omega)) (Dg.small_dg _ _ (by omega)) (by omega) (aH _ _ _ (by omega) hle) (by rw[Dg.vl_dg _ _ (by omega),Dg.vl_dg _ _ (by omega)];exact hle)
  rwa [Dg.vl_dg _ _ (by omega),Dg.vl_dg _ _ (by omega)] at this
 have HBR:Hid (∀v t w1,Rv w1 v t→(Dg.dg 65536 t.n).length≤100000→ -1000000≤t.e→t.e≤1000000→yC 7 #[v] w1 (di w1 (bare t))):=fun v t w1 h1 h2 h3 h4=>lA v t w1 h1 h2 h3 h4
 have lu: ∀k:Int,k≤400000→(Dg.dg 65536 (an*2^k.toNat)).length≤55001:=fun k hk=>Nat.le_trans (jZ an k.toNat 30000 25001 hLa (by omega)) (by omega)
 have lv: ∀k:Int,k≤400000→(Dg.dg 65536 (bn*2^k.toNat)).length≤55001:=fun k hk=>Nat.le_trans (jZ bn k.toNat 30000 25001 hLb (by omega)) (by omega)
 have n1:=Dg.dg_nil_iff 65536 an (by omega);have n2:=Dg.dg_nil_iff 65536 bn (by omega);have z1:(((Dg.dg 65536 an).length:Int)==0)=decide (an=0):=by
  by_cases h:an=0
  ·rw[decide_eq_true h,n1.2 h];rfl
  ·rw[decide_eq_false h];simp;exact fun e=>h (n1.1 e)
 have z2:(((Dg.dg 65536 bn).length:Int)==0)=decide (bn=0):=by
  by_cases h:bn=0
  ·rw[decide_eq_true h,n2.2 h];rfl
  ·rw[decide_eq_false h];simp;exact fun e=>h (n2.1 e)
 obtain⟨ma,hma⟩: ∃m,(Dg.dg 65536 an).length=m:=⟨_,rfl⟩;obtain⟨mb,hmb⟩: ∃m,(Dg.dg 65536 bn).length=m:=⟨_,rfl⟩;rw[hma] at HU z1⊢;rw[hmb] at HV z2⊢;clear hma hmb ra rb hLa hLb n1 n2;obtain⟨la,lb,lc,b01,-⟩:=ju w (.bool sa) (.slice ao ma ca) (yi ae) (.bool sb) (.slice bo mb cb) (yi be) (.bool false) (.slice none 0 0) (yi 0) 35 35 35;have zc:=rI w (.bool sa) (.slice ao ma ca) (yi ae) (.bool sb) (.slice bo mb cb) (yi be) 35 35 35;obtain⟨W,hW⟩: ∃W,(((w.alloc (.cells (ydA sa (.slice ao ma ca) ae) 35)).alloc (.cells (ydA sb (.slice bo mb cb) be) 35)).alloc (.cells (ydA false (.slice none 0 0) 0) 35))=W:=⟨_,rfl⟩;rw[hW] at la lb lc b01 zc;have bd:yB W W.drew:=(Below.refl _ _).drew;have la:=la.l bd;have lb:=lb.l bd;have lc:=lc.l bd;have zc:=zc.l bd;have b02:=aa b01 bd;rw[←hW] at la lb lc b02 zc;clear bd b01 hW;have ne3:w.heap.size+1+1≠w.heap.size:=by omega
 have ne4:w.heap.size≠w.heap.size+1+1:=by omega
 unfold cO;simp only;subst hs
 by_cases ha0:an=0
 ·by_cases hb0:bn=0
  ·rw[decide_eq_true ha0] at z1
   rw[decide_eq_true hb0] at z2;have E0:(if bn=0 then ae else if an=0 then be else min ae be)=ae:=by simp[hb0]
   rw[E0];clear E0;rw[show max 0 (ae-ae)=0 from by omega]
   have eb:IntKind.i64.wrap (be-(ae))=be-(ae):=IntWalk.i64_in _ ⟨by omega,by omega⟩;have hua:=HU.out (0:Int);have hvb:=HV.out (max 0 (be-ae));have lX:=lu (0:Int) (by omega);have lY:=lv (max 0 (be-ae)) (by omega);obtain⟨X,hX⟩: ∃X,an*2^ (0:Int).toNat=X:=⟨_,rfl⟩;obtain⟨Y,hY⟩: ∃Y,bn*2^ (max 0 (be-ae)).toNat=Y:=⟨_,rfl⟩;rw[hX] at hua lX⊢;rw[hY] at hvb lY⊢;have HUA:Hid (∀w1,yB w w1→yC 33 #[.slice ao ma ca,yi (0:Int)] w1 (cG w1 X)):=fun w1 b1=>hua w1 (by omega) (by omega) b1
   have HVB:Hid (∀w1,yB w w1→yC 33 #[.slice bo mb cb,yi (max 0 (be-ae))] w1 (cG w1 Y)):=fun w1 b1=>hvb w1 (by omega) (by omega) b1
   clear hua hvb HU HV lu lv hX hY;rw[if_pos rfl]
   go_enter Tryd.func20,Tryd.ntmps20
   obtain⟨-,⟨ca0,ca1,ca2⟩,-⟩:=id la;obtain⟨-,⟨cb0,cb1,cb2⟩,-⟩:=id lb
   go_wp2_with fail
   go_region_held3 (fun wq=>(wq.cell? ⟨w.heap.size,0,none⟩=some (.bool sa)∧wq.cell? ⟨w.heap.size,1,none⟩=some (.slice ao ma ca)∧wq.cell? ⟨w.heap.size,2,none⟩=some (yi ae))∧wq.cell? ⟨w.heap.size+1,0,none⟩=some (.bool sa)∧wq.cell? ⟨w.heap.size+1,1,none⟩=some (.slice bo mb cb)∧wq.cell? ⟨w.heap.size+1,2,none⟩=some (yi be)) (go_keep) (first
    | (go_at_call 33;refine(HUA.out _ b02).mono ?_;rintro z w3 ⟨v1,rfl,o1,b3⟩;have la3:=la.l b3;have lb3:=lb.l b3;have lc3:=lc.l b3;have zc3:=zc.l b3;have b03:=aa b02 b3;obtain⟨-,⟨p0,p1,p2⟩,-⟩:=id la3;obtain⟨-,⟨p3,p4,p5⟩,-⟩:=id lb3;clear b02)
    | (go_at_call 33;refine(HVB.out _ b03).mono ?_;rintro z w4 ⟨v2,rfl,r2,b4⟩;have la4:=la3.l b4;have lb4:=lb3.l b4;have lc4:=lc3.l b4;have zc4:=zc3.l b4;have b04:=aa b03 b4;have r1:=o1.l b4;obtain⟨-,⟨q0,q1,q2⟩,-⟩:=id la4;obtain⟨-,⟨q3,q4,q5⟩,-⟩:=id lb4))
   all_goals
    clear la lb lc zc la3 lb3 lc3 zc3 p0 p1 p2 p3 p4 p5 ca0 ca1 ca2 cb0 cb1 cb2 b03 o1 b3 b4 HUA HVB;have bd:yB w4 w4.drew:=(Below.refl _ _).drew;have la5:=la4.l bd;have lb5:=lb4.l bd;have lc5:=lc4.l bd;have zc5:=zc4.l bd;have b05:=aa b04 bd;have r1:=r1.l bd;have r2:=r2.l bd;obtain⟨-,⟨c0,c1,c2⟩,-⟩:=id la5;obtain⟨-,⟨c3,c4,c5⟩,-⟩:=id lb5;obtain⟨⟨rs,rn,re⟩,hbt⟩: ∃bt,bare ⟨sa,X+Y,ae⟩=bt:=⟨_,rfl⟩;have HBR2:Hid (∀v w1,Rv w1 v ⟨sa,X+Y,ae⟩→yC 7 #[v] w1 (di w1 ⟨rs,rn,re⟩)):=fun v w1 hv=>by
     have:=HBR.out v ⟨sa,X+Y,ae⟩ w1 hv (by simp only;exact Nat.le_trans (og X Y 55001 lX lY) (by omega)) (by simp only;omega) (by simp only;omega)
     rwa [hbt] at this
    have HBT:Hid (bare ⟨sa,X+Y,ae⟩=⟨rs,rn,re⟩):=hbt;clear la4 lb4 lc4 zc4 bd q0 q1 q2 q3 q4 q5 hbt HBR HCM
    go_wp2
    go_region_held3 (fun wq=>wq.cell? ⟨w.heap.size,0,none⟩=some (.bool sa)) (go_keep) (first
     | (go_at_call 34;refine(HPL.out X Y v1 v2 _ (by omega) (by omega) r1 r2).mono ?_;rintro z w6 ⟨vs,rfl,r6,b6⟩;have la6:=la5.l b6;have lb6:=lb5.l b6;have lc6:=lc5.l b6;have zc6:=zc5.l b6;have b06:=aa b05 b6;obtain⟨so,sc,hvs⟩:=r6.shape;subst hvs;obtain⟨-,⟨t0,t1,t2⟩,-⟩:=id la6)
     | (go_at_call 7;refine(HBR2.out _ w6 ⟨_,rfl,r6⟩).mono ?_;rintro z w7 ⟨vt,rfl,r7,hF7,b7⟩;have la7:=la6.l b7;have lb7:=lb6.l b7;have lc7:=lc6.l b7;have zc7:=zc6.l b7;have b07:=aa b06 b7;obtain⟨tq,tc,hvt⟩:=r7.shape;subst hvt;have HF:Hid (Far w.heap.size (.slice tq (Dg.dg 65536 rn).length tc)):=hF7.mono b06.size;clear hF7;obtain⟨-,⟨u0,u1,u2⟩,-⟩:=id la7;obtain⟨hl7,⟨d0,d1,d2⟩,f0,f1,f2⟩:=id lc7))
    all_goals go_wp2
    obtain⟨-,⟨g0,g1,g2⟩,-⟩:=aD lc7 (.bool rs) (.slice tq (Dg.dg 65536 rn).length tc) (yi re);have r8:=zc7.rd r7 (Dg.norm_dg _ _ (by omega)) (.bool rs) (.slice tq (Dg.dg 65536 rn).length tc) (yi re);have b8:=am b07 (show w.heap.size≤w.heap.size+1+1 by omega) (.bool rs) (.slice tq (Dg.dg 65536 rn).length tc) (yi re)
    refine bodyPost_ret (v:=(ydV rs (.slice tq (Dg.dg 65536 rn).length tc) re)) (by simp[results,Tryd.results20,go_sem,g0,g1,g2]) rfl ?_
    show di w (bare ⟨sa,X+Y,ae⟩) _ _
    rw[HBT.out];exact⟨_,rfl,r8,HF.out,b8⟩
  ·rw[decide_eq_true ha0] at z1
   rw[decide_eq_false hb0] at z2;have E0:(if bn=0 then ae else if an=0 then be else min ae be)=be:=by simp[ha0,hb0]
   rw[E0];clear E0;have ea:IntKind.i64.wrap (ae-(be))=ae-(be):=IntWalk.i64_in _ ⟨by omega,by omega⟩;rw[show max 0 (be-be)=0 from by omega]
   have hua:=HU.out (max 0 (ae-be));have hvb:=HV.out (0:Int);have lX:=lu (max 0 (ae-be)) (by omega);have lY:=lv (0:Int) (by omega);obtain⟨X,hX⟩: ∃X,an*2^ (max 0 (ae-be)).toNat=X:=⟨_,rfl⟩;obtain⟨Y,hY⟩: ∃Y,bn*2^ (0:Int).toNat=Y:=⟨_,rfl⟩;rw[hX] at hua lX⊢;rw[hY] at hvb lY⊢;have HUA:Hid (∀w1,yB w w1→yC 33 #[.slice ao ma ca,yi (max 0 (ae-be))] w1 (cG w1 X)):=fun w1 b1=>hua w1 (by omega) (by omega) b1
   have HVB:Hid (∀w1,yB w w1→yC 33 #[.slice bo mb cb,yi (0:Int)] w1 (cG w1 Y)):=fun w1 b1=>hvb w1 (by omega) (by omega) b1
   clear hua hvb HU HV lu lv hX hY;rw[if_pos rfl]
   go_enter Tryd.func20,Tryd.ntmps20
   obtain⟨-,⟨ca0,ca1,ca2⟩,-⟩:=id la;obtain⟨-,⟨cb0,cb1,cb2⟩,-⟩:=id lb
   go_wp2_with fail
   go_region_held3 (fun wq=>(wq.cell? ⟨w.heap.size,0,none⟩=some (.bool sa)∧wq.cell? ⟨w.heap.size,1,none⟩=some (.slice ao ma ca)∧wq.cell? ⟨w.heap.size,2,none⟩=some (yi ae))∧wq.cell? ⟨w.heap.size+1,0,none⟩=some (.bool sa)∧wq.cell? ⟨w.heap.size+1,1,none⟩=some (.slice bo mb cb)∧wq.cell? ⟨w.heap.size+1,2,none⟩=some (yi be)) (go_keep) (first
    | (go_at_call 33;refine(HUA.out _ b02).mono ?_;rintro z w3 ⟨v1,rfl,o1,b3⟩;have la3:=la.l b3;have lb3:=lb.l b3;have lc3:=lc.l b3;have zc3:=zc.l b3;have b03:=aa b02 b3;obtain⟨-,⟨p0,p1,p2⟩,-⟩:=id la3;obtain⟨-,⟨p3,p4,p5⟩,-⟩:=id lb3;clear b02)
    | (go_at_call 33;refine(HVB.out _ b03).mono ?_;rintro z w4 ⟨v2,rfl,r2,b4⟩;have la4:=la3.l b4;have lb4:=lb3.l b4;have lc4:=lc3.l b4;have zc4:=zc3.l b4;have b04:=aa b03 b4;have r1:=o1.l b4;obtain⟨-,⟨q0,q1,q2⟩,-⟩:=id la4;obtain⟨-,⟨q3,q4,q5⟩,-⟩:=id lb4))
   all_goals
    clear la lb lc zc la3 lb3 lc3 zc3 p0 p1 p2 p3 p4 p5 ca0 ca1 ca2 cb0 cb1 cb2 b03 o1 b3 b4 HUA HVB;have bd:yB w4 w4.drew:=(Below.refl _ _).drew;have la5:=la4.l bd;have lb5:=lb4.l bd;have lc5:=lc4.l bd;have zc5:=zc4.l bd;have b05:=aa b04 bd;have r1:=r1.l bd;have r2:=r2.l bd;obtain⟨-,⟨c0,c1,c2⟩,-⟩:=id la5;obtain⟨-,⟨c3,c4,c5⟩,-⟩:=id lb5;obtain⟨⟨rs,rn,re⟩,hbt⟩: ∃bt,bare ⟨sa,X+Y,be⟩=bt:=⟨_,rfl⟩;have HBR2:Hid (∀v w1,Rv w1 v ⟨sa,X+Y,be⟩→yC 7 #[v] w1 (di w1 ⟨rs,rn,re⟩)):=fun v w1 hv=>by
     have:=HBR.out v ⟨sa,X+Y,be⟩ w1 hv (by simp only;exact Nat.le_trans (og X Y 55001 lX lY) (by omega)) (by simp only;omega) (by simp only;omega)
     rwa [hbt] at this
    have HBT:Hid (bare ⟨sa,X+Y,be⟩=⟨rs,rn,re⟩):=hbt;clear la4 lb4 lc4 zc4 bd q0 q1 q2 q3 q4 q5 hbt HBR HCM
    go_wp2
    go_region_held3 (fun wq=>wq.cell? ⟨w.heap.size,0,none⟩=some (.bool sa)) (go_keep) (first
     | (go_at_call 34;refine(HPL.out X Y v1 v2 _ (by omega) (by omega) r1 r2).mono ?_;rintro z w6 ⟨vs,rfl,r6,b6⟩;have la6:=la5.l b6;have lb6:=lb5.l b6;have lc6:=lc5.l b6;have zc6:=zc5.l b6;have b06:=aa b05 b6;obtain⟨so,sc,hvs⟩:=r6.shape;subst hvs;obtain⟨-,⟨t0,t1,t2⟩,-⟩:=id la6)
     | (go_at_call 7;refine(HBR2.out _ w6 ⟨_,rfl,r6⟩).mono ?_;rintro z w7 ⟨vt,rfl,r7,hF7,b7⟩;have la7:=la6.l b7;have lb7:=lb6.l b7;have lc7:=lc6.l b7;have zc7:=zc6.l b7;have b07:=aa b06 b7;obtain⟨tq,tc,hvt⟩:=r7.shape;subst hvt;have HF:Hid (Far w.heap.size (.slice tq (Dg.dg 65536 rn).length tc)):=hF7.mono b06.size;clear hF7;obtain⟨-,⟨u0,u1,u2⟩,-⟩:=id la7;obtain⟨hl7,⟨d0,d1,d2⟩,f0,f1,f2⟩:=id lc7))
    all_goals go_wp2
    obtain⟨-,⟨g0,g1,g2⟩,-⟩:=aD lc7 (.bool rs) (.slice tq (Dg.dg 65536 rn).length tc) (yi re);have r8:=zc7.rd r7 (Dg.norm_dg _ _ (by omega)) (.bool rs) (.slice tq (Dg.dg 65536 rn).length tc) (yi re);have b8:=am b07 (show w.heap.size≤w.heap.size+1+1 by omega) (.bool rs) (.slice tq (Dg.dg 65536 rn).length tc) (yi re)
    refine bodyPost_ret (v:=(ydV rs (.slice tq (Dg.dg 65536 rn).length tc) re)) (by simp[results,Tryd.results20,go_sem,g0,g1,g2]) rfl ?_
    show di w (bare ⟨sa,X+Y,be⟩) _ _
    rw[HBT.out];exact⟨_,rfl,r8,HF.out,b8⟩
 ·by_cases hb0:bn=0
  ·rw[decide_eq_false ha0] at z1
   rw[decide_eq_true hb0] at z2;have E0:(if bn=0 then ae else if an=0 then be else min ae be)=ae:=by simp[hb0]
   rw[E0];clear E0;rw[show max 0 (ae-ae)=0 from by omega]
   have eb:IntKind.i64.wrap (be-(ae))=be-(ae):=IntWalk.i64_in _ ⟨by omega,by omega⟩;have hua:=HU.out (0:Int);have hvb:=HV.out (max 0 (be-ae));have lX:=lu (0:Int) (by omega);have lY:=lv (max 0 (be-ae)) (by omega);obtain⟨X,hX⟩: ∃X,an*2^ (0:Int).toNat=X:=⟨_,rfl⟩;obtain⟨Y,hY⟩: ∃Y,bn*2^ (max 0 (be-ae)).toNat=Y:=⟨_,rfl⟩;rw[hX] at hua lX⊢;rw[hY] at hvb lY⊢;have HUA:Hid (∀w1,yB w w1→yC 33 #[.slice ao ma ca,yi (0:Int)] w1 (cG w1 X)):=fun w1 b1=>hua w1 (by omega) (by omega) b1
   have HVB:Hid (∀w1,yB w w1→yC 33 #[.slice bo mb cb,yi (max 0 (be-ae))] w1 (cG w1 Y)):=fun w1 b1=>hvb w1 (by omega) (by omega) b1
   clear hua hvb HU HV lu lv hX hY;rw[if_pos rfl]
   go_enter Tryd.func20,Tryd.ntmps20
   obtain⟨-,⟨ca0,ca1,ca2⟩,-⟩:=id la;obtain⟨-,⟨cb0,cb1,cb2⟩,-⟩:=id lb
   go_wp2_with fail
   go_region_held3 (fun wq=>(wq.cell? ⟨w.heap.size,0,none⟩=some (.bool sa)∧wq.cell? ⟨w.heap.size,1,none⟩=some (.slice ao ma ca)∧wq.cell? ⟨w.heap.size,2,none⟩=some (yi ae))∧wq.cell? ⟨w.heap.size+1,0,none⟩=some (.bool sa)∧wq.cell? ⟨w.heap.size+1,1,none⟩=some (.slice bo mb cb)∧wq.cell? ⟨w.heap.size+1,2,none⟩=some (yi be)) (go_keep) (first
    | (go_at_call 33;refine(HUA.out _ b02).mono ?_;rintro z w3 ⟨v1,rfl,o1,b3⟩;have la3:=la.l b3;have lb3:=lb.l b3;have lc3:=lc.l b3;have zc3:=zc.l b3;have b03:=aa b02 b3;obtain⟨-,⟨p0,p1,p2⟩,-⟩:=id la3;obtain⟨-,⟨p3,p4,p5⟩,-⟩:=id lb3;clear b02)
    | (go_at_call 33;refine(HVB.out _ b03).mono ?_;rintro z w4 ⟨v2,rfl,r2,b4⟩;have la4:=la3.l b4;have lb4:=lb3.l b4;have lc4:=lc3.l b4;have zc4:=zc3.l b4;have b04:=aa b03 b4;have r1:=o1.l b4;obtain⟨-,⟨q0,q1,q2⟩,-⟩:=id la4;obtain⟨-,⟨q3,q4,q5⟩,-⟩:=id lb4))
   all_goals
    clear la lb lc zc la3 lb3 lc3 zc3 p0 p1 p2 p3 p4 p5 ca0 ca1 ca2 cb0 cb1 cb2 b03 o1 b3 b4 HUA HVB;have bd:yB w4 w4.drew:=(Below.refl _ _).drew;have la5:=la4.l bd;have lb5:=lb4.l bd;have lc5:=lc4.l bd;have zc5:=zc4.l bd;have b05:=aa b04 bd;have r1:=r1.l bd;have r2:=r2.l bd;obtain⟨-,⟨c0,c1,c2⟩,-⟩:=id la5;obtain⟨-,⟨c3,c4,c5⟩,-⟩:=id lb5;obtain⟨⟨rs,rn,re⟩,hbt⟩: ∃bt,bare ⟨sa,X+Y,ae⟩=bt:=⟨_,rfl⟩;have HBR2:Hid (∀v w1,Rv w1 v ⟨sa,X+Y,ae⟩→yC 7 #[v] w1 (di w1 ⟨rs,rn,re⟩)):=fun v w1 hv=>by
     have:=HBR.out v ⟨sa,X+Y,ae⟩ w1 hv (by simp only;exact Nat.le_trans (og X Y 55001 lX lY) (by omega)) (by simp only;omega) (by simp only;omega)
     rwa [hbt] at this
    have HBT:Hid (bare ⟨sa,X+Y,ae⟩=⟨rs,rn,re⟩):=hbt;clear la4 lb4 lc4 zc4 bd q0 q1 q2 q3 q4 q5 hbt HBR HCM
    go_wp2
    go_region_held3 (fun wq=>wq.cell? ⟨w.heap.size,0,none⟩=some (.bool sa)) (go_keep) (first
     | (go_at_call 34;refine(HPL.out X Y v1 v2 _ (by omega) (by omega) r1 r2).mono ?_;rintro z w6 ⟨vs,rfl,r6,b6⟩;have la6:=la5.l b6;have lb6:=lb5.l b6;have lc6:=lc5.l b6;have zc6:=zc5.l b6;have b06:=aa b05 b6;obtain⟨so,sc,hvs⟩:=r6.shape;subst hvs;obtain⟨-,⟨t0,t1,t2⟩,-⟩:=id la6)
     | (go_at_call 7;refine(HBR2.out _ w6 ⟨_,rfl,r6⟩).mono ?_;rintro z w7 ⟨vt,rfl,r7,hF7,b7⟩;have la7:=la6.l b7;have lb7:=lb6.l b7;have lc7:=lc6.l b7;have zc7:=zc6.l b7;have b07:=aa b06 b7;obtain⟨tq,tc,hvt⟩:=r7.shape;subst hvt;have HF:Hid (Far w.heap.size (.slice tq (Dg.dg 65536 rn).length tc)):=hF7.mono b06.size;clear hF7;obtain⟨-,⟨u0,u1,u2⟩,-⟩:=id la7;obtain⟨hl7,⟨d0,d1,d2⟩,f0,f1,f2⟩:=id lc7))
    all_goals go_wp2
    obtain⟨-,⟨g0,g1,g2⟩,-⟩:=aD lc7 (.bool rs) (.slice tq (Dg.dg 65536 rn).length tc) (yi re);have r8:=zc7.rd r7 (Dg.norm_dg _ _ (by omega)) (.bool rs) (.slice tq (Dg.dg 65536 rn).length tc) (yi re);have b8:=am b07 (show w.heap.size≤w.heap.size+1+1 by omega) (.bool rs) (.slice tq (Dg.dg 65536 rn).length tc) (yi re)
    refine bodyPost_ret (v:=(ydV rs (.slice tq (Dg.dg 65536 rn).length tc) re)) (by simp[results,Tryd.results20,go_sem,g0,g1,g2]) rfl ?_
    show di w (bare ⟨sa,X+Y,ae⟩) _ _
    rw[HBT.out];exact⟨_,rfl,r8,HF.out,b8⟩
  ·rw[decide_eq_false ha0] at z1
   rw[decide_eq_false hb0] at z2;have E0:(if bn=0 then ae else if an=0 then be else min ae be)=min ae be:=by simp[ha0,hb0]
   rw[E0];clear E0;have ea:IntKind.i64.wrap (ae-(min ae be))=ae-(min ae be):=IntWalk.i64_in _ ⟨by omega,by omega⟩;have eb:IntKind.i64.wrap (be-(min ae be))=be-(min ae be):=IntWalk.i64_in _ ⟨by omega,by omega⟩;have hua:=HU.out (max 0 (ae-min ae be));have hvb:=HV.out (max 0 (be-min ae be));have lX:=lu (max 0 (ae-min ae be)) (by omega);have lY:=lv (max 0 (be-min ae be)) (by omega);obtain⟨X,hX⟩: ∃X,an*2^ (max 0 (ae-min ae be)).toNat=X:=⟨_,rfl⟩;obtain⟨Y,hY⟩: ∃Y,bn*2^ (max 0 (be-min ae be)).toNat=Y:=⟨_,rfl⟩;rw[hX] at hua lX⊢;rw[hY] at hvb lY⊢;have HUA:Hid (∀w1,yB w w1→yC 33 #[.slice ao ma ca,yi (max 0 (ae-min ae be))] w1 (cG w1 X)):=fun w1 b1=>hua w1 (by omega) (by omega) b1
   have HVB:Hid (∀w1,yB w w1→yC 33 #[.slice bo mb cb,yi (max 0 (be-min ae be))] w1 (cG w1 Y)):=fun w1 b1=>hvb w1 (by omega) (by omega) b1
   clear hua hvb HU HV lu lv hX hY;rw[if_pos rfl]
   go_enter Tryd.func20,Tryd.ntmps20
   obtain⟨-,⟨ca0,ca1,ca2⟩,-⟩:=id la;obtain⟨-,⟨cb0,cb1,cb2⟩,-⟩:=id lb
   go_wp2_with fail
   go_region_held3 (fun wq=>(wq.cell? ⟨w.heap.size,0,none⟩=some (.bool sa)∧wq.cell? ⟨w.heap.size,1,none⟩=some (.slice ao ma ca)∧wq.cell? ⟨w.heap.size,2,none⟩=some (yi ae))∧wq.cell? ⟨w.heap.size+1,0,none⟩=some (.bool sa)∧wq.cell? ⟨w.heap.size+1,1,none⟩=some (.slice bo mb cb)∧wq.cell? ⟨w.heap.size+1,2,none⟩=some (yi be)) (go_keep) (first
    | (go_at_call 33;refine(HUA.out _ b02).mono ?_;rintro z w3 ⟨v1,rfl,o1,b3⟩;have la3:=la.l b3;have lb3:=lb.l b3;have lc3:=lc.l b3;have zc3:=zc.l b3;have b03:=aa b02 b3;obtain⟨-,⟨p0,p1,p2⟩,-⟩:=id la3;obtain⟨-,⟨p3,p4,p5⟩,-⟩:=id lb3;clear b02)
    | (go_at_call 33;refine(HVB.out _ b03).mono ?_;rintro z w4 ⟨v2,rfl,r2,b4⟩;have la4:=la3.l b4;have lb4:=lb3.l b4;have lc4:=lc3.l b4;have zc4:=zc3.l b4;have b04:=aa b03 b4;have r1:=o1.l b4;obtain⟨-,⟨q0,q1,q2⟩,-⟩:=id la4;obtain⟨-,⟨q3,q4,q5⟩,-⟩:=id lb4))
   all_goals
    clear la lb lc zc la3 lb3 lc3 zc3 p0 p1 p2 p3 p4 p5 ca0 ca1 ca2 cb0 cb1 cb2 b03 o1 b3 b4 HUA HVB;have bd:yB w4 w4.drew:=(Below.refl _ _).drew;have la5:=la4.l bd;have lb5:=lb4.l bd;have lc5:=lc4.l bd;have zc5:=zc4.l bd;have b05:=aa b04 bd;have r1:=r1.l bd;have r2:=r2.l bd;obtain⟨-,⟨c0,c1,c2⟩,-⟩:=id la5;obtain⟨-,⟨c3,c4,c5⟩,-⟩:=id lb5;obtain⟨⟨rs,rn,re⟩,hbt⟩: ∃bt,bare ⟨sa,X+Y,min ae be⟩=bt:=⟨_,rfl⟩;have HBR2:Hid (∀v w1,Rv w1 v ⟨sa,X+Y,min ae be⟩→yC 7 #[v] w1 (di w1 ⟨rs,rn,re⟩)):=fun v w1 hv=>by
     have:=HBR.out v ⟨sa,X+Y,min ae be⟩ w1 hv (by simp only;exact Nat.le_trans (og X Y 55001 lX lY) (by omega)) (by simp only;omega) (by simp only;omega)
     rwa [hbt] at this
    have HBT:Hid (bare ⟨sa,X+Y,min ae be⟩=⟨rs,rn,re⟩):=hbt;clear la4 lb4 lc4 zc4 bd q0 q1 q2 q3 q4 q5 hbt HBR HCM
    go_wp2
    go_region_held3 (fun wq=>wq.cell? ⟨w.heap.size,0,none⟩=some (.bool sa)) (go_keep) (first
     | (go_at_call 34;refine(HPL.out X Y v1 v2 _ (by omega) (by omega) r1 r2).mono ?_;rintro z w6 ⟨vs,rfl,r6,b6⟩;have la6:=la5.l b6;have lb6:=lb5.l b6;have lc6:=lc5.l b6;have zc6:=zc5.l b6;have b06:=aa b05 b6;obtain⟨so,sc,hvs⟩:=r6.shape;subst hvs;obtain⟨-,⟨t0,t1,t2⟩,-⟩:=id la6)
     | (go_at_call 7;refine(HBR2.out _ w6 ⟨_,rfl,r6⟩).mono ?_;rintro z w7 ⟨vt,rfl,r7,hF7,b7⟩;have la7:=la6.l b7;have lb7:=lb6.l b7;have lc7:=lc6.l b7;have zc7:=zc6.l b7;have b07:=aa b06 b7;obtain⟨tq,tc,hvt⟩:=r7.shape;subst hvt;have HF:Hid (Far w.heap.size (.slice tq (Dg.dg 65536 rn).length tc)):=hF7.mono b06.size;clear hF7;obtain⟨-,⟨u0,u1,u2⟩,-⟩:=id la7;obtain⟨hl7,⟨d0,d1,d2⟩,f0,f1,f2⟩:=id lc7))
    all_goals go_wp2
    obtain⟨-,⟨g0,g1,g2⟩,-⟩:=aD lc7 (.bool rs) (.slice tq (Dg.dg 65536 rn).length tc) (yi re);have r8:=zc7.rd r7 (Dg.norm_dg _ _ (by omega)) (.bool rs) (.slice tq (Dg.dg 65536 rn).length tc) (yi re);have b8:=am b07 (show w.heap.size≤w.heap.size+1+1 by omega) (.bool rs) (.slice tq (Dg.dg 65536 rn).length tc) (yi re)
    refine bodyPost_ret (v:=(ydV rs (.slice tq (Dg.dg 65536 rn).length tc) re)) (by simp[results,Tryd.results20,go_sem,g0,g1,g2]) rfl ?_
    show di w (bare ⟨sa,X+Y,min ae be⟩) _ _
    rw[HBT.out];exact⟨_,rfl,r8,HF.out,b8⟩
end Go.Proofs.YtibnjbojkjablaaDoor

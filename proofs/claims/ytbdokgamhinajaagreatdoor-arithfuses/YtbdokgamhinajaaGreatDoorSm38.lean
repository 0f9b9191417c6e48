/-
  Texts laid together: Gq6, Gq7, Ra1, Oq1, Oq2, As10, Gr11.
-/
import Derived.Test.YtbdokgamhinajaaGreatDoorSm37
set_option maxRecDepth 100000
set_option maxHeartbeats 12800000
namespace Go.Proofs.YtbdokgamhinajaaGreatDoor
open _root_.Go.Proofs.Tryz
open Go.RowKit
theorem Pc (R D E:Int)(ln lm:Nat)(h1: -700000≤(ln:Int)-lm+E):((ln:Int)-lm+E+800000).tdiv (ai R)-(800000:Int).tdiv (ai R)-D+2=((ln:Int)-lm+E)/(ai R:Int)-D+2:=by
 rw[Int.tdiv_eq_ediv_of_nonneg (by omega),Int.tdiv_eq_ediv_of_nonneg (by omega)];unfold ai
 split<;>simp<;>omega
theorem EN (R D:Int)(h:0≤D):((ai R*D.toNat:Nat):Int)=(ai R:Int)*D:=by
 rw[Int.natCast_mul,Int.toNat_of_nonneg h]
theorem CU {R k:Int}{a:Int}(h1: -a≤k)(h2:k≤a): -(4*a)≤(ai R:Int)*k∧(ai R:Int)*k≤4*a:=by
 unfold ai
 split<;>simp<;>omega
theorem CJ {R D L:Int}{gr:Bool}{N M:Nat}{E:Int}(h:(decide (aT R D (dY N M E)<L)&&gr)=true):dj R D L gr N M E=L:=if_pos h
theorem Gu {R D L:Int}{gr:Bool}{N M:Nat}{E:Int}(h:(decide (aT R D (dY N M E)<L)&&gr)=false):dj R D L gr N M E=aT R D (dY N M E):=if_neg (by rw[h];decide)
theorem KS {R D L:Int}{gr qs:Bool}{N M:Nat}{E way:Int}(h1:decide (gF R D L gr N M E=0)=false)(h2:rf R D L gr qs N M E way=true):fM R D L gr qs N M E way=cH R D L gr N M E+1:=if_pos ⟨h1,h2⟩
theorem ZF {R D L:Int}{gr qs:Bool}{N M:Nat}{E way:Int}(h:decide (gF R D L gr N M E=0)=true∨rf R D L gr qs N M E way=false):fM R D L gr qs N M E way=cH R D L gr N M E:=by
 refine if_neg ?_;rintro⟨h1,h2⟩
 rcases h with h|h
 ·rw[h1] at h
  cases h
 ·rw[h2] at h
  cases h
theorem KT (B x y L:Nat)(hB:2≤B)(h:x≤y)(hy:(Dg.dg B y).length≤L):(Dg.dg B x).length≤L:=Nat.le_trans (aH B x y hB h) hy
theorem ZG {x L:Nat}(h:(Dg.dg 65536 x).length≤L):(Dg.dg 65536 (x+1)).length≤L+1:=by
 refine Dg.dg_len_le 65536 _ _ (by omega) ?_;have h1:=Dg.vl_lt 65536 (Dg.dg 65536 x) (Dg.small_dg _ _ (by omega));rw[Dg.vl_dg _ _ (by omega)] at h1;have h2:65536^ (Dg.dg 65536 x).length≤65536^L:=Nat.pow_le_pow_right (by omega) h;have h3:(65536:Nat)^ (L+1)=65536^L*65536:=Nat.pow_succ ..;have h4:0< (65536:Nat)^L:=Nat.pow_pos (by omega);generalize(65536:Nat)^L=c at*;omega
theorem vR {a L:Nat}(h:(Dg.dg 65536 a).length≤L):bitLen a≤16*L:=by
 refine bF a _ ?_;rw[Nat.pow_mul];have h1:=Dg.vl_lt 65536 _ (Dg.small_dg 65536 a (by omega));rw[Dg.vl_dg _ _ (by omega)] at h1;exact Nat.lt_of_lt_of_le h1 (Nat.pow_le_pow_right (by omega) h)
theorem pQ (v:Value)(n:Nat)(w:World)(h:Rd w .i64 v (Dg.dg 65536 n))(hl:(Dg.dg 65536 n).length≤3000000):yC 74 #[v] w (yR w (yi (bitLen n:Nat))):=by
 have:=kF v _ w h (Dg.small_dg _ _ (by omega)) (Dg.norm_dg _ _ (by omega)) hl;rw[Dg.vl_dg _ _ (by omega)] at this;refine this.mono ?_;rintro z w' ⟨rfl,rfl⟩;exact⟨rfl,Below.refl _ _⟩
theorem Rh {R D k t b:Int}(h1:t/(ai R:Int)-(D-1)≤k)(h2:k≤b/(ai R:Int)-D+2)(t1: -341000≤t)(b2:b≤341000)(d1:1≤D)(d2:D≤120): -360000≤(ai R:Int)*k∧(ai R:Int)*k≤360000:=by
 unfold ai at*
 split at h1<;>simp_all<;>omega
theorem KU (R D L G:Int)(gr qs:Bool)(no:Option Addr)(nc:Nat)(eo:Option Addr)(ec:Nat)(N M:Nat)(E way:Int)(w:World)(hg:bk R D L G=0)(hway:iC way=true)
  (ha:Rd w .i64 (yS no N nc) (Dg.dg 65536 N)) (hb:Rd w .i64 (yS eo M ec) (Dg.dg 65536 M)) (hla:(Dg.dg 65536 N).length≤20000) (hlb:(Dg.dg 65536 M).length≤20000) (hN:N≠0) (hM:M≠0) (e1: -100000≤E) (e2:E≤100000) (s1: -340000≤(bitLen N:Int)-(bitLen M:Int)+E) (s2:(bitLen N:Int)-(bitLen M:Int)+E≤340000):
  yC 50 #[yrV qs (yS no N nc) (yS eo M ec) E,ygV R D L G gr,yi way] w (GT w (cI R D L G gr qs N M E way)):=by
 obtain⟨hR,d1,d2,l1,l2,g1,g2,lg,l16⟩:=cB hg;have hbn:=vR hla;have hbm:=vR hlb;have hs:=Ve R D N M E;have hst:=Pc R D E (bitLen N) (bitLen M) (by omega);have hK1: -400000≤aT R D (dY N M E):=by
  have: -350000≤dY N M E:=by unfold dY;split<;>omega
  unfold aT ai
  split<;>simp<;>omega
 have hk0:((bitLen N:Int)-(bitLen M:Int)+E)/(ai R:Int)-D+2≤400000:=by
  unfold ai
  split<;>simp<;>omega
 have hwn:=eN R;have hWK: ∀k,aT R D (dY N M E)≤k→k≤((bitLen N:Int)-(bitLen M:Int)+E)/(ai R:Int)-D+2→ -360000≤(ai R:Int)*k∧(ai R:Int)*k≤360000:=fun k h1 h2=>
  Rh h1 h2 (by unfold dY;split<;>omega) (by omega) d1 d2
 have hNM: ∀n:Int,n≤900000→(Dg.dg 65536 (eZ N n)).length≤160000:=fun n h=>GB (Nat.le_trans hla (by omega)) h
 have hDM: ∀n:Int,-900000≤n→(Dg.dg 65536 (dX M n)).length≤160000:=fun n h=>GC (Nat.le_trans hlb (by omega)) h
 have hcr: -360000≤(ai R:Int)*dj R D L gr N M E∧(ai R:Int)*dj R D L gr N M E≤360000∧ -400000≤dj R D L gr N M E∧dj R D L gr N M E≤400000:=by
  by_cases h:(decide (aT R D (dY N M E)<L)&&gr)=true
  ·rw[CJ h]
   have:=l16;refine⟨?_, ?_,by omega,by omega⟩<;>(clear hWK hs hst hK1 hk0;unfold ai;split<;>simp<;>omega)
  ·rw[Gu (by simpa using h)]
   have:=hWK _ (Int.le_refl _) (by omega);exact⟨this.1,this.2,hK1,by omega⟩
 have hq:(Dg.dg 65536 (cH R D L gr N M E)).length≤160000:=KT 65536 _ _ _ (by omega) (Nat.div_le_self _ _) (hNM _ (by unfold shP;omega));have hY0:0<dX M (shP R D L gr N M E):=N8 _ (Nat.pos_of_ne_zero hM);have hr:(Dg.dg 65536 (gF R D L gr N M E)).length≤160000:=KT 65536 _ _ _ (by omega) (Nat.le_of_lt (Nat.mod_lt _ hY0)) (hDM _ (by unfold shP;omega));have hDc:=EN R D (by omega);have hDc1:=EN R (D-1) (by omega);have hpow:ai R*(D-1).toNat≤480:=by
  have:(D-1).toNat≤119:=by omega
  exact Nat.le_trans (Nat.mul_le_mul hwn.2 this) (by omega)
 have hm1:(ai R:Int)*(D-1)≤480:=by omega
 have hm2:(ai R:Int)*D≤480:=by
  have:=CU (R:=R) (k:=D) (a:=120) (by omega) (by omega);omega
 have hm3:0≤(ai R:Int)*D:=by omega
 have a1:=Int.natAbs_tdiv_le_natAbs ((bitLen N:Int)-(bitLen M:Int)+E+800000) (ai R);have a2:=Int.natAbs_tdiv_le_natAbs (800000:Int) (ai R);refine ZY R D L G gr qs no _ nc eo _ ec E way (ai R) (bitLen N) (bitLen M) (((bitLen N:Int)-(bitLen M:Int)+E+800000).tdiv (ai R)) ((800000:Int).tdiv (ai R)) (aT R D (dY N M E)) (((bitLen N:Int)-(bitLen M:Int)+E)/(ai R:Int)-D+2) (dj R D L gr N M E)
  (fun k=>eZ N (E-(ai R:Int)*k)/dX M (E-(ai R:Int)*k)) (fun k=>eZ N (E-(ai R:Int)*k) % dX M (E-(ai R:Int)*k)) (fun k=>dX M (E-(ai R:Int)*k)) (fun k=>bitLen (eZ N (E-(ai R:Int)*k)/dX M (E-(ai R:Int)*k)))
  (cH R D L gr N M E) (gF R D L gr N M E) (dX M (shP R D L gr N M E)) (bitLen (cH R D L gr N M E+1)) (dm ((gF R D L gr N M E*2:Nat):Int) ((dX M (shP R D L gr N M E):Nat):Int)) (decide (cH R D L gr N M E % 2=1)) (rf R D L gr qs N M E way) (decide (aT R D (dY N M E)<L)) (decide (gF R D L gr N M E=0)) (decide (aT R D (dY N M E)<L)&&gr) (decide (ai R*D.toNat<bitLen (cH R D L gr N M E+1)))
  (io R D (fM R D L gr qs N M E way)) (gD R D (fM R D L gr qs N M E way) (dj R D L gr N M E)) (cI R D L G gr qs N M E way) w ?_ ?_ ?_ (Int.le_of_lt hs) ?_ ?_ ?_ rfl rfl ?_ ?_ ?_ ?_ ?_ ?_ ?_ ?_ ?_ ?_ ?_ ?_ rfl rfl rfl rfl CJ ?_ ?_ ?_ ?_ ?_ ?_ ?_ ?_ (kJ gr qs N M E way d1 lg hN hM) ?_ ?_ ?_ ?_ ?_ ?_ ?_ ?_ ?_ ?_ ?_ ?_
 ·simp
  rw[Dg.dg_nil_iff _ _ (by omega)];exact hN
 ·simp
  omega
 ·omega
 ·exact IntWalk.i64_in _ ⟨by omega,by omega⟩
 ·exact IntWalk.i64_in _ ⟨by omega,by omega⟩
 ·exact IntWalk.i64_in _ ⟨by omega,by omega⟩
 ·exact IntWalk.i64_in _ ⟨by omega,by omega⟩
 ·exact IntWalk.i64_in _ ⟨by omega,by omega⟩
 ·exact IntWalk.i64_in _ ⟨by omega,by omega⟩
 ·exact IntWalk.i64_in _ ⟨by omega,by omega⟩
 ·rw[hst]
  exact IntWalk.i64_in _ ⟨by omega,by omega⟩
 ·intro k h1 h2
  have:=hWK k h1 h2;exact⟨IntWalk.i64_in _ ⟨by omega,by omega⟩,IntWalk.i64_in _ ⟨by omega,by omega⟩⟩
 ·have:=CU (R:=R) (k:=L) (a:=17000) (by omega) (by omega)
  exact IntWalk.i64_in _ ⟨by omega,by omega⟩
 ·exact IntWalk.i64_in _ ⟨by omega,by omega⟩
 ·exact IntWalk.i64_in _ ⟨by omega,by omega⟩
 ·exact IntWalk.i64_in _ ⟨by omega,by omega⟩
 ·exact IntWalk.i64_in _ ⟨by omega,by omega⟩
 ·exact IntWalk.i64_in _ ⟨by omega,by omega⟩
 ·intro h
  have e:=Gu h;refine⟨e, ?_, ?_, ?_⟩
  ·unfold cH shP
   rw[e]
  ·unfold gF shP
   rw[e]
  ·unfold shP
   rw[e]
 ·intro k h1 h2
  have:=(xx R D k N M E d1 hN hM).2 h1;omega
 ·have:=mt (xx R D (aT R D (dY N M E)) N M E d1 hN hM).1 (Int.lt_irrefl _)
  omega
 ·intro h
  have:=of_decide_eq_true h;omega
 ·intro h
  have:=of_decide_eq_false h;omega
 ·intro h1 h2 h3
  rw[KS h1 h2];exact if_pos ((Ga R D L gr N M E d1 hN hM).1 (of_decide_eq_true h3))
 ·intro h1 h2 h3
  have h4: ¬cH R D L gr N M E+1=2^ (ai R*D.toNat):=fun c=>of_decide_eq_false h3 ((Ga R D L gr N M E d1 hN hM).2 c)
  rw[KS h1 h2];exact⟨if_neg h4,if_neg h4⟩
 ·intro h
  rw[ZF h];exact uh R D L gr N M E d1 hN hM _
 ·intro w1
  have:=nh R D L G gr w1
  rwa [jf] at this
 ·intro w1 b
  exact pQ _ N w1 (ha.l b) (by omega)
 ·intro w1 b
  exact pQ _ M w1 (hb.l b) (by omega)
 ·intro k w1 h1 h2 b
  have:=hWK k h1 h2;exact BM qs no _ nc eo _ ec N M E _ w1 (ha.l b) (hb.l b) (by omega) (by omega) (Nat.pos_of_ne_zero hM) (by omega) (by omega)
 ·intro h w1 b
  have:=BM qs no _ nc eo _ ec N M E ((ai R:Int)*dj R D L gr N M E) w1 (ha.l b) (hb.l b) (by omega) (by omega) (Nat.pos_of_ne_zero hM) (by omega) (by omega);rw[show E-(ai R:Int)*dj R D L gr N M E=shP R D L gr N M E from rfl,CJ h] at this
  exact this
 ·intro k v w1 h1 h2 r
  have:=hWK k h1 h2;exact pQ v _ w1 r (Nat.le_trans (KT 65536 _ _ _ (by omega) (Nat.div_le_self _ _) (hNM _ (by omega))) (by omega))
 ·intro v u w1 r1 r2
  have:=fN v u _ _ w1 r1 r2 (Dg.small_dg _ _ (by omega)) (Dg.small_cons.2 ⟨by omega,Dg.small_nil _ (by omega)⟩) (by omega) (by simp)
  rwa [Dg.vl_dg _ _ (by omega),show Dg.vl 65536 [2]=2 from rfl] at this
 ·intro v u w1 r1 r2
  have:=fm v u _ _ w1 r1 r2 (Dg.small_dg _ _ (by omega)) (Dg.small_dg _ _ (by omega)) (Dg.norm_dg _ _ (by omega)) (Dg.norm_dg _ _ (by omega))
  rwa [Dg.vl_dg _ _ (by omega),Dg.vl_dg _ _ (by omega)] at this
 ·intro w1
  exact Od hway qs _ _ w1
 ·intro v u w1 r1 r2
  have:=ew v u _ _ w1 r1 r2 (Dg.small_dg _ _ (by omega)) (Dg.small_cons.2 ⟨by omega,Dg.small_nil _ (by omega)⟩) (Dg.norm_dg _ _ (by omega)) (by rw[show([1]:List Nat)=Dg.dg 65536 1 from by decide];exact Dg.norm_dg _ _ (by omega)) (by omega) (by simp)
  rwa [Dg.vl_dg _ _ (by omega),show Dg.vl 65536 [1]=1 from rfl] at this
 ·intro v w1 r
  exact pQ v _ w1 r (Nat.le_trans (ZG hq) (by omega))
 ·intro h1 h2 h3 w1
  rw[KS h2 h3,show io R D (cH R D L gr N M E+1)=2^ (ai R*(D-1).toNat) from if_pos ((Ga R D L gr N M E d1 hN hM).1 (of_decide_eq_true h1)),←hDc1]
  exact ZQ _ (ai R*(D-1).toNat/16) (ai R*(D-1).toNat % 16) w1 (by omega) (by omega) (by omega)
theorem fm_is {k:Nat}(hk:1≤k∧k≤8):((fmN k:Nat):Int)=dK k:=by
 rcases bO hk with rfl|rfl|rfl|rfl|rfl|rfl|rfl|rfl<;>rfl
theorem form_any (k:Nat)(hk:1≤k∧k≤8)(w:World):yC 18 #[yi k] w (yR w (.tuple #[yhV (szN k) (exN k) (frN k:Int) (rdN k) (dgN k) (lsI k) (gsI k) (decide (k≤3)) (dK k),.bool true])):=by
 have:=sU k hk w;rw[fm_is hk] at this;exact this
theorem refNothing_any (k:Nat)(hk:1≤k∧k≤8)(w:World):yC 71 #[yi k] w (yR w (yoV (AZ (dK k)) false false yN 0)):=by
 have HF:=fun w1=>form_any k hk w1
 rcases qt hk with h|h|h<;>rw[h] at HF⊢
 ·exact aa4 _ _ _ _ _ _ _ _ _ _ w HF
 ·exact aa5 _ _ _ _ _ _ _ _ _ _ w HF
 ·exact aa6 _ _ _ _ _ _ _ _ _ _ w HF
theorem refZero_any (k:Nat)(hk:1≤k∧k≤8)(ng:Bool)(w:World):yC 21 #[yi k,.bool ng] w (yR w (yoV 1 (ng&&decide (dK k=1)) false yN 0)):=
 aej _ _ _ _ _ _ _ _ _ _ _ _ w (fun w1=>form_any k hk w1)
theorem refW_any (k:Nat)(hk:1≤k∧k≤8)(D L G:Int)(gr:Bool)(w:World):yC 68 #[ygV (rdN k) D L G gr] w (yR w (yi (ai (rdN k):Int))):=by
 have:=eG (rdN k) D L G gr w;rw[wQ hk] at this;exact this
def gtT (k:Nat)(ng:Bool):ak:=bare ⟨ng,rdN k^dgN k-1,(ai (rdN k):Int)*gsI k⟩
theorem rd_pow {k:Nat}(hk:1≤k∧k≤8):rdN k^dgN k=2^ (ai (rdN k)*dgN k):=by
 rcases bO hk with rfl|rfl|rfl|rfl|rfl|rfl|rfl|rfl<;>rfl
theorem refGreatest_any (k:Nat)(hk:1≤k∧k≤8)(ng:Bool)(w:World):yC 91 #[yi k,.bool ng] w (RVg w 2 ng (gtT k ng)):=by
 obtain⟨-,-,d1,-,-,-,lg,g2,w64,w4,w1',hg⟩:=eR hk;have hge:(ai (rdN k):Int)*gsI k≤16384∧ -16384≤(ai (rdN k):Int)*gsI k:=by
  rcases bO hk with rfl|rfl|rfl|rfl|rfl|rfl|rfl|rfl<;>decide
 have hL: ∀{x:Nat},x≤2^ (ai (rdN k)*dgN k)→(Dg.dg 65536 x).length≤10:=fun {x} hx=>by
  refine Dg.dg_len_le 65536 _ _ (by omega) (Nat.lt_of_le_of_lt hx ?_);refine Nat.lt_of_le_of_lt (Nat.pow_le_pow_right (by omega) w64) (by decide)
 unfold gtT;rw[rd_pow hk];refine aaB k _ _ _ (rdN k) (dgN k) (lsI k) (gsI k) _ (ai (rdN k):Int) ((ai (rdN k)*dgN k:Nat):Int) ((ai (rdN k):Int)*gsI k) _ _ ng (2^ (ai (rdN k)*dgN k)) _ w ?_ ?_ (fun w1=>form_any k hk w1) (fun w1=>refW_any k hk _ _ _ _ w1) (fun w1=>vJ _ (by omega) w1) (fun vo vc q w1 hv hq=> ?_) (fun vo vc w1 hv=> ?_)
 ·rw[←Int.natCast_mul]
  exact IntWalk.i64_in _ ⟨by omega,by omega⟩
 ·exact IntWalk.i64_in _ ⟨by omega,by omega⟩
 ·have hp:1≤2^ (ai (rdN k)*dgN k):=bG _
  have hq1:Rd w1 .i64 (.slice (some ⟨q,0,none⟩) 1 1) [1]:=⟨_,1,rfl,Nat.le_refl _,by unfold maxLen;omega,fun _=>⟨q,0,rfl,fun i hi=>by
   obtain rfl:i=0:=by simpa using hi
   exact hq⟩⟩
  have hne:(Dg.dg 65536 (2^ (ai (rdN k)*dgN k))).length≠0:=fun c=>by
   have:=(Dg.dg_nil_iff 65536 _ (by omega)).1 (List.length_eq_zero_iff.1 c);omega
  have:=kI (.slice vo (Dg.dg 65536 (2^ (ai (rdN k)*dgN k))).length vc) (.slice (some ⟨q,0,none⟩) 1 1) _ [1] w1 hv hq1 (Dg.small_dg _ _ (by omega)) (Dg.small_cons.2 ⟨by omega,Dg.small_nil _ (by omega)⟩) (by have:=hL (Nat.le_refl (2^ (ai (rdN k)*dgN k)));omega) (by simp;omega) (by rw[Dg.vl_dg _ _ (by omega),show Dg.vl 65536 [1]=1 from rfl];exact hp)
  rwa [Dg.vl_dg _ _ (by omega),show Dg.vl 65536 [1]=1 from rfl] at this
 ·exact lA _ ⟨ng,2^ (ai (rdN k)*dgN k)-1,(ai (rdN k):Int)*gsI k⟩ w1 ⟨_,rfl,hv⟩ (by have:=hL (Nat.sub_le (2^ (ai (rdN k)*dgN k)) 1);simp only;omega) (by simp only;omega) (by simp only;omega)
def plV (k:Nat)(wy:Int)(P:fz):Int×Bool×ak×Int:=
 if P.ov=true then(if dK k=3 then(5,false,⟨false,0,0⟩,5) else if dK k=1∧aaV wy P.s=true then(3,P.s,⟨false,0,0⟩,5) else(2,P.s,gtT k P.s,5))
 else if P.un=true∧P.p<lsI k then(1,false,⟨false,0,0⟩,3)
 else if P.d=0 then(1,P.s,⟨false,0,0⟩,if P.ex=true then 0 else if P.un=true then 3 else 1)
 else(2,P.s,bare ⟨P.s,P.d,(ai (rdN k):Int)*P.p⟩,if P.ex=true then 0 else if P.un=true then 3 else 1)
structure Plc (k:Nat) (P:fz):Prop where
 low:dK k=1→P.p<lsI k→P.ov=true
 same:dK k≠1→P.ov=false→P.un=true→P.ex=true→P.p<lsI k
 nil:P.ov=false→P.d=0→dK k=1
 len:(Dg.dg 65536 P.d).length≤100000
 far:P.ov=false→(P.un=true∧P.p<lsI k)∨(-17000≤P.p∧P.p≤17000)
theorem placed_any (k:Nat)(hk:1≤k∧k≤8)(wy:Int)(hw:1≤wy∧wy≤5)(P:fz)(hP:Plc k P)(po:Option Addr)(pc:Nat)(w:World)(hr:Rd w .i64 (yS po P.d pc) (Dg.dg 65536 P.d)):
  yC 49 #[yi k,ypV P.s (yS po P.d pc) P.p P.ex P.ov P.un,yi wy] w (RVG w (plV k wy P).1 (plV k wy P).2.1 (plV k wy P).2.2.1 (plV k wy P).2.2.2):=by
 have HF:=fun w1=>form_any k hk w1
 have HN:=fun w1=>refNothing_any k hk w1
 have HG:=fun g w1=>refGreatest_any k hk g w1
 have HZ:=fun g w1=>refZero_any k hk g w1
 have HW:=fun D L G gr w1=>refW_any k hk D L G gr w1
 have wl:=eN (rdN k);obtain⟨h1,h2,h3,h4,h5⟩:=hP;obtain⟨ps,pd,pp,ex,ov,un⟩:=P;simp only at h1 h2 h3 h4 h5 hr;unfold plV;simp only
 cases ov
 ·rw[if_neg (by decide)]
  by_cases hl:un=true∧pp<lsI k
  ·rw[if_pos hl]
   obtain⟨rfl,hl⟩:=hl;have hf:dK k≠1:=fun c=>absurd (h1 c hl) (by decide)
   have hf2:1<dK k:=by rcases qt hk with h|h|h<;>omega
   have hz:(false&&decide (dK k=1))=false:=rfl;have HZ':=HZ false;rw[hz] at HZ';exact refPl_low ex false _ _ _ _ _ _ _ _ _ _ _ _ _ _ _ _ _ w (by simpa using hf) hf2 hl HF HZ'
  rw[if_neg hl]
  by_cases hd:pd=0
  ·rw[if_pos hd]
   subst hd;have hf:=h3 rfl rfl;have HZ':=HZ ps;rw[show(ps&&decide (dK k=1))=ps from by rw[hf];simp] at HZ'
   rw[hf] at HF
   cases ex<;>cases un
   ·exact aeG ps _ _ _ _ _ _ _ _ _ _ _ _ _ _ _ _ w HF HZ'
   ·exact aeh ps _ _ _ _ _ _ _ _ _ _ _ _ _ _ _ w HF HZ'
   ·exact aeE ps _ _ _ _ _ _ _ _ _ _ _ _ _ _ _ _ w HF HZ'
   ·exact aef ps _ _ _ _ _ _ _ _ _ _ _ _ _ _ _ w HF HZ'
  rw[if_neg hd];have hz:(((Dg.dg 65536 pd).length:Int)==0)=false:=by
   have:(Dg.dg 65536 pd).length≠0:=fun c=>hd ((Dg.dg_nil_iff 65536 _ (by omega)).1 (List.length_eq_zero_iff.1 c))
   simpa using this
  have hpr:=(h5 rfl).resolve_left hl;have hE:IntKind.i64.wrap ((ai (rdN k):Int)*pp)=(ai (rdN k):Int)*pp:=by
   have:=CU (R:=(rdN k:Int)) hpr.1 hpr.2;exact IntWalk.i64_in _ ⟨by omega,by omega⟩
  have HB: ∀w1,yB w w1→yC 67 #[ydV ps (yS po pd pc) ((ai (rdN k):Int)*pp)] w1 (di w1 (bare ⟨ps,pd,(ai (rdN k):Int)*pp⟩)):=fun w1 b=>by
   have:=CU (R:=(rdN k:Int)) hpr.1 hpr.2;exact lA _ ⟨ps,pd,(ai (rdN k):Int)*pp⟩ w1 ⟨_,rfl,hr.l b⟩ h4 (by simp only;omega) (by simp only;omega)
  by_cases hf:dK k=1
  ·rw[hf] at HF
   cases ex<;>cases un
   ·exact aeH _ _ _ _ _ _ _ _ _ _ _ _ _ _ _ _ _ _ _ _ w hz hE HF (fun w1=>HW _ _ _ _ w1) HB
   ·exact aei _ _ _ _ _ _ _ _ _ _ _ _ _ _ _ _ _ _ _ w hz hE HF (fun w1=>HW _ _ _ _ w1) HB
   ·exact aeF _ _ _ _ _ _ _ _ _ _ _ _ _ _ _ _ _ _ _ _ w hz hE HF (fun w1=>HW _ _ _ _ w1) HB
   ·exact aeg _ _ _ _ _ _ _ _ _ _ _ _ _ _ _ _ _ _ _ w hz hE HF (fun w1=>HW _ _ _ _ w1) HB
  ·have hf2:1<dK k:=by rcases qt hk with h|h|h<;>omega
   cases ex<;>cases un
   ·exact aeH _ _ _ _ _ _ _ _ _ _ _ _ _ _ _ _ _ _ _ _ w hz hE HF (fun w1=>HW _ _ _ _ w1) HB
   ·exact aeI _ _ _ _ _ _ _ _ _ _ _ _ _ _ _ _ _ _ _ _ w (by simpa using hf) hf2 (fun c=>hl ⟨rfl,c⟩) hz hE HF (fun w1=>HW _ _ _ _ w1) HB
   ·exact aeF _ _ _ _ _ _ _ _ _ _ _ _ _ _ _ _ _ _ _ _ w hz hE HF (fun w1=>HW _ _ _ _ w1) HB
   ·exact absurd (h2 hf rfl rfl rfl) (fun c=>hl ⟨rfl,c⟩)
 ·rw[if_pos rfl]
  rcases qt hk with hf|hf|hf
  ·rw[if_neg (by omega)]
   rw[hf] at HF;have hw':wy=1∨wy=2∨wy=3∨wy=4∨wy=5:=by omega
   rcases hw' with rfl|rfl|rfl|rfl|rfl
   ·rw[if_pos ⟨hf,rfl⟩]
    exact refPl_u1 ex _ _ _ _ _ _ _ _ _ _ _ _ _ _ _ _ w HF
   ·rw[if_pos ⟨hf,rfl⟩]
    exact refPl_u2 ex _ _ _ _ _ _ _ _ _ _ _ _ _ _ _ _ w HF
   ·have ho:aaV 3 ps=false:=by cases ps<;>rfl
    rw[if_neg (by rw[ho];simp)];exact refPl_i3 ex _ _ _ _ _ _ _ _ _ _ _ _ _ _ _ _ _ w HF (fun w1=>HG ps w1)
   ·cases ps
    ·rw[if_pos ⟨hf,rfl⟩]
     exact refPl_u4 ex _ _ _ _ _ _ _ _ _ _ _ _ _ _ _ w HF
    ·rw[if_neg (by simp[aaV])]
     exact refPl_i4 ex _ _ _ _ _ _ _ _ _ _ _ _ _ _ _ _ w HF (fun w1=>HG true w1)
   ·cases ps
    ·rw[if_neg (by simp[aaV])]
     exact refPl_i5 ex _ _ _ _ _ _ _ _ _ _ _ _ _ _ _ _ w HF (fun w1=>HG false w1)
    ·rw[if_pos ⟨hf,rfl⟩]
     exact refPl_u5 ex _ _ _ _ _ _ _ _ _ _ _ _ _ _ _ w HF
  ·rw[if_neg (by omega),if_neg (fun c=>by omega)]
   rw[hf] at HF;exact refPl_o2 ex _ _ _ _ _ _ _ _ _ _ _ _ _ _ _ _ _ _ w HF (fun w1=>HG ps w1)
  ·rw[if_pos hf]
   rw[hf] at HF HN;exact refPl_o3 ex _ _ _ _ _ _ _ _ _ _ _ _ _ _ _ _ _ w HF HN
def rfG (n:Int)(p:ByteArray):Bool:=zR n.toNat (aZ n.toNat p) (aR n.toNat p) (aU n.toNat p)
def rfT (n:Int)(p:ByteArray):ak:=ji n.toNat (aZ n.toNat p) (aR n.toNat p) (aU n.toNat p)
def CK (n way:Int)(ps:List ByteArray):Int:=if dK n=0 then 6 else if fT n ps=0 then(if iC way then 0 else 6) else fT n ps
def rfC (n:Int)(p:ByteArray)(v:Value):List Value:=[.int .i64 ((bM n p:Nat):Int),.bool (rfG n p),.bool (rfT n p).s,v,.int .i64 (rfT n p).e]
def Gw (w:World)(n:Int)(g:Option Nat)(p:ByteArray)(v:Value):Prop:=
 (∃so sc,v= .slice so (Dg.dg 65536 (rfT n p).n).length sc)∧Rd w .i64 v (Dg.dg 65536 (rfT n p).n)∧ ∀b,g=some b→wF b v (Dg.dg 65536 (rfT n p).n)
def tg (w:World)(n:Int)(g:Option Nat):List ByteArray→List Value→Prop
 | [],cs=>cs=[]
 |p::ps,cs=> ∃v rest,cs=rfC n p v++rest∧Gw w n g p v∧tg w n g ps rest
theorem tg.mono {w w':World}{n:Int}{g g':Option Nat}(h: ∀p v,Gw w n g p v→Gw w' n g' p v): ∀{ps:List ByteArray} {cs:List Value},tg w n g ps cs→tg w' n g' ps cs
 | [],_,hc=>hc
 |p::_,_,hc=>by
  obtain⟨v,rest,h1,h2,h3⟩:=hc;exact⟨v,rest,h1,h p v h2,tg.mono h h3⟩
theorem tg.snoc {w:World}{n:Int}{g:Option Nat}{p:ByteArray}{v:Value}(hv:Gw w n g p v): ∀{ps:List ByteArray} {cs:List Value},tg w n g ps cs→tg w n g (ps++[p]) (cs++rfC n p v)
 | [],cs,hc=>by
  have:cs=[]:=hc;subst this;exact⟨v,[],by simp,hv,rfl⟩
 |q::_,_,hc=>by
  obtain⟨u,rest,h1,h2,h3⟩:=hc;subst h1;exact⟨u,rest++rfC n p v,by simp,h2,tg.snoc hv h3⟩
def Ri (w:World)(n:Int)(ps:List ByteArray)(e:Int)(z:Ending)(w':World):Prop:=
 (e=0∧ ∃v cs,z= .returned (.tuple #[v,yi 0])∧w'.ownsRow w.heap.size 32 5 v ps.length cs∧tg w' n v.ownBlock ps cs∧yB w w')∨
 (e≠0∧z= .returned (.tuple #[yN,yi e])∧yB w w')
def Vz (w:World)(n:Int)(ps:List ByteArray)(i:Nat)(lv:Value)(wr:World):Prop:=
 ∃cs,wr.ownsRow w.heap.size 32 5 lv i cs∧tg wr n lv.ownBlock (ps.take i) cs∧fT n ps=fT n (ps.drop i)
theorem Gw.l {w w':World}{n:Int}{g:Option Nat}{p:ByteArray}{v:Value}(h:Gw w n g p v)(hb:yB w w'):Gw w' n g p v:=⟨h.1,h.2.1.l hb,h.2.2⟩
theorem Vz.l {w wr w':World}{n:Int}{ps:List ByteArray}{i:Nat}{lv:Value}(h:Vz w n ps i lv wr)(hb:yB wr w'):Vz w n ps i lv w':=by
 obtain⟨cs,h1,h2,h3⟩:=h;exact⟨cs,zZ h1 hb,h2.mono (fun p v k=>k.l hb),h3⟩
theorem ZI {w w1 w2:World}{n:Int}{ps:List ByteArray}{i:Nat}{lv v' x:Value}{p:ByteArray}{cs:List Value}(hp:ps[i]? =some p)(he:dF n p=0)(h2:tg w1 n lv.ownBlock (ps.take i) cs)(h3:fT n ps=fT n (ps.drop i))(hx:Gw w1 n lv.ownBlock p x)
  (hown:w2.ownsRow w.heap.size 32 5 v' (i+1) (cs++rfC n p x)) (hg:w1.grownBy w2 lv.ownBlock) (hat:v'.ownBlock=lv.ownBlock∨v'.ownBlock=some w1.heap.size):
  Vz w n ps (i+1) v' w2:=by
 have hil:i<ps.length:=by
  rw[List.getElem?_eq_some_iff] at hp;exact hp.1
 have hm: ∀q v,Gw w1 n lv.ownBlock q v→Gw w2 n v'.ownBlock q v:=fun q v k=>by
  obtain⟨k1,k2,k3⟩:=k;refine⟨k1, ?_, ?_⟩
  ·obtain⟨so,sc,rfl⟩:=k1
   cases hb:lv.ownBlock with
   |none=>exact k2.l ⟨hg.os,hg.tape,hg.output,hg.size,fun j hj=>hg.block j hj (by rw[hb];exact fun e=>nomatch e)⟩
   |some b=>exact Nx k2 (hb▸hg) (k3 b hb)
  ·intro b hb
   rcases hat with e|e
   ·exact k3 b (by rw[←e];exact hb)
   ·have hbw:b=w1.heap.size:=by rw[e] at hb;exact(Option.some.inj hb).symm
    exact t9 k2 (by omega)
 refine⟨_,hown, ?_, ?_⟩
 ·rw[List.take_add_one,hp]
  exact(h2.mono hm).snoc (hm p x hx)
 ·rw[h3]
  have hd:ps.drop i=p::ps.drop (i+1):=by
   rw[List.drop_eq_getElem_cons hil]
   congr 1
   rw[List.getElem?_eq_getElem hil] at hp;exact Option.some.inj hp
  rw[hd];exact if_pos he
theorem SL {w:World}{n:Int}{g:Option Nat}: ∀{ps:List ByteArray} {cs:List Value} {i:Nat} {p:ByteArray},tg w n g ps cs→ps[i]? =some p→ ∃v,Gw w n g p v∧ ∀j u,(rfC n p v)[j]? =some u→cs[5*i+j]? =some u
 | [],_,_,_,_,hp=>by simp at hp
 |q::ps,cs,0,p,hc,hp=>by
  obtain⟨v,rest,h1,h2,h3⟩:=hc;have:q=p:=by simpa using hp
  subst this;refine⟨v,h2,fun j u hj=> ?_⟩
  subst h1;rw[List.getElem?_append_left]
  ·simpa using hj
  ·have:=(List.getElem?_eq_some_iff.1 hj).1
   omega
 |q::ps,cs,i+1,p,hc,hp=>by
  obtain⟨v,rest,h1,h2,h3⟩:=hc;obtain⟨u,h4,h5⟩:=SL h3 (by simpa using hp);refine⟨u,h4,fun j x hj=> ?_⟩
  subst h1;rw[List.getElem?_append_right (by simp[rfC];omega)];have:=h5 j x hj;rw[show 5*(i+1)+j-(rfC n q v).length=5*i+j from by simp[rfC];omega]
  exact this
structure ab5 (w:World) (n:Int) (ps:List ByteArray) (g cap:Nat):Prop where
 fit:ps.length≤cap
 most:cap≤maxLen
 each: ∀(i:Nat) p,ps[i]? =some p→ ∃so sc,w.rangeAt g (i*5) (rfC n p (.slice so (Dg.dg 65536 (rfT n p).n).length sc))∧Rd w .i64 (.slice so (Dg.dg 65536 (rfT n p).n).length sc) (Dg.dg 65536 (rfT n p).n)
theorem ab5.l {w w':World}{n:Int}{ps:List ByteArray}{g cap:Nat}(h:ab5 w n ps g cap)(hb:yB w w'):ab5 w' n ps g cap:=
 ⟨h.fit,h.most,fun i p hp=>by
  obtain⟨so,sc,h1,h2⟩:=h.each i p hp;exact⟨so,sc,aC h1 hb,h2.l hb⟩⟩
theorem ab6 {w:World}{n:Int}{ps:List ByteArray}{base:Nat}{v:Value}{cs:List Value}(h0:ps≠[])(ho:w.ownsRow base 32 5 v ps.length cs)(hat:tg w n v.ownBlock ps cs):
  ∃g cap,v= .slice (some ⟨g,0,none⟩) ps.length cap∧ab5 w n ps g cap:=by
 rcases ho.2 with⟨-,h⟩| ⟨g,cap,cur,hv,-,-,h1,h2,-,-⟩
 ·exact absurd (List.eq_nil_of_length_eq_zero h) h0
 ·refine⟨g,cap,hv,h1,h2,fun i p hp=> ?_⟩
  obtain⟨u,⟨⟨so,sc,rfl⟩,k2,k3⟩,k4⟩:=SL hat hp;refine⟨so,sc,fun j x hj=> ?_,k2⟩
  have:=ho.cells (g:=g) (by rw[hv];rfl) (5*i+j) x (k4 j x hj);rw[Addr.add_mid,Nat.zero_add] at this;rw[Nat.mul_comm i 5];exact this
theorem Bi {P:Program}{ops:Array Oper}{rest:List Oper}{o:Oper}{a:Act}{w:World}{Q:Exit→Act→World→Prop}(hg:o.guard=none)(s x:Operand)(t:TypeId)(hop:o.op=Op.call {callee:=Callee.builtin Builtin.append,args:= #[s,x],argTypes:= #[t,t]})
  (v u v':Value) (w':World) (hs:a.eval s=v) (hx:a.eval x=u) (hr:(Builtin.append_ #[t,t] o.type #[v,u]).run P w= .ok v' w') (h:wpList P ops Q rest (a.put o.dst v') w'):wpList P ops Q (o::rest) a w:=
 wpList_plain hg fun K hK=>by
  unfold Oper.wp;simp[execOp,hop,resolve,invoke,builtin,hs,hx,hr,Result.andThen];exact hK _ _ h
theorem Mz (n way f0 f1 f2 f3 f4 f5 f6 f8:Int)(f7 ok iw:Bool)(ps:List ByteArray)(pb:Nat)(w:World)(hps:au w pb 9 (ps.map Value.string))(hm:ps.length≤3)(hok:ok=decide (dK n≠0))(hiw:iw=iC way)
  (HF:yJ 18 #[yi n] (.tuple #[yhV f0 f1 f2 f3 f4 f5 f6 f7 f8,.bool ok]))
  (HO: ∀p w1,yC 32 #[yi n,.string p] w1 (yR w1 (yi (dF n p))))
  (HD: ∀p w1,dF n p=0→yC 33 #[yi n,.string p] w1 (JV w1 ((bM n p:Nat):Int) (rfG n p) (rfT n p) (Gi n p)))
  (HY: ∀w1,yC 20 #[yi way] w1 fun z w'=>z= .returned (.bool iw)∧w'=w1):
  yC 9 #[yi n,yi way,.slice (some ⟨pb,0,none⟩) ps.length ps.length] w (Ri w n ps (CK n way ps)):=by
 replace HF:Hid _:=HF;replace HO:Hid _:=HO;replace HD:Hid _:=HD;replace HY:Hid _:=HY;obtain⟨i0,hi,hz0,hz1,hz2⟩:=info_parts (show(Tryz.prog.info? 32).map (fun i=>(i.zero,i.size,i.bytes))=some (some (yoV 0 false false yN 0),5,56) by kernel_rfl)
 have HI:Hid (_∧_∧_∧_):=⟨hi,hz0,hz1,hz2⟩;have hpb:=hps.lt;obtain⟨m,hmE⟩: ∃m,ps.length=m:=⟨_,rfl⟩;rw[hmE] at hm⊢;have HM:Hid (ps.length=m):=hmE;have HOK:Hid (ok=decide (dK n≠0)∧iw=iC way):=⟨hok,hiw⟩;clear hmE hi hz0 hz1 hz2 hok hiw
 go_enter func9,ntmps9
 go_wp2_with fail
 refine(HF.out _).mono ?_;rintro z w1 ⟨rfl,b1⟩;have bA:=af w1 (.cells (yhA f0 f1 f2 f3 f4 f5 f6 f7 f8) 50);have b0:=aa b1 bA;have s0:=hps.l b0;clear b1 bA hps
 cases ok
 ·go_wp2
  go_ret2
  have hf:dK n=0:=by
   have:=HOK.out.1
   simpa using this.symm
  refine .inr ⟨?_, ?_,b0⟩
  ·unfold CK
   rw[if_pos hf]
   decide
  ·unfold CK
   rw[if_pos hf];rfl
 go_wp2
 generalize w1.alloc (.cells (yhA f0 f1 f2 f3 f4 f5 f6 f7 f8) 50)=W0 at b0 s0⊢
 go_loopw [8,11] (fun lv iv wr=> ∃i:Nat,iv=yi (i:Int)∧i≤m∧Vz w n ps i lv wr∧yB w wr∧au wr pb 9 (ps.map Value.string)) (fun _ iv _=>m-(intOf iv).toNat)
 case atStart=>exact⟨0,rfl,by omega,⟨[],World.ownsRow_nil _ _ _ 5,rfl,rfl⟩,b0,s0⟩
 case round=>
  obtain⟨i,rfl,him,hO,bel,sl⟩:=hrel
  by_cases hlt:i<m
  ·have hil:i<ps.length:=by have:=HM.out;omega
   obtain⟨p,hp⟩: ∃p,ps[i]? =some p:=⟨_,List.getElem?_eq_getElem hil⟩;have y:=sl.c i (v:= .string p) (by rw[List.getElem?_map,hp];rfl);have HOp:=HO.out p;have HDp:=fun w1 h=>HD.out p w1 h
   obtain⟨c,ec⟩: ∃c:Int,((bM n p:Nat):Int)=c:=⟨_,rfl⟩;obtain⟨gg,eg⟩: ∃c,rfG n p=c:=⟨_,rfl⟩;obtain⟨t,et⟩: ∃c,rfT n p=c:=⟨_,rfl⟩;obtain⟨cg,ecg⟩: ∃c,Gi n p=c:=⟨_,rfl⟩;obtain⟨er,ee⟩: ∃c,dF n p=c:=⟨_,rfl⟩;rw[ee] at HOp;rw[ec,eg,et,ecg,ee] at HDp;have HP:Hid (ps[i]? =some p∧((bM n p:Nat):Int)=c∧rfG n p=gg∧rfT n p=t∧dF n p=er):=⟨hp,ec,eg,et,ee⟩;replace HOp:Hid _:=HOp;replace HDp:Hid _:=HDp;clear hp hil ec eg et ee ecg
   go_wp2_with fail
   refine(HOp.out _).mono ?_;rintro z w2 ⟨rfl,b2⟩;have y2:=cell_later b2 y;have hO2:=hO.l b2;have sl2:=sl.l b2;have bel2:=aa bel b2;have hbl: ∀b,u8.ownBlock=some b→b<wr.heap.size:=fun b hb=>by
    obtain⟨cs,h1,-⟩:=hO;exact(World.ownsRow.lt h1 b hb).2
   have hsz:wr.heap.size≤w2.heap.size:=b2.size;have hws:w.heap.size≤wr.heap.size:=bel.size;clear b2 y hO sl bel
   by_cases he:er=0
   ·replace HDp:Hid _:=fun w1=>HDp.out w1 he
    subst he
    go_wp2_with fail
    refine(HDp.out _).mono ?_;rintro z w3 ⟨x,rfl,rx,b3,fx⟩;obtain⟨xo,xc,hx⟩:=rx.shape;subst hx;have a3:=af w3 (.cells (yoA c gg t.s (yS xo t.n xc) t.e) 32);have q3:=ah w3 (yoL c gg t.s (yS xo t.n xc) t.e) 32;have bb:=aa b3 a3;have rx3:=rx.l a3;have hO3:=hO2.l bb;have sl3:=sl2.l bb;have bel3:=aa bel2 bb;have hsz3:w2.heap.size≤w3.heap.size:=b3.size;clear b3 a3 bb rx hO2 sl2 bel2 y2
    go_upto_region 12 with fail
    generalize w3.alloc (.cells (yoA c gg t.s (yS xo t.n xc) t.e) 32)=W at q3 rx3 hO3 sl3 bel3⊢;generalize w3.heap.size=Q at q3 hsz3⊢;have al:=af W (.cells (yoA c gg t.s (yS xo t.n xc) t.e) 32);have nl:=ah W (yoL c gg t.s (yS xo t.n xc) t.e) 32;have rx4:=rx3.l al;have sl4:=sl3.l al;have bel4:=aa bel3 al;obtain⟨cs,k1,k2,k3⟩:=hO3.l al;obtain⟨hi,hz0,hz1,hz2⟩:=HI.out;have hw3:w.heap.size≤(W.alloc (.cells (yoA c gg t.s (yS xo t.n xc) t.e) 32)).heap.size:=bel4.size;obtain⟨v',w4,hrun,hown',hgrow,-,hat⟩:=run_append_own_at (P:=Tryz.prog) (W.alloc (.cells (yoA c gg t.s (yS xo t.n xc) t.e) 32)) w.heap.size 25 25 32 i0 _ 5 56 underlying25 hi hz0 hz1 hz2 rfl (by omega) u8 i cs k1 ⟨W.heap.size,0,none⟩ 1 1 (yoL c gg t.s (yS xo t.n xc) t.e) rfl (fun j u hj=>by have:=nl.c j hj;rw[Addr.add_mid,Nat.zero_add];exact this) (fun u hu=>by simp at hu;rcases hu with rfl|rfl|rfl|rfl|rfl<;>rfl) (by unfold maxLen;omega) (by omega) hw3
    have hgb: ∀g,u8.ownBlock=some g→w.heap.size≤g∧g<wr.heap.size:=fun g hg=>⟨(World.ownsRow.lt k1 g hg).1,hbl g hg⟩
    have sl5:=sl4.grownO hgrow (fun g hg=>by have:=hgb g hg;omega)
    have bel5:=bel4.grown hgrow (by omega) (fun g hg=>by have:=hgb g hg;omega)
    have hOps:Vz w n ps (i+1) v' w4:=by
     obtain⟨h1,h2,h3,h4,h5⟩:=HP.out;refine ZI (x:=yS xo t.n xc) h1 h5 k2 k3 ⟨⟨xo,xc,by rw[h4]⟩,by rw[h4];exact rx4,fun b hb=> ?_⟩ ?_ hgrow hat
     ·intro _ a u v hv
      have:=fx a u v hv;have:=hgb b hb;omega
     ·unfold rfC
      rw[h2,h3,h4];exact hown'
    obtain⟨c0,c1,c2,c3,c4⟩:=q3.cs5;replace hrun:Hid _:=hrun;clear rx3 rx4 sl3 sl4 bel3 bel4 hO3 al nl k1 k2 k3 hown' hgrow hat fx hi hz0 hz1 hz2 HI hw3 hgb HOp HDp HP hbl hsz hsz3 hws q3
    go_wp2_with (at_builtin;refine Bi rfl _ _ 25 rfl _ _ v' w4 rfl rfl hrun.out ?_)
    go_wp2
    go_roundw
    case rel=>exact⟨i+1,by go_num,by omega,hOps,bel5,sl5⟩
    case measure=>simp[intOf];omega
   ·have hef:(er==0)=false:=by simpa using he
    go_wp2
    go_ret2
    obtain⟨h1,-,-,-,h5⟩:=HP.out;obtain⟨cs,-,-,k3⟩:=hO2;have hil:i<ps.length:=by have:=HM.out;omega
    have hd:ps.drop i=p::ps.drop (i+1):=by
     rw[List.drop_eq_getElem_cons hil]
     congr 1
     rw[List.getElem?_eq_getElem hil] at h1;exact Option.some.inj h1
    have hE:fT n ps=er:=by
     rw[k3,hd,←h5];exact if_neg (by rw[h5];exact he)
    have hf:dK n≠0:=by
     have:=HOK.out.1
     simpa using this.symm
    have hO:CK n way ps=er:=by
     unfold CK;rw[if_neg hf,hE,if_neg he]
    refine .inr ⟨by rw[hO];exact he, ?_,bel2⟩;rw[hO];rfl
  ·have HE:Hid (i=m):=(by omega:i=m)
   go_wp2_with fail
   refine(HY.out _).mono ?_;rintro z w2 ⟨rfl,rfl⟩;have hf:dK n≠0:=by
    have:=HOK.out.1
    simpa using this.symm
   obtain⟨cs,k1,k2,k3⟩:=hO;have h1:=HE.out;have h2:=HM.out;subst h1;rw[List.take_of_length_le (by omega)] at k2;rw[List.drop_of_length_le (by omega)] at k3;replace k3:fT n ps=0:=k3;have hO:CK n way ps=if iw then 0 else 6:=by
    unfold CK;rw[if_neg hf,if_pos k3,HOK.out.2]
   replace hO:Hid _:=hO;replace k3:Hid _:=k3;clear hf h2
   cases iw
   ·go_wp2
    go_ret2
    refine .inr ⟨by rw[hO.out];decide, ?_,bel⟩;rw[hO.out];rfl
   ·go_wp2
    go_ret2
    have h2:=HM.out;refine .inl ⟨hO.out,u8,cs,rfl, ?_,k2,bel⟩;rw[h2];exact k1
theorem Tm (w:World)(g cap:Nat)(h:sF w 1 [jA,jA] g cap):
  yC 30 #[ykV 1 1 1 2 24 (-149) 104 true,.slice (some ⟨g,0,none⟩) 2 cap] w (dU w 2 false ⟨false,2,0⟩ 0):=by
 obtain⟨o1,o2,o3,o4⟩:=IQ;obtain⟨xo,xc,hx,rx⟩:=h.each 0 jA rfl;obtain⟨yo,yc,hy,ry⟩:=h.each 1 jA rfl;unfold opC at hx hy;rw[o2,o3,o4] at hx hy;rw[o4] at rx ry;have hs:=fun w1 (b:yB w w1)=>Ng 1 1 1 2 24 (-149) 104 2 2 true false false ⟨false,1,0⟩ ⟨false,1,0⟩ xo yo xc yc false w1 rfl rfl rfl (fun w2 b2=>uj _ _ ⟨false,1,0⟩ ⟨false,1,0⟩ w2 ⟨_,rfl,(rx.l b).l b2⟩ ⟨_,rfl,(ry.l b).l b2⟩ (by decide) (by decide) (by decide) (by decide) (by decide) (by decide))
 rw[X8,show vI ⟨false,2,0⟩=2 from rfl,show xr ⟨false,2,0⟩ false=false from rfl,show tF ⟨false,2,0⟩=⟨false,2,0⟩ from rfl] at hs
 exact X7 1 1 1 2 24 (-149) 104 2 2 2 0 true false false false ⟨false,1,0⟩ ⟨false,1,0⟩ ⟨false,2,0⟩ xo yo xc yc g cap w hx hy hs
theorem Jy (w:World)(ro:Option Addr)(rc:Nat)(hr:Rd w .u32 (yT ro 2 rc) (Dg.dg 4294967296 2))(hT:Tab w):
  yC 58 #[ykV 1 1 1 2 24 (-149) 104 true,yoV 2 false false (yT ro 2 rc) 0,yi 0] w (yR w (.tuple #[.string tE,yi 0,yi 0])):=by
 refine El 1 1 1 2 24 (-149) 104 0 true false ⟨false,2,0⟩ ro rc false 2 1 0 false 8388608 (-22) true false false 2 false 8388608 (-22) 0 0 tE 0 0 w (by kernel_rfl) ?_ ?_ ?_ ?_
 ·intro w1 b1
  refine Ct ⟨false,2,0⟩ ⟨false,2,0⟩ ro rc 0 0 2 1 w1 rfl ?_ (fun h=>absurd h (by decide)) (fun _=>⟨rfl,rfl, ?_⟩)
  ·intro w2 b2
   exact(EQ ⟨false,2,0⟩ ro rc w2 ((hr.l b1).l b2) (by decide) (by decide)).mono (fun z w' h=>⟨_,h.1,((hr.l b1).l b2).l h.2,h.2⟩)
  ·intro q w2 hq
   have:=eO (.slice (some ⟨q,0,none⟩) 1 1) [1] 0 w2 (xD hq) (fun i=>by
    match i with
    |0=>decide
    |i+1=>simp) (by simp) (by decide) (by decide)
   rw[show shN (Dg.vl 4294967296 [1]) 0=1 from rfl] at this
   exact this
 ·intro no nc mo mc w1 b1 h1 h2
  have:=jM false no nc [2] mo mc [1] 0 2 24 (-149) 104 true 1 w1 h1 h2 (fun i=>by
    match i with
    |0=>decide
    |i+1=>simp) (fun i=>by
    match i with
    |0=>decide
    |i+1=>simp)
  rw[IR.1,IR.2] at this;exact this.mono (fun z w' h=>by
   obtain⟨v,rfl,own,b2⟩:=h;obtain⟨po,pc,hv⟩:=own.rd.shape;subst hv;exact⟨po,pc,rfl,own.rd,b2⟩)
 ·intro po pc w1 b1 h1
  exact Id 1 1 1 2 24 (-149) 104 (-22) true false true false po _ pc 8388608 w1 rfl h1 (fun h=>by cases h) 2 0 rfl rfl
 ·intro vo vc w1 b1 h1
  have:=It 1 1 1 2 24 (-149) 104 2 (-22) 0 0 true false vo (Dg.dg 4294967296 8388608).length vc tE w1 (fun w2 b2=>by
   have:=jj 1 2 false vo vc [8388608] (-22) w2 (h1.l b2) (fun i=>by
    match i with
    |0=>decide
    |i+1=>simp) ((hT.l b1).l b2)
   rw[Su.1,Su.2] at this;exact this)
  rw[if_pos rfl] at this;exact this
theorem Tn (w:World)(hT:Tab w):
  yC 8 #[yi 1,.string jA,.string jA,yi 1] w (yR w (.tuple #[.string tE,yi 0,yi 0])):=by
 obtain⟨o1,o2,o3,o4⟩:=IQ;refine acw 1 1 0 0 jA jA tE w (fun pb w1 b1 hl=> ?_)
 refine IP 1 2 24 (-149) 104 1 1 2 0 0 0 true false ⟨false,2,0⟩ _ 2 [jA,jA] pb tE w1 (by decide) (by decide) rfl (by decide) (by decide) (by unfold fT fT fT;rw[if_pos o1,if_pos o1]) (by simp[dO,o2]) hl (fun args W=>by kernel_rfl) (fun w2=>mp 1 (by decide) w2) (fun w2 b2 h2=> ?_) (fun g cap w2 _ hV=>Tm w2 g cap hV) (fun ro rc w2 b2 h2=>Jy w2 ro rc h2 ((hT.l b1).l b2))
 exact vQ 1 0 _ _ _ _ _ _ [jA,jA] pb w2 h2 (by simp) (fun p w3 b3=>zj 1 p w3 (((hT.l b1).l b2).l b3))
theorem Ig {P:Program}(W:World)(e src dst:TypeId)(zs:List Nat)(hs:P.underlying src=some (.slice e))(he:P.underlying e=some (.int .u8))(hd:P.underlying dst=some .string)(hm:zs.length≤maxLen):
  (convert src dst (.slice (some ⟨W.heap.size,0,none⟩) zs.length zs.length)).run P (W.alloc (.cells (zs.map (fun n:Nat=>Value.int .u8 (n:Int))).toArray e))= .ok (.string (cF zs)) (W.alloc (.cells (zs.map (fun n:Nat=>Value.int .u8 (n:Int))).toArray e)):=
 lQ src dst hs he hd (pr (base:=W.heap.size) (heap_alloc_new _ _) (Nat.le_refl _) hm)
theorem jx (w:World)(hT:Tab w):yC 11 #[] w (yR w (.bool true)):=by
 have hcA: ∀W:World,(convert 88 9 (.slice (some ⟨W.heap.size,0,none⟩) 4 4)).run Tryz.prog (W.alloc (.cells #[.int .u8 63,.int .u8 128,.int .u8 0,.int .u8 0] 5))= .ok (.string jA) (W.alloc (.cells #[.int .u8 63,.int .u8 128,.int .u8 0,.int .u8 0] 5)):=fun W=>Ig W 5 88 9 [63,128,0,0] underlying88 underlying5 underlying9 (by unfold maxLen;simp)
 have hcB: ∀W:World,(convert 88 9 (.slice (some ⟨W.heap.size,0,none⟩) 4 4)).run Tryz.prog (W.alloc (.cells #[.int .u8 64,.int .u8 0,.int .u8 0,.int .u8 0] 5))= .ok (.string tE) (W.alloc (.cells #[.int .u8 64,.int .u8 0,.int .u8 0,.int .u8 0] 5)):=fun W=>Ig W 5 88 9 [64,0,0,0] underlying88 underlying5 underlying9 (by unfold maxLen;simp)
 have HA:Hid (yH w 8 #[yi 1,.string jA,.string jA,yi 1] (.tuple #[.string tE,yi 0,yi 0])):=fun w1 b=>Tn w1 (hT.l b)
 generalize jA=pA at*;generalize tE=pB at*;have b1:=af w (.cells #[.int .u8 63,.int .u8 128,.int .u8 0,.int .u8 0] 5);clear hT
 go_enter func11,ntmps11
 go_wp2_with fail
 refine(HA.out _ b1).mono ?_;rintro z w2 ⟨rfl,b2⟩;have b02:=aa b1 b2;have b3:=aa b02 (af w2 (.cells #[.int .u8 64,.int .u8 0,.int .u8 0,.int .u8 0] 5));clear b1 b2
 go_wp2
 go_ret
 exact⟨rfl,b3⟩
theorem qi (way:Int)(w:World):yC 20 #[yi way] w fun z w'=>z= .returned (.bool (iC way))∧w'=w:=by
 unfold iC
 by_cases h:1≤way
 ·go_enter func20,ntmps20
  go_wp2
  go_ret
  simp[h]
 ·go_enter func20,ntmps20
  go_wp2
  go_ret
  simp;omega
end Go.Proofs.YtbdokgamhinajaaGreatDoor

/-
  Texts laid together: Ga1, Gq6, Gq7, Gr11, Gq9, Fi5.
-/
import Derived.Test.YtpainhklfoaniaaGreatDoorSc29
set_option maxRecDepth 100000
set_option maxHeartbeats 6400000
namespace Go.Proofs.YtpainhklfoaniaaGreatDoor
open _root_.Go.Proofs.Tryz
open Go.RowKit
theorem aen (n c:Int)(w:World)(HN:yJ 50 #[yi n] (yoV c false false yN 0)):
  yC 51 #[yi n] w (RVF w c false ⟨false,0,0⟩ 16):=by
 replace HN:Hid _:=HN;obtain⟨W3,hW4,q1,b2⟩:=cA w (yoL 0 false false yN 0) 37;replace hW4:Hid _:=hW4
 go_enter func51,ntmps51
 go_upto_region 1 with fail
 rw[hW4.out];clear hW4
 go_wp2_with fail
 refine(HN.out _).mono ?_;rintro zz w5 ⟨rfl,bb6⟩;have q7:=q1.l bb6;have b8:=aa b2 bb6;clear q1 b2 bb6;have hf:=dL (P:=Tryz.prog) q7 b8 (by omega) underlying37 rfl (by kernel_rfl) (yi c) (.bool false) (.bool false) yN (yi 0);have HH:Hid (_∧_):=⟨hf.1,hf.2.1⟩;obtain⟨⟨z0,z1,z2,z3,z4⟩,y0,y1,y2,y3,y4⟩:=dN q7;clear hf q7 b8
 go_wp2
 obtain⟨hl,bR⟩:=HH.out;exact bodyPost_ret (aj results51 rfl rfl hl) rfl ⟨_,rfl,aN _ _,bR⟩
theorem aeo (n c wy fl:Int)(g:Bool)(x t:ak)(xo:Option Addr)(xc:Nat)(w:World)(hz:(((Dg.dg 65536 x.n).length:Int)==0)=false)
  (HO: ∀w1,yB w w1→yC 23 #[ydV x.s (yS xo x.n xc) x.e] w1 fun z w'=> ∃eo ec,z= .returned (yrV x.s (yS xo x.n xc) (.slice eo 1 ec) x.e)∧Rd w' .i64 (.slice eo 1 ec) [1]∧yB w1 w')
  (HT: ∀eo ec w1,yB w w1→Rd w1 .i64 (.slice eo 1 ec) [1]→yC 54 #[yi n,yrV x.s (yS xo x.n xc) (.slice eo 1 ec) x.e,yi wy] w1 (RVF w1 c g t fl)):
  yC 19 #[yi n,ydV x.s (yS xo x.n xc) x.e,yi wy] w (RVF w c g t fl):=by
 replace HO:Hid _:=HO;replace HT:Hid _:=HT;obtain⟨W4,hW5,q1,q2,b3⟩:=iG w (ydL x.s (yS xo x.n xc) x.e) 35 (yoL 0 false false yN 0) 37;replace hW5:Hid _:=hW5
 go_enter func19,ntmps19
 go_upto_region 1 with fail
 rw[hW5.out];clear hW5;obtain⟨c6,c7,c8⟩:=q1.cs3
 go_wp2_with fail
 refine(HO.out _ b3).mono ?_;rintro zz w9 ⟨eo,ec,rfl,r111,bb10⟩;have q12:=q2.l bb10;have b13:=aa b3 bb10;clear q1 q2 b3 bb10 HO c6 c7 c8
 go_wp2_with fail
 refine(HT.out _ _ _ b13 r111).mono ?_;rintro zz w14 ⟨v116,rfl,r117,bb15⟩;have q18:=q12.l bb15;have r19:=r111.l bb15;have b20:=aa b13 bb15;obtain⟨so,sc,hv⟩:=r117.shape;subst hv;clear q12 r111 b13 bb15 HT;have hf:=dL (P:=Tryz.prog) q18 b20 (by omega) underlying37 rfl (by kernel_rfl) (yi c) (.bool g) (.bool t.s) (yS so t.n sc) (yi t.e);have HH:Hid (_∧_∧_):=⟨hf.1,hf.2.2.rd r117 (mu r117 q18),hf.2.1⟩;obtain⟨⟨z0,z1,z2,z3,z4⟩,y0,y1,y2,y3,y4⟩:=dN q18;clear hf q18 r19 r117 b20
 go_wp2
 obtain⟨hl,rRs,bR⟩:=HH.out;exact bodyPost_ret (aj results19 rfl rfl hl) rfl ⟨_,rfl,rRs,bR⟩
theorem Pc (R D E:Int)(ln lm:Nat)(h1: -700000≤(ln:Int)-lm+E):((ln:Int)-lm+E+800000).tdiv (ai R)-(800000:Int).tdiv (ai R)-D+2=((ln:Int)-lm+E)/(ai R:Int)-D+2:=by
 rw[Int.tdiv_eq_ediv_of_nonneg (by omega),Int.tdiv_eq_ediv_of_nonneg (by omega)];unfold ai
 split<;>simp<;>omega
theorem EN (R D:Int)(h:0≤D):((ai R*D.toNat:Nat):Int)=(ai R:Int)*D:=by
 rw[Int.natCast_mul,Int.toNat_of_nonneg h]
theorem CU {R k:Int}{a:Int}(h1: -a≤k)(h2:k≤a): -(4*a)≤(ai R:Int)*k∧(ai R:Int)*k≤4*a:=by
 unfold ai
 split<;>simp<;>omega
theorem CJ {R D L:Int}{gr:Bool}{N M:Nat}{E:Int}(h:(decide (aT R D (dY N M E)<L)&&gr)=true):dj R D L gr N M E=L:=if_pos h
theorem Gu {R D L:Int}{gr:Bool}{N M:Nat}{E:Int}(h:(decide (aT R D (dY N M E)<L)&&gr)=false):dj R D L gr N M E=aT R D (dY N M E):=if_neg (by rw[h];decide)
theorem KS {R D L:Int}{gr qs:Bool}{N M:Nat}{E way:Int}(h1:decide (gF R D L gr N M E=0)=false)(h2:rf R D L gr qs N M E way=true):fM R D L gr qs N M E way=cH R D L gr N M E+1:=if_pos ⟨h1,h2⟩
theorem ZF {R D L:Int}{gr qs:Bool}{N M:Nat}{E way:Int}(h:decide (gF R D L gr N M E=0)=true∨rf R D L gr qs N M E way=false):fM R D L gr qs N M E way=cH R D L gr N M E:=by
 refine if_neg ?_;rintro⟨h1,h2⟩
 rcases h with h|h
 ·rw[h1] at h
  cases h
 ·rw[h2] at h
  cases h
theorem KT (B x y L:Nat)(hB:2≤B)(h:x≤y)(hy:(Dg.dg B y).length≤L):(Dg.dg B x).length≤L:=Nat.le_trans (aH B x y hB h) hy
theorem ZG {x L:Nat}(h:(Dg.dg 65536 x).length≤L):(Dg.dg 65536 (x+1)).length≤L+1:=by
 refine Dg.dg_len_le 65536 _ _ (by omega) ?_;have h1:=Dg.vl_lt 65536 (Dg.dg 65536 x) (Dg.small_dg _ _ (by omega));rw[Dg.vl_dg _ _ (by omega)] at h1;have h2:65536^ (Dg.dg 65536 x).length≤65536^L:=Nat.pow_le_pow_right (by omega) h;have h3:(65536:Nat)^ (L+1)=65536^L*65536:=Nat.pow_succ ..;have h4:0< (65536:Nat)^L:=Nat.pow_pos (by omega);generalize(65536:Nat)^L=c at*;omega
theorem vR {a L:Nat}(h:(Dg.dg 65536 a).length≤L):bitLen a≤16*L:=by
 refine bF a _ ?_;rw[Nat.pow_mul];have h1:=Dg.vl_lt 65536 _ (Dg.small_dg 65536 a (by omega));rw[Dg.vl_dg _ _ (by omega)] at h1;exact Nat.lt_of_lt_of_le h1 (Nat.pow_le_pow_right (by omega) h)
theorem pQ (v:Value)(n:Nat)(w:World)(h:Rd w .i64 v (Dg.dg 65536 n))(hl:(Dg.dg 65536 n).length≤3000000):yC 58 #[v] w (yR w (yi (bitLen n:Nat))):=by
 have:=kF v _ w h (Dg.small_dg _ _ (by omega)) (Dg.norm_dg _ _ (by omega)) hl;rw[Dg.vl_dg _ _ (by omega)] at this;refine this.mono ?_;rintro z w' ⟨rfl,rfl⟩;exact⟨rfl,Below.refl _ _⟩
theorem Rh {R D k t b:Int}(h1:t/(ai R:Int)-(D-1)≤k)(h2:k≤b/(ai R:Int)-D+2)(t1: -341000≤t)(b2:b≤341000)(d1:1≤D)(d2:D≤120): -360000≤(ai R:Int)*k∧(ai R:Int)*k≤360000:=by
 unfold ai at*
 split at h1<;>simp_all<;>omega
theorem KU (R D L G:Int)(gr qs:Bool)(no:Option Addr)(nc:Nat)(eo:Option Addr)(ec:Nat)(N M:Nat)(E way:Int)(w:World)(hg:bk R D L G=0)(hway:iC way=true)
  (ha:Rd w .i64 (yS no N nc) (Dg.dg 65536 N)) (hb:Rd w .i64 (yS eo M ec) (Dg.dg 65536 M)) (hla:(Dg.dg 65536 N).length≤20000) (hlb:(Dg.dg 65536 M).length≤20000) (hN:N≠0) (hM:M≠0) (e1: -100000≤E) (e2:E≤100000) (s1: -340000≤(bitLen N:Int)-(bitLen M:Int)+E) (s2:(bitLen N:Int)-(bitLen M:Int)+E≤340000):
  yC 22 #[yrV qs (yS no N nc) (yS eo M ec) E,ygV R D L G gr,yi way] w (GT w (cI R D L G gr qs N M E way)):=by
 obtain⟨hR,d1,d2,l1,l2,g1,g2,lg,l16⟩:=cB hg;have hbn:=vR hla;have hbm:=vR hlb;have hs:=Ve R D N M E;have hst:=Pc R D E (bitLen N) (bitLen M) (by omega);have hK1: -400000≤aT R D (dY N M E):=by
  have: -350000≤dY N M E:=by unfold dY;split<;>omega
  unfold aT ai
  split<;>simp<;>omega
 have hk0:((bitLen N:Int)-(bitLen M:Int)+E)/(ai R:Int)-D+2≤400000:=by
  unfold ai
  split<;>simp<;>omega
 have hwn:=eN R;have hWK: ∀k,aT R D (dY N M E)≤k→k≤((bitLen N:Int)-(bitLen M:Int)+E)/(ai R:Int)-D+2→ -360000≤(ai R:Int)*k∧(ai R:Int)*k≤360000:=fun k h1 h2=>
  Rh h1 h2 (by unfold dY;split<;>omega) (by omega) d1 d2
 have hNM: ∀n:Int,n≤900000→(Dg.dg 65536 (eZ N n)).length≤160000:=fun n h=>GB (Nat.le_trans hla (by omega)) h
 have hDM: ∀n:Int,-900000≤n→(Dg.dg 65536 (dX M n)).length≤160000:=fun n h=>GC (Nat.le_trans hlb (by omega)) h
 have hcr: -360000≤(ai R:Int)*dj R D L gr N M E∧(ai R:Int)*dj R D L gr N M E≤360000∧ -400000≤dj R D L gr N M E∧dj R D L gr N M E≤400000:=by
  by_cases h:(decide (aT R D (dY N M E)<L)&&gr)=true
  ·rw[CJ h]
   have:=l16;refine⟨?_, ?_,by omega,by omega⟩<;>(clear hWK hs hst hK1 hk0;unfold ai;split<;>simp<;>omega)
  ·rw[Gu (by simpa using h)]
   have:=hWK _ (Int.le_refl _) (by omega);exact⟨this.1,this.2,hK1,by omega⟩
 have hq:(Dg.dg 65536 (cH R D L gr N M E)).length≤160000:=KT 65536 _ _ _ (by omega) (Nat.div_le_self _ _) (hNM _ (by unfold shP;omega));have hY0:0<dX M (shP R D L gr N M E):=N8 _ (Nat.pos_of_ne_zero hM);have hr:(Dg.dg 65536 (gF R D L gr N M E)).length≤160000:=KT 65536 _ _ _ (by omega) (Nat.le_of_lt (Nat.mod_lt _ hY0)) (hDM _ (by unfold shP;omega));have hDc:=EN R D (by omega);have hDc1:=EN R (D-1) (by omega);have hpow:ai R*(D-1).toNat≤480:=by
  have:(D-1).toNat≤119:=by omega
  exact Nat.le_trans (Nat.mul_le_mul hwn.2 this) (by omega)
 have hm1:(ai R:Int)*(D-1)≤480:=by omega
 have hm2:(ai R:Int)*D≤480:=by
  have:=CU (R:=R) (k:=D) (a:=120) (by omega) (by omega);omega
 have hm3:0≤(ai R:Int)*D:=by omega
 have a1:=Int.natAbs_tdiv_le_natAbs ((bitLen N:Int)-(bitLen M:Int)+E+800000) (ai R);have a2:=Int.natAbs_tdiv_le_natAbs (800000:Int) (ai R);refine ZY R D L G gr qs no _ nc eo _ ec E way (ai R) (bitLen N) (bitLen M) (((bitLen N:Int)-(bitLen M:Int)+E+800000).tdiv (ai R)) ((800000:Int).tdiv (ai R)) (aT R D (dY N M E)) (((bitLen N:Int)-(bitLen M:Int)+E)/(ai R:Int)-D+2) (dj R D L gr N M E)
  (fun k=>eZ N (E-(ai R:Int)*k)/dX M (E-(ai R:Int)*k)) (fun k=>eZ N (E-(ai R:Int)*k) % dX M (E-(ai R:Int)*k)) (fun k=>dX M (E-(ai R:Int)*k)) (fun k=>bitLen (eZ N (E-(ai R:Int)*k)/dX M (E-(ai R:Int)*k)))
  (cH R D L gr N M E) (gF R D L gr N M E) (dX M (shP R D L gr N M E)) (bitLen (cH R D L gr N M E+1)) (dm ((gF R D L gr N M E*2:Nat):Int) ((dX M (shP R D L gr N M E):Nat):Int)) (decide (cH R D L gr N M E % 2=1)) (rf R D L gr qs N M E way) (decide (aT R D (dY N M E)<L)) (decide (gF R D L gr N M E=0)) (decide (aT R D (dY N M E)<L)&&gr) (decide (ai R*D.toNat<bitLen (cH R D L gr N M E+1)))
  (io R D (fM R D L gr qs N M E way)) (gD R D (fM R D L gr qs N M E way) (dj R D L gr N M E)) (cI R D L G gr qs N M E way) w ?_ ?_ ?_ (Int.le_of_lt hs) ?_ ?_ ?_ rfl rfl ?_ ?_ ?_ ?_ ?_ ?_ ?_ ?_ ?_ ?_ ?_ ?_ rfl rfl rfl rfl CJ ?_ ?_ ?_ ?_ ?_ ?_ ?_ ?_ (kJ gr qs N M E way d1 lg hN hM) ?_ ?_ ?_ ?_ ?_ ?_ ?_ ?_ ?_ ?_ ?_ ?_
 ·simp
  rw[Dg.dg_nil_iff _ _ (by omega)];exact hN
 ·simp
  omega
 ·omega
 ·exact IntWalk.i64_in _ ⟨by omega,by omega⟩
 ·exact IntWalk.i64_in _ ⟨by omega,by omega⟩
 ·exact IntWalk.i64_in _ ⟨by omega,by omega⟩
 ·exact IntWalk.i64_in _ ⟨by omega,by omega⟩
 ·exact IntWalk.i64_in _ ⟨by omega,by omega⟩
 ·exact IntWalk.i64_in _ ⟨by omega,by omega⟩
 ·exact IntWalk.i64_in _ ⟨by omega,by omega⟩
 ·rw[hst]
  exact IntWalk.i64_in _ ⟨by omega,by omega⟩
 ·intro k h1 h2
  have:=hWK k h1 h2;exact⟨IntWalk.i64_in _ ⟨by omega,by omega⟩,IntWalk.i64_in _ ⟨by omega,by omega⟩⟩
 ·have:=CU (R:=R) (k:=L) (a:=17000) (by omega) (by omega)
  exact IntWalk.i64_in _ ⟨by omega,by omega⟩
 ·exact IntWalk.i64_in _ ⟨by omega,by omega⟩
 ·exact IntWalk.i64_in _ ⟨by omega,by omega⟩
 ·exact IntWalk.i64_in _ ⟨by omega,by omega⟩
 ·exact IntWalk.i64_in _ ⟨by omega,by omega⟩
 ·exact IntWalk.i64_in _ ⟨by omega,by omega⟩
 ·intro h
  have e:=Gu h;refine⟨e, ?_, ?_, ?_⟩
  ·unfold cH shP
   rw[e]
  ·unfold gF shP
   rw[e]
  ·unfold shP
   rw[e]
 ·intro k h1 h2
  have:=(xx R D k N M E d1 hN hM).2 h1;omega
 ·have:=mt (xx R D (aT R D (dY N M E)) N M E d1 hN hM).1 (Int.lt_irrefl _)
  omega
 ·intro h
  have:=of_decide_eq_true h;omega
 ·intro h
  have:=of_decide_eq_false h;omega
 ·intro h1 h2 h3
  rw[KS h1 h2];exact if_pos ((Ga R D L gr N M E d1 hN hM).1 (of_decide_eq_true h3))
 ·intro h1 h2 h3
  have h4: ¬cH R D L gr N M E+1=2^ (ai R*D.toNat):=fun c=>of_decide_eq_false h3 ((Ga R D L gr N M E d1 hN hM).2 c)
  rw[KS h1 h2];exact⟨if_neg h4,if_neg h4⟩
 ·intro h
  rw[ZF h];exact uh R D L gr N M E d1 hN hM _
 ·intro w1
  have:=nh R D L G gr w1
  rwa [jf] at this
 ·intro w1 b
  exact pQ _ N w1 (ha.l b) (by omega)
 ·intro w1 b
  exact pQ _ M w1 (hb.l b) (by omega)
 ·intro k w1 h1 h2 b
  have:=hWK k h1 h2;exact BM qs no _ nc eo _ ec N M E _ w1 (ha.l b) (hb.l b) (by omega) (by omega) (Nat.pos_of_ne_zero hM) (by omega) (by omega)
 ·intro h w1 b
  have:=BM qs no _ nc eo _ ec N M E ((ai R:Int)*dj R D L gr N M E) w1 (ha.l b) (hb.l b) (by omega) (by omega) (Nat.pos_of_ne_zero hM) (by omega) (by omega);rw[show E-(ai R:Int)*dj R D L gr N M E=shP R D L gr N M E from rfl,CJ h] at this
  exact this
 ·intro k v w1 h1 h2 r
  have:=hWK k h1 h2;exact pQ v _ w1 r (Nat.le_trans (KT 65536 _ _ _ (by omega) (Nat.div_le_self _ _) (hNM _ (by omega))) (by omega))
 ·intro v u w1 r1 r2
  have:=fN v u _ _ w1 r1 r2 (Dg.small_dg _ _ (by omega)) (Dg.small_cons.2 ⟨by omega,Dg.small_nil _ (by omega)⟩) (by omega) (by simp)
  rwa [Dg.vl_dg _ _ (by omega),show Dg.vl 65536 [2]=2 from rfl] at this
 ·intro v u w1 r1 r2
  have:=fm v u _ _ w1 r1 r2 (Dg.small_dg _ _ (by omega)) (Dg.small_dg _ _ (by omega)) (Dg.norm_dg _ _ (by omega)) (Dg.norm_dg _ _ (by omega))
  rwa [Dg.vl_dg _ _ (by omega),Dg.vl_dg _ _ (by omega)] at this
 ·intro w1
  exact Od hway qs _ _ w1
 ·intro v u w1 r1 r2
  have:=ew v u _ _ w1 r1 r2 (Dg.small_dg _ _ (by omega)) (Dg.small_cons.2 ⟨by omega,Dg.small_nil _ (by omega)⟩) (Dg.norm_dg _ _ (by omega)) (by rw[show([1]:List Nat)=Dg.dg 65536 1 from by decide];exact Dg.norm_dg _ _ (by omega)) (by omega) (by simp)
  rwa [Dg.vl_dg _ _ (by omega),show Dg.vl 65536 [1]=1 from rfl] at this
 ·intro v w1 r
  exact pQ v _ w1 r (Nat.le_trans (ZG hq) (by omega))
 ·intro h1 h2 h3 w1
  rw[KS h2 h3,show io R D (cH R D L gr N M E+1)=2^ (ai R*(D-1).toNat) from if_pos ((Ga R D L gr N M E d1 hN hM).1 (of_decide_eq_true h1)),←hDc1]
  exact ZQ _ (ai R*(D-1).toNat/16) (ai R*(D-1).toNat % 16) w1 (by omega) (by omega) (by omega)
theorem NT (R D L G:Int)(gr qs:Bool)(no:Option Addr)(nc:Nat)(eo:Option Addr)(ec:Nat)(N M:Nat)(E way:Int)(w:World)(hg:bk R D L G=0)(hway:iC way=true)
  (ha:Rd w .i64 (yS no N nc) (Dg.dg 65536 N)) (hb:Rd w .i64 (yS eo M ec) (Dg.dg 65536 M)) (hla:(Dg.dg 65536 N).length≤20000) (hlb:(Dg.dg 65536 M).length≤20000) (hN:N≠0) (hM:M≠0) (e1: -20000≤E) (e2:E≤20000):
  yC 22 #[yrV qs (yS no N nc) (yS eo M ec) E,ygV R D L G gr,yi way] w (GT w (cI R D L G gr qs N M E way)):=by
 have hbn:=vR hla;have hbm:=vR hlb;exact KU R D L G gr qs no nc eo ec N M E way w hg hway ha hb hla hlb hN hM (by omega) (by omega) (by omega) (by omega)
theorem qi (way:Int)(w:World):yC 12 #[yi way] w fun z w'=>z= .returned (.bool (iC way))∧w'=w:=by
 unfold iC
 by_cases h:1≤way
 ·go_enter func12,ntmps12
  go_wp2
  go_ret
  simp[h]
 ·go_enter func12,ntmps12
  go_wp2
  go_ret
  simp;omega
theorem M9 {xs ys:List Nat}{E R D L G way:Int}(h: ¬eA xs ys E=0):eE xs ys E R D L G way=eA xs ys E:=by
 have e:jg (eA xs ys E) (bk R D L G)=eA xs ys E:=if_neg h;unfold eE;rw[e,if_neg h]
theorem Na {xs ys:List Nat}{E R D L G way:Int}(h:eA xs ys E=0)(h2: ¬bk R D L G=0):eE xs ys E R D L G way=bk R D L G:=by
 have e:jg (eA xs ys E) (bk R D L G)=bk R D L G:=if_pos h;unfold eE;rw[e,if_neg h2]
theorem Bq {xs ys:List Nat}{E R D L G way:Int}(h:eA xs ys E=0)(h2:bk R D L G=0):eE xs ys E R D L G way=if iC way=true then 0 else 6:=by
 have e:jg (eA xs ys E) (bk R D L G)=bk R D L G:=if_pos h;unfold eE;rw[e,if_pos h2]
theorem Nb {xs ys:List Nat}{E R D L G way:Int}(h:eE xs ys E R D L G way=0):eA xs ys E=0∧bk R D L G=0∧iC way=true:=by
 by_cases h1:eA xs ys E=0
 ·by_cases h2:bk R D L G=0
  ·refine⟨h1,h2, ?_⟩
   rw[Bq h1 h2] at h
   by_cases h3:iC way=true
   ·exact h3
   ·rw[if_neg h3] at h
    cases h
  ·rw[Na h1 h2] at h
   exact absurd h h2
 ·rw[M9 h1] at h
  exact absurd h h1
theorem Sw {xs:List Nat}(sa:Dg.Small 4294967296 xs)(h:chk xs=0)(hl: ¬xs.length=0):Dg.vl 4294967296 xs≠0:=fun c=>by
 have ex:Dg.dg 4294967296 (Dg.vl 4294967296 xs)=xs:=Dg.dg_vl _ (by omega) _ sa (aF h).1;rw[c] at ex;rw[←ex] at hl;exact hl rfl
def RVg (w:World)(c:Int)(g:Bool)(t:ak)(z:Ending)(w':World):Prop:=
 ∃s,z= .returned (yoV c g t.s s t.e)∧Rd w' .i64 s (Dg.dg 65536 t.n)∧Far w.heap.size s∧yB w w'
theorem aaB (n f0 f1 f2 R D L G fam wd PW E:Int)(gr ok ng:Bool)(pn:Nat)(t:ak)(w:World)(hPW:IntKind.i64.wrap (wd*D)=PW)(hE:IntKind.i64.wrap (wd*G)=E)(HF:yJ 10 #[yi n] (.tuple #[yhV f0 f1 f2 R D L G gr fam,.bool ok]))
  (HW:yJ 31 #[ygV R D L G gr] (yi wd))
  (HP: ∀w1,yC 26 #[yi PW] w1 (cG w1 pn))
  (HL: ∀vo vc q w1,Rd w1 .i64 (yS vo pn vc) (Dg.dg 65536 pn)→w1.cell? ⟨q,0,none⟩=some (yi 1)→yC 32 #[yS vo pn vc,.slice (some ⟨q,0,none⟩) 1 1] w1 (cG w1 (pn-1)))
  (HB: ∀vo vc w1,Rd w1 .i64 (.slice vo (Dg.dg 65536 (pn-1)).length vc) (Dg.dg 65536 (pn-1))→yC 33 #[ydV ng (.slice vo (Dg.dg 65536 (pn-1)).length vc) E] w1 (di w1 t)):
  yC 106 #[yi n,.bool ng] w (RVg w 2 ng t):=by
 replace HF:Hid _:=HF;replace HW:Hid _:=HW;replace HP:Hid _:=HP;replace HL:Hid _:=HL;replace HB:Hid _:=HB;have a0:=af w (.cells (yoA 0 false false yN 0) 37);have q0:=ah w (yoL 0 false false yN 0) 37
 go_enter func106,ntmps106
 go_wp2_with fail
 refine(HF.out _).mono ?_;rintro z w1 ⟨rfl,b1⟩;have al:=af w1 (.cells (yhA f0 f1 f2 R D L G gr fam) 28);have d2:=ah w1 (yhL f0 f1 f2 R D L G gr fam) 28;have q2:=(q0.l b1).l al;have b2:=aa (aa a0 b1) al;have hne:w.heap.size<w1.heap.size:=(q0.l b1).lt;clear a0 q0 b1 al HF
 go_upto_region 2 with fail
 generalize w1.alloc (.cells (yhA f0 f1 f2 R D L G gr fam) 28)=W2 at d2 q2 b2⊢;generalize w1.heap.size=PF at d2 hne⊢;obtain⟨x0,x1,x2,x3,x4,x5,x6,x7,x8⟩:=d2.cs9
 go_wp2_with fail
 refine(HW.out _).mono ?_;rintro z w3 ⟨rfl,b3⟩;have bb:=aa b3 (Below.refl _ _).drew;have d3:=d2.l bb;have q3:=q2.l bb;have b03:=aa b2 bb;clear x0 x1 x2 x3 x4 x5 x6 x7 x8 d2 q2 b2 b3 bb HW
 go_upto_region 3 with fail
 refine wp_region_held_drew (S:=(fun wq=>au wq PF 28 (yhL f0 f1 f2 R D L G gr fam))) (by kernel_rfl) d3 (fun hS0=> ?_)
 generalize w3.drew=WD at d3 q3 b03 hS0⊢;refine tq 0 (.bool ng) rfl (fun w0 _=>by kernel_rfl) hS0 ?_
 refine tq 1 (.bool ng) rfl (fun w0 _=>by kernel_rfl) hS0 ?_
 refine tq 2 (yi wd) rfl (fun w0 _=>by kernel_rfl) hS0 ?_
 refine tq 3 (.pointer (some ⟨PF,3,none⟩)) rfl (fun w0 _=>by kernel_rfl) hS0 ?_
 refine tq 4 (.pointer (some ⟨PF,4,none⟩)) rfl (fun w0 _=>by kernel_rfl) hS0 ?_
 refine tq 5 (yi D) rfl (fun w0 hw0=>gU 3 (.tmp 20) rfl PF 4 (by kernel_rfl) _ _ underlying3 rfl (hw0.c 4 rfl)) hS0 ?_
 refine tq 6 (yi PW) rfl (fun w0 _=>by go_simp) hS0 ?_
 refine tq 10 (yi wd) rfl (fun w0 _=>by kernel_rfl) hS0 ?_
 refine tq 11 (.pointer (some ⟨PF,3,none⟩)) rfl (fun w0 _=>by kernel_rfl) hS0 ?_
 refine tq 12 (.pointer (some ⟨PF,6,none⟩)) rfl (fun w0 _=>by kernel_rfl) hS0 ?_
 refine tq 13 (yi G) rfl (fun w0 hw0=>gU 3 (.tmp 28) rfl PF 6 (by kernel_rfl) _ _ underlying3 rfl (hw0.c 6 rfl)) hS0 ?_
 refine tq 14 (yi E) rfl (fun w0 _=>by go_simp) hS0 ?_
 refine wpAnyH_ready (rs:=[7,8]) (by kernel_rfl) (by simp) ?_;refine AllReadyH.cons rfl (fun K hK=> ?_) (AllReadyH.cons rfl (fun K hK=> ?_) AllReadyH.nil)
 ·skip
  go_simp
  refine(HP.out _).mono ?_;rintro z wp ⟨vp,rfl,rp,bp⟩;obtain⟨vo,vc,hv⟩:=rp.shape;subst hv;have dp:=d3.l bp;have qp:=q3.l bp;have b0p:=aa b03 bp;refine hK.out _ _ dp (fun hSp=> ?_)
  clear hK K bp d3 q3 b03;refine wpAnyH_ready (rs:=[8]) (by kernel_rfl) (by simp) ?_;refine AllReadyH.cons rfl (fun K hK=> ?_) AllReadyH.nil
  go_simp
  have al:=af wp (.cells #[yi 1] 3);have on:=(ah wp [yi 1] 3).c 0 rfl;have dn:=dp.l al;have qn:=qp.l al;have b0n:=aa b0p al;have rn:=rp.l al;refine hK.out _ _ dn (fun hSn=> ?_)
  clear hK K al dp qp b0p rp;generalize wp.alloc (.cells #[yi 1] 3)=WN at dn qn b0n on hSn rn⊢;generalize wp.heap.size=Q1 at on⊢;refine wpAnyH_ready (rs:=[9]) (by kernel_rfl) (by simp) ?_;refine AllReadyH.cons rfl (fun K hK=> ?_) AllReadyH.nil
  go_simp
  refine(HL.out _ _ _ _ rn on).mono ?_;rintro z wl ⟨vl,rfl,rl,bl⟩;obtain⟨lo,lc,hv⟩:=rl.shape;subst hv;have dl:=dn.l bl;have ql:=qn.l bl;have b0l:=aa b0n bl;refine hK.out _ _ dl (fun hSl=> ?_)
  clear hK K bl dn qn b0n rn on;refine tq 15 ((ydV ng (.slice lo (Dg.dg 65536 (pn-1)).length lc) E)) rfl (fun w0 _=>by kernel_rfl) hSl ?_
  refine wpAnyH_ready (rs:=[16]) (by kernel_rfl) (by simp) ?_;refine AllReadyH.cons rfl (fun K hK=> ?_) AllReadyH.nil
  go_simp
  refine(HB.out _ _ _ rl).mono ?_;rintro z wb ⟨vb,rfl,rb,fb,bb⟩;obtain⟨so,sc,hv⟩:=rb.shape;subst hv;have db:=dl.l bb;have qb:=ql.l bb;have b0b:=aa b0l bb;have fb0:=fb.mono b0l.size;refine hK.out _ _ db (fun hSb=> ?_)
  clear hK K bb dl ql b0l rl;refine tq 17 ((yoV 2 ng t.s (yS so t.n sc) t.e)) rfl (fun w0 _=>by kernel_rfl) hSb ?_
  refine wpAnyH_ready (rs:=[18]) (by kernel_rfl) (by simp) ?_;refine AllReadyH.cons rfl (fun K hK=> ?_) AllReadyH.nil
  rw[if_pos (by kernel_rfl)];have hth:wb.there w.heap.size 0 5:=dD qb;refine wp_store_mid 37 (.tmp 4) (.tmp 33) rfl w.heap.size 0 (yoA 2 ng t.s (yS so t.n sc) t.e) (by kernel_rfl) (by kernel_rfl) hth (by kernel_rfl) (by simp[Value.oneCell']) ?_;have bu:But w.heap.size wb (wb.setCells w.heap.size 0 (yoL 2 ng t.s (yS so t.n sc) t.e)):=de _ _ _ _;have dS:=bu.loc db (by omega);have bS:=bu.below b0b (by omega);have rS:=bu.rd rb (cq rb (Dg.norm_dg _ _ (by omega)) qb (fun x hx n hn=>by simp at hx;rcases hx with rfl|rfl|rfl|rfl|rfl<;>simp;all_goals omega))
  have cR:au (wb.setCells w.heap.size 0 (yoL 2 ng t.s (yS so t.n sc) t.e)) w.heap.size 37 (yoL 2 ng t.s (yS so t.n sc) t.e):=(((((qb.set 0 (yi 2)).set 1 (.bool ng)).set 2 (.bool t.s)).set 3 (yS so t.n sc)).set 4 (yi t.e));refine hK.out _ _ dS (fun hSS=> ?_)
  clear hK K bu hth db qb b0b rb;refine wpAnyH_done (by kernel_rfl) ?_ _;clear hSS;change Exit.then _ _ _ _ (World.setCells wb w.heap.size 0 (yoL 2 ng t.s (yS so t.n sc) t.e));generalize World.setCells wb w.heap.size 0 (yoL 2 ng t.s (yS so t.n sc) t.e)=WS at dS bS rS cR⊢;simp only[Act.put,List.getElem_toArray,List.getElem_cons_succ,List.getElem_cons_zero,List.setIfInBounds_toArray,List.set_cons_zero,List.set_cons_succ];have hl:=run_loadVar_mid (P:=Tryz.prog) _ w.heap.size 0 37 (yoL 2 ng t.s (yS so t.n sc) t.e) _ cR.range underlying37 rfl (by kernel_rfl);replace hl:Hid _:=hl;clear cR
  go_wp2
  exact bodyPost_ret (br results106 rfl hl.out) rfl ⟨_,rfl,rS,fb0,bS⟩
 ·skip
  go_simp
  have al:=af WD (.cells #[yi 1] 3);have on:=(ah WD [yi 1] 3).c 0 rfl;have dn:=d3.l al;have qn:=q3.l al;have b0n:=aa b03 al;refine hK.out _ _ dn (fun hSn=> ?_)
  clear hK K al d3 q3 b03;generalize WD.alloc (.cells #[yi 1] 3)=WN at dn qn b0n on hSn⊢;generalize WD.heap.size=Q1 at on⊢;refine wpAnyH_ready (rs:=[7]) (by kernel_rfl) (by simp) ?_;refine AllReadyH.cons rfl (fun K hK=> ?_) AllReadyH.nil
  go_simp
  refine(HP.out _).mono ?_;rintro z wp ⟨vp,rfl,rp,bp⟩;obtain⟨vo,vc,hv⟩:=rp.shape;subst hv;have dp:=dn.l bp;have qp:=qn.l bp;have b0p:=aa b0n bp;have op:=cell_later bp on;refine hK.out _ _ dp (fun hSp=> ?_)
  clear hK K bp dn qn b0n on;refine wpAnyH_ready (rs:=[9]) (by kernel_rfl) (by simp) ?_;refine AllReadyH.cons rfl (fun K hK=> ?_) AllReadyH.nil
  go_simp
  refine(HL.out _ _ _ _ rp op).mono ?_;rintro z wl ⟨vl,rfl,rl,bl⟩;obtain⟨lo,lc,hv⟩:=rl.shape;subst hv;have dl:=dp.l bl;have ql:=qp.l bl;have b0l:=aa b0p bl;refine hK.out _ _ dl (fun hSl=> ?_)
  clear hK K bl dp qp b0p rp op;refine tq 15 ((ydV ng (.slice lo (Dg.dg 65536 (pn-1)).length lc) E)) rfl (fun w0 _=>by kernel_rfl) hSl ?_
  refine wpAnyH_ready (rs:=[16]) (by kernel_rfl) (by simp) ?_;refine AllReadyH.cons rfl (fun K hK=> ?_) AllReadyH.nil
  go_simp
  refine(HB.out _ _ _ rl).mono ?_;rintro z wb ⟨vb,rfl,rb,fb,bb⟩;obtain⟨so,sc,hv⟩:=rb.shape;subst hv;have db:=dl.l bb;have qb:=ql.l bb;have b0b:=aa b0l bb;have fb0:=fb.mono b0l.size;refine hK.out _ _ db (fun hSb=> ?_)
  clear hK K bb dl ql b0l rl;refine tq 17 ((yoV 2 ng t.s (yS so t.n sc) t.e)) rfl (fun w0 _=>by kernel_rfl) hSb ?_
  refine wpAnyH_ready (rs:=[18]) (by kernel_rfl) (by simp) ?_;refine AllReadyH.cons rfl (fun K hK=> ?_) AllReadyH.nil
  rw[if_pos (by kernel_rfl)];have hth:wb.there w.heap.size 0 5:=dD qb;refine wp_store_mid 37 (.tmp 4) (.tmp 33) rfl w.heap.size 0 (yoA 2 ng t.s (yS so t.n sc) t.e) (by kernel_rfl) (by kernel_rfl) hth (by kernel_rfl) (by simp[Value.oneCell']) ?_;have bu:But w.heap.size wb (wb.setCells w.heap.size 0 (yoL 2 ng t.s (yS so t.n sc) t.e)):=de _ _ _ _;have dS:=bu.loc db (by omega);have bS:=bu.below b0b (by omega);have rS:=bu.rd rb (cq rb (Dg.norm_dg _ _ (by omega)) qb (fun x hx n hn=>by simp at hx;rcases hx with rfl|rfl|rfl|rfl|rfl<;>simp;all_goals omega))
  have cR:au (wb.setCells w.heap.size 0 (yoL 2 ng t.s (yS so t.n sc) t.e)) w.heap.size 37 (yoL 2 ng t.s (yS so t.n sc) t.e):=(((((qb.set 0 (yi 2)).set 1 (.bool ng)).set 2 (.bool t.s)).set 3 (yS so t.n sc)).set 4 (yi t.e));refine hK.out _ _ dS (fun hSS=> ?_)
  clear hK K bu hth db qb b0b rb;refine wpAnyH_done (by kernel_rfl) ?_ _;clear hSS;change Exit.then _ _ _ _ (World.setCells wb w.heap.size 0 (yoL 2 ng t.s (yS so t.n sc) t.e));generalize World.setCells wb w.heap.size 0 (yoL 2 ng t.s (yS so t.n sc) t.e)=WS at dS bS rS cR⊢;simp only[Act.put,List.getElem_toArray,List.getElem_cons_succ,List.getElem_cons_zero,List.setIfInBounds_toArray,List.set_cons_zero,List.set_cons_succ];have hl:=run_loadVar_mid (P:=Tryz.prog) _ w.heap.size 0 37 (yoL 2 ng t.s (yS so t.n sc) t.e) _ cR.range underlying37 rfl (by kernel_rfl);replace hl:Hid _:=hl;clear cR
  go_wp2
  exact bodyPost_ret (br results106 rfl hl.out) rfl ⟨_,rfl,rS,fb0,bS⟩
end Go.Proofs.YtpainhklfoaniaaGreatDoor

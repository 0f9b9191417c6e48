/-
  Texts laid together: Df1, Ef2, Cr5.
-/
import Derived.Test.YtbdokgamhinajaaGreatDoorSm25
set_option maxRecDepth 100000
set_option maxHeartbeats 12800000
namespace Go.Proofs.YtbdokgamhinajaaGreatDoor
open _root_.Go.Proofs.Tryz
open Go.RowKit
theorem sN (v:Value)(t:ak)(w:World)(hv:Rv w v t)(hL:(Dg.dg 65536 t.n).length≤100000)(h1: -1000000≤t.e)(h2:t.e≤1000000):
  yC 75 #[v] w (cG w (shN t.n t.e)):=by
 obtain⟨s0,rfl,hr⟩:=hv;have HU:Hid (¬t.e<0→ ∀w1,yB w w1→yC 112 #[s0,yi t.e] w1 (cG w1 (shN t.n t.e))):=fun h w1 b=>by
  unfold shN;rw[if_neg h];obtain⟨m,hm⟩: ∃m:Nat,t.e=(m:Int):=⟨t.e.toNat,by omega⟩;rw[hm,Int.toNat_natCast];have:=kD s0 _ m w1 (hr.l b) (Dg.small_dg _ _ (by omega)) (by omega) (by omega)
  rwa [Dg.vl_dg _ _ (by omega)] at this
 have HD:Hid (t.e<0→ ∀w1,yB w w1→yC 111 #[s0,yi (-t.e)] w1 (cG w1 (shN t.n t.e))):=fun h w1 b=>by
  unfold shN;rw[if_pos h];obtain⟨m,hm⟩: ∃m:Nat,-t.e=(m:Int):=⟨(-t.e).toNat,by omega⟩;rw[hm,Int.toNat_natCast];have:=Ft s0 _ m (m/16) (m % 16) (2^ (m % 16)) (2^ (16-m % 16)) w1 (hr.l b) (Dg.small_dg _ _ (by omega)) (by omega) (by omega) (by omega) (by omega) rfl rfl
  rwa [Dg.vl_dg _ _ (by omega)] at this
 obtain⟨ao,ca,rfl⟩:=hr.shape;obtain⟨ts,n,e⟩:=t;simp only at HU HD h1 h2⊢;obtain⟨R,hR⟩: ∃R,shN n e=R:=⟨_,rfl⟩;rw[hR] at HU HD⊢;obtain⟨m,hm⟩: ∃m,(Dg.dg 65536 n).length=m:=⟨_,rfl⟩;rw[hm] at HU HD⊢;have bA:=af w (.cells (ydA ts (.slice ao m ca) e) 30);clear hr hL hR hm
 by_cases h:e<0
 ·have h3: ¬0≤e:=by omega
  go_enter func75,ntmps75
  go_wp2_with fail
  refine(HD.out h _ bA).mono ?_;rintro z w1 ⟨v1,rfl,r1,b1⟩;have b01:=aa bA b1
  go_wp2
  go_ret
  exact⟨_,rfl,r1,b01⟩
 ·have h3:0≤e:=by omega
  go_enter func75,ntmps75
  go_wp2_with fail
  refine(HU.out h _ bA).mono ?_;rintro z w1 ⟨v1,rfl,r1,b1⟩;have b01:=aa bA b1
  go_wp2
  go_ret
  exact⟨_,rfl,r1,b01⟩
theorem sU (k:Nat)(hk:1≤k∧k≤8)(w:World):yC 18 #[yi k] w (yR w (.tuple #[yhV (szN k) (exN k) (frN k:Int) (rdN k) (dgN k) (lsI k) (gsI k) (decide (k≤3)) (fmN k:Int),.bool true])):=by
 have h:=qU k hk w
 rcases bO hk with rfl|rfl|rfl|rfl|rfl|rfl|rfl|rfl
 all_goals exact h
theorem zr (R:Int):wdI R=(ai R:Int):=by
 unfold wdI ai
 split<;>rfl
theorem vJ (m:Nat)(hm:m≤200)(w:World):yC 65 #[yi m] w (cG w (2^m)):=
 pf m (m/16) (m % 16) w (by omega) (Nat.mod_lt _ (by omega)) (by omega)
theorem eR {k:Nat}(hk:1≤k∧k≤8):1≤exN k∧1≤frN k∧1≤dgN k∧dgN k≤64∧ -16445≤lsI k∧lsI k≤0∧lsI k≤gsI k∧gsI k≤16320∧ai (rdN k)*dgN k≤64∧ai (rdN k)≤4∧1≤ai (rdN k)∧bk (rdN k) (dgN k) (lsI k) (gsI k)=0:=by
 rcases bO hk with rfl|rfl|rfl|rfl|rfl|rfl|rfl|rfl<;>exact⟨by decide,by decide,by decide,by decide,by decide,by decide,by decide,by decide,by decide,by decide,by decide,by decide⟩
def rfK (k:Nat)(n:Nat)(e:Int):Int:=max (lsI k) (aT (rdN k) (dgN k) (e+(bitLen n:Int)-1))
theorem vK (v:Value)(a:Nat)(w:World)(h:Rd w .i64 v (Dg.dg 65536 a))(hl:(Dg.dg 65536 a).length≤2000000):yC 74 #[v] w (yR w (yi (bitLen a:Int))):=by
 have:=kF _ _ w h (Dg.small_dg _ _ (by omega)) (Dg.norm_dg _ _ (by omega)) (by omega);rw[Dg.vl_dg _ _ (by omega)] at this;refine this.mono ?_;rintro z w' ⟨rfl,rfl⟩;exact⟨rfl,Below.refl _ _⟩
theorem IZ {a b:Nat}(h:a≤b):(Dg.dg 65536 a).length≤(Dg.dg 65536 b).length:=by
 refine Dg.dg_len_le 65536 a _ (by omega) (Nat.lt_of_le_of_lt h ?_);have:=Dg.vl_lt 65536 (Dg.dg 65536 b) (Dg.small_dg 65536 b (by omega))
 rwa [Dg.vl_dg 65536 b (by omega)] at this
theorem Sx {d j:Nat}(h:bitLen d=j+1):2^j≤d:=by
 rcases Nat.lt_or_ge d (2^j) with c|c
 ·have:=bF d j c
  omega
 ·exact c
theorem mV (k:Nat)(hk:1≤k∧k≤8)(c:Int)(g ts:Bool)(so:Option Addr)(tn sc:Nat)(te:Int)(E F:Nat)(ng:Bool)(K:Int)(d:Nat)(w:World)(hE:E<65536)(hF:F<340282366920938463463374607431768211456)(hd:d<340282366920938463463374607431768211456)
  (HN:c=2→Rd w .i64 (yS so tn sc) (Dg.dg 65536 tn)∧(Dg.dg 65536 tn).length≤20000∧ -79000≤te∧te≤200000∧K=rfK k tn te∧d=shN tn (te-(ai (rdN k):Int)*K)∧K-lsI k<65536)
  (HC:(c=1∧E=0∧F=0∧ng=g)∨(c=5∧E=0∧F=0∧ng=true)∨(c=3∧(k:Int)=3∧E+1=2^exN k∧F=2^63∧ng=g)∨(c=3∧(k:Int)≠3∧E+1=2^exN k∧F=0∧ng=g)∨(c=4∧(k:Int)=3∧E+1=2^exN k∧F=2^63+2^62∧ng=g)∨(c=4∧(k:Int)≠3∧E+1=2^exN k∧F=2^ (frN k-1)∧ng=g)∨(c=2∧ng=g∧(((fmN k:Int)=2∧E=(K-lsI k).toNat∧F=d)∨((fmN k:Int)≠2∧(bitLen d:Int)≠(dgN k:Int)∧E=(K-lsI k).toNat∧F=d)∨((fmN k:Int)≠2∧(bitLen d:Int)=(dgN k:Int)∧(k:Int)=3∧E=(K-lsI k).toNat+1∧F=d)∨((fmN k:Int)≠2∧(bitLen d:Int)=(dgN k:Int)∧(k:Int)≠3∧E=(K-lsI k).toNat+1∧F=d-2^ (dgN k-1))))):
  yC 37 #[yi k,yoV c g ts (yS so tn sc) te] w (yR w (.string (cF (kU k ng E F)))):=by
 obtain⟨s1,s2,s3,s4,-,s7⟩:=fZ hk;obtain⟨f1,f2,f3,f4,f5,f6,f7,f8,f9,f10,f11,-⟩:=eR hk;have hdl:=Dg.dg_len_le 65536 d 8 (by omega) hd;have hw0: ¬((ai (rdN k):Nat):Int)=0:=by omega
 refine Rx k (szN k) (exN k) (frN k) (8*szN k) (rdN k) (dgN k) (lsI k) (gsI k) (fmN k:Int) (ai (rdN k):Int) (decide (k≤3)) c g ts so tn sc te E F ng (cF (kU k ng E F)) (2^63) (2^62) (2^63+2^62) (2^ (frN k-1)) (2^ (dgN k-1)) (bitLen tn:Int) K (aT (rdN k) (dgN k) (te+(bitLen tn:Int)-1)) ((te+(bitLen tn:Int)-1+80000).tdiv (ai (rdN k):Int)) ((80000:Int).tdiv (ai (rdN k):Int)) (bitLen d:Int) d (K-lsI k).toNat w
  s2 f1 s4 f2 s1 hE (by omega) (by omega) (by simpa using hw0) hw0 ?_ (fun w1=>sU k hk w1) ?_ (fun w1=>vJ 63 (by omega) w1) (fun w1=>vJ 62 (by omega) w1) ?_ ?_ ?_ ?_ ?_ (fun v w1 h=>vK v d w1 h (by omega)) ?_ (fun w1=>Bj E w1 hE) (fun v w1 h=>Do v E (exN k) w1 h (by omega) (by omega) f1) (fun v w1 h=>Do v F (frN k) w1 h hF (by omega) f2) ?_ HC
 ·intro h2
  obtain⟨hr,hl,e1,e2,hK,-,hKL⟩:=HN h2;have hbl:bitLen tn≤16*20000:=BE hl;have hsk:=Gh (rdN k) (dgN k) te (bitLen tn) (by omega);have q1:=Int.natAbs_tdiv_le_natAbs (te+(bitLen tn:Int)-1+80000) (ai (rdN k):Int);have q2:=Int.natAbs_tdiv_le_natAbs (80000:Int) (ai (rdN k):Int);have hKK:K=max (lsI k) (aT (rdN k) (dgN k) (te+(bitLen tn:Int)-1)):=hK;have hK1:lsI k≤K:=by rw[hKK];exact Int.le_max_left _ _
  have hwK: -100000≤(ai (rdN k):Int)*K∧(ai (rdN k):Int)*K≤500000:=by
   rcases(show ai (rdN k)=1∨ai (rdN k)=4 from by unfold ai;split<;>omega) with h|h<;>rw[h]<;>omega
  refine⟨IntWalk.i64_in _ ⟨by omega,by omega⟩,IntWalk.i64_in _ ⟨by omega,by omega⟩,IntWalk.i64_in _ ⟨by omega,by omega⟩,rfl,rfl,IntWalk.i64_in _ ⟨by omega,by omega⟩,IntWalk.i64_in _ ⟨by omega,by omega⟩,IntWalk.i64_in _ ⟨by omega,by omega⟩,IntWalk.i64_in _ ⟨by omega,by omega⟩, ?_,hKK.symm,IntWalk.i64_in _ ⟨by omega,by omega⟩,IntWalk.i64_in _ ⟨by omega,by omega⟩, ?_,by omega⟩
  ·rw[hsk]
   exact IntWalk.i64_in _ ⟨by omega,by omega⟩
  ·rw[Int.toNat_of_nonneg (by omega)]
   exact IntWalk.i64_in _ ⟨by omega,by omega⟩
 ·intro w1
  have:=eG (rdN k) (dgN k) (lsI k) (gsI k) (decide (k≤3)) w1
  rwa [zr] at this
 ·intro v u w1 h1 h2
  have:=ew v u _ _ w1 h1 h2 (Dg.small_dg _ _ (by omega)) (Dg.small_dg _ _ (by omega)) (Dg.norm_dg _ _ (by omega)) (Dg.norm_dg _ _ (by omega)) (Nat.le_trans (Dg.dg_len_le 65536 (2^63) 8 (by omega) (by decide)) (by omega)) (Nat.le_trans (Dg.dg_len_le 65536 (2^62) 8 (by omega) (by decide)) (by omega))
  rwa [Dg.vl_dg _ _ (by omega),Dg.vl_dg _ _ (by omega)] at this
 ·intro w1
  rw[show(frN k:Int)-1=((frN k-1:Nat):Int) from by omega]
  exact vJ (frN k-1) (by omega) w1
 ·intro w1
  rw[show(dgN k)-1=((dgN k-1:Nat):Int) from by omega]
  exact vJ (dgN k-1) (by omega) w1
 ·intro h2 w1 b1
  obtain⟨hr,hl,-⟩:=HN h2;exact vK _ tn w1 (hr.l b1) (by omega)
 ·intro h2 w1 b1
  obtain⟨hr,hl,e1,e2,hK,hdd,hKL⟩:=HN h2;have hK1:lsI k≤K:=by rw[hK];exact Int.le_max_left _ _
  have hwK: -100000≤(ai (rdN k):Int)*K∧(ai (rdN k):Int)*K≤500000:=by
   rcases(show ai (rdN k)=1∨ai (rdN k)=4 from by unfold ai;split<;>omega) with h|h<;>rw[h]<;>omega
  have:=sN _ ⟨false,tn,te-(ai (rdN k):Int)*K⟩ w1 ⟨_,rfl,hr.l b1⟩ (by show(Dg.dg 65536 tn).length≤100000;omega) (by show-1000000≤te-(ai (rdN k):Int)*K;omega) (by show te-(ai (rdN k):Int)*K≤1000000;omega)
  rw[hdd];exact this
 ·intro hlen v u w1 h1 h2
  have hle:2^ (dgN k-1)≤d:=Sx (by omega);have:=kI v u _ _ w1 h1 h2 (Dg.small_dg _ _ (by omega)) (Dg.small_dg _ _ (by omega)) (by omega) (IZ hle) (by rw[Dg.vl_dg _ _ (by omega),Dg.vl_dg _ _ (by omega)];exact hle)
  rwa [Dg.vl_dg _ _ (by omega),Dg.vl_dg _ _ (by omega)] at this
 ·intro gg cap w1 hcell
  have:=G8 k hk gg 0 cap (Eb (exN k) (frN k) ng E F) w1 (fun i hi=>by
   rw[Nat.zero_add,hcell i hi,acq _ _ _ _ _ _ (by omega)])
  rwa [←xP hk] at this
theorem Bt (k m:Nat)(hk:1≤k∧k≤8)(hm:m=1∨m=3∨m=4∨m=5)(hs:iR k m=true)(g ts:Bool)(so:Option Addr)(tn sc:Nat)(te:Int)(w:World):
  yC 37 #[yi k,yoV m g ts (yS so tn sc) te] w (yR w (.string (cF (kU k (pI k m||g) (pg k m) (lS k m))))):=by
 refine mV k hk m g ts so tn sc te (pg k m) (lS k m) (pI k m||g) 0 0 w (Fw m hk) (Nat.lt_trans (Fx m hk) (by decide)) (by decide) (fun h=>by omega) ?_
 rcases hm with rfl|rfl|rfl|rfl
 ·exact .inl ⟨rfl,if_neg (fun h=>by omega),by unfold lS;simp,rfl⟩
 ·refine .inr (.inr ?_)
  have h3:k≤3:=by simpa[iR] using hs
  rcases(show k=1∨k=2∨k=3 from by omega) with rfl|rfl|rfl
  ·exact .inr (.inl ⟨rfl,by decide,by decide,by decide,rfl⟩)
  ·exact .inr (.inl ⟨rfl,by decide,by decide,by decide,rfl⟩)
  ·exact .inl ⟨rfl,by decide,by decide,by decide,rfl⟩
 ·refine .inr (.inr (.inr (.inr ?_)))
  have h3:k≤3:=by simpa[iR] using hs
  rcases(show k=1∨k=2∨k=3 from by omega) with rfl|rfl|rfl
  ·exact .inr (.inl ⟨rfl,by decide,by decide,by decide,rfl⟩)
  ·exact .inr (.inl ⟨rfl,by decide,by decide,by decide,rfl⟩)
  ·exact .inl ⟨rfl,by decide,by decide,by decide,rfl⟩
 ·have h6:6≤k:=by simpa[iR] using hs
  refine .inr (.inl ⟨rfl,if_neg (fun h=>by omega), ?_, ?_⟩)
  ·unfold lS
   rw[if_neg (by omega)]
  ·simp[pI,h6]
theorem Ni {d j:Nat}(h:d<2^ (j+1)):d&&& 2^j≠0↔bitLen d=j+1:=by
 have hb:=bF d (j+1) h;rw[SK];have hp:0<2^j:=Nat.pow_pos (by omega)
 by_cases hc:2^j≤d
 ·have h1:bitLen d=j+1:=by
   have:=(pP d j).1;have h2: ¬bitLen d<j+1:=fun c=>this c hc
   omega
  have ht:d.testBit j=true:=by
   rw[Nat.testBit_eq_decide_div_mod_eq];have:d/2^j=1:=by
    rw[Nat.pow_succ] at h;have h3:1≤d/2^j:=(Nat.le_div_iff_mul_le hp).2 (by omega);have h4:d/2^j<2:=(Nat.div_lt_iff_lt_mul hp).2 (by omega);omega
   rw[this];rfl
  rw[if_pos ht];exact⟨fun _=>h1,fun _=>by omega⟩
 ·have h1:bitLen d<j+1:=(pP d j).2 hc
  have ht:d.testBit j=false:=by
   rw[Nat.testBit_eq_decide_div_mod_eq,Nat.div_eq_of_lt (by omega)];rfl
  rw[if_neg (by rw[ht];simp)];exact⟨fun c=>absurd rfl c,fun c=>by omega⟩
theorem Bu (k:Nat)(hk:1≤k∧k≤8)(g s ts:Bool)(so:Option Addr)(tn sc:Nat)(te:Int)(w:World)(hr:Rd w .i64 (yS so tn sc) (Dg.dg 65536 tn))(hl:(Dg.dg 65536 tn).length≤20000)(e1: -79000≤te)(e2:te≤200000)(h0:tn≠0)
  (hh:dA (rdN k) (dgN k) (lsI k) (gsI k) (decide (k≤3)) tn te=true):
  yC 37 #[yi k,yoV 2 g ts (yS so tn sc) te] w (yR w (.string (cF (kU k g (heE (rdN k) (lsI k) (gW k) (plT k s tn te)) (plT k s tn te).d)))):=by
 obtain⟨f1,f2,f3,f4,f5,f6,f7,f8,f9,f10,f11,hgc⟩:=eR hk;obtain⟨-,hpd,hpp,hne⟩:=oj (s:=s) (way:=3) (by omega) f7 h0 hh;have hK:cP (rdN k) (dgN k) (lsI k) (decide (k≤3)) tn te=rfK k tn te:=RW h0 hh;obtain⟨ho,hu,-⟩:=mC (s:=s) (way:=3) (by omega) f7 h0 hh;have hsp:=(nW (by omega) f7 h0 (by omega) ho hu).resolve_left (fun c=>hne (by rw[←hpd];exact c.1))
 have hp:(plT k s tn te).p=rfK k tn te:=by rw[←hK];exact hpp
 have hdd:(plT k s tn te).d=shN tn (te-(ai (rdN k):Int)*rfK k tn te):=by rw[←hK];exact hpd
 obtain⟨-,hp1,hp2,hdlt,-⟩:=hsp;change lsI k≤(plT k s tn te).p at hp1;change(plT k s tn te).p≤gsI k at hp2;change(plT k s tn te).d<_ at hdlt;rw[hp] at hp1 hp2;have hd64:(plT k s tn te).d<2^64:=Nat.lt_of_lt_of_le hdlt (Nat.pow_le_pow_right (by omega) (by rw[Int.toNat_natCast];exact f9));unfold heE;rw[hp];generalize plT k s tn te=pt at*;generalize hKK:rfK k tn te=K at*;have HN:(2:Int)=2→Rd w .i64 (yS so tn sc) (Dg.dg 65536 tn)∧(Dg.dg 65536 tn).length≤20000∧ -79000≤te∧te≤200000∧K=rfK k tn te∧pt.d=shN tn (te-(ai (rdN k):Int)*K)∧K-lsI k<65536:=fun _=>⟨hr,hl,e1,e2,hKK.symm,hdd,by omega⟩
 have hdb:pt.d<340282366920938463463374607431768211456:=Nat.lt_trans hd64 (by decide)
 by_cases hR:(rdN k:Int)=2
 ·have hfm:(fmN k:Int)≠2:=by
   rcases bO hk with rfl|rfl|rfl|rfl|rfl|rfl|rfl|rfl<;>revert hR<;>decide
  have hw1:ai (rdN k)=1:=by rw[hR];rfl
  rw[hw1,Nat.one_mul,Int.toNat_natCast] at hdlt;have hdj:dgN k-1+1=dgN k:=by omega
  have hal:=Ni (d:=pt.d) (j:=dgN k-1) (by rw[hdj];exact hdlt);rw[hdj] at hal
  by_cases hb:bitLen pt.d=dgN k
  ·rw[if_pos ⟨hR,hal.2 hb⟩]
   by_cases h3:k=3
   ·exact mV k hk 2 g ts so tn sc te _ _ g K pt.d w (by omega) hdb hdb HN (.inr (.inr (.inr (.inr (.inr (.inr ⟨rfl,rfl,.inr (.inr (.inl ⟨hfm,by omega,by omega,rfl,rfl⟩))⟩))))))
   ·have hfr:dgN k-1=frN k:=by
     rcases bO hk with rfl|rfl|rfl|rfl|rfl|rfl|rfl|rfl<;>revert hR h3<;>decide
    have hle:2^frN k≤pt.d:=by rw[←hfr];exact Sx (by omega)
    rw[←Wg hk g _ pt.d hle];exact mV k hk 2 g ts so tn sc te _ _ g K pt.d w (by omega) (Nat.lt_of_le_of_lt (Nat.sub_le _ _) hdb) hdb HN (.inr (.inr (.inr (.inr (.inr (.inr ⟨rfl,rfl,.inr (.inr (.inr ⟨hfm,by omega,by omega,rfl,by rw[hfr]⟩))⟩))))))
  ·rw[if_neg (fun c=>hb (hal.1 c.2)),Nat.add_zero]
   exact mV k hk 2 g ts so tn sc te _ _ g K pt.d w (by omega) hdb hdb HN (.inr (.inr (.inr (.inr (.inr (.inr ⟨rfl,rfl,.inr (.inl ⟨hfm,by omega,rfl,rfl⟩)⟩))))))
 ·have hfm:(fmN k:Int)=2:=by
   rcases bO hk with rfl|rfl|rfl|rfl|rfl|rfl|rfl|rfl<;>revert hR<;>decide
  rw[if_neg (fun c=>hR c.1),Nat.add_zero]
  exact mV k hk 2 g ts so tn sc te _ _ g K pt.d w (by omega) hdb hdb HN (.inr (.inr (.inr (.inr (.inr (.inr ⟨rfl,rfl,.inl ⟨hfm,rfl,rfl⟩⟩))))))
structure zQ (w:World) (bn bf:Nat) (ng:Bool) (fv:List Value) (w':World):Prop where
 q:au w' w.heap.size 32 (yoL 0 false false yN 0)
 f:au w' bf 50 fv
 n:au w' bn 4 [.bool ng]
 b:yB w w'
theorem zQ.l {w w1 w2:World}{bn bf:Nat}{ng:Bool}{fv:List Value}(h:zQ w bn bf ng fv w1)(b:yB w1 w2):zQ w bn bf ng fv w2:=
 ⟨h.q.l b,h.f.l b,h.n.l b,aa h.b b⟩
def JV (w:World)(c:Int)(g:Bool)(t:ak)(ng:Bool)(z:Ending)(w':World):Prop:=
 ∃s,z= .returned (.tuple #[yoV c g t.s s t.e,.bool ng])∧Rd w' .i64 s (Dg.dg 65536 t.n)∧yB w w'∧Far w.heap.size s
theorem x9 {w:World}{base:Nat}{v:Value}{bs:List Bool}(h:jp w base v bs)(hp:0<bs.length): ∃g cap,v= .slice (some ⟨g,0,none⟩) bs.length cap∧bs.length≤cap∧cap≤maxLen∧ ∀i b,bs[i]? =some b→w.cell? ⟨g,i,none⟩=some (.bool b):=by
 obtain⟨hl,h2⟩:=h
 rcases h2 with⟨hv,hn⟩| ⟨g,cap,cur,hv,hb,hh,hnc,hcm,hcs,htake⟩
 ·omega
 ·refine⟨g,cap,hv,hnc,hcm,fun i b hi=> ?_⟩
  have hi':i<bs.length:=(List.getElem?_eq_some_iff.1 hi).1;have hc:=World.ownsRow.cellAt (w:=w) (base:=base) (e:=4) (size:=1) (g:=g) (n:=bs.length) (cap:=cap) (xs:=bs.map Value.bool) ⟨hl,.inr ⟨g,cap,cur,rfl,hb,hh,hnc,hcm,hcs,htake⟩⟩ i (by omega);rw[hc,List.getElem?_map,hi];rfl
theorem za {x j:Nat}{b on:Bool}(h:on=decide (x+1=2^j)):(on&&b)=decide (2*x+(if b then 1 else 0)+1=2^ (j+1)):=by
 rw[h,Nat.pow_succ]
 cases b
 ·simp
  omega
 ·simp only[Bool.and_true,if_true]
  congr 1
  apply propext;omega
theorem A7 (n:Int)(sz ex fr lg:Nat)(R D L G wd:Int)(gr:Bool)(s:ByteArray)(ts:List Nat)(ng:Bool)(E FF:Nat)(w:World)
  (hng:ng=decide (fU ts 0=1)) (hE:E=eH ts 1 ex) (hFF:FF=eH ts (1+ex) fr) (hfr:1+ex+fr=8*sz) (hex:ex≤15) (hex7:7≤ex) (hsz:sz≤10) (hfr64:fr≤64) (hfr1:1≤fr) (hD:D=(lg:Int)+1) (hlg:lg≤63) (hL1: -20000≤L) (hL2:L≤0) (hw1:1≤wd) (hw4:wd≤4)
  (HF:yJ 18 #[yi n] (.tuple #[yhV sz ex fr R D L G gr 2,.bool true]))
  (HB: ∀w1,yC 63 #[yi n,.string s] w1 fun z w'=> ∃v,z= .returned v∧jp w' w1.heap.size v (qV ts (8*sz))∧yB w1 w')
  (HWI:yJ 68 #[ygV R D L G gr] (yi wd)):
  yC 33 #[yi n,.string s] w (JV w (if FF=0 then 1 else 2) ng (bare ⟨ng,FF,wd*(L+E)⟩) ng):=by
 have HF':Hid _:=HF;have HB':Hid _:=HB;have HWI':Hid _:=HWI;have hEl:E<32768:=by
  have h1:=gh ts 1 ex;have h2:(2:Nat)^ex≤2^15:=Nat.pow_le_pow_right (by omega) hex;omega
 have hFl:FF<18446744073709551616:=by
  have h1:=gh ts (1+ex) fr;have h2:(2:Nat)^fr≤2^64:=Nat.pow_le_pow_right (by omega) hfr64;omega
 have HM:Hid (_∧_∧_∧_):=⟨hng,hE,hFF,hfr⟩;have b0:=af w (.cells (yoA 0 false false yN 0) 32);have q0:=ah w (yoL 0 false false yN 0) 32;have hDw:IntKind.i64.wrap (D-1)=(lg:Int):=by rw[hD,show lg+1-1=(lg:Int) from by omega];exact IntWalk.i64_in _ ⟨by omega,by omega⟩
 clear HF HB HWI hng hE hFF hfr hD;obtain⟨cl,hcl0⟩: ∃x:Int,(if FF=0 then 1 else 2)=x:=⟨_,rfl⟩
 rw[hcl0];have HC0:Hid _:=hcl0;obtain⟨t6,ht6⟩: ∃t,bare ⟨ng,FF,wd*(L+(E:Int))⟩=t:=⟨_,rfl⟩;rw[ht6];have HT6:Hid _:=ht6;clear hcl0 ht6
 go_enter func33,ntmps33
 go_wp2_with fail
 refine(HF'.out _).mono ?_;rintro z w1 ⟨rfl,b1⟩;have ba:=af w1 (.cells (yhA sz ex fr R D L G gr 2) 50);have f1:=ah w1 (yhL sz ex fr R D L G gr 2) 50;have q1:=(q0.l b1).l ba;have b01:=aa (aa b0 b1) ba;obtain⟨bf,ebf⟩: ∃x,w1.heap.size=x:=⟨_,rfl⟩;have hbf0:w.heap.size<bf:=by rw[←ebf];exact(q0.l b1).lt
 rw[ebf] at f1;clear b0 q0 b1 ba
 go_wp2_with fail
 refine(HB'.out _).mono ?_;rintro z w2 ⟨v2,rfl,own2,b2⟩;obtain⟨hng,hE,hFF,hfr⟩:=HM.out;have hbl:=kS ts (8*sz);obtain⟨g,cap,hv2,hcap,hcapm,hcl⟩:=x9 own2 (by omega);rw[hbl] at hv2 hcap;subst hv2;have hcl': ∀i,i<8*sz→w2.cell? ⟨g,i,none⟩=some (.bool (decide (fU ts i=1))):=fun i hi=>hcl i _ (wW ts _ i hi)
 have c0:=hcl' 0 (by omega);rw[←hng] at c0;have bb:=af w2 (.cells #[.bool ng] 4);have F2:zQ w w2.heap.size bf ng (yhL sz ex fr R D L G gr 2) (w2.alloc (.cells #[.bool ng] 4)):=⟨(q1.l b2).l bb,(f1.l b2).l bb,ah w2 _ _,aa (aa b01 b2) bb⟩;have HCL:Hid (∀i,i<8*sz→(w2.alloc (.cells #[.bool ng] 4)).cell? ⟨g,i,none⟩=some (.bool (decide (fU ts i=1)))):=fun i hi=>cell_later bb (hcl' i hi)
 have hszI:(8*sz:Nat)=(8*sz:Nat):=rfl;have y1:=F2.f.c 1 rfl;clear hcl hcl' own2 b2 q1 f1 b01 bb hng hE hFF hbl hszI;obtain⟨nb,hnb⟩: ∃x,8*sz=x:=⟨_,rfl⟩;rw[hnb] at hcap HCL⊢;have hnb8:8≤nb:=by omega
 have hnbx:1+ex+fr=nb:=by omega
 unfold maxLen at hcapm
 go_wp2
 go_loop [10,11,12] (fun ev ov iv=> ∃(j i x:Nat) (on:Bool),Hid (i=j+1∧x=eH ts 1 j∧on=decide (x+1=2^j))∧i≤ex+1∧x<32768∧ev=yi x∧ov= .bool on∧iv=yi i) (fun _ _ iv=>((ex:Int)+1-intOf iv).toNat)
 case atStart=>exact⟨0,1,0,true,⟨rfl,rfl,rfl⟩,by omega,by omega,rfl,rfl,rfl⟩
 case round=>
  obtain⟨j,i,x,on,HX,hi,hxl,rfl,rfl,rfl⟩:=hrel
  by_cases hlt:i≤ex
  ·obtain⟨hij,hx,hon⟩:=HX.out
   have ci:=HCL.out i (by omega);obtain⟨b,eb⟩: ∃b,decide (fU ts i=1)=b:=⟨_,rfl⟩;rw[eb] at ci;have hbt:=xW ts i;have hsu:eH ts 1 (j+1)=2*x+(if b then 1 else 0):=by
    rw[eH,←hx,show 1+j=i from by omega,←eb]
    by_cases h:fU ts i=1
    ·rw[h];rfl
    ·rw[show fU ts i=0 from by omega];rfl
   have hst:=za (b:=b) hon;have hl1:=gh ts 1 (j+1);have hl2:(2:Nat)^ (j+1)≤2^15:=Nat.pow_le_pow_right (by omega) (by omega);have HS:Hid (_∧_∧_∧_):=⟨hij,hsu,hst,hl1⟩;have hib:i<nb:=by omega
   have hiI:(i:Int)≤(ex:Int):=by omega
   clear hij hx hon eb hbt hsu hst hl1 HX
   cases b<;>cases on
   all_goals go_wp2
   all_goals (obtain⟨hij,hsu,hst,hl1⟩:=HS.out;simp only[Bool.false_eq_true,if_false,if_true] at hsu hst;refine⟨⟨j+1,i+1,eH ts 1 (j+1),_,⟨by omega,rfl,by rw[hsu];exact hst⟩,by omega,by omega,by rw[hsu];first|rfl| (congr 1;done)| (congr 1;omega),rfl,by first|rfl| (congr 1;done)| (congr 1;omega)⟩,by simp only[intOf];omega⟩)
  ·obtain⟨hij,hx,hon⟩:=HX.out
   have hjx:j=ex:=by omega
   obtain⟨hng,hE,hFF,hfr⟩:=HM.out;have hxE:x=E:=by rw[hx,hE,hjx]
   subst hxE;have HON:Hid (on=decide (x+1=2^ex)):=by rw[←hjx];exact hon
   have hdI: ¬((i:Int)≤(ex:Int)):=by omega
   have hv:=fun w1 (h: ∀k,k<fr→w1.cell? ⟨g,1+ex+k,none⟩=some (.bool (decide (fU ts (1+ex+k)=1))))=>pV g (1+ex) fr (cap-(1+ex)) (fun k=>decide (fU ts (1+ex+k)=1)) w1 hfr64 h
   rw[uz,←hFF] at hv;have hvv:=hv _ (fun k hk=>HCL.out (1+ex+k) (by omega))
   have HV:Hid (yC 64 #[.slice (some ⟨g,1+ex,none⟩) fr (cap-(1+ex))] (w2.alloc (.cells #[.bool ng] 4)) (cG (w2.alloc (.cells #[.bool ng] 4)) FF)):=hvv;have HP:Hid (∀w1,yC 65 #[yi lg] w1 (cG w1 (2^lg))):=fun w1=>pf lg (lg/16) (lg % 16) w1 (by omega) (Nat.mod_lt _ (by omega)) (by omega)
   clear hv hvv hij hx hon hjx hng hE hFF hfr HX HCL hdI;have hex1:IntKind.i64.wrap (1+(ex:Int))=((1+ex:Nat):Int):=by rw[show(1:Int)+(ex:Int)=((1+ex:Nat):Int) from by omega];exact IntWalk.i64_in _ ⟨by omega,by omega⟩
   have hei:(ex:Int)< (i:Int):=by omega
   have hsub:nb-(1+ex)=fr:=by omega
   have hce: ¬(1+ex=cap):=by omega
   have hce2: ¬(cap=1+ex):=by omega
   have hce3:1+ex<cap:=by omega
   go_wp2_with fail
   refine Calls.mono HV.out ?_;rintro z w4 ⟨v4,rfl,r4,b4⟩;obtain⟨ao,ca,hv4⟩:=r4.shape;subst hv4;have F4:=F2.l b4;clear F2 HV b4 y1 c0;obtain⟨y0,y1,y2,y3,y4,y5,y6,y7,y8⟩:=F4.f.cs9
   go_wp2_with fail
   refine(HP.out _).mono ?_;rintro z w5 ⟨v5,rfl,r5,b5⟩;obtain⟨lo,lc,hv5⟩:=r5.shape;subst hv5;have F5:=F4.l b5;have r45:=r4.l b5;clear y0 y1 y2 y3 y4 y5 y6 y7 y8 F4 r4 b5 HP;obtain⟨bn,ebn⟩: ∃x,w2.heap.size=x:=⟨_,rfl⟩;rw[ebn] at F5⊢;have hbn0:w.heap.size≠bn:=fun h=>by
    have h1:=F5.q;rw[h] at h1;exact F5.n.ne h1 (.inl (by simp)) rfl
   clear ebn ebf;have HNum:Hid (∀(m:Nat) (p:Int) (v:Value) w1,Rd w1 .i64 v (Dg.dg 65536 m)→m<340282366920938463463374607431768211456→zQ w bn bf ng (yhL sz ex fr R D L G gr 2) w1→ -100000≤p→p≤100000→yC 66 #[v,yi p,.pointer (some ⟨bn,0,none⟩),.pointer (some ⟨bf,0,none⟩)] w1 (Hf w1 (if m=0 then 1 else 2) ng (bare ⟨ng,m,wd*p⟩))):=fun m p v w1 h1 h2 h3 h4 h5=>sL sz ex fr _ _ _ _ _ wd gr ng bn bf m p v w1 h1 h2 (h3.n.c 0 rfl) h3.f hw1 hw4 h4 h5 HWI'.out
   have hLw:IntKind.i64.wrap (L+(x:Int))=L+(x:Int):=IntWalk.i64_in _ ⟨by omega,by omega⟩;have n5:=F5.n.c 0 rfl;obtain⟨y0,y1,y2,y3,y4,y5,y6,y7,y8⟩:=F5.f.cs9;have hnum:=fun w1 h1 h2=>HNum.out FF (L+(x:Int)) (yS ao FF ca) w1 h1 (by omega) h2 (by omega) (by omega)
   rw[HC0.out,HT6.out] at hnum;have HN6:Hid _:=hnum;have F5d:=F5.l (Below.refl _ _).drew;have r5d:=r45.l (Below.refl _ _).drew;clear hnum HNum HWI'
   go_wp2_with fail
   go_region_held3 (fun wq=>wq.cell? ⟨bn,0,none⟩=some (.bool ng)) (go_keep) (first
    | (go_at_call 66;refine(HN6.out _ r5d F5d).mono ?_;rintro z w6 ⟨s6,rfl,r6,b6,f6⟩;obtain⟨so,sc,hs6⟩:=r6.shape;subst hs6;have F6:=F5d.l b6;replace f6:Hid (Far w.heap.size _):=(fun a n c h=>Nat.le_trans F5d.b.size (f6 a n c h):Far w.heap.size _);have n6:=F6.n.c 0 rfl;obtain⟨q0,q1,q2,q3,q4⟩:=F6.q.cs5;have j0:=F6.q.f 0;have j1:=F6.q.f 1;have j2:=F6.q.f 2;have j3:=F6.q.f 3;have j4:=F6.q.f 4))
   have bu:=((((ag w6 w.heap.size 0 (yi cl)).trans (ag _ w.heap.size 1 (.bool ng))).trans (ag _ w.heap.size 2 (.bool t6.s))).trans (ag _ w.heap.size 3 (yS so t6.n sc))).trans (ag _ w.heap.size 4 (yi t6.e));have cR:au (((((w6.setCell ⟨w.heap.size,0,none⟩ (yi cl)).setCell ⟨w.heap.size,1,none⟩ (.bool ng)).setCell ⟨w.heap.size,2,none⟩ (.bool t6.s)).setCell ⟨w.heap.size,3,none⟩ (yS so t6.n sc)).setCell ⟨w.heap.size,4,none⟩ (yi t6.e)) w.heap.size 32 (yoL cl ng t6.s (yS so t6.n sc) t6.e):=(((((F6.q.set 0 (yi cl)).set 1 (.bool ng)).set 2 (.bool t6.s)).set 3 (yS so t6.n sc)).set 4 (yi t6.e));have bR:=bu.below F6.b (Nat.le_refl _);have ov:=cq r6 (Dg.norm_dg _ _ (by omega)) F6.q (fun x hx n hn=>by simp at hx;rcases hx with rfl|rfl|rfl|rfl|rfl<;>simp;all_goals omega)
   have rR:=bu.rd r6 ov;have hl:=run_loadVar_mid (P:=Tryz.prog) _ w.heap.size 0 32 (yoL cl ng t6.s (yS so t6.n sc) t6.e) _ cR.range underlying32 rfl (by kernel_rfl);have HH:Hid (_∧_∧_):=⟨hl,rR,bR⟩;clear hl rR bR cR bu
   go_wp2
   obtain⟨hl,rR,bR⟩:=HH.out;exact bodyPost_ret (aj results33 rfl rfl hl) rfl ⟨_,rfl,rR,bR,f6.out⟩
end Go.Proofs.YtbdokgamhinajaaGreatDoor

/-
  Texts laid together: Df1, Ef2, Ce9, Eb1.
-/
import Derived.Test.YtpainhklfoaniaaGreatDoorSc39
set_option maxRecDepth 100000
set_option maxHeartbeats 1600000
namespace Go.Proofs.YtpainhklfoaniaaGreatDoor
open _root_.Go.Proofs.Tryz
open Go.RowKit
theorem sN (v:Value)(t:ak)(w:World)(hv:Rv w v t)(hL:(Dg.dg 65536 t.n).length≤100000)(h1: -1000000≤t.e)(h2:t.e≤1000000):
  yC 28 #[v] w (cG w (shN t.n t.e)):=by
 obtain⟨s0,rfl,hr⟩:=hv;have HU:Hid (¬t.e<0→ ∀w1,yB w w1→yC 62 #[s0,yi t.e] w1 (cG w1 (shN t.n t.e))):=fun h w1 b=>by
  unfold shN;rw[if_neg h];obtain⟨m,hm⟩: ∃m:Nat,t.e=(m:Int):=⟨t.e.toNat,by omega⟩;rw[hm,Int.toNat_natCast];have:=kD s0 _ m w1 (hr.l b) (Dg.small_dg _ _ (by omega)) (by omega) (by omega)
  rwa [Dg.vl_dg _ _ (by omega)] at this
 have HD:Hid (t.e<0→ ∀w1,yB w w1→yC 34 #[s0,yi (-t.e)] w1 (cG w1 (shN t.n t.e))):=fun h w1 b=>by
  unfold shN;rw[if_pos h];obtain⟨m,hm⟩: ∃m:Nat,-t.e=(m:Int):=⟨(-t.e).toNat,by omega⟩;rw[hm,Int.toNat_natCast];have:=Ft s0 _ m (m/16) (m % 16) (2^ (m % 16)) (2^ (16-m % 16)) w1 (hr.l b) (Dg.small_dg _ _ (by omega)) (by omega) (by omega) (by omega) (by omega) rfl rfl
  rwa [Dg.vl_dg _ _ (by omega)] at this
 obtain⟨ao,ca,rfl⟩:=hr.shape;obtain⟨ts,n,e⟩:=t;simp only at HU HD h1 h2⊢;obtain⟨R,hR⟩: ∃R,shN n e=R:=⟨_,rfl⟩;rw[hR] at HU HD⊢;obtain⟨m,hm⟩: ∃m,(Dg.dg 65536 n).length=m:=⟨_,rfl⟩;rw[hm] at HU HD⊢;have bA:=af w (.cells (ydA ts (.slice ao m ca) e) 35);clear hr hL hR hm
 by_cases h:e<0
 ·have h3: ¬0≤e:=by omega
  go_enter func28,ntmps28
  go_wp2_with fail
  refine(HD.out h _ bA).mono ?_;rintro z w1 ⟨v1,rfl,r1,b1⟩;have b01:=aa bA b1
  go_wp2
  go_ret
  exact⟨_,rfl,r1,b01⟩
 ·have h3:0≤e:=by omega
  go_enter func28,ntmps28
  go_wp2_with fail
  refine(HU.out h _ bA).mono ?_;rintro z w1 ⟨v1,rfl,r1,b1⟩;have b01:=aa bA b1
  go_wp2
  go_ret
  exact⟨_,rfl,r1,b01⟩
theorem sU (k:Nat)(hk:1≤k∧k≤8)(w:World):yC 10 #[yi k] w (yR w (.tuple #[yhV (szN k) (exN k) (frN k:Int) (rdN k) (dgN k) (lsI k) (gsI k) (decide (k≤3)) (fmN k:Int),.bool true])):=by
 have h:=qU k hk w
 rcases bO hk with rfl|rfl|rfl|rfl|rfl|rfl|rfl|rfl
 all_goals exact h
theorem zr (R:Int):wdI R=(ai R:Int):=by
 unfold wdI ai
 split<;>rfl
theorem vJ (m:Nat)(hm:m≤200)(w:World):yC 26 #[yi m] w (cG w (2^m)):=
 pf m (m/16) (m % 16) w (by omega) (Nat.mod_lt _ (by omega)) (by omega)
theorem eR {k:Nat}(hk:1≤k∧k≤8):1≤exN k∧1≤frN k∧1≤dgN k∧dgN k≤64∧ -16445≤lsI k∧lsI k≤0∧lsI k≤gsI k∧gsI k≤16320∧ai (rdN k)*dgN k≤64∧ai (rdN k)≤4∧1≤ai (rdN k)∧bk (rdN k) (dgN k) (lsI k) (gsI k)=0:=by
 rcases bO hk with rfl|rfl|rfl|rfl|rfl|rfl|rfl|rfl<;>exact⟨by decide,by decide,by decide,by decide,by decide,by decide,by decide,by decide,by decide,by decide,by decide,by decide⟩
def rfK (k:Nat)(n:Nat)(e:Int):Int:=max (lsI k) (aT (rdN k) (dgN k) (e+(bitLen n:Int)-1))
theorem vK (v:Value)(a:Nat)(w:World)(h:Rd w .i64 v (Dg.dg 65536 a))(hl:(Dg.dg 65536 a).length≤2000000):yC 58 #[v] w (yR w (yi (bitLen a:Int))):=by
 have:=kF _ _ w h (Dg.small_dg _ _ (by omega)) (Dg.norm_dg _ _ (by omega)) (by omega);rw[Dg.vl_dg _ _ (by omega)] at this;refine this.mono ?_;rintro z w' ⟨rfl,rfl⟩;exact⟨rfl,Below.refl _ _⟩
theorem IZ {a b:Nat}(h:a≤b):(Dg.dg 65536 a).length≤(Dg.dg 65536 b).length:=by
 refine Dg.dg_len_le 65536 a _ (by omega) (Nat.lt_of_le_of_lt h ?_);have:=Dg.vl_lt 65536 (Dg.dg 65536 b) (Dg.small_dg 65536 b (by omega))
 rwa [Dg.vl_dg 65536 b (by omega)] at this
theorem Sx {d j:Nat}(h:bitLen d=j+1):2^j≤d:=by
 rcases Nat.lt_or_ge d (2^j) with c|c
 ·have:=bF d j c
  omega
 ·exact c
theorem mV (k:Nat)(hk:1≤k∧k≤8)(c:Int)(g ts:Bool)(so:Option Addr)(tn sc:Nat)(te:Int)(E F:Nat)(ng:Bool)(K:Int)(d:Nat)(w:World)(hE:E<65536)(hF:F<340282366920938463463374607431768211456)(hd:d<340282366920938463463374607431768211456)
  (HN:c=2→Rd w .i64 (yS so tn sc) (Dg.dg 65536 tn)∧(Dg.dg 65536 tn).length≤20000∧ -79000≤te∧te≤200000∧K=rfK k tn te∧d=shN tn (te-(ai (rdN k):Int)*K)∧K-lsI k<65536)
  (HC:(c=1∧E=0∧F=0∧ng=g)∨(c=5∧E=0∧F=0∧ng=true)∨(c=3∧(k:Int)=3∧E+1=2^exN k∧F=2^63∧ng=g)∨(c=3∧(k:Int)≠3∧E+1=2^exN k∧F=0∧ng=g)∨(c=4∧(k:Int)=3∧E+1=2^exN k∧F=2^63+2^62∧ng=g)∨(c=4∧(k:Int)≠3∧E+1=2^exN k∧F=2^ (frN k-1)∧ng=g)∨(c=2∧ng=g∧(((fmN k:Int)=2∧E=(K-lsI k).toNat∧F=d)∨((fmN k:Int)≠2∧(bitLen d:Int)≠(dgN k:Int)∧E=(K-lsI k).toNat∧F=d)∨((fmN k:Int)≠2∧(bitLen d:Int)=(dgN k:Int)∧(k:Int)=3∧E=(K-lsI k).toNat+1∧F=d)∨((fmN k:Int)≠2∧(bitLen d:Int)=(dgN k:Int)∧(k:Int)≠3∧E=(K-lsI k).toNat+1∧F=d-2^ (dgN k-1))))):
  yC 52 #[yi k,yoV c g ts (yS so tn sc) te] w (yR w (.string (cF (kU k ng E F)))):=by
 obtain⟨s1,s2,s3,s4,-,s7⟩:=fZ hk;obtain⟨f1,f2,f3,f4,f5,f6,f7,f8,f9,f10,f11,-⟩:=eR hk;have hdl:=Dg.dg_len_le 65536 d 8 (by omega) hd;have hw0: ¬((ai (rdN k):Nat):Int)=0:=by omega
 refine Rx k (szN k) (exN k) (frN k) (8*szN k) (rdN k) (dgN k) (lsI k) (gsI k) (fmN k:Int) (ai (rdN k):Int) (decide (k≤3)) c g ts so tn sc te E F ng (cF (kU k ng E F)) (2^63) (2^62) (2^63+2^62) (2^ (frN k-1)) (2^ (dgN k-1)) (bitLen tn:Int) K (aT (rdN k) (dgN k) (te+(bitLen tn:Int)-1)) ((te+(bitLen tn:Int)-1+80000).tdiv (ai (rdN k):Int)) ((80000:Int).tdiv (ai (rdN k):Int)) (bitLen d:Int) d (K-lsI k).toNat w
  s2 f1 s4 f2 s1 hE (by omega) (by omega) (by simpa using hw0) hw0 ?_ (fun w1=>sU k hk w1) ?_ (fun w1=>vJ 63 (by omega) w1) (fun w1=>vJ 62 (by omega) w1) ?_ ?_ ?_ ?_ ?_ (fun v w1 h=>vK v d w1 h (by omega)) ?_ (fun w1=>Bj E w1 hE) (fun v w1 h=>Do v E (exN k) w1 h (by omega) (by omega) f1) (fun v w1 h=>Do v F (frN k) w1 h hF (by omega) f2) ?_ HC
 ·intro h2
  obtain⟨hr,hl,e1,e2,hK,-,hKL⟩:=HN h2;have hbl:bitLen tn≤16*20000:=BE hl;have hsk:=Gh (rdN k) (dgN k) te (bitLen tn) (by omega);have q1:=Int.natAbs_tdiv_le_natAbs (te+(bitLen tn:Int)-1+80000) (ai (rdN k):Int);have q2:=Int.natAbs_tdiv_le_natAbs (80000:Int) (ai (rdN k):Int);have hKK:K=max (lsI k) (aT (rdN k) (dgN k) (te+(bitLen tn:Int)-1)):=hK;have hK1:lsI k≤K:=by rw[hKK];exact Int.le_max_left _ _
  have hwK: -100000≤(ai (rdN k):Int)*K∧(ai (rdN k):Int)*K≤500000:=by
   rcases(show ai (rdN k)=1∨ai (rdN k)=4 from by unfold ai;split<;>omega) with h|h<;>rw[h]<;>omega
  refine⟨IntWalk.i64_in _ ⟨by omega,by omega⟩,IntWalk.i64_in _ ⟨by omega,by omega⟩,IntWalk.i64_in _ ⟨by omega,by omega⟩,rfl,rfl,IntWalk.i64_in _ ⟨by omega,by omega⟩,IntWalk.i64_in _ ⟨by omega,by omega⟩,IntWalk.i64_in _ ⟨by omega,by omega⟩,IntWalk.i64_in _ ⟨by omega,by omega⟩, ?_,hKK.symm,IntWalk.i64_in _ ⟨by omega,by omega⟩,IntWalk.i64_in _ ⟨by omega,by omega⟩, ?_,by omega⟩
  ·rw[hsk]
   exact IntWalk.i64_in _ ⟨by omega,by omega⟩
  ·rw[Int.toNat_of_nonneg (by omega)]
   exact IntWalk.i64_in _ ⟨by omega,by omega⟩
 ·intro w1
  have:=eG (rdN k) (dgN k) (lsI k) (gsI k) (decide (k≤3)) w1
  rwa [zr] at this
 ·intro v u w1 h1 h2
  have:=ew v u _ _ w1 h1 h2 (Dg.small_dg _ _ (by omega)) (Dg.small_dg _ _ (by omega)) (Dg.norm_dg _ _ (by omega)) (Dg.norm_dg _ _ (by omega)) (Nat.le_trans (Dg.dg_len_le 65536 (2^63) 8 (by omega) (by decide)) (by omega)) (Nat.le_trans (Dg.dg_len_le 65536 (2^62) 8 (by omega) (by decide)) (by omega))
  rwa [Dg.vl_dg _ _ (by omega),Dg.vl_dg _ _ (by omega)] at this
 ·intro w1
  rw[show(frN k:Int)-1=((frN k-1:Nat):Int) from by omega]
  exact vJ (frN k-1) (by omega) w1
 ·intro w1
  rw[show(dgN k)-1=((dgN k-1:Nat):Int) from by omega]
  exact vJ (dgN k-1) (by omega) w1
 ·intro h2 w1 b1
  obtain⟨hr,hl,-⟩:=HN h2;exact vK _ tn w1 (hr.l b1) (by omega)
 ·intro h2 w1 b1
  obtain⟨hr,hl,e1,e2,hK,hdd,hKL⟩:=HN h2;have hK1:lsI k≤K:=by rw[hK];exact Int.le_max_left _ _
  have hwK: -100000≤(ai (rdN k):Int)*K∧(ai (rdN k):Int)*K≤500000:=by
   rcases(show ai (rdN k)=1∨ai (rdN k)=4 from by unfold ai;split<;>omega) with h|h<;>rw[h]<;>omega
  have:=sN _ ⟨false,tn,te-(ai (rdN k):Int)*K⟩ w1 ⟨_,rfl,hr.l b1⟩ (by show(Dg.dg 65536 tn).length≤100000;omega) (by show-1000000≤te-(ai (rdN k):Int)*K;omega) (by show te-(ai (rdN k):Int)*K≤1000000;omega)
  rw[hdd];exact this
 ·intro hlen v u w1 h1 h2
  have hle:2^ (dgN k-1)≤d:=Sx (by omega);have:=kI v u _ _ w1 h1 h2 (Dg.small_dg _ _ (by omega)) (Dg.small_dg _ _ (by omega)) (by omega) (IZ hle) (by rw[Dg.vl_dg _ _ (by omega),Dg.vl_dg _ _ (by omega)];exact hle)
  rwa [Dg.vl_dg _ _ (by omega),Dg.vl_dg _ _ (by omega)] at this
 ·intro gg cap w1 hcell
  have:=G8 k hk gg 0 cap (Eb (exN k) (frN k) ng E F) w1 (fun i hi=>by
   rw[Nat.zero_add,hcell i hi,acq _ _ _ _ _ _ (by omega)])
  rwa [←xP hk] at this
theorem Bt (k m:Nat)(hk:1≤k∧k≤8)(hm:m=1∨m=3∨m=4∨m=5)(hs:iR k m=true)(g ts:Bool)(so:Option Addr)(tn sc:Nat)(te:Int)(w:World):
  yC 52 #[yi k,yoV m g ts (yS so tn sc) te] w (yR w (.string (cF (kU k (pI k m||g) (pg k m) (lS k m))))):=by
 refine mV k hk m g ts so tn sc te (pg k m) (lS k m) (pI k m||g) 0 0 w (Fw m hk) (Nat.lt_trans (Fx m hk) (by decide)) (by decide) (fun h=>by omega) ?_
 rcases hm with rfl|rfl|rfl|rfl
 ·exact .inl ⟨rfl,if_neg (fun h=>by omega),by unfold lS;simp,rfl⟩
 ·refine .inr (.inr ?_)
  have h3:k≤3:=by simpa[iR] using hs
  rcases(show k=1∨k=2∨k=3 from by omega) with rfl|rfl|rfl
  ·exact .inr (.inl ⟨rfl,by decide,by decide,by decide,rfl⟩)
  ·exact .inr (.inl ⟨rfl,by decide,by decide,by decide,rfl⟩)
  ·exact .inl ⟨rfl,by decide,by decide,by decide,rfl⟩
 ·refine .inr (.inr (.inr (.inr ?_)))
  have h3:k≤3:=by simpa[iR] using hs
  rcases(show k=1∨k=2∨k=3 from by omega) with rfl|rfl|rfl
  ·exact .inr (.inl ⟨rfl,by decide,by decide,by decide,rfl⟩)
  ·exact .inr (.inl ⟨rfl,by decide,by decide,by decide,rfl⟩)
  ·exact .inl ⟨rfl,by decide,by decide,by decide,rfl⟩
 ·have h6:6≤k:=by simpa[iR] using hs
  refine .inr (.inl ⟨rfl,if_neg (fun h=>by omega), ?_, ?_⟩)
  ·unfold lS
   rw[if_neg (by omega)]
  ·simp[pI,h6]
theorem Ni {d j:Nat}(h:d<2^ (j+1)):d&&& 2^j≠0↔bitLen d=j+1:=by
 have hb:=bF d (j+1) h;rw[SK];have hp:0<2^j:=Nat.pow_pos (by omega)
 by_cases hc:2^j≤d
 ·have h1:bitLen d=j+1:=by
   have:=(pP d j).1;have h2: ¬bitLen d<j+1:=fun c=>this c hc
   omega
  have ht:d.testBit j=true:=by
   rw[Nat.testBit_eq_decide_div_mod_eq];have:d/2^j=1:=by
    rw[Nat.pow_succ] at h;have h3:1≤d/2^j:=(Nat.le_div_iff_mul_le hp).2 (by omega);have h4:d/2^j<2:=(Nat.div_lt_iff_lt_mul hp).2 (by omega);omega
   rw[this];rfl
  rw[if_pos ht];exact⟨fun _=>h1,fun _=>by omega⟩
 ·have h1:bitLen d<j+1:=(pP d j).2 hc
  have ht:d.testBit j=false:=by
   rw[Nat.testBit_eq_decide_div_mod_eq,Nat.div_eq_of_lt (by omega)];rfl
  rw[if_neg (by rw[ht];simp)];exact⟨fun c=>absurd rfl c,fun c=>by omega⟩
theorem Bu (k:Nat)(hk:1≤k∧k≤8)(g s ts:Bool)(so:Option Addr)(tn sc:Nat)(te:Int)(w:World)(hr:Rd w .i64 (yS so tn sc) (Dg.dg 65536 tn))(hl:(Dg.dg 65536 tn).length≤20000)(e1: -79000≤te)(e2:te≤200000)(h0:tn≠0)
  (hh:dA (rdN k) (dgN k) (lsI k) (gsI k) (decide (k≤3)) tn te=true):
  yC 52 #[yi k,yoV 2 g ts (yS so tn sc) te] w (yR w (.string (cF (kU k g (heE (rdN k) (lsI k) (gW k) (plT k s tn te)) (plT k s tn te).d)))):=by
 obtain⟨f1,f2,f3,f4,f5,f6,f7,f8,f9,f10,f11,hgc⟩:=eR hk;obtain⟨-,hpd,hpp,hne⟩:=oj (s:=s) (way:=3) (by omega) f7 h0 hh;have hK:cP (rdN k) (dgN k) (lsI k) (decide (k≤3)) tn te=rfK k tn te:=RW h0 hh;obtain⟨ho,hu,-⟩:=mC (s:=s) (way:=3) (by omega) f7 h0 hh;have hsp:=(nW (by omega) f7 h0 (by omega) ho hu).resolve_left (fun c=>hne (by rw[←hpd];exact c.1))
 have hp:(plT k s tn te).p=rfK k tn te:=by rw[←hK];exact hpp
 have hdd:(plT k s tn te).d=shN tn (te-(ai (rdN k):Int)*rfK k tn te):=by rw[←hK];exact hpd
 obtain⟨-,hp1,hp2,hdlt,-⟩:=hsp;change lsI k≤(plT k s tn te).p at hp1;change(plT k s tn te).p≤gsI k at hp2;change(plT k s tn te).d<_ at hdlt;rw[hp] at hp1 hp2;have hd64:(plT k s tn te).d<2^64:=Nat.lt_of_lt_of_le hdlt (Nat.pow_le_pow_right (by omega) (by rw[Int.toNat_natCast];exact f9));unfold heE;rw[hp];generalize plT k s tn te=pt at*;generalize hKK:rfK k tn te=K at*;have HN:(2:Int)=2→Rd w .i64 (yS so tn sc) (Dg.dg 65536 tn)∧(Dg.dg 65536 tn).length≤20000∧ -79000≤te∧te≤200000∧K=rfK k tn te∧pt.d=shN tn (te-(ai (rdN k):Int)*K)∧K-lsI k<65536:=fun _=>⟨hr,hl,e1,e2,hKK.symm,hdd,by omega⟩
 have hdb:pt.d<340282366920938463463374607431768211456:=Nat.lt_trans hd64 (by decide)
 by_cases hR:(rdN k:Int)=2
 ·have hfm:(fmN k:Int)≠2:=by
   rcases bO hk with rfl|rfl|rfl|rfl|rfl|rfl|rfl|rfl<;>revert hR<;>decide
  have hw1:ai (rdN k)=1:=by rw[hR];rfl
  rw[hw1,Nat.one_mul,Int.toNat_natCast] at hdlt;have hdj:dgN k-1+1=dgN k:=by omega
  have hal:=Ni (d:=pt.d) (j:=dgN k-1) (by rw[hdj];exact hdlt);rw[hdj] at hal
  by_cases hb:bitLen pt.d=dgN k
  ·rw[if_pos ⟨hR,hal.2 hb⟩]
   by_cases h3:k=3
   ·exact mV k hk 2 g ts so tn sc te _ _ g K pt.d w (by omega) hdb hdb HN (.inr (.inr (.inr (.inr (.inr (.inr ⟨rfl,rfl,.inr (.inr (.inl ⟨hfm,by omega,by omega,rfl,rfl⟩))⟩))))))
   ·have hfr:dgN k-1=frN k:=by
     rcases bO hk with rfl|rfl|rfl|rfl|rfl|rfl|rfl|rfl<;>revert hR h3<;>decide
    have hle:2^frN k≤pt.d:=by rw[←hfr];exact Sx (by omega)
    rw[←Wg hk g _ pt.d hle];exact mV k hk 2 g ts so tn sc te _ _ g K pt.d w (by omega) (Nat.lt_of_le_of_lt (Nat.sub_le _ _) hdb) hdb HN (.inr (.inr (.inr (.inr (.inr (.inr ⟨rfl,rfl,.inr (.inr (.inr ⟨hfm,by omega,by omega,rfl,by rw[hfr]⟩))⟩))))))
  ·rw[if_neg (fun c=>hb (hal.1 c.2)),Nat.add_zero]
   exact mV k hk 2 g ts so tn sc te _ _ g K pt.d w (by omega) hdb hdb HN (.inr (.inr (.inr (.inr (.inr (.inr ⟨rfl,rfl,.inr (.inl ⟨hfm,by omega,rfl,rfl⟩)⟩))))))
 ·have hfm:(fmN k:Int)=2:=by
   rcases bO hk with rfl|rfl|rfl|rfl|rfl|rfl|rfl|rfl<;>revert hR<;>decide
  rw[if_neg (fun c=>hR c.1),Nat.add_zero]
  exact mV k hk 2 g ts so tn sc te _ _ g K pt.d w (by omega) hdb hdb HN (.inr (.inr (.inr (.inr (.inr (.inr ⟨rfl,rfl,.inl ⟨hfm,rfl,rfl⟩⟩))))))
theorem ME {k:Nat}(hk:1≤k∧k≤8)(zs:List Nat)(hl:zs.length=szN k):jT k (jT k zs)=zs:=by
 apply List.ext_getElem (by rw[nM,nM]);intro p hp1 hp2;have e1:(jT k (jT k zs)).getD p 0=(jT k (jT k zs))[p]:=by simp only[List.getD_eq_getElem?_getD,List.getElem?_eq_getElem hp1,Option.getD_some]
 have e2:zs.getD p 0=zs[p]:=by simp only[List.getD_eq_getElem?_getD,List.getElem?_eq_getElem hp2,Option.getD_some]
 have hp:p<szN k:=by omega
 rw[←e1,←e2,Kh k _ p (by rw[nM];exact hl) (by rw[nM];exact hp2),Kh k zs _ hl (by rw[hl];exact Co hk hp),xU hk hp]
theorem Hm (zs:List Nat)(hs:Dg.Small 256 zs):jr (cF zs)=zs:=by
 unfold jr cF;apply List.ext_getElem (by simp);intro p hp1 hp2;have h:=hs p;rw[List.getD_eq_getElem?_getD,List.getElem?_eq_getElem hp2,Option.getD_some] at h;simp;exact h
theorem MF (bf:Nat→Bool): ∀n r,r<n→jY bf n/2^ (n-1-r) % 2=if bf r then 1 else 0
 |0,_,h=>absurd h (Nat.not_lt_zero _)
 |n+1,r,h=>by
  rw[jY]
  by_cases e:r=n
  ·subst e
   rw[show r+1-1-r=0 from by omega,Nat.pow_zero,Nat.div_one]
   split<;>omega
  ·have ih:=MF bf n r (by omega)
   rw[show n+1-1-r=(n-1-r)+1 from by omega,Nat.pow_succ,Nat.mul_comm (2^ (n-1-r)) 2,←Nat.div_div_eq_div_mul]
   rw[show(jY bf n*2+if bf n=true then 1 else 0)/2=jY bf n from by split<;>omega]
   exact ih
theorem XS (bf:Nat→Bool)(n i:Nat)(h:i<8*n):fU (byL bf n) i=if bf i then 1 else 0:=by
 unfold fU;rw[JB bf n _ (by omega)];have:=MF (fun j=>bf (8*(i/8)+j)) 8 (i % 8) (by omega)
 rw[show 8-1-i % 8=7-i % 8 from by omega,show 8*(i/8)+i % 8=i from by omega] at this
 exact this
theorem zk (bf:Nat→Bool)(m f:Nat): ∀n,f+n≤8*m→eH (byL bf m) f n=jY (fun j=>bf (f+j)) n
 |0,_=>rfl
 |n+1,h=>by
  rw[eH,jY,zk bf m f n (by omega),XS bf m (f+n) (by omega)];omega
theorem Fu: ∀(n e:Nat),jY (fun j=>decide (e/2^ (n-1-j) % 2=1)) n=e % 2^n
 |0,e=>by simp[jY,Nat.mod_one]
 |n+1,e=>by
  rw[jY,nz (g:=fun j=>decide (e/2/2^ (n-1-j) % 2=1)) n (fun j hj=>by
   rw[Nat.div_div_eq_div_mul,←Nat.pow_succ',show(n-1-j).succ=n+1-1-j from by omega]),Fu n (e/2),show n+1-1-n=0 from by omega,Nat.pow_zero,Nat.div_one,Nat.pow_succ]
  have h1:e % (2^n*2)=e/2 % 2^n*2+e % 2:=by
   rw[Nat.mul_comm (2^n) 2,Nat.mod_mul];omega
  rw[h1]
  rcases(show e % 2=0∨e % 2=1 by omega) with h|h<;>rw[h]<;>rfl
theorem Uh (bf:Nat→Bool)(n:Nat):Dg.Small 256 (byL bf n):=by
 intro i
 by_cases h:i<n
 ·rw[JB bf n i h]
  exact DZ _ 8
 ·rw[List.getD_eq_getElem?_getD,List.getElem?_eq_none (by rw[xT];omega)]
  simp
theorem Kr {k:Nat}(hk:1≤k∧k≤8)(ng:Bool)(e f:Nat):wG k (cF (kU k ng e f))=byL (Eb (exN k) (frN k) ng e f) (szN k):=by
 unfold wG;rw[xP hk,Hm _ (xi k _ (Uh _ _)),ME hk _ (xT _ _)]
theorem fS (zs:List Nat):(cF zs).size=zs.length:=by
 unfold cF
 show(zs.map (fun n=>UInt8.ofNat n)).toArray.size=_
 simp
theorem mS {k:Nat}(hk:1≤k∧k≤8)(ng:Bool)(e f:Nat):
  aZ k (cF (kU k ng e f))=ng∧aR k (cF (kU k ng e f))=e % 2^exN k∧aU k (cF (kU k ng e f))=f % 2^frN k∧(cF (kU k ng e f)).size=szN k:=by
 obtain⟨h1,h2,h3,h4,-,h7⟩:=fZ hk;unfold aZ aR aU;rw[Kr hk];refine⟨?_, ?_, ?_, ?_⟩
 ·rw[zk _ _ _ _ (by omega)]
  simp only[jY,Eb]
  cases ng<;>simp
 ·rw[zk _ _ _ _ (by omega),←Fu (exN k) e]
  refine nz _ (fun j hj=> ?_)
  unfold Eb;rw[if_neg (by omega),if_pos (show 1+j≤exN k by omega),show exN k-(1+j)=exN k-1-j from by omega]
 ·rw[zk _ _ _ _ (by omega),←Fu (frN k) f]
  refine nz _ (fun j hj=> ?_)
  unfold Eb;rw[if_neg (by omega),if_neg (show¬1+exN k+j≤exN k by omega),show exN k+frN k-(1+exN k+j)=frN k-1-j from by omega]
 ·rw[fS,Mx]
theorem JK {L:Int}{j:Nat}{t:fz}(hlt:t.d<2^ (j+1)):heE 2 L (2^j) t=(t.p-L).toNat+if 2^j≤t.d then 1 else 0:=by
 have h:=Ni hlt;have hb:=pP t.d j;have hle:=bF t.d (j+1) hlt;unfold heE
 by_cases hc:2^j≤t.d
 ·have h1: ¬bitLen t.d<j+1:=fun c=>(hb.1 c) hc
  rw[if_pos ⟨rfl,h.2 (by omega)⟩,if_pos hc]
 ·have h1:=hb.2 hc
  rw[if_neg (fun c=>by have:=h.1 c.2;omega),if_neg hc]
theorem aaP {L:Int}{ld:Nat}{t:fz}:heE 16 L ld t=(t.p-L).toNat:=by
 unfold heE;rw[if_neg (fun c=>by have:=c.1;omega),Nat.add_zero]
theorem JL {f n:Nat}(h:f<2^n):f|||2^n=f+2^n:=by
 have:=Nat.two_pow_add_eq_or_of_lt h 1;rw[Nat.mul_one] at this;rw[Nat.or_comm,←this,Nat.add_comm]
theorem aaQ {f n:Nat}(h1:2^n≤f)(h2:f<2^ (n+1)):f|||2^n=f:=by
 obtain⟨r,rfl⟩: ∃r,f=r+2^n:=⟨f-2^n,by omega⟩;have hr:r<2^n:=by rw[Nat.pow_succ] at h2;omega
 rw[←JL hr,Nat.or_assoc,Nat.or_self]
theorem LT {d n:Nat}(h1:2^n≤d)(h2:d<2^ (n+1)):d % 2^n=d-2^n:=by
 rw[Nat.pow_succ] at h2;rw[Nat.mod_eq_sub_mod h1,Nat.mod_eq_of_lt (by omega)]
theorem CQ {k:Nat}(hk:1≤k∧k≤8)(ng:Bool)(t:fz)(h1:lsI k≤t.p)(h2:t.p≤gsI k)(h0:t.d≠0)(hlt:t.d<2^ (ai (rdN k)*dgN k))(hf:2^ (ai (rdN k)*(dgN k-1))≤t.d∨(k≤3∧t.p=lsI k)):
  heE (rdN k) (lsI k) (gW k) t<2^exN k∧dh k ng (heE (rdN k) (lsI k) (gW k) t) (t.d % 2^frN k)=2∧iI k (heE (rdN k) (lsI k) (gW k) t) (t.d % 2^frN k)=t.d∧ii k (heE (rdN k) (lsI k) (gW k) t)=t.p:=by
 have hex:(k=4∨k=5)∨k=3∨(k=1∨k=2)∨(k=6∨k=7∨k=8):=by omega
 rcases hex with hx|hx|hx|hx
 ·have hR:(rdN k:Int)=16:=by rcases hx with rfl|rfl<;>rfl
  have hfr:ai (rdN k)*dgN k=frN k:=by rcases hx with rfl|rfl<;>decide
  have hrd:rdN k=16:=by rcases hx with rfl|rfl<;>rfl
  have hgl:gsI k-lsI k<128∧2^exN k=128:=by rcases hx with rfl|rfl<;>decide
  rw[hfr] at hlt;rw[hR,aaP,Nat.mod_eq_of_lt hlt];refine⟨by omega, ?_, ?_, ?_⟩
  ·unfold dh
   rw[if_neg (by omega),if_pos (by omega),if_neg h0]
  ·unfold iI
   rw[if_pos hrd]
  ·unfold ii
   rw[if_pos hrd];omega
 ·subst hx
  have hw:ai ((rdN 3:Nat):Int)=1:=rfl;rw[hw,Nat.one_mul] at hlt hf;have hlt':t.d<2^ (63+1):=hlt;have hf':2^63≤t.d∨(3≤3∧t.p=lsI 3):=hf;have hh:heE ((rdN 3:Nat):Int) (lsI 3) (gW 3) t=(t.p-lsI 3).toNat+if 2^63≤t.d then 1 else 0:=JK (L:=lsI 3) (j:=63) hlt'
  have hm:t.d % 2^frN 3=t.d:=Nat.mod_eq_of_lt hlt';have hl3:lsI 3= -16445:=rfl;have hg3:gsI 3=16320:=rfl;have he3:2^exN 3=32768:=rfl;have ho3:kp 3=32767:=rfl;rw[hh,hm]
  by_cases hc:2^63≤t.d
  ·rw[if_pos hc]
   refine⟨by omega, ?_, ?_, ?_⟩
   ·unfold dh
    rw[if_pos (by omega),if_neg (by omega),if_neg (by omega),if_neg (fun c=>by have:=c.2;omega)]
   ·unfold iI
    rw[if_neg (by decide),if_neg (by omega)];exact aaQ hc hlt'
   ·unfold ii
    rw[if_neg (by decide),if_neg (by omega)];omega
  ·have hp:=(hf'.resolve_left hc).2
   rw[if_neg hc,hp];have hz:(lsI 3-lsI 3).toNat+0=0:=by omega
   rw[hz];refine⟨by omega, ?_, ?_, ?_⟩
   ·unfold dh
    rw[if_pos (by omega),if_pos rfl,if_neg h0]
   ·unfold iI
    rw[if_neg (by decide),if_pos rfl]
   ·unfold ii
    rw[if_neg (by decide),if_pos rfl]
 ·have hR:(rdN k:Int)=2:=by rcases hx with rfl|rfl<;>rfl
  have hrd: ¬rdN k=16:=by rcases hx with rfl|rfl<;>decide
  have hw:ai (rdN k)=1:=by rw[hR];rfl
  have hfr:dgN k=frN k+1:=by rcases hx with rfl|rfl<;>decide
  have hld:gW k=2^frN k:=by rcases hx with rfl|rfl<;>rfl
  have hgl:gsI k-lsI k+1< (kp k:Int)∧2^exN k=kp k+1:=by rcases hx with rfl|rfl<;>decide
  rw[hw,Nat.one_mul,hfr] at hlt hf;rw[Nat.add_sub_cancel] at hf;rw[hR,hld,JK hlt]
  by_cases hc:2^frN k≤t.d
  ·rw[if_pos hc,LT hc hlt]
   have hr:t.d-2^frN k<2^frN k:=by rw[Nat.pow_succ] at hlt;omega
   refine⟨by omega, ?_, ?_, ?_⟩
   ·unfold dh
    rw[if_pos (by omega),if_neg (by omega),if_neg (by omega),if_neg (fun c=>by have:=c.1;omega)]
   ·unfold iI
    rw[if_neg hrd,if_neg (by omega),hld,JL hr];omega
   ·unfold ii
    rw[if_neg hrd,if_neg (by omega)];omega
  ·have hp:=(hf.resolve_left hc).2
   rw[if_neg hc,hp,Nat.mod_eq_of_lt (by omega)];have hz:(lsI k-lsI k).toNat+0=0:=by omega
   rw[hz];refine⟨by omega, ?_, ?_, ?_⟩
   ·unfold dh
    rw[if_pos (by omega),if_pos rfl,if_neg h0]
   ·unfold iI
    rw[if_neg hrd,if_pos rfl]
   ·unfold ii
    rw[if_neg hrd,if_pos rfl]
 ·have hR:(rdN k:Int)=2:=by rcases hx with rfl|rfl|rfl<;>rfl
  have hrd: ¬rdN k=16:=by rcases hx with rfl|rfl|rfl<;>decide
  have hw:ai (rdN k)=1:=by rw[hR];rfl
  have hfr:dgN k=frN k+1:=by rcases hx with rfl|rfl|rfl<;>decide
  have hld:gW k=2^frN k:=by rcases hx with rfl|rfl|rfl<;>rfl
  have hgl:gsI k-lsI k+1< (2^exN k:Nat):=by rcases hx with rfl|rfl|rfl<;>decide
  rw[hw,Nat.one_mul,hfr] at hlt hf;rw[Nat.add_sub_cancel] at hf;have hc:2^frN k≤t.d:=hf.resolve_right (fun c=>by have:=c.1;omega)
  rw[hR,hld,JK hlt,if_pos hc,LT hc hlt];have hr:t.d-2^frN k<2^frN k:=by rw[Nat.pow_succ] at hlt;omega
  refine⟨by omega, ?_, ?_, ?_⟩
  ·unfold dh
   rw[if_neg (by omega),if_neg (by omega),if_neg (by omega)]
  ·unfold iI
   rw[if_neg hrd,if_neg (by omega),hld,JL hr];omega
  ·unfold ii
   rw[if_neg hrd,if_neg (by omega)];omega
end Go.Proofs.YtpainhklfoaniaaGreatDoor

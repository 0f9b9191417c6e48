/-
  Texts laid together: Ef2, Eg2, Eb3, Gq6, Gq7, Ra1, Gr11, Pa6, Ra2, Ra3, Ga5, Ra4, Gq9.
-/
import Derived.Test.YtpgijbdgljkeeaaGreatDoorUc07
import Derived.Test.YtpgijbdgljkeeaaGreatDoorUc05
set_option maxRecDepth 100000
set_option maxHeartbeats 3200000
namespace Go.Proofs.YtpgijbdgljkeeaaGreatDoor
open _root_.Go.Proofs.Tryz
open Go.RowKit
theorem sU (k:Nat)(hk:1≤k∧k≤8)(w:World):yC 14 #[yi k] w (yR w (.tuple #[yhV (szN k) (exN k) (frN k:Int) (rdN k) (dgN k) (lsI k) (gsI k) (decide (k≤3)) (fmN k:Int),.bool true])):=by
 have h:=qU k hk w
 rcases bO hk with rfl|rfl|rfl|rfl|rfl|rfl|rfl|rfl
 all_goals exact h
theorem vJ (m:Nat)(hm:m≤200)(w:World):yC 50 #[yi m] w (cG w (2^m)):=
 pf m (m/16) (m % 16) w (by omega) (Nat.mod_lt _ (by omega)) (by omega)
def rfK (k:Nat)(n:Nat)(e:Int):Int:=max (lsI k) (aT (rdN k) (dgN k) (e+(bitLen n:Int)-1))
theorem vK (v:Value)(a:Nat)(w:World)(h:Rd w .i64 v (Dg.dg 65536 a))(hl:(Dg.dg 65536 a).length≤2000000):yC 86 #[v] w (yR w (yi (bitLen a:Int))):=by
 have:=kF _ _ w h (Dg.small_dg _ _ (by omega)) (Dg.norm_dg _ _ (by omega)) (by omega);rw[Dg.vl_dg _ _ (by omega)] at this;refine this.mono ?_;rintro z w' ⟨rfl,rfl⟩;exact⟨rfl,Below.refl _ _⟩
theorem Sx {d j:Nat}(h:bitLen d=j+1):2^j≤d:=by
 rcases Nat.lt_or_ge d (2^j) with c|c
 ·have:=bF d j c
  omega
 ·exact c
theorem mV (k:Nat)(hk:1≤k∧k≤8)(c:Int)(g ts:Bool)(so:Option Addr)(tn sc:Nat)(te:Int)(E F:Nat)(ng:Bool)(K:Int)(d:Nat)(w:World)(hE:E<65536)(hF:F<340282366920938463463374607431768211456)(hd:d<340282366920938463463374607431768211456)
  (HN:c=2→Rd w .i64 (yS so tn sc) (Dg.dg 65536 tn)∧(Dg.dg 65536 tn).length≤20000∧ -79000≤te∧te≤200000∧K=rfK k tn te∧d=shN tn (te-(ai (rdN k):Int)*K)∧K-lsI k<65536)
  (HC:(c=1∧E=0∧F=0∧ng=g)∨(c=5∧E=0∧F=0∧ng=true)∨(c=3∧(k:Int)=3∧E+1=2^exN k∧F=2^63∧ng=g)∨(c=3∧(k:Int)≠3∧E+1=2^exN k∧F=0∧ng=g)∨(c=4∧(k:Int)=3∧E+1=2^exN k∧F=2^63+2^62∧ng=g)∨(c=4∧(k:Int)≠3∧E+1=2^exN k∧F=2^ (frN k-1)∧ng=g)∨(c=2∧ng=g∧(((fmN k:Int)=2∧E=(K-lsI k).toNat∧F=d)∨((fmN k:Int)≠2∧(bitLen d:Int)≠(dgN k:Int)∧E=(K-lsI k).toNat∧F=d)∨((fmN k:Int)≠2∧(bitLen d:Int)=(dgN k:Int)∧(k:Int)=3∧E=(K-lsI k).toNat+1∧F=d)∨((fmN k:Int)≠2∧(bitLen d:Int)=(dgN k:Int)∧(k:Int)≠3∧E=(K-lsI k).toNat+1∧F=d-2^ (dgN k-1))))):
  yC 43 #[yi k,yoV c g ts (yS so tn sc) te] w (yR w (.string (cF (kU k ng E F)))):=by
 obtain⟨s1,s2,s3,s4,-,s7⟩:=fZ hk;obtain⟨f1,f2,f3,f4,f5,f6,f7,f8,f9,f10,f11,-⟩:=eR hk;have hdl:=Dg.dg_len_le 65536 d 8 (by omega) hd;have hw0: ¬((ai (rdN k):Nat):Int)=0:=by omega
 refine Rx k (szN k) (exN k) (frN k) (8*szN k) (rdN k) (dgN k) (lsI k) (gsI k) (fmN k:Int) (ai (rdN k):Int) (decide (k≤3)) c g ts so tn sc te E F ng (cF (kU k ng E F)) (2^63) (2^62) (2^63+2^62) (2^ (frN k-1)) (2^ (dgN k-1)) (bitLen tn:Int) K (aT (rdN k) (dgN k) (te+(bitLen tn:Int)-1)) ((te+(bitLen tn:Int)-1+80000).tdiv (ai (rdN k):Int)) ((80000:Int).tdiv (ai (rdN k):Int)) (bitLen d:Int) d (K-lsI k).toNat w
  s2 f1 s4 f2 s1 hE (by omega) (by omega) (by simpa using hw0) hw0 ?_ (fun w1=>sU k hk w1) ?_ (fun w1=>vJ 63 (by omega) w1) (fun w1=>vJ 62 (by omega) w1) ?_ ?_ ?_ ?_ ?_ (fun v w1 h=>vK v d w1 h (by omega)) ?_ (fun w1=>Bj E w1 hE) (fun v w1 h=>Do v E (exN k) w1 h (by omega) (by omega) f1) (fun v w1 h=>Do v F (frN k) w1 h hF (by omega) f2) ?_ HC
 ·intro h2
  obtain⟨hr,hl,e1,e2,hK,-,hKL⟩:=HN h2;have hbl:bitLen tn≤16*20000:=BE hl;have hsk:=Gh (rdN k) (dgN k) te (bitLen tn) (by omega);have q1:=Int.natAbs_tdiv_le_natAbs (te+(bitLen tn:Int)-1+80000) (ai (rdN k):Int);have q2:=Int.natAbs_tdiv_le_natAbs (80000:Int) (ai (rdN k):Int);have hKK:K=max (lsI k) (aT (rdN k) (dgN k) (te+(bitLen tn:Int)-1)):=hK;have hK1:lsI k≤K:=by rw[hKK];exact Int.le_max_left _ _
  have hwK: -100000≤(ai (rdN k):Int)*K∧(ai (rdN k):Int)*K≤500000:=by
   rcases(show ai (rdN k)=1∨ai (rdN k)=4 from by unfold ai;split<;>omega) with h|h<;>rw[h]<;>omega
  refine⟨IntWalk.i64_in _ ⟨by omega,by omega⟩,IntWalk.i64_in _ ⟨by omega,by omega⟩,IntWalk.i64_in _ ⟨by omega,by omega⟩,rfl,rfl,IntWalk.i64_in _ ⟨by omega,by omega⟩,IntWalk.i64_in _ ⟨by omega,by omega⟩,IntWalk.i64_in _ ⟨by omega,by omega⟩,IntWalk.i64_in _ ⟨by omega,by omega⟩, ?_,hKK.symm,IntWalk.i64_in _ ⟨by omega,by omega⟩,IntWalk.i64_in _ ⟨by omega,by omega⟩, ?_,by omega⟩
  ·rw[hsk]
   exact IntWalk.i64_in _ ⟨by omega,by omega⟩
  ·rw[Int.toNat_of_nonneg (by omega)]
   exact IntWalk.i64_in _ ⟨by omega,by omega⟩
 ·intro w1
  have:=eG (rdN k) (dgN k) (lsI k) (gsI k) (decide (k≤3)) w1
  rwa [zr] at this
 ·intro v u w1 h1 h2
  have:=ew v u _ _ w1 h1 h2 (Dg.small_dg _ _ (by omega)) (Dg.small_dg _ _ (by omega)) (Dg.norm_dg _ _ (by omega)) (Dg.norm_dg _ _ (by omega)) (Nat.le_trans (Dg.dg_len_le 65536 (2^63) 8 (by omega) (by decide)) (by omega)) (Nat.le_trans (Dg.dg_len_le 65536 (2^62) 8 (by omega) (by decide)) (by omega))
  rwa [Dg.vl_dg _ _ (by omega),Dg.vl_dg _ _ (by omega)] at this
 ·intro w1
  rw[show(frN k:Int)-1=((frN k-1:Nat):Int) from by omega]
  exact vJ (frN k-1) (by omega) w1
 ·intro w1
  rw[show(dgN k)-1=((dgN k-1:Nat):Int) from by omega]
  exact vJ (dgN k-1) (by omega) w1
 ·intro h2 w1 b1
  obtain⟨hr,hl,-⟩:=HN h2;exact vK _ tn w1 (hr.l b1) (by omega)
 ·intro h2 w1 b1
  obtain⟨hr,hl,e1,e2,hK,hdd,hKL⟩:=HN h2;have hK1:lsI k≤K:=by rw[hK];exact Int.le_max_left _ _
  have hwK: -100000≤(ai (rdN k):Int)*K∧(ai (rdN k):Int)*K≤500000:=by
   rcases(show ai (rdN k)=1∨ai (rdN k)=4 from by unfold ai;split<;>omega) with h|h<;>rw[h]<;>omega
  have:=sN _ ⟨false,tn,te-(ai (rdN k):Int)*K⟩ w1 ⟨_,rfl,hr.l b1⟩ (by show(Dg.dg 65536 tn).length≤100000;omega) (by show-1000000≤te-(ai (rdN k):Int)*K;omega) (by show te-(ai (rdN k):Int)*K≤1000000;omega)
  rw[hdd];exact this
 ·intro hlen v u w1 h1 h2
  have hle:2^ (dgN k-1)≤d:=Sx (by omega);have:=kI v u _ _ w1 h1 h2 (Dg.small_dg _ _ (by omega)) (Dg.small_dg _ _ (by omega)) (by omega) (IZ hle) (by rw[Dg.vl_dg _ _ (by omega),Dg.vl_dg _ _ (by omega)];exact hle)
  rwa [Dg.vl_dg _ _ (by omega),Dg.vl_dg _ _ (by omega)] at this
 ·intro gg cap w1 hcell
  have:=G8 k hk gg 0 cap (Eb (exN k) (frN k) ng E F) w1 (fun i hi=>by
   rw[Nat.zero_add,hcell i hi,acq _ _ _ _ _ _ (by omega)])
  rwa [←xP hk] at this
theorem Bt (k m:Nat)(hk:1≤k∧k≤8)(hm:m=1∨m=3∨m=4∨m=5)(hs:iR k m=true)(g ts:Bool)(so:Option Addr)(tn sc:Nat)(te:Int)(w:World):
  yC 43 #[yi k,yoV m g ts (yS so tn sc) te] w (yR w (.string (cF (kU k (pI k m||g) (pg k m) (lS k m))))):=by
 refine mV k hk m g ts so tn sc te (pg k m) (lS k m) (pI k m||g) 0 0 w (Fw m hk) (Nat.lt_trans (Fx m hk) (by decide)) (by decide) (fun h=>by omega) ?_
 rcases hm with rfl|rfl|rfl|rfl
 ·exact .inl ⟨rfl,if_neg (fun h=>by omega),by unfold lS;simp,rfl⟩
 ·refine .inr (.inr ?_)
  have h3:k≤3:=by simpa[iR] using hs
  rcases(show k=1∨k=2∨k=3 from by omega) with rfl|rfl|rfl
  ·exact .inr (.inl ⟨rfl,by decide,by decide,by decide,rfl⟩)
  ·exact .inr (.inl ⟨rfl,by decide,by decide,by decide,rfl⟩)
  ·exact .inl ⟨rfl,by decide,by decide,by decide,rfl⟩
 ·refine .inr (.inr (.inr (.inr ?_)))
  have h3:k≤3:=by simpa[iR] using hs
  rcases(show k=1∨k=2∨k=3 from by omega) with rfl|rfl|rfl
  ·exact .inr (.inl ⟨rfl,by decide,by decide,by decide,rfl⟩)
  ·exact .inr (.inl ⟨rfl,by decide,by decide,by decide,rfl⟩)
  ·exact .inl ⟨rfl,by decide,by decide,by decide,rfl⟩
 ·have h6:6≤k:=by simpa[iR] using hs
  refine .inr (.inl ⟨rfl,if_neg (fun h=>by omega), ?_, ?_⟩)
  ·unfold lS
   rw[if_neg (by omega)]
  ·simp[pI,h6]
theorem Ni {d j:Nat}(h:d<2^ (j+1)):d&&& 2^j≠0↔bitLen d=j+1:=by
 have hb:=bF d (j+1) h;rw[SK];have hp:0<2^j:=Nat.pow_pos (by omega)
 by_cases hc:2^j≤d
 ·have h1:bitLen d=j+1:=by
   have:=(pP d j).1;have h2: ¬bitLen d<j+1:=fun c=>this c hc
   omega
  have ht:d.testBit j=true:=by
   rw[Nat.testBit_eq_decide_div_mod_eq];have:d/2^j=1:=by
    rw[Nat.pow_succ] at h;have h3:1≤d/2^j:=(Nat.le_div_iff_mul_le hp).2 (by omega);have h4:d/2^j<2:=(Nat.div_lt_iff_lt_mul hp).2 (by omega);omega
   rw[this];rfl
  rw[if_pos ht];exact⟨fun _=>h1,fun _=>by omega⟩
 ·have h1:bitLen d<j+1:=(pP d j).2 hc
  have ht:d.testBit j=false:=by
   rw[Nat.testBit_eq_decide_div_mod_eq,Nat.div_eq_of_lt (by omega)];rfl
  rw[if_neg (by rw[ht];simp)];exact⟨fun c=>absurd rfl c,fun c=>by omega⟩
theorem Bu (k:Nat)(hk:1≤k∧k≤8)(g s ts:Bool)(so:Option Addr)(tn sc:Nat)(te:Int)(w:World)(hr:Rd w .i64 (yS so tn sc) (Dg.dg 65536 tn))(hl:(Dg.dg 65536 tn).length≤20000)(e1: -79000≤te)(e2:te≤200000)(h0:tn≠0)
  (hh:dA (rdN k) (dgN k) (lsI k) (gsI k) (decide (k≤3)) tn te=true):
  yC 43 #[yi k,yoV 2 g ts (yS so tn sc) te] w (yR w (.string (cF (kU k g (heE (rdN k) (lsI k) (gW k) (plT k s tn te)) (plT k s tn te).d)))):=by
 obtain⟨f1,f2,f3,f4,f5,f6,f7,f8,f9,f10,f11,hgc⟩:=eR hk;obtain⟨-,hpd,hpp,hne⟩:=oj (s:=s) (way:=3) (by omega) f7 h0 hh;have hK:cP (rdN k) (dgN k) (lsI k) (decide (k≤3)) tn te=rfK k tn te:=RW h0 hh;obtain⟨ho,hu,-⟩:=mC (s:=s) (way:=3) (by omega) f7 h0 hh;have hsp:=(nW (by omega) f7 h0 (by omega) ho hu).resolve_left (fun c=>hne (by rw[←hpd];exact c.1))
 have hp:(plT k s tn te).p=rfK k tn te:=by rw[←hK];exact hpp
 have hdd:(plT k s tn te).d=shN tn (te-(ai (rdN k):Int)*rfK k tn te):=by rw[←hK];exact hpd
 obtain⟨-,hp1,hp2,hdlt,-⟩:=hsp;change lsI k≤(plT k s tn te).p at hp1;change(plT k s tn te).p≤gsI k at hp2;change(plT k s tn te).d<_ at hdlt;rw[hp] at hp1 hp2;have hd64:(plT k s tn te).d<2^64:=Nat.lt_of_lt_of_le hdlt (Nat.pow_le_pow_right (by omega) (by rw[Int.toNat_natCast];exact f9));unfold heE;rw[hp];generalize plT k s tn te=pt at*;generalize hKK:rfK k tn te=K at*;have HN:(2:Int)=2→Rd w .i64 (yS so tn sc) (Dg.dg 65536 tn)∧(Dg.dg 65536 tn).length≤20000∧ -79000≤te∧te≤200000∧K=rfK k tn te∧pt.d=shN tn (te-(ai (rdN k):Int)*K)∧K-lsI k<65536:=fun _=>⟨hr,hl,e1,e2,hKK.symm,hdd,by omega⟩
 have hdb:pt.d<340282366920938463463374607431768211456:=Nat.lt_trans hd64 (by decide)
 by_cases hR:(rdN k:Int)=2
 ·have hfm:(fmN k:Int)≠2:=by
   rcases bO hk with rfl|rfl|rfl|rfl|rfl|rfl|rfl|rfl<;>revert hR<;>decide
  have hw1:ai (rdN k)=1:=by rw[hR];rfl
  rw[hw1,Nat.one_mul,Int.toNat_natCast] at hdlt;have hdj:dgN k-1+1=dgN k:=by omega
  have hal:=Ni (d:=pt.d) (j:=dgN k-1) (by rw[hdj];exact hdlt);rw[hdj] at hal
  by_cases hb:bitLen pt.d=dgN k
  ·rw[if_pos ⟨hR,hal.2 hb⟩]
   by_cases h3:k=3
   ·exact mV k hk 2 g ts so tn sc te _ _ g K pt.d w (by omega) hdb hdb HN (.inr (.inr (.inr (.inr (.inr (.inr ⟨rfl,rfl,.inr (.inr (.inl ⟨hfm,by omega,by omega,rfl,rfl⟩))⟩))))))
   ·have hfr:dgN k-1=frN k:=by
     rcases bO hk with rfl|rfl|rfl|rfl|rfl|rfl|rfl|rfl<;>revert hR h3<;>decide
    have hle:2^frN k≤pt.d:=by rw[←hfr];exact Sx (by omega)
    rw[←Wg hk g _ pt.d hle];exact mV k hk 2 g ts so tn sc te _ _ g K pt.d w (by omega) (Nat.lt_of_le_of_lt (Nat.sub_le _ _) hdb) hdb HN (.inr (.inr (.inr (.inr (.inr (.inr ⟨rfl,rfl,.inr (.inr (.inr ⟨hfm,by omega,by omega,rfl,by rw[hfr]⟩))⟩))))))
  ·rw[if_neg (fun c=>hb (hal.1 c.2)),Nat.add_zero]
   exact mV k hk 2 g ts so tn sc te _ _ g K pt.d w (by omega) hdb hdb HN (.inr (.inr (.inr (.inr (.inr (.inr ⟨rfl,rfl,.inr (.inl ⟨hfm,by omega,rfl,rfl⟩)⟩))))))
 ·have hfm:(fmN k:Int)=2:=by
   rcases bO hk with rfl|rfl|rfl|rfl|rfl|rfl|rfl|rfl<;>revert hR<;>decide
  rw[if_neg (fun c=>hR c.1),Nat.add_zero]
  exact mV k hk 2 g ts so tn sc te _ _ g K pt.d w (by omega) hdb hdb HN (.inr (.inr (.inr (.inr (.inr (.inr ⟨rfl,rfl,.inl ⟨hfm,rfl,rfl⟩⟩))))))
theorem Gm {k:Nat}(hk:1≤k∧k≤8): -16445≤(ai (rdN k):Int)*lsI k∧(ai (rdN k):Int)*(gsI k+(dgN k:Int))≤16384:=by
 rcases bO hk with rfl|rfl|rfl|rfl|rfl|rfl|rfl|rfl<;>decide
theorem mY {k:Nat}(hk:1≤k∧k≤8){ng:Bool}{xs:List Nat}{p:Int}(hc:chk xs=0)(hx:xs.length≠0)(hp: ¬(p< -20000∨20000<p)):
  enE k ng xs p=if inR (rdN k) (dgN k) (lsI k) (gsI k) (decide (k≤3)) (bare ⟨ng,Dg.vl 4294967296 xs,(ai (rdN k):Int)*p⟩).n (bare ⟨ng,Dg.vl 4294967296 xs,(ai (rdN k):Int)*p⟩).e=true then 0 else 4:=by
 obtain⟨f1,f2,f3,f4,f5,f6,f7,f8,f9,f10,f11,hgc⟩:=eR hk;obtain⟨g1,g2⟩:=Gm hk;have hvn:Dg.vl 4294967296 xs≠0:=fun h=>by
  obtain⟨n1,-⟩:=aF hc;exact Dg.vl_ne_zero 4294967296 (by omega) xs (by intro e;subst e;simp at hx) n1 h
 have hpl:ix xs p (rdN k) (dgN k) (lsI k) (gsI k)=0:=by
  unfold ix;rw[if_pos hc,if_pos hgc,if_neg];unfold eJ;simp;omega
 have hen:enN k ng xs p=bU ⟨ng,Dg.vl 4294967296 xs,(ai (rdN k):Int)*p⟩:=by
  unfold enN cC;rw[if_pos hpl]
 unfold enE;rw[if_neg hp,if_neg hx,hen];have hbn:(bare ⟨ng,Dg.vl 4294967296 xs,(ai (rdN k):Int)*p⟩).n≠0:=fun h=>hvn ((fI _).1 h)
 generalize htt:(⟨ng,Dg.vl 4294967296 xs,(ai (rdN k):Int)*p⟩:ak)=t at*;have hin: ∀hh: ¬1200< (Dg.dg 4294967296 (bare t).n).length,∀h2: ¬((bare t).e< -20000∨20000< (bare t).e),enH k (bare t)=inR (rdN k) (dgN k) (lsI k) (gsI k) (decide (k≤3)) (bare t).n (bare t).e:=fun hh h2=>by
  unfold enH um;have hd:aS (Dg.dg 4294967296 (bare t).n) (bare t).e=0:=by
   unfold aS;rw[if_pos (pJ (Dg.norm_dg 4294967296 (bare t).n (by omega)) (by omega)),if_neg h2]
  have hon:onC (aS (Dg.dg 4294967296 (bare t).n) (bare t).e) (bk (rdN k) (dgN k) (lsI k) (gsI k))=0:=by unfold onC;rw[if_pos hd];exact hgc
  rw[if_pos hon,Dg.vl_dg _ _ (by omega),nN _ _ f7,jK _ _ f7]
 by_cases hi:inR (rdN k) (dgN k) (lsI k) (gsI k) (decide (k≤3)) (bare t).n (bare t).e=true
 ·rw[if_pos hi]
  have hq:(ai (rdN k):Int)*lsI k≤(bare t).e∧(bare t).e+(bitLen (bare t).n:Int)≤(ai (rdN k):Int)*(gsI k+(dgN k:Int)):=by
   have:=hi;unfold inR at this
   rcases of_decide_eq_true this with h|h
   ·exact absurd h hbn
   ·exact⟨h.1,h.2.1⟩
  have hlen: ¬1200< (Dg.dg 4294967296 (bare t).n).length:=by
   have:=jq (d:=(bare t).n) (k:=bitLen (bare t).n) (L:=1200) (bitLen_spec _).1 (by omega);omega
  have h2: ¬((bare t).e< -20000∨20000< (bare t).e):=by omega
  have hsh:bU t=(bare t,0):=by unfold bU;rw[if_neg hlen,if_neg h2]
  rw[hsh,if_pos ⟨rfl,by rw[hin hlen h2];exact hi⟩]
 ·rw[if_neg hi,if_neg]
  rintro⟨h1,h3⟩;unfold bU at h1 h3
  by_cases hlen:1200< (Dg.dg 4294967296 (bare t).n).length
  ·rw[if_pos hlen] at h1
   simp at h1
  ·rw[if_neg hlen] at h1 h3
   by_cases h2:(bare t).e< -20000∨20000< (bare t).e
   ·rw[if_pos h2] at h1
    simp at h1
   ·rw[if_neg h2] at h3
    rw[hin hlen h2] at h3;exact hi h3
theorem xH {k:Nat}(hk:1≤k∧k≤8){ng:Bool}{ys:List Nat}{q:Int}(hy:chk ys=0):gI k 2 ng ys q=enE k ng ys q∧fq k 2 ng ys q=enS k ng ys q:=by
 have hf: ¬(dK k=0∨(2:Int)<1∨(5:Int)<2):=by
  rcases bO hk with rfl|rfl|rfl|rfl|rfl|rfl|rfl|rfl<;>decide
 unfold gI fq;rw[if_neg hf,if_neg (fun c=>c hy),if_pos rfl,if_neg hf,if_neg (fun c=>c hy),if_pos rfl,Int.toNat_natCast]
 exact⟨rfl,rfl⟩
theorem Pc (R D E:Int)(ln lm:Nat)(h1: -700000≤(ln:Int)-lm+E):((ln:Int)-lm+E+800000).tdiv (ai R)-(800000:Int).tdiv (ai R)-D+2=((ln:Int)-lm+E)/(ai R:Int)-D+2:=by
 rw[Int.tdiv_eq_ediv_of_nonneg (by omega),Int.tdiv_eq_ediv_of_nonneg (by omega)];unfold ai
 split<;>simp<;>omega
theorem EN (R D:Int)(h:0≤D):((ai R*D.toNat:Nat):Int)=(ai R:Int)*D:=by
 rw[Int.natCast_mul,Int.toNat_of_nonneg h]
theorem CU {R k:Int}{a:Int}(h1: -a≤k)(h2:k≤a): -(4*a)≤(ai R:Int)*k∧(ai R:Int)*k≤4*a:=by
 unfold ai
 split<;>simp<;>omega
theorem CJ {R D L:Int}{gr:Bool}{N M:Nat}{E:Int}(h:(decide (aT R D (dY N M E)<L)&&gr)=true):dj R D L gr N M E=L:=if_pos h
theorem Gu {R D L:Int}{gr:Bool}{N M:Nat}{E:Int}(h:(decide (aT R D (dY N M E)<L)&&gr)=false):dj R D L gr N M E=aT R D (dY N M E):=if_neg (by rw[h];decide)
theorem KS {R D L:Int}{gr qs:Bool}{N M:Nat}{E way:Int}(h1:decide (gF R D L gr N M E=0)=false)(h2:rf R D L gr qs N M E way=true):fM R D L gr qs N M E way=cH R D L gr N M E+1:=if_pos ⟨h1,h2⟩
theorem ZF {R D L:Int}{gr qs:Bool}{N M:Nat}{E way:Int}(h:decide (gF R D L gr N M E=0)=true∨rf R D L gr qs N M E way=false):fM R D L gr qs N M E way=cH R D L gr N M E:=by
 refine if_neg ?_;rintro⟨h1,h2⟩
 rcases h with h|h
 ·rw[h1] at h
  cases h
 ·rw[h2] at h
  cases h
theorem KT (B x y L:Nat)(hB:2≤B)(h:x≤y)(hy:(Dg.dg B y).length≤L):(Dg.dg B x).length≤L:=Nat.le_trans (aH B x y hB h) hy
theorem ZG {x L:Nat}(h:(Dg.dg 65536 x).length≤L):(Dg.dg 65536 (x+1)).length≤L+1:=by
 refine Dg.dg_len_le 65536 _ _ (by omega) ?_;have h1:=Dg.vl_lt 65536 (Dg.dg 65536 x) (Dg.small_dg _ _ (by omega));rw[Dg.vl_dg _ _ (by omega)] at h1;have h2:65536^ (Dg.dg 65536 x).length≤65536^L:=Nat.pow_le_pow_right (by omega) h;have h3:(65536:Nat)^ (L+1)=65536^L*65536:=Nat.pow_succ ..;have h4:0< (65536:Nat)^L:=Nat.pow_pos (by omega);generalize(65536:Nat)^L=c at*;omega
theorem vR {a L:Nat}(h:(Dg.dg 65536 a).length≤L):bitLen a≤16*L:=by
 refine bF a _ ?_;rw[Nat.pow_mul];have h1:=Dg.vl_lt 65536 _ (Dg.small_dg 65536 a (by omega));rw[Dg.vl_dg _ _ (by omega)] at h1;exact Nat.lt_of_lt_of_le h1 (Nat.pow_le_pow_right (by omega) h)
theorem pQ (v:Value)(n:Nat)(w:World)(h:Rd w .i64 v (Dg.dg 65536 n))(hl:(Dg.dg 65536 n).length≤3000000):yC 86 #[v] w (yR w (yi (bitLen n:Nat))):=by
 have:=kF v _ w h (Dg.small_dg _ _ (by omega)) (Dg.norm_dg _ _ (by omega)) hl;rw[Dg.vl_dg _ _ (by omega)] at this;refine this.mono ?_;rintro z w' ⟨rfl,rfl⟩;exact⟨rfl,Below.refl _ _⟩
theorem Rh {R D k t b:Int}(h1:t/(ai R:Int)-(D-1)≤k)(h2:k≤b/(ai R:Int)-D+2)(t1: -341000≤t)(b2:b≤341000)(d1:1≤D)(d2:D≤120): -360000≤(ai R:Int)*k∧(ai R:Int)*k≤360000:=by
 unfold ai at*
 split at h1<;>simp_all<;>omega
theorem KU (R D L G:Int)(gr qs:Bool)(no:Option Addr)(nc:Nat)(eo:Option Addr)(ec:Nat)(N M:Nat)(E way:Int)(w:World)(hg:bk R D L G=0)(hway:iC way=true)
  (ha:Rd w .i64 (yS no N nc) (Dg.dg 65536 N)) (hb:Rd w .i64 (yS eo M ec) (Dg.dg 65536 M)) (hla:(Dg.dg 65536 N).length≤20000) (hlb:(Dg.dg 65536 M).length≤20000) (hN:N≠0) (hM:M≠0) (e1: -100000≤E) (e2:E≤100000) (s1: -340000≤(bitLen N:Int)-(bitLen M:Int)+E) (s2:(bitLen N:Int)-(bitLen M:Int)+E≤340000):
  yC 42 #[yrV qs (yS no N nc) (yS eo M ec) E,ygV R D L G gr,yi way] w (GT w (cI R D L G gr qs N M E way)):=by
 obtain⟨hR,d1,d2,l1,l2,g1,g2,lg,l16⟩:=cB hg;have hbn:=vR hla;have hbm:=vR hlb;have hs:=Ve R D N M E;have hst:=Pc R D E (bitLen N) (bitLen M) (by omega);have hK1: -400000≤aT R D (dY N M E):=by
  have: -350000≤dY N M E:=by unfold dY;split<;>omega
  unfold aT ai
  split<;>simp<;>omega
 have hk0:((bitLen N:Int)-(bitLen M:Int)+E)/(ai R:Int)-D+2≤400000:=by
  unfold ai
  split<;>simp<;>omega
 have hwn:=eN R;have hWK: ∀k,aT R D (dY N M E)≤k→k≤((bitLen N:Int)-(bitLen M:Int)+E)/(ai R:Int)-D+2→ -360000≤(ai R:Int)*k∧(ai R:Int)*k≤360000:=fun k h1 h2=>
  Rh h1 h2 (by unfold dY;split<;>omega) (by omega) d1 d2
 have hNM: ∀n:Int,n≤900000→(Dg.dg 65536 (eZ N n)).length≤160000:=fun n h=>GB (Nat.le_trans hla (by omega)) h
 have hDM: ∀n:Int,-900000≤n→(Dg.dg 65536 (dX M n)).length≤160000:=fun n h=>GC (Nat.le_trans hlb (by omega)) h
 have hcr: -360000≤(ai R:Int)*dj R D L gr N M E∧(ai R:Int)*dj R D L gr N M E≤360000∧ -400000≤dj R D L gr N M E∧dj R D L gr N M E≤400000:=by
  by_cases h:(decide (aT R D (dY N M E)<L)&&gr)=true
  ·rw[CJ h]
   have:=l16;refine⟨?_, ?_,by omega,by omega⟩<;>(clear hWK hs hst hK1 hk0;unfold ai;split<;>simp<;>omega)
  ·rw[Gu (by simpa using h)]
   have:=hWK _ (Int.le_refl _) (by omega);exact⟨this.1,this.2,hK1,by omega⟩
 have hq:(Dg.dg 65536 (cH R D L gr N M E)).length≤160000:=KT 65536 _ _ _ (by omega) (Nat.div_le_self _ _) (hNM _ (by unfold shP;omega));have hY0:0<dX M (shP R D L gr N M E):=N8 _ (Nat.pos_of_ne_zero hM);have hr:(Dg.dg 65536 (gF R D L gr N M E)).length≤160000:=KT 65536 _ _ _ (by omega) (Nat.le_of_lt (Nat.mod_lt _ hY0)) (hDM _ (by unfold shP;omega));have hDc:=EN R D (by omega);have hDc1:=EN R (D-1) (by omega);have hpow:ai R*(D-1).toNat≤480:=by
  have:(D-1).toNat≤119:=by omega
  exact Nat.le_trans (Nat.mul_le_mul hwn.2 this) (by omega)
 have hm1:(ai R:Int)*(D-1)≤480:=by omega
 have hm2:(ai R:Int)*D≤480:=by
  have:=CU (R:=R) (k:=D) (a:=120) (by omega) (by omega);omega
 have hm3:0≤(ai R:Int)*D:=by omega
 have a1:=Int.natAbs_tdiv_le_natAbs ((bitLen N:Int)-(bitLen M:Int)+E+800000) (ai R);have a2:=Int.natAbs_tdiv_le_natAbs (800000:Int) (ai R);refine ZY R D L G gr qs no _ nc eo _ ec E way (ai R) (bitLen N) (bitLen M) (((bitLen N:Int)-(bitLen M:Int)+E+800000).tdiv (ai R)) ((800000:Int).tdiv (ai R)) (aT R D (dY N M E)) (((bitLen N:Int)-(bitLen M:Int)+E)/(ai R:Int)-D+2) (dj R D L gr N M E)
  (fun k=>eZ N (E-(ai R:Int)*k)/dX M (E-(ai R:Int)*k)) (fun k=>eZ N (E-(ai R:Int)*k) % dX M (E-(ai R:Int)*k)) (fun k=>dX M (E-(ai R:Int)*k)) (fun k=>bitLen (eZ N (E-(ai R:Int)*k)/dX M (E-(ai R:Int)*k)))
  (cH R D L gr N M E) (gF R D L gr N M E) (dX M (shP R D L gr N M E)) (bitLen (cH R D L gr N M E+1)) (dm ((gF R D L gr N M E*2:Nat):Int) ((dX M (shP R D L gr N M E):Nat):Int)) (decide (cH R D L gr N M E % 2=1)) (rf R D L gr qs N M E way) (decide (aT R D (dY N M E)<L)) (decide (gF R D L gr N M E=0)) (decide (aT R D (dY N M E)<L)&&gr) (decide (ai R*D.toNat<bitLen (cH R D L gr N M E+1)))
  (io R D (fM R D L gr qs N M E way)) (gD R D (fM R D L gr qs N M E way) (dj R D L gr N M E)) (cI R D L G gr qs N M E way) w ?_ ?_ ?_ (Int.le_of_lt hs) ?_ ?_ ?_ rfl rfl ?_ ?_ ?_ ?_ ?_ ?_ ?_ ?_ ?_ ?_ ?_ ?_ rfl rfl rfl rfl CJ ?_ ?_ ?_ ?_ ?_ ?_ ?_ ?_ (kJ gr qs N M E way d1 lg hN hM) ?_ ?_ ?_ ?_ ?_ ?_ ?_ ?_ ?_ ?_ ?_ ?_
 ·simp
  rw[Dg.dg_nil_iff _ _ (by omega)];exact hN
 ·simp
  omega
 ·omega
 ·exact IntWalk.i64_in _ ⟨by omega,by omega⟩
 ·exact IntWalk.i64_in _ ⟨by omega,by omega⟩
 ·exact IntWalk.i64_in _ ⟨by omega,by omega⟩
 ·exact IntWalk.i64_in _ ⟨by omega,by omega⟩
 ·exact IntWalk.i64_in _ ⟨by omega,by omega⟩
 ·exact IntWalk.i64_in _ ⟨by omega,by omega⟩
 ·exact IntWalk.i64_in _ ⟨by omega,by omega⟩
 ·rw[hst]
  exact IntWalk.i64_in _ ⟨by omega,by omega⟩
 ·intro k h1 h2
  have:=hWK k h1 h2;exact⟨IntWalk.i64_in _ ⟨by omega,by omega⟩,IntWalk.i64_in _ ⟨by omega,by omega⟩⟩
 ·have:=CU (R:=R) (k:=L) (a:=17000) (by omega) (by omega)
  exact IntWalk.i64_in _ ⟨by omega,by omega⟩
 ·exact IntWalk.i64_in _ ⟨by omega,by omega⟩
 ·exact IntWalk.i64_in _ ⟨by omega,by omega⟩
 ·exact IntWalk.i64_in _ ⟨by omega,by omega⟩
 ·exact IntWalk.i64_in _ ⟨by omega,by omega⟩
 ·exact IntWalk.i64_in _ ⟨by omega,by omega⟩
 ·intro h
  have e:=Gu h;refine⟨e, ?_, ?_, ?_⟩
  ·unfold cH shP
   rw[e]
  ·unfold gF shP
   rw[e]
  ·unfold shP
   rw[e]
 ·intro k h1 h2
  have:=(xx R D k N M E d1 hN hM).2 h1;omega
 ·have:=mt (xx R D (aT R D (dY N M E)) N M E d1 hN hM).1 (Int.lt_irrefl _)
  omega
 ·intro h
  have:=of_decide_eq_true h;omega
 ·intro h
  have:=of_decide_eq_false h;omega
 ·intro h1 h2 h3
  rw[KS h1 h2];exact if_pos ((Ga R D L gr N M E d1 hN hM).1 (of_decide_eq_true h3))
 ·intro h1 h2 h3
  have h4: ¬cH R D L gr N M E+1=2^ (ai R*D.toNat):=fun c=>of_decide_eq_false h3 ((Ga R D L gr N M E d1 hN hM).2 c)
  rw[KS h1 h2];exact⟨if_neg h4,if_neg h4⟩
 ·intro h
  rw[ZF h];exact uh R D L gr N M E d1 hN hM _
 ·intro w1
  have:=nh R D L G gr w1
  rwa [jf] at this
 ·intro w1 b
  exact pQ _ N w1 (ha.l b) (by omega)
 ·intro w1 b
  exact pQ _ M w1 (hb.l b) (by omega)
 ·intro k w1 h1 h2 b
  have:=hWK k h1 h2;exact BM qs no _ nc eo _ ec N M E _ w1 (ha.l b) (hb.l b) (by omega) (by omega) (Nat.pos_of_ne_zero hM) (by omega) (by omega)
 ·intro h w1 b
  have:=BM qs no _ nc eo _ ec N M E ((ai R:Int)*dj R D L gr N M E) w1 (ha.l b) (hb.l b) (by omega) (by omega) (Nat.pos_of_ne_zero hM) (by omega) (by omega);rw[show E-(ai R:Int)*dj R D L gr N M E=shP R D L gr N M E from rfl,CJ h] at this
  exact this
 ·intro k v w1 h1 h2 r
  have:=hWK k h1 h2;exact pQ v _ w1 r (Nat.le_trans (KT 65536 _ _ _ (by omega) (Nat.div_le_self _ _) (hNM _ (by omega))) (by omega))
 ·intro v u w1 r1 r2
  have:=fN v u _ _ w1 r1 r2 (Dg.small_dg _ _ (by omega)) (Dg.small_cons.2 ⟨by omega,Dg.small_nil _ (by omega)⟩) (by omega) (by simp)
  rwa [Dg.vl_dg _ _ (by omega),show Dg.vl 65536 [2]=2 from rfl] at this
 ·intro v u w1 r1 r2
  have:=fm v u _ _ w1 r1 r2 (Dg.small_dg _ _ (by omega)) (Dg.small_dg _ _ (by omega)) (Dg.norm_dg _ _ (by omega)) (Dg.norm_dg _ _ (by omega))
  rwa [Dg.vl_dg _ _ (by omega),Dg.vl_dg _ _ (by omega)] at this
 ·intro w1
  exact Od hway qs _ _ w1
 ·intro v u w1 r1 r2
  have:=ew v u _ _ w1 r1 r2 (Dg.small_dg _ _ (by omega)) (Dg.small_cons.2 ⟨by omega,Dg.small_nil _ (by omega)⟩) (Dg.norm_dg _ _ (by omega)) (by rw[show([1]:List Nat)=Dg.dg 65536 1 from by decide];exact Dg.norm_dg _ _ (by omega)) (by omega) (by simp)
  rwa [Dg.vl_dg _ _ (by omega),show Dg.vl 65536 [1]=1 from rfl] at this
 ·intro v w1 r
  exact pQ v _ w1 r (Nat.le_trans (ZG hq) (by omega))
 ·intro h1 h2 h3 w1
  rw[KS h2 h3,show io R D (cH R D L gr N M E+1)=2^ (ai R*(D-1).toNat) from if_pos ((Ga R D L gr N M E d1 hN hM).1 (of_decide_eq_true h1)),←hDc1]
  exact ZQ _ (ai R*(D-1).toNat/16) (ai R*(D-1).toNat % 16) w1 (by omega) (by omega) (by omega)
theorem NT (R D L G:Int)(gr qs:Bool)(no:Option Addr)(nc:Nat)(eo:Option Addr)(ec:Nat)(N M:Nat)(E way:Int)(w:World)(hg:bk R D L G=0)(hway:iC way=true)
  (ha:Rd w .i64 (yS no N nc) (Dg.dg 65536 N)) (hb:Rd w .i64 (yS eo M ec) (Dg.dg 65536 M)) (hla:(Dg.dg 65536 N).length≤20000) (hlb:(Dg.dg 65536 M).length≤20000) (hN:N≠0) (hM:M≠0) (e1: -20000≤E) (e2:E≤20000):
  yC 42 #[yrV qs (yS no N nc) (yS eo M ec) E,ygV R D L G gr,yi way] w (GT w (cI R D L G gr qs N M E way)):=by
 have hbn:=vR hla;have hbm:=vR hlb;exact KU R D L G gr qs no nc eo ec N M E way w hg hway ha hb hla hlb hN hM (by omega) (by omega) (by omega) (by omega)
theorem fm_is {k:Nat}(hk:1≤k∧k≤8):((fmN k:Nat):Int)=dK k:=by
 rcases bO hk with rfl|rfl|rfl|rfl|rfl|rfl|rfl|rfl<;>rfl
theorem form_any (k:Nat)(hk:1≤k∧k≤8)(w:World):yC 14 #[yi k] w (yR w (.tuple #[yhV (szN k) (exN k) (frN k:Int) (rdN k) (dgN k) (lsI k) (gsI k) (decide (k≤3)) (dK k),.bool true])):=by
 have:=sU k hk w;rw[fm_is hk] at this;exact this
theorem refNothing_any (k:Nat)(hk:1≤k∧k≤8)(w:World):yC 85 #[yi k] w (yR w (yoV (AZ (dK k)) false false yN 0)):=by
 have HF:=fun w1=>form_any k hk w1
 rcases qt hk with h|h|h<;>rw[h] at HF⊢
 ·exact aa4 _ _ _ _ _ _ _ _ _ _ w HF
 ·exact aa5 _ _ _ _ _ _ _ _ _ _ w HF
 ·exact aa6 _ _ _ _ _ _ _ _ _ _ w HF
theorem refZero_any (k:Nat)(hk:1≤k∧k≤8)(ng:Bool)(w:World):yC 16 #[yi k,.bool ng] w (yR w (yoV 1 (ng&&decide (dK k=1)) false yN 0)):=
 aej _ _ _ _ _ _ _ _ _ _ _ _ w (fun w1=>form_any k hk w1)
theorem refW_any (k:Nat)(hk:1≤k∧k≤8)(D L G:Int)(gr:Bool)(w:World):yC 52 #[ygV (rdN k) D L G gr] w (yR w (yi (ai (rdN k):Int))):=by
 have:=eG (rdN k) D L G gr w;rw[wQ hk] at this;exact this
def gtT (k:Nat)(ng:Bool):ak:=bare ⟨ng,rdN k^dgN k-1,(ai (rdN k):Int)*gsI k⟩
theorem rd_pow {k:Nat}(hk:1≤k∧k≤8):rdN k^dgN k=2^ (ai (rdN k)*dgN k):=by
 rcases bO hk with rfl|rfl|rfl|rfl|rfl|rfl|rfl|rfl<;>rfl
theorem refGreatest_any (k:Nat)(hk:1≤k∧k≤8)(ng:Bool)(w:World):yC 84 #[yi k,.bool ng] w (RVg w 2 ng (gtT k ng)):=by
 obtain⟨-,-,d1,-,-,-,lg,g2,w64,w4,w1',hg⟩:=eR hk;have hge:(ai (rdN k):Int)*gsI k≤16384∧ -16384≤(ai (rdN k):Int)*gsI k:=by
  rcases bO hk with rfl|rfl|rfl|rfl|rfl|rfl|rfl|rfl<;>decide
 have hL: ∀{x:Nat},x≤2^ (ai (rdN k)*dgN k)→(Dg.dg 65536 x).length≤10:=fun {x} hx=>by
  refine Dg.dg_len_le 65536 _ _ (by omega) (Nat.lt_of_le_of_lt hx ?_);refine Nat.lt_of_le_of_lt (Nat.pow_le_pow_right (by omega) w64) (by decide)
 unfold gtT;rw[rd_pow hk];refine aaB k _ _ _ (rdN k) (dgN k) (lsI k) (gsI k) _ (ai (rdN k):Int) ((ai (rdN k)*dgN k:Nat):Int) ((ai (rdN k):Int)*gsI k) _ _ ng (2^ (ai (rdN k)*dgN k)) _ w ?_ ?_ (fun w1=>form_any k hk w1) (fun w1=>refW_any k hk _ _ _ _ w1) (fun w1=>vJ _ (by omega) w1) (fun vo vc q w1 hv hq=> ?_) (fun vo vc w1 hv=> ?_)
 ·rw[←Int.natCast_mul]
  exact IntWalk.i64_in _ ⟨by omega,by omega⟩
 ·exact IntWalk.i64_in _ ⟨by omega,by omega⟩
 ·have hp:1≤2^ (ai (rdN k)*dgN k):=bG _
  have hq1:Rd w1 .i64 (.slice (some ⟨q,0,none⟩) 1 1) [1]:=⟨_,1,rfl,Nat.le_refl _,by unfold maxLen;omega,fun _=>⟨q,0,rfl,fun i hi=>by
   obtain rfl:i=0:=by simpa using hi
   exact hq⟩⟩
  have hne:(Dg.dg 65536 (2^ (ai (rdN k)*dgN k))).length≠0:=fun c=>by
   have:=(Dg.dg_nil_iff 65536 _ (by omega)).1 (List.length_eq_zero_iff.1 c);omega
  have:=kI (.slice vo (Dg.dg 65536 (2^ (ai (rdN k)*dgN k))).length vc) (.slice (some ⟨q,0,none⟩) 1 1) _ [1] w1 hv hq1 (Dg.small_dg _ _ (by omega)) (Dg.small_cons.2 ⟨by omega,Dg.small_nil _ (by omega)⟩) (by have:=hL (Nat.le_refl (2^ (ai (rdN k)*dgN k)));omega) (by simp;omega) (by rw[Dg.vl_dg _ _ (by omega),show Dg.vl 65536 [1]=1 from rfl];exact hp)
  rwa [Dg.vl_dg _ _ (by omega),show Dg.vl 65536 [1]=1 from rfl] at this
 ·exact lA _ ⟨ng,2^ (ai (rdN k)*dgN k)-1,(ai (rdN k):Int)*gsI k⟩ w1 ⟨_,rfl,hv⟩ (by have:=hL (Nat.sub_le (2^ (ai (rdN k)*dgN k)) 1);simp only;omega) (by simp only;omega) (by simp only;omega)
def plV (k:Nat)(wy:Int)(P:fz):Int×Bool×ak×Int:=
 if P.ov=true then(if dK k=3 then(5,false,⟨false,0,0⟩,5) else if dK k=1∧aaV wy P.s=true then(3,P.s,⟨false,0,0⟩,5) else(2,P.s,gtT k P.s,5))
 else if P.un=true∧P.p<lsI k then(1,false,⟨false,0,0⟩,3)
 else if P.d=0 then(1,P.s,⟨false,0,0⟩,if P.ex=true then 0 else if P.un=true then 3 else 1)
 else(2,P.s,bare ⟨P.s,P.d,(ai (rdN k):Int)*P.p⟩,if P.ex=true then 0 else if P.un=true then 3 else 1)
structure Plc (k:Nat) (P:fz):Prop where
 low:dK k=1→P.p<lsI k→P.ov=true
 same:dK k≠1→P.ov=false→P.un=true→P.ex=true→P.p<lsI k
 nil:P.ov=false→P.d=0→dK k=1
 len:(Dg.dg 65536 P.d).length≤100000
 far:P.ov=false→(P.un=true∧P.p<lsI k)∨(-17000≤P.p∧P.p≤17000)
theorem placed_any (k:Nat)(hk:1≤k∧k≤8)(wy:Int)(hw:1≤wy∧wy≤5)(P:fz)(hP:Plc k P)(po:Option Addr)(pc:Nat)(w:World)(hr:Rd w .i64 (yS po P.d pc) (Dg.dg 65536 P.d)):
  yC 41 #[yi k,ypV P.s (yS po P.d pc) P.p P.ex P.ov P.un,yi wy] w (RVG w (plV k wy P).1 (plV k wy P).2.1 (plV k wy P).2.2.1 (plV k wy P).2.2.2):=by
 have HF:=fun w1=>form_any k hk w1
 have HN:=fun w1=>refNothing_any k hk w1
 have HG:=fun g w1=>refGreatest_any k hk g w1
 have HZ:=fun g w1=>refZero_any k hk g w1
 have HW:=fun D L G gr w1=>refW_any k hk D L G gr w1
 have wl:=eN (rdN k);obtain⟨h1,h2,h3,h4,h5⟩:=hP;obtain⟨ps,pd,pp,ex,ov,un⟩:=P;simp only at h1 h2 h3 h4 h5 hr;unfold plV;simp only
 cases ov
 ·rw[if_neg (by decide)]
  by_cases hl:un=true∧pp<lsI k
  ·rw[if_pos hl]
   obtain⟨rfl,hl⟩:=hl;have hf:dK k≠1:=fun c=>absurd (h1 c hl) (by decide)
   have hf2:1<dK k:=by rcases qt hk with h|h|h<;>omega
   have hz:(false&&decide (dK k=1))=false:=rfl;have HZ':=HZ false;rw[hz] at HZ';exact refPl_low ex false _ _ _ _ _ _ _ _ _ _ _ _ _ _ _ _ _ w (by simpa using hf) hf2 hl HF HZ'
  rw[if_neg hl]
  by_cases hd:pd=0
  ·rw[if_pos hd]
   subst hd;have hf:=h3 rfl rfl;have HZ':=HZ ps;rw[show(ps&&decide (dK k=1))=ps from by rw[hf];simp] at HZ'
   rw[hf] at HF
   cases ex<;>cases un
   ·exact aeG ps _ _ _ _ _ _ _ _ _ _ _ _ _ _ _ _ w HF HZ'
   ·exact aeh ps _ _ _ _ _ _ _ _ _ _ _ _ _ _ _ w HF HZ'
   ·exact aeE ps _ _ _ _ _ _ _ _ _ _ _ _ _ _ _ _ w HF HZ'
   ·exact aef ps _ _ _ _ _ _ _ _ _ _ _ _ _ _ _ w HF HZ'
  rw[if_neg hd];have hz:(((Dg.dg 65536 pd).length:Int)==0)=false:=by
   have:(Dg.dg 65536 pd).length≠0:=fun c=>hd ((Dg.dg_nil_iff 65536 _ (by omega)).1 (List.length_eq_zero_iff.1 c))
   simpa using this
  have hpr:=(h5 rfl).resolve_left hl;have hE:IntKind.i64.wrap ((ai (rdN k):Int)*pp)=(ai (rdN k):Int)*pp:=by
   have:=CU (R:=(rdN k:Int)) hpr.1 hpr.2;exact IntWalk.i64_in _ ⟨by omega,by omega⟩
  have HB: ∀w1,yB w w1→yC 32 #[ydV ps (yS po pd pc) ((ai (rdN k):Int)*pp)] w1 (di w1 (bare ⟨ps,pd,(ai (rdN k):Int)*pp⟩)):=fun w1 b=>by
   have:=CU (R:=(rdN k:Int)) hpr.1 hpr.2;exact lA _ ⟨ps,pd,(ai (rdN k):Int)*pp⟩ w1 ⟨_,rfl,hr.l b⟩ h4 (by simp only;omega) (by simp only;omega)
  by_cases hf:dK k=1
  ·rw[hf] at HF
   cases ex<;>cases un
   ·exact aeH _ _ _ _ _ _ _ _ _ _ _ _ _ _ _ _ _ _ _ _ w hz hE HF (fun w1=>HW _ _ _ _ w1) HB
   ·exact aei _ _ _ _ _ _ _ _ _ _ _ _ _ _ _ _ _ _ _ w hz hE HF (fun w1=>HW _ _ _ _ w1) HB
   ·exact aeF _ _ _ _ _ _ _ _ _ _ _ _ _ _ _ _ _ _ _ _ w hz hE HF (fun w1=>HW _ _ _ _ w1) HB
   ·exact aeg _ _ _ _ _ _ _ _ _ _ _ _ _ _ _ _ _ _ _ w hz hE HF (fun w1=>HW _ _ _ _ w1) HB
  ·have hf2:1<dK k:=by rcases qt hk with h|h|h<;>omega
   cases ex<;>cases un
   ·exact aeH _ _ _ _ _ _ _ _ _ _ _ _ _ _ _ _ _ _ _ _ w hz hE HF (fun w1=>HW _ _ _ _ w1) HB
   ·exact aeI _ _ _ _ _ _ _ _ _ _ _ _ _ _ _ _ _ _ _ _ w (by simpa using hf) hf2 (fun c=>hl ⟨rfl,c⟩) hz hE HF (fun w1=>HW _ _ _ _ w1) HB
   ·exact aeF _ _ _ _ _ _ _ _ _ _ _ _ _ _ _ _ _ _ _ _ w hz hE HF (fun w1=>HW _ _ _ _ w1) HB
   ·exact absurd (h2 hf rfl rfl rfl) (fun c=>hl ⟨rfl,c⟩)
 ·rw[if_pos rfl]
  rcases qt hk with hf|hf|hf
  ·rw[if_neg (by omega)]
   rw[hf] at HF;have hw':wy=1∨wy=2∨wy=3∨wy=4∨wy=5:=by omega
   rcases hw' with rfl|rfl|rfl|rfl|rfl
   ·rw[if_pos ⟨hf,rfl⟩]
    exact refPl_u1 ex _ _ _ _ _ _ _ _ _ _ _ _ _ _ _ _ w HF
   ·rw[if_pos ⟨hf,rfl⟩]
    exact refPl_u2 ex _ _ _ _ _ _ _ _ _ _ _ _ _ _ _ _ w HF
   ·have ho:aaV 3 ps=false:=by cases ps<;>rfl
    rw[if_neg (by rw[ho];simp)];exact refPl_i3 ex _ _ _ _ _ _ _ _ _ _ _ _ _ _ _ _ _ w HF (fun w1=>HG ps w1)
   ·cases ps
    ·rw[if_pos ⟨hf,rfl⟩]
     exact refPl_u4 ex _ _ _ _ _ _ _ _ _ _ _ _ _ _ _ w HF
    ·rw[if_neg (by simp[aaV])]
     exact refPl_i4 ex _ _ _ _ _ _ _ _ _ _ _ _ _ _ _ _ w HF (fun w1=>HG true w1)
   ·cases ps
    ·rw[if_neg (by simp[aaV])]
     exact refPl_i5 ex _ _ _ _ _ _ _ _ _ _ _ _ _ _ _ _ w HF (fun w1=>HG false w1)
    ·rw[if_pos ⟨hf,rfl⟩]
     exact refPl_u5 ex _ _ _ _ _ _ _ _ _ _ _ _ _ _ _ w HF
  ·rw[if_neg (by omega),if_neg (fun c=>by omega)]
   rw[hf] at HF;exact refPl_o2 ex _ _ _ _ _ _ _ _ _ _ _ _ _ _ _ _ _ _ w HF (fun w1=>HG ps w1)
  ·rw[if_pos hf]
   rw[hf] at HF HN;exact refPl_o3 ex _ _ _ _ _ _ _ _ _ _ _ _ _ _ _ _ _ w HF HN
theorem qi (way:Int)(w:World):yC 15 #[yi way] w fun z w'=>z= .returned (.bool (iC way))∧w'=w:=by
 unfold iC
 by_cases h:1≤way
 ·go_enter func15,ntmps15
  go_wp2
  go_ret
  simp[h]
 ·go_enter func15,ntmps15
  go_wp2
  go_ret
  simp;omega
theorem EV {k:Nat}(hk:1≤k∧k≤8):ia (rdN k) (dgN k) (lsI k) (gsI k) (decide (k≤3)) (rdN k^dgN k-1) (gsI k):=by
 refine .inr ?_
 rcases bO hk with rfl|rfl|rfl|rfl|rfl|rfl|rfl|rfl<;>decide
theorem fam_one {k:Nat}(hk:1≤k∧k≤8):dK k=1↔k≤3:=by
 rcases bO hk with rfl|rfl|rfl|rfl|rfl|rfl|rfl|rfl<;>decide
structure Rnd (k:Nat) (P:fz):Prop where
 plc:Plc k P
 nil0:P.d=0→P.p=0
 spot:P.ov=false→ ¬(P.un=true∧P.p<lsI k)→P.d≠0→ia (rdN k) (dgN k) (lsI k) (gsI k) (decide (k≤3)) P.d P.p
theorem rnd_of {k:Nat}(hk:1≤k∧k≤8)(s:Bool)(N M:Nat)(E way:Int)(hN:N≠0)(hM:M≠0):Rnd k (cI (rdN k) (dgN k) (lsI k) (gsI k) (decide (k≤3)) s N M E way):=by
 obtain⟨-,-,d1,-,l1,l0,lg,g2,w64,-,ww,hg⟩:=eR hk;have hD:(1:Int)≤(dgN k:Int):=by omega
 have hfk:=fam_one hk;have hrs:=nW (R:=(rdN k:Int)) (D:=(dgN k:Int)) (L:=lsI k) (G:=gsI k) (gr:=decide (k≤3)) (qs:=s) (N:=N) (M:=M) (E:=E) (way:=way) hD lg hN hM;rw[kJ _ s N M E way hD lg hN hM] at hrs⊢;have hwl:=rP (rdN k) (dgN k) (lsI k) (decide (k≤3)) N M E hD hN hM;have hwp:=Vf (rdN k) (dgN k) (lsI k) (decide (k≤3)) N M E hD hN hM;have hds:=uh (rdN k) (dgN k) (lsI k) (decide (k≤3)) N M E hD hN hM (dj (rdN k) (dgN k) (lsI k) (decide (k≤3)) N M E);have hdz:=CD (rdN k) (dgN k) (fM (rdN k) (dgN k) (lsI k) (decide (k≤3)) s N M E way);have hdg:=KL (rdN k) (dgN k) (lsI k) (decide (k≤3)) s N M E way;have hd1:fM (rdN k) (dgN k) (lsI k) (decide (k≤3)) s N M E way≤cH (rdN k) (dgN k) (lsI k) (decide (k≤3)) N M E+1:=by
  unfold fM
  split<;>omega
 have hdn:gF (rdN k) (dgN k) (lsI k) (decide (k≤3)) N M E=0→fM (rdN k) (dgN k) (lsI k) (decide (k≤3)) s N M E way=cH (rdN k) (dgN k) (lsI k) (decide (k≤3)) N M E:=fun h=>by
  unfold fM;rw[if_neg (fun c=>of_decide_eq_false c.1 h)]
 have hcut:(k≤3→lsI k≤dj (rdN k) (dgN k) (lsI k) (decide (k≤3)) N M E)∧(¬k≤3→dj (rdN k) (dgN k) (lsI k) (decide (k≤3)) N M E=aT (rdN k) (dgN k) (dY N M E)):=by
  unfold dj;refine⟨fun h=> ?_,fun h=> ?_⟩
  ·rw[decide_eq_true h,Bool.and_true]
   split
   ·exact Int.le_refl _
   ·rename_i c
    simpa using c
  ·rw[decide_eq_false h,Bool.and_false,if_neg (by decide)]
 have hcP:gD (rdN k) (dgN k) (fM (rdN k) (dgN k) (lsI k) (decide (k≤3)) s N M E way) (dj (rdN k) (dgN k) (lsI k) (decide (k≤3)) N M E)=dj (rdN k) (dgN k) (lsI k) (decide (k≤3)) N M E∨(gD (rdN k) (dgN k) (fM (rdN k) (dgN k) (lsI k) (decide (k≤3)) s N M E way) (dj (rdN k) (dgN k) (lsI k) (decide (k≤3)) N M E)=dj (rdN k) (dgN k) (lsI k) (decide (k≤3)) N M E+1∧io (rdN k) (dgN k) (fM (rdN k) (dgN k) (lsI k) (decide (k≤3)) s N M E way)=2^ (ai (rdN k)*((dgN k:Int)-1).toNat)):=by
  unfold gD io
  split
  ·exact .inr ⟨rfl,rfl⟩
  ·exact .inl rfl
 have hpw:2^ (ai (rdN k)*((dgN k:Int)-1).toNat)<2^ (ai (rdN k)*(dgN k:Int).toNat):=by
  refine Nat.pow_lt_pow_right (by omega) (Nat.mul_lt_mul_of_pos_left ?_ (by omega));omega
 have hcl:io (rdN k) (dgN k) (fM (rdN k) (dgN k) (lsI k) (decide (k≤3)) s N M E way)<2^ (ai (rdN k)*(dgN k:Int).toNat):=by
  unfold io
  split
  ·exact hpw
  ·omega
 have hlen:(Dg.dg 65536 (io (rdN k) (dgN k) (fM (rdN k) (dgN k) (lsI k) (decide (k≤3)) s N M E way))).length≤100000:=by
  refine Nat.le_trans (Dg.dg_len_le 65536 _ 4 (by omega) (Nat.lt_of_lt_of_le hcl ?_)) (by omega);rw[Int.toNat_natCast];exact Nat.le_trans (Nat.pow_le_pow_right (by omega) w64) (by decide)
 generalize fM (rdN k) (dgN k) (lsI k) (decide (k≤3)) s N M E way=dg at*;generalize dj (rdN k) (dgN k) (lsI k) (decide (k≤3)) N M E=ct at*;generalize aT (rdN k) (dgN k) (dY N M E)=pw at*;generalize cH (rdN k) (dgN k) (lsI k) (decide (k≤3)) N M E=wh at*;generalize gF (rdN k) (dgN k) (lsI k) (decide (k≤3)) N M E=lf at*;generalize hcPe:gD (rdN k) (dgN k) dg ct=cp at*;generalize hcDe:io (rdN k) (dgN k) dg=cd at*;have hpos: ¬k≤3→cd≠0:=fun h c=>by
  have:=hwp (hcut.2 h);have:=hdz.1 c;omega
 refine⟨⟨fun hf hl=> ?_,fun hf ho hu he=> ?_,fun ho hd=> ?_,hlen,fun ho=> ?_⟩,fun hd=>if_pos hd,fun ho hnl hd=> ?_⟩
 ·simp only at hl
  have h3:=hfk.1 hf;have:=hcut.1 h3
  exfalso
  split at hl<;>omega
 ·simp only at ho hu he⊢
  have h3: ¬k≤3:=fun c=>hf (hfk.2 c)
  have e1:=hdn (of_decide_eq_true he);have e2:=hcut.2 h3;have e3:=of_decide_eq_true hu;rw[if_neg (hpos h3)];rw[e1,hds.2] at hcPe;omega
 ·exact hfk.2 (Decidable.byContradiction fun h3=>hpos h3 hd)
 ·simp only at ho⊢
  have hG:=of_decide_eq_false ho
  by_cases h3:k≤3
  ·have:=hcut.1 h3
   right
   split<;>omega
  ·rw[if_neg (hpos h3)]
   have e2:=hcut.2 h3
   by_cases hl:cp<lsI k
   ·left
    exact⟨decide_eq_true (by omega),hl⟩
   ·right
    omega
 ·simp only at ho hnl hd⊢
  rw[if_neg hd] at hnl⊢
  by_cases h3:k≤3
  ·have:=hrs ho (.inr (decide_eq_true h3))
   rw[if_neg hd] at this;exact this
  ·by_cases hu:pw<lsI k
   ·have e2:=hcut.2 h3
    have hl: ¬cp<lsI k:=fun c=>hnl ⟨decide_eq_true hu,c⟩
    have hG:=of_decide_eq_false ho;obtain⟨c1,c2⟩:=hcP.resolve_left (by omega);exact .inr ⟨hd,by omega,by omega,hcl,.inl (by omega)⟩
   ·have:=hrs ho (.inl (decide_eq_false hu))
    rw[if_neg hd] at this;exact this
def SameV (k:Nat)(r:ByteArray×Int×Int)(v:Int×Bool×ak×Int):Prop:=
 r.2.2=0∧r.2.1=v.2.2.2∧ ∀so sc w,Rd w .i64 (yS so v.2.2.1.n sc) (Dg.dg 65536 v.2.2.1.n)→yC 43 #[yi k,yoV v.1 v.2.1 v.2.2.1.s (yS so v.2.2.1.n sc) v.2.2.1.e] w (yR w (.string r.1))
theorem same_num {k:Nat}(hk:1≤k∧k≤8)(g:Bool){m:Nat}{p:Int}(fl:Int)(hm:m≠0)(hs:ia (rdN k) (dgN k) (lsI k) (gsI k) (decide (k≤3)) m p):SameV k (Dw k 2 g m p fl) (2,g,bare ⟨g,m,(ai (rdN k):Int)*p⟩,fl):=by
 obtain⟨-,-,d1,-,-,-,lg,-,w64,-,-,hg⟩:=eR hk;obtain⟨l15,p1,p2,w1',w2',t480⟩:=qj hg hs;have hh:=mI (s:=g) hg hs;have hc:chk (Dg.dg 4294967296 m)=0:=pJ (Dg.norm_dg _ _ (by omega)) (by omega);have hl0:(Dg.dg 4294967296 m).length≠0:=fun c=>hm ((Dg.dg_nil_iff 4294967296 _ (by omega)).1 (List.length_eq_zero_iff.1 c))
 have hsh:=Af (s:=g) hg hs;have hb0:(bare ⟨g,m,(ai (rdN k):Int)*p⟩).n≠0:=fun c=>hm ((fI _).1 c)
 have hbs:(bare ⟨g,m,(ai (rdN k):Int)*p⟩).s=g:=by unfold bare;rw[if_neg hm]
 have hE:enE k g (Dg.dg 4294967296 m) p=0:=by
  rw[mY hk hc hl0 (by omega),Dg.vl_dg _ _ (by omega),jK _ _ lg];rw[nN _ _ lg] at hh;rw[hh,if_pos rfl]
 have hS:fq k 2 g (Dg.dg 4294967296 m) p=cF (kU k g (heE (rdN k) (lsI k) (gW k) (plT k g (bare ⟨g,m,(ai (rdN k):Int)*p⟩).n (bare ⟨g,m,(ai (rdN k):Int)*p⟩).e)) (plT k g (bare ⟨g,m,(ai (rdN k):Int)*p⟩).n (bare ⟨g,m,(ai (rdN k):Int)*p⟩).e).d):=by
  have hN:enN k g (Dg.dg 4294967296 m) p=(bare ⟨g,m,(ai (rdN k):Int)*p⟩,0):=hsh;have hps:(plT k g (bare ⟨g,m,(ai (rdN k):Int)*p⟩).n (bare ⟨g,m,(ai (rdN k):Int)*p⟩).e).s=g:=(oj (s:=g) (way:=3) (by omega) lg hb0 hh).1;rw[(xH hk hc).2];unfold enS;rw[if_pos hE,hN];simp only;rw[hbs,hps]
 unfold Dw;rw[(xH hk hc).1,hE,if_pos rfl,hS];refine⟨rfl,rfl,fun so sc w hr=> ?_⟩
 simp only at hr⊢;have hbn:=kR ⟨g,m,(ai (rdN k):Int)*p⟩;obtain⟨b1,b2,b3⟩:=gN (t:=⟨g,m,(ai (rdN k):Int)*p⟩) hm;simp only at b2 hbn;have hlen:(Dg.dg 65536 (bare ⟨g,m,(ai (rdN k):Int)*p⟩).n).length≤20000:=by
  have hlt:m<4294967296^15:=by
   have:=Dg.vl_lt 4294967296 _ (Dg.small_dg 4294967296 m (by omega));rw[Dg.vl_dg _ _ (by omega)] at this;exact Nat.lt_of_lt_of_le this (Nat.pow_le_pow_right (by omega) l15)
  refine Nat.le_trans (Dg.dg_len_le 65536 _ 30 (by omega) (Nat.lt_of_le_of_lt hbn (Nat.lt_of_lt_of_le hlt ?_))) (by omega);exact Nat.le_of_eq (by rw[show(4294967296:Nat)=65536^2 from rfl,←Nat.pow_mul])
 exact Bu k hk g g _ so _ sc _ w hr hlen (by omega) (by omega) hb0 hh
theorem same_oth {k:Nat}(hk:1≤k∧k≤8){c:Nat}(hc:c=1∨c=3∨c=4∨c=5)(g:Bool)(fl:Int)(hs:iR k c=true)(hg:g=true→Bk k c=true):SameV k (Dw k c g 0 0 fl) ((c:Int),g,⟨false,0,0⟩,fl):=by
 have hf: ¬(dK k=0∨(c:Int)<1∨5< (c:Int)):=by
  rcases qt hk with h|h|h<;>omega
 have ho:qX k c 0 g 0=0:=by
  unfold qX;rw[if_neg (by rw[hs];decide),if_neg];rintro(h|h|h)
  ·omega
  ·exact h rfl
  ·rw[hg h.1] at h
   exact absurd h.2 (by decide)
 have hE:gI k c g (Dg.dg 4294967296 0) 0=0:=by
  unfold gI;rw[if_neg hf,if_neg (fun h=>h (by decide)),if_neg (by omega),Int.toNat_natCast,Int.toNat_natCast]
  exact ho
 have hS:fq k c g (Dg.dg 4294967296 0) 0=cF (kU k (pI k c||g) (pg k c) (lS k c)):=by
  unfold fq Fv;rw[if_neg hf,if_neg (fun h=>h (by decide)),if_neg (by omega),Int.toNat_natCast,Int.toNat_natCast]
  exact if_pos ho
 unfold Dw;rw[hE,if_pos rfl,hS];exact⟨rfl,rfl,fun so sc w hr=>Bt k c hk hc hs g false so 0 sc 0 w⟩
theorem same_plc {k:Nat}(hk:1≤k∧k≤8)(wy:Int)(P:fz)(h:Rnd k P):SameV k (Dw k (pG k wy P).1 (pG k wy P).2.1 (pG k wy P).2.2.1 (pG k wy P).2.2.2.1 (bits .or .i64 0 (pG k wy P).2.2.2.2)) (plV k wy P):=by
 have hp1:rdN k^dgN k-1≠0:=by
  rcases bO hk with rfl|rfl|rfl|rfl|rfl|rfl|rfl|rfl<;>decide
 have b5:bits .or .i64 0 5=5:=rfl;have b3:bits .or .i64 0 3=3:=rfl;unfold pG plV
 by_cases ho:P.ov=true
 ·simp only[if_pos ho]
  unfold ovV;rw[b5]
  rcases qt hk with hf|hf|hf
  ·have h3: ¬dK k=3:=by omega
   simp only[if_neg h3]
   by_cases hb:aaV wy P.s=true
   ·have hc:dK k=1∧aaV wy P.s=true:=⟨hf,hb⟩
    simp only[if_pos hc];have h3:=(fam_one hk).1 hf;exact same_oth hk (c:=3) (by decide) P.s 5 (by simp[iR,h3]) (fun _=>rfl)
   ·have hc: ¬(dK k=1∧aaV wy P.s=true):=fun c=>hb c.2
    simp only[if_neg hc];exact same_num hk P.s 5 hp1 (EV hk)
  ·have h3: ¬dK k=3:=by omega
   have hc: ¬(dK k=1∧aaV wy P.s=true):=fun c=>by omega
   simp only[if_neg h3,if_neg hc];exact same_num hk P.s 5 hp1 (EV hk)
  ·simp only[if_pos hf]
   have h6:6≤k:=by
    revert hf
    rcases bO hk with rfl|rfl|rfl|rfl|rfl|rfl|rfl|rfl<;>decide
   exact same_oth hk (c:=5) (by decide) false 5 (by simp[iR,h6]) (fun c=>by cases c)
 simp only[if_neg ho]
 by_cases hl:P.un=true∧P.p<lsI k
 ·simp only[if_pos hl]
  rw[b3];exact same_oth hk (c:=1) (by decide) false 3 rfl (fun c=>by cases c)
 simp only[if_neg hl];have hfl:bits .or .i64 0 (if P.ex=true then 0 else if P.un=true then 3 else 1)=(if P.ex=true then 0 else if P.un=true then 3 else 1):=by
  split
  ·rfl
  ·split<;>rfl
 rw[hfl]
 by_cases hd:P.d=0
 ·simp only[if_pos hd]
  rw[hd,h.nil0 hd];have h3:=(fam_one hk).1 (h.plc.nil (by simpa using ho) hd);exact same_oth hk (c:=1) (by decide) P.s _ rfl (fun _=>by simp[Bk];omega)
 ·simp only[if_neg hd]
  exact same_num hk P.s _ hd (h.spot (by simpa using ho) hl hd)
theorem rd_one16 {w:World}{q:Nat}(h:w.cell? ⟨q,0,none⟩=some (yi 1)):Rd w .i64 (.slice (some ⟨q,0,none⟩) 1 1) [1]:=
 ⟨_,1,rfl,Nat.le_refl _,by unfold maxLen;omega,fun _=>⟨q,0,rfl,fun i hi=>by
  obtain rfl:i=0:=by simpa using hi
  exact h⟩⟩
theorem aaY (n c fl:Int)(g:Bool)(t:ak)(so:Option Addr)(sc:Nat)(st:ByteArray)(w:World)
  (HE:yH w 43 #[yi n,yEV c g t so sc] (.string st)):
  yC 18 #[yi n,.string st,yi fl,yi 0,yi 0,yEV c g t so sc,yi fl] w (yR w (.bool true)):=by
 replace HE:Hid _:=HE;obtain⟨W3,hW4,q1,b2⟩:=cA w (yEL c g t so sc) 49;replace hW4:Hid _:=hW4
 go_enter func18,ntmps18
 go_upto_region 1 with fail
 rw[hW4.out];clear hW4;obtain⟨c5,c6,c7,c8,c9⟩:=q1.cs5
 go_wp2_with fail
 refine(HE.out _ b2).mono ?_;rintro zz w10 ⟨rfl,bb11⟩;have b12:=aa b2 bb11;clear q1 b2 bb11 HE c5 c6 c7 c8 c9
 go_wp2
 go_ret
 exact⟨by simp,b12⟩
theorem aal (n c e wt:Int)(g:Bool)(t:ak)(so:Option Addr)(sc:Nat)(w:World)(he:(e==0)=false):
  yC 18 #[yi n,.string ⟨#[]⟩,yi 0,yi e,yi e,yEV c g t so sc,yi wt] w (yR w (.bool true)):=by
 obtain⟨W3,hW4,q1,b2⟩:=cA w (yEL c g t so sc) 49;replace hW4:Hid _:=hW4;clear q1
 go_enter func18,ntmps18
 go_upto_region 1 with fail
 rw[hW4.out];clear hW4
 go_wp2
 go_ret
 exact⟨by simp,b2⟩
theorem pat_ok {k:Nat}{r:ByteArray×Int×Int}{v:Int×Bool×ak×Int}(h:SameV k r v)(so:Option Addr)(sc:Nat)(w:World)(hr:Rd w .i64 (yS so v.2.2.1.n sc) (Dg.dg 65536 v.2.2.1.n)):yC 18 #[yi k,.string r.1,yi r.2.1,yi r.2.2,yi 0,yoV v.1 v.2.1 v.2.2.1.s (yS so v.2.2.1.n sc) v.2.2.1.e,yi v.2.2.2] w (yR w (.bool true)):=by
 obtain⟨h1,h2,h3⟩:=h;rw[h1,h2];exact aaY k _ _ _ v.2.2.1 so sc r.1 w (fun w1 b=>h3 so sc w1 (hr.l b))
theorem UI {d k L:Nat}(h:d≤2^k)(hk:k+1≤16*L):(Dg.dg 65536 d).length≤L:=by
 refine Dg.dg_len_le 65536 _ _ (by omega) (Nat.lt_of_le_of_lt h ?_);rw[show(65536:Nat)=2^16 from by decide,←Nat.pow_mul]
 exact Nat.pow_lt_pow_right (by omega) (by omega)
end Go.Proofs.YtpgijbdgljkeeaaGreatDoor

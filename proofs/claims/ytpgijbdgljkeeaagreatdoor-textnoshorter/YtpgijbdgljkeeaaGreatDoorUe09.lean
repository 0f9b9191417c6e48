/-
  Texts laid together: Ty4, Ty5, Ps1, Ps2, Oa3, Ty6, Ty9.
-/
import Derived.Test.YtpgijbdgljkeeaaGreatDoorUe06
set_option maxRecDepth 100000
set_option maxHeartbeats 3200000
namespace Go.Proofs.YtpgijbdgljkeeaaGreatDoor
open _root_.Go.Proofs.Tryz
open Go.RowKit
theorem rt_same {n d a B:Nat}(hd:0<d)(hB:0<B)(h:n*B=a*d):n/d=a/B∧n % d*B=a % B*d:=by
 have e1:a=B*(a/B)+a % B:=(Nat.div_add_mod a B).symm;have e2:a % B<B:=Nat.mod_lt _ hB;generalize a/B=q at e1⊢;generalize a % B=r at e1 e2⊢;have h2:n*B=d*q*B+r*d:=by rw[h,e1,Nat.add_mul];congr 1;ac_rfl
 have h3:d*q≤n:=Nat.le_of_mul_le_mul_right (c:=B) (by omega) hB;obtain⟨s,rfl⟩: ∃s,n=d*q+s:=⟨n-d*q,by omega⟩;have h4:s*B=r*d:=by rw[Nat.add_mul] at h2;omega
 have h5:s<d:=by
  refine Nat.lt_of_mul_lt_mul_right (a:=B) ?_;rw[h4,Nat.mul_comm d];exact Nat.mul_lt_mul_of_pos_right e2 hd
 refine⟨?_, ?_⟩
 ·rw[Nat.mul_add_div hd,Nat.div_eq_of_lt h5,Nat.add_zero]
 ·rw[Nat.mul_add_mod,Nat.mod_eq_of_lt h5,h4]
theorem half_same {a b j H:Nat}(hb:0<b)(hj:1≤j)(hH:H=if 0<a % b then a/b*2+1 else a/b*2):
  H/(10^j*2)=a/(b*10^j)∧(10^j*2<H % (10^j*2)*2↔b*10^j<a % (b*10^j)*2)∧(H % (10^j*2)*2=10^j*2↔a % (b*10^j)*2=b*10^j):=by
 obtain⟨i,rfl⟩: ∃i,j=i+1:=⟨j-1,by omega⟩;have eT:10^ (i+1)=2*(5*10^i):=by rw[Nat.pow_succ];omega
 have hT:0<5*10^i:=Nat.mul_pos (by omega) (Nat.pow_pos (by omega));rw[eT];generalize 5*10^i=T at hT⊢;have e1:a=b*(a/b)+a % b:=(Nat.div_add_mod a b).symm;have e2:a % b<b:=Nat.mod_lt _ hb;have hq:a/(b*(2*T))=a/b/(2*T):=(Nat.div_div_eq_div_mul _ _ _).symm;have hm:a % (b*(2*T))=a % b+b*(a/b % (2*T)):=Nat.mod_mul;rw[hq,hm];generalize a/b=W at e1 hH⊢;generalize a % b=r at e1 e2 hH⊢;have f1:W=2*T*(W/(2*T))+W % (2*T):=(Nat.div_add_mod _ _).symm;have f2:W % (2*T)<2*T:=Nat.mod_lt _ (by omega);generalize W/(2*T)=q at f1⊢;generalize W % (2*T)=m at f1 f2⊢;obtain⟨l,hl,hl2,hH⟩: ∃l,l≤1∧(l=0↔r=0)∧H=W*2+l:=by
  by_cases c:0<r
  ·exact⟨1,by omega,by omega,by rw[hH,if_pos c]⟩
  ·exact⟨0,by omega,by omega,by rw[hH,if_neg c];rfl⟩
 have g:H=2*T*2*q+(m*2+l):=by
  rw[hH];have:W*2=2*T*2*q+m*2:=by
   have:2*T*2*q=2*(2*T*q):=by ac_rfl
   omega
  omega
 have g2:m*2+l<2*T*2:=by omega
 have k1:H/(2*T*2)=q:=by rw[g,Nat.mul_add_div (by omega),Nat.div_eq_of_lt g2,Nat.add_zero]
 have k2:H % (2*T*2)=m*2+l:=by rw[g,Nat.mul_add_mod,Nat.mod_eq_of_lt g2]
 rw[k1,k2];have n1:b*(2*T)=2*(b*T):=by ac_rfl
 rw[n1];refine⟨rfl, ?_, ?_⟩
 ·constructor
  ·intro h
   have:T≤m:=by omega
   rcases Nat.lt_or_ge T m with c|c
   ·have:=Nat.mul_le_mul_left b c
    rw[Nat.mul_succ] at this;omega
   ·obtain rfl:T=m:=by omega
    have:0<r:=by omega
    omega
  ·intro h
   rcases Nat.lt_or_ge m T with c|c
   ·have:=Nat.mul_le_mul_left b c
    rw[Nat.mul_succ] at this;omega
   ·rcases Nat.lt_or_ge T m with d|d
    ·omega
    ·obtain rfl:T=m:=by omega
     have:0<r:=by omega
     omega
 ·constructor
  ·intro h
   obtain rfl:l=0:=by omega
   obtain rfl:r=0:=hl2.1 rfl;obtain rfl:m=T:=by omega
   omega
  ·intro h
   rcases Nat.lt_trichotomy m T with c|c|c
   ·have:=Nat.mul_le_mul_left b c
    rw[Nat.mul_succ] at this;omega
   ·subst c
    have:r=0:=by omega
    have:l=0:=hl2.2 this;omega
   ·have:=Nat.mul_le_mul_left b c
    rw[Nat.mul_succ] at this;omega
theorem dg_cross (xn:Nat)(e n:Int):scA xn e n*2^ (-e).toNat*10^ (-n).toNat=xn*2^e.toNat*scB e n*10^n.toNat:=by
 unfold scA scB;obtain⟨np,h1⟩: ∃k,n.toNat=k:=⟨_,rfl⟩;obtain⟨nm,h2⟩: ∃k,(-n).toNat=k:=⟨_,rfl⟩;obtain⟨ep,h3⟩: ∃k,e.toNat=k:=⟨_,rfl⟩;obtain⟨em,h4⟩: ∃k,(-e).toNat=k:=⟨_,rfl⟩;obtain⟨tp,h5⟩: ∃k,(e+n).toNat=k:=⟨_,rfl⟩;obtain⟨tm,h6⟩: ∃k,(-(e+n)).toNat=k:=⟨_,rfl⟩;rw[h1,h2,h3,h4,h5,h6];have a1:tp+em+nm=ep+tm+np:=by omega
 clear h1 h2 h3 h4 h5 h6;rw[ten_parts nm,ten_parts np];have l:xn*5^np*2^tp*2^em*(2^nm*5^nm)=xn*2^ (tp+em+nm)*5^ (np+nm):=by
  simp only[Nat.pow_add]
  ac_rfl
 have r:xn*2^ep*(5^nm*2^tm)*(2^np*5^np)=xn*2^ (ep+tm+np)*5^ (np+nm):=by
  simp only[Nat.pow_add]
  ac_rfl
 rw[l,r,a1]
theorem dg_less {N D a b C:Nat}{n p:Int}(hb:0<b)(hc:a*D*10^ (-n).toNat=N*b*10^n.toNat)(hW:a/b<10^C)(hW1:10^ (C-1)≤a/b)(hC:1≤C)(hD:0<D):
  N*10^ (-p).toNat<D*10^p.toNat↔(C:Int)-n≤p:=by
 have hT: ∀k,0<10^k:=fun k=>Nat.pow_pos (by omega)
 have key:N*10^ (-p).toNat<D*10^p.toNat↔a*10^ (-(n+p)).toNat<b*10^ (n+p).toNat:=by
  obtain⟨np,h1⟩: ∃k,n.toNat=k:=⟨_,rfl⟩;obtain⟨nm,h2⟩: ∃k,(-n).toNat=k:=⟨_,rfl⟩;obtain⟨pp,h3⟩: ∃k,p.toNat=k:=⟨_,rfl⟩;obtain⟨pm,h4⟩: ∃k,(-p).toNat=k:=⟨_,rfl⟩;obtain⟨tp,h5⟩: ∃k,(n+p).toNat=k:=⟨_,rfl⟩;obtain⟨tm,h6⟩: ∃k,(-(n+p)).toNat=k:=⟨_,rfl⟩;rw[h1,h2] at hc;rw[h3,h4,h5,h6];have a1:nm+pm+tp=np+pp+tm:=by omega
  clear h1 h2 h3 h4 h5 h6;have s1:N*10^pm<D*10^pp↔N*10^pm*(b*10^np*10^tp)<D*10^pp*(b*10^np*10^tp):=
   (Nat.mul_lt_mul_right (Nat.mul_pos (Nat.mul_pos hb (hT _)) (hT _))).symm
  have s2:a*10^tm<b*10^tp↔a*10^tm*(D*10^pp*10^np)<b*10^tp*(D*10^pp*10^np):=
   (Nat.mul_lt_mul_right (Nat.mul_pos (Nat.mul_pos hD (hT _)) (hT _))).symm
  rw[s1,s2];have e1:N*10^pm*(b*10^np*10^tp)=a*10^tm*(D*10^pp*10^np):=by
   have:N*10^pm*(b*10^np*10^tp)=(N*b*10^np)*(10^pm*10^tp):=by ac_rfl
   rw[this,←hc];have:a*D*10^nm*(10^pm*10^tp)=a*D*10^ (nm+pm+tp):=by
    rw[Nat.pow_add,Nat.pow_add];ac_rfl
   rw[this,a1,Nat.pow_add,Nat.pow_add]
   ac_rfl
  have e2:D*10^pp*(b*10^np*10^tp)=b*10^tp*(D*10^pp*10^np):=by ac_rfl
  rw[e1,e2]
 rw[key]
 by_cases hq:0≤n+p
 ·obtain⟨q,hq⟩: ∃q:Nat,n+p=q:=⟨(n+p).toNat,by omega⟩
  rw[hq,show(-(q:Int)).toNat=0 by omega,Int.toNat_natCast,Nat.pow_zero,Nat.mul_one,Nat.mul_comm,←Nat.div_lt_iff_lt_mul hb]
  constructor
  ·intro h
   have:10^ (C-1)<10^q:=Nat.lt_of_le_of_lt hW1 h;have:=(Nat.pow_lt_pow_iff_right (by omega:1<10)).1 this;omega
  ·intro h
   exact Nat.lt_of_lt_of_le hW (Nat.pow_le_pow_right (by omega) (by omega))
 ·rw[show(n+p).toNat=0 by omega,Nat.pow_zero,Nat.mul_one]
  constructor
  ·intro h
   have h2:a<b:=Nat.lt_of_le_of_lt (Nat.le_mul_of_pos_right _ (hT _)) h;rw[Nat.div_eq_of_lt h2] at hW1;exact absurd hW1 (by have:=hT (C-1);omega)
  ·intro h
   omega
theorem dg_ratio {N D a b C k:Nat}{n P:Int}(hc:a*D*10^ (-n).toNat=N*b*10^n.toNat)(hP:P=(C:Int)-n-1)(hk:k≤C):
  (N*10^ ((k:Int)-1-P).toNat)*(b*10^ (C-k))=a*(D*10^ (-((k:Int)-1-P)).toNat):=by
 have hT: ∀k,0<10^k:=fun k=>Nat.pow_pos (by omega)
 obtain⟨np,h1⟩: ∃k,n.toNat=k:=⟨_,rfl⟩;obtain⟨nm,h2⟩: ∃k,(-n).toNat=k:=⟨_,rfl⟩;obtain⟨up,h3⟩: ∃j,((k:Int)-1-P).toNat=j:=⟨_,rfl⟩;obtain⟨um,h4⟩: ∃j,(-((k:Int)-1-P)).toNat=j:=⟨_,rfl⟩;rw[h1,h2] at hc;rw[h3,h4];have a1:up+(C-k)+nm=um+np:=by omega
 clear h1 h2 h3 h4;refine Nat.eq_of_mul_eq_mul_right (hT (np+nm)) ?_;rw[Nat.pow_add];have e1:N*10^up*(b*10^ (C-k))*(10^np*10^nm)=N*b*10^np*10^ (up+(C-k)+nm):=by
  rw[Nat.pow_add,Nat.pow_add];ac_rfl
 rw[e1,←hc,a1,Nat.pow_add]
 ac_rfl
theorem decS_low {W:Nat}(h:W≠0):10^ ((oW W).size-1)≤W:=by
 unfold oW;rw[if_neg h,fS,List.length_reverse,List.length_map];have:=Dg.vl_ge 10 (Dg.dg 10 W) (fun c=>h ((Dg.dg_nil_iff 10 _ (by omega)).1 c)) (Dg.norm_dg _ _ (by omega))
 rwa [Dg.vl_dg _ _ (by omega)] at this
theorem pow2_ten {k q:Nat}(h:k≤13*q):2^k≤10^ (4*q):=by
 refine Nat.le_trans (Nat.pow_le_pow_right (by omega) h) ?_;rw[Nat.pow_mul,Nat.pow_mul];exact Nat.pow_le_pow_left (by decide) q
def dqN (x:ak):Nat:=x.n*2^x.e.toNat
def dqD (x:ak):Nat:=2^ (-x.e).toNat
def dgS (x:ak)(k:Nat):ByteArray:=if k< (oW (prQ (dcH x) (dcC x) k)).size then(oW (prQ (dcH x) (dcC x) k)).extract 0 k else oW (prQ (dcH x) (dcC x) k)
theorem dqN_in {x:ak}{a c:Nat}(ha:a=64)(hc:c=16564)(hx:x.n<2^a)(e1: -16500≤x.e)(e2:x.e≤16500):dqN x<2^c∧dqD x≤2^c∧0<dqD x:=by
 obtain⟨f,hf⟩: ∃f,f=16500:=⟨_,rfl⟩;refine⟨?_, ?_,Nat.pow_pos (by omega)⟩
 ·have:2^c=2^a*2^f:=by rw[←Nat.pow_add];congr 1;omega
  rw[this];exact Nat.mul_lt_mul_of_lt_of_le hx (Nat.pow_le_pow_right (by omega) (by omega)) (Nat.pow_pos (by omega))
 ·exact Nat.pow_le_pow_right (by omega) (by omega)
theorem dc_less {x:ak}(hx:x.n<2^64)(e1: -16500≤x.e)(e2:x.e≤16500)(h0:x.n≠0)(p:Int):dqN x*10^ (-p).toNat<dqD x*10^p.toNat↔dcP x<p:=by
 have hm:=dc_many hx e1 e2 h0;have hT:0<10^60:=Nat.pow_pos (by omega);have h1:10^ (dcC x-1)≤dcW x:=decS_low (by omega);have h2:dcW x<10^dcC x:=decS_big;have h3:1≤dcC x:=decS_one _;have:=dg_less (p:=p) (n:=60-dcG x) (C:=dcC x) (show 0<scB x.e (60-dcG x) from Nat.mul_pos (Nat.pow_pos (by omega)) (Nat.pow_pos (by omega))) (dg_cross x.n x.e (60-dcG x)) h2 h1 h3 (show 0<2^ (-x.e).toNat from Nat.pow_pos (by omega))
 unfold dqN dqD;rw[this];unfold dcP;omega
theorem dcP_in {x:ak}(hx:x.n<2^64)(e1: -16500≤x.e)(e2:x.e≤16500)(h0:x.n≠0): -5200≤dcP x∧dcP x≤5200:=by
 obtain⟨a,ha⟩: ∃a,a=64:=⟨_,rfl⟩;obtain⟨c,hc⟩: ∃c,c=16564:=⟨_,rfl⟩;obtain⟨i1,i2,i3⟩:=dqN_in ha hc (by rw[ha];exact hx) e1 e2;have h1:=dc_less hx e1 e2 h0 5200;have h2:=dc_less hx e1 e2 h0 (-5200);obtain⟨q,hq⟩: ∃q,q=1300:=⟨_,rfl⟩;have hp:2^c≤10^ (4*q):=pow2_ten (by omega);rw[show(-(5200:Int)).toNat=0 by decide,show(5200:Int).toNat=4*q by omega,Nat.pow_zero,Nat.mul_one] at h1
 rw[show(-(-5200:Int)).toNat=4*q by omega,show(-5200:Int).toNat=0 by decide,Nat.pow_zero,Nat.mul_one] at h2
 constructor
 ·rcases Int.lt_or_le (dcP x) (-5200) with d|d
  ·have:=h2.2 d
   have h5:1≤dqN x:=Nat.mul_pos (Nat.pos_of_ne_zero h0) (Nat.pow_pos (by omega));have:=Nat.mul_le_mul h5 hp;omega
  ·exact d
 ·have:dqN x<dqD x*10^ (4*q):=Nat.lt_of_lt_of_le i1 (Nat.le_trans hp (Nat.le_mul_of_pos_left _ i3))
  have:=h1.1 this;omega
theorem dg_round {x:ak}{k:Nat}(hx:x.n<2^64)(e1: -16500≤x.e)(e2:x.e≤16500)(h0:x.n≠0)(hk1:1≤k)(hk2:k≤60){n2 d2:Nat}(hn2:n2=dqN x*10^ ((k:Int)-1-dcP x).toNat)(hd2:d2=dqD x*10^ (-((k:Int)-1-dcP x)).toNat):
  n2/d2≠0∧((0<dm (n2 % d2*2:Nat) (d2:Nat)∧prQ (dcH x) (dcC x) k=n2/d2+1)∨(dm (n2 % d2*2:Nat) (d2:Nat)=0∧n2/d2 % 2=1∧prQ (dcH x) (dcC x) k=n2/d2+1)∨(dm (n2 % d2*2:Nat) (d2:Nat)=0∧n2/d2 % 2=0∧prQ (dcH x) (dcC x) k=n2/d2)∨(dm (n2 % d2*2:Nat) (d2:Nat)<0∧prQ (dcH x) (dcC x) k=n2/d2)):=by
 have hm:=dc_many hx e1 e2 h0;have hC:61≤dcC x:=by
  rcases Nat.lt_or_ge (dcC x) 61 with c|c
  ·have h2:dcW x<10^dcC x:=decS_big
   have:=Nat.pow_le_pow_right (n:=10) (by omega) (show dcC x≤60 by omega)
   omega
  ·exact c
 have hb:0<scB x.e (60-dcG x):=Nat.mul_pos (Nat.pow_pos (by omega)) (Nat.pow_pos (by omega));have hD:0<d2:=by rw[hd2];exact Nat.mul_pos (Nat.pow_pos (by omega)) (Nat.pow_pos (by omega))
 have hR:=dg_ratio (k:=k) (n:=60-dcG x) (P:=dcP x) (C:=dcC x) (dg_cross x.n x.e (60-dcG x)) (by unfold dcP;omega) (by omega);have hR':n2*(scB x.e (60-dcG x)*10^ (dcC x-k))=scA x.n x.e (60-dcG x)*d2:=by rw[hn2,hd2];exact hR
 have hW:dcW x=scA x.n x.e (60-dcG x)/scB x.e (60-dcG x):=rfl;have hH:dcH x=if 0<scA x.n x.e (60-dcG x) % scB x.e (60-dcG x) then scA x.n x.e (60-dcG x)/scB x.e (60-dcG x)*2+1 else scA x.n x.e (60-dcG x)/scB x.e (60-dcG x)*2:=by
  unfold dcH dcL dcW
  by_cases c:0<scA x.n x.e (60-dcG x) % scB x.e (60-dcG x)
  ·rw[if_pos c,if_pos (decide_eq_true ?_)]
   rcases Nat.eq_zero_or_pos (Dg.dg 4294967296 (scA x.n x.e (60-dcG x) % scB x.e (60-dcG x))).length with d|d
   ·have:=(Dg.dg_nil_iff 4294967296 _ (by omega)).1 (List.length_eq_zero_iff.1 d)
    omega
   ·exact d
  ·rw[if_neg c,if_neg]
   have:scA x.n x.e (60-dcG x) % scB x.e (60-dcG x)=0:=by omega
   rw[this]
   decide
 have hW2:10^ (dcC x-1)≤scA x.n x.e (60-dcG x)/scB x.e (60-dcG x):=by
  have:dcW x≠0:=fun c=>by
   have hT:0<10^60:=Nat.pow_pos (by omega);omega
  exact decS_low this
 clear hm hW;generalize scA x.n x.e (60-dcG x)=a at hR' hH hW2;generalize scB x.e (60-dcG x)=b at hb hR' hH hW2;obtain⟨s1,s2⟩:=rt_same hD (Nat.mul_pos hb (Nat.pow_pos (by omega))) hR';obtain⟨t1,t2,t3⟩:=half_same hb (show 1≤dcC x-k by omega) hH
 have hB0:0<b*10^ (dcC x-k):=Nat.mul_pos hb (Nat.pow_pos (by omega));have u: ∀m,m=n2 % d2*2*(b*10^ (dcC x-k))→m=a % (b*10^ (dcC x-k))*2*d2:=fun m h=>by
  rw[h,Nat.mul_right_comm,s2,Nat.mul_right_comm]
 have u1:=u _ rfl;have v2:d2<n2 % d2*2↔b*10^ (dcC x-k)<a % (b*10^ (dcC x-k))*2:=by
  rw[←Nat.mul_lt_mul_right hB0,u1,Nat.mul_comm d2,Nat.mul_lt_mul_right hD]
 have v3:n2 % d2*2=d2↔a % (b*10^ (dcC x-k))*2=b*10^ (dcC x-k):=by
  constructor
  ·intro h
   rw[h] at u1;exact Nat.eq_of_mul_eq_mul_right hD (by rw[←u1,Nat.mul_comm])
  ·intro h
   rw[h] at u1;exact Nat.eq_of_mul_eq_mul_right hB0 (by rw[u1,Nat.mul_comm])
 have e1:dcH x/prU (dcC x) k=n2/d2:=by rw[s1];exact t1
 have e2':prU (dcC x) k<dcH x % prU (dcC x) k*2↔d2<n2 % d2*2:=by rw[v2];exact t2
 have e3:dcH x % prU (dcC x) k*2=prU (dcC x) k↔n2 % d2*2=d2:=by rw[v3];exact t3
 refine⟨?_, ?_⟩
 ·rw[s1,←Nat.div_div_eq_div_mul]
  refine Nat.ne_of_gt (Nat.div_pos (Nat.le_trans (Nat.pow_le_pow_right (by omega) (by omega)) hW2) (Nat.pow_pos (by omega)))
 ·unfold prQ dm
  rw[e1];simp only[e2',e3];generalize n2 % d2*2=m;generalize n2/d2=q
  rcases Nat.lt_trichotomy m d2 with h|h|h
  ·refine .inr (.inr (.inr ⟨by rw[if_pos (by omega)];decide,by rw[if_neg (by omega)]⟩))
  ·have e:(if((m:Nat):Int)< ((d2:Nat):Int) then(-1:Int) else if((d2:Nat):Int)< ((m:Nat):Int) then 1 else 0)=0:=by rw[if_neg (by omega),if_neg (by omega)]
   by_cases ho:q % 2=1
   ·exact .inr (.inl ⟨e,ho,by rw[if_pos (.inr ⟨h,ho⟩)]⟩)
   ·exact .inr (.inr (.inl ⟨e,by omega,by rw[if_neg (by omega)]⟩))
  ·exact .inl ⟨by rw[if_neg (by omega),if_pos (by omega)];decide,by rw[if_pos (.inl h)]⟩
def nuP (S:ByteArray):ByteArray:=if 1<S.size then S.extract 0 1++(⟨#[46]⟩++S.extract 1 S.size) else S.extract 0 1
def nuG (g:Bool)(S:ByteArray):ByteArray:=if g=true then(⟨#[45]⟩:ByteArray)++nuP S else nuP S
def nuS (g:Bool)(S ia:ByteArray):ByteArray:=nuG g S++⟨#[101]⟩++ia
theorem VI (n c:Int)(g:Bool)(s:ByteArray)(w:World)
  (HC:yJ 62 #[yi n,.string s] (.tuple #[yi c,.bool g,yi 0])):
  yC 25 #[yi n,.string s] w (yR w (yi c)):=by
 replace HC:Hid _:=HC
 go_enter func25,ntmps25
 have b0:=Below.refl w.heap.size w
 go_wp2_with fail
 refine(HC.out _).mono ?_;rintro zz w1 ⟨rfl,bb2⟩;have b3:=aa b0 bb2;clear b0 bb2 HC
 go_wp2
 go_ret
 exact⟨rfl,b3⟩
theorem vF n (s:ByteArray)(w:World)(h:dF n s=0):yC 25 #[yi n,.string s] w (yR w (yi ((bM n s:Nat):Int))):=
 VI n _ _ s w (fun w1=>by have:=Jb n s w1;rw[h] at this;exact this)
theorem G5 {k:Nat}(hk:1≤k∧k≤8){p:ByteArray}(h:dF k p=0)(c:bM k p=2):
  (opT k p).n≠0∧(opT k p).s=dz k p∧bare ⟨dz k p,gJ k p,(ai (rdN k):Int)*iF k p⟩=opT k p:=by
 have h0:=(ir hk h).2.2 c;have hc:dh k (aZ k p) (aR k p) (aU k p)=2:=by
  unfold bM at c
  rwa [if_pos h,Int.toNat_natCast] at c
 have e:=(wI (EX hk p (.inr hc))).1;rw[Dg.vl_dg _ _ (by omega)] at e;have e2:opT k p=nxT k p:=by unfold opT;rw[if_pos h,Int.toNat_natCast]
 have hb:bare ⟨dz k p,gJ k p,(ai (rdN k):Int)*iF k p⟩=opT k p:=by
  unfold dz gJ iF;rw[if_pos h,if_pos h,if_pos h,Int.toNat_natCast,e2];exact e.symm
 refine⟨h0, ?_,hb⟩;rw[←hb] at h0⊢;exact qr (fun c=>h0 ((fI _).2 c))
theorem dg_ten {n:Nat}(h:n≠0):Dg.dg 10 n=n % 10::Dg.dg 10 (n/10):=by
 obtain⟨m,rfl⟩: ∃m,n=m+1:=⟨n-1,by omega⟩;have hm:(m+1)/10≤m:=by omega
 have:=Dg.dg_vl 10 (by omega) (Dg.dgF 10 m ((m+1)/10)) (Dg.small_dgF 10 (by omega) _ _) (Dg.norm_dgF 10 (by omega) _ _ hm);rw[Dg.vl_dgF 10 (by omega) _ _ hm] at this;rw[this]
 show(if m+1=0 then[] else(m+1) % 10::Dg.dgF 10 m ((m+1)/10))=_
 rw[if_neg h]
theorem dec_list (n:Nat):n≠0→((Dg.dg 10 n).map (fun d=>48+d)).reverse.map (fun d=>UInt8.ofNat d)=Lib.decDigits n:=by
 induction n using Nat.strongRecOn with
 |_ n ih=>
  intro h;rw[dg_ten h]
  by_cases h10:n<10
  ·rw[Lib.decDigits_one h10,show n/10=0 by omega,show n % 10=n by omega,Dg.dg_zero]
   rfl
  ·rw[Lib.decDigits,dif_neg h10,←ih (n/10) (by omega) (by omega)]
   simp
theorem decS_list (n:Nat):oW n=⟨(Lib.decDigits n).toArray⟩:=by
 unfold oW
 by_cases h:n=0
 ·subst h
  rw[if_pos rfl,Lib.decDigits_one (by omega)];rfl
 ·rw[if_neg h]
  unfold cF;rw[dec_list n h]
theorem prQ_ge {H C k:Nat}(hH:2*10^ (C-1)≤H)(hk1:1≤k)(hkC:k≤C):10^ (k-1)≤prQ H C k:=by
 have hf:10^ (k-1)≤H/prU C k:=by
  unfold prU;rw[Nat.le_div_iff_mul_le (Nat.mul_pos (Nat.pow_pos (by omega)) (by omega))];refine Nat.le_trans (Nat.le_of_eq ?_) hH;rw[←Nat.mul_assoc,←Nat.pow_add,Nat.mul_comm]
  congr 2
  omega
 unfold prQ
 split<;>omega
theorem dcH_low {x:ak}(hx:x.n<2^64)(e1: -16500≤x.e)(e2:x.e≤16500)(h0:x.n≠0):2*10^ (dcC x-1)≤dcH x:=by
 have hm:=dc_many hx e1 e2 h0;have hT:0<10^60:=Nat.pow_pos (by omega);have h1:10^ (dcC x-1)≤dcW x:=decS_low (by omega);unfold dcH
 split<;>omega
theorem tpT_size {T:ByteArray}{k:Nat}(h:k≤T.size):(tpT T k).size=k:=by
 unfold tpT
 split
 ·rw[ByteArray.size_extract]
  omega
 ·omega
theorem tpP_nuP {T:ByteArray}{k:Nat}(h:k≤T.size)(hk:1≤k):tpP T k=nuP (tpT T k):=by
 unfold tpP nuP;rw[tpT_size h]
 by_cases c:1<k
 ·rw[if_pos c,if_pos c]
  rw[ByteArray.append_assoc]
 ·rw[if_neg c,if_neg c]
  have e:=tpT_size h;obtain rfl:k=1:=by omega
  generalize tpT T 1=S at e;apply ByteArray.ext;rw[ByteArray.data_extract];have:S.data.size=1:=e;rw[←this,Array.extract_size]
theorem prR_nm {x:ak}(g:Bool){k:Nat}(hx:x.n<2^64)(e1: -16500≤x.e)(e2:x.e≤16500)(h0:x.n≠0)(hk1:1≤k)(hk2:k≤60):
  (dgS x k).size=k∧prR g (dcH x) (dcC x) (dcP x) k=nuS g (dgS x k) ⟨(Lib.itoa (prN (dcH x) (dcC x) (dcP x) k)).toArray⟩:=by
 obtain⟨d1,d2,d3,d4,d5⟩:=dc_all hx e1 e2 h0;have hQ:=prQ_ge (k:=k) (dcH_low hx e1 e2 h0) hk1 (by omega);have hs:k≤(oW (prQ (dcH x) (dcC x) k)).size:=by
  have:=Nat.lt_of_le_of_lt hQ decS_big;have:=(Nat.pow_lt_pow_iff_right (by omega:1<10)).1 this;omega
 refine⟨tpT_size hs, ?_⟩;unfold prR tpS nuS tpG nuG;rw[tpP_nuP hs hk1];rfl
theorem powerR_eq {R D t k:Int}(h1:(ai R:Int)*(D-1)+(ai R:Int)*k≤t)(h2:t< (ai R:Int)*D+(ai R:Int)*k):aT R D t=k:=by
 unfold aT;have hw:=(eN R).1;have e1:(D-1+k)*(ai R:Int)≤t:=by rw[Int.mul_comm,Int.mul_add];omega
 have e2:t< (D-1+k+1)*(ai R:Int):=by
  rw[Int.mul_comm,show D-1+k+1=D+k by omega,Int.mul_add];omega
 have a1:D-1+k≤t/(ai R:Int):=(Int.le_ediv_iff_mul_le (by omega)).2 e1;have a2:t/(ai R:Int)<D-1+k+1:=(Int.ediv_lt_iff_lt_mul (by omega)).2 e2;omega
theorem powerR_less {R D t k:Int}(h2:t< (ai R:Int)*(D-1)+(ai R:Int)*k):aT R D t<k:=by
 unfold aT;have hw:=(eN R).1;have e2:t< (D-1+k)*(ai R:Int):=by rw[Int.mul_comm,Int.mul_add];omega
 have a2:t/(ai R:Int)<D-1+k:=(Int.ediv_lt_iff_lt_mul (by omega)).2 e2;omega
theorem goes_up {l B:Nat}{o n:Bool}(h:B<l*2):gY 1 (dm ((l*2:Nat):Int) ((B:Nat):Int)) o n=true:=by
 unfold gY dm;rw[if_pos rfl,if_neg (by omega),if_pos (by omega)];rfl
theorem goes_not {l B:Nat}{o n:Bool}(h:l*2<B):gY 1 (dm ((l*2:Nat):Int) ((B:Nat):Int)) o n=false:=by
 unfold gY dm;rw[if_pos rfl,if_pos (by omega)];rfl
theorem round_out {R D L G E k:Int}{gr qs:Bool}{N M d:Nat}(hc:dj R D L gr N M E=k)(h0:d≠0)
  (hd:(cH R D L gr N M E=d∧gF R D L gr N M E*2<dX M (shP R D L gr N M E))∨(cH R D L gr N M E+1=d∧dX M (shP R D L gr N M E)<gF R D L gr N M E*2)):
  (cI R D L G gr qs N M E 1).s=qs∧(cI R D L G gr qs N M E 1).d=io R D d∧(cI R D L G gr qs N M E 1).p=gD R D d k∧(cI R D L G gr qs N M E 1).ov=decide (G<gD R D d k):=by
 have hg:fM R D L gr qs N M E 1=d:=by
  unfold fM rf
  rcases hd with⟨h1,h2⟩| ⟨h1,h2⟩
  ·rw[goes_not h2,if_neg (by rintro⟨-,c⟩;cases c),h1]
  ·rw[goes_up h2,if_pos ⟨decide_eq_false (by omega),rfl⟩,h1]
 unfold cI;rw[hg,if_neg h0,hc];exact⟨rfl,rfl,rfl,rfl⟩
theorem near_round {R D L G E k:Int}{gr qs:Bool}{N M d:Nat}(hD:1≤D)(hN:N≠0)(hM:M≠0)(h0:d≠0)
  (h2:d<2^ (ai R*D.toNat)) (hk:L≤k) (hf:2^ (ai R*(D-1).toNat)≤d∨(gr=true∧k=L))
  (hu:eZ N (E-(ai R:Int)*k)*(2*2^ (ai R*D.toNat))<d*dX M (E-(ai R:Int)*k)*(2*2^ (ai R*D.toNat))+d*dX M (E-(ai R:Int)*k))
  (hl:d*dX M (E-(ai R:Int)*k)*(2*2^ (ai R*D.toNat))<eZ N (E-(ai R:Int)*k)*(2*2^ (ai R*D.toNat))+d*dX M (E-(ai R:Int)*k)):
  (cI R D L G gr qs N M E 1).s=qs∧(cI R D L G gr qs N M E 1).d=d∧(cI R D L G gr qs N M E 1).p=k∧(cI R D L G gr qs N M E 1).ov=decide (G<k):=by
 obtain⟨w1,w4⟩:=eN R;obtain⟨n,hn⟩: ∃n,E-(ai R:Int)*k=n:=⟨_,rfl⟩;rw[hn] at hu hl;have hB:0<dX M n:=by rw[eM];exact Nat.mul_pos (Nat.pos_of_ne_zero hM) (bG _)
 have ht0:=qD N M E;have hge:=fun j=>BD N M n j hN hM
 obtain⟨W,hW⟩: ∃W,ai R=W:=⟨_,rfl⟩;rw[hW] at w1 w4 hn hu hl h2 hf;have eD:((W*D.toNat:Nat):Int)=(W:Int)*D:=by rw[Int.natCast_mul,show((D.toNat:Nat):Int)=D by omega]
 have eD1:((W*(D-1).toNat:Nat):Int)=(W:Int)*(D-1):=by rw[Int.natCast_mul,show(((D-1).toNat:Nat):Int)=D-1 by omega]
 have eT:2^ (W*D.toNat)=2^ (W*(D-1).toNat)*2^W:=by
  rw[←Nat.pow_add,←Nat.mul_succ];congr 2;omega
 have hT2:2≤2^W:=by
  have:2^1≤2^W:=Nat.pow_le_pow_right (by omega) w1;omega
 have hgT:=hge (W*D.toNat);have hg1:=hge (W*(D-1).toNat);have hm0:0<2^ (W*(D-1).toNat):=bG _;have hcar: ∀q,d<2^ (W*D.toNat)→io R D d=d∧gD R D d q=q:=fun q h=>by
  unfold io gD;rw[hW,if_neg (by omega),if_neg (by omega)];exact⟨rfl,rfl⟩
 have same: ∀(hp:(eZ N n/dX M n=d∧eZ N n % dX M n*2<dX M n)∨(eZ N n/dX M n+1=d∧dX M n<eZ N n % dX M n*2)),
   (2^ (W*(D-1).toNat)≤eZ N n/dX M n∨(gr=true∧k=L))→
   (cI R D L G gr qs N M E 1).s=qs∧(cI R D L G gr qs N M E 1).d=d∧(cI R D L G gr qs N M E 1).p=k∧(cI R D L G gr qs N M E 1).ov=decide (G<k):=fun hp hq=>by
  have hlt: ¬2^ (W*D.toNat)≤eZ N n/dX M n:=by omega
  have hc:dj R D L gr N M E=k:=by
   unfold dj
   by_cases c:2^ (W*(D-1).toNat)≤eZ N n/dX M n
   ·have p1:=hg1.1 c
    have p2: ¬((W*D.toNat:Nat):Int)≤dY N M 0+n:=fun x=>hlt (hgT.2 x)
    have:=powerR_eq (R:=R) (D:=D) (k:=k) (t:=dY N M E) (by rw[hW,ht0];omega) (by rw[hW,ht0];omega);rw[this,decide_eq_false (by omega)];rfl
   ·obtain⟨rfl,rfl⟩:=hq.resolve_left c
    have p1: ¬((W*(D-1).toNat:Nat):Int)≤dY N M 0+n:=fun x=>c (hg1.2 x)
    have:=powerR_less (R:=R) (D:=D) (k:=k) (t:=dY N M E) (by rw[hW,ht0];omega);rw[decide_eq_true this];rfl
  have es:shP R D L gr N M E=n:=by
   unfold shP;rw[hc,hW,hn]
  have:=round_out (G:=G) (qs:=qs) hc h0 (by unfold cH gF;rw[es];exact hp);rw[(hcar k h2).1,(hcar k h2).2] at this;exact this
 generalize hA:eZ N n=A at hu hl hge hgT hg1 same;generalize hBb:dX M n=B at hu hl hge hgT hg1 same hB;generalize hTT:2^ (W*D.toNat)=T at hu hl h2 eT hgT hcar same;generalize hmm:2^ (W*(D-1).toNat)=m0 at hf eT hg1 hm0 same;have hdT:d*B≤T*B:=Nat.mul_le_mul_right _ (Nat.le_of_lt h2);have hTpos:0<T:=by omega
 rcases Nat.lt_or_ge A (d*B) with hlt|hge2
 ·obtain⟨s,hs⟩: ∃s,d*B=A+s:=⟨d*B-A,by omega⟩
  have hsp:0<s:=by omega
  have k1:s*(2*T)<d*B:=by
   rw[hs,Nat.add_mul] at hl;rw[hs];omega
  have k2:s*2<B:=by
   refine Nat.lt_of_mul_lt_mul_right (a:=T) ?_
   calc s*2*T=s*(2*T):=by rw[Nat.mul_assoc]
    _<d*B:=k1
    _≤T*B:=hdT
    _=B*T:=Nat.mul_comm _ _
  obtain⟨d',rfl⟩: ∃d',d=d'+1:=⟨d-1,by omega⟩;have eA:A=B*d'+(B-s):=by rw[Nat.succ_mul,Nat.mul_comm d'] at hs;omega
  have q1:A/B=d':=by rw[eA,Nat.mul_add_div hB,Nat.div_eq_of_lt (by omega),Nat.add_zero]
  have q2:A % B=B-s:=by rw[eA,Nat.mul_add_mod,Nat.mod_eq_of_lt (by omega)]
  by_cases c:m0≤d'∨(gr=true∧k=L)
  ·exact same (.inr ⟨by rw[q1],by rw[q2];omega⟩) (by rw[q1];exact c)
  ·have hdm:m0=d'+1:=by
    rcases hf with h|h
    ·have:=fun h=>c (.inl h)
     omega
    ·exact absurd (.inr h) c
   have cg: ¬(gr=true∧k=L):=fun h=>c (.inr h)
   have eK:E-(W:Int)*(k-1)=n+(W:Int):=by rw[Int.mul_sub,Int.mul_one];omega
   have hA':eZ N (n+(W:Int))*B=2^W*A*dX M (n+(W:Int)):=by
    rw[←hA,←hBb,fw,fw,eM,eM];have e1:(n+(W:Int)).toNat+(-n).toNat=W+n.toNat+(-(n+(W:Int))).toNat:=by omega
    have l:N*2^ (n+(W:Int)).toNat*(M*2^ (-n).toNat)=N*M*2^ ((n+(W:Int)).toNat+(-n).toNat):=by rw[Nat.pow_add];ac_rfl
    have r:2^W*(N*2^n.toNat)*(M*2^ (-(n+(W:Int))).toNat)=N*M*2^ (W+n.toNat+(-(n+(W:Int))).toNat):=by rw[Nat.pow_add,Nat.pow_add];ac_rfl
    rw[l,r,e1]
   have hB':0<dX M (n+(W:Int)):=by rw[eM];exact Nat.mul_pos (Nat.pos_of_ne_zero hM) (bG _)
   have hgT':=BD N M (n+(W:Int)) (W*(D-1).toNat) hN hM;rw[hmm] at hgT';generalize hAa':eZ N (n+(W:Int))=A' at hA' hgT';generalize hBb':dX M (n+(W:Int))=B' at hA' hB' hgT';obtain⟨s',hs'⟩: ∃s',s'=T*B'-A':=⟨_,rfl⟩;have f1:T*B'*B=2^W*(d'+1)*B*B':=by rw[eT,hdm];ac_rfl
   have f2:2^W*(d'+1)*B*B'=2^W*A*B'+2^W*s*B':=by rw[Nat.mul_assoc (2^W),hs,Nat.mul_add,Nat.add_mul]
   have f3:A'≤T*B':=Nat.le_of_mul_le_mul_right (c:=B) (by rw[hA',f1,f2];omega) hB;have f4:T*B'=A'+s':=by omega
   have f5:s'*B=2^W*s*B':=by
    have:(A'+s')*B=2^W*A*B'+2^W*s*B':=by rw[←f4,f1,f2]
    rw[Nat.add_mul,hA'] at this;omega
   have f6:2^W*s*2<B:=by
    refine Nat.lt_of_mul_lt_mul_right (a:=d'+1) ?_
    calc 2^W*s*2*(d'+1)=s*(2*((d'+1)*2^W)):=by ac_rfl
     _=s*(2*T):=by rw[eT,hdm]
     _< (d'+1)*B:=k1
     _=B*(d'+1):=Nat.mul_comm _ _
   have f7:s'*2<B':=by
    refine Nat.lt_of_mul_lt_mul_right (a:=B) ?_
    calc s'*2*B=2^W*s*2*B':=by rw[Nat.mul_right_comm,f5];ac_rfl
     _<B*B':=Nat.mul_lt_mul_of_pos_right f6 hB'
     _=B'*B:=Nat.mul_comm _ _
   have f8:0<s':=by
    rcases Nat.eq_zero_or_pos s' with z|z
    ·rw[z,Nat.zero_mul] at f5
     have:=Nat.mul_pos (Nat.mul_pos (bG W) hsp) hB';omega
    ·exact z
   obtain⟨T',rfl⟩: ∃T',T=T'+1:=⟨T-1,by omega⟩;have eA':A'=B'*T'+(B'-s'):=by rw[Nat.succ_mul,Nat.mul_comm T'] at f4;omega
   have r1:A'/B'=T':=by rw[eA',Nat.mul_add_div hB',Nat.div_eq_of_lt (by omega),Nat.add_zero]
   have r2:A' % B'=B'-s':=by rw[eA',Nat.mul_add_mod,Nat.mod_eq_of_lt (by omega)]
   have hmT:m0*2≤T'+1:=by rw[eT];exact Nat.mul_le_mul_left _ hT2
   have p1:=hgT'.1 (by rw[r1];omega);have p2: ¬((W*(D-1).toNat:Nat):Int)≤dY N M 0+n:=fun x=>by
    have:=hg1.2 x;rw[q1] at this;omega
   have eK2:(W:Int)*(k-1)=(W:Int)*k-(W:Int):=by rw[Int.mul_sub,Int.mul_one]
   have eD2:(W:Int)*(D-1)=(W:Int)*D-(W:Int):=by rw[Int.mul_sub,Int.mul_one]
   have hpw:=powerR_eq (R:=R) (D:=D) (k:=k-1) (t:=dY N M E) (by rw[hW,ht0,eK2];omega) (by rw[hW,ht0,eK2];omega);have hc:dj R D L gr N M E=k-1:=by
    unfold dj;rw[hpw]
    by_cases h:k-1<L
    ·have hg:gr=false:=by
      cases gr
      ·rfl
      ·exact absurd ⟨rfl,by omega⟩ cg
     rw[hg,Bool.and_false];rfl
    ·rw[decide_eq_false h]
     rfl
   have es:shP R D L gr N M E=n+(W:Int):=by
    unfold shP;rw[hc,hW];exact eK
   have hwl:cH R D L gr N M E=T'∧gF R D L gr N M E=B'-s'∧dX M (shP R D L gr N M E)=B':=by
    unfold cH gF;rw[es,hBb'];rw[hAa'];exact⟨r1,r2,rfl⟩
   have:=round_out (G:=G) (qs:=qs) hc (show T'+1≠0 by omega) (.inr ⟨by rw[hwl.1],by rw[hwl.2.1,hwl.2.2];omega⟩)
   have hcd:io R D (T'+1)=d'+1∧gD R D (T'+1) (k-1)=k:=by
    unfold io gD;rw[hW,hTT,hmm,if_pos rfl,if_pos rfl];exact⟨hdm,by omega⟩
   rw[hcd.1,hcd.2] at this;exact this
 ·obtain⟨s,rfl⟩: ∃s,A=d*B+s:=⟨A-d*B,by omega⟩
  have k1:s*(2*T)<d*B:=by
   rw[Nat.add_mul] at hu;omega
  have k2:s*2<B:=by
   refine Nat.lt_of_mul_lt_mul_right (a:=T) ?_
   calc s*2*T=s*(2*T):=by rw[Nat.mul_assoc]
    _<d*B:=k1
    _≤T*B:=hdT
    _=B*T:=Nat.mul_comm _ _
  have q1:(d*B+s)/B=d:=by rw[Nat.mul_comm,Nat.mul_add_div hB,Nat.div_eq_of_lt (by omega),Nat.add_zero]
  have q2:(d*B+s) % B=s:=by rw[Nat.mul_comm,Nat.mul_add_mod,Nat.mod_eq_of_lt (by omega)]
  exact same (.inl ⟨q1,by rw[q2];exact k2⟩) (by rw[q1];exact hf)
end Go.Proofs.YtpgijbdgljkeeaaGreatDoor

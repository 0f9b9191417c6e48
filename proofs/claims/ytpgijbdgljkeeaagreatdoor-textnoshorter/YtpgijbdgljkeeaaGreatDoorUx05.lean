/-
  Texts laid together: Dz, Over, Co9, Co11, Co20, Gr1, Gr5, Gm1, Dy9, Gm2, Gk2, Gr6, Ce10, Co17, Dl3, Gh2, Gn2, Em1, Ef2, Cr9, Eb2, Pa3, Bm1, Tx6.
-/
import Derived.Test.YtpgijbdgljkeeaaGreatDoorUx02
import Derived.Test.YtpgijbdgljkeeaaGreatDoorUx03
namespace Go.Proofs.YtpgijbdgljkeeaaGreatDoor
open Go.RowKit
theorem fO {n:Nat}(h:n≠0): ∃m,n=2^tz n*(2*m+1):=by
 obtain⟨m,hm,_⟩:=Lib.ctzFrom_spec n n (by omega) Nat.lt_two_pow_self;exact⟨m,hm⟩
theorem F8 {n t m:Nat}(h:n=2^t*(2*m+1)):tz n=t:=by
 have hn:n≠0:=by
  rw[h];exact Nat.ne_of_gt (Nat.mul_pos (Nat.pow_pos (by omega)) (by omega))
 obtain⟨k,hk⟩:=fO hn;exact(Dh (hk.symm.trans h)).1
def bare (a:ak):ak:=if a.n=0 then⟨false,0,0⟩ else⟨a.s,a.n/2^tz a.n,a.e+tz a.n⟩
def V (K:Nat)(a:ak):Int:=sz a.s a.n*((2^ (a.e+K).toNat:Nat):Int)
theorem eV (K:Nat)(a:ak):V K a=sz a.s (a.n*2^ (a.e+K).toNat):=Y5 _ _ _
theorem fH {K:Nat}{a b:ak}(ha: -(K:Int)≤a.e)(hb: -(K:Int)≤b.e)(h:V K a=V K b):bare a=bare b:=by
 rw[eV,eV] at h;have p1:0<2^ (a.e+K).toNat:=Nat.pow_pos (by omega);have p2:0<2^ (b.e+K).toNat:=Nat.pow_pos (by omega);unfold bare
 by_cases h0:a.n=0
 ·have:b.n=0:=by
   rw[h0,Nat.zero_mul] at h
   by_cases hb0:b.n=0
   ·exact hb0
   ·have hne:b.n*2^ (b.e+K).toNat≠0:=Nat.ne_of_gt (Nat.mul_pos (by omega) p2)
    have:=(QI h.symm hne).2;omega
  rw[if_pos h0,if_pos this]
 ·have hne:a.n*2^ (a.e+K).toNat≠0:=Nat.ne_of_gt (Nat.mul_pos (by omega) p1)
  obtain⟨hs,hm⟩:=QI h hne;have hb0:b.n≠0:=by
   intro e;rw[e,Nat.zero_mul] at hm;exact hne hm
  rw[if_neg h0,if_neg hb0];obtain⟨m,h1⟩:=fO h0;obtain⟨k,h2⟩:=fO hb0;have e1:=lI h1;have e2:=lI h2;have h3:2^ (tz a.n+(a.e+K).toNat)*(2*m+1)=2^ (tz b.n+(b.e+K).toNat)*(2*k+1):=by
   rw[Nat.pow_add,Nat.pow_add,Nat.mul_assoc,Nat.mul_comm (2^ (a.e+K).toNat),←Nat.mul_assoc,←h1,Nat.mul_assoc,Nat.mul_comm (2^ (b.e+K).toNat),←Nat.mul_assoc,←h2];exact hm
  obtain⟨h4,h5⟩:=Dh h3;rw[e1,e2,hs,h5];have:a.e+(tz a.n:Int)=b.e+(tz b.n:Int):=by omega
  rw[this]
theorem eL {K:Nat}{a:ak}(ha: -(K:Int)≤a.e): -(K:Int)≤(bare a).e:=by
 unfold bare
 by_cases h:a.n=0
 ·rw[if_pos h];simp
 ·rw[if_neg h];simp only;omega
theorem dw {K:Nat}{a:ak}(ha: -(K:Int)≤a.e):V K (bare a)=V K a:=by
 rw[eV,eV];unfold bare
 by_cases h:a.n=0
 ·rw[if_pos h,h];simp[sz]
 ·rw[if_neg h]
  obtain⟨m,h1⟩:=fO h;simp only;rw[lI h1];have:(a.e+(tz a.n:Int)+K).toNat=tz a.n+(a.e+K).toNat:=by omega
  rw[this,Nat.pow_add,←Nat.mul_assoc,Nat.mul_comm _ (2^tz a.n),←h1]
theorem iH (a:ak):bare (bare a)=bare a:=by
 have h1: -((a.e.natAbs:Nat):Int)≤a.e:=by omega
 exact fH (eL h1) h1 (dw h1)
def aG (a b:ak):ak:=
 let e:=min a.e b.e
 let x:=a.n*2^ (a.e-e).toNat
 let y:=b.n*2^ (b.e-e).toNat
 if a.s=b.s then⟨a.s,x+y,e⟩ else if x<y then⟨b.s,y-x,e⟩ else⟨a.s,x-y,e⟩
def dV (a:ak):ak:=⟨!a.s,a.n,a.e⟩
theorem Xx {a b:Int}(h:b≤a):decide (dm a b<0)=false:=by
 unfold dm;rw[if_neg (by omega)]
 by_cases h2:b<a
 ·rw[if_pos h2];rfl
 ·rw[if_neg h2];rfl
def frN (k:Nat):Nat:=8*szN k-1-exN k
def kp (k:Nat):Nat:=2^exN k-1
def dh (k:Nat)(ng:Bool)(e f:Nat):Nat:=
 if k≤3 then(if e=0 then(if f=0 then 1 else 2) else if e=kp k then(if f=(if k=3 then 2^63 else 0) then 3 else 4) else if k=3∧f<2^63 then 4 else 2)
 else if k≤5 then(if f=0 then 1 else 2)
 else if e=0 then(if ng then 5 else 1) else 2
def pg (k c:Nat):Nat:=if(c=3∨c=4)∧k≤3 then kp k else 0
def aT (R D top:Int):Int:=top/(ai R:Int)-(D-1)
def dj (R D L:Int)(gr:Bool)(N M:Nat)(E:Int):Int:=
 if(decide (aT R D (dY N M E)<L)&&gr)=true then L else aT R D (dY N M E)
def shP (R D L:Int)(gr:Bool)(N M:Nat)(E:Int):Int:=E-(ai R:Int)*dj R D L gr N M E
def cH (R D L:Int)(gr:Bool)(N M:Nat)(E:Int):Nat:=eZ N (shP R D L gr N M E)/dX M (shP R D L gr N M E)
def gF (R D L:Int)(gr:Bool)(N M:Nat)(E:Int):Nat:=eZ N (shP R D L gr N M E) % dX M (shP R D L gr N M E)
theorem Bp {R D t:Int}(h1:1≤D)(h2:D≤120)(t1: -340001≤t)(t2:t≤340001): -341000≤aT R D t∧aT R D t≤341000∧ -341000≤(ai R:Int)*aT R D t∧(ai R:Int)*aT R D t≤341000:=by
 unfold aT ai
 split<;>omega
theorem BC (N M a b:Nat)(hN:N≠0)(hM:M≠0):M*2^b≤N*2^a↔(b:Int)≤dY N M 0+a:=by
 obtain⟨n1,n2,n3⟩:=uB N hN;obtain⟨m1,m2,m3⟩:=uB M hM;obtain⟨ln,hln⟩: ∃ln,bitLen N=ln:=⟨_,rfl⟩;obtain⟨lm,hlm⟩: ∃lm,bitLen M=lm:=⟨_,rfl⟩;have ht:dY N M 0=0+(((ln:Int)-(lm:Int))-(if eZ N (-((ln:Int)-(lm:Int)))/dX M (-((ln:Int)-(lm:Int)))=0 then 1 else 0)):=by
  unfold dY;rw[hln,hlm]
 rw[hln] at n1 n2 n3;rw[hlm] at m1 m2 m3;have low:M*2^ (ln-1)≤N*2^lm:=by
  rw[Nat.mul_comm];exact Nat.mul_le_mul n2 (Nat.le_of_lt m3)
 have high: ¬M*2^ln≤N*2^ (lm-1):=by
  have h1:N*2^ (lm-1)<2^ln*2^ (lm-1):=Nat.mul_lt_mul_of_pos_right n3 (bG _);have h2:2^ln*2^ (lm-1)≤M*2^ln:=by
   rw[Nat.mul_comm (2^ln)];exact Nat.mul_le_mul_right _ m2
  omega
 have hq:eZ N (-((ln:Int)-(lm:Int)))/dX M (-((ln:Int)-(lm:Int)))=0↔ ¬M*2^ (ln-lm)≤N*2^ (lm-ln):=by
  rw[fw,eM,show(-((ln:Int)-(lm:Int))).toNat=lm-ln by omega,show(-(-((ln:Int)-(lm:Int)))).toNat=ln-lm by omega,Nat.div_eq_zero_iff]
  have:=Nat.mul_pos (Nat.pos_of_ne_zero hM) (bG (ln-lm));omega
 by_cases hz:eZ N (-((ln:Int)-(lm:Int)))/dX M (-((ln:Int)-(lm:Int)))=0
 ·rw[if_pos hz] at ht
  have h0:=hq.1 hz
  constructor
  ·intro h
   refine Decidable.byContradiction fun c=>h0 (DS h ?_)
   omega
  ·intro h
   exact DS low (by omega)
 ·rw[if_neg hz] at ht
  have h0:M*2^ (ln-lm)≤N*2^ (lm-ln):=Decidable.byContradiction fun c=>hz (hq.2 c)
  constructor
  ·intro h
   refine Decidable.byContradiction fun c=>high (DS h ?_)
   omega
  ·intro h
   exact DS h0 (by omega)
theorem BD (N M:Nat)(n:Int)(j:Nat)(hN:N≠0)(hM:M≠0):2^j≤eZ N n/dX M n↔(j:Int)≤dY N M 0+n:=by
 rw[fw,eM,Nat.le_div_iff_mul_le (Nat.mul_pos (Nat.pos_of_ne_zero hM) (bG _)),←Nat.mul_assoc,Nat.mul_comm (2^j),Nat.mul_assoc,←Nat.pow_add,BC N M _ _ hN hM];omega
theorem pP (d m:Nat):bitLen d<m+1↔ ¬2^m≤d:=by
 constructor
 ·intro h c
  have hd:d≠0:=by
   have:=bG m;omega
  obtain⟨-,-,h3⟩:=uB d hd;have:(2:Nat)^bitLen d≤2^m:=Nat.pow_le_pow_right (by omega) (by omega);omega
 ·intro h
  have:=bF d m (by omega);omega
theorem xx (R D k:Int)(N M:Nat)(E:Int)(h1:1≤D)(hN:N≠0)(hM:M≠0):
  bitLen (eZ N (E-(ai R:Int)*k)/dX M (E-(ai R:Int)*k))<ai R*(D-1).toNat+1↔aT R D (dY N M E)<k:=by
 rw[pP,BD N M _ _ hN hM,qD N M E];unfold aT;obtain⟨t,ht⟩: ∃t,dY N M 0=t:=⟨_,rfl⟩;rw[ht];unfold ai
 split<;>simp<;>omega
theorem rP (R D L:Int)(gr:Bool)(N M:Nat)(E:Int)(h1:1≤D)(hN:N≠0)(hM:M≠0):cH R D L gr N M E<2^ (ai R*D.toNat):=by
 refine Nat.lt_of_not_le fun c=> ?_
 unfold cH shP at c;rw[BD N M _ _ hN hM] at c;have hc:aT R D (dY N M E)≤dj R D L gr N M E:=by
  unfold dj
  by_cases h:(decide (aT R D (dY N M E)<L)&&gr)=true
  ·rw[if_pos h]
   have:=of_decide_eq_true (Bool.and_eq_true_iff.1 h).1;omega
  ·rw[if_neg h]
   exact Int.le_refl _
 obtain⟨k,hk⟩: ∃k,dj R D L gr N M E=k:=⟨_,rfl⟩;rw[hk] at c hc;rw[qD] at hc;obtain⟨t,ht⟩: ∃t,dY N M 0=t:=⟨_,rfl⟩;rw[ht] at c hc;unfold aT ai at hc;unfold ai at c
 split at c<;>simp_all<;>omega
theorem Vf (R D L:Int)(gr:Bool)(N M:Nat)(E:Int)(h1:1≤D)(hN:N≠0)(hM:M≠0)(h:dj R D L gr N M E=aT R D (dY N M E)):0<cH R D L gr N M E:=by
 have h2: ¬bitLen (cH R D L gr N M E)<ai R*(D-1).toNat+1:=by
  unfold cH shP;rw[h,xx R D _ N M E h1 hN hM];omega
 have:cH R D L gr N M E≠0:=by
  intro c;rw[c] at h2;simp at h2;rw[gP] at h2;omega
 omega
def dJ (t:ak):Int:=if t.n=0 then 0 else if t.s then-1 else 1
def cP (R D L:Int)(gr:Bool)(n:Nat)(e:Int):Int:=
 if(decide (aT R D ((bitLen n:Int)-1+e)<L)&&gr)=true then L else aT R D ((bitLen n:Int)-1+e)
def dA (R D L G:Int)(gr:Bool)(n:Nat)(e:Int):Bool:=
 decide (n=0∨(L≤cP R D L gr n e∧cP R D L gr n e≤G∧(ai R:Int)*cP R D L gr n e≤e+(tz n:Int)))
theorem gN {t:ak}(h:t.n≠0):(bare t).n≠0∧(bare t).e=t.e+(tz t.n:Int)∧(bare t).e+(bitLen (bare t).n:Int)=t.e+(bitLen t.n:Int):=by
 obtain⟨m,hm⟩:=fO h;have e:(bare t).n=2*m+1∧(bare t).e=t.e+(tz t.n:Int):=by
  unfold bare;rw[if_neg h];exact⟨lI hm,rfl⟩
 have hb:bitLen t.n=tz t.n+bitLen (2*m+1):=by
  have:=Ad (2*m+1) (tz t.n) (by omega)
  rwa [←hm] at this
 refine⟨by omega,e.2, ?_⟩;rw[e.1,e.2,hb];omega
theorem lU {n:Nat}(h:n≠0)(E:Int):dY n 1 E=(bitLen n:Int)-1+E:=by
 obtain⟨b1,b2,b3⟩:=uB n h;have t1:=(BC n 1 0 (bitLen n-1) h (by omega)).1 (by simpa using b2);have t2: ¬((bitLen n:Nat):Int)≤dY n 1 0+((0:Nat):Int):=fun c=>by
  have:=(BC n 1 0 (bitLen n) h (by omega)).2 c;simp at this;omega
 rw[qD];omega
theorem nV (s:Bool)(n:Nat)(e k:Int)(hk:k≤e+(tz n:Int)):eZ n (e-k) % dX 1 (e-k)=0∧bare ⟨s,eZ n (e-k)/dX 1 (e-k),k⟩=bare ⟨s,n,e⟩:=by
 by_cases h0:n=0
 ·subst h0
  have e1:eZ 0 (e-k)=0:=by rw[fw];simp
  rw[e1];simp[bare]
 ·by_cases hle:k≤e
  ·have e1:dX 1 (e-k)=1:=by rw[eM,show(-(e-k)).toNat=0 by omega]
   rw[e1,fw,Nat.mod_one,Nat.div_one];refine⟨rfl, ?_⟩;refine fH (K:=(max (-k) 0).toNat) (by simp only;omega) (by simp only;omega) ?_;rw[eV,eV];simp only;rw[Nat.mul_assoc,←Nat.pow_add,show(e-k).toNat+(k+((max (-k) 0).toNat:Int)).toNat=(e+((max (-k) 0).toNat:Int)).toNat by omega]
  ·obtain⟨m,hm⟩:=fO h0
   obtain⟨q,hq⟩: ∃q,n=q*2^ (k-e).toNat:=by
    refine⟨2^ (tz n-(k-e).toNat)*(2*m+1), ?_⟩;rw[Nat.mul_right_comm,←Nat.pow_add,show tz n-(k-e).toNat+(k-e).toNat=tz n by omega]
    exact hm
   have e1:eZ n (e-k)=n:=by rw[fw,show(e-k).toNat=0 by omega,Nat.pow_zero,Nat.mul_one]
   have e2:dX 1 (e-k)=2^ (k-e).toNat:=by rw[eM,Nat.one_mul,show-(e-k)=k-e by omega]
   rw[e1,e2,hq,Nat.mul_mod_left,Nat.mul_div_cancel _ (bG _)];refine⟨rfl, ?_⟩;refine fH (K:=(max (-e) 0).toNat) (by simp only;omega) (by simp only;omega) ?_;rw[eV,eV];simp only;rw[Nat.mul_assoc,←Nat.pow_add,show(k-e).toNat+(e+((max (-e) 0).toNat:Int)).toNat=(k+((max (-e) 0).toNat:Int)).toNat by omega]
def oI:fz:=⟨false,0,0,false,false,false⟩
theorem fI (a:ak):(bare a).n=0↔a.n=0:=by
 by_cases h:a.n=0
 ·unfold bare
  rw[if_pos h];exact⟨fun _=>h,fun _=>rfl⟩
 ·unfold bare
  rw[if_neg h];obtain⟨m,hm⟩:=fO h;have:=lI hm;exact⟨fun h2=>by simp only at h2;omega,fun h2=>absurd h2 h⟩
def heE (R L:Int)(ld:Nat)(t:fz):Nat:=(t.p-L).toNat+if R=2∧t.d&&& ld≠0 then 1 else 0
def kt (k:Nat)(ng:Bool)(e f:Nat):Bool:=if dh k ng e f≤3 then ng else false
theorem DV (k:Nat)(ng:Bool)(e f:Nat):dh k ng e f=1∨dh k ng e f=2∨dh k ng e f=3∨dh k ng e f=4∨dh k ng e f=5:=by
 unfold dh
 repeat' split
 all_goals decide
theorem kR (t:ak):(bare t).n≤t.n:=by
 unfold bare
 split
 ·exact Nat.zero_le _
 ·exact Nat.div_le_self _ _
def nm (R D L:Int)(gr:Bool)(n:Nat)(e:Int):Nat:=shN n (e-(ai R:Int)*cP R D L gr n e)
def fD (R D L G:Int)(gr:Bool)(n:Nat)(e:Int):Nat:=if n=0 then 0 else if dA R D L G gr n e=true then nm R D L gr n e else 0
def fK (R D L G:Int)(gr:Bool)(n:Nat)(e:Int):Int:=if n=0 then L else if dA R D L G gr n e=true then cP R D L gr n e else 0
theorem Og {R D L G:Int}{gr:Bool}{n:Nat}{e:Int}(hg:bk R D L G=0)(hb:bitLen n≤40000)(e1: -100000≤e)(e2:e≤100000):
  -341000≤cP R D L gr n e∧cP R D L gr n e≤341000∧ -341000≤(ai R:Int)*cP R D L gr n e∧(ai R:Int)*cP R D L gr n e≤341000:=by
 obtain⟨hR,d1,d2,l1,l2,-,-,-,-⟩:=cB hg;have hp:=Bp (R:=R) (D:=D) (t:=(bitLen n:Int)-1+e) d1 d2 (by omega) (by omega);unfold cP
 split
 ·unfold ai
  split<;>simp<;>omega
 ·exact hp
theorem GK {R D L G:Int}{gr:Bool}{n:Nat}{e:Int}(h0:n≠0):dA R D L G gr n e=true↔L≤cP R D L gr n e∧cP R D L gr n e≤G∧(ai R:Int)*cP R D L gr n e≤e+(tz n:Int):=by
 unfold dA;rw[decide_eq_true_iff]
 constructor
 ·rintro(h|h)
  ·exact absurd h h0
  ·exact h
 ·exact .inr
theorem wS {R p:Int}(h: -20000≤p∧p≤20000): -80000≤(ai R:Int)*p∧(ai R:Int)*p≤80000:=by
 unfold ai
 split<;>simp<;>omega
theorem Jv (n:Nat)(x:Int):eZ n x/dX 1 x=shN n x:=by
 unfold eZ dX shN
 by_cases h:x<0
 ·rw[if_pos h,if_pos h,if_pos h,Nat.one_mul]
 ·rw[if_neg h,if_neg h,if_neg h,Nat.div_one]
theorem zr (R:Int):wdI R=(ai R:Int):=by
 unfold wdI ai
 split<;>rfl
def zR (k:Nat)(ng:Bool)(E FF:Nat):Bool:=
 if k=3 then(if E+1=2^exN k then(if FF=2^ (dgN k-1) then ng else false) else if 0<E∧FF<2^ (dgN k-1) then false else ng)
 else if k≤2 then(if E+1=2^exN k then(if FF=0 then ng else false) else ng)
 else if k≤5 then ng
 else(if E=0 then false else ng)
def ji (k:Nat)(ng:Bool)(E FF:Nat):ak:=
 if k=3 then(if E+1=2^exN k∨0<E∧FF<2^ (dgN k-1) then⟨false,0,0⟩ else bare ⟨ng,FF,wdI (rdN k)*(lsI k+(((E-1:Nat):Nat):Int))⟩)
 else if k≤2 then(if E+1=2^exN k then⟨false,0,0⟩ else bare ⟨ng,FF+(if 0<E then 2^ (dgN k-1) else 0),wdI (rdN k)*(lsI k+(((E-1:Nat):Nat):Int))⟩)
 else if k≤5 then bare ⟨ng,FF,wdI (rdN k)*(lsI k+(E:Int))⟩
 else(if E=0 then⟨false,0,0⟩ else bare ⟨ng,FF+2^ (dgN k-1),wdI (rdN k)*(lsI k+(E:Int)-1)⟩)
theorem NQ {s:Bool}{a:ak}(h:a.n≠0)(hs:a.s=s):(⟨s,(bare a).n,(bare a).e⟩:ak)=bare a:=by
 unfold bare;rw[if_neg h,←hs]
def iZ (t:ak):Prop:=t.n<2^64∧ -16500≤t.e∧t.e≤16500
def bJ (a b:ak):Int:=dJ (aG a (dV b))
def hiI (x:Nat→ak):Nat→Nat
 |0=>0
 |i+1=>if 0<bJ (x (i+1)) (x (hiI x i)) then i+1 else hiI x i
theorem tz_bits {m k:Nat}(h0:m≠0)(h:m<2^k):tz m≤k:=by
 obtain⟨b1,t2,t3⟩:=gN (t:=⟨false,m,0⟩) h0;have hb:=bF m k h;simp only at t2 t3;have:(0:Int)≤(bitLen (bare ⟨false,m,0⟩).n:Int):=by omega
 omega
theorem shN_down (m t:Nat):shN m (-(t:Int))=m/2^t:=by
 unfold shN
 by_cases h:t=0
 ·subst h
  rw[if_neg (by decide)];simp
 ·rw[if_pos (by omega)]
  congr 2
  omega
end Go.Proofs.YtpgijbdgljkeeaaGreatDoor

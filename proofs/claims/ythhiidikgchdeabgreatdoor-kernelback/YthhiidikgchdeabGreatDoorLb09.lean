/- Texts laid together. -/
import Derived.Test.YthhiidikgchdeabGreatDoorLb02
import Derived.Test.YthhiidikgchdeabGreatDoorLb04
import Derived.Test.YthhiidikgchdeabGreatDoorLb05
namespace Go.Proofs.YthhiidikgchdeabGreatDoor
open Go.RowKit
theorem eS {K:Nat}{a b:ak}(c: -(K:Int)≤a.e)(d: -(K:Int)≤b.e): -(K:Int)≤(aG a b).e:=by
 unfold aG;simp only
 split
 ·simp only;omega
 ·split<;>(simp only;omega)
def cO (a b:ak):ak:=
 let e0:=min a.e b.e
 let e1:=if a.n=0 then b.e else e0
 let e:=if b.n=0 then a.e else e1
 let x:=a.n*2^ (max 0 (a.e-e)).toNat
 let y:=b.n*2^ (max 0 (b.e-e)).toNat
 if a.s=b.s then⟨a.s,x+y,e⟩ else if y≤x then⟨a.s,x-y,e⟩ else⟨b.s,y-x,e⟩
def dB (t:ak):ak:=⟨!t.s&&decide (0<t.n),t.n,t.e⟩
def iD (r q:ak×Int):ak×ak×Int:=if r.2=0 then if q.2=0 then(r.1,q.1,0) else(⟨false,0,0⟩,⟨false,0,0⟩,q.2) else(⟨false,0,0⟩,⟨false,0,0⟩,r.2)
def dk (T:ak→ak→ak)(A0 A1 B0 B1:ak):Nat→ak
 |0=>T A0 B0
 |1=>T A0 B1
 |2=>T A1 B0
 |_=>T A1 B1
theorem BC (N M a b:Nat)(r:N≠0)(i:M≠0):M*2^b≤N*2^a↔(b:Int)≤dY N M 0+a:=by
 obtain⟨u,p,q⟩:=uB N r;obtain⟨t,n,o⟩:=uB M i;obtain⟨d,k⟩: ∃d,bitLen N=d:=⟨_,rfl⟩;obtain⟨e,j⟩: ∃e,bitLen M=e:=⟨_,rfl⟩;have m:dY N M 0=0+(((d:Int)-(e:Int))-(if eZ N (-((d:Int)-(e:Int)))/dX M (-((d:Int)-(e:Int)))=0 then 1 else 0)):=by
  unfold dY;rw[k,j]
 rw[k] at u p q;rw[j] at t n o;have low:M*2^ (d-1)≤N*2^e:=by
  rw[Nat.mul_comm];exact Nat.mul_le_mul p (Nat.le_of_lt o)
 have s: ¬M*2^d≤N*2^ (e-1):=by
  have v:N*2^ (e-1)<2^d*2^ (e-1):=Nat.mul_lt_mul_of_pos_right q (bG _);have w:2^d*2^ (e-1)≤M*2^d:=by
   rw[Nat.mul_comm (2^d)];exact Nat.mul_le_mul_right _ n
  omega
 have l:eZ N (-((d:Int)-(e:Int)))/dX M (-((d:Int)-(e:Int)))=0↔ ¬M*2^ (d-e)≤N*2^ (e-d):=by
  rw[fw,eM,show(-((d:Int)-(e:Int))).toNat=e-d by omega,show(-(-((d:Int)-(e:Int)))).toNat=d-e by omega,Nat.div_eq_zero_iff]
  have:=Nat.mul_pos (Nat.pos_of_ne_zero i) (bG (d-e));omega
 by_cases f:eZ N (-((d:Int)-(e:Int)))/dX M (-((d:Int)-(e:Int)))=0
 ·rw[if_pos f] at m
  have g:=l.1 f
  constructor
  ·intro h
   refine Decidable.byContradiction fun c=>g (DS h ?_)
   omega
  ·intro h
   exact DS low (by omega)
 ·rw[if_neg f] at m
  have g:M*2^ (d-e)≤N*2^ (e-d):=Decidable.byContradiction fun c=>f (l.2 c)
  constructor
  ·intro h
   refine Decidable.byContradiction fun c=>s (DS h ?_)
   omega
  ·intro h
   exact DS g (by omega)
theorem BD (N M:Nat)(n:Int)(j:Nat)(b:N≠0)(a:M≠0):2^j≤eZ N n/dX M n↔(j:Int)≤dY N M 0+n:=by
 rw[fw,eM,Nat.le_div_iff_mul_le (Nat.mul_pos (Nat.pos_of_ne_zero a) (bG _)),←Nat.mul_assoc,Nat.mul_comm (2^j),Nat.mul_assoc,←Nat.pow_add,BC N M _ _ b a];omega
theorem pP (d m:Nat):bitLen d<m+1↔ ¬2^m≤d:=by
 constructor
 ·intro h c
  have a:d≠0:=by
   have:=bG m;omega
  obtain⟨-,-,b⟩:=uB d a;have:(2:Nat)^bitLen d≤2^m:=Nat.pow_le_pow_right (by omega) (by omega);omega
 ·intro h
  have:=bF d m (by omega);omega
theorem xx (R D k:Int)(N M:Nat)(E:Int)(d:1≤D)(b:N≠0)(a:M≠0):
  bitLen (eZ N (E-(ai R:Int)*k)/dX M (E-(ai R:Int)*k))<ai R*(D-1).toNat+1↔aT R D (dY N M E)<k:=by
 rw[pP,BD N M _ _ b a,qD N M E];unfold aT;obtain⟨t,c⟩: ∃t,dY N M 0=t:=⟨_,rfl⟩;rw[c];unfold ai
 split<;>simp<;>omega
theorem rP (R D L:Int)(gr:Bool)(N M:Nat)(E:Int)(g:1≤D)(d:N≠0)(b:M≠0):cH R D L gr N M E<2^ (ai R*D.toNat):=by
 refine Nat.lt_of_not_le fun c=> ?_
 unfold cH shP at c;rw[BD N M _ _ d b] at c;have a:aT R D (dY N M E)≤dj R D L gr N M E:=by
  unfold dj
  by_cases h:(decide (aT R D (dY N M E)<L)&&gr)=true
  ·rw[if_pos h]
   have:=of_decide_eq_true (Bool.and_eq_true_iff.1 h).1;omega
  ·rw[if_neg h]
   exact Int.le_refl _
 obtain⟨k,e⟩: ∃k,dj R D L gr N M E=k:=⟨_,rfl⟩;rw[e] at c a;rw[qD] at a;obtain⟨t,f⟩: ∃t,dY N M 0=t:=⟨_,rfl⟩;rw[f] at c a;unfold aT ai at a;unfold ai at c
 split at c<;>simp_all<;>omega
theorem Vf (R D L:Int)(gr:Bool)(N M:Nat)(E:Int)(b:1≤D)(e:N≠0)(d:M≠0)(h:dj R D L gr N M E=aT R D (dY N M E)):0<cH R D L gr N M E:=by
 have a: ¬bitLen (cH R D L gr N M E)<ai R*(D-1).toNat+1:=by
  unfold cH shP;rw[h,xx R D _ N M E b e d];omega
 have:cH R D L gr N M E≠0:=by
  intro c;rw[c] at a;simp at a;rw[gP] at a;omega
 omega
def dA (R D L G:Int)(gr:Bool)(n:Nat)(e:Int):Bool:=
 decide (n=0∨(L≤cP R D L gr n e∧cP R D L gr n e≤G∧(ai R:Int)*cP R D L gr n e≤e+(tz n:Int)))
theorem aaN {d j k:Nat}(e:2^j≤d)(c:d<2^k):j<bitLen d∧bitLen d≤k:=by
 have a:=pP d j;have b:=bF d k c;omega
theorem Ep {R D k:Int}{d:Nat}(h:1≤D)(e:2^ (ai R*(D-1).toNat)≤d)(f:d<2^ (ai R*D.toNat)):aT R D ((bitLen d:Int)-1+(ai R:Int)*k)=k:=by
 obtain⟨a,c⟩:=aaN e f;unfold aT;obtain⟨b,g⟩: ∃b,bitLen d=b:=⟨_,rfl⟩;rw[g] at a c⊢;unfold ai at*
 split at a<;>simp_all<;>omega
theorem Il {R D k:Int}{d:Nat}(f:1≤D)(c:d<2^ (ai R*D.toNat)):aT R D ((bitLen d:Int)-1+(ai R:Int)*k)≤k:=by
 have a:=bF d _ c;unfold aT;obtain⟨b,e⟩: ∃b,bitLen d=b:=⟨_,rfl⟩;rw[e] at a⊢;unfold ai at*
 split at a<;>simp_all<;>omega
theorem Sg {R D L k:Int}{gr:Bool}{d:Nat}(b:1≤D)(a:d<2^ (ai R*D.toNat))(f:L≤k)(hf:2^ (ai R*(D-1).toNat)≤d∨(gr=true∧k=L)):cP R D L gr d ((ai R:Int)*k)=k:=by
 unfold cP
 rcases hf with e| ⟨rfl,rfl⟩
 ·rw[Ep b e a,decide_eq_false (by omega)]
  rfl
 ·have h:=Il (k:=k) b a
  by_cases c:aT R D ((bitLen d:Int)-1+(ai R:Int)*k)<k
  ·rw[decide_eq_true c]
   rfl
  ·rw[decide_eq_false c]
   show aT R D ((bitLen d:Int)-1+(ai R:Int)*k)=k
   omega
theorem tN {R D L G k:Int}{gr:Bool}{d:Nat}(b:1≤D)(a:d<2^ (ai R*D.toNat))(c:L≤k)(hf:2^ (ai R*(D-1).toNat)≤d∨(gr=true∧k=L))(e:d≠0):dA R D L G gr d ((ai R:Int)*k)=decide (k≤G):=by
 unfold dA;rw[Sg b a c hf];refine decide_eq_decide.2 ?_;omega
def nm (R D L:Int)(gr:Bool)(n:Nat)(e:Int):Nat:=shN n (e-(ai R:Int)*cP R D L gr n e)
def fD (R D L G:Int)(gr:Bool)(n:Nat)(e:Int):Nat:=if n=0 then 0 else if dA R D L G gr n e=true then nm R D L gr n e else 0
def fK (R D L G:Int)(gr:Bool)(n:Nat)(e:Int):Int:=if n=0 then L else if dA R D L G gr n e=true then cP R D L gr n e else 0
theorem CxN.pw_real (u:Rat): ∀k,pwE ⟨u,0⟩ k=⟨rp u k,0⟩
 |0=>rfl
 |k+1=>by
  rw[pwE,pw_real u k];apply ext'<;>simp only[mul,rp]<;>grind
theorem CxN.pw_two (k:Nat):pwE ⟨2,0⟩ k=⟨rp 2 k,0⟩:=pw_real 2 k
theorem CxN.exp_take {l:Nat→Rat}{B:Rat}(g:Has (fun n=>⟨l n,0⟩) ⟨2,0⟩)(c: ∀n,nm ⟨l n,0⟩≤B)(k:Nat)(x:Rat):NrN (er x) (fun n=>rp 2 k*er (x-(k:Rat)*l n) n):=by
 have t:=Has.times c g k;have z: ∀n,nm ⟨x-(k:Rat)*l n,0⟩≤nm ⟨x,0⟩+(k:Rat)*B:=fun n=>by
  have a:=nm_sb ⟨x,0⟩ (sc (k:Rat) ⟨l n,0⟩);have b:=nm_natsc k _ (c n);have e:sb ⟨x,0⟩ (sc (k:Rat) ⟨l n,0⟩)=⟨x-(k:Rat)*l n,0⟩:=by apply ext'<;>simp only[sb,add,sc]<;>grind
  rw[e] at a
  grind
 have s:=(has_shift (fun n=>nm_natsc k _ (c n)) z t).re
 have d:(fun n=>(ez (add (sc (k:Rat) ⟨l n,0⟩) ⟨x-(k:Rat)*l n,0⟩) n).re)=er x:=by
  funext n
  have:add (sc (k:Rat) ⟨l n,0⟩) ⟨x-(k:Rat)*l n,0⟩=⟨x,0⟩:=by apply ext'<;>simp only[add,sc]<;>grind
  rw[this,ez_real]
 have f:(fun n=>(mul (pwE ⟨2,0⟩ k) (ez ⟨x-(k:Rat)*l n,0⟩ n)).re)=fun n=>rp 2 k*er (x-(k:Rat)*l n) n:=by
  funext n
  rw[ez_real,pw_two];simp only[mul]
  grind
 rw[d,f] at s;exact s
theorem tm_ath (w:Rat): ∀j,awt w j=w*tmS (w*w) cArc j
 |0=>by simp only[awt,rp,tmS];simp;grind
 |j+1=>by
  have d:=tm_ath w j;have e:awt w (j+1)=1/((2*(j+1)+1:Nat):Rat)*(rp w (2*j+1)*w*w):=rfl;have f:awt w j=1/((2*j+1:Nat):Rat)*rp w (2*j+1):=rfl;have c:cArc (j+1)=((2*j+1:Nat):Rat)/((2*(j+1)+1:Nat):Rat):=rfl;have g:=CxN.nat_ne (2*j);have h:=CxN.nat_ne (2*(j+1));rw[e,tmS,c];have:w*(tmS (w*w) cArc j*(w*w)*(((2*j+1:Nat):Rat)/((2*(j+1)+1:Nat):Rat)))=w*tmS (w*w) cArc j*(w*w)*(((2*j+1:Nat):Rat)/((2*(j+1)+1:Nat):Rat)):=by grind
  rw[this,←d,f];generalize((2*j+1:Nat):Rat)=a at*;generalize((2*(j+1)+1:Nat):Rat)=b at*
  grind
def IvN.times (S T:IvN):IvN:=⟨mn (mn (mn (S.lo*T.lo) (S.lo*T.hi)) (S.hi*T.lo)) (S.hi*T.hi),mx (mx (mx (S.lo*T.lo) (S.lo*T.hi)) (S.hi*T.lo)) (S.hi*T.hi)⟩
theorem IvN.plus_has {S T:IvN}{x y:Rat}(h:S.has x)(g:T.has y):(plus S T).has (x+y):=by
 unfold has plus at*
 grind
theorem IvN.neg_has {S:IvN}{x:Rat}(h:S.has x):(neg S).has (-x):=by
 unfold has neg at*
 grind
theorem IvN.times_has {S T:IvN}{x y:Rat}(h:S.has x)(g:T.has y):(times S T).has (x*y):=by
 obtain⟨i,j⟩:=h;obtain⟨a,b⟩:=g;obtain⟨k,l⟩:=mid_mul (y:=y) i j;obtain⟨c,d⟩:=mid_mul (y:=S.lo) a b;obtain⟨e,f⟩:=mid_mul (y:=S.hi) a b;rw[Rat.mul_comm y,Rat.mul_comm T.lo,Rat.mul_comm T.hi] at c d e f;unfold times has mn mx;simp only
 grind
theorem IvN.times_ends (S T:IvN):((times S T).lo=S.lo*T.lo∨(times S T).lo=S.lo*T.hi∨(times S T).lo=S.hi*T.lo∨(times S T).lo=S.hi*T.hi)∧((times S T).hi=S.lo*T.lo∨(times S T).hi=S.lo*T.hi∨(times S T).hi=S.hi*T.lo∨(times S T).hi=S.hi*T.hi):=by
 unfold times mn mx;simp only
 grind
theorem IvN.ab_of {a m:Rat}(b: -m≤a)(c:a≤m):ab a≤m:=by rw[ab_le];constructor<;>grind
theorem IvN.times_wd {S T:IvN}{m k:Rat}(w:S.inn m)(y:T.inn k)(s:S.lo≤S.hi)(t:T.lo≤T.hi):(times S T).wd≤m*T.wd+k*S.wd∧(times S T).inn (m*k)∧(times S T).lo≤(times S T).hi:=by
 obtain⟨D,E⟩:=w;obtain⟨F,G⟩:=y;have o:0≤m:=by grind
 have z:0≤k:=by grind
 have d: ∀a b p q:Rat,-m≤a→a≤m→ -k≤q→q≤k→ab (a-b)≤S.wd→ab (p-q)≤T.wd→a*p-b*q≤m*T.wd+k*S.wd:=by
  intro a b p q c f i j u v;have e:a*p-b*q=a*(p-q)+q*(a-b):=by grind
  have B:=le_ab (a*(p-q));have C:=le_ab (q*(a-b));rw[ab_mul] at B C;have N:=mul_le_mul' (ab_of c f) v (ab_nonneg _) o;have O:=mul_le_mul' (ab_of i j) u (ab_nonneg _) z
  grind
 have r: ∀a p:Rat,-m≤a→a≤m→ -k≤p→p≤k→ -(m*k)≤a*p∧a*p≤m*k:=by
  intro a p c f i j;have x:=mul_le_mul' (ab_of c f) (ab_of i j) (ab_nonneg _) o;rw[←ab_mul] at x;have:=le_ab (a*p);have:=neg_le_ab (a*p)
  grind
 have P:ab (S.lo-S.lo)≤S.wd:=by unfold ab wd;grind
 have Q:ab (S.hi-S.hi)≤S.wd:=by unfold ab wd;grind
 have uS:ab (S.hi-S.lo)≤S.wd:=by unfold ab wd;grind
 have L:ab (S.lo-S.hi)≤S.wd:=by unfold ab wd;grind
 have zTr:ab (T.lo-T.lo)≤T.wd:=by unfold ab wd;grind
 have R:ab (T.hi-T.hi)≤T.wd:=by unfold ab wd;grind
 have uT:ab (T.hi-T.lo)≤T.wd:=by unfold ab wd;grind
 have M:ab (T.lo-T.hi)≤T.wd:=by unfold ab wd;grind
 have H:S.lo≤m:=by grind
 have I: -m≤S.hi:=by grind
 have J:T.lo≤k:=by grind
 have K: -k≤T.hi:=by grind
 obtain⟨n,l⟩:=times_ends S T;have A:(times S T).lo≤(times S T).hi:=Rat.le_trans (times_has (S:=S) (T:=T) ⟨Rat.le_refl,s⟩ ⟨Rat.le_refl,t⟩).1 (times_has (S:=S) (T:=T) ⟨Rat.le_refl,s⟩ ⟨Rat.le_refl,t⟩).2;refine⟨?_,⟨?_, ?_⟩,A⟩
 ·show(times S T).hi-(times S T).lo≤_
  rcases n with h|h|h|h<;>rcases l with g|g|g|g<;>rw[h,g]<;>apply d<;>assumption
 ·rcases n with h|h|h|h<;>rw[h]<;>exact(r _ _ (by assumption) (by assumption) (by assumption) (by assumption)).1
 ·rcases l with h|h|h|h<;>rw[h]<;>exact(r _ _ (by assumption) (by assumption) (by assumption) (by assumption)).2
theorem tm_tail {u:Rat}{c:Nat→Rat}(d: ∀k,0≤c (k+1))(f: ∀k,ab u*c (k+1)≤1/2): ∀n K,∃r:Rat,1/2≤r∧r≤2∧(0≤u→1≤r)∧(u≤0→r≤1)∧rs (tmS u c) (K+n+1)-rs (tmS u c) K=tmS u c K*r
 |0,K=>⟨1,by grind,by grind,fun _=>by grind,fun _=>by grind,by
   show rs (tmS u c) K+tmS u c K-rs (tmS u c) K=_
   grind⟩
 |n+1,K=>by
  obtain⟨r,m,i,o,j,a⟩:=tm_tail d f n (K+1);rw[show K+1+n+1=K+(n+1)+1 by omega] at a
  have e:rs (tmS u c) (K+1)=rs (tmS u c) K+tmS u c K:=rfl;have h:tmS u c (K+1)=tmS u c K*u*c (K+1):=rfl;have q:=f K;have p:=d K;refine⟨1+u*c (K+1)*r, ?_, ?_, ?_, ?_, ?_⟩
  ·by_cases g:0≤u
   ·have:=Rat.mul_nonneg (Rat.mul_nonneg g p) (show 0≤r by grind)
    grind
   ·have l:=j (by grind)
    have b:ab u= -u:=by unfold ab;grind
    rw[b] at q;have:=mul_le_mul' q l (by grind) (by grind)
    grind
  ·by_cases g:0≤u
   ·have b:ab u=u:=by unfold ab;grind
    rw[b] at q;have:=mul_le_mul' q i (by grind) (by grind)
    grind
   ·have:=Rat.mul_nonneg (Rat.mul_nonneg (show 0≤ -u by grind) p) (show 0≤r by grind)
    grind
  ·intro g
   have:=Rat.mul_nonneg (Rat.mul_nonneg g p) (show 0≤r by grind)
   grind
  ·intro g
   have:=Rat.mul_nonneg (Rat.mul_nonneg (show 0≤ -u by grind) p) (show 0≤r by grind)
   grind
  ·rw[h] at a
   rw[e] at a;have:tmS u c K*(1+u*c (K+1)*r)=tmS u c K+tmS u c K*u*c (K+1)*r:=by grind
   rw[this,←a]
   grind
theorem rs_bd {u:Rat}{c:Nat→Rat}(d: ∀k,0≤c (k+1))(f: ∀k,ab u*c (k+1)≤1/2)(n:Nat):1/2≤rs (tmS u c) (n+1)∧rs (tmS u c) (n+1)≤2:=by
 obtain⟨r,g,h,_,_,a⟩:=tm_tail d f n 0;rw[Nat.zero_add] at a;have e:rs (tmS u c) 0=0:=rfl;have b:tmS u c 0=1:=rfl;rw[e,b] at a
 grind
theorem p2_at {e:Int}{K:Nat}(h: -(K:Int)≤e):p2 e*((2^K:Nat):Rat)=((2^ (e+K).toNat:Nat):Rat):=by
 unfold p2
 by_cases c:0≤e
 ·rw[if_pos c,←two_addR]
  congr 2
  omega
 ·rw[if_neg c]
  have a:=two_posR (-e).toNat;have:((2^K:Nat):Rat)=((2^ (-e).toNat:Nat):Rat)*((2^ (e+K).toNat:Nat):Rat):=by
   rw[←two_addR]
   congr 2
   omega
  rw[this];generalize((2^ (-e).toNat:Nat):Rat)=x at*
  grind
theorem p2_pos (e:Int):0<p2 e:=by
 have h:=p2_at (e:=e) (K:=e.natAbs) (by omega);have a:=two_posR (e+(e.natAbs:Nat)).toNat;have b:=two_posR e.natAbs;rw[←h] at a;generalize p2 e=x at*;generalize((2^e.natAbs:Nat):Rat)=y at*
 by_cases c:0<x
 ·exact c
 ·have:=Rat.mul_nonneg (show 0≤ -x by grind) (show 0≤y by grind)
  grind
theorem p2_add (a b:Int):p2 (a+b)=p2 a*p2 b:=by
 obtain⟨K,j⟩: ∃K:Nat,K=a.natAbs+b.natAbs:=⟨_,rfl⟩;have g:=p2_at (e:=a) (K:=K) (by omega);have h:=p2_at (e:=b) (K:=K) (by omega);have i:=p2_at (e:=a+b) (K:=K+K) (by omega);have f:((2^ (a+b+((K+K:Nat):Int)).toNat:Nat):Rat)=((2^ (a+(K:Int)).toNat:Nat):Rat)*((2^ (b+(K:Int)).toNat:Nat):Rat):=by
  rw[←two_addR]
  congr 2
  omega
 rw[f,←g,←h,two_addR] at i;have d:=two_posR K;generalize((2^K:Nat):Rat)=y at*;have:p2 (a+b)*(y*y)=p2 a*p2 b*(y*y):=by grind
 have k:y*y≠0:=by
  intro c;have:=Rat.mul_pos d d
  grind
 grind
theorem p2_neg (e:Int):p2 e*p2 (-e)=1:=by
 rw[←p2_add,show e+ -e=0 by omega,p2_zero]
theorem p2_mono {a b:Int}(h:a≤b):p2 a≤p2 b:=by
 obtain⟨k,d⟩: ∃k:Nat,b=a+(k:Int):=⟨(b-a).toNat,by omega⟩;rw[d,p2_add,p2_nat];have e:=p2_pos a;have c:(1:Rat)≤((2^k:Nat):Rat):=by
  have:((1:Nat):Rat)≤((2^k:Nat):Rat):=Rat.natCast_le_natCast.2 (Nat.pow_pos (by omega))
  simpa using this
 have:=Rat.mul_le_mul_of_nonneg_left c (show 0≤p2 a by grind)
 grind
def qT (t:ak):Rat:=(sz t.s t.n:Rat)*p2 t.e
theorem qT_inj {K:Nat}{x y:Rat}(h:x*((2^K:Nat):Rat)=y*((2^K:Nat):Rat)):x=y:=by
 have a:=two_posR K;generalize((2^K:Nat):Rat)=z at*;have b:z≠0:=by grind
 grind
theorem qT_times (a b:ak):qT (aK a b)=qT a*qT b:=by
 unfold qT aK;simp only;rw[Ny,Rat.intCast_mul,p2_add]
 grind
theorem low_all (x:Nat→ak): ∀i,∃K:Nat,∀j,j≤i→ -(K:Int)≤(x j).e
 |0=>⟨(x 0).e.natAbs,fun j a=>by
  obtain rfl:j=0:=by omega
  omega⟩
 |i+1=>by
  obtain⟨K,h⟩:=low_all x i;refine⟨K+(x (i+1)).e.natAbs,fun j a=> ?_⟩
  by_cases c:j=i+1
  ·subst c
   omega
  ·have:=h j (by omega)
   omega
theorem qT_ab (t:ak):ab (qT t)=(t.n:Rat)*p2 t.e:=by
 have d:=p2_pos t.e;unfold qT;rw[ab_mul];have a:ab (p2 t.e)=p2 t.e:=by unfold ab;grind
 have b:ab ((sz t.s t.n:Int):Rat)=(t.n:Rat):=by
  have c:=nat_nn t.n;unfold sz
  cases t.s
  ·rw[if_neg (by decide),Rat.intCast_natCast]
   unfold ab
   grind
  ·rw[if_pos rfl,Rat.intCast_neg,Rat.intCast_natCast]
   unfold ab
   grind
 rw[a,b]
theorem qT_top {t:ak}(h:t.n≠0):p2 (t.e+(bitLen t.n:Int)-1)≤ab (qT t)∧ab (qT t)<p2 (t.e+(bitLen t.n:Int)):=by
 obtain⟨g,b,c⟩:=uB t.n h;rw[qT_ab,show t.e+(bitLen t.n:Int)-1=((bitLen t.n-1:Nat):Int)+t.e by omega,p2_add,p2_nat,show t.e+(bitLen t.n:Int)=((bitLen t.n:Nat):Int)+t.e by omega,p2_add,p2_nat]
 have d:=p2_pos t.e;have a:((2^ (bitLen t.n-1):Nat):Rat)≤(t.n:Rat):=Rat.natCast_le_natCast.2 b;have f:(t.n:Rat)< ((2^bitLen t.n:Nat):Rat):=Rat.natCast_lt_natCast.2 c;refine⟨Rat.mul_le_mul_of_nonneg_right a (by grind), ?_⟩;have:=Rat.mul_pos (show 0< ((2^bitLen t.n:Nat):Rat)-(t.n:Rat) by grind) d
 grind
theorem qT_sq (t:ak):qT t=sqT t.s*((t.n:Rat)*p2 t.e):=by
 unfold qT sz sqT
 cases t.s
 ·simp only[Bool.false_eq_true,if_false,Rat.intCast_natCast]
  grind
 ·simp only[if_true,Rat.intCast_natCast,Rat.intCast_neg]
  grind
theorem over_parts (a b:ak)(B:Nat)(P:1≤B)(v:a.n≠0)(w:b.n≠0){X:Rat}(t:X*qT b=qT a): ∃(m:Nat) (e:Int) (l:Bool),
  cK a b B=⟨a.s != b.s,m*2+(if l=true then 1 else 0),e-1⟩∧2^ (B-1)≤m∧(m:Rat)*p2 e≤ab X∧ab X< ((m+1:Nat):Rat)*p2 e∧(l=false→(m:Rat)*p2 e=ab X)∧(l=true→(m:Rat)*p2 e<ab X)∧X=sqT (a.s != b.s)*ab X:=by
 obtain⟨s,C⟩: ∃s,gV a b B=s:=⟨_,rfl⟩;have j:0<b.n:=Nat.pos_of_ne_zero w;have x:=Nat.div_add_mod (a.n*2^s) b.n;have y:=Nat.mod_lt (a.n*2^s) j;obtain⟨m,o⟩: ∃m,a.n*2^s/b.n=m:=⟨_,rfl⟩;obtain⟨r,p⟩: ∃r,a.n*2^s % b.n=r:=⟨_,rfl⟩;rw[o,p] at x;rw[p] at y;have G:(0:Rat)< (b.n:Rat):=nat_pos' j;have F:(0:Rat)< (a.n:Rat):=nat_pos' (Nat.pos_of_ne_zero v);have D:=p2_pos b.e;have I:=p2_pos a.e;have c:=Rat.mul_pos G D;have Q:=Rat.mul_pos F I;have u:ab X*((b.n:Rat)*p2 b.e)=(a.n:Rat)*p2 a.e:=by rw[←qT_ab,←qT_ab,←ab_mul,t]
 have H:p2 (a.e-b.e-(s:Int))*p2 b.e*((2^s:Nat):Rat)=p2 a.e:=by
  rw[←p2_nat,←p2_add,←p2_add]
  congr 1
  omega
 have g:(b.n:Rat)*(m:Rat)+(r:Rat)=(a.n:Rat)*((2^s:Nat):Rat):=by
  rw[←Rat.natCast_mul,←Rat.natCast_mul,←Rat.natCast_add,x]
 have S:(r:Rat)< (b.n:Rat):=nat_lt y;have R:=nat_nn r;have J:=p2_pos (a.e-b.e-(s:Int));have A:=Rat.mul_pos J D;have d: ∀z:Rat,z*p2 (a.e-b.e-(s:Int))*((b.n:Rat)*p2 b.e)=z*(b.n:Rat)*(p2 (a.e-b.e-(s:Int))*p2 b.e):=fun z=>by grind
 have f:ab X*((b.n:Rat)*p2 b.e)=(a.n:Rat)*((2^s:Nat):Rat)*(p2 (a.e-b.e-(s:Int))*p2 b.e):=by rw[u,←H];grind
 refine⟨m,a.e-b.e-(s:Int),decide (0<r), ?_, ?_, ?_, ?_, ?_, ?_, ?_⟩
 ·unfold cK d8
  rw[C,o,p]
 ·obtain⟨K,E,L⟩:=uB a.n v
  obtain⟨M,N,O⟩:=uB b.n w;have i:2^ (B-1)*2^bitLen b.n≤a.n*2^s:=by
   have:2^ (bitLen a.n-1)*2^s≤a.n*2^s:=Nat.mul_le_mul_right _ E;refine Nat.le_trans ?_ this;rw[←Nat.pow_add,←Nat.pow_add];refine Nat.pow_le_pow_right (by omega) ?_;unfold gV at C;omega
  have q:2^ (B-1)*b.n≤a.n*2^s:=Nat.le_trans (Nat.mul_le_mul_left _ (by omega)) i;rw[←o];exact(Nat.le_div_iff_mul_le j).2 q
 ·refine cancel_le c ?_
  rw[d,f];exact Rat.mul_le_mul_of_nonneg_right (by grind) (by grind)
 ·refine cancel_lt c ?_
  rw[d,f,Rat.natCast_add];have:=Rat.mul_pos (show 0< ((m:Rat)+((1:Nat):Rat))*(b.n:Rat)-(a.n:Rat)*((2^s:Nat):Rat) by rw[←g];grind) A
  grind
 ·intro k
  have h:r=0:=by simpa using k
  rw[h] at g;refine cancel_eq c ?_;rw[d,f,←g]
  grind
 ·intro k
  have h:(0:Rat)< (r:Rat):=nat_pos' (by simpa using k);refine cancel_lt c ?_;rw[d,f,←g];have:=Rat.mul_pos h A
  grind
 ·have i:X*qT b=sqT b.s*X*((b.n:Rat)*p2 b.e):=by rw[qT_sq];grind
  have q:sqT b.s*X=sqT a.s*ab X:=by
   refine cancel_eq c ?_;rw[←i,t,qT_sq,Rat.mul_assoc,u]
  rw[sq_ne];have:=sq_sq b.s
  grind
theorem over_zero (a b:ak)(B:Nat)(c:a.n=0):(cK a b B).n=0:=by
 unfold cK d8;simp[c]
theorem qT_zero {t:ak}(h:t.n=0):qT t=0:=by
 rw[qT_sq,h];have:((0:Nat):Rat)=0:=rfl;rw[this]
 grind
theorem p2_le {a b:Int}(h:p2 a≤p2 b):a≤b:=by
 by_cases c:a≤b
 ·exact c
 ·have d:=p2_mono (show b+1≤a by omega)
  rw[p2_add,p2_one] at d;have:=p2_pos b
  grind
def ivT (a b:ak):IvN:=⟨qT a,qT b⟩
def wTr (n:Nat):ak:=⟨false,n,0⟩
theorem qT_w (n:Nat):qT (wTr n)=(n:Rat):=by
 rw[qT_sq];simp only[wTr,sqT,Bool.false_eq_true,if_false,p2_zero]
 grind
def ivS (s:ak×ak):IvN:=ivT s.1 s.2
def plusS (s t:ak×ak):ak×ak:=(aG s.1 t.1,aG s.2 t.2)
def negS (s:ak×ak):ak×ak:=(dV s.2,dV s.1)
def sizeT (t:ak):ak:=⟨false,t.n,t.e⟩
theorem qT_size (t:ak):qT (sizeT t)=ab (qT t):=by
 rw[qT_ab,qT_sq];simp only[sizeT,sqT,Bool.false_eq_true,if_false]
 grind
theorem p2_mhalf:p2 (-1)=1/2:=by
 have:=p2_neg 1;rw[p2_one] at this
 grind
theorem pos_sign {t:ak}(h:0<qT t):t.s=false∧t.n≠0:=by
 constructor
 ·cases c:t.s with
  |false=>rfl
  |true=>
   rw[qT_sq,c] at h;simp only[sqT,if_true] at h;have:=Rat.mul_nonneg (nat_nn t.n) (show 0≤p2 t.e by have:=p2_pos t.e;grind)
   grind
 ·intro c
  rw[qT_zero c] at h
  grind
theorem times_whole {S:IvN}{N:Rat}(h:S.lo≤S.hi)(c:0≤N):IvN.times S ⟨N,N⟩=⟨N*S.lo,N*S.hi⟩:=by
 have:=Rat.mul_le_mul_of_nonneg_right h c;unfold IvN.times IvN.mn IvN.mx;simp only;have a:S.lo*N=N*S.lo:=by grind
 have b:S.hi*N=N*S.hi:=by grind
 rw[a,b] at*
 congr 1<;>grind
theorem wide_of {B:Nat}(f:84≤B)(d:B≤1000):((B:Rat)+2)*(2*(p2 (17-(B:Int))+p2 (2-(B:Int)))+8*p2 (2-(B:Int)))≤1∧
  ((B:Rat)+3)*(2*(p2 (17-(B:Int))+p2 (2-(B:Int)))+8*p2 (2-(B:Int)))+2*p2 (-(B:Int)-1)≤p2 (29-(B:Int)):=by
 have h:=p2_pos (2-(B:Int));have b:p2 (17-(B:Int))=32768*p2 (2-(B:Int)):=by
  rw[show 17-(B:Int)=15+(2-(B:Int)) by omega,p2_add]
  have:p2 15=32768:=by decide+kernel
  rw[this]
 have a:p2 (29-(B:Int))=134217728*p2 (2-(B:Int)):=by
  rw[show 29-(B:Int)=27+(2-(B:Int)) by omega,p2_add]
  have:p2 27=134217728:=by decide+kernel
  rw[this]
 have c:2*p2 (-(B:Int)-1)=1/4*p2 (2-(B:Int)):=by
  have:p2 (2-(B:Int))=p2 3*p2 (-(B:Int)-1):=by rw[←p2_add];congr 1;omega
  rw[this];have:p2 3=8:=by decide+kernel
  rw[this]
  grind
 have i:134217728*p2 (2-(B:Int))≤1:=by
  rw[←a];have:=p2_mono (show 29-(B:Int)≤0 by omega)
  rwa [p2_zero] at this
 have e:(B:Rat)≤1000:=by
  have:=nat_le d;exact this
 rw[b,a,c];generalize p2 (2-(B:Int))=z at*;have g:=nat_nn B;have:=Rat.mul_le_mul_of_nonneg_right e (show 0≤z by grind)
 constructor<;>grind
theorem bit_pos {t:ak}{b:Nat}(c: ¬(bitLen t.n:Int)-(b:Int)≤((if t.n=0 then 0 else tz t.n:Nat):Int)): ∃k:Nat,(bitLen t.n:Int)-(b:Int)=((k+1:Nat):Int)∧t.n≠0∧t.n % 2^ (k+1)≠0:=by
 have a:t.n≠0:=fun e=>by
  rw[e,gP] at c;omega
 rw[if_neg a] at c;refine⟨((bitLen t.n:Int)-(b:Int)-1).toNat,by omega,a,fun h=> ?_⟩
 obtain⟨k,g⟩: ∃k,((bitLen t.n:Int)-(b:Int)-1).toNat=k:=⟨_,rfl⟩;rw[g] at h;obtain⟨m,i⟩:=fO a;have o:tz t.n<k+1:=by omega
 obtain⟨j,p⟩: ∃j,k+1=tz t.n+1+j:=⟨k-tz t.n,by omega⟩;have f:2^ (tz t.n+1)∣t.n:=Nat.dvd_trans (Nat.pow_dvd_pow 2 (by omega)) (Nat.dvd_of_mod_eq_zero h);obtain⟨q,d⟩:=f;clear h c;generalize tz t.n=z at*;rw[i,Nat.pow_succ,Nat.mul_assoc] at d;have l:0<2^z:=Nat.pow_pos (by omega);have:=Nat.eq_of_mul_eq_mul_left l d;omega
theorem p2_split {e f:Int}(h:f≤e): ∃i:Nat,p2 e=((2^i:Nat):Rat)*p2 f∧e=f+(i:Int):=by
 obtain⟨i,a⟩: ∃i:Nat,e=(i:Int)+f:=⟨(e-f).toNat,by omega⟩;exact⟨i,by rw[a,p2_add,p2_nat],by omega⟩
theorem qT_nn {t:ak}(h:t.s=false):0≤qT t:=by
 rw[qT_sq,h];simp only[sqT,Bool.false_eq_true,if_false];have:=Rat.mul_nonneg (nat_nn t.n) (show 0≤p2 t.e by have:=p2_pos t.e;grind)
 grind
def fourO (a b p q:ak)(B:Nat):Nat→ak
 |0=>cK a p B
 |1=>cK a q B
 |2=>cK b p B
 |_=>cK b q B
def RgT (E T:Int)(t:ak):Prop:= -E≤t.e∧t.e+(bitLen t.n:Int)≤T
theorem bits_lt (n:Nat):n<2^bitLen n:=by
 by_cases c:n=0
 ·rw[c];exact Nat.pow_pos (by omega)
 ·exact(uB n c).2.2
theorem RgT.neg {E T:Int}{a:ak}(h:RgT E T a):RgT E T (dV a):=h
def RgS (E T:Int)(s:ak×ak):Prop:=RgT E T s.1∧RgT E T s.2
theorem RgS.neg {E T:Int}{s:ak×ak}(h:RgS E T s):RgS E T (negS s):=⟨h.2,h.1⟩
def Fit9 (t:ak):Prop:=RgT 1000000000 1000000000 t
theorem often_le {N a:Nat}(h:(N:Rat)≤2*p2 a+1):N<2^ (a+2):=by
 rw[p2_nat] at h;have b:(N:Rat)≤((2*2^a+1:Nat):Rat):=by
  rw[Rat.natCast_add,Rat.natCast_mul];exact h
 have c:=Rat.natCast_le_natCast.1 b;have d:=Nat.pow_pos (n:=a) (show 0<2 by omega)
 rw[Nat.pow_add];omega
theorem NrN.mul {f c g h:Nat→Rat}{A B:Rat}(hf:NrN f c)(K:NrN g h)(G:EvN fun n=>ab (c n)≤A)(H:EvN fun n=>ab (h n)≤B):NrN (fun n=>f n*g n) (fun n=>c n*h n):=fun e O=>by
 obtain⟨i,q⟩:=G;obtain⟨j,r⟩:=H;have N:0≤A:=Rat.le_trans (ab_nonneg _) (q i (Nat.le_refl _));have I:0≤B:=Rat.le_trans (ab_nonneg _) (r j (Nat.le_refl _));obtain⟨C,J⟩: ∃C:Rat,C=A+B+1:=⟨_,rfl⟩;have s:e/C*C=e:=Rat.div_mul_cancel (by grind);have Q:0<e/C:=cancel_lt (show 0<C by grind) (by rw[s];grind)
 obtain⟨d,p,w,z⟩: ∃d:Rat,0<d∧d≤1∧d≤e/C:=by
  refine⟨IvN.mn 1 (e/C), ?_, ?_, ?_⟩<;>unfold IvN.mn<;>grind
 obtain⟨u,E⟩:=hf d p;obtain⟨v,F⟩:=K d p;refine⟨i+j+u+v,fun n P=> ?_⟩
 have k:=q n (by omega);have l:=r n (by omega);have m:=E n (by omega);have o:=F n (by omega);simp only at k l⊢;generalize f n=x at*;generalize c n=a at*;generalize g n=y at*;generalize h n=b at*;have D:x*y-a*b=(x-a)*(y-b)+(x-a)*b+a*(y-b):=by grind
 rw[D];have L:=ab_add ((x-a)*(y-b)+(x-a)*b) (a*(y-b));have M:=ab_add ((x-a)*(y-b)) ((x-a)*b);rw[ab_mul,ab_mul] at M;rw[ab_mul] at L;have R:=Rat.mul_le_mul_of_nonneg_left o (ab_nonneg (x-a));have S:=Rat.mul_le_mul_of_nonneg_left l (ab_nonneg (x-a));have T:=Rat.mul_le_mul_of_nonneg_left o (ab_nonneg a);have U:=Rat.mul_le_mul_of_nonneg_right m (show 0≤d by grind)
 have W:=Rat.mul_le_mul_of_nonneg_right m I;have X:=Rat.mul_le_mul_of_nonneg_right k (show 0≤d by grind)
 have Y:=Rat.mul_le_mul_of_nonneg_right w (show 0≤d by grind)
 have t:=Rat.mul_le_mul_of_nonneg_right z (show 0≤C by grind)
 rw[s] at t;rw[J] at t
 grind
def jU (R D L G:Int)(gr s up:Bool)(l n:Nat)(e:Int):Nat:=if kG s up l=up then ij R D L gr (fD R D L G gr n e) (fK R D L G gr n e) else sG R D gr (fD R D L G gr n e)
def ip (R D L G:Int)(gr s up:Bool)(l n:Nat)(e:Int):Int:=if kG s up l=up then jl R D L (fD R D L G gr n e) (fK R D L G gr n e) else AO R D L gr (fD R D L G gr n e) (fK R D L G gr n e)
def zTr:ak:=⟨false,0,0⟩
end Go.Proofs.YthhiidikgchdeabGreatDoor

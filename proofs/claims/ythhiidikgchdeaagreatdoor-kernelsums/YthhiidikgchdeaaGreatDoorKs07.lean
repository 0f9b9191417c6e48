/- Texts laid together. -/
import Derived.Deep.CutBlock
import Derived.Maps.AppendAt
import Derived.Test.YthhiidikgchdeaaGreatDoorKs02
import Derived.Test.YthhiidikgchdeaaGreatDoorKs03
import Derived.Test.YthhiidikgchdeaaGreatDoorKs04
namespace Go.Proofs.YthhiidikgchdeaaGreatDoor
open Go.RowKit
theorem eS {K:Nat}{a b:ak}(c: -(K:Int)≤a.e)(d: -(K:Int)≤b.e): -(K:Int)≤(aG a b).e:=by
 unfold aG;simp only
 split
 ·simp only;omega
 ·split<;>(simp only;omega)
def cO (a b:ak):ak:=
 let e0:=min a.e b.e
 let e1:=if a.n=0 then b.e else e0
 let e:=if b.n=0 then a.e else e1
 let x:=a.n*2^ (max 0 (a.e-e)).toNat
 let y:=b.n*2^ (max 0 (b.e-e)).toNat
 if a.s=b.s then⟨a.s,x+y,e⟩ else if y≤x then⟨a.s,x-y,e⟩ else⟨b.s,y-x,e⟩
theorem zy {K:Nat}{a b:ak}(i: -(K:Int)≤a.e)(j: -(K:Int)≤b.e): -(K:Int)≤(cO a b).e:=by
 obtain⟨e,f⟩: ∃e,(if b.n=0 then a.e else if a.n=0 then b.e else min a.e b.e)=e:=⟨_,rfl⟩
 have g: -(K:Int)≤e:=by rw[←f];split<;>(try split)<;>omega
 have h:(cO a b).e=e:=by
  unfold cO;simp only[f]
  by_cases c:a.s=b.s
  ·rw[if_pos c]
  ·rw[if_neg c]
   by_cases d:b.n*2^ (max 0 (b.e-e)).toNat≤a.n*2^ (max 0 (a.e-e)).toNat
   ·rw[if_pos d]
   ·rw[if_neg d]
 rw[h];exact g
theorem Sa (a b:ak):(aG a b).e=min a.e b.e:=by
 unfold aG;simp only
 by_cases d:a.s=b.s
 ·rw[if_pos d]
 ·rw[if_neg d]
  by_cases c:a.n*2^ (a.e-min a.e b.e).toNat<b.n*2^ (b.e-min a.e b.e).toNat
  ·rw[if_pos c]
  ·rw[if_neg c]
def dB (t:ak):ak:=⟨!t.s&&decide (0<t.n),t.n,t.e⟩
def iD (r q:ak×Int):ak×ak×Int:=if r.2=0 then if q.2=0 then(r.1,q.1,0) else(⟨false,0,0⟩,⟨false,0,0⟩,q.2) else(⟨false,0,0⟩,⟨false,0,0⟩,r.2)
theorem Nr {x y:Nat}(h:x≤y):bitLen x≤bitLen y:=bF x _ (Nat.lt_of_le_of_lt h (bitLen_spec y).1)
theorem fh {n c d:Int}(h:cW n c d=0):c=0∧d=0∧1≤n∧n≤4096:=by
 unfold cW at h
 by_cases a:c=0
 ·rw[if_pos a] at h
  unfold kj at h
  by_cases b:d=0
  ·rw[if_pos b] at h
   unfold Vr at h
   by_cases e:n<1∨4096<n
   ·rw[if_pos e] at h;omega
   ·exact⟨a,b,by omega,by omega⟩
  ·rw[if_neg b] at h;exact absurd h b
 ·rw[if_neg a] at h;exact absurd h a
def dk (T:ak→ak→ak)(A0 A1 B0 B1:ak):Nat→ak
 |0=>T A0 B0
 |1=>T A0 B1
 |2=>T A1 B0
 |_=>T A1 B1
theorem gA (T:ak→ak→ak)(a b c d:ak)(Q:ak→Prop)(e:Q (T a c))(f:Q (T a d))(g:Q (T b c))(h:Q (T b d)): ∀j,Q (dk T a b c d j)
 |0=>e
 |1=>f
 |2=>g
 |_+3=>h
def rf (R D L:Int)(gr qs:Bool)(N M:Nat)(E way:Int):Bool:=
 gY way (dm ((gF R D L gr N M E*2:Nat):Int) ((dX M (shP R D L gr N M E):Nat):Int)) (decide (cH R D L gr N M E % 2=1)) qs
def fM (R D L:Int)(gr qs:Bool)(N M:Nat)(E way:Int):Nat:=
 if decide (gF R D L gr N M E=0)=false∧rf R D L gr qs N M E way=true then cH R D L gr N M E+1 else cH R D L gr N M E
def cI (R D L G:Int)(gr qs:Bool)(N M:Nat)(E way:Int):fz:=
 if fM R D L gr qs N M E way=0 then⟨qs,0,0,decide (gF R D L gr N M E=0),false,decide (aT R D (dY N M E)<L)⟩
 else⟨qs,io R D (fM R D L gr qs N M E way),gD R D (fM R D L gr qs N M E way) (dj R D L gr N M E),decide (gF R D L gr N M E=0),decide (G<gD R D (fM R D L gr qs N M E way) (dj R D L gr N M E)),decide (aT R D (dY N M E)<L)⟩
def oI:fz:=⟨false,0,0,false,false,false⟩
theorem gO {xs a:List Nat}{E:Int}(h:eA xs a E=0):chk xs=0∧chk a=0∧0<a.length∧ -20000≤E∧E≤20000:=by
 unfold eA at h
 by_cases b:chk xs=0
 ·rw[if_pos b] at h
  by_cases d:chk a=0
  ·rw[if_pos d] at h
   by_cases e:a.length=0∨eJ 20000 E=true
   ·rw[if_pos e] at h
    cases h
   ·have f: ¬eJ 20000 E=true:=fun c=>e (Or.inr c)
    unfold eJ at f;simp at f;refine⟨b,d, ?_,by omega,by omega⟩;have: ¬a.length=0:=fun c=>e (Or.inl c)
    omega
  ·rw[if_neg d] at h
   exact absurd h d
 ·rw[if_neg b] at h
  exact absurd h b
theorem BC (N M a b:Nat)(r:N≠0)(i:M≠0):M*2^b≤N*2^a↔(b:Int)≤dY N M 0+a:=by
 obtain⟨u,p,q⟩:=uB N r;obtain⟨t,n,o⟩:=uB M i;obtain⟨d,k⟩: ∃d,bitLen N=d:=⟨_,rfl⟩;obtain⟨e,j⟩: ∃e,bitLen M=e:=⟨_,rfl⟩;have m:dY N M 0=0+(((d:Int)-(e:Int))-(if eZ N (-((d:Int)-(e:Int)))/dX M (-((d:Int)-(e:Int)))=0 then 1 else 0)):=by
  unfold dY;rw[k,j]
 rw[k] at u p q;rw[j] at t n o;have low:M*2^ (d-1)≤N*2^e:=by
  rw[Nat.mul_comm];exact Nat.mul_le_mul p (Nat.le_of_lt o)
 have s: ¬M*2^d≤N*2^ (e-1):=by
  have v:N*2^ (e-1)<2^d*2^ (e-1):=Nat.mul_lt_mul_of_pos_right q (bG _);have w:2^d*2^ (e-1)≤M*2^d:=by
   rw[Nat.mul_comm (2^d)];exact Nat.mul_le_mul_right _ n
  omega
 have l:eZ N (-((d:Int)-(e:Int)))/dX M (-((d:Int)-(e:Int)))=0↔ ¬M*2^ (d-e)≤N*2^ (e-d):=by
  rw[fw,eM,show(-((d:Int)-(e:Int))).toNat=e-d by omega,show(-(-((d:Int)-(e:Int)))).toNat=d-e by omega,Nat.div_eq_zero_iff]
  have:=Nat.mul_pos (Nat.pos_of_ne_zero i) (bG (d-e));omega
 by_cases f:eZ N (-((d:Int)-(e:Int)))/dX M (-((d:Int)-(e:Int)))=0
 ·rw[if_pos f] at m
  have g:=l.1 f
  constructor
  ·intro h
   refine Decidable.byContradiction fun c=>g (DS h ?_)
   omega
  ·intro h
   exact DS low (by omega)
 ·rw[if_neg f] at m
  have g:M*2^ (d-e)≤N*2^ (e-d):=Decidable.byContradiction fun c=>f (l.2 c)
  constructor
  ·intro h
   refine Decidable.byContradiction fun c=>s (DS h ?_)
   omega
  ·intro h
   exact DS g (by omega)
theorem BD (N M:Nat)(n:Int)(j:Nat)(b:N≠0)(a:M≠0):2^j≤eZ N n/dX M n↔(j:Int)≤dY N M 0+n:=by
 rw[fw,eM,Nat.le_div_iff_mul_le (Nat.mul_pos (Nat.pos_of_ne_zero a) (bG _)),←Nat.mul_assoc,Nat.mul_comm (2^j),Nat.mul_assoc,←Nat.pow_add,BC N M _ _ b a];omega
theorem pP (d m:Nat):bitLen d<m+1↔ ¬2^m≤d:=by
 constructor
 ·intro h c
  have a:d≠0:=by
   have:=bG m;omega
  obtain⟨-,-,b⟩:=uB d a;have:(2:Nat)^bitLen d≤2^m:=Nat.pow_le_pow_right (by omega) (by omega);omega
 ·intro h
  have:=bF d m (by omega);omega
theorem xx (R D k:Int)(N M:Nat)(E:Int)(d:1≤D)(b:N≠0)(a:M≠0):
  bitLen (eZ N (E-(ai R:Int)*k)/dX M (E-(ai R:Int)*k))<ai R*(D-1).toNat+1↔aT R D (dY N M E)<k:=by
 rw[pP,BD N M _ _ b a,qD N M E];unfold aT;obtain⟨t,c⟩: ∃t,dY N M 0=t:=⟨_,rfl⟩;rw[c];unfold ai
 split<;>simp<;>omega
theorem rP (R D L:Int)(gr:Bool)(N M:Nat)(E:Int)(g:1≤D)(d:N≠0)(b:M≠0):cH R D L gr N M E<2^ (ai R*D.toNat):=by
 refine Nat.lt_of_not_le fun c=> ?_
 unfold cH shP at c;rw[BD N M _ _ d b] at c;have a:aT R D (dY N M E)≤dj R D L gr N M E:=by
  unfold dj
  by_cases h:(decide (aT R D (dY N M E)<L)&&gr)=true
  ·rw[if_pos h]
   have:=of_decide_eq_true (Bool.and_eq_true_iff.1 h).1;omega
  ·rw[if_neg h]
   exact Int.le_refl _
 obtain⟨k,e⟩: ∃k,dj R D L gr N M E=k:=⟨_,rfl⟩;rw[e] at c a;rw[qD] at a;obtain⟨t,f⟩: ∃t,dY N M 0=t:=⟨_,rfl⟩;rw[f] at c a;unfold aT ai at a;unfold ai at c
 split at c<;>simp_all<;>omega
theorem Vf (R D L:Int)(gr:Bool)(N M:Nat)(E:Int)(b:1≤D)(e:N≠0)(d:M≠0)(h:dj R D L gr N M E=aT R D (dY N M E)):0<cH R D L gr N M E:=by
 have a: ¬bitLen (cH R D L gr N M E)<ai R*(D-1).toNat+1:=by
  unfold cH shP;rw[h,xx R D _ N M E b e d];omega
 have:cH R D L gr N M E≠0:=by
  intro c;rw[c] at a;simp at a;rw[gP] at a;omega
 omega
theorem uh (R D L:Int)(gr:Bool)(N M:Nat)(E:Int)(a:1≤D)(c:N≠0)(b:M≠0)(p:Int):io R D (cH R D L gr N M E)=cH R D L gr N M E∧gD R D (cH R D L gr N M E) p=p:=by
 have h:=rP R D L gr N M E a c b;unfold io gD;rw[if_neg (by omega),if_neg (by omega)];exact⟨rfl,rfl⟩
theorem KL (R D L:Int)(gr qs:Bool)(N M:Nat)(E way:Int):cH R D L gr N M E≤fM R D L gr qs N M E way:=by
 unfold fM
 split<;>omega
theorem kJ {R D L G:Int}(gr qs:Bool)(N M:Nat)(E way:Int)(b:1≤D)(j:L≤G)(f:N≠0)(d:M≠0):
  cI R D L G gr qs N M E way=⟨qs,io R D (fM R D L gr qs N M E way),if io R D (fM R D L gr qs N M E way)=0 then 0 else gD R D (fM R D L gr qs N M E way) (dj R D L gr N M E),decide (gF R D L gr N M E=0),decide (G<gD R D (fM R D L gr qs N M E way) (dj R D L gr N M E)),decide (aT R D (dY N M E)<L)⟩:=by
 unfold cI
 by_cases a:fM R D L gr qs N M E way=0
 ·have i:cH R D L gr N M E=0:=by
   have:=KL R D L gr qs N M E way;omega
  have h:dj R D L gr N M E=L:=by
   refine Decidable.byContradiction fun c=> ?_
   have e:dj R D L gr N M E=aT R D (dY N M E):=by
    unfold dj at c⊢
    split at c
    ·exact absurd rfl c
    ·rw[if_neg (by assumption)]
   have:=Vf R D L gr N M E b f d e;omega
  have g:=uh R D L gr N M E b f d (dj R D L gr N M E);rw[if_pos a,a,if_pos ((CD R D 0).2 rfl),(CD R D 0).2 rfl];rw[i] at g;rw[g.2,h,decide_eq_false (show¬G<L by omega)]
 ·rw[if_neg a,if_neg (fun c=>a ((CD R D _).1 c))]
def dA (R D L G:Int)(gr:Bool)(n:Nat)(e:Int):Bool:=
 decide (n=0∨(L≤cP R D L gr n e∧cP R D L gr n e≤G∧(ai R:Int)*cP R D L gr n e≤e+(tz n:Int)))
theorem aaN {d j k:Nat}(e:2^j≤d)(c:d<2^k):j<bitLen d∧bitLen d≤k:=by
 have a:=pP d j;have b:=bF d k c;omega
theorem Ep {R D k:Int}{d:Nat}(h:1≤D)(e:2^ (ai R*(D-1).toNat)≤d)(f:d<2^ (ai R*D.toNat)):aT R D ((bitLen d:Int)-1+(ai R:Int)*k)=k:=by
 obtain⟨a,c⟩:=aaN e f;unfold aT;obtain⟨b,g⟩: ∃b,bitLen d=b:=⟨_,rfl⟩;rw[g] at a c⊢;unfold ai at*
 split at a<;>simp_all<;>omega
theorem Il {R D k:Int}{d:Nat}(f:1≤D)(c:d<2^ (ai R*D.toNat)):aT R D ((bitLen d:Int)-1+(ai R:Int)*k)≤k:=by
 have a:=bF d _ c;unfold aT;obtain⟨b,e⟩: ∃b,bitLen d=b:=⟨_,rfl⟩;rw[e] at a⊢;unfold ai at*
 split at a<;>simp_all<;>omega
theorem Sg {R D L k:Int}{gr:Bool}{d:Nat}(b:1≤D)(a:d<2^ (ai R*D.toNat))(f:L≤k)(hf:2^ (ai R*(D-1).toNat)≤d∨(gr=true∧k=L)):cP R D L gr d ((ai R:Int)*k)=k:=by
 unfold cP
 rcases hf with e| ⟨rfl,rfl⟩
 ·rw[Ep b e a,decide_eq_false (by omega)]
  rfl
 ·have h:=Il (k:=k) b a
  by_cases c:aT R D ((bitLen d:Int)-1+(ai R:Int)*k)<k
  ·rw[decide_eq_true c]
   rfl
  ·rw[decide_eq_false c]
   show aT R D ((bitLen d:Int)-1+(ai R:Int)*k)=k
   omega
theorem tN {R D L G k:Int}{gr:Bool}{d:Nat}(b:1≤D)(a:d<2^ (ai R*D.toNat))(c:L≤k)(hf:2^ (ai R*(D-1).toNat)≤d∨(gr=true∧k=L))(e:d≠0):dA R D L G gr d ((ai R:Int)*k)=decide (k≤G):=by
 unfold dA;rw[Sg b a c hf];refine decide_eq_decide.2 ?_;omega
theorem tO (R D L G:Int)(gr:Bool)(e:Int):dA R D L G gr 0 e=true:=decide_eq_true (.inl rfl)
def nm (R D L:Int)(gr:Bool)(n:Nat)(e:Int):Nat:=shN n (e-(ai R:Int)*cP R D L gr n e)
def fD (R D L G:Int)(gr:Bool)(n:Nat)(e:Int):Nat:=if n=0 then 0 else if dA R D L G gr n e=true then nm R D L gr n e else 0
def fK (R D L G:Int)(gr:Bool)(n:Nat)(e:Int):Int:=if n=0 then L else if dA R D L G gr n e=true then cP R D L gr n e else 0
theorem EvN.and {p q:Nat→Prop}(h:EvN p)(g:EvN q):EvN fun n=>p n∧q n:=by
 obtain⟨a,c⟩:=h;obtain⟨b,d⟩:=g;exact⟨a+b,fun n e=>⟨c n (by omega),d n (by omega)⟩⟩
def lg (u:Rat)(n:Nat):Rat:=rs (lgt u) n
def gs (u:Rat)(n:Nat):Rat:=rs (rp u) n
def glR (t:Rat)(n:Nat):Rat:=er (lg t n) n*(1-t)
def aw (w:Rat)(n:Nat):Rat:=rs (awt w) n
def ta (w:Rat)(n:Nat):Rat:=rs (fun j=>sgj j*awt w j) n
def CxN.la (n:Nat):Rat:=18*aw (1/26) n+2*aw (-1/4801) n+8*aw (1/8749) n
theorem tm_exp (u:Rat): ∀k,prE u k=tmS u cExp k
 |0=>rfl
 |k+1=>by
  simp only[prE,tmS,cExp,tm_exp u k]
  grind
structure IvN.Cut (d:Rat) (S S':IvN):Prop where
 lo:S'.lo≤S.lo
 hi:S.hi≤S'.hi
 lo':S.lo-S'.lo≤d*ab S.lo
 hi':S'.hi-S.hi≤d*ab S.hi
 pow: ∀k,S.inn (hf k)→S'.inn (hf k)
theorem IvN.Cut.has {d:Rat}{S a:IvN}(h:Cut d S a){x:Rat}(g:S.has x):a.has x:=⟨Rat.le_trans h.lo g.1,Rat.le_trans g.2 h.hi⟩
def awg (tn:Nat)(w:Rat)(n:Nat):Rat:=rs (fun j=>sgt tn j*awt w j) n
def qT (t:ak):Rat:=(sz t.s t.n:Rat)*p2 t.e
theorem low_all (x:Nat→ak): ∀i,∃K:Nat,∀j,j≤i→ -(K:Int)≤(x j).e
 |0=>⟨(x 0).e.natAbs,fun j a=>by
  obtain rfl:j=0:=by omega
  omega⟩
 |i+1=>by
  obtain⟨K,h⟩:=low_all x i;refine⟨K+(x (i+1)).e.natAbs,fun j a=> ?_⟩
  by_cases c:j=i+1
  ·subst c
   omega
  ·have:=h j (by omega)
   omega
theorem qT_sq (t:ak):qT t=sqT t.s*((t.n:Rat)*p2 t.e):=by
 unfold qT sz sqT
 cases t.s
 ·simp only[Bool.false_eq_true,if_false,Rat.intCast_natCast]
  grind
 ·simp only[if_true,Rat.intCast_natCast,Rat.intCast_neg]
  grind
theorem qT_zero {t:ak}(h:t.n=0):qT t=0:=by
 rw[qT_sq,h];have:((0:Nat):Rat)=0:=rfl;rw[this]
 grind
theorem sq_ab (g:Bool)(x:Rat):ab (sqT g*x)=ab x:=by
 cases g<;>simp only[sqT,Bool.false_eq_true,if_false,if_true]<;>unfold ab<;>grind
def ivT (a b:ak):IvN:=⟨qT a,qT b⟩
def wTr (n:Nat):ak:=⟨false,n,0⟩
theorem qT_w (n:Nat):qT (wTr n)=(n:Rat):=by
 rw[qT_sq];simp only[wTr,sqT,Bool.false_eq_true,if_false,p2_zero]
 grind
def ivS (s:ak×ak):IvN:=ivT s.1 s.2
def plusS (s t:ak×ak):ak×ak:=(aG s.1 t.1,aG s.2 t.2)
def sizeT (t:ak):ak:=⟨false,t.n,t.e⟩
def RgT (E T:Int)(t:ak):Prop:= -E≤t.e∧t.e+(bitLen t.n:Int)≤T
theorem bits_le {n k:Nat}(h:n<2^k):bitLen n≤k:=by
 by_cases c:n=0
 ·rw[c,gP];omega
 ·obtain⟨d,b,e⟩:=uB n c
  have:=(Nat.pow_lt_pow_iff_right (a:=2) (by omega)).1 (Nat.lt_of_le_of_lt b h);omega
theorem bits_lt (n:Nat):n<2^bitLen n:=by
 by_cases c:n=0
 ·rw[c];exact Nat.pow_pos (by omega)
 ·exact(uB n c).2.2
theorem bits_mul (a b:Nat):bitLen (a*b)≤bitLen a+bitLen b:=bits_le (by
 rw[Nat.pow_add];exact Nat.mul_lt_mul'' (bits_lt a) (bits_lt b))
theorem bits_up (a s:Nat):bitLen (a*2^s)≤bitLen a+s:=bits_le (by
 rw[Nat.pow_add];exact Nat.mul_lt_mul_of_pos_right (bits_lt a) (Nat.pow_pos (by omega)))
theorem bits_mono {a b:Nat}(h:a≤b):bitLen a≤bitLen b:=bits_le (Nat.lt_of_le_of_lt h (bits_lt b))
theorem bits_add {a b k:Nat}(c:bitLen a≤k)(d:bitLen b≤k):bitLen (a+b)≤k+1:=bits_le (by
 have e:=Nat.lt_of_lt_of_le (bits_lt a) (Nat.pow_le_pow_right (show 2>0 by omega) c)
 have f:=Nat.lt_of_lt_of_le (bits_lt b) (Nat.pow_le_pow_right (show 2>0 by omega) d)
 rw[Nat.pow_succ];omega)
theorem RgT.w (n k:Nat)(h:n<2^k):RgT 0 k (wTr n):=by
 have:=bits_le h;unfold RgT
 show _≤(0:Int)∧(0:Int)+(bitLen n:Int)≤_
 omega
def RgS (E T:Int)(s:ak×ak):Prop:=RgT E T s.1∧RgT E T s.2
def Fit9 (t:ak):Prop:=RgT 1000000000 1000000000 t
def jU (R D L G:Int)(gr s up:Bool)(l n:Nat)(e:Int):Nat:=if kG s up l=up then ij R D L gr (fD R D L G gr n e) (fK R D L G gr n e) else sG R D gr (fD R D L G gr n e)
def ip (R D L G:Int)(gr s up:Bool)(l n:Nat)(e:Int):Int:=if kG s up l=up then jl R D L (fD R D L G gr n e) (fK R D L G gr n e) else AO R D L gr (fD R D L G gr n e) (fK R D L G gr n e)
theorem DY (R D L:Int)(gr qs:Bool)(N M:Nat)(E way:Int):fM R D L gr qs N M E way=cH R D L gr N M E∨fM R D L gr qs N M E way=cH R D L gr N M E+1:=by
 unfold fM
 split
 ·exact .inr rfl
 ·exact .inl rfl
theorem BS {R D L:Int}{gr qs:Bool}{N M:Nat}{E way:Int}(h:gF R D L gr N M E=0):fM R D L gr qs N M E way=cH R D L gr N M E:=by
 unfold fM;rw[if_neg];rintro⟨c,-⟩;exact of_decide_eq_false c h
theorem GS {R D L:Int}{gr qs:Bool}{N M:Nat}{E:Int}(h: ¬gF R D L gr N M E=0):fM R D L gr qs N M E 5=if qs=true then cH R D L gr N M E+1 else cH R D L gr N M E:=by
 have a:rf R D L gr qs N M E 5=qs:=by
  unfold rf gY;simp
 unfold fM;rw[a,decide_eq_false h];simp
theorem RG {R D L:Int}{gr qs:Bool}{N M:Nat}{E:Int}(h: ¬gF R D L gr N M E=0):fM R D L gr qs N M E 4=if qs=true then cH R D L gr N M E else cH R D L gr N M E+1:=by
 have a:rf R D L gr qs N M E 4= !qs:=by
  unfold rf gY;simp
 unfold fM;rw[a,decide_eq_false h]
 cases qs<;>simp
theorem Bv {R D L:Int}{gr:Bool}{N M:Nat}{E:Int}(d:1≤D)(f:N≠0)(e:M≠0)(b: ¬aT R D (dY N M E)<L∨gr=true):
  L≤dj R D L gr N M E∧(2^ (ai R*(D-1).toNat)≤cH R D L gr N M E∨(gr=true∧dj R D L gr N M E=L)):=by
 have hcut:L≤dj R D L gr N M E∧(dj R D L gr N M E=aT R D (dY N M E)∨(gr=true∧dj R D L gr N M E=L)):=by
  unfold dj
  by_cases a:(decide (aT R D (dY N M E)<L)&&gr)=true
  ·rw[if_pos a]
   exact⟨Int.le_refl _,.inr ⟨(Bool.and_eq_true_iff.1 a).2,rfl⟩⟩
  ·rw[if_neg a]
   refine⟨?_,.inl rfl⟩
   rcases b with b|b
   ·omega
   ·rw[b,Bool.and_true] at a
    have: ¬aT R D (dY N M E)<L:=fun c=>a (decide_eq_true c)
    omega
 refine⟨hcut.1, ?_⟩
 rcases hcut.2 with h|h
 ·left
  have:=mt (xx R D (aT R D (dY N M E)) N M E d f e).1 (Int.lt_irrefl _);rw[pP] at this;unfold cH shP;rw[h];omega
 ·exact .inr h
theorem ut.symm {J:Int}{e c f d:Nat}{a b:Int}(h:ut J e c a f d b):ut J f d b e c a:=fun j g=>⟨(h j g).1.symm,(h j g).2.symm⟩
def EndB (E:Int)(t:ak):Prop:= -1120≤t.e∧t.e≤E∧t.n<2^1000
def zTr:ak:=⟨false,0,0⟩
end Go.Proofs.YthhiidikgchdeaaGreatDoor

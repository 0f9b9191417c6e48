/- Texts laid together. -/
import Derived.Test.YtlhkndcmbpcpgaaGreatDoorXs02
import Derived.Test.YtlhkndcmbpcpgaaGreatDoorXs05
set_option maxRecDepth 100000
set_option maxHeartbeats 3200000
namespace Go.Proofs.YtlhkndcmbpcpgaaGreatDoor
open _root_.Go.Proofs.Tryz
open Go.RowKit
def dj (R D L:Int)(gr:Bool)(N M:Nat)(E:Int):Int:=
 if(decide (aT R D (dY N M E)<L)&&gr)=true then L else aT R D (dY N M E)
def shP (R D L:Int)(gr:Bool)(N M:Nat)(E:Int):Int:=E-(ai R:Int)*dj R D L gr N M E
def cH (R D L:Int)(gr:Bool)(N M:Nat)(E:Int):Nat:=eZ N (shP R D L gr N M E)/dX M (shP R D L gr N M E)
def gF (R D L:Int)(gr:Bool)(N M:Nat)(E:Int):Nat:=eZ N (shP R D L gr N M E) % dX M (shP R D L gr N M E)
theorem Bp {R D t:Int}(a:1≤D)(b:D≤120)(c: -340001≤t)(d:t≤340001): -341000≤aT R D t∧aT R D t≤341000∧ -341000≤(ai R:Int)*aT R D t∧(ai R:Int)*aT R D t≤341000:=by
 unfold aT ai
 split<;>omega
theorem qD (N M:Nat)(E:Int):dY N M E=E+dY N M 0:=by
 unfold dY;omega
theorem pP (d m:Nat):bitLen d<m+1↔ ¬2^m≤d:=by
 constructor
 ·intro h c
  have a:d≠0:=by
   have:=bG m;omega
  obtain⟨-,-,b⟩:=uB d a;have:(2:Nat)^bitLen d≤2^m:=Nat.pow_le_pow_right (by omega) (by omega);omega
 ·intro h
  have:=bF d m (by omega);omega
theorem Ve (R D:Int)(N M:Nat)(E:Int):
  aT R D (dY N M E)< ((bitLen N:Int)-(bitLen M:Int)+E)/(ai R:Int)-D+2:=by
 unfold aT dY ai
 split<;>split<;>simp<;>omega
def sq (w:World)(c:Int)(t:fz)(e:Ending)(w':World):Prop:=
 ∃v,e= .returned (.tuple #[ypV t.s v t.p t.ex t.ov t.un,yi c])∧Own w' w.heap.size 105 .u32 v (Dg.dg 4294967296 t.d)∧yB w w'
def oI:fz:=⟨false,0,0,false,false,false⟩
theorem nh (R D L G:Int)(gr:Bool)(w:World):
  yC 21 #[ygV R D L G gr] w (yR w (yi (xg R))):=by
 have a:=af w (.cells (ygA R D L G gr) 54);unfold xg
 by_cases h:R=16
 ·rw[if_pos h]
  subst h
  go_enter func21,ntmps21
  go_wp2
  go_ret
  exact⟨rfl,a⟩
 ·rw[if_neg h]
  have e:(R==16)=false:=by simp;exact h
  go_enter func21,ntmps21
  go_wp2
  go_ret
  exact⟨rfl,a⟩
theorem Pc (R D E:Int)(b a:Nat)(c: -700000≤(b:Int)-a+E):((b:Int)-a+E+800000).tdiv (ai R)-(800000:Int).tdiv (ai R)-D+2=((b:Int)-a+E)/(ai R:Int)-D+2:=by
 rw[Int.tdiv_eq_ediv_of_nonneg (by omega),Int.tdiv_eq_ediv_of_nonneg (by omega)];unfold ai
 split<;>simp<;>omega
theorem EN (R D:Int)(h:0≤D):((ai R*D.toNat:Nat):Int)=(ai R:Int)*D:=by
 rw[Int.natCast_mul,Int.toNat_of_nonneg h]
theorem CU {R k:Int}{a:Int}(b: -a≤k)(c:k≤a): -(4*a)≤(ai R:Int)*k∧(ai R:Int)*k≤4*a:=by
 unfold ai
 split<;>simp<;>omega
theorem CJ {R D L:Int}{gr:Bool}{N M:Nat}{E:Int}(h:(decide (aT R D (dY N M E)<L)&&gr)=true):dj R D L gr N M E=L:=if_pos h
theorem Gu {R D L:Int}{gr:Bool}{N M:Nat}{E:Int}(h:(decide (aT R D (dY N M E)<L)&&gr)=false):dj R D L gr N M E=aT R D (dY N M E):=if_neg (by rw[h];decide)
theorem vR {a L:Nat}(h:(Dg.dg 65536 a).length≤L):bitLen a≤16*L:=by
 refine bF a _ ?_;rw[Nat.pow_mul];have b:=Dg.vl_lt 65536 _ (Dg.small_dg 65536 a (by omega));rw[Dg.vl_dg _ _ (by omega)] at b;exact Nat.lt_of_lt_of_le b (Nat.pow_le_pow_right (by omega) h)
theorem Rh {R D k t b:Int}(a:t/(ai R:Int)-(D-1)≤k)(f:k≤b/(ai R:Int)-D+2)(g: -341000≤t)(c:b≤341000)(d:1≤D)(e:D≤120): -360000≤(ai R:Int)*k∧(ai R:Int)*k≤360000:=by
 unfold ai at*
 split at a<;>simp_all<;>omega
theorem jk (n:Int)(w:World):yC 64 #[yi n] w fun z w'=>z= .returned (yi (dK n))∧w'=w:=by
 unfold dK
 by_cases c:n<1
 ·rw[if_pos (.inl c)]
  go_enter func64,ntmps64
  go_wp2
  go_ret
  exact⟨rfl,rfl⟩
 ·by_cases d:8<n
  ·rw[if_pos (.inr d)]
   go_enter func64,ntmps64
   go_wp2
   go_ret
   exact⟨rfl,rfl⟩
  ·rw[if_neg (by omega)]
   by_cases a:n≤3
   ·rw[if_pos a]
    go_enter func64,ntmps64
    go_wp2
    go_ret
    exact⟨rfl,rfl⟩
   ·rw[if_neg a]
    by_cases b:n≤5
    ·rw[if_pos b]
     go_enter func64,ntmps64
     go_wp2
     go_ret
     exact⟨rfl,rfl⟩
    ·rw[if_neg b]
     go_enter func64,ntmps64
     go_wp2
     go_ret
     exact⟨rfl,rfl⟩
def gW (k:Nat):Nat:=2^ (dgN k-1)
def iI (k e f:Nat):Nat:=if rdN k=16 then f else if e=0 then f else f|||gW k
def ii (k e:Nat):Int:=if rdN k=16 then lsI k+e else if e=0 then lsI k else lsI k+e-1
def pg (k c:Nat):Nat:=if(c=3∨c=4)∧k≤3 then kp k else 0
def lS (k c:Nat):Nat:=if k≤3 then(if c=3 then wrN k else if c=4 then wrN k|||gW k/2 else 0) else 0
theorem Fw {k:Nat}(c:Nat)(a:1≤k∧k≤8):pg k c<65536:=by
 have h:kp k<65536:=by rcases bO a with rfl|rfl|rfl|rfl|rfl|rfl|rfl|rfl<;>decide
 unfold pg
 split<;>omega
theorem Fx {k:Nat}(c:Nat)(b:1≤k∧k≤8):lS k c<18446744073709551616:=by
 have a:wrN k<2^64:=by rcases bO b with rfl|rfl|rfl|rfl|rfl|rfl|rfl|rfl<;>decide
 have d:gW k<2^64:=by rcases bO b with rfl|rfl|rfl|rfl|rfl|rfl|rfl|rfl<;>decide
 unfold lS
 split
 ·split
  ·exact a
  ·split
   ·exact Nat.or_lt_two_pow (n:=64) a (by omega)
   ·omega
 ·omega
theorem gZ (n L:Nat)(h:(Dg.dg 4294967296 n).length≤L):tz n≤32*L:=by
 by_cases a:n=0
 ·subst a;exact Nat.zero_le _
 ·obtain⟨m,f⟩:=fO a
  have b:=Dg.vl_lt 4294967296 (Dg.dg 4294967296 n) (Dg.small_dg _ _ (by omega));rw[Dg.vl_dg _ _ (by omega)] at b;have g:4294967296^ (Dg.dg 4294967296 n).length≤4294967296^L:=Nat.pow_le_pow_right (by omega) h;have c:(4294967296:Nat)^L=2^ (32*L):=by rw[Nat.pow_mul]
  have d:2^tz n*1≤2^tz n*(2*m+1):=Nat.mul_le_mul_left _ (by omega);rw[←f,Nat.mul_one] at d;have e:2^tz n<2^ (32*L):=by rw[←c];omega
  exact Nat.le_of_lt ((Nat.pow_lt_pow_iff_right (by omega)).1 e)
def cP (R D L:Int)(gr:Bool)(n:Nat)(e:Int):Int:=
 if(decide (aT R D ((bitLen n:Int)-1+e)<L)&&gr)=true then L else aT R D ((bitLen n:Int)-1+e)
def dA (R D L G:Int)(gr:Bool)(n:Nat)(e:Int):Bool:=
 decide (n=0∨(L≤cP R D L gr n e∧cP R D L gr n e≤G∧(ai R:Int)*cP R D L gr n e≤e+(tz n:Int)))
def inR (R D L G:Int)(gr:Bool)(m:Nat)(e:Int):Bool:=
 decide (m=0∨((ai R:Int)*L≤e∧e+(bitLen m:Int)≤(ai R:Int)*(G+D)∧(gr=true∨L≤aT R D (e+(bitLen m:Int)-1))∧(ai R:Int)*max L (aT R D (e+(bitLen m:Int)-1))≤e))
theorem aaN {d j k:Nat}(e:2^j≤d)(c:d<2^k):j<bitLen d∧bitLen d≤k:=by
 have a:=pP d j;have b:=bF d k c;omega
theorem Ep {R D k:Int}{d:Nat}(h:1≤D)(e:2^ (ai R*(D-1).toNat)≤d)(f:d<2^ (ai R*D.toNat)):aT R D ((bitLen d:Int)-1+(ai R:Int)*k)=k:=by
 obtain⟨a,c⟩:=aaN e f;unfold aT;obtain⟨b,g⟩: ∃b,bitLen d=b:=⟨_,rfl⟩;rw[g] at a c⊢;unfold ai at*
 split at a<;>simp_all<;>omega
theorem Il {R D k:Int}{d:Nat}(f:1≤D)(c:d<2^ (ai R*D.toNat)):aT R D ((bitLen d:Int)-1+(ai R:Int)*k)≤k:=by
 have a:=bF d _ c;unfold aT;obtain⟨b,e⟩: ∃b,bitLen d=b:=⟨_,rfl⟩;rw[e] at a⊢;unfold ai at*
 split at a<;>simp_all<;>omega
theorem Sg {R D L k:Int}{gr:Bool}{d:Nat}(b:1≤D)(a:d<2^ (ai R*D.toNat))(g:L≤k)(f:2^ (ai R*(D-1).toNat)≤d∨(gr=true∧k=L)):cP R D L gr d ((ai R:Int)*k)=k:=by
 unfold cP
 rcases f with e| ⟨rfl,rfl⟩
 ·rw[Ep b e a,decide_eq_false (by omega)]
  rfl
 ·have h:=Il (k:=k) b a
  by_cases c:aT R D ((bitLen d:Int)-1+(ai R:Int)*k)<k
  ·rw[decide_eq_true c]
   rfl
  ·rw[decide_eq_false c]
   show aT R D ((bitLen d:Int)-1+(ai R:Int)*k)=k
   omega
theorem tN {R D L G k:Int}{gr:Bool}{d:Nat}(b:1≤D)(a:d<2^ (ai R*D.toNat))(e:L≤k)(c:2^ (ai R*(D-1).toNat)≤d∨(gr=true∧k=L))(f:d≠0):dA R D L G gr d ((ai R:Int)*k)=decide (k≤G):=by
 unfold dA;rw[Sg b a e c];refine decide_eq_decide.2 ?_;omega
theorem tO (R D L G:Int)(gr:Bool)(e:Int):dA R D L G gr 0 e=true:=decide_eq_true (.inl rfl)
theorem Re {k:Nat}(a:1≤k∧k≤8):gW k<18446744073709551616:=by
 rcases bO a with rfl|rfl|rfl|rfl|rfl|rfl|rfl|rfl<;>decide
def heE (R L:Int)(ld:Nat)(t:fz):Nat:=(t.p-L).toNat+if R=2∧t.d&&& ld≠0 then 1 else 0
theorem pbelow_any (n:Int)(w:World)(a: -100000≤n)(b:n≤100000):yC 39 #[yi n] w (yR w (yi (pbV n))):=by
 have c: -40000≤(n*30103).tdiv 100000:=by
  rw[pb_is n]
  split<;>omega
 have d:(n*30103).tdiv 100000≤40000:=by
  rw[pb_is n]
  split<;>omega
 go_enter func39,ntmps39
 go_wp2
 go_ret
 exact⟨rfl,Below.refl _ _⟩
theorem DV (k:Nat)(ng:Bool)(e f:Nat):dh k ng e f=1∨dh k ng e f=2∨dh k ng e f=3∨dh k ng e f=4∨dh k ng e f=5:=by
 unfold dh
 repeat' split
 all_goals decide
theorem VL (k:Nat):0<gW k:=Nat.pow_pos (by omega)
theorem ZM {k:Nat}(a:1≤k∧k≤8):gW k<2^64:=by
 rcases bO a with rfl|rfl|rfl|rfl|rfl|rfl|rfl|rfl<;>decide
theorem jX {k:Nat}{ng:Bool}{e f:Nat}(h:dh k ng e f=2):0<iI k e f:=by
 unfold iI
 by_cases c:e=0
 ·subst c
  rw[if_pos rfl,ite_self]
  rcases Nat.eq_zero_or_pos f with a|a
  ·subst a
   unfold dh at h;simp only[if_true] at h
   split at h
   ·omega
   ·split at h
    ·omega
    ·split at h<;>omega
  ·exact a
 ·rw[if_neg c]
  by_cases b:rdN k=16
  ·rw[if_pos b]
   have d:k=4∨k=5:=by
    unfold rdN at b
    split at b
    ·exact .inl rfl
    ·exact .inr rfl
    ·omega
   unfold dh at h;rw[if_neg (by omega),if_pos (by omega)] at h
   rcases Nat.eq_zero_or_pos f with a|a
   ·rw[if_pos a] at h
    omega
   ·exact a
  ·rw[if_neg b]
   exact adB (VL k)
theorem vS {k:Nat}(b:1≤k∧k≤8)(e:Nat){f:Nat}(a:f<2^64):iI k e f<2^64:=by
 unfold iI
 split
 ·exact a
 ·split
  ·exact a
  ·exact Nat.or_lt_two_pow a (ZM b)
theorem ab9 {k:Nat}(a:1≤k∧k≤8){e:Nat}(b:e<65536): -100000≤ii k e∧ii k e≤100000:=by
 have h: -20000≤lsI k∧lsI k≤0:=by rcases bO a with rfl|rfl|rfl|rfl|rfl|rfl|rfl|rfl<;>decide
 unfold ii
 split
 ·omega
 ·split<;>omega
theorem fF {n:Int}(h:dK n≠0):1≤n.toNat∧n.toNat≤8∧((n.toNat:Nat):Int)=n:=by
 unfold dK at h
 by_cases c:n<1∨8<n
 ·rw[if_pos c] at h
  exact absurd rfl h
 ·omega
def digB (s:ByteArray):Bool:=decide (s.size≠0∧ ∀i,i<s.size→48≤byt s i∧byt s i≤57)
theorem digB_iff (s:ByteArray):digB s=true↔s.size≠0∧ ∀i,i<s.size→48≤byt s i∧byt s i≤57:=by
 unfold digB;rw[decide_eq_true_eq]
theorem OD (s:ByteArray)(a i:Nat)(h:a+i<s.size):byt (s.extract a s.size) i=byt s (a+i):=by
 unfold byt
 congr 1
 have b:i< (s.extract a s.size).size:=by simp;omega
 rw[getElem?_pos _ i b,getElem?_pos s (a+i) h];simp only[Option.getD_some]
 show(s.extract a s.size).data[i]=s.data[a+i]
 simp[ByteArray.data_extract]
def adS (s T:ByteArray)(p:Nat):Prop:=p+T.size=s.size∧ ∀i,i<T.size→byt T i=byt s (p+i)
theorem Wa {s T:ByteArray}{p n:Nat}(h:adS s T p)(c:n≤T.size):adS s (T.extract n T.size) (p+n):=by
 refine⟨by have:=h.1;simp;omega,fun i b=> ?_⟩
 have a:n+i<T.size:=by simp at b;omega
 rw[OD T n i a,h.2 (n+i) a,Nat.add_assoc]
theorem oT (n:Int)(w:World)(h:dK n=0):yC 15 #[yi n] w (yR w (.tuple #[yhV 0 0 0 0 0 0 0 false 0,.bool false])):=by
 have q:n<1∨8<n:=by
  unfold dK at h
  by_cases c:n<1∨8<n
  ·exact c
  ·rw[if_neg c] at h
   split at h
   ·omega
   ·split at h<;>omega
 clear h;have g:(n==1)=false:=by simp;omega
 have i:(n==2)=false:=by simp;omega
 have j:(n==3)=false:=by simp;omega
 have k:(n==4)=false:=by simp;omega
 have l:(n==5)=false:=by simp;omega
 have m:(n==6)=false:=by simp;omega
 have o:(n==7)=false:=by simp;omega
 have p:(n==8)=false:=by simp;omega
 have d:=ah w (yhL 0 0 0 0 0 0 0 false 0) 56;have b:=af w (.cells (yhA 0 0 0 0 0 0 0 false 0) 56);have a:=run_loadVar_mid (P:=Tryz.prog) _ w.heap.size 0 56 (yhL 0 0 0 0 0 0 0 false 0) _ d.range underlying56 rfl (by kernel_rfl);have e:Hid (_∧_):=⟨a,b⟩;clear a b d
 go_enter func15,ntmps15
 go_wp2
 obtain⟨a,f⟩:=e.out;exact bodyPost_ret (aj results15 rfl rfl a) rfl ⟨rfl,f⟩
theorem T3 (n:Int)(s:ByteArray)(w:World)(h:dK n=0):yC 5 #[yi n,.string s] w (yR w (yi 6)):=by
 have b:Hid (yJ 15 #[yi n] (.tuple #[yhV 0 0 0 0 0 0 0 false 0,.bool false])):=fun a=>oT n a h
 clear h
 go_enter func5,ntmps5
 go_wp2_with fail
 refine(b.out _).mono ?_;rintro z a ⟨rfl,c⟩
 go_wp2
 go_ret
 exact⟨rfl,aa c (af _ _)⟩
theorem eG (R D L G:Int)(gr:Bool)(w:World):
  yC 21 #[ygV R D L G gr] w (yR w (yi (wdI R))):=by
 have a:=af w (.cells (ygA R D L G gr) 54);unfold wdI
 by_cases h:R=16
 ·rw[if_pos h]
  subst h
  go_enter func21,ntmps21
  go_wp2
  go_ret
  exact⟨rfl,a⟩
 ·rw[if_neg h]
  have e:(R==16)=false:=by simp;exact h
  go_enter func21,ntmps21
  go_wp2
  go_ret
  exact⟨rfl,a⟩
def nm (R D L:Int)(gr:Bool)(n:Nat)(e:Int):Nat:=shN n (e-(ai R:Int)*cP R D L gr n e)
def fD (R D L G:Int)(gr:Bool)(n:Nat)(e:Int):Nat:=if n=0 then 0 else if dA R D L G gr n e=true then nm R D L gr n e else 0
def fK (R D L G:Int)(gr:Bool)(n:Nat)(e:Int):Int:=if n=0 then L else if dA R D L G gr n e=true then cP R D L gr n e else 0
theorem GK {R D L G:Int}{gr:Bool}{n:Nat}{e:Int}(a:n≠0):dA R D L G gr n e=true↔L≤cP R D L gr n e∧cP R D L gr n e≤G∧(ai R:Int)*cP R D L gr n e≤e+(tz n:Int):=by
 unfold dA;rw[decide_eq_true_iff]
 constructor
 ·rintro(h|h)
  ·exact absurd h a
  ·exact h
 ·exact .inr
theorem BE {a L:Nat}(h:(Dg.dg 65536 a).length≤L):bitLen a≤16*L:=by
 refine bF a _ ?_;rw[Nat.pow_mul];have b:=Dg.vl_lt 65536 _ (Dg.small_dg 65536 a (by omega));rw[Dg.vl_dg _ _ (by omega)] at b;exact Nat.lt_of_lt_of_le b (Nat.pow_le_pow_right (by omega) h)
theorem Gh (R D e:Int)(a:Nat)(h: -79000≤e+a):(e+(a:Int)-1+80000).tdiv (ai R)-(80000:Int).tdiv (ai R)-D+1=aT R D (e+(a:Int)-1):=by
 rw[Int.tdiv_eq_ediv_of_nonneg (by omega),Int.tdiv_eq_ediv_of_nonneg (by omega)];unfold aT ai
 split<;>simp<;>omega
theorem wS {R p:Int}(h: -20000≤p∧p≤20000): -80000≤(ai R:Int)*p∧(ai R:Int)*p≤80000:=by
 unfold ai
 split<;>simp<;>omega
def ia (R D L G:Int)(gr:Bool)(d:Nat)(p:Int):Prop:=
 (d=0∧p=0)∨(d≠0∧L≤p∧p≤G∧d<2^ (ai R*D.toNat)∧(2^ (ai R*(D-1).toNat)≤d∨(gr=true∧p=L)))
def byL (bf:Nat→Bool)(n:Nat):List Nat:=(List.range n).map fun i=>jY (fun j=>bf (8*i+j)) 8
theorem xT (a:Nat→Bool)(n:Nat):(byL a n).length=n:=by simp[byL]
theorem JB (a:Nat→Bool)(n i:Nat)(h:i<n):(byL a n).getD i 0=jY (fun j=>a (8*i+j)) 8:=by
 simp[byL,List.getD_eq_getElem?_getD,h]
theorem xU {k i:Nat}(c:1≤k∧k≤8)(d:i<szN k):plN k (plN k i)=i:=by
 obtain⟨m,e⟩:=(fZ c).2.2.2.2.1;unfold plN
 by_cases a:k=3
 ·rw[if_pos a,if_pos a]
  omega
 ·rw[if_neg a,if_neg a]
  by_cases b:6≤k
  ·rw[if_pos b,if_pos b]
   omega
  ·rw[if_neg b,if_neg b]
theorem Ib (zs:List Nat)(i:Nat):fU zs i=((zs.getD (i/8) 0).testBit (7-i % 8)).toNat:=by
 unfold fU;rw[Nat.testBit_eq_decide_div_mod_eq];have h:=Nat.mod_lt (zs.getD (i/8) 0/2^ (7-i % 8)) (show 0<2 by omega)
 rcases(show zs.getD (i/8) 0/2^ (7-i % 8) % 2=0∨zs.getD (i/8) 0/2^ (7-i % 8) % 2=1 by omega) with e|e<;>rw[e]<;>rfl
theorem Tk (y:Nat)(h:y<256):jY (fun j=>decide (y/2^ (7-j) % 2=1)) 8=y:=by
 have e: ∀n,(if decide (n % 2=1)=true then 1 else 0)=n % 2:=fun n=>by
  rcases(show n % 2=0∨n % 2=1 by omega) with h|h<;>rw[h]<;>rfl
 simp only[jY,e];omega
theorem nz {f g:Nat→Bool}: ∀n,(∀j,j<n→f j=g j)→jY f n=jY g n
 |0,_=>rfl
 |n+1,h=>by
  rw[jY,jY,nz n (fun j a=>h j (by omega)),h n (by omega)]
theorem OT (zs:List Nat)(e:Dg.Small 256 zs):zs=byL (fun i=>decide (fU zs i=1)) zs.length:=by
 apply List.ext_getElem (by rw[xT]);intro p a d;have b:zs.getD p 0=zs[p]:=by simp[List.getD_eq_getElem?_getD,a]
 have c:(byL (fun i=>decide (fU zs i=1)) zs.length).getD p 0=(byL (fun i=>decide (fU zs i=1)) zs.length)[p]:=by simp only[List.getD_eq_getElem?_getD,List.getElem?_eq_getElem d,Option.getD_some]
 rw[←b,←c,JB _ _ _ a];refine(Tk (zs.getD p 0) (e p)).symm.trans (nz 8 (fun j f=> ?_))
 unfold fU;rw[show(8*p+j)/8=p from by omega,show(8*p+j) % 8=j from by omega]
theorem Ic {f g:Nat→Bool}(n:Nat)(h: ∀i,i<8*n→f i=g i):byL f n=byL g n:=by
 unfold byL;apply List.map_congr_left;intro i a;have:=List.mem_range.1 a;exact nz 8 (fun j b=>h _ (by omega))
theorem Ea (n i:Nat):fU (List.replicate n 0) i=0:=by
 unfold fU;have:(List.replicate n 0).getD (i/8) 0=0:=by
  by_cases h:i/8<n
  ·simp[List.getD_eq_getElem?_getD,h]
  ·simp[List.getD_eq_getElem?_getD,h]
 rw[this];simp
theorem Jv (n:Nat)(x:Int):eZ n x/dX 1 x=shN n x:=by
 unfold eZ dX shN
 by_cases h:x<0
 ·rw[if_pos h,if_pos h,if_pos h,Nat.one_mul]
 ·rw[if_neg h,if_neg h,if_neg h,Nat.div_one]
theorem zr (R:Int):wdI R=(ai R:Int):=by
 unfold wdI ai
 split<;>rfl
theorem MF (a:Nat→Bool): ∀n r,r<n→jY a n/2^ (n-1-r) % 2=if a r then 1 else 0
 |0,_,h=>absurd h (Nat.not_lt_zero _)
 |n+1,r,h=>by
  rw[jY]
  by_cases e:r=n
  ·subst e
   rw[show r+1-1-r=0 from by omega,Nat.pow_zero,Nat.div_one]
   split<;>omega
  ·have b:=MF a n r (by omega)
   rw[show n+1-1-r=(n-1-r)+1 from by omega,Nat.pow_succ,Nat.mul_comm (2^ (n-1-r)) 2,←Nat.div_div_eq_div_mul]
   rw[show(jY a n*2+if a n=true then 1 else 0)/2=jY a n from by split<;>omega]
   exact b
theorem XS (a:Nat→Bool)(n i:Nat)(h:i<8*n):fU (byL a n) i=if a i then 1 else 0:=by
 unfold fU;rw[JB a n _ (by omega)];have:=MF (fun j=>a (8*(i/8)+j)) 8 (i % 8) (by omega)
 rw[show 8-1-i % 8=7-i % 8 from by omega,show 8*(i/8)+i % 8=i from by omega] at this
 exact this
theorem zk (a:Nat→Bool)(m f:Nat): ∀n,f+n≤8*m→eH (byL a m) f n=jY (fun j=>a (f+j)) n
 |0,_=>rfl
 |n+1,h=>by
  rw[eH,jY,zk a m f n (by omega),XS a m (f+n) (by omega)];omega
theorem Fu: ∀(n e:Nat),jY (fun j=>decide (e/2^ (n-1-j) % 2=1)) n=e % 2^n
 |0,e=>by simp[jY,Nat.mod_one]
 |n+1,e=>by
  rw[jY,nz (g:=fun j=>decide (e/2/2^ (n-1-j) % 2=1)) n (fun j b=>by
   rw[Nat.div_div_eq_div_mul,←Nat.pow_succ',show(n-1-j).succ=n+1-1-j from by omega]),Fu n (e/2),show n+1-1-n=0 from by omega,Nat.pow_zero,Nat.div_one,Nat.pow_succ]
  have a:e % (2^n*2)=e/2 % 2^n*2+e % 2:=by
   rw[Nat.mul_comm (2^n) 2,Nat.mod_mul];omega
  rw[a]
  rcases(show e % 2=0∨e % 2=1 by omega) with h|h<;>rw[h]<;>rfl
theorem Uh (a:Nat→Bool)(n:Nat):Dg.Small 256 (byL a n):=by
 intro i
 by_cases h:i<n
 ·rw[JB a n i h]
  exact DZ _ 8
 ·rw[List.getD_eq_getElem?_getD,List.getElem?_eq_none (by rw[xT];omega)]
  simp
theorem aaP {L:Int}{a:Nat}{t:fz}:heE 16 L a t=(t.p-L).toNat:=by
 unfold heE;rw[if_neg (fun c=>by have:=c.1;omega),Nat.add_zero]
def FV (k:Nat)(ng:Bool)(E FF:Nat):Int:=
 if k=3 then(if E+1=2^exN k then(if FF=2^ (dgN k-1) then 3 else 4) else if 0<E∧FF<2^ (dgN k-1) then 4 else if FF=0 then 1 else 2)
 else if k≤2 then(if E+1=2^exN k then(if FF=0 then 3 else 4) else if FF+(if 0<E then 2^ (dgN k-1) else 0)=0 then 1 else 2)
 else if k≤5 then(if FF=0 then 1 else 2)
 else(if E=0 then(if ng then 5 else 1) else 2)
theorem YC {k:Nat}(a:1≤k∧k≤8):1≤frN k∧dgN k-1≤63∧ -20000≤lsI k∧lsI k≤0∧1≤wdI (rdN k)∧wdI (rdN k)≤4:=by
 rcases bO a with rfl|rfl|rfl|rfl|rfl|rfl|rfl|rfl<;>exact⟨by decide,by decide,by decide,by decide,by decide,by decide⟩
theorem YD (k:Nat)(l:1≤k∧k≤8)(ng:Bool)(E a:Nat):FV k ng E a=((dh k ng E a:Nat):Int):=by
 unfold FV dh;have i:kp k=2^exN k-1:=rfl;have p:0<2^exN k:=Nat.pow_pos (by omega);have o:0<2^ (dgN k-1):=Nat.pow_pos (by omega);have m:2≤2^exN k:=by
  have n:=(fZ l).2.2.2.2.2;have:2^1≤2^exN k:=Nat.pow_le_pow_right (by omega) (by omega);omega
 by_cases b:k=3
 ·have j:2^ (dgN k-1)=2^63:=by rw[b];rfl
  rw[if_pos b,if_pos (show k≤3 by omega),i,j,if_pos b]
  generalize(2:Nat)^exN k=px at*;generalize(2:Nat)^63=p63 at*
  by_cases c:E=0
  ·rw[if_neg (show¬E+1=px by omega),if_pos c,if_neg (show¬(0<E∧a<p63) by omega)]
   split<;>rfl
  ·rw[if_neg c]
   by_cases d:E+1=px
   ·rw[if_pos d,if_pos (show E=px-1 by omega)]
    split<;>rfl
   ·rw[if_neg d,if_neg (show¬E=px-1 by omega)]
    by_cases f:a<p63
    ·rw[if_pos (show 0<E∧a<p63 by omega),if_pos (show k=3∧a<p63 from⟨b,f⟩)]
     rfl
    ·rw[if_neg (show¬(0<E∧a<p63) by omega),if_neg (show¬(k=3∧a<p63) from fun h=>f h.2),if_neg (show¬a=0 by omega)]
     rfl
 ·rw[if_neg b]
  by_cases g:k≤2
  ·rw[if_pos g,if_pos (show k≤3 by omega),i,if_neg b]
   generalize(2:Nat)^exN k=px at*;generalize(2:Nat)^ (dgN k-1)=pd at*
   by_cases c:E=0
   ·rw[if_neg (show¬E+1=px by omega),if_pos c,if_neg (show¬0<E by omega),Nat.add_zero]
    split<;>rfl
   ·rw[if_neg c]
    by_cases d:E+1=px
    ·rw[if_pos d,if_pos (show E=px-1 by omega)]
     split<;>rfl
    ·rw[if_neg d,if_neg (show¬E=px-1 by omega),if_pos (show 0<E by omega),if_neg (show¬a+pd=0 by omega),if_neg (show¬(k=3∧a<2^63) from fun h=>b h.1)]
     rfl
  ·rw[if_neg g,if_neg (show¬k≤3 by omega)]
   by_cases e:k≤5
   ·rw[if_pos e,if_pos e]
    split<;>rfl
   ·rw[if_neg e,if_neg e]
    split
    ·split<;>rfl
    ·rfl
theorem Nu {k:Nat}(j:1≤k∧k≤8)(ng:Bool)(E F:Nat):zR k ng E F=kt k ng E F:=by
 unfold zR kt dh;have g:kp k=2^exN k-1:=rfl;have l:2≤2^exN k:=by
  have m:=(fZ j).2.2.2.2.2;have:2^1≤2^exN k:=Nat.pow_le_pow_right (by omega) (by omega);omega
 by_cases b:k=3
 ·have i:2^ (dgN k-1)=2^63:=by rw[b];rfl
  rw[if_pos b,if_pos (show k≤3 by omega),g,i,if_pos b]
  generalize(2:Nat)^exN k=px at*;generalize(2:Nat)^63=p63 at*
  by_cases a:E=0
  ·rw[if_neg (show¬E+1=px by omega),if_neg (show¬(0<E∧F<p63) by omega),if_pos a]
   split<;>simp
  ·rw[if_neg a]
   by_cases c:E+1=px
   ·rw[if_pos c,if_pos (show E=px-1 by omega)]
    split<;>simp
   ·rw[if_neg c,if_neg (show¬E=px-1 by omega)]
    by_cases e:F<p63
    ·rw[if_pos (show 0<E∧F<p63 by omega),if_pos (show k=3∧F<p63 from⟨b,e⟩)]
     simp
    ·rw[if_neg (show¬(0<E∧F<p63) by omega),if_neg (show¬(k=3∧F<p63) from fun h=>e h.2)]
     simp
 ·rw[if_neg b]
  by_cases f:k≤2
  ·rw[if_pos f,if_pos (show k≤3 by omega),g,if_neg b]
   generalize(2:Nat)^exN k=px at*
   by_cases a:E=0
   ·rw[if_neg (show¬E+1=px by omega),if_pos a]
    split<;>simp
   ·rw[if_neg a]
    by_cases c:E+1=px
    ·rw[if_pos c,if_pos (show E=px-1 by omega)]
     split<;>simp
    ·rw[if_neg c,if_neg (show¬E=px-1 by omega),if_neg (show¬(k=3∧F<2^63) from fun h=>b h.1)]
     simp
  ·rw[if_neg f,if_neg (show¬k≤3 by omega)]
   by_cases d:k≤5
   ·rw[if_pos d,if_pos d]
    split<;>simp
   ·rw[if_neg d,if_neg d]
    by_cases a:E=0
    ·rw[if_pos a,if_pos a]
     cases ng<;>simp
    ·rw[if_neg a,if_neg a]
     simp
theorem mZ {k:Nat}(a:1≤k∧k≤8){f:Nat}(h:f<2^frN k):f<2^64:=
 Nat.lt_of_lt_of_le h (Nat.pow_le_pow_right (by omega) (fZ a).2.2.2.1)
theorem Ry {k m:Nat}(b:1≤k∧k≤8)(c:m=1∨m=3∨m=4∨m=5)(g:Bool)(d:iR k m=true)(a:g=true→Bk k m=true):
  pg k m<2^exN k∧lS k m<2^frN k∧dh k (pI k m||g) (pg k m) (lS k m)=m∧kt k (pI k m||g) (pg k m) (lS k m)=g:=by
 revert d a
 rcases bO b with rfl|rfl|rfl|rfl|rfl|rfl|rfl|rfl<;>rcases c with rfl|rfl|rfl|rfl<;>cases g<;>decide
theorem nj {k:Nat}(b:1≤k∧k≤8){s:ByteArray}(h:s.size=szN k):dF k s=0:=by
 have a:dK k≠0:=by
  rcases bO b with rfl|rfl|rfl|rfl|rfl|rfl|rfl|rfl<;>decide
 unfold dF;rw[if_neg a,Int.toNat_natCast,if_pos h]
theorem wQ {k:Nat}(a:1≤k∧k≤8):wdI (rdN k)=(ai (rdN k):Int):=by
 rcases bO a with rfl|rfl|rfl|rfl|rfl|rfl|rfl|rfl<;>decide
theorem TS {k:Nat}(f:1≤k∧k≤8){E:Nat}(h:E<2^exN k): -16445≤(ai (rdN k):Int)*ii k E∧(ai (rdN k):Int)*ii k E≤16400∧ -16445≤ii k E∧ii k E≤16400:=by
 have e:(rdN k=16∧ai (rdN k)=4∧ -78≤lsI k∧lsI k≤0∧2^exN k=128)∨(rdN k≠16∧ai (rdN k)=1∧ -16445≤lsI k∧lsI k+((2^exN k:Nat):Int)≤16400):=by
  rcases bO f with rfl|rfl|rfl|rfl|rfl|rfl|rfl|rfl<;>decide
 unfold ii
 rcases e with⟨a,b,c,d,g⟩| ⟨a,b,c,d⟩
 ·rw[if_pos a,b]
  omega
 ·rw[if_neg a,b]
  split<;>omega
def fT (n:Int):List ByteArray→Int
 | []=>0
 |p::ps=>if dF n p=0 then fT n ps else dF n p
theorem qt {k:Nat}(a:1≤k∧k≤8):dK k=1∨dK k=2∨dK k=3:=by
 rcases bO a with rfl|rfl|rfl|rfl|rfl|rfl|rfl|rfl<;>decide
theorem fm_is {k:Nat}(a:1≤k∧k≤8):((fmN k:Nat):Int)=dK k:=by
 rcases bO a with rfl|rfl|rfl|rfl|rfl|rfl|rfl|rfl<;>rfl
theorem refW_any (k:Nat)(a:1≤k∧k≤8)(D L G:Int)(gr:Bool)(w:World):yC 21 #[ygV (rdN k) D L G gr] w (yR w (yi (ai (rdN k):Int))):=by
 have:=eG (rdN k) D L G gr w;rw[wQ a] at this;exact this
theorem rd_pow {k:Nat}(a:1≤k∧k≤8):rdN k^dgN k=2^ (ai (rdN k)*dgN k):=by
 rcases bO a with rfl|rfl|rfl|rfl|rfl|rfl|rfl|rfl<;>rfl
structure Plc (k:Nat) (P:fz):Prop where
 low:dK k=1→P.p<lsI k→P.ov=true
 same:dK k≠1→P.ov=false→P.un=true→P.ex=true→P.p<lsI k
 nil:P.ov=false→P.d=0→dK k=1
 len:(Dg.dg 65536 P.d).length≤100000
 far:P.ov=false→(P.un=true∧P.p<lsI k)∨(-17000≤P.p∧P.p≤17000)
theorem fam_one {k:Nat}(a:1≤k∧k≤8):dK k=1↔k≤3:=by
 rcases bO a with rfl|rfl|rfl|rfl|rfl|rfl|rfl|rfl<;>decide
def nmC (t:ByteArray):ByteArray×ByteArray×Bool:=cutS 101 (undash t)
def nmD (t:ByteArray):ByteArray×ByteArray×Bool:=cutS 46 (nmC t).1
theorem shN_down (m t:Nat):shN m (-(t:Int))=m/2^t:=by
 unfold shN
 by_cases h:t=0
 ·subst h
  rw[if_neg (by decide)];simp
 ·rw[if_pos (by omega)]
  congr 2
  omega
theorem nrM_in {N a:Nat}{p:Int}(b:N≠0)(d:N<2^a)(h:p≤6000):(nrM N p).1≠0∧(nrM N p).1<2^ (a+18000):=by
 unfold nrM
 by_cases e:0<p
 ·rw[if_pos e]
  refine⟨Nat.mul_ne_zero b (Nat.ne_of_gt (Nat.pow_pos (by omega))), ?_⟩;obtain⟨c,g⟩: ∃c,c=18000:=⟨_,rfl⟩;rw[←g];have f:5^p.toNat≤2^c:=Nat.le_trans (pow5_two _) (Nat.pow_le_pow_right (by omega) (by omega));rw[Nat.pow_add];exact Nat.mul_lt_mul_of_lt_of_le d f (Nat.pow_pos (by omega))
 ·rw[if_neg e]
  exact⟨redF_pos _ _ b,Nat.lt_of_le_of_lt (redF_le _ _).1 (Nat.lt_of_lt_of_le d (Nat.pow_le_pow_right (by omega) (by omega)))⟩
theorem prQ_ge {H C k:Nat}(a:2*10^ (C-1)≤H)(c:1≤k)(d:k≤C):10^ (k-1)≤prQ H C k:=by
 have b:10^ (k-1)≤H/prU C k:=by
  unfold prU;rw[Nat.le_div_iff_mul_le (Nat.mul_pos (Nat.pow_pos (by omega)) (by omega))];refine Nat.le_trans (Nat.le_of_eq ?_) a;rw[←Nat.mul_assoc,←Nat.pow_add,Nat.mul_comm]
  congr 2
  omega
 unfold prQ
 split<;>omega
theorem tpT_size {T:ByteArray}{k:Nat}(h:k≤T.size):(tpT T k).size=k:=by
 unfold tpT
 split
 ·rw[ByteArray.size_extract]
  omega
 ·omega
theorem tpP_nuP {T:ByteArray}{k:Nat}(h:k≤T.size)(a:1≤k):tpP T k=nuP (tpT T k):=by
 unfold tpP nuP;rw[tpT_size h]
 by_cases c:1<k
 ·rw[if_pos c,if_pos c]
  rw[ByteArray.append_assoc]
 ·rw[if_neg c,if_neg c]
  have e:=tpT_size h;obtain rfl:k=1:=by omega
  generalize tpT T 1=S at e;apply ByteArray.ext;rw[ByteArray.data_extract];have:S.data.size=1:=e;rw[←this,Array.extract_size]
theorem powerR_eq {R D t k:Int}(e:(ai R:Int)*(D-1)+(ai R:Int)*k≤t)(f:t< (ai R:Int)*D+(ai R:Int)*k):aT R D t=k:=by
 unfold aT;have g:=(eN R).1;have a:(D-1+k)*(ai R:Int)≤t:=by rw[Int.mul_comm,Int.mul_add];omega
 have b:t< (D-1+k+1)*(ai R:Int):=by
  rw[Int.mul_comm,show D-1+k+1=D+k by omega,Int.mul_add];omega
 have c:D-1+k≤t/(ai R:Int):=(Int.le_ediv_iff_mul_le (by omega)).2 a;have d:t/(ai R:Int)<D-1+k+1:=(Int.ediv_lt_iff_lt_mul (by omega)).2 b;omega
theorem powerR_less {R D t k:Int}(c:t< (ai R:Int)*(D-1)+(ai R:Int)*k):aT R D t<k:=by
 unfold aT;have d:=(eN R).1;have a:t< (D-1+k)*(ai R:Int):=by rw[Int.mul_comm,Int.mul_add];omega
 have b:t/(ai R:Int)<D-1+k:=(Int.ediv_lt_iff_lt_mul (by omega)).2 a;omega
theorem cutc_spec (c:UInt8): ∀l,((cutc c l).2.2=true→l=(cutc c l).1++c::(cutc c l).2.1∧Lib.index l [c]=((cutc c l).1.length:Int))∧((cutc c l).2.2=false→l=(cutc c l).1∧(cutc c l).2.1=[]∧c∉l∧Lib.index l [c]= -1)∧c∉(cutc c l).1:=by
 intro l
 induction l with
 |nil=>exact⟨fun h=>(by cases h),fun _=>⟨rfl,rfl,List.not_mem_nil,rfl⟩,List.not_mem_nil⟩
 |cons b r ih=>
  obtain⟨j,k,m⟩:=ih
  by_cases a:b=c
  ·subst a
   have e:cutc b (b::r)=([],r,true):=if_pos rfl;rw[e];exact⟨fun _=>⟨rfl,by simp[Lib.index]⟩,fun h=>(by cases h),List.not_mem_nil⟩
  ·have e:cutc c (b::r)=(b::(cutc c r).1,(cutc c r).2.1,(cutc c r).2.2):=if_neg a
   have i:Lib.index (b::r) [c]=if Lib.index r [c]== -1 then-1 else Lib.index r [c]+1:=by
    show(if[c].isPrefixOf (b::r) then _ else _)=_
    rw[if_neg (by simp[List.isPrefixOf];exact fun h=>a h.symm)]
   rw[e];refine⟨fun h=> ?_,fun h=> ?_, ?_⟩
   ·obtain⟨f,g⟩:=j h
    refine⟨by rw[List.cons_append,←f], ?_⟩;rw[i,g,if_neg (by simp)]
    show _=(((cutc c r).1.length+1:Nat):Int)
    omega
   ·obtain⟨f,g,n,o⟩:=k h
    refine⟨by rw[←f],g, ?_, ?_⟩
    ·intro d
     rcases List.mem_cons.1 d with q|q
     ·exact a q.symm
     ·exact n q
    ·rw[i,o]
     rfl
   ·intro d
    rcases List.mem_cons.1 d with q|q
    ·exact a q.symm
    ·exact m q
theorem cut_is (c:UInt8)(l:List UInt8):Lib.cut l [c]=cutc c l:=by
 obtain⟨d,e,-⟩:=cutc_spec c l;unfold Lib.cut
 cases h:(cutc c l).2.2
 ·obtain⟨a,b,-,g⟩:=e h
  rw[g,if_neg (by decide)];exact Prod.ext a (Prod.ext b.symm h.symm)
 ·obtain⟨a,b⟩:=d h
  rw[b,if_pos (by omega),Int.toNat_natCast];generalize cutc c l=q at h a⊢;obtain⟨x,y,f⟩:=q;simp only at h a⊢;subst h;subst a;refine Prod.ext List.take_left (Prod.ext ?_ rfl)
  show List.drop (x.length+1) (x++c::y)=y
  rw[←List.drop_drop,List.drop_left];rfl
theorem spD_eq (l:List UInt8):l=(spD l).1++(spD l).2:=by
 induction l with
 |nil=>rfl
 |cons b r ih=>
  unfold spD
  split
  ·rw[List.cons_append,←ih]
  ·rfl
def noD:List UInt8→Prop
 | []=>True
 |b::_=>isDg b=false
theorem spD_app: ∀(x r:List UInt8),(∀b∈x,isDg b=true)→noD r→spD (x++r)=(x,r):=by
 intro x
 induction x with
 |nil=>
  intro r _ a
  cases r with
  |nil=>rfl
  |cons b r=>
   show(if isDg b=true then _ else _)=_
   rw[if_neg (by rw[show isDg b=false from a];decide)]
 |cons b x ih=>
  intro r d a;have:=ih r (fun c e=>d c (List.mem_cons_of_mem _ e)) a
  rw[List.cons_append];unfold spD;rw[if_pos (d b (List.mem_cons_self ..)),this]
def rpL (y:List UInt8):Option Int:=
 let m:=decide (y.head? =some 45)
 let x:=if m=true then y.tail else y
 if x.length≤5∧x≠[]∧(∀b∈x,isDg b=true) then some (if m=true then-(lvD x:Int) else(lvD x:Int)) else none
def nmL (l:List UInt8):Option (List UInt8×Int):=
 let c:=cutc 101 l
 let d:=cutc 46 c.1
 let x:=d.1++d.2.1
 if x=[]∨ ¬(∀b∈x,isDg b=true)∨(d.2.2=true∧d.2.1=[]) then none else
 if c.2.2=true then(rpL c.2.1).map (fun p=>(x,p-(d.2.1.length:Int))) else some (x,-(d.2.1.length:Int))
theorem dig_ne {x:List UInt8}{c:UInt8}(a:isDg c=false)(h: ∀b∈x,isDg b=true):c∉x:=fun e=>by
 rw[h c e] at a
 cases a
theorem dash_list (x:List UInt8):dash ⟨x.toArray⟩=decide (x.head? =some 45)∧(undash ⟨x.toArray⟩).data.toList=if decide (x.head? =some 45)=true then x.tail else x:=by
 have d:dash ⟨x.toArray⟩=Lib.hasPrefix x [45]:=rfl;have f:(undash ⟨x.toArray⟩).data.toList=Lib.trimPrefix x [45]:=rfl;rw[d,f]
 cases x with
 |nil=>exact⟨rfl,rfl⟩
 |cons b r=>
  have c:Lib.hasPrefix (b::r) [45]=decide ((b::r).head? =some 45):=by
   rw[List.head?_cons]
   by_cases a:b=45
   ·subst a
    rfl
   ·rw[decide_eq_false (fun h=>a (by injection h))]
    show([45].isPrefixOf (b::r))=false
    simp only[List.isPrefixOf];rw[show((45:UInt8)==b)=false from beq_eq_false_iff_ne.2 fun e=>a e.symm]
    rfl
  refine⟨c, ?_⟩;unfold Lib.trimPrefix;rw[c]
  split
  ·rfl
  ·rfl
theorem near_cross {j M0 m tz g Q d xn f : Nat} {p up wk e : Int} (w : m * 5 ^ (-p).toNat = g * M0 * 5 ^ p.toNat) (H : j * 2 ^ tz = m)
  (x : xn * 2 ^ e.toNat * 2 ^ (-wk).toNat = d * 2 ^ wk.toNat * 2 ^ (-e).toNat) (I : g * 10 ^ f = Q) (J : p + up = (f : Int)) :
  j * 2 ^ (p + (tz : Int) - wk).toNat * (xn * 2 ^ e.toNat * 10 ^ up.toNat) = d * (M0 * 2 ^ (-(p + (tz : Int) - wk)).toNat) * (Q * (2 ^ (-e).toNat * 10 ^ (-up).toNat)) := by
 obtain ⟨a, y⟩ : ∃ k, p.toNat = k := ⟨_, rfl⟩
 obtain ⟨b, A⟩ : ∃ k, (-p).toNat = k := ⟨_, rfl⟩
 obtain ⟨i, B⟩ : ∃ k, wk.toNat = k := ⟨_, rfl⟩
 obtain ⟨h, C⟩ : ∃ k, (-wk).toNat = k := ⟨_, rfl⟩
 obtain ⟨t, q⟩ : ∃ k, e.toNat = k := ⟨_, rfl⟩
 obtain ⟨o, s⟩ : ∃ k, (-e).toNat = k := ⟨_, rfl⟩
 obtain ⟨u, D⟩ : ∃ k, up.toNat = k := ⟨_, rfl⟩
 obtain ⟨v, E⟩ : ∃ k, (-up).toNat = k := ⟨_, rfl⟩
 obtain ⟨c, i9⟩ : ∃ k, (p + (tz : Int) - wk).toNat = k := ⟨_, rfl⟩
 obtain ⟨nm, z⟩ : ∃ k, (-(p + (tz : Int) - wk)).toNat = k := ⟨_, rfl⟩
 rw [y, A] at w
 rw [B, C, q, s] at x
 rw [q, s, D, E, i9, z]
 have F : a + u = f + b + v := by omega
 have G : c + i + b = nm + tz + h + a := by omega
 clear y A B C q s D E i9 z J
 subst I
 have K : 0 < 2 ^ tz * 5 ^ b * 2 ^ h * 2 ^ a := by
  have := fun k : Nat => Nat.pow_pos (n := k) (show 0 < 2 by omega)
  have := fun k : Nat => Nat.pow_pos (n := k) (show 0 < 5 by omega)
  simp [Nat.mul_pos_iff_of_pos_left, *]
 refine Nat.eq_of_mul_eq_mul_right K ?_
 have l : j * 2 ^ c * (xn * 2 ^ t * 10 ^ u) * (2 ^ tz * 5 ^ b * 2 ^ h * 2 ^ a) = (j * 2 ^ tz) * 5 ^ b * (xn * 2 ^ t * 2 ^ h) * (2 ^ c * 10 ^ u * 2 ^ a) := by ac_rfl
 rw [l, H, w, x]
 have L : g * M0 * 5 ^ a * (d * 2 ^ i * 2 ^ o) * (2 ^ c * 10 ^ u * 2 ^ a) = g * M0 * d * 2 ^ o * (2 ^ i * 2 ^ c) * ((2 ^ a * 5 ^ a) * 10 ^ u) := by ac_rfl
 have r : d * (M0 * 2 ^ nm) * (g * 10 ^ f * (2 ^ o * 10 ^ v)) * (2 ^ tz * 5 ^ b * 2 ^ h * 2 ^ a) = g * M0 * d * 2 ^ o * (2 ^ nm * 2 ^ tz * 2 ^ h * 2 ^ a * 5 ^ b) * (10 ^ f * 10 ^ v) := by ac_rfl
 rw [L, r, ← ten_parts, ← Nat.pow_add, ← Nat.pow_add, F, Nat.pow_add 10 (f + b), Nat.pow_add 10 f, ten_parts b, ← Nat.pow_add 2 nm tz, ← Nat.pow_add, ← Nat.pow_add, ← G, Nat.pow_add 2 (c + i), Nat.add_comm c i]
 ac_rfl
theorem decDig_all (n:Nat):(∀b∈Lib.decDigits n,isDg b=true)∧lvD (Lib.decDigits n)=n∧Lib.decDigits n≠[]:=by
 induction n using Nat.strongRecOn with
 |_ n ih=>
  by_cases h:n<10
  ·rw[Lib.decDigits_one h]
   refine⟨fun b a=> ?_, ?_,by simp⟩
   ·obtain rfl:b=UInt8.ofNat (48+n):=by simpa using a
    unfold isDg;rw[dec_digit h];exact decide_eq_true ⟨by omega,by omega⟩
   ·have:=lvD_snoc [] (UInt8.ofNat (48+n))
    rw[List.nil_append,dec_digit h] at this;rw[this]
    show 0*10+(48+n-48)=n
    omega
  ·rw[Lib.decDigits,dif_neg h]
   obtain⟨d,e,f⟩:=ih (n/10) (by omega);refine⟨fun b a=> ?_, ?_,by simp⟩
   ·rcases List.mem_append.1 a with c|c
    ·exact d b c
    ·obtain rfl:b=UInt8.ofNat (48+n % 10):=by simpa using c
     unfold isDg;rw[dec_digit (Nat.mod_lt _ (by omega))];exact decide_eq_true ⟨by omega,by omega⟩
   ·rw[lvD_snoc,e,dec_digit (Nat.mod_lt _ (by omega))]
    omega
theorem head_dig {l:List UInt8}(h: ∀b∈l,isDg b=true)(r:List UInt8)(d:l≠[]):(l++r).head? ≠some 45:=by
 cases l with
 |nil=>exact absurd rfl d
 |cons a l=>
  intro c;obtain rfl:a=45:=by simpa using c
  exact absurd (h 45 (by simp)) (by decide)
theorem rpL_itoa {p:Int}(d: -100000<p)(e:p<100000):rpL (Lib.itoa p)=some p:=by
 unfold rpL Lib.itoa
 by_cases h:p<0
 ·rw[if_pos h]
  obtain⟨a,c,b⟩:=decDig_all p.natAbs;simp only[List.head?_cons,decide_true,if_true,List.tail_cons];rw[if_pos ⟨decDig_five (by omega),b,a⟩,c]
  congr 1
  omega
 ·rw[if_neg h]
  obtain⟨a,c,b⟩:=decDig_all p.toNat;have:=head_dig a [] b;rw[List.append_nil] at this;simp only[decide_eq_false this,Bool.false_eq_true,if_false];rw[if_pos ⟨decDig_five (by omega),b,a⟩,c]
  congr 1
  omega
theorem nmL_print {S:List UInt8}(a: ∀b∈S,isDg b=true)(e:S≠[]){N:Int}(f: -100000<N)(g:N<100000):
  nmL ((if 1<S.length then S.take 1++46::S.drop 1 else S)++101::Lib.itoa N)=some (S,N-((S.length-1:Nat):Int)):=by
 have i:(46:UInt8)∉S:=dig_ne (by decide) a;have d:(101:UInt8)∉S:=dig_ne (by decide) a;have j:(101:UInt8)∉(if 1<S.length then S.take 1++46::S.drop 1 else S):=by
  split
  ·intro c
   rcases List.mem_append.1 c with c|c
   ·exact d (List.mem_of_mem_take c)
   ·rcases List.mem_cons.1 c with c|c
    ·exact absurd c (by decide)
    ·exact d (List.mem_of_mem_drop c)
  ·exact d
 unfold nmL;rw[cutc_app 101 _ _ j];simp only
 by_cases h:1<S.length
 ·rw[if_pos h,cutc_app 46 (S.take 1) (S.drop 1) (fun c=>i (List.mem_of_mem_take c))]
  simp only;rw[List.take_append_drop];have k:S.drop 1≠[]:=fun c=>by
   have:=congrArg List.length c;rw[List.length_drop,List.length_nil] at this;omega
  rw[if_neg (by rintro(c|c|c);exact e c;exact c a;exact k c.2),if_true,rpL_itoa f g,List.length_drop]
  rfl
 ·rw[if_neg h,cutc_none 46 S i]
  simp only;rw[List.append_nil,if_neg (by rintro(c|c|c);exact e c;exact c a;cases c.1),if_true,rpL_itoa f g]
  have:S.length-1=0:=by omega
  rw[this];rfl
theorem nuS_list (g:Bool)(S:ByteArray)(ia:List UInt8)(d:S.size≠0):
  (nuS g S ⟨ia.toArray⟩).data.toList=(if g=true then[45] else[])++((if 1<S.data.toList.length then S.data.toList.take 1++46::S.data.toList.drop 1 else S.data.toList)++101::ia):=by
 have a:(nuP S).data.toList=(if 1<S.data.toList.length then S.data.toList.take 1++46::S.data.toList.drop 1 else S.data.toList):=by
  unfold nuP;rw[←size_list];have b:S.data.size=S.size:=rfl
  by_cases c:1<S.size
  ·rw[if_pos c,if_pos c]
   simp[ByteArray.data_append,ByteArray.data_extract,List.extract];rw[List.take_of_length_le];rw[List.length_tail,Array.length_toList,b];omega
  ·rw[if_neg c,if_neg c]
   have:S.size=1:=by omega
   simp[ByteArray.data_extract,List.extract];rw[List.take_of_length_le];rw[Array.length_toList,b];omega
 unfold nuS nuG
 cases g
 ·rw[if_neg (by decide),if_neg (by decide)]
  simp[ByteArray.data_append,a]
 ·rw[if_pos rfl,if_pos rfl]
  simp[ByteArray.data_append,a]
theorem odd_two {m t:Nat}(h:m % 2=1):tz (m*2^t)=t∧m*2^t/2^tz (m*2^t)=m:=by
 have e:tz (m*2^t)=t:=F8 (m:=m/2) (by rw[Nat.mul_comm];congr 1;omega);refine⟨e, ?_⟩;rw[e,Nat.mul_div_cancel _ (Nat.pow_pos (by omega))]
theorem odd_of {N:Nat}(h:N≠0):N/2^tz N % 2=1∧N=N/2^tz N*2^tz N:=by
 obtain⟨m,a⟩:=fO h;have b:0<2^tz N:=Nat.pow_pos (by omega);have e:N/2^tz N=2*m+1:=by
  conv=>lhs;lhs;rw[a]
  exact Nat.mul_div_cancel_left _ b
 rw[e];exact⟨by omega,by rw[Nat.mul_comm];exact a⟩
theorem tz_five {n:Nat}(h:n≠0)(k:Nat):tz (n*5^k)=tz n:=by
 obtain⟨b,c⟩:=odd_of h;have d:=five_odd _ b k;have a:=(odd_two (t:=tz n) d).1;rw[show n/2^tz n*5^k*2^tz n=n/2^tz n*2^tz n*5^k by ac_rfl,←c] at a
 exact a
end Go.Proofs.YtlhkndcmbpcpgaaGreatDoor

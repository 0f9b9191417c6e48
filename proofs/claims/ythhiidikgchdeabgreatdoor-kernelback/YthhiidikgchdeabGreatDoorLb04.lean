/- Texts laid together. -/
import Derived.WalkKit
import Derived.WalkSpells
import Derived.Deep.QuietTactic
import Derived.BigQuiet
import Derived.Lib.TrailingZeros
import Derived.Test.YthhiidikgchdeabGreatDoorChecked
import Derived.Handy
import Derived.Laws.CopyOwn
import Derived.BigRegion
import Derived.Deep.LoopGhost
import Derived.Deep.RegionLaw
import Derived.WalkSmall
import Derived.OpenShut
import Derived.Laws.MathBits
import Derived.Lib.BitFns
import Derived.Lib.Walk
import Derived.Lib.Small
import Derived.Shelf.Spec.TrailingZeros
import Derived.Deep.RegionHeld3
import Derived.Deep.MidRow
import Derived.Deep.Cut
import Derived.Laws.IdiomStrings
import Derived.Laws.ResultCell
import Derived.OrdersHeld
import Derived.ChangeMaps4
import Derived.Deep.DeepCutAuto
import Derived.Deep.RegionWith
import Derived.Laws.OwnMore
import Derived.Deep.AppendLies
import Derived.Deep.CutBlock
import Derived.Maps.AppendAt
namespace Go.Proofs.YthhiidikgchdeabGreatDoor
open Go.RowKit
theorem lI {n t m:Nat}(h:n=2^t*(2*m+1)):n/2^t=2*m+1:=by
 rw[h,Nat.mul_div_cancel_left _ (Nat.pow_pos (by omega))]
def chk (zs:List Nat):Int:=if 0<zs.length∧zs.getD (zs.length-1) 0=0 then 1 else if 1200<zs.length then 2 else 0
theorem Oq {zs:List Nat}(h:0<zs.length)(a:zs.getD (zs.length-1) 0=0):chk zs=1:=by unfold chk;rw[if_pos ⟨h,a⟩]
theorem Ot {zs:List Nat}(a:zs.getD (zs.length-1) 0≠0)(h:1200<zs.length):chk zs=2:=by unfold chk;rw[if_neg (fun c=>a c.2),if_pos h]
theorem ZT {zs:List Nat}(a:zs.getD (zs.length-1) 0≠0)(h: ¬1200<zs.length):chk zs=0:=by unfold chk;rw[if_neg (fun c=>a c.2),if_neg h]
theorem JJ (k:Nat):(65536:Nat)^ (2*k)=4294967296^k:=by rw[Nat.pow_mul]
theorem C8 {x y:Nat}(a:x<65536)(b:y<65536):x*y≤4294836225:=by
 have:=Nat.mul_le_mul (Nat.le_sub_one_of_lt a) (Nat.le_sub_one_of_lt b)
 simpa using this
theorem Ql (p c x y:Nat):((p:Int)+(c:Int)+(x:Int)*(y:Int)) % 65536=(((p+c+x*y) % 65536:Nat):Int):=by
 rw[←Int.natCast_mul];omega
theorem Qm (p c x y:Nat):((p:Int)+(c:Int)+(x:Int)*(y:Int))/65536=(((p+c+x*y)/65536:Nat):Int):=by
 rw[←Int.natCast_mul];omega
def dK (n:Int):Int:=if n<1∨8<n then 0 else if n≤3 then 1 else if n≤5 then 2 else 3
def szN:Nat→Nat
 |1=>4|2=>8|3=>10|4=>4|5=>8|6=>4|7=>8|8=>8|_=>0
def exN:Nat→Nat
 |1=>8|2=>11|3=>15|4=>7|5=>7|6=>8|7=>8|8=>11|_=>0
def dgN:Nat→Nat
 |1=>24|2=>53|3=>64|4=>6|5=>14|6=>24|7=>56|8=>53|_=>0
def rdN:Nat→Nat
 |4=>16|5=>16|_=>2
def lsI:Nat→Int
 |1=> -149|2=> -1074|3=> -16445|4=> -70|5=> -78|6=> -151|7=> -183|8=> -1076|_=>0
def frN (k:Nat):Nat:=8*szN k-1-exN k
def kp (k:Nat):Nat:=2^exN k-1
theorem O7 (w:World)(b o:Nat)(v:Value)(g i:Nat):(w.setCell ⟨b,o,none⟩ v).frozen? ⟨g,i,none⟩=w.frozen? ⟨g,i,none⟩:=
 World.frozen?_setCells b [v] o w ⟨g,i,none⟩
def jr (s:ByteArray):List Nat:=s.data.toList.map (fun b=>b.toNat)
def fU (zs:List Nat)(i:Nat):Nat:=zs.getD (i/8) 0/2^ (7-i % 8) % 2
def eH (zs:List Nat)(f:Nat):Nat→Nat
 |0=>0
 |n+1=>2*eH zs f n+fU zs (f+n)
def wdI (R:Int):Int:=if R=16 then 4 else 1
def aS (xs:List Nat)(e:Int):Int:=if chk xs=0 then(if e< -20000∨20000<e then 3 else 0) else chk xs
theorem bL {xs:List Nat}{e:Int}(h:aS xs e=0):chk xs=0∧ -20000≤e∧e≤20000:=by
 unfold aS at h
 by_cases a:chk xs=0
 ·rw[if_pos a] at h
  by_cases b:e< -20000∨20000<e
  ·rw[if_pos b] at h;omega
  ·exact⟨a,by omega,by omega⟩
 ·rw[if_neg a] at h;exact absurd h a
theorem Ad (q k:Nat)(h:q≠0):bitLen (2^k*q)=k+bitLen q:=by
 have a:2^k*q/2^k=q:=Nat.mul_div_cancel_left q (Nat.pow_pos (by omega));have:=bitLen_shift (2^k*q) k (by rw[a];exact h)
 rwa [a] at this
def dh (k:Nat)(ng:Bool)(e f:Nat):Nat:=
 if k≤3 then(if e=0 then(if f=0 then 1 else 2) else if e=kp k then(if f=(if k=3 then 2^63 else 0) then 3 else 4) else if k=3∧f<2^63 then 4 else 2)
 else if k≤5 then(if f=0 then 1 else 2)
 else if e=0 then(if ng then 5 else 1) else 2
theorem two_div {nn t:Nat}(a:4≤nn):2*(t/nn)≤t:=by
 have b:t/nn≤t/4:=Nat.div_le_div_left a (by omega);omega
def left (listed:Array Bool):Nat:=(listed.toList.filter (fun b=> !b)).length
def eJ (m n:Int):Bool:=decide (n< -m)||decide (m<n)
def xa (R:Int):Int:=if R=16 then 4000 else 17000
def bk (R D L G:Int):Int:=if R=2∨R=16 then(if D<1∨120<D∨eJ (xa R) L=true∨eJ (xa R) G=true∨G<L then 3 else 0) else 6
theorem cB {R D L G:Int}(h:bk R D L G=0):(R=2∨R=16)∧1≤D∧D≤120∧ -17000≤L∧L≤17000∧ -17000≤G∧G≤17000∧L≤G∧(R=16→ -4000≤L∧G≤4000):=by
 unfold bk at h
 split at h
 ·rename_i h1
  split at h
  ·omega
  ·rename_i h2
   have a:eJ (xa R) L=false:=by
    cases hc:eJ (xa R) L
    ·rfl
    ·exact absurd (.inr (.inr (.inl hc))) h2
   have b:eJ (xa R) G=false:=by
    cases hc:eJ (xa R) G
    ·rfl
    ·exact absurd (.inr (.inr (.inr (.inl hc)))) h2
   unfold eJ xa at a b;simp only[Bool.or_eq_false_iff,decide_eq_false_iff_not] at a b;refine⟨h1,by omega,by omega, ?_⟩
   split at a<;>split at b<;>first|omega| (refine⟨by omega,by omega,by omega,by omega,by omega,fun _=>by omega⟩)
 ·omega
def ai (R:Int):Nat:=if R=16 then 4 else 1
theorem eN (R:Int):1≤ai R∧ai R≤4:=by unfold ai;split<;>omega
def aT (R D top:Int):Int:=top/(ai R:Int)-(D-1)
def eA (xs ys:List Nat)(E:Int):Int:=if chk xs=0 then(if chk ys=0 then(if ys.length=0∨eJ 20000 E=true then 3 else 0) else chk ys) else chk xs
def jg (c d:Int):Int:=if c=0 then d else c
def eZ (N:Nat)(n:Int):Nat:=if n<0 then N else N*2^n.toNat
def dX (M:Nat)(n:Int):Nat:=if n<0 then M*2^ (-n).toNat else M
def dY (N M:Nat)(E:Int):Int:=
 E+(((bitLen N:Int)-(bitLen M:Int))-(if eZ N (-((bitLen N:Int)-(bitLen M:Int)))/dX M (-((bitLen N:Int)-(bitLen M:Int)))=0 then 1 else 0))
open Go.RowKit Go.ChangeMaps Go.MapKept
def gY (way half:Int)(odd neg:Bool):Bool:=
 if way=1 then(decide (0<half)||(decide (half=0)&&odd)) else if way=2 then decide (0≤half) else if way=4 then !neg else if way=5 then neg else false
def io (R D:Int)(d:Nat):Nat:=if d=2^ (ai R*D.toNat) then 2^ (ai R*(D-1).toNat) else d
def gD (R D:Int)(d:Nat)(p:Int):Int:=if d=2^ (ai R*D.toNat) then p+1 else p
structure fz where
 s:Bool
 d:Nat
 p:Int
 ex:Bool
 ov:Bool
 un:Bool
def dj (R D L:Int)(gr:Bool)(N M:Nat)(E:Int):Int:=
 if(decide (aT R D (dY N M E)<L)&&gr)=true then L else aT R D (dY N M E)
def shP (R D L:Int)(gr:Bool)(N M:Nat)(E:Int):Int:=E-(ai R:Int)*dj R D L gr N M E
def cH (R D L:Int)(gr:Bool)(N M:Nat)(E:Int):Nat:=eZ N (shP R D L gr N M E)/dX M (shP R D L gr N M E)
def gF (R D L:Int)(gr:Bool)(N M:Nat)(E:Int):Nat:=eZ N (shP R D L gr N M E) % dX M (shP R D L gr N M E)
def oI:fz:=⟨false,0,0,false,false,false⟩
def iC (way:Int):Bool:=decide (1≤way∧way≤5)
theorem enter_of {P:Program}{f:FuncId}{a:Func}{c:Code}(hf:P.funcs[f]? =some a)(g:(a.name== "runtime.NumGoroutine")=false)(d:a.body=some c)(b:Array Value)(w:World):Sem.run P (callFunc f b) w= .ok (.enter f b) w:=by
 have e: ¬a.name= "runtime.NumGoroutine" :=by simpa using g
 simp[callFunc,hf,e,d]
def eE (xs ys:List Nat)(E R D L G way:Int):Int:=
 if jg (eA xs ys E) (bk R D L G)=0 then(if iC way=true then 0 else 6) else jg (eA xs ys E) (bk R D L G)
theorem C4 {c d:Int}(h:jg c d=0):c=0∧d=0:=by
 unfold jg at h
 split at h
 ·exact⟨by assumption,h⟩
 ·exact absurd h (by assumption)
theorem gO {xs a:List Nat}{E:Int}(h:eA xs a E=0):chk xs=0∧chk a=0∧0<a.length∧ -20000≤E∧E≤20000:=by
 unfold eA at h
 by_cases b:chk xs=0
 ·rw[if_pos b] at h
  by_cases d:chk a=0
  ·rw[if_pos d] at h
   by_cases e:a.length=0∨eJ 20000 E=true
   ·rw[if_pos e] at h
    cases h
   ·have f: ¬eJ 20000 E=true:=fun c=>e (Or.inr c)
    unfold eJ at f;simp at f;refine⟨b,d, ?_,by omega,by omega⟩;have: ¬a.length=0:=fun c=>e (Or.inl c)
    omega
  ·rw[if_neg d] at h
   exact absurd h d
 ·rw[if_neg b] at h
  exact absurd h b
def ix (xs:List Nat)(p R D L G:Int):Int:=
 if chk xs=0 then(if bk R D L G=0 then(if eJ 20000 p=true then 3 else 0) else bk R D L G) else chk xs
theorem kA {xs:List Nat}{p R D L G:Int}(a:chk xs=0)(b:bk R D L G=0)(c:eJ 20000 p=false):ix xs p R D L G=0:=by
 unfold ix;rw[if_pos a,if_pos b,if_neg (by rw[c];decide)]
theorem fw (N:Nat)(n:Int):eZ N n=N*2^n.toNat:=by
 unfold eZ
 split
 ·rw[show n.toNat=0 by omega,Nat.pow_zero,Nat.mul_one]
 ·rfl
theorem eM (M:Nat)(n:Int):dX M n=M*2^ (-n).toNat:=by
 unfold dX
 split
 ·rfl
 ·rw[show(-n).toNat=0 by omega,Nat.pow_zero,Nat.mul_one]
theorem bG (k:Nat):0<2^k:=Nat.pow_pos (by omega)
theorem DS {N M a b d e:Nat}(h:M*2^b≤N*2^a)(f:e+a≤b+d):M*2^e≤N*2^d:=by
 refine Nat.le_of_mul_le_mul_right (c:=2^a) ?_ (bG a)
 calc M*2^e*2^a=M*2^ (e+a):=by rw[Nat.mul_assoc,←Nat.pow_add]
  _≤M*2^ (b+d):=Nat.mul_le_mul_left _ (Nat.pow_le_pow_right (by omega) f)
  _=M*2^b*2^d:=by rw[Nat.mul_assoc,←Nat.pow_add]
  _≤N*2^a*2^d:=Nat.mul_le_mul_right _ h
  _=N*2^d*2^a:=by rw[Nat.mul_right_comm]
theorem qD (N M:Nat)(E:Int):dY N M E=E+dY N M 0:=by
 unfold dY;omega
theorem CD (R D:Int)(d:Nat):io R D d=0↔d=0:=by
 unfold io;have a:=bG (ai R*D.toNat);have b:=bG (ai R*(D-1).toNat)
 split<;>omega
def cP (R D L:Int)(gr:Bool)(n:Nat)(e:Int):Int:=
 if(decide (aT R D ((bitLen n:Int)-1+e)<L)&&gr)=true then L else aT R D ((bitLen n:Int)-1+e)
def inR (R D L G:Int)(gr:Bool)(m:Nat)(e:Int):Bool:=
 decide (m=0∨((ai R:Int)*L≤e∧e+(bitLen m:Int)≤(ai R:Int)*(G+D)∧(gr=true∨L≤aT R D (e+(bitLen m:Int)-1))∧(ai R:Int)*max L (aT R D (e+(bitLen m:Int)-1))≤e))
def onC (dc gc:Int):Int:=if dc=0 then gc else dc
theorem mh {xs d:List Nat}{E R D L G way:Int}(h:eE xs d E R D L G way=0):eA xs d E=0∧bk R D L G=0∧iC way=true:=by
 unfold eE at h
 by_cases c:jg (eA xs d E) (bk R D L G)=0
 ·rw[if_pos c] at h
  obtain⟨a,b⟩:=C4 c;refine⟨a,b, ?_⟩
  by_cases e:iC way=true
  ·exact e
  ·rw[if_neg e] at h
   cases h
 ·rw[if_neg c] at h
  exact absurd h c
def ia (R D L G:Int)(gr:Bool)(d:Nat)(p:Int):Prop:=
 (d=0∧p=0)∨(d≠0∧L≤p∧p≤G∧d<2^ (ai R*D.toNat)∧(2^ (ai R*(D-1).toNat)≤d∨(gr=true∧p=L)))
theorem big_pow {m k:Nat}(h:m≤(k+2)*2^k)(a:k≤60000):m<2^ (k+16):=by
 refine Nat.lt_of_le_of_lt h ?_;rw[Nat.pow_add,Nat.mul_comm];exact Nat.mul_lt_mul_of_pos_left (by omega) (Nat.pow_pos (by omega))
theorem two_mono {a b:Nat}(h:a≤b):2^a≤2^b:=Nat.pow_le_pow_right (by omega) h
def four' {α:Type}(a b c d:α):Nat→α
 |0=>a
 |1=>b
 |2=>c
 |_=>d
def EvN (p:Nat→Prop):Prop:= ∃N,∀n,N≤n→p n
theorem EvN.and {p q:Nat→Prop}(h:EvN p)(g:EvN q):EvN fun n=>p n∧q n:=by
 obtain⟨a,c⟩:=h;obtain⟨b,d⟩:=g;exact⟨a+b,fun n e=>⟨c n (by omega),d n (by omega)⟩⟩
def rp (u:Rat):Nat→Rat
 |0=>1
 |k+1=>rp u k*u
def lgt (u:Rat)(k:Nat):Rat:=1/((k+1:Nat):Rat)*rp u (k+1)
theorem rp_nn {u:Rat}(h:0≤u): ∀k,0≤rp u k
 |0=>by simp only[rp];grind
 |k+1=>Rat.mul_nonneg (rp_nn h k) h
def awt (w:Rat)(j:Nat):Rat:=1/((2*j+1:Nat):Rat)*rp w (2*j+1)
def sgj (j:Nat):Rat:=if j % 2=0 then 1 else-1
def tmS (u:Rat)(c:Nat→Rat):Nat→Rat
 |0=>1
 |k+1=>tmS u c k*u*c (k+1)
def cExp (k:Nat):Rat:=1/(k:Rat)
def cArc (k:Nat):Rat:=((2*k-1:Nat):Rat)/((2*k+1:Nat):Rat)
structure IvN where
 lo:Rat
 hi:Rat
def IvN.has (S:IvN)(x:Rat):Prop:=S.lo≤x∧x≤S.hi
def IvN.wd (S:IvN):Rat:=S.hi-S.lo
def IvN.inn (S:IvN)(m:Rat):Prop:= -m≤S.lo∧S.hi≤m
def IvN.mn (a b:Rat):Rat:=if b<a then b else a
def IvN.mx (a b:Rat):Rat:=if a<b then b else a
def IvN.plus (S T:IvN):IvN:=⟨S.lo+T.lo,S.hi+T.hi⟩
def IvN.neg (S:IvN):IvN:=⟨-S.hi,-S.lo⟩
def IvN.scl (c:Rat)(S:IvN):IvN:=⟨c*S.lo,c*S.hi⟩
theorem IvN.scl_has {S:IvN}{x c:Rat}(h:S.has x)(a:0≤c):(scl c S).has (c*x):=
 ⟨Rat.mul_le_mul_of_nonneg_left h.1 a,Rat.mul_le_mul_of_nonneg_left h.2 a⟩
theorem IvN.mid_mul {a b x y:Rat}(e:a≤x)(f:x≤b):(a*y≤x*y∨b*y≤x*y)∧(x*y≤a*y∨x*y≤b*y):=by
 by_cases c:0≤y
 ·exact⟨.inl (Rat.mul_le_mul_of_nonneg_right e c),.inr (Rat.mul_le_mul_of_nonneg_right f c)⟩
 ·have d:0≤ -y:=by grind
  have g:=Rat.mul_le_mul_of_nonneg_right e d;have h:=Rat.mul_le_mul_of_nonneg_right f d;exact⟨.inr (by grind),.inl (by grind)⟩
theorem IvN.scl_wd {S:IvN}{c m:Rat}(d:0≤c)(h:S.inn m):(scl c S).wd=c*S.wd∧(scl c S).inn (c*m):=by
 have a:=Rat.mul_le_mul_of_nonneg_left h.1 d;have b:=Rat.mul_le_mul_of_nonneg_left h.2 d;refine⟨by unfold wd scl;grind, ?_, ?_⟩<;>unfold scl<;>grind
theorem nat_nn (k:Nat):(0:Rat)≤(k:Rat):=by
 have:((0:Nat):Rat)≤(k:Rat):=Rat.natCast_le_natCast.2 (by omega)
 simpa using this
def sgt (tn j:Nat):Rat:=if tn*(j % 2)=0 then 1 else-1
theorem nat_pos' {n:Nat}(h:0<n):(0:Rat)< (n:Rat):=by
 have:((0:Nat):Rat)< (n:Rat):=Rat.natCast_lt_natCast.2 h
 simpa using this
def pw2 (k:Nat):Nat:=2^k
theorem rp_neg (w:Rat): ∀j,rp (-w) (2*j)=rp w (2*j)∧rp (-w) (2*j+1)= -rp w (2*j+1)
 |0=>by
  constructor
  ·rfl
  ·simp only[rp];grind
 |j+1=>by
  obtain⟨a,b⟩:=rp_neg w j;have c: ∀v:Rat,rp v (2*(j+1))=rp v (2*j+1)*v:=fun _=>rfl
  have d: ∀v:Rat,rp v (2*(j+1)+1)=rp v (2*j+1)*v*v:=fun _=>rfl
  rw[c,c,d,d,b]
  constructor<;>grind
def p2 (e:Int):Rat:=if 0≤e then((2^e.toNat:Nat):Rat) else 1/((2^ (-e).toNat:Nat):Rat)
theorem two_posR (k:Nat):(0:Rat)< ((2^k:Nat):Rat):=nat_pos' (Nat.pow_pos (by omega))
theorem two_addR (a b:Nat):((2^ (a+b):Nat):Rat)=((2^a:Nat):Rat)*((2^b:Nat):Rat):=by rw[Nat.pow_add,Rat.natCast_mul]
theorem p2_zero:p2 0=1:=rfl
theorem p2_one:p2 1=2:=rfl
theorem p2_nat (k:Nat):p2 k=((2^k:Nat):Rat):=by
 unfold p2;rw[if_pos (by omega),Int.toNat_natCast]
theorem low2 (a b:Int): ∃K:Nat,-(K:Int)≤a∧ -(K:Int)≤b:=⟨a.natAbs+b.natAbs,by omega,by omega⟩
def sqT (s:Bool):Rat:=if s then-1 else 1
theorem sq_ne (a b:Bool):sqT (a != b)=sqT a*sqT b:=by cases a<;>cases b<;>simp[sqT]<;>grind
theorem sq_sq (a:Bool):sqT a*sqT a=1:=by cases a<;>simp[sqT]<;>grind
theorem cancel_le {x y z:Rat}(a:0<z)(h:x*z≤y*z):x≤y:=by
 by_cases c:x≤y
 ·exact c
 ·have:=Rat.mul_pos (show 0<x-y by grind) a
  grind
theorem cancel_lt {x y z:Rat}(a:0<z)(h:x*z<y*z):x<y:=by
 by_cases c:x<y
 ·exact c
 ·have:=Rat.mul_le_mul_of_nonneg_right (show y≤x by grind) (show 0≤z by grind)
  grind
theorem cancel_eq {x y z:Rat}(a:0<z)(h:x*z=y*z):x=y:=Rat.le_antisymm (cancel_le a (by rw[h];exact Rat.le_refl)) (cancel_le a (by rw[h];exact Rat.le_refl))
theorem nat_le {a b:Nat}(h:a≤b):(a:Rat)≤(b:Rat):=Rat.natCast_le_natCast.2 h
theorem nat_lt {a b:Nat}(h:a<b):(a:Rat)< (b:Rat):=Rat.natCast_lt_natCast.2 h
def nxE (k:Nat):Nat×Nat:=(1,k)
theorem cE_in (k:Nat):0≤cExp (k+1)∧cExp (k+1)≤1∧(nxE (k+1)).2≠0∧cExp (k+1)*((nxE (k+1)).2:Rat)=((nxE (k+1)).1:Rat):=by
 have a:(0:Rat)< ((k+1:Nat):Rat):=nat_pos' (by omega);have b:(1:Rat)≤((k+1:Nat):Rat):=nat_le (show 1≤k+1 by omega)
 have e:cExp (k+1)*((k+1:Nat):Rat)=1:=by
  unfold cExp;exact Rat.div_mul_cancel (by grind)
 refine⟨?_, ?_,by unfold nxE;simp,e⟩
 ·exact cancel_le a (by rw[e];grind)
 ·exact cancel_le a (by rw[e];grind)
def Grid (B:Nat)(g:Rat):Prop:= ∃(m:Nat) (e:Int),m≤2^B∧g=(m:Rat)*p2 e
def nxA (k:Nat):Nat×Nat:=(2*k-1,2*k+1)
theorem cA_in (k:Nat):(0≤cArc (k+1)∧cArc (k+1)≤1)∧(nxA (k+1)).2≠0∧cArc (k+1)*((nxA (k+1)).2:Rat)=((nxA (k+1)).1:Rat):=by
 have a:(0:Rat)< ((2*(k+1)+1:Nat):Rat):=nat_pos' (by omega);have e:cArc (k+1)*((2*(k+1)+1:Nat):Rat)=((2*(k+1)-1:Nat):Rat):=by
  unfold cArc;exact Rat.div_mul_cancel (by grind)
 have b:((2*(k+1)-1:Nat):Rat)≤((2*(k+1)+1:Nat):Rat):=nat_le (by omega);have c:=nat_nn (2*(k+1)-1);refine⟨⟨?_, ?_⟩,by unfold nxA;simp,e⟩
 ·exact cancel_le a (by rw[e];grind)
 ·exact cancel_le a (by rw[e];grind)
def Nrw (S:IvN)(r:Rat):Prop:=(0<S.lo∧S.hi-S.lo≤r*S.lo)∨(S.hi<0∧S.hi-S.lo≤r*(-S.hi))
theorem TZ (x a:Nat)(c:x<4294967296)(b:a<4294967296):bits .or .u64 ((x:Int)*4294967296) a=((a+4294967296*x:Nat):Int):=by
 rw[show x*4294967296=((4294967296*x:Nat):Int) from by omega]
 rw[u64_or_nat _ _ (by omega) (by omega),nat_join 32 _ _ (by omega) (by omega)]
 congr 1
 omega
theorem half_69:(1/2:Rat)≤69/100:=by grind
def kt (k:Nat)(ng:Bool)(e f:Nat):Bool:=if dh k ng e f≤3 then ng else false
def dF (n:Int)(s:ByteArray):Int:=if dK n=0 then 6 else if s.size=szN n.toNat then 0 else 1
def sG (R D:Int)(gr:Bool)(d:Nat):Nat:=if d=0∧gr=false then 2^ (ai R*(D-1).toNat) else io R D (d+1)
def AO (R D L:Int)(gr:Bool)(d:Nat)(p:Int):Int:=if d=0∧gr=false then L else gD R D (d+1) p
def ij (R D L:Int)(gr:Bool)(d:Nat)(p:Int):Nat:=if d=2^ (ai R*(D-1).toNat) then(if L<p then 2^ (ai R*D.toNat)-1 else if gr=true then d-1 else 0) else d-1
def jl (R D L:Int)(d:Nat)(p:Int):Int:=if d=2^ (ai R*(D-1).toNat) then(if L<p then p-1 else L) else p
def kG (s up:Bool)(l:Nat):Bool:=if l=0 then !up else s
theorem qO {R D L:Int}{gr:Bool}{d:Nat}{p:Int}(h:d≠0∨gr=true):sG R D gr d=io R D (d+1)∧AO R D L gr d p=gD R D (d+1) p:=by
 have a: ¬(d=0∧gr=false):=fun c=>by
  rcases h with h|h
  ·exact h c.1
  ·rw[c.2] at h
   cases h
 exact⟨if_neg a,if_neg a⟩
theorem Ir {R D L:Int}{gr:Bool}{d:Nat}{p:Int}(f:1≤D)(g:L≤p)(hf:2^ (ai R*(D-1).toNat)≤d∨(gr=true∧p=L)):
  ij R D L gr (io R D (d+1)) (gD R D (d+1) p)=d∧jl R D L (io R D (d+1)) (gD R D (d+1) p)=p:=by
 have h:2^ (ai R*(D-1).toNat)<2^ (ai R*D.toNat):=by
  refine Nat.pow_lt_pow_right (by omega) ?_;exact Nat.mul_lt_mul_of_pos_left (by omega) (by have:=eN R;omega)
 unfold io gD ij jl
 by_cases b:d+1=2^ (ai R*D.toNat)
 ·have c:L<p+1:=by omega
  rw[if_pos b,if_pos b,if_pos rfl,if_pos rfl,if_pos c,if_pos c];omega
 ·rw[if_neg b,if_neg b]
  by_cases a:d+1=2^ (ai R*(D-1).toNat)
  ·rcases hf with hf| ⟨e,rfl⟩
   ·omega
   ·rw[if_pos a,if_pos a,if_neg (Int.lt_irrefl p),if_neg (Int.lt_irrefl p),if_pos e]
    omega
  ·rw[if_neg a,if_neg a]
   omega
theorem nZ {R D L G:Int}{gr:Bool}{d:Nat}{k:Int}(f:1≤D)(c:L≤k)(a:gD R D (d+1) k≤G)(g:d<2^ (ai R*D.toNat))(hf:2^ (ai R*(D-1).toNat)≤d∨(gr=true∧k=L)):
  io R D (d+1)≠0∧L≤gD R D (d+1) k∧gD R D (d+1) k≤G∧io R D (d+1)<2^ (ai R*D.toNat)∧(2^ (ai R*(D-1).toNat)≤io R D (d+1)∨(gr=true∧gD R D (d+1) k=L)):=by
 have e:2^ (ai R*(D-1).toNat)<2^ (ai R*D.toNat):=by
  refine Nat.pow_lt_pow_right (by omega) ?_;exact Nat.mul_lt_mul_of_pos_left (by omega) (by have:=eN R;omega)
 have h:=bG (ai R*(D-1).toNat);unfold io gD at*
 by_cases b:d+1=2^ (ai R*D.toNat)
 ·rw[if_pos b] at a⊢
  rw[if_pos b];exact⟨by omega,by omega,a,e,.inl (Nat.le_refl _)⟩
 ·rw[if_neg b] at a⊢
  rw[if_neg b];refine⟨by omega,c,a,by omega, ?_⟩
  rcases hf with hf|hf
  ·exact .inl (by omega)
  ·exact .inr hf
theorem KR (R D:Int)(d:Nat)(k:Int):k≤gD R D d k:=by
 unfold gD
 split<;>omega
def ut (J:Int)(N1 M1:Nat)(E1:Int)(N2 M2:Nat)(E2:Int):Prop:=
 ∀j,J≤j→eZ N1 (E1-j)/dX M1 (E1-j)=eZ N2 (E2-j)/dX M2 (E2-j)∧(eZ N1 (E1-j) % dX M1 (E1-j)=0↔eZ N2 (E2-j) % dX M2 (E2-j)=0)
theorem ut.symm {J:Int}{e c f d:Nat}{a b:Int}(h:ut J e c a f d b):ut J f d b e c a:=fun j g=>⟨(h j g).1.symm,(h j g).2.symm⟩
def pw (k:Nat):Nat:=2^k
theorem mul_two {n a A B:Nat}(h:n<2^A)(b:A+a≤B):n*2^a<2^B:=by
 refine Nat.lt_of_lt_of_le (Nat.mul_lt_mul_of_pos_right h (Nat.pow_pos (by decide))) ?_;rw[←Nat.pow_add];exact two_mono b
end Go.Proofs.YthhiidikgchdeabGreatDoor

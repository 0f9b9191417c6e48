/-
  Texts laid together: Dz, Leaf, Div1, DivBy, Rev, Roo1, Co1, Co6, Co8, Co10, Co9, Co7, Ce1, Gr1, Gr2, Gr5, Gm1, Dk1, Gr6, Gr7, Co16, Co18, Read1, Read3, Cr4, Rk1, Wy, Tx6, Tx11, Tx14.
-/
import Derived.WalkKit
import Derived.WalkSpells
import Derived.Deep.QuietTactic
import Derived.BigQuiet
import Derived.Lib.TrailingZeros
import Derived.Test.YtpgijbdgljkeeaaGreatDoorChecked
import Derived.Handy
import Derived.Laws.CopyOwn
import Derived.BigRegion
import Derived.Deep.LoopGhost
import Derived.Deep.RegionLaw
import Derived.WalkSmall
import Derived.OpenShut
import Derived.Laws.MathBits
import Derived.Lib.BitFns
import Derived.Lib.Walk
import Derived.Lib.Small
import Derived.Shelf.Spec.TrailingZeros
import Derived.Deep.RegionHeld3
import Derived.Deep.MidRow
import Derived.Laws.IdiomStrings
import Derived.Deep.Cut
import Derived.Laws.ResultCell
import Derived.ChangeMaps4
import Derived.Deep.DeepCutAuto
import Derived.Lib.Strings
import Derived.Shelf.Lay
import Derived.Shelf.Strings.Cut
import Derived.Shelf.Small.Wraps
import Derived.Shelf.Strconv.Atoi
import Derived.Shelf.Strconv.Itoa3
import Derived.Lib.AppendIntMem
import Derived.Lib.SmallJoins
import Derived.Test.YtpgijbdgljkeeaaGreatDoorRows
import Derived.Deep.AppendLies
import Derived.Deep.RegionWith
import Derived.Laws.OwnMore
import Derived.Deep.CutBlock
import Derived.Maps.AppendAt
import Derived.OrdersHeld
import Derived.Lib.ItoaLen
namespace Go.Proofs.YtpgijbdgljkeeaaGreatDoor
open _root_.Go.Proofs.Tryz
open Go.RowKit
def sz (s:Bool)(n:Nat):Int:=if s then-(n:Int) else n
theorem Dh {t u m k:Nat}(h:2^t*(2*m+1)=2^u*(2*k+1)):t=u∧m=k:=by
 induction t generalizing u with
 |zero=>
  cases u with
  |zero=>simp at h;exact⟨rfl,by omega⟩
  |succ u=>rw[Nat.pow_succ,Nat.mul_comm _ 2,Nat.mul_assoc] at h;omega
 |succ t ih=>
  cases u with
  |zero=>rw[Nat.pow_succ,Nat.mul_comm _ 2,Nat.mul_assoc] at h;omega
  |succ u=>
   rw[Nat.pow_succ,Nat.mul_comm _ 2,Nat.mul_assoc,Nat.pow_succ,Nat.mul_comm (2^u) 2,Nat.mul_assoc] at h;have:=ih (u:=u) (by omega);exact⟨by omega,this.2⟩
theorem lI {n t m:Nat}(h:n=2^t*(2*m+1)):n/2^t=2*m+1:=by
 rw[h,Nat.mul_div_cancel_left _ (Nat.pow_pos (by omega))]
theorem Y5 (s:Bool)(n k:Nat):sz s n*(k:Int)=sz s (n*k):=by
 unfold sz
 cases s<;>simp[Int.neg_mul]
theorem QI {s t:Bool}{n m:Nat}(h:sz s n=sz t m)(hn:n≠0):s=t∧n=m:=by
 unfold sz at h
 cases s<;>cases t<;>simp at h<;>first|exact⟨rfl,by omega⟩| (exfalso;omega)
def chk (zs:List Nat):Int:=if 0<zs.length∧zs.getD (zs.length-1) 0=0 then 1 else if 1200<zs.length then 2 else 0
theorem Oq {zs:List Nat}(h:0<zs.length)(hz:zs.getD (zs.length-1) 0=0):chk zs=1:=by unfold chk;rw[if_pos ⟨h,hz⟩]
theorem Ot {zs:List Nat}(hz:zs.getD (zs.length-1) 0≠0)(h:1200<zs.length):chk zs=2:=by unfold chk;rw[if_neg (fun c=>hz c.2),if_pos h]
theorem ZT {zs:List Nat}(hz:zs.getD (zs.length-1) 0≠0)(h: ¬1200<zs.length):chk zs=0:=by unfold chk;rw[if_neg (fun c=>hz c.2),if_neg h]
theorem I6 {t y:Nat}{hi lo:Nat}(h1:hi<y)(h2:lo<4294967296)(ht:t=hi*4294967296+lo):t/y<4294967296:=by
 rw[Nat.div_lt_iff_lt_mul (by omega)];have:(hi+1)*4294967296≤y*4294967296:=Nat.mul_le_mul_right _ h1;rw[Nat.mul_comm 4294967296 y];omega
theorem AU (l:List Nat)(k:Nat)(h:k<l.length):l.drop k=l.getD k 0::l.drop (k+1):=by
 rw[List.drop_eq_getElem_cons h];simp[List.getD_eq_getElem?_getD,h]
theorem vm (w:World)(g:Option Nat):w.grownBy w.drew g:=⟨rfl,rfl,rfl,Nat.le_refl _,fun _ _ _=>rfl⟩
def XT (zs cur:List Nat)(i:Nat):Prop:=
 cur.length=zs.length∧2*i≤zs.length+1∧ ∀k,k<zs.length→cur.getD k 0=if k<i∨zs.length-1-i<k then zs.getD (zs.length-1-k) 0 else zs.getD k 0
theorem MG {zs cur:List Nat}{i:Nat}(h:XT zs cur i)(hi: ¬i<zs.length-1-i):cur=zs.reverse:=by
 obtain⟨h1,h2,h3⟩:=h;apply List.ext_getElem (by simpa using h1);intro k hk1 hk2;have hk:k<zs.length:=by omega
 have:=h3 k hk;have e1:cur.getD k 0=cur[k]:=by simp[List.getD_eq_getElem?_getD,hk1]
 have e2:zs.reverse[k]=zs.getD (zs.length-1-k) 0:=by
  rw[List.getElem_reverse];simp[List.getD_eq_getElem?_getD,show zs.length-1-k<zs.length from by omega]
 rw[←e1,this,e2]
 by_cases e3:k<i∨zs.length-1-i<k
 ·rw[if_pos e3]
 ·rw[if_neg e3,show zs.length-1-k=k from by omega]
theorem aaU (k i:Nat):k/2^i=k/2^ (i+1)+k/2^ (i+1)+k/2^i % 2:=by
 rw[Nat.pow_succ,←Nat.div_div_eq_div_mul];omega
def dK (n:Int):Int:=if n<1∨8<n then 0 else if n≤3 then 1 else if n≤5 then 2 else 3
theorem O7 (w:World)(b o:Nat)(v:Value)(g i:Nat):(w.setCell ⟨b,o,none⟩ v).frozen? ⟨g,i,none⟩=w.frozen? ⟨g,i,none⟩:=
 World.frozen?_setCells b [v] o w ⟨g,i,none⟩
def jr (s:ByteArray):List Nat:=s.data.toList.map (fun b=>b.toNat)
theorem oV (s:ByteArray):(jr s).length=s.size:=by
 unfold jr;rw[List.length_map,Array.length_toList];rfl
def fU (zs:List Nat)(i:Nat):Nat:=zs.getD (i/8) 0/2^ (7-i % 8) % 2
def eH (zs:List Nat)(f:Nat):Nat→Nat
 |0=>0
 |n+1=>2*eH zs f n+fU zs (f+n)
theorem xW (zs:List Nat)(i:Nat):fU zs i<2:=Nat.mod_lt _ (by omega)
theorem gh (zs:List Nat)(f:Nat): ∀n,eH zs f n<2^n
 |0=>by simp[eH]
 |n+1=>by
  have h1:=gh zs f n;have h2:=xW zs (f+n);rw[Nat.pow_succ];simp only[eH];omega
theorem XO (x y r:Nat)(hx:x<9223372036854775808)(hy:y<256):bits .or .u64 (IntKind.u64.wrap ((x:Int)*2)) (IntKind.u64.wrap (bits .and .u8 ((y:Int)/2^ (7-r)) 1))=((2*x+y/2^ (7-r) % 2:Nat):Int):=by
 have e1:(y:Int)/2^ (7-r)=((y/2^ (7-r):Nat):Int):=by simp
 have h1:y/2^ (7-r)<256:=Nat.lt_of_le_of_lt (Nat.div_le_self _ _) hy;have e2:=u8_and_nat (y/2^ (7-r)) 1 h1 (by omega);rw[Nat.and_one_is_mod] at e2;rw[e1,show 1=((1:Nat):Int) from rfl,e2]
 have h2:=Nat.mod_lt (y/2^ (7-r)) (show 0<2 by omega)
 generalize y/2^ (7-r) % 2=b at*;rw[IntKind.wrap_u64,IntKind.wrap_u64,show((x:Int)*2) % 18446744073709551616=((2*x:Nat):Int) from by omega,show(b:Int) % 18446744073709551616=(b:Int) from by omega]
 rw[u64_or_nat _ _ (by omega) (by omega),nat_join 1 _ _ (by omega) (by omega)]
theorem Cf (x r:Nat):x % 2*2^ (7-r)<256:=by
 have h1:(2:Nat)^ (7-r)≤2^7:=Nat.pow_le_pow_right (by omega) (by omega);have h2:=Nat.mod_lt x (show 0<2 by omega)
 have h3:x % 2*2^ (7-r)≤1*2^7:=Nat.mul_le_mul (by omega) h1;omega
theorem aaR (b y r:Nat)(hb:b<256)(hy:y<18446744073709551616):bits .or .u8 b (bits .and .u64 y 1 % 256*2^ (7-r) % 256)=((b|||y % 2*2^ (7-r):Nat):Int):=by
 have e2:=u64_and_nat y 1 hy (by omega);rw[Nat.and_one_is_mod] at e2;have h2:=Nat.mod_lt y (show 0<2 by omega)
 have h3:=Cf y r;have e3:(((y % 2:Nat):Int) % 256*2^ (7-r))=((y % 2*2^ (7-r):Nat):Int):=by
  rw[show((y % 2:Nat):Int) % 256=((y % 2:Nat):Int) from by omega]
  push_cast
  rfl
 rw[show 1=((1:Nat):Int) from rfl,e2,e3,show((y % 2*2^ (7-r):Nat):Int) % 256=((y % 2*2^ (7-r):Nat):Int) from by omega]
 exact u8_or_nat _ _ hb h3
def szN:Nat→Nat
 |1=>4|2=>8|3=>10|4=>4|5=>8|6=>4|7=>8|8=>8|_=>0
def dgN:Nat→Nat
 |1=>24|2=>53|3=>64|4=>6|5=>14|6=>24|7=>56|8=>53|_=>0
def rdN:Nat→Nat
 |4=>16|5=>16|_=>2
def lsI:Nat→Int
 |1=> -149|2=> -1074|3=> -16445|4=> -70|5=> -78|6=> -151|7=> -183|8=> -1076|_=>0
def WI (zs cur:List Nat)(i:Nat):Prop:=
 cur.length=zs.length∧ ∀k,k<zs.length→cur.getD k 0=if k<2*i then zs.getD (k+1-2*(k % 2)) 0 else zs.getD k 0
theorem TZ (x a:Nat)(hx:x<4294967296)(ha:a<4294967296):bits .or .u64 ((x:Int)*4294967296) a=((a+4294967296*x:Nat):Int):=by
 rw[show x*4294967296=((4294967296*x:Nat):Int) from by omega]
 rw[u64_or_nat _ _ (by omega) (by omega),nat_join 32 _ _ (by omega) (by omega)]
 congr 1
 omega
def eJ (m n:Int):Bool:=decide (n< -m)||decide (m<n)
def xa (R:Int):Int:=if R=16 then 4000 else 17000
def bk (R D L G:Int):Int:=if R=2∨R=16 then(if D<1∨120<D∨eJ (xa R) L=true∨eJ (xa R) G=true∨G<L then 3 else 0) else 6
theorem FD {R D L G:Int}(h1: ¬R=2)(h2: ¬R=16):bk R D L G=6:=if_neg (fun h=>h.elim h1 h2)
theorem zp {R D L G:Int}(h:R=2∨R=16)(hb:D<1∨120<D∨eJ (xa R) L=true∨eJ (xa R) G=true∨G<L):bk R D L G=3:=(if_pos h).trans (if_pos hb)
theorem Bm {R D L G:Int}(h:R=2∨R=16)(hb: ¬(D<1∨120<D∨eJ (xa R) L=true∨eJ (xa R) G=true∨G<L)):bk R D L G=0:=(if_pos h).trans (if_neg hb)
theorem cB {R D L G:Int}(h:bk R D L G=0):(R=2∨R=16)∧1≤D∧D≤120∧ -17000≤L∧L≤17000∧ -17000≤G∧G≤17000∧L≤G∧(R=16→ -4000≤L∧G≤4000):=by
 unfold bk at h
 split at h
 ·rename_i h1
  split at h
  ·omega
  ·rename_i h2
   have f1:eJ (xa R) L=false:=by
    cases hc:eJ (xa R) L
    ·rfl
    ·exact absurd (.inr (.inr (.inl hc))) h2
   have f2:eJ (xa R) G=false:=by
    cases hc:eJ (xa R) G
    ·rfl
    ·exact absurd (.inr (.inr (.inr (.inl hc)))) h2
   unfold eJ xa at f1 f2;simp only[Bool.or_eq_false_iff,decide_eq_false_iff_not] at f1 f2;refine⟨h1,by omega,by omega, ?_⟩
   split at f1<;>split at f2<;>first|omega| (refine⟨by omega,by omega,by omega,by omega,by omega,fun _=>by omega⟩)
 ·omega
theorem Qd (a:Int)(k:Nat)(hk:0<k):(a<a.tdiv k*k→a/(k:Int)=a.tdiv k-1)∧(¬a<a.tdiv k*k→a/(k:Int)=a.tdiv k):=by
 have e:=Int.tmod_add_mul_tdiv a k;have h1:a.tmod k<k:=Int.tmod_lt_of_pos a (by omega);have h2: -(k:Int)<a.tmod k:=by
  have h:=Int.tmod_lt_of_pos (-a) (b:=(k:Int)) (by omega);rw[Int.neg_tmod] at h;omega
 have e2:(k:Int)*a.tdiv k=a.tdiv k*k:=Int.mul_comm _ _;rw[e2] at e
 constructor
 ·intro h
  have h3:a=(a.tmod k+k)+(k:Int)*(a.tdiv k-1):=by
   rw[Int.mul_sub,e2];omega
  rw[h3,Int.add_mul_ediv_left _ _ (by omega),Int.ediv_eq_zero_of_lt (by omega) (by omega)];rw[←h3];omega
 ·intro h
  have h3:a=a.tmod k+(k:Int)*a.tdiv k:=by
   rw[e2];omega
  rw[h3,Int.add_mul_ediv_left _ _ (by omega),Int.ediv_eq_zero_of_lt (by omega) (by omega)];rw[←h3];omega
def eA (xs ys:List Nat)(E:Int):Int:=if chk xs=0 then(if chk ys=0 then(if ys.length=0∨eJ 20000 E=true then 3 else 0) else chk ys) else chk xs
def jg (c d:Int):Int:=if c=0 then d else c
def nL (cx cy:Int)(ly:Nat)(fe:Bool)(gc:Int):Int:=if cx=0 then(if cy=0 then(if ly=0∨fe=true then 3 else gc) else cy) else cx
theorem Uu (xs ys:List Nat)(E gc:Int):jg (eA xs ys E) gc=nL (chk xs) (chk ys) ys.length (eJ 20000 E) gc:=by
 unfold jg eA nL
 by_cases h1:chk xs=0
 ·rw[if_pos h1,if_pos h1]
  by_cases h2:chk ys=0
  ·rw[if_pos h2,if_pos h2]
   by_cases h3:ys.length=0∨eJ 20000 E=true
   ·rw[if_pos h3,if_pos h3,if_neg (by omega)]
   ·rw[if_neg h3,if_neg h3,if_pos rfl]
  ·rw[if_neg h2,if_neg h2,if_neg h2]
 ·rw[if_neg h1,if_neg h1,if_neg h1]
def eZ (N:Nat)(n:Int):Nat:=if n<0 then N else N*2^n.toNat
def dX (M:Nat)(n:Int):Nat:=if n<0 then M*2^ (-n).toNat else M
def dY (N M:Nat)(E:Int):Int:=
 E+(((bitLen N:Int)-(bitLen M:Int))-(if eZ N (-((bitLen N:Int)-(bitLen M:Int)))/dX M (-((bitLen N:Int)-(bitLen M:Int)))=0 then 1 else 0))
theorem M4 (x:Int)(h1: -1000000≤x)(h2:x≤1000000):IntKind.i64.wrap x=x:=by
 exact IntWalk.i64_in _ ⟨by omega,by omega⟩
theorem fw (N:Nat)(n:Int):eZ N n=N*2^n.toNat:=by
 unfold eZ
 split
 ·rw[show n.toNat=0 by omega,Nat.pow_zero,Nat.mul_one]
 ·rfl
theorem eM (M:Nat)(n:Int):dX M n=M*2^ (-n).toNat:=by
 unfold dX
 split
 ·rfl
 ·rw[show(-n).toNat=0 by omega,Nat.pow_zero,Nat.mul_one]
theorem bG (k:Nat):0<2^k:=Nat.pow_pos (by omega)
theorem DS {N M a b a' b':Nat}(h:M*2^b≤N*2^a)(hk:b'+a≤b+a'):M*2^b'≤N*2^a':=by
 refine Nat.le_of_mul_le_mul_right (c:=2^a) ?_ (bG a)
 calc M*2^b'*2^a=M*2^ (b'+a):=by rw[Nat.mul_assoc,←Nat.pow_add]
  _≤M*2^ (b+a'):=Nat.mul_le_mul_left _ (Nat.pow_le_pow_right (by omega) hk)
  _=M*2^b*2^a':=by rw[Nat.mul_assoc,←Nat.pow_add]
  _≤N*2^a*2^a':=Nat.mul_le_mul_right _ h
  _=N*2^a'*2^a:=by rw[Nat.mul_right_comm]
theorem qD (N M:Nat)(E:Int):dY N M E=E+dY N M 0:=by
 unfold dY;omega
theorem Ad (q k:Nat)(h:q≠0):bitLen (2^k*q)=k+bitLen q:=by
 have hd:2^k*q/2^k=q:=Nat.mul_div_cancel_left q (Nat.pow_pos (by omega));have:=bitLen_shift (2^k*q) k (by rw[hd];exact h)
 rwa [hd] at this
theorem GD {P:Program}(w:World)(d:Nat){t:TypeId}{ps rs:Array TypeId}{vd:Bool}(h:P.underlying t=some (.func ps rs vd))(f:Fn)(a b:Array Value):(Op.equalIn (d+1) t (.func f a b) .nilFunc).run P w= .ok false w:=by
 simp[Op.equalIn,run_underlying h]
theorem DE {P:Program}(w:World)(d:Nat){t:TypeId}{ps rs:Array TypeId}{vd:Bool}(h:P.underlying t=some (.func ps rs vd)):(Op.equalIn (d+1) t .nilFunc .nilFunc).run P w= .ok true w:=by
 simp[Op.equalIn,run_underlying h]
theorem Rq {P:Program}(w:World){t:TypeId}{ps rs:Array TypeId}{vd:Bool}(h:P.underlying t=some (.func ps rs vd))(f:Fn)(a b:Array Value):(binOp .eql t (.func f a b) .nilFunc).run P w= .ok (.bool false) w:=by
 simp only[binOp];simp[Op.equal,Op.maxDepth,GD w 9999 h f a b]
theorem Oa {P:Program}(w:World){t:TypeId}{ps rs:Array TypeId}{vd:Bool}(h:P.underlying t=some (.func ps rs vd)):(binOp .eql t .nilFunc .nilFunc).run P w= .ok (.bool true) w:=by
 simp only[binOp];simp[Op.equal,Op.maxDepth,DE w 9999 h]
def T4 (way:Int):FuncId:=if way=1 then 162 else if way=2 then 163 else if way=3 then 164 else if way=4 then 165 else 166
def iC (way:Int):Bool:=decide (1≤way∧way≤5)
def ac0 (way:Int):Value:=if iC way=true then .func (.func (T4 way)) #[] #[] else .nilFunc
theorem zi {way:Int}(h:iC way=true):way=1∨way=2∨way=3∨way=4∨way=5:=by
 have:=of_decide_eq_true h;omega
theorem enter_of {P:Program}{f:FuncId}{fn:Func}{c:Code}(hf:P.funcs[f]? =some fn)(hname:(fn.name== "runtime.NumGoroutine")=false)(hb:fn.body=some c)(args:Array Value)(w:World):Sem.run P (callFunc f args) w= .ok (.enter f args) w:=by
 have hn: ¬fn.name= "runtime.NumGoroutine" :=by simpa using hname
 simp[callFunc,hf,hn,hb]
theorem PO {way:Int}(h:iC way=true)(args:Array Value)(W:World):Sem.run Tryz.prog (callFunc (T4 way) args) W= .ok (.enter (T4 way) args) W:=by
 rcases zi h with rfl|rfl|rfl|rfl|rfl
 ·exact enter_of func162 (by kernel_rfl) rfl args W
 ·exact enter_of func163 (by kernel_rfl) rfl args W
 ·exact enter_of func164 (by kernel_rfl) rfl args W
 ·exact enter_of func165 (by kernel_rfl) rfl args W
 ·exact enter_of func166 (by kernel_rfl) rfl args W
def eE (xs ys:List Nat)(E R D L G way:Int):Int:=
 if jg (eA xs ys E) (bk R D L G)=0 then(if iC way=true then 0 else 6) else jg (eA xs ys E) (bk R D L G)
theorem C4 {c d:Int}(h:jg c d=0):c=0∧d=0:=by
 unfold jg at h
 split at h
 ·exact⟨by assumption,h⟩
 ·exact absurd h (by assumption)
theorem gO {xs ys:List Nat}{E:Int}(h:eA xs ys E=0):chk xs=0∧chk ys=0∧0<ys.length∧ -20000≤E∧E≤20000:=by
 unfold eA at h
 by_cases h1:chk xs=0
 ·rw[if_pos h1] at h
  by_cases h2:chk ys=0
  ·rw[if_pos h2] at h
   by_cases h3:ys.length=0∨eJ 20000 E=true
   ·rw[if_pos h3] at h
    cases h
   ·have h4: ¬eJ 20000 E=true:=fun c=>h3 (Or.inr c)
    unfold eJ at h4;simp at h4;refine⟨h1,h2, ?_,by omega,by omega⟩;have: ¬ys.length=0:=fun c=>h3 (Or.inl c)
    omega
  ·rw[if_neg h2] at h
   exact absurd h h2
 ·rw[if_neg h1] at h
  exact absurd h h1
def lJ (r:Nat):Nat→Nat→Int→Nat×Int
 |0,d,p=>(d,p)
 |n+1,d,p=>if d % r=0 then lJ r n (d/r) (p+1) else(d,p)
def dF (n:Int)(s:ByteArray):Int:=if dK n=0 then 6 else if s.size=szN n.toNat then 0 else 1
def byt (s:ByteArray)(i:Nat):Nat:=(s[i]?.getD 0).toNat
theorem KD (s:ByteArray)(i:Nat)(h:i<s.size):(s[i]'h).toNat=byt s i:=by
 unfold byt;rw[getElem?_pos s i h];rfl
def pv (s:ByteArray):Nat→Nat
 |0=>0
 |k+1=>pv s k*10+(byt s k-48)
theorem Tb (s:ByteArray)(hd: ∀i,i<s.size→48≤byt s i∧byt s i≤57): ∀k,k≤s.size→pv s k<10^k:=by
 intro k
 induction k with
 |zero=>intro _;simp[pv]
 |succ k ih=>
  intro h;have:=ih (by omega);have:=hd k (by omega);simp only[pv,Nat.pow_succ];omega
theorem OD (s:ByteArray)(a i:Nat)(h:a+i<s.size):byt (s.extract a s.size) i=byt s (a+i):=by
 unfold byt
 congr 1
 have h1:i< (s.extract a s.size).size:=by simp;omega
 rw[getElem?_pos _ i h1,getElem?_pos s (a+i) h];simp only[Option.getD_some]
 show(s.extract a s.size).data[i]=s.data[a+i]
 simp[ByteArray.data_extract]
def adS (s T:ByteArray)(p:Nat):Prop:=p+T.size=s.size∧ ∀i,i<T.size→byt T i=byt s (p+i)
theorem Wa {s T:ByteArray}{p n:Nat}(h:adS s T p)(hn:n≤T.size):adS s (T.extract n T.size) (p+n):=by
 refine⟨by have:=h.1;simp;omega,fun i hi=> ?_⟩
 have hi2:n+i<T.size:=by simp at hi;omega
 rw[OD T n i hi2,h.2 (n+i) hi2,Nat.add_assoc]
def ack (s:ByteArray)(p i g sc:Nat):Prop:=pv s (p+i)=pv s p*10^i+g∧g<10^i∧sc=10^i
theorem Z5 {s:ByteArray}{p i g sc x:Nat}(h:ack s p i g sc)(hx:byt s (p+i)=x)(h1:48≤x)(h2:x≤57):ack s p (i+1) (g*10+(x-48)) (sc*10):=by
 obtain⟨a,b,c⟩:=h;refine⟨?_, ?_, ?_⟩
 ·show pv s (p+i)*10+(byt s (p+i)-48)=_
  rw[a,hx,Nat.pow_succ,Nat.add_mul,Nat.mul_assoc];omega
 ·rw[Nat.pow_succ];omega
 ·rw[c,Nat.pow_succ]
def wdI (R:Int):Int:=if R=16 then 4 else 1
def ut (J:Int)(N1 M1:Nat)(E1:Int)(N2 M2:Nat)(E2:Int):Prop:=
 ∀j,J≤j→eZ N1 (E1-j)/dX M1 (E1-j)=eZ N2 (E2-j)/dX M2 (E2-j)∧(eZ N1 (E1-j) % dX M1 (E1-j)=0↔eZ N2 (E2-j) % dX M2 (E2-j)=0)
theorem wp_yield {P:Program}{op:Oper}{a:Act}{w:World}{K:Act→World→Prop}{Q:Exit→Act→World→Prop}(v:Value)(hv:(execOp a.eval op).run P w= .ok (.value v) w)(h:K (a.put op.dst v) w):op.wp P a w K Q:=by
 unfold Oper.wp;rw[hv];exact h
theorem pow5_two (a:Nat):5^a≤2^ (3*a):=by
 rw[Nat.pow_mul];exact Nat.pow_le_pow_left (by omega) a
def scA (xn:Nat)(e n:Int):Nat:=xn*5^n.toNat*2^ (e+n).toNat
def scB (e n:Int):Nat:=5^ (-n).toNat*2^ (-(e+n)).toNat
theorem sc_in {xn a c:Nat}{e n:Int}(ha:a=64)(hc:c=36964)(hx:xn<2^a)(e2:e≤16500)(n2:n≤5100):scA xn e n<2^c∧xn*5^n.toNat<2^c∧xn*2^ (e+n).toNat<2^c:=by
 obtain⟨u,hu⟩: ∃u,u=15300:=⟨_,rfl⟩;obtain⟨v,hv⟩: ∃v,v=21600:=⟨_,rfl⟩;have h5:5^n.toNat≤2^u:=Nat.le_trans (pow5_two _) (Nat.pow_le_pow_right (by omega) (by omega));have h2:2^ (e+n).toNat≤2^v:=Nat.pow_le_pow_right (by omega) (by omega);have p2:1≤2^ (e+n).toNat:=Nat.pow_pos (by omega);have p5:1≤5^n.toNat:=Nat.pow_pos (by omega);have e0:2^c=2^a*2^u*2^v:=by rw[←Nat.pow_add,←Nat.pow_add];congr 1;omega
 have l1:xn*5^n.toNat<2^a*2^u:=Nat.mul_lt_mul_of_lt_of_le hx h5 (Nat.pow_pos (by omega));have l2:scA xn e n<2^c:=by
  rw[e0];exact Nat.mul_lt_mul_of_lt_of_le l1 h2 (Nat.pow_pos (by omega))
 refine⟨l2,Nat.lt_of_le_of_lt ?_ l2,Nat.lt_of_le_of_lt ?_ l2⟩
 ·exact Nat.le_mul_of_pos_right _ p2
 ·unfold scA
  rw[Nat.mul_assoc,Nat.mul_comm (5^n.toNat),←Nat.mul_assoc];exact Nat.le_mul_of_pos_right _ p5
def prU (C k:Nat):Nat:=10^ (C-k)*2
def prQ (H C k:Nat):Nat:=if prU C k<H % prU C k*2∨(H % prU C k*2=prU C k∧H/prU C k % 2=1) then H/prU C k+1 else H/prU C k
end Go.Proofs.YtpgijbdgljkeeaaGreatDoor

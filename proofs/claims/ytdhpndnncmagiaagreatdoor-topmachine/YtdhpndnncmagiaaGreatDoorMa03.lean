/-
  Texts laid together: Dz, Leaf, Rev, Ex, Roo1, Co8, Co9, Co7, Co13, Co11, Co20, Co21, Ce1, Gr1, Gr5, Gm1, Dy5, Dy6, Dk1, Gr6, Gr7, Ce10, Tx3, Tx7, Co16, Co17, Tx10, Read1, Tx1, Read3, Gh4, Gn2, Ef1, Cr11, Eb3, Rk1, Rk2, Pa4, Gq9, Tx5, Bm4, Tx6, Tx11, Tx12, Tx13, Tx14.
-/
import Derived.WalkKit
import Derived.WalkSpells
import Derived.Deep.QuietTactic
import Derived.BigQuiet
import Derived.Lib.TrailingZeros
import Derived.Test.YtdhpndnncmagiaaGreatDoorChecked
import Derived.Handy
import Derived.Laws.CopyOwn
import Derived.BigRegion
import Derived.Deep.LoopGhost
import Derived.Deep.RegionLaw
import Derived.WalkSmall
import Derived.OpenShut
import Derived.Laws.MathBits
import Derived.Lib.BitFns
import Derived.Lib.Walk
import Derived.Lib.Small
import Derived.Shelf.Spec.TrailingZeros
import Derived.Deep.RegionHeld3
import Derived.Deep.MidRow
import Derived.Laws.IdiomStrings
import Derived.Deep.Cut
import Derived.Laws.ResultCell
import Derived.ChangeMaps4
import Derived.Deep.DeepCutAuto
import Derived.Deep.AppendLies
import Derived.Lib.Strings
import Derived.Shelf.Lay
import Derived.Shelf.Strings.Cut
import Derived.Shelf.Small.Wraps
import Derived.Shelf.Strconv.Atoi
import Derived.Shelf.Strconv.Itoa3
import Derived.Lib.AppendIntMem
import Derived.Lib.SmallJoins
import Derived.Test.YtdhpndnncmagiaaGreatDoorRows
import Derived.Deep.RegionWith
import Derived.Laws.OwnMore
import Derived.Deep.CutBlock
import Derived.Maps.AppendAt
import Derived.OrdersHeld
import Derived.Lib.ItoaLen
namespace Go.Proofs.YtdhpndnncmagiaaGreatDoor
open _root_.Go.Proofs.Tryz
open Go.RowKit
theorem lI {n t m:Nat}(h:n=2^t*(2*m+1)):n/2^t=2*m+1:=by
 rw[h,Nat.mul_div_cancel_left _ (Nat.pow_pos (by omega))]
def chk (zs:List Nat):Int:=if 0<zs.length∧zs.getD (zs.length-1) 0=0 then 1 else if 1200<zs.length then 2 else 0
theorem Oq {zs:List Nat}(h:0<zs.length)(hz:zs.getD (zs.length-1) 0=0):chk zs=1:=by unfold chk;rw[if_pos ⟨h,hz⟩]
theorem Ot {zs:List Nat}(hz:zs.getD (zs.length-1) 0≠0)(h:1200<zs.length):chk zs=2:=by unfold chk;rw[if_neg (fun c=>hz c.2),if_pos h]
theorem ZT {zs:List Nat}(hz:zs.getD (zs.length-1) 0≠0)(h: ¬1200<zs.length):chk zs=0:=by unfold chk;rw[if_neg (fun c=>hz c.2),if_neg h]
def XT (zs cur:List Nat)(i:Nat):Prop:=
 cur.length=zs.length∧2*i≤zs.length+1∧ ∀k,k<zs.length→cur.getD k 0=if k<i∨zs.length-1-i<k then zs.getD (zs.length-1-k) 0 else zs.getD k 0
theorem MG {zs cur:List Nat}{i:Nat}(h:XT zs cur i)(hi: ¬i<zs.length-1-i):cur=zs.reverse:=by
 obtain⟨h1,h2,h3⟩:=h;apply List.ext_getElem (by simpa using h1);intro k hk1 hk2;have hk:k<zs.length:=by omega
 have:=h3 k hk;have e1:cur.getD k 0=cur[k]:=by simp[List.getD_eq_getElem?_getD,hk1]
 have e2:zs.reverse[k]=zs.getD (zs.length-1-k) 0:=by
  rw[List.getElem_reverse];simp[List.getD_eq_getElem?_getD,show zs.length-1-k<zs.length from by omega]
 rw[←e1,this,e2]
 by_cases e3:k<i∨zs.length-1-i<k
 ·rw[if_pos e3]
 ·rw[if_neg e3,show zs.length-1-k=k from by omega]
theorem fy {P:Program}{o:Oper}{a:Act}{w:World}(t:TypeId)(x:Operand)(ho:o.op= .load t x)(b i:Nat)(hx:a.eval x= .pointer (some ⟨b,i,none⟩))(cs:List Value)(d:TypeDesc)(hr:w.rangeAt b i cs)(hu:P.underlying t=some d)(hd:d.isRow=true)(hi:(P.info? t).map (·.size)=some cs.length):(execOp a.eval o).run P w= .ok (.value (.agg cs.toArray)) w:=by
 unfold execOp;simp only[ho,hx];have:=run_loadAt_mid (P:=P) w b i t cs d hr hu hd hi;simp[this]
theorem aaU (k i:Nat):k/2^i=k/2^ (i+1)+k/2^ (i+1)+k/2^i % 2:=by
 rw[Nat.pow_succ,←Nat.div_div_eq_div_mul];omega
theorem XO (x y r:Nat)(hx:x<9223372036854775808)(hy:y<256):bits .or .u64 (IntKind.u64.wrap ((x:Int)*2)) (IntKind.u64.wrap (bits .and .u8 ((y:Int)/2^ (7-r)) 1))=((2*x+y/2^ (7-r) % 2:Nat):Int):=by
 have e1:(y:Int)/2^ (7-r)=((y/2^ (7-r):Nat):Int):=by simp
 have h1:y/2^ (7-r)<256:=Nat.lt_of_le_of_lt (Nat.div_le_self _ _) hy;have e2:=u8_and_nat (y/2^ (7-r)) 1 h1 (by omega);rw[Nat.and_one_is_mod] at e2;rw[e1,show 1=((1:Nat):Int) from rfl,e2]
 have h2:=Nat.mod_lt (y/2^ (7-r)) (show 0<2 by omega)
 generalize y/2^ (7-r) % 2=b at*;rw[IntKind.wrap_u64,IntKind.wrap_u64,show((x:Int)*2) % 18446744073709551616=((2*x:Nat):Int) from by omega,show(b:Int) % 18446744073709551616=(b:Int) from by omega]
 rw[u64_or_nat _ _ (by omega) (by omega),nat_join 1 _ _ (by omega) (by omega)]
def wrN (k:Nat):Nat:=if k=3 then 2^63 else if k=4 then 2^5 else if k=5 then 2^13 else 0
theorem bO {k:Nat}(h:1≤k∧k≤8):k=1∨k=2∨k=3∨k=4∨k=5∨k=6∨k=7∨k=8:=by omega
def WI (zs cur:List Nat)(i:Nat):Prop:=
 cur.length=zs.length∧ ∀k,k<zs.length→cur.getD k 0=if k<2*i then zs.getD (k+1-2*(k % 2)) 0 else zs.getD k 0
def C9 (k:Nat):Nat:=if k=3 then 140 else if 6≤k then 141 else 139
theorem Cx {P:Program}{f:FuncId}{fn:Func}{c:Code}(hf:P.funcs[f]? =some fn)(hname:(fn.name== "runtime.NumGoroutine")=false)(hb:fn.body=some c)(args:Array Value)(w:World):Sem.run P (callFunc f args) w= .ok (.enter f args) w:=by
 have hn: ¬fn.name= "runtime.NumGoroutine" :=by simpa using hname
 simp[callFunc,hf,hn,hb]
theorem Db (k:Nat)(args:Array Value)(W:World):Sem.run Tryz.prog (callFunc (C9 k) args) W= .ok (.enter (C9 k) args) W:=by
 unfold C9
 split
 ·exact Cx func140 (by kernel_rfl) rfl args W
 ·split
  ·exact Cx func141 (by kernel_rfl) rfl args W
  ·exact Cx func139 (by kernel_rfl) rfl args W
theorem SK (f n:Nat):f&&& 2^n=if f.testBit n then 2^n else 0:=by
 apply Nat.eq_of_testBit_eq;intro i;rw[Nat.testBit_and,Nat.testBit_two_pow]
 by_cases hi:n=i
 ·subst hi
  cases h:f.testBit n
  ·simp
  ·simp
 ·cases h:f.testBit n
  ·simp[hi]
  ·simp[hi]
theorem ab0 (f:Nat)(h:f<18446744073709551616):bits .and .u64 f 9223372036854775808=if f<9223372036854775808 then 0 else 9223372036854775808:=by
 have e1:=u64_and_nat f 9223372036854775808 h (by omega);rw[show 9223372036854775808=((9223372036854775808:Nat):Int) from rfl,e1]
 have e2:=SK f 63;rw[Nat.testBit_eq_decide_div_mod_eq,show(2:Nat)^63=9223372036854775808 from rfl] at e2
 rw[e2]
 by_cases c:f<9223372036854775808
 ·rw[if_pos c,show f/9223372036854775808=0 from by omega]
  rfl
 ·rw[if_neg c,show f/9223372036854775808=1 from by omega]
  rfl
theorem NR (f:Nat)(h:f<18446744073709551616):bits .and .u64 f 0=0:=by
 have e1:=u64_and_nat f 0 h (by omega);rw[Nat.and_zero] at e1;exact e1
def iR (k c:Nat):Bool:=c==1||(c==3||c==4)&&decide (k≤3)||c==5&&decide (6≤k)
def pI (k c:Nat):Bool:=c==5&&decide (6≤k)
def Bk (k c:Nat):Bool:=c==3||c==1&&decide (k≤5)
def qX (k c dn:Nat)(ng:Bool)(p:Int):Int:=if iR k c=false then 5 else if 0<dn∨p≠0∨ng=true∧Bk k c=false then 4 else 0
theorem TZ (x a:Nat)(hx:x<4294967296)(ha:a<4294967296):bits .or .u64 ((x:Int)*4294967296) a=((a+4294967296*x:Nat):Int):=by
 rw[show x*4294967296=((4294967296*x:Nat):Int) from by omega]
 rw[u64_or_nat _ _ (by omega) (by omega),nat_join 32 _ _ (by omega) (by omega)]
 congr 1
 omega
def eJ (m n:Int):Bool:=decide (n< -m)||decide (m<n)
def xa (R:Int):Int:=if R=16 then 4000 else 17000
def bk (R D L G:Int):Int:=if R=2∨R=16 then(if D<1∨120<D∨eJ (xa R) L=true∨eJ (xa R) G=true∨G<L then 3 else 0) else 6
theorem FD {R D L G:Int}(h1: ¬R=2)(h2: ¬R=16):bk R D L G=6:=if_neg (fun h=>h.elim h1 h2)
theorem zp {R D L G:Int}(h:R=2∨R=16)(hb:D<1∨120<D∨eJ (xa R) L=true∨eJ (xa R) G=true∨G<L):bk R D L G=3:=(if_pos h).trans (if_pos hb)
theorem Bm {R D L G:Int}(h:R=2∨R=16)(hb: ¬(D<1∨120<D∨eJ (xa R) L=true∨eJ (xa R) G=true∨G<L)):bk R D L G=0:=(if_pos h).trans (if_neg hb)
theorem cB {R D L G:Int}(h:bk R D L G=0):(R=2∨R=16)∧1≤D∧D≤120∧ -17000≤L∧L≤17000∧ -17000≤G∧G≤17000∧L≤G∧(R=16→ -4000≤L∧G≤4000):=by
 unfold bk at h
 split at h
 ·rename_i h1
  split at h
  ·omega
  ·rename_i h2
   have f1:eJ (xa R) L=false:=by
    cases hc:eJ (xa R) L
    ·rfl
    ·exact absurd (.inr (.inr (.inl hc))) h2
   have f2:eJ (xa R) G=false:=by
    cases hc:eJ (xa R) G
    ·rfl
    ·exact absurd (.inr (.inr (.inr (.inl hc)))) h2
   unfold eJ xa at f1 f2;simp only[Bool.or_eq_false_iff,decide_eq_false_iff_not] at f1 f2;refine⟨h1,by omega,by omega, ?_⟩
   split at f1<;>split at f2<;>first|omega| (refine⟨by omega,by omega,by omega,by omega,by omega,fun _=>by omega⟩)
 ·omega
def eA (xs ys:List Nat)(E:Int):Int:=if chk xs=0 then(if chk ys=0 then(if ys.length=0∨eJ 20000 E=true then 3 else 0) else chk ys) else chk xs
def jg (c d:Int):Int:=if c=0 then d else c
def nL (cx cy:Int)(ly:Nat)(fe:Bool)(gc:Int):Int:=if cx=0 then(if cy=0 then(if ly=0∨fe=true then 3 else gc) else cy) else cx
theorem Uu (xs ys:List Nat)(E gc:Int):jg (eA xs ys E) gc=nL (chk xs) (chk ys) ys.length (eJ 20000 E) gc:=by
 unfold jg eA nL
 by_cases h1:chk xs=0
 ·rw[if_pos h1,if_pos h1]
  by_cases h2:chk ys=0
  ·rw[if_pos h2,if_pos h2]
   by_cases h3:ys.length=0∨eJ 20000 E=true
   ·rw[if_pos h3,if_pos h3,if_neg (by omega)]
   ·rw[if_neg h3,if_neg h3,if_pos rfl]
  ·rw[if_neg h2,if_neg h2,if_neg h2]
 ·rw[if_neg h1,if_neg h1,if_neg h1]
theorem M4 (x:Int)(h1: -1000000≤x)(h2:x≤1000000):IntKind.i64.wrap x=x:=by
 exact IntWalk.i64_in _ ⟨by omega,by omega⟩
theorem bG (k:Nat):0<2^k:=Nat.pow_pos (by omega)
theorem DS {N M a b a' b':Nat}(h:M*2^b≤N*2^a)(hk:b'+a≤b+a'):M*2^b'≤N*2^a':=by
 refine Nat.le_of_mul_le_mul_right (c:=2^a) ?_ (bG a)
 calc M*2^b'*2^a=M*2^ (b'+a):=by rw[Nat.mul_assoc,←Nat.pow_add]
  _≤M*2^ (b+a'):=Nat.mul_le_mul_left _ (Nat.pow_le_pow_right (by omega) hk)
  _=M*2^b*2^a':=by rw[Nat.mul_assoc,←Nat.pow_add]
  _≤N*2^a*2^a':=Nat.mul_le_mul_right _ h
  _=N*2^a'*2^a:=by rw[Nat.mul_right_comm]
def aS (xs:List Nat)(e:Int):Int:=if chk xs=0 then(if e< -20000∨20000<e then 3 else 0) else chk xs
theorem bL {xs:List Nat}{e:Int}(h:aS xs e=0):chk xs=0∧ -20000≤e∧e≤20000:=by
 unfold aS at h
 by_cases h1:chk xs=0
 ·rw[if_pos h1] at h
  by_cases h2:e< -20000∨20000<e
  ·rw[if_pos h2] at h;omega
  ·exact⟨h1,by omega,by omega⟩
 ·rw[if_neg h1] at h;exact absurd h h1
theorem Ad (q k:Nat)(h:q≠0):bitLen (2^k*q)=k+bitLen q:=by
 have hd:2^k*q/2^k=q:=Nat.mul_div_cancel_left q (Nat.pow_pos (by omega));have:=bitLen_shift (2^k*q) k (by rw[hd];exact h)
 rwa [hd] at this
theorem GD {P:Program}(w:World)(d:Nat){t:TypeId}{ps rs:Array TypeId}{vd:Bool}(h:P.underlying t=some (.func ps rs vd))(f:Fn)(a b:Array Value):(Op.equalIn (d+1) t (.func f a b) .nilFunc).run P w= .ok false w:=by
 simp[Op.equalIn,run_underlying h]
theorem DE {P:Program}(w:World)(d:Nat){t:TypeId}{ps rs:Array TypeId}{vd:Bool}(h:P.underlying t=some (.func ps rs vd)):(Op.equalIn (d+1) t .nilFunc .nilFunc).run P w= .ok true w:=by
 simp[Op.equalIn,run_underlying h]
theorem Rq {P:Program}(w:World){t:TypeId}{ps rs:Array TypeId}{vd:Bool}(h:P.underlying t=some (.func ps rs vd))(f:Fn)(a b:Array Value):(binOp .eql t (.func f a b) .nilFunc).run P w= .ok (.bool false) w:=by
 simp only[binOp];simp[Op.equal,Op.maxDepth,GD w 9999 h f a b]
theorem Oa {P:Program}(w:World){t:TypeId}{ps rs:Array TypeId}{vd:Bool}(h:P.underlying t=some (.func ps rs vd)):(binOp .eql t .nilFunc .nilFunc).run P w= .ok (.bool true) w:=by
 simp only[binOp];simp[Op.equal,Op.maxDepth,DE w 9999 h]
def T4 (way:Int):FuncId:=if way=1 then 185 else if way=2 then 186 else if way=3 then 187 else if way=4 then 188 else 189
def iC (way:Int):Bool:=decide (1≤way∧way≤5)
def ac0 (way:Int):Value:=if iC way=true then .func (.func (T4 way)) #[] #[] else .nilFunc
theorem zi {way:Int}(h:iC way=true):way=1∨way=2∨way=3∨way=4∨way=5:=by
 have:=of_decide_eq_true h;omega
theorem enter_of {P:Program}{f:FuncId}{fn:Func}{c:Code}(hf:P.funcs[f]? =some fn)(hname:(fn.name== "runtime.NumGoroutine")=false)(hb:fn.body=some c)(args:Array Value)(w:World):Sem.run P (callFunc f args) w= .ok (.enter f args) w:=by
 have hn: ¬fn.name= "runtime.NumGoroutine" :=by simpa using hname
 simp[callFunc,hf,hn,hb]
theorem PO {way:Int}(h:iC way=true)(args:Array Value)(W:World):Sem.run Tryz.prog (callFunc (T4 way) args) W= .ok (.enter (T4 way) args) W:=by
 rcases zi h with rfl|rfl|rfl|rfl|rfl
 ·exact enter_of func185 (by kernel_rfl) rfl args W
 ·exact enter_of func186 (by kernel_rfl) rfl args W
 ·exact enter_of func187 (by kernel_rfl) rfl args W
 ·exact enter_of func188 (by kernel_rfl) rfl args W
 ·exact enter_of func189 (by kernel_rfl) rfl args W
def eE (xs ys:List Nat)(E R D L G way:Int):Int:=
 if jg (eA xs ys E) (bk R D L G)=0 then(if iC way=true then 0 else 6) else jg (eA xs ys E) (bk R D L G)
theorem C4 {c d:Int}(h:jg c d=0):c=0∧d=0:=by
 unfold jg at h
 split at h
 ·exact⟨by assumption,h⟩
 ·exact absurd h (by assumption)
theorem gO {xs ys:List Nat}{E:Int}(h:eA xs ys E=0):chk xs=0∧chk ys=0∧0<ys.length∧ -20000≤E∧E≤20000:=by
 unfold eA at h
 by_cases h1:chk xs=0
 ·rw[if_pos h1] at h
  by_cases h2:chk ys=0
  ·rw[if_pos h2] at h
   by_cases h3:ys.length=0∨eJ 20000 E=true
   ·rw[if_pos h3] at h
    cases h
   ·have h4: ¬eJ 20000 E=true:=fun c=>h3 (Or.inr c)
    unfold eJ at h4;simp at h4;refine⟨h1,h2, ?_,by omega,by omega⟩;have: ¬ys.length=0:=fun c=>h3 (Or.inl c)
    omega
  ·rw[if_neg h2] at h
   exact absurd h h2
 ·rw[if_neg h1] at h
  exact absurd h h1
def gsI:Nat→Int
 |1=>104|2=>971|3=>16320|4=>57|5=>49|6=>103|7=>71|8=>970|_=>0
def redF:Nat→Nat→Nat×Nat
 |m,0=>(m,0)
 |m,k+1=>if m % 5=0 then redF (m/5) k else(m,k+1)
theorem redF_le: ∀(k m:Nat),(redF m k).1≤m∧(redF m k).2≤k:=by
 intro k
 induction k with
 |zero=>intro m;exact⟨Nat.le_refl _,Nat.le_refl _⟩
 |succ k ih=>
  intro m;unfold redF
  split
  ·have:=ih (m/5)
   have:=Nat.div_le_self m 5;omega
  ·exact⟨Nat.le_refl _,Nat.le_refl _⟩
def pbV (n:Int):Int:=(n*30103).tdiv 100000-1
theorem pb_is (n:Int):(n*30103).tdiv 100000=if 0≤n then n*30103/100000 else-(-n*30103/100000):=by
 by_cases h:0≤n
 ·rw[if_pos h,Int.tdiv_eq_ediv_of_nonneg (by omega)]
 ·rw[if_neg h,show n*30103= -(-n*30103) by omega,Int.neg_tdiv,Int.tdiv_eq_ediv_of_nonneg (by omega)]
def lJ (r:Nat):Nat→Nat→Int→Nat×Int
 |0,d,p=>(d,p)
 |n+1,d,p=>if d % r=0 then lJ r n (d/r) (p+1) else(d,p)
theorem adB {a b:Nat}(h:0<b):0<a|||b:=Nat.lt_of_lt_of_le h Nat.right_le_or
def shF (mk:Nat→Bool):Nat→Nat→Nat
 |0,k=>k
 |f+1,k=>if mk k=true then k else shF mk f (k+1)
def byt (s:ByteArray)(i:Nat):Nat:=(s[i]?.getD 0).toNat
theorem Ay (s:ByteArray)(i:Nat):byt s i<256:=by unfold byt;exact UInt8.toNat_lt _
theorem KD (s:ByteArray)(i:Nat)(h:i<s.size):(s[i]'h).toNat=byt s i:=by
 unfold byt;rw[getElem?_pos s i h];rfl
theorem IX (s:ByteArray)(h:s.size=0):s=⟨#[]⟩:=by
 obtain⟨d⟩:=s;simp only[ByteArray.size] at h;have:=Array.eq_empty_of_size_eq_zero h;rw[this]
theorem Qw (s:ByteArray)(h:s.size≠0):s.toList.isEmpty=false:=by
 rw[Lib.toList_data];rw[List.isEmpty_eq_false_iff];intro e;apply h;have:=congrArg List.length e;rw[Array.length_toList] at this;exact this
def digB (s:ByteArray):Bool:=decide (s.size≠0∧ ∀i,i<s.size→48≤byt s i∧byt s i≤57)
theorem digB_iff (s:ByteArray):digB s=true↔s.size≠0∧ ∀i,i<s.size→48≤byt s i∧byt s i≤57:=by
 unfold digB;rw[decide_eq_true_eq]
def pv (s:ByteArray):Nat→Nat
 |0=>0
 |k+1=>pv s k*10+(byt s k-48)
theorem Tb (s:ByteArray)(hd: ∀i,i<s.size→48≤byt s i∧byt s i≤57): ∀k,k≤s.size→pv s k<10^k:=by
 intro k
 induction k with
 |zero=>intro _;simp[pv]
 |succ k ih=>
  intro h;have:=ih (by omega);have:=hd k (by omega);simp only[pv,Nat.pow_succ];omega
theorem OD (s:ByteArray)(a i:Nat)(h:a+i<s.size):byt (s.extract a s.size) i=byt s (a+i):=by
 unfold byt
 congr 1
 have h1:i< (s.extract a s.size).size:=by simp;omega
 rw[getElem?_pos _ i h1,getElem?_pos s (a+i) h];simp only[Option.getD_some]
 show(s.extract a s.size).data[i]=s.data[a+i]
 simp[ByteArray.data_extract]
def adS (s T:ByteArray)(p:Nat):Prop:=p+T.size=s.size∧ ∀i,i<T.size→byt T i=byt s (p+i)
theorem Wa {s T:ByteArray}{p n:Nat}(h:adS s T p)(hn:n≤T.size):adS s (T.extract n T.size) (p+n):=by
 refine⟨by have:=h.1;simp;omega,fun i hi=> ?_⟩
 have hi2:n+i<T.size:=by simp at hi;omega
 rw[OD T n i hi2,h.2 (n+i) hi2,Nat.add_assoc]
def ack (s:ByteArray)(p i g sc:Nat):Prop:=pv s (p+i)=pv s p*10^i+g∧g<10^i∧sc=10^i
theorem Z5 {s:ByteArray}{p i g sc x:Nat}(h:ack s p i g sc)(hx:byt s (p+i)=x)(h1:48≤x)(h2:x≤57):ack s p (i+1) (g*10+(x-48)) (sc*10):=by
 obtain⟨a,b,c⟩:=h;refine⟨?_, ?_, ?_⟩
 ·show pv s (p+i)*10+(byt s (p+i)-48)=_
  rw[a,hx,Nat.pow_succ,Nat.add_mul,Nat.mul_assoc];omega
 ·rw[Nat.pow_succ];omega
 ·rw[c,Nat.pow_succ]
def onC (dc gc:Int):Int:=if dc=0 then gc else dc
def ix (xs:List Nat)(p R D L G:Int):Int:=
 if chk xs=0 then(if bk R D L G=0 then(if eJ 20000 p=true then 3 else 0) else bk R D L G) else chk xs
theorem A8 {m n:Int}(h:eJ m n=false): -m≤n∧n≤m:=by
 unfold eJ at h;simp at h;omega
theorem kA {xs:List Nat}{p R D L G:Int}(h1:chk xs=0)(h2:bk R D L G=0)(h3:eJ 20000 p=false):ix xs p R D L G=0:=by
 unfold ix;rw[if_pos h1,if_pos h2,if_neg (by rw[h3];decide)]
theorem mg {P:Program}{ops:Array Oper}{o:Oper}{a:Act}{w:World}{K:Act→World→Prop}{Q:Exit→Act→World→Prop}{E:Prop}
  (hg:o.guard=none) (s x:Operand) (t:TypeId) (hop:o.op=Op.call {callee:=Callee.builtin Builtin.append,args:= #[s,x],argTypes:= #[t,t]})
  (v u v':Value) (w':World) (hs:a.eval s=v) (hx:a.eval x=u) (hr:(Builtin.append_ #[t,t] o.type #[v,u]).run P w= .ok v' w') (hK:K (a.put o.dst v') w'):
  if Region.wanted o (yielded ops a.tmps)=true then Oper.wp P o a w K Q else E:=by
 have hw:Region.wanted o (yielded ops a.tmps)=true:=by simp[Region.wanted,hg]
 rw[if_pos hw];unfold Oper.wp;simp[execOp,hop,resolve,invoke,builtin,hs,hx,hr,Result.andThen];exact hK
theorem FZ (r:Nat)(hr:2≤r): ∀(j n q:Nat) (p:Int),q % r≠0→r^j*q<2^n→lJ r n (r^j*q) p=(q,p+(j:Int))
 |0,n,q,p,hq,hn=>by
  rw[Nat.pow_zero,Nat.one_mul] at hn⊢
  cases n with
  |zero=>
   have:q=0:=by simpa using hn
   subst this;simp at hq
  |succ n=>
   rw[lJ,if_neg hq];simp
 |j+1,n,q,p,hq,hn=>by
  have e1:r^ (j+1)*q=r*(r^j*q):=by rw[Nat.pow_succ,Nat.mul_comm (r^j) r,Nat.mul_assoc]
  rw[e1] at hn⊢
  cases n with
  |zero=>
   exfalso
   have h0:r*(r^j*q)=0:=by simpa using hn
   have hq0:q≠0:=fun h=>hq (by rw[h];simp)
   have h1:0<r^j*q:=Nat.mul_pos (Nat.pow_pos (by omega)) (Nat.pos_of_ne_zero hq0);have h2:0<r*(r^j*q):=Nat.mul_pos (by omega) h1;omega
  |succ n=>
   rw[lJ,if_pos (Nat.mul_mod_right _ _),Nat.mul_div_cancel_left _ (by omega)];have hlt:r^j*q<2^n:=by
    have h2:2*(r^j*q)≤r*(r^j*q):=Nat.mul_le_mul_right _ hr;rw[Nat.pow_succ] at hn;omega
   rw[FZ r hr j n q (p+1) hq hlt]
   congr 1
   push_cast
   omega
theorem YZ {f n:Nat}(h:f<2^n):f|||2^n=f+2^n:=by
 rw[Nat.or_comm,nat_join n (2^n) f (Nat.mod_self _) h];omega
theorem adg {f n:Nat}(h1:2^n≤f)(h2:f<2^ (n+1)):f|||2^n=f:=by
 rw[Nat.pow_succ] at h2;have e:f=2^n||| (f-2^n):=by
  rw[nat_join n (2^n) (f-2^n) (Nat.mod_self _) (by omega)];omega
 rw[e,Nat.or_comm,←Nat.or_assoc,Nat.or_self]
theorem GI (r:Nat): ∀(n d:Nat) (p:Int),(lJ r n d p).1≤d
 |0,d,p=>Nat.le_refl _
 |n+1,d,p=>by
  unfold lJ
  split
  ·exact Nat.le_trans (GI r n _ _) (Nat.div_le_self _ _)
  ·exact Nat.le_refl _
theorem NI {M d x y:Nat}(hM:M≠0)(e:x=M*y):M*2^d∣x↔2^d∣y:=by
 subst e
 constructor
 ·rintro⟨k,hk⟩
  refine⟨k,Nat.eq_of_mul_eq_mul_left (by omega:0<M) ?_⟩;rw[hk,Nat.mul_assoc]
 ·rintro⟨k,rfl⟩
  exact⟨k,by rw[Nat.mul_assoc]⟩
theorem wZ {n k:Nat}(h:bitLen n≤k):n<2^k:=Nat.lt_of_lt_of_le (bitLen_spec n).1 (Nat.pow_le_pow_right (by omega) h)
theorem zw {a b x:Nat}(h:x<2^a)(hab:a≤b):x<2^b:=Nat.lt_of_lt_of_le h (Nat.pow_le_pow_right (by omega) hab)
theorem M9 {xs ys:List Nat}{E R D L G way:Int}(h: ¬eA xs ys E=0):eE xs ys E R D L G way=eA xs ys E:=by
 have e:jg (eA xs ys E) (bk R D L G)=eA xs ys E:=if_neg h;unfold eE;rw[e,if_neg h]
theorem Na {xs ys:List Nat}{E R D L G way:Int}(h:eA xs ys E=0)(h2: ¬bk R D L G=0):eE xs ys E R D L G way=bk R D L G:=by
 have e:jg (eA xs ys E) (bk R D L G)=bk R D L G:=if_pos h;unfold eE;rw[e,if_neg h2]
theorem Bq {xs ys:List Nat}{E R D L G way:Int}(h:eA xs ys E=0)(h2:bk R D L G=0):eE xs ys E R D L G way=if iC way=true then 0 else 6:=by
 have e:jg (eA xs ys E) (bk R D L G)=bk R D L G:=if_pos h;unfold eE;rw[e,if_pos h2]
theorem Nb {xs ys:List Nat}{E R D L G way:Int}(h:eE xs ys E R D L G way=0):eA xs ys E=0∧bk R D L G=0∧iC way=true:=by
 by_cases h1:eA xs ys E=0
 ·by_cases h2:bk R D L G=0
  ·refine⟨h1,h2, ?_⟩
   rw[Bq h1 h2] at h
   by_cases h3:iC way=true
   ·exact h3
   ·rw[if_neg h3] at h
    cases h
  ·rw[Na h1 h2] at h
   exact absurd h h2
 ·rw[M9 h1] at h
  exact absurd h h1
theorem mk_size (l:List UInt8):(⟨l.toArray⟩:ByteArray).size=l.length:=List.size_toArray
def undash (s:ByteArray):ByteArray:=⟨(Lib.trimPrefix s.data.toList [45]).toArray⟩
def dash (s:ByteArray):Bool:=Lib.hasPrefix s.data.toList [45]
def rpV (a:ByteArray):Int×Bool:=if(undash a).size≤5∧digB (undash a)=true then(if dash a=true then-((pv (undash a) (undash a).size:Nat):Int) else((pv (undash a) (undash a).size:Nat):Int),true) else(0,false)
def cutS (c:UInt8)(s:ByteArray):ByteArray×ByteArray×Bool:=(⟨(Lib.cut s.data.toList [c]).1.toArray⟩,⟨(Lib.cut s.data.toList [c]).2.1.toArray⟩,(Lib.cut s.data.toList [c]).2.2)
def nmZ:Bool×ByteArray×Int:=(false,⟨#[]⟩,0)
def nmC (t:ByteArray):ByteArray×ByteArray×Bool:=cutS 101 (undash t)
def nmP (t:ByteArray):Int×Bool:=if(nmC t).2.2=true then rpV (nmC t).2.1 else(0,true)
def nmD (t:ByteArray):ByteArray×ByteArray×Bool:=cutS 46 (nmC t).1
def nmQ (t:ByteArray):Int:=(nmP t).1-((nmD t).2.1.size:Int)
def nmV (t:ByteArray):(Bool×ByteArray×Int)×Int:=
 if 400<t.size then(nmZ,2) else
 if(nmP t).2=false∨digB ((nmD t).1++(nmD t).2.1)=false∨((nmD t).2.2=true∧(nmD t).2.1.size=0) then(nmZ,1) else
 if nmQ t< -6000∨6000<nmQ t then(nmZ,3) else((dash t,(nmD t).1++(nmD t).2.1,nmQ t),0)
theorem rpV_in (a:ByteArray): -100000< (rpV a).1∧(rpV a).1<100000:=by
 unfold rpV
 split
 ·rename_i h
  have hp:=Tb (undash a) ((digB_iff _).1 h.2).2 _ (Nat.le_refl _);have hp5:10^ (undash a).size≤10^5:=Nat.pow_le_pow_right (by omega) h.1
  show-100000< (if dash a=true then-((pv (undash a) (undash a).size:Nat):Int) else((pv (undash a) (undash a).size:Nat):Int))∧(if dash a=true then-((pv (undash a) (undash a).size:Nat):Int) else((pv (undash a) (undash a).size:Nat):Int))<_
  generalize pv (undash a) (undash a).size=P at hp⊢
  split<;>omega
 ·exact⟨by decide,by decide⟩
theorem Gq {p:Nat}(hp:p≠0):1≤bitLen p:=by
 have h:=(bitLen_spec p).1
 rcases Nat.eq_zero_or_pos (bitLen p) with h0|h0
 ·rw[h0] at h
  omega
 ·exact h0
theorem pow10_two (a:Nat):10^a≤2^ (4*a):=by
 rw[Nat.pow_mul];exact Nat.pow_le_pow_left (by omega) a
theorem pow5_two (a:Nat):5^a≤2^ (3*a):=by
 rw[Nat.pow_mul];exact Nat.pow_le_pow_left (by omega) a
def nrM (N:Nat)(p:Int):Nat×Nat:=if 0<p then(N*5^p.toNat,1) else((redF N (-p).toNat).1,5^ (redF N (-p).toNat).2)
theorem redF_pos: ∀(k m:Nat),m≠0→(redF m k).1≠0:=by
 intro k
 induction k with
 |zero=>intro m h;exact h
 |succ k ih=>
  intro m h;unfold redF
  split
  ·exact ih _ (by omega)
  ·exact h
theorem nrM_in {N a:Nat}{p:Int}(h0:N≠0)(hN:N<2^a)(p2:p≤6000):(nrM N p).1≠0∧(nrM N p).1<2^ (a+18000):=by
 unfold nrM
 by_cases hp:0<p
 ·rw[if_pos hp]
  refine⟨Nat.mul_ne_zero h0 (Nat.ne_of_gt (Nat.pow_pos (by omega))), ?_⟩;obtain⟨c,hc⟩: ∃c,c=18000:=⟨_,rfl⟩;rw[←hc];have h5:5^p.toNat≤2^c:=Nat.le_trans (pow5_two _) (Nat.pow_le_pow_right (by omega) (by omega));rw[Nat.pow_add];exact Nat.mul_lt_mul_of_lt_of_le hN h5 (Nat.pow_pos (by omega))
 ·rw[if_neg hp]
  exact⟨redF_pos _ _ h0,Nat.lt_of_le_of_lt (redF_le _ _).1 (Nat.lt_of_lt_of_le hN (Nat.pow_le_pow_right (by omega) (by omega)))⟩
def scA (xn:Nat)(e n:Int):Nat:=xn*5^n.toNat*2^ (e+n).toNat
def scB (e n:Int):Nat:=5^ (-n).toNat*2^ (-(e+n)).toNat
theorem sc_in {xn a c:Nat}{e n:Int}(ha:a=64)(hc:c=36964)(hx:xn<2^a)(e2:e≤16500)(n2:n≤5100):scA xn e n<2^c∧xn*5^n.toNat<2^c∧xn*2^ (e+n).toNat<2^c:=by
 obtain⟨u,hu⟩: ∃u,u=15300:=⟨_,rfl⟩;obtain⟨v,hv⟩: ∃v,v=21600:=⟨_,rfl⟩;have h5:5^n.toNat≤2^u:=Nat.le_trans (pow5_two _) (Nat.pow_le_pow_right (by omega) (by omega));have h2:2^ (e+n).toNat≤2^v:=Nat.pow_le_pow_right (by omega) (by omega);have p2:1≤2^ (e+n).toNat:=Nat.pow_pos (by omega);have p5:1≤5^n.toNat:=Nat.pow_pos (by omega);have e0:2^c=2^a*2^u*2^v:=by rw[←Nat.pow_add,←Nat.pow_add];congr 1;omega
 have l1:xn*5^n.toNat<2^a*2^u:=Nat.mul_lt_mul_of_lt_of_le hx h5 (Nat.pow_pos (by omega));have l2:scA xn e n<2^c:=by
  rw[e0];exact Nat.mul_lt_mul_of_lt_of_le l1 h2 (Nat.pow_pos (by omega))
 refine⟨l2,Nat.lt_of_le_of_lt ?_ l2,Nat.lt_of_le_of_lt ?_ l2⟩
 ·exact Nat.le_mul_of_pos_right _ p2
 ·unfold scA
  rw[Nat.mul_assoc,Nat.mul_comm (5^n.toNat),←Nat.mul_assoc];exact Nat.le_mul_of_pos_right _ p5
theorem pb_in {n:Int}(h1: -16501≤n)(h2:n≤16564): -5000≤pbV n∧pbV n≤5000:=by
 unfold pbV;rw[pb_is n]
 split<;>omega
def xHun:Nat:=100000
def xThi:Nat:=30103
theorem two_ten:Nat.ble (2^xHun) (10^xThi)=true:=by kernel_rfl
theorem ten_two:Nat.ble (10^xThi) (2^ (xHun+1))=true:=by kernel_rfl
theorem tenroot_le {a b k:Nat}(hk:k≠0)(h:a^k≤b^k):a≤b:=by
 rcases Nat.lt_or_ge b a with c|c
 ·exact absurd h (Nat.not_le_of_gt (Nat.pow_lt_pow_left c hk))
 ·exact c
theorem low_pow {m q:Nat}(h:m*xThi≤q*xHun):2^m≤10^q:=by
 refine tenroot_le (k:=xHun) (by decide) ?_;have h1:(2^xHun)^m≤(10^xThi)^m:=Nat.pow_le_pow_left (Nat.le_of_ble_eq_true two_ten) m;rw[←Nat.pow_mul,←Nat.pow_mul] at h1;rw[←Nat.pow_mul,←Nat.pow_mul,Nat.mul_comm m];refine Nat.le_trans h1 (Nat.pow_le_pow_right (by omega) ?_);rw[Nat.mul_comm];exact h
theorem high_pow {n q:Nat}(h:(q+1)*xHun≤n*xThi)(hn:n≤xHun):10^q≤2^n:=by
 refine tenroot_le (k:=xHun) (by decide) ?_;have h1:(10^xThi)^n≤(2^ (xHun+1))^n:=Nat.pow_le_pow_left (Nat.le_of_ble_eq_true ten_two) n;rw[←Nat.pow_mul,←Nat.pow_mul,Nat.succ_mul,Nat.pow_add] at h1;have h2:2^n≤10^xHun:=Nat.le_trans (Nat.pow_le_pow_right (by omega) hn) (Nat.pow_le_pow_left (by omega) _);have h3:10^ (q*xHun)*10^xHun≤2^ (n*xHun)*10^xHun:=by
  rw[←Nat.pow_add];refine Nat.le_trans (Nat.pow_le_pow_right (by omega) (show q*xHun+xHun≤xThi*n from ?_)) (Nat.le_trans h1 ?_)
  ·rw[Nat.mul_comm xThi,←Nat.succ_mul]
   exact h
  ·rw[Nat.mul_comm n]
   exact Nat.mul_le_mul_left _ h2
 rw[←Nat.pow_mul,←Nat.pow_mul];exact Nat.le_of_mul_le_mul_right h3 (Nat.pow_pos (by omega))
theorem pb_key {n:Int}(h1: -16501≤n)(h2:n≤16564):10^ (pbV n).toNat*2^ (-n).toNat≤2^n.toNat*10^ (-(pbV n)).toNat:=by
 have e:pbV n=(if 0≤n then n*30103/100000 else-(-n*30103/100000))-1:=by unfold pbV;rw[pb_is n]
 by_cases hn:0≤n
 ·rw[if_pos hn] at e
  rw[show(-n).toNat=0 by omega,Nat.pow_zero,Nat.mul_one]
  by_cases hq:0<pbV n
  ·rw[show(-(pbV n)).toNat=0 by omega,Nat.pow_zero,Nat.mul_one]
   refine high_pow ?_ (by unfold xHun;omega);unfold xHun xThi;omega
  ·rw[show(pbV n).toNat=0 by omega,Nat.pow_zero]
   exact Nat.mul_pos (Nat.pow_pos (by omega)) (Nat.pow_pos (by omega))
 ·rw[if_neg hn] at e
  rw[show(pbV n).toNat=0 by omega,Nat.pow_zero,Nat.one_mul,show n.toNat=0 by omega,Nat.pow_zero,Nat.one_mul]
  refine low_pow ?_;unfold xHun xThi;omega
theorem ten_parts (k:Nat):10^k=2^k*5^k:=by rw[←Nat.mul_pow]
def prU (C k:Nat):Nat:=10^ (C-k)*2
def prQ (H C k:Nat):Nat:=if prU C k<H % prU C k*2∨(H % prU C k*2=prU C k∧H/prU C k % 2=1) then H/prU C k+1 else H/prU C k
theorem prQ_le {H C k:Nat}(hH:H<2*10^C)(hkC:k≤C):prQ H C k≤10^k:=by
 have hf:H/prU C k<10^k:=by
  unfold prU;rw[Nat.div_lt_iff_lt_mul (Nat.mul_pos (Nat.pow_pos (by omega)) (by omega))];have e:10^C=10^k*10^ (C-k):=by rw[←Nat.pow_add];congr 1;omega
  rw[e] at hH;rw[←Nat.mul_assoc,Nat.mul_comm _ 2];exact hH
 unfold prQ
 split<;>omega
end Go.Proofs.YtdhpndnncmagiaaGreatDoor

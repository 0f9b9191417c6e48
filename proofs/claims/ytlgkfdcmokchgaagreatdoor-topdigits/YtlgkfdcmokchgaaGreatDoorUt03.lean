/-
  Texts laid together: Dz, Leaf, Wrong, Begun, Ref2, Read1, Co9, Co7, Co13, Co11, Co20, Co21, Ce1, Gr1, Dy5, Dy6, Dk1, Gr6, Gr7, Ce10, Tx3, Co17, Tx7, Tx10, Tx1, Read3, Cr3, Gh4, Ce4, Ce9, Eb1, Cr11, Gg1, Rk2, Pa3, Ra4, Tx5, Inv, Bm4, Tx6, Tx12, Tx13, Tx14, Ty4, Ty5, Tx17, Ty6, Tx20, Tx21, Tx26, Ty10, Laws6, Tx27, Eh5, Ty12, Ty13, Cv8, Cv10.
-/
import Derived.WalkKit
import Derived.WalkSpells
import Derived.Deep.QuietTactic
import Derived.BigQuiet
import Derived.Lib.TrailingZeros
import Derived.Test.YtlgkfdcmokchgaaGreatDoorChecked
import Derived.Handy
import Derived.Laws.CopyOwn
import Derived.BigRegion
import Derived.Deep.LoopGhost
import Derived.Deep.RegionLaw
import Derived.WalkSmall
import Derived.Lib.Strings
import Derived.OpenShut
import Derived.Laws.MathBits
import Derived.Lib.BitFns
import Derived.Lib.Walk
import Derived.Lib.Small
import Derived.Shelf.Spec.TrailingZeros
import Derived.Deep.RegionHeld3
import Derived.Deep.MidRow
import Derived.Deep.Cut
import Derived.Laws.IdiomStrings
import Derived.Laws.ResultCell
import Derived.ChangeMaps4
import Derived.Deep.DeepCutAuto
import Derived.Deep.AppendLies
import Derived.Shelf.Lay
import Derived.Shelf.Strings.Cut
import Derived.Shelf.Small.Wraps
import Derived.Shelf.Strconv.Atoi
import Derived.Shelf.Strconv.Itoa3
import Derived.Lib.AppendIntMem
import Derived.Lib.SmallJoins
import Derived.Test.YtlgkfdcmokchgaaGreatDoorRows
import Derived.Deep.RegionWith
import Derived.Laws.OwnMore
import Derived.Deep.CutBlock
import Derived.Maps.AppendAt
import Derived.OrdersHeld
import Derived.Lib.ItoaLen
namespace Go.Proofs.YtlgkfdcmokchgaaGreatDoor
open _root_.Go.Proofs.Tryz
open Go.RowKit
theorem lI {n t m:Nat}(h:n=2^t*(2*m+1)):n/2^t=2*m+1:=by
 rw[h,Nat.mul_div_cancel_left _ (Nat.pow_pos (by omega))]
def chk (zs:List Nat):Int:=if 0<zs.length∧zs.getD (zs.length-1) 0=0 then 1 else if 1200<zs.length then 2 else 0
theorem Oq {zs:List Nat}(h:0<zs.length)(hz:zs.getD (zs.length-1) 0=0):chk zs=1:=by unfold chk;rw[if_pos ⟨h,hz⟩]
theorem Ot {zs:List Nat}(hz:zs.getD (zs.length-1) 0≠0)(h:1200<zs.length):chk zs=2:=by unfold chk;rw[if_neg (fun c=>hz c.2),if_pos h]
theorem ZT {zs:List Nat}(hz:zs.getD (zs.length-1) 0≠0)(h: ¬1200<zs.length):chk zs=0:=by unfold chk;rw[if_neg (fun c=>hz c.2),if_neg h]
def gB (xs ys:List Nat):Int:=if chk xs=0 then chk ys else chk xs
theorem fX {xs ys:List Nat}(h:gB xs ys=0):chk xs=0∧chk ys=0:=by
 unfold gB at h
 by_cases h1:chk xs=0
 ·rw[if_pos h1] at h;exact⟨h1,h⟩
 ·rw[if_neg h1] at h;exact absurd h h1
theorem JJ (k:Nat):(65536:Nat)^ (2*k)=4294967296^k:=by rw[Nat.pow_mul]
def byt (s:ByteArray)(i:Nat):Nat:=(s[i]?.getD 0).toNat
theorem Ay (s:ByteArray)(i:Nat):byt s i<256:=by unfold byt;exact UInt8.toNat_lt _
theorem KD (s:ByteArray)(i:Nat)(h:i<s.size):(s[i]'h).toNat=byt s i:=by
 unfold byt;rw[getElem?_pos s i h];rfl
def Pr (s:ByteArray):Prop:=s.size≠0∧(byt s 0=48→s.size=1)∧ ∀i,i<s.size→48≤byt s i∧byt s i≤57
theorem IX (s:ByteArray)(h:s.size=0):s=⟨#[]⟩:=by
 obtain⟨d⟩:=s;simp only[ByteArray.size] at h;have:=Array.eq_empty_of_size_eq_zero h;rw[this]
theorem Qw (s:ByteArray)(h:s.size≠0):s.toList.isEmpty=false:=by
 rw[Lib.toList_data];rw[List.isEmpty_eq_false_iff];intro e;apply h;have:=congrArg List.length e;rw[Array.length_toList] at this;exact this
theorem Yk (s:ByteArray)(h0:byt s 0=48)(h1:s.size=1):(s.toList==[48])=true:=by
 rw[Lib.toList_data,beq_iff_eq];apply List.ext_getElem
 ·rw[Array.length_toList];exact h1
 ·intro i a b
  have hi:i=0:=by simpa using b
  subst hi;have:=KD s 0 (by omega);rw[h0] at this;have e:s.data.toList[0]=s[0]'(by omega):=rfl;rw[e];exact UInt8.toNat_inj.1 this
theorem UJ (s:ByteArray)(h1:s.size≠1):(s.toList==[48])=false:=by
 rw[Lib.toList_data,beq_eq_false_iff_ne];intro e;apply h1;have:=congrArg List.length e;rw[Array.length_toList] at this;exact this
def aeO (s:ByteArray)(w:World)(e:Ending)(w':World):Prop:= ∃b:Bool,e= .returned (.bool b)∧(b=true↔Pr s)∧w'=w
def wrN (k:Nat):Nat:=if k=3 then 2^63 else if k=4 then 2^5 else if k=5 then 2^13 else 0
theorem bO {k:Nat}(h:1≤k∧k≤8):k=1∨k=2∨k=3∨k=4∨k=5∨k=6∨k=7∨k=8:=by omega
def WI (zs cur:List Nat)(i:Nat):Prop:=
 cur.length=zs.length∧ ∀k,k<zs.length→cur.getD k 0=if k<2*i then zs.getD (k+1-2*(k % 2)) 0 else zs.getD k 0
def C9 (k:Nat):Nat:=if k=3 then 155 else if 6≤k then 156 else 154
theorem Cx {P:Program}{f:FuncId}{fn:Func}{c:Code}(hf:P.funcs[f]? =some fn)(hname:(fn.name== "runtime.NumGoroutine")=false)(hb:fn.body=some c)(args:Array Value)(w:World):Sem.run P (callFunc f args) w= .ok (.enter f args) w:=by
 have hn: ¬fn.name= "runtime.NumGoroutine" :=by simpa using hname
 simp[callFunc,hf,hn,hb]
theorem Db (k:Nat)(args:Array Value)(W:World):Sem.run Tryz.prog (callFunc (C9 k) args) W= .ok (.enter (C9 k) args) W:=by
 unfold C9
 split
 ·exact Cx func155 (by kernel_rfl) rfl args W
 ·split
  ·exact Cx func156 (by kernel_rfl) rfl args W
  ·exact Cx func154 (by kernel_rfl) rfl args W
theorem NR (f:Nat)(h:f<18446744073709551616):bits .and .u64 f 0=0:=by
 have e1:=u64_and_nat f 0 h (by omega);rw[Nat.and_zero] at e1;exact e1
def iR (k c:Nat):Bool:=c==1||(c==3||c==4)&&decide (k≤3)||c==5&&decide (6≤k)
def pI (k c:Nat):Bool:=c==5&&decide (6≤k)
def Bk (k c:Nat):Bool:=c==3||c==1&&decide (k≤5)
def qX (k c dn:Nat)(ng:Bool)(p:Int):Int:=if iR k c=false then 5 else if 0<dn∨p≠0∨ng=true∧Bk k c=false then 4 else 0
theorem TZ (x a:Nat)(hx:x<4294967296)(ha:a<4294967296):bits .or .u64 ((x:Int)*4294967296) a=((a+4294967296*x:Nat):Int):=by
 rw[show x*4294967296=((4294967296*x:Nat):Int) from by omega]
 rw[u64_or_nat _ _ (by omega) (by omega),nat_join 32 _ _ (by omega) (by omega)]
 congr 1
 omega
def jg (c d:Int):Int:=if c=0 then d else c
def nL (cx cy:Int)(ly:Nat)(fe:Bool)(gc:Int):Int:=if cx=0 then(if cy=0 then(if ly=0∨fe=true then 3 else gc) else cy) else cx
def aS (xs:List Nat)(e:Int):Int:=if chk xs=0 then(if e< -20000∨20000<e then 3 else 0) else chk xs
theorem bL {xs:List Nat}{e:Int}(h:aS xs e=0):chk xs=0∧ -20000≤e∧e≤20000:=by
 unfold aS at h
 by_cases h1:chk xs=0
 ·rw[if_pos h1] at h
  by_cases h2:e< -20000∨20000<e
  ·rw[if_pos h2] at h;omega
  ·exact⟨h1,by omega,by omega⟩
 ·rw[if_neg h1] at h;exact absurd h h1
theorem Ad (q k:Nat)(h:q≠0):bitLen (2^k*q)=k+bitLen q:=by
 have hd:2^k*q/2^k=q:=Nat.mul_div_cancel_left q (Nat.pow_pos (by omega));have:=bitLen_shift (2^k*q) k (by rw[hd];exact h)
 rwa [hd] at this
theorem GD {P:Program}(w:World)(d:Nat){t:TypeId}{ps rs:Array TypeId}{vd:Bool}(h:P.underlying t=some (.func ps rs vd))(f:Fn)(a b:Array Value):(Op.equalIn (d+1) t (.func f a b) .nilFunc).run P w= .ok false w:=by
 simp[Op.equalIn,run_underlying h]
theorem DE {P:Program}(w:World)(d:Nat){t:TypeId}{ps rs:Array TypeId}{vd:Bool}(h:P.underlying t=some (.func ps rs vd)):(Op.equalIn (d+1) t .nilFunc .nilFunc).run P w= .ok true w:=by
 simp[Op.equalIn,run_underlying h]
theorem Rq {P:Program}(w:World){t:TypeId}{ps rs:Array TypeId}{vd:Bool}(h:P.underlying t=some (.func ps rs vd))(f:Fn)(a b:Array Value):(binOp .eql t (.func f a b) .nilFunc).run P w= .ok (.bool false) w:=by
 simp only[binOp];simp[Op.equal,Op.maxDepth,GD w 9999 h f a b]
theorem Oa {P:Program}(w:World){t:TypeId}{ps rs:Array TypeId}{vd:Bool}(h:P.underlying t=some (.func ps rs vd)):(binOp .eql t .nilFunc .nilFunc).run P w= .ok (.bool true) w:=by
 simp only[binOp];simp[Op.equal,Op.maxDepth,DE w 9999 h]
def T4 (way:Int):FuncId:=if way=1 then 111 else if way=2 then 112 else if way=3 then 113 else if way=4 then 114 else 115
def iC (way:Int):Bool:=decide (1≤way∧way≤5)
def ac0 (way:Int):Value:=if iC way=true then .func (.func (T4 way)) #[] #[] else .nilFunc
theorem zi {way:Int}(h:iC way=true):way=1∨way=2∨way=3∨way=4∨way=5:=by
 have:=of_decide_eq_true h;omega
theorem enter_of {P:Program}{f:FuncId}{fn:Func}{c:Code}(hf:P.funcs[f]? =some fn)(hname:(fn.name== "runtime.NumGoroutine")=false)(hb:fn.body=some c)(args:Array Value)(w:World):Sem.run P (callFunc f args) w= .ok (.enter f args) w:=by
 have hn: ¬fn.name= "runtime.NumGoroutine" :=by simpa using hname
 simp[callFunc,hf,hn,hb]
theorem PO {way:Int}(h:iC way=true)(args:Array Value)(W:World):Sem.run Tryz.prog (callFunc (T4 way) args) W= .ok (.enter (T4 way) args) W:=by
 rcases zi h with rfl|rfl|rfl|rfl|rfl
 ·exact enter_of func111 (by kernel_rfl) rfl args W
 ·exact enter_of func112 (by kernel_rfl) rfl args W
 ·exact enter_of func113 (by kernel_rfl) rfl args W
 ·exact enter_of func114 (by kernel_rfl) rfl args W
 ·exact enter_of func115 (by kernel_rfl) rfl args W
theorem C4 {c d:Int}(h:jg c d=0):c=0∧d=0:=by
 unfold jg at h
 split at h
 ·exact⟨by assumption,h⟩
 ·exact absurd h (by assumption)
def gsI:Nat→Int
 |1=>104|2=>971|3=>16320|4=>57|5=>49|6=>103|7=>71|8=>970|_=>0
def redF:Nat→Nat→Nat×Nat
 |m,0=>(m,0)
 |m,k+1=>if m % 5=0 then redF (m/5) k else(m,k+1)
theorem redF_le: ∀(k m:Nat),(redF m k).1≤m∧(redF m k).2≤k:=by
 intro k
 induction k with
 |zero=>intro m;exact⟨Nat.le_refl _,Nat.le_refl _⟩
 |succ k ih=>
  intro m;unfold redF
  split
  ·have:=ih (m/5)
   have:=Nat.div_le_self m 5;omega
  ·exact⟨Nat.le_refl _,Nat.le_refl _⟩
theorem adB {a b:Nat}(h:0<b):0<a|||b:=Nat.lt_of_lt_of_le h Nat.right_le_or
def pbV (n:Int):Int:=(n*30103).tdiv 100000-1
theorem pb_is (n:Int):(n*30103).tdiv 100000=if 0≤n then n*30103/100000 else-(-n*30103/100000):=by
 by_cases h:0≤n
 ·rw[if_pos h,Int.tdiv_eq_ediv_of_nonneg (by omega)]
 ·rw[if_neg h,show n*30103= -(-n*30103) by omega,Int.neg_tdiv,Int.tdiv_eq_ediv_of_nonneg (by omega)]
def shF (mk:Nat→Bool):Nat→Nat→Nat
 |0,k=>k
 |f+1,k=>if mk k=true then k else shF mk f (k+1)
def digB (s:ByteArray):Bool:=decide (s.size≠0∧ ∀i,i<s.size→48≤byt s i∧byt s i≤57)
theorem digB_iff (s:ByteArray):digB s=true↔s.size≠0∧ ∀i,i<s.size→48≤byt s i∧byt s i≤57:=by
 unfold digB;rw[decide_eq_true_eq]
def pv (s:ByteArray):Nat→Nat
 |0=>0
 |k+1=>pv s k*10+(byt s k-48)
theorem Tb (s:ByteArray)(hd: ∀i,i<s.size→48≤byt s i∧byt s i≤57): ∀k,k≤s.size→pv s k<10^k:=by
 intro k
 induction k with
 |zero=>intro _;simp[pv]
 |succ k ih=>
  intro h;have:=ih (by omega);have:=hd k (by omega);simp only[pv,Nat.pow_succ];omega
theorem OD (s:ByteArray)(a i:Nat)(h:a+i<s.size):byt (s.extract a s.size) i=byt s (a+i):=by
 unfold byt
 congr 1
 have h1:i< (s.extract a s.size).size:=by simp;omega
 rw[getElem?_pos _ i h1,getElem?_pos s (a+i) h];simp only[Option.getD_some]
 show(s.extract a s.size).data[i]=s.data[a+i]
 simp[ByteArray.data_extract]
def adS (s T:ByteArray)(p:Nat):Prop:=p+T.size=s.size∧ ∀i,i<T.size→byt T i=byt s (p+i)
theorem Wa {s T:ByteArray}{p n:Nat}(h:adS s T p)(hn:n≤T.size):adS s (T.extract n T.size) (p+n):=by
 refine⟨by have:=h.1;simp;omega,fun i hi=> ?_⟩
 have hi2:n+i<T.size:=by simp at hi;omega
 rw[OD T n i hi2,h.2 (n+i) hi2,Nat.add_assoc]
def ack (s:ByteArray)(p i g sc:Nat):Prop:=pv s (p+i)=pv s p*10^i+g∧g<10^i∧sc=10^i
theorem Z5 {s:ByteArray}{p i g sc x:Nat}(h:ack s p i g sc)(hx:byt s (p+i)=x)(h1:48≤x)(h2:x≤57):ack s p (i+1) (g*10+(x-48)) (sc*10):=by
 obtain⟨a,b,c⟩:=h;refine⟨?_, ?_, ?_⟩
 ·show pv s (p+i)*10+(byt s (p+i)-48)=_
  rw[a,hx,Nat.pow_succ,Nat.add_mul,Nat.mul_assoc];omega
 ·rw[Nat.pow_succ];omega
 ·rw[c,Nat.pow_succ]
def jY (bf:Nat→Bool):Nat→Nat
 |0=>0
 |n+1=>jY bf n*2+if bf n then 1 else 0
theorem DZ (bf:Nat→Bool): ∀n,jY bf n<2^n
 |0=>by simp[jY]
 |n+1=>by
  have:=DZ bf n;rw[jY,Nat.pow_succ]
  split<;>omega
def onC (dc gc:Int):Int:=if dc=0 then gc else dc
theorem Lp (y b t u:Nat)(hb:b<2):(y|||b*2^t).testBit u=(y.testBit u||(decide (b=1)&&decide (t=u))):=by
 rw[Nat.testBit_or]
 rcases(show b=0∨b=1 by omega) with rfl|rfl
 ·simp
 ·rw[Nat.one_mul,Nat.testBit_two_pow]
  simp
theorem Tk (y:Nat)(h:y<256):jY (fun j=>decide (y/2^ (7-j) % 2=1)) 8=y:=by
 have e: ∀n,(if decide (n % 2=1)=true then 1 else 0)=n % 2:=fun n=>by
  rcases(show n % 2=0∨n % 2=1 by omega) with h|h<;>rw[h]<;>rfl
 simp only[jY,e];omega
theorem nz {f g:Nat→Bool}: ∀n,(∀j,j<n→f j=g j)→jY f n=jY g n
 |0,_=>rfl
 |n+1,h=>by
  rw[jY,jY,nz n (fun j hj=>h j (by omega)),h n (by omega)]
def Eb (ex fr:Nat)(ng:Bool)(e f:Nat)(i:Nat):Bool:=
 if i=0 then ng else if i≤ex then decide (e/2^ (ex-i) % 2=1) else decide (f/2^ (ex+fr-i) % 2=1)
theorem MF (bf:Nat→Bool): ∀n r,r<n→jY bf n/2^ (n-1-r) % 2=if bf r then 1 else 0
 |0,_,h=>absurd h (Nat.not_lt_zero _)
 |n+1,r,h=>by
  rw[jY]
  by_cases e:r=n
  ·subst e
   rw[show r+1-1-r=0 from by omega,Nat.pow_zero,Nat.div_one]
   split<;>omega
  ·have ih:=MF bf n r (by omega)
   rw[show n+1-1-r=(n-1-r)+1 from by omega,Nat.pow_succ,Nat.mul_comm (2^ (n-1-r)) 2,←Nat.div_div_eq_div_mul]
   rw[show(jY bf n*2+if bf n=true then 1 else 0)/2=jY bf n from by split<;>omega]
   exact ih
theorem Fu: ∀(n e:Nat),jY (fun j=>decide (e/2^ (n-1-j) % 2=1)) n=e % 2^n
 |0,e=>by simp[jY,Nat.mod_one]
 |n+1,e=>by
  rw[jY,nz (g:=fun j=>decide (e/2/2^ (n-1-j) % 2=1)) n (fun j hj=>by
   rw[Nat.div_div_eq_div_mul,←Nat.pow_succ',show(n-1-j).succ=n+1-1-j from by omega]),Fu n (e/2),show n+1-1-n=0 from by omega,Nat.pow_zero,Nat.div_one,Nat.pow_succ]
  have h1:e % (2^n*2)=e/2 % 2^n*2+e % 2:=by
   rw[Nat.mul_comm (2^n) 2,Nat.mod_mul];omega
  rw[h1]
  rcases(show e % 2=0∨e % 2=1 by omega) with h|h<;>rw[h]<;>rfl
theorem LT {d n:Nat}(h1:2^n≤d)(h2:d<2^ (n+1)):d % 2^n=d-2^n:=by
 rw[Nat.pow_succ] at h2;rw[Nat.mod_eq_sub_mod h1,Nat.mod_eq_of_lt (by omega)]
theorem YZ {f n:Nat}(h:f<2^n):f|||2^n=f+2^n:=by
 rw[Nat.or_comm,nat_join n (2^n) f (Nat.mod_self _) h];omega
theorem adg {f n:Nat}(h1:2^n≤f)(h2:f<2^ (n+1)):f|||2^n=f:=by
 rw[Nat.pow_succ] at h2;have e:f=2^n||| (f-2^n):=by
  rw[nat_join n (2^n) (f-2^n) (Nat.mod_self _) (by omega)];omega
 rw[e,Nat.or_comm,←Nat.or_assoc,Nat.or_self]
def LeQ (K:Nat)(N1 M1:Nat)(E1:Int)(N2 M2:Nat)(E2:Int):Prop:=N1*M2*2^ (E1+K).toNat≤N2*M1*2^ (E2+K).toNat
theorem CL (a b:Nat):(2:Nat)^ (a+b)=2^a*2^b:=Nat.pow_add ..
theorem wZ {n k:Nat}(h:bitLen n≤k):n<2^k:=Nat.lt_of_lt_of_le (bitLen_spec n).1 (Nat.pow_le_pow_right (by omega) h)
theorem ne3 {c:Int}(h:c≠3):(c==3)=false:=by simpa using h
theorem ne1 {c:Int}(h:c≠1):(c==1)=false:=by simpa using h
theorem way_is {way:Int}:iC way=true↔1≤way∧way≤5:=by
 unfold iC;simp
theorem mk_size (l:List UInt8):(⟨l.toArray⟩:ByteArray).size=l.length:=List.size_toArray
def undash (s:ByteArray):ByteArray:=⟨(Lib.trimPrefix s.data.toList [45]).toArray⟩
def dash (s:ByteArray):Bool:=Lib.hasPrefix s.data.toList [45]
def rpV (a:ByteArray):Int×Bool:=if(undash a).size≤5∧digB (undash a)=true then(if dash a=true then-((pv (undash a) (undash a).size:Nat):Int) else((pv (undash a) (undash a).size:Nat):Int),true) else(0,false)
def cutS (c:UInt8)(s:ByteArray):ByteArray×ByteArray×Bool:=(⟨(Lib.cut s.data.toList [c]).1.toArray⟩,⟨(Lib.cut s.data.toList [c]).2.1.toArray⟩,(Lib.cut s.data.toList [c]).2.2)
def nmZ:Bool×ByteArray×Int:=(false,⟨#[]⟩,0)
def nmC (t:ByteArray):ByteArray×ByteArray×Bool:=cutS 101 (undash t)
def nmP (t:ByteArray):Int×Bool:=if(nmC t).2.2=true then rpV (nmC t).2.1 else(0,true)
def nmD (t:ByteArray):ByteArray×ByteArray×Bool:=cutS 46 (nmC t).1
def nmQ (t:ByteArray):Int:=(nmP t).1-((nmD t).2.1.size:Int)
def nmV (t:ByteArray):(Bool×ByteArray×Int)×Int:=
 if 400<t.size then(nmZ,2) else
 if(nmP t).2=false∨digB ((nmD t).1++(nmD t).2.1)=false∨((nmD t).2.2=true∧(nmD t).2.1.size=0) then(nmZ,1) else
 if nmQ t< -6000∨6000<nmQ t then(nmZ,3) else((dash t,(nmD t).1++(nmD t).2.1,nmQ t),0)
theorem rpV_in (a:ByteArray): -100000< (rpV a).1∧(rpV a).1<100000:=by
 unfold rpV
 split
 ·rename_i h
  have hp:=Tb (undash a) ((digB_iff _).1 h.2).2 _ (Nat.le_refl _);have hp5:10^ (undash a).size≤10^5:=Nat.pow_le_pow_right (by omega) h.1
  show-100000< (if dash a=true then-((pv (undash a) (undash a).size:Nat):Int) else((pv (undash a) (undash a).size:Nat):Int))∧(if dash a=true then-((pv (undash a) (undash a).size:Nat):Int) else((pv (undash a) (undash a).size:Nat):Int))<_
  generalize pv (undash a) (undash a).size=P at hp⊢
  split<;>omega
 ·exact⟨by decide,by decide⟩
def left (listed:Array Bool):Nat:=(listed.toList.filter (fun b=> !b)).length
theorem Gq {p:Nat}(hp:p≠0):1≤bitLen p:=by
 have h:=(bitLen_spec p).1
 rcases Nat.eq_zero_or_pos (bitLen p) with h0|h0
 ·rw[h0] at h
  omega
 ·exact h0
theorem pow10_two (a:Nat):10^a≤2^ (4*a):=by
 rw[Nat.pow_mul];exact Nat.pow_le_pow_left (by omega) a
def nrM (N:Nat)(p:Int):Nat×Nat:=if 0<p then(N*5^p.toNat,1) else((redF N (-p).toNat).1,5^ (redF N (-p).toNat).2)
theorem redF_pos: ∀(k m:Nat),m≠0→(redF m k).1≠0:=by
 intro k
 induction k with
 |zero=>intro m h;exact h
 |succ k ih=>
  intro m h;unfold redF
  split
  ·exact ih _ (by omega)
  ·exact h
def raE (t:ByteArray):Int:=(nmV t).2
theorem pb_in {n:Int}(h1: -16501≤n)(h2:n≤16564): -5000≤pbV n∧pbV n≤5000:=by
 unfold pbV;rw[pb_is n]
 split<;>omega
def xHun:Nat:=100000
def xThi:Nat:=30103
theorem two_ten:Nat.ble (2^xHun) (10^xThi)=true:=by kernel_rfl
theorem ten_two:Nat.ble (10^xThi) (2^ (xHun+1))=true:=by kernel_rfl
theorem tenroot_le {a b k:Nat}(hk:k≠0)(h:a^k≤b^k):a≤b:=by
 rcases Nat.lt_or_ge b a with c|c
 ·exact absurd h (Nat.not_le_of_gt (Nat.pow_lt_pow_left c hk))
 ·exact c
theorem low_pow {m q:Nat}(h:m*xThi≤q*xHun):2^m≤10^q:=by
 refine tenroot_le (k:=xHun) (by decide) ?_;have h1:(2^xHun)^m≤(10^xThi)^m:=Nat.pow_le_pow_left (Nat.le_of_ble_eq_true two_ten) m;rw[←Nat.pow_mul,←Nat.pow_mul] at h1;rw[←Nat.pow_mul,←Nat.pow_mul,Nat.mul_comm m];refine Nat.le_trans h1 (Nat.pow_le_pow_right (by omega) ?_);rw[Nat.mul_comm];exact h
theorem high_pow {n q:Nat}(h:(q+1)*xHun≤n*xThi)(hn:n≤xHun):10^q≤2^n:=by
 refine tenroot_le (k:=xHun) (by decide) ?_;have h1:(10^xThi)^n≤(2^ (xHun+1))^n:=Nat.pow_le_pow_left (Nat.le_of_ble_eq_true ten_two) n;rw[←Nat.pow_mul,←Nat.pow_mul,Nat.succ_mul,Nat.pow_add] at h1;have h2:2^n≤10^xHun:=Nat.le_trans (Nat.pow_le_pow_right (by omega) hn) (Nat.pow_le_pow_left (by omega) _);have h3:10^ (q*xHun)*10^xHun≤2^ (n*xHun)*10^xHun:=by
  rw[←Nat.pow_add];refine Nat.le_trans (Nat.pow_le_pow_right (by omega) (show q*xHun+xHun≤xThi*n from ?_)) (Nat.le_trans h1 ?_)
  ·rw[Nat.mul_comm xThi,←Nat.succ_mul]
   exact h
  ·rw[Nat.mul_comm n]
   exact Nat.mul_le_mul_left _ h2
 rw[←Nat.pow_mul,←Nat.pow_mul];exact Nat.le_of_mul_le_mul_right h3 (Nat.pow_pos (by omega))
theorem pb_key {n:Int}(h1: -16501≤n)(h2:n≤16564):10^ (pbV n).toNat*2^ (-n).toNat≤2^n.toNat*10^ (-(pbV n)).toNat:=by
 have e:pbV n=(if 0≤n then n*30103/100000 else-(-n*30103/100000))-1:=by unfold pbV;rw[pb_is n]
 by_cases hn:0≤n
 ·rw[if_pos hn] at e
  rw[show(-n).toNat=0 by omega,Nat.pow_zero,Nat.mul_one]
  by_cases hq:0<pbV n
  ·rw[show(-(pbV n)).toNat=0 by omega,Nat.pow_zero,Nat.mul_one]
   refine high_pow ?_ (by unfold xHun;omega);unfold xHun xThi;omega
  ·rw[show(pbV n).toNat=0 by omega,Nat.pow_zero]
   exact Nat.mul_pos (Nat.pow_pos (by omega)) (Nat.pow_pos (by omega))
 ·rw[if_neg hn] at e
  rw[show(pbV n).toNat=0 by omega,Nat.pow_zero,Nat.one_mul,show n.toNat=0 by omega,Nat.pow_zero,Nat.one_mul]
  refine low_pow ?_;unfold xHun xThi;omega
theorem ten_parts (k:Nat):10^k=2^k*5^k:=by rw[←Nat.mul_pow]
def prU (C k:Nat):Nat:=10^ (C-k)*2
def prQ (H C k:Nat):Nat:=if prU C k<H % prU C k*2∨(H % prU C k*2=prU C k∧H/prU C k % 2=1) then H/prU C k+1 else H/prU C k
theorem prQ_le {H C k:Nat}(hH:H<2*10^C)(hkC:k≤C):prQ H C k≤10^k:=by
 have hf:H/prU C k<10^k:=by
  unfold prU;rw[Nat.div_lt_iff_lt_mul (Nat.mul_pos (Nat.pow_pos (by omega)) (by omega))];have e:10^C=10^k*10^ (C-k):=by rw[←Nat.pow_add];congr 1;omega
  rw[e] at hH;rw[←Nat.mul_assoc,Nat.mul_comm _ 2];exact hH
 unfold prQ
 split<;>omega
theorem dg_ratio {N D a b C k:Nat}{n P:Int}(hc:a*D*10^ (-n).toNat=N*b*10^n.toNat)(hP:P=(C:Int)-n-1)(hk:k≤C):
  (N*10^ ((k:Int)-1-P).toNat)*(b*10^ (C-k))=a*(D*10^ (-((k:Int)-1-P)).toNat):=by
 have hT: ∀k,0<10^k:=fun k=>Nat.pow_pos (by omega)
 obtain⟨np,h1⟩: ∃k,n.toNat=k:=⟨_,rfl⟩;obtain⟨nm,h2⟩: ∃k,(-n).toNat=k:=⟨_,rfl⟩;obtain⟨up,h3⟩: ∃j,((k:Int)-1-P).toNat=j:=⟨_,rfl⟩;obtain⟨um,h4⟩: ∃j,(-((k:Int)-1-P)).toNat=j:=⟨_,rfl⟩;rw[h1,h2] at hc;rw[h3,h4];have a1:up+(C-k)+nm=um+np:=by omega
 clear h1 h2 h3 h4;refine Nat.eq_of_mul_eq_mul_right (hT (np+nm)) ?_;rw[Nat.pow_add];have e1:N*10^up*(b*10^ (C-k))*(10^np*10^nm)=N*b*10^np*10^ (up+(C-k)+nm):=by
  rw[Nat.pow_add,Nat.pow_add];ac_rfl
 rw[e1,←hc,a1,Nat.pow_add]
 ac_rfl
theorem pow2_ten {k q:Nat}(h:k≤13*q):2^k≤10^ (4*q):=by
 refine Nat.le_trans (Nat.pow_le_pow_right (by omega) h) ?_;rw[Nat.pow_mul,Nat.pow_mul];exact Nat.pow_le_pow_left (by decide) q
def nuP (S:ByteArray):ByteArray:=if 1<S.size then S.extract 0 1++(⟨#[46]⟩++S.extract 1 S.size) else S.extract 0 1
def nuG (g:Bool)(S:ByteArray):ByteArray:=if g=true then(⟨#[45]⟩:ByteArray)++nuP S else nuP S
def nuS (g:Bool)(S ia:ByteArray):ByteArray:=nuG g S++⟨#[101]⟩++ia
def tenS:ByteArray:=⟨#[63,185,153,153,153,153,153,154]⟩
theorem prQ_ge {H C k:Nat}(hH:2*10^ (C-1)≤H)(hk1:1≤k)(hkC:k≤C):10^ (k-1)≤prQ H C k:=by
 have hf:10^ (k-1)≤H/prU C k:=by
  unfold prU;rw[Nat.le_div_iff_mul_le (Nat.mul_pos (Nat.pow_pos (by omega)) (by omega))];refine Nat.le_trans (Nat.le_of_eq ?_) hH;rw[←Nat.mul_assoc,←Nat.pow_add,Nat.mul_comm]
  congr 2
  omega
 unfold prQ
 split<;>omega
def cutc (c:UInt8):List UInt8→List UInt8×List UInt8×Bool
 | []=>([],[],false)
 |b::r=>if b=c then([],r,true) else(b::(cutc c r).1,(cutc c r).2.1,(cutc c r).2.2)
def isDg (b:UInt8):Bool:=decide (48≤b.toNat∧b.toNat≤57)
def lvD (l:List UInt8):Nat:=l.foldl (fun a b=>a*10+(b.toNat-48)) 0
theorem lvD_snoc (l:List UInt8)(b:UInt8):lvD (l++[b])=lvD l*10+(b.toNat-48):=by
 unfold lvD;rw[List.foldl_append];rfl
theorem cutc_app (c:UInt8): ∀x r,c∉x→cutc c (x++c::r)=(x,r,true):=by
 intro x
 induction x with
 |nil=>intro r _;exact if_pos rfl
 |cons b x ih=>
  intro r h;have:=ih r (fun e=>h (List.mem_cons_of_mem _ e))
  rw[List.cons_append];unfold cutc;rw[if_neg (fun e=>h (by rw[e];exact List.mem_cons_self ..)),this]
theorem cutc_none (c:UInt8): ∀x,c∉x→cutc c x=(x,[],false):=by
 intro x
 induction x with
 |nil=>intro _;rfl
 |cons b x ih=>
  intro h
  show(if b=c then _ else _)=_
  rw[if_neg (fun e=>h (by rw[e];exact List.mem_cons_self ..)),ih (fun e=>h (List.mem_cons_of_mem _ e))]
def rpL (y:List UInt8):Option Int:=
 let m:=decide (y.head? =some 45)
 let x:=if m=true then y.tail else y
 if x.length≤5∧x≠[]∧(∀b∈x,isDg b=true) then some (if m=true then-(lvD x:Int) else(lvD x:Int)) else none
def nmL (l:List UInt8):Option (List UInt8×Int):=
 let c:=cutc 101 l
 let d:=cutc 46 c.1
 let x:=d.1++d.2.1
 if x=[]∨ ¬(∀b∈x,isDg b=true)∨(d.2.2=true∧d.2.1=[]) then none else
 if c.2.2=true then(rpL c.2.1).map (fun p=>(x,p-(d.2.1.length:Int))) else some (x,-(d.2.1.length:Int))
theorem dig_ne {x:List UInt8}{c:UInt8}(hc:isDg c=false)(h: ∀b∈x,isDg b=true):c∉x:=fun e=>by
 rw[h c e] at hc
 cases hc
theorem byt_list (x:List UInt8)(i:Nat)(h:i<x.length):byt ⟨x.toArray⟩ i=(x[i]).toNat:=by
 rw[←KD ⟨x.toArray⟩ i (by rw[mk_size];exact h)];rfl
theorem digB_list (x:List UInt8):digB ⟨x.toArray⟩=true↔x≠[]∧ ∀b∈x,isDg b=true:=by
 rw[digB_iff,mk_size]
 constructor
 ·rintro⟨h1,h2⟩
  refine⟨fun e=>h1 (by rw[e];rfl),fun b hb=> ?_⟩
  obtain⟨i,hi,rfl⟩:=List.getElem_of_mem hb;have:=h2 i hi;rw[byt_list x i hi] at this;exact decide_eq_true this
 ·rintro⟨h1,h2⟩
  refine⟨fun e=>h1 (List.length_eq_zero_iff.1 e),fun i hi=> ?_⟩
  rw[byt_list x i hi];exact of_decide_eq_true (h2 _ (List.getElem_mem hi))
theorem mk_list (s:ByteArray):(⟨s.data.toList.toArray⟩:ByteArray)=s:=by
 apply ByteArray.ext;exact Array.toArray_toList
theorem dec_near {n2 d2 q T K:Nat}(hd:0<d2)(hT:T<K)(hK:d2*K≤n2)(h1:2*(q*d2)≤2*n2+d2)(h2:2*n2≤2*(q*d2)+d2):
  q*d2*(2*T)<n2*(2*T+1)∧n2*(2*T)<q*d2*(2*T)+n2:=by
 have h3:d2*T<n2:=Nat.lt_of_lt_of_le (Nat.mul_lt_mul_of_pos_left hT hd) hK;have a1:T*(2*(q*d2))≤T*(2*n2+d2):=Nat.mul_le_mul_left _ h1;have a2:T*(2*n2)≤T*(2*(q*d2)+d2):=Nat.mul_le_mul_left _ h2;have e1:q*d2*(2*T)=T*(2*(q*d2)):=by ac_rfl
 have e2:n2*(2*T)=T*(2*n2):=by ac_rfl
 have e3:T*d2=d2*T:=Nat.mul_comm _ _;rw[Nat.mul_add] at a1 a2;rw[Nat.mul_add,Nat.mul_one,e1,e2];omega
theorem near_move {A B d n2 Y T:Nat}(h:A*n2=d*B*Y)(hdB:0<d*B)(h1:Y*(2*T)<n2*(2*T+1))(h2:n2*(2*T)<Y*(2*T)+n2):
  A*(2*T)<d*B*(2*T)+d*B∧d*B*(2*T)<A*(2*T)+d*B:=by
 constructor
 ·refine Nat.lt_of_mul_lt_mul_right (a:=n2) ?_
  calc A*(2*T)*n2=A*n2*(2*T):=by ac_rfl
   _=d*B*(Y*(2*T)):=by rw[h];ac_rfl
   _<d*B*(n2*(2*T+1)):=Nat.mul_lt_mul_of_pos_left h1 hdB
   _=(d*B*(2*T)+d*B)*n2:=by rw[Nat.mul_add,Nat.mul_add,Nat.add_mul,Nat.mul_one];ac_rfl
 ·refine Nat.lt_of_mul_lt_mul_right (a:=n2) ?_
  calc d*B*(2*T)*n2=d*B*(n2*(2*T)):=by ac_rfl
   _<d*B*(Y*(2*T)+n2):=Nat.mul_lt_mul_of_pos_left h2 hdB
   _=A*n2*(2*T)+d*B*n2:=by rw[h,Nat.mul_add];ac_rfl
   _=(A*(2*T)+d*B)*n2:=by rw[Nat.add_mul];ac_rfl
theorem dec_digit {d:Nat}(h:d<10):(UInt8.ofNat (48+d)).toNat=48+d:=by
 rw[UInt8.toNat_ofNat'];omega
theorem decDig_all (n:Nat):(∀b∈Lib.decDigits n,isDg b=true)∧lvD (Lib.decDigits n)=n∧Lib.decDigits n≠[]:=by
 induction n using Nat.strongRecOn with
 |_ n ih=>
  by_cases h:n<10
  ·rw[Lib.decDigits_one h]
   refine⟨fun b hb=> ?_, ?_,by simp⟩
   ·obtain rfl:b=UInt8.ofNat (48+n):=by simpa using hb
    unfold isDg;rw[dec_digit h];exact decide_eq_true ⟨by omega,by omega⟩
   ·have:=lvD_snoc [] (UInt8.ofNat (48+n))
    rw[List.nil_append,dec_digit h] at this;rw[this]
    show 0*10+(48+n-48)=n
    omega
  ·rw[Lib.decDigits,dif_neg h]
   obtain⟨i1,i2,i3⟩:=ih (n/10) (by omega);refine⟨fun b hb=> ?_, ?_,by simp⟩
   ·rcases List.mem_append.1 hb with c|c
    ·exact i1 b c
    ·obtain rfl:b=UInt8.ofNat (48+n % 10):=by simpa using c
     unfold isDg;rw[dec_digit (Nat.mod_lt _ (by omega))];exact decide_eq_true ⟨by omega,by omega⟩
   ·rw[lvD_snoc,i2,dec_digit (Nat.mod_lt _ (by omega))]
    omega
theorem decDig_five {n:Nat}(h:n<100000):(Lib.decDigits n).length≤5:=by
 rw[Lib.decDigits_length]
 rcases Nat.lt_or_ge n 10 with c|c
 ·rw[Lib.nDigits_small c];omega
 rw[Lib.nDigits_big (by omega)]
 rcases Nat.lt_or_ge (n/10) 10 with c1|c1
 ·rw[Lib.nDigits_small c1];omega
 rw[Lib.nDigits_big (by omega)]
 rcases Nat.lt_or_ge (n/10/10) 10 with c2|c2
 ·rw[Lib.nDigits_small c2];omega
 rw[Lib.nDigits_big (by omega)]
 rcases Nat.lt_or_ge (n/10/10/10) 10 with c3|c3
 ·rw[Lib.nDigits_small c3];omega
 rw[Lib.nDigits_big (by omega),Lib.nDigits_small (by omega)];omega
theorem head_dig {l:List UInt8}(h: ∀b∈l,isDg b=true)(r:List UInt8)(hl:l≠[]):(l++r).head? ≠some 45:=by
 cases l with
 |nil=>exact absurd rfl hl
 |cons a l=>
  intro c;obtain rfl:a=45:=by simpa using c
  exact absurd (h 45 (by simp)) (by decide)
theorem rpL_itoa {p:Int}(h1: -100000<p)(h2:p<100000):rpL (Lib.itoa p)=some p:=by
 unfold rpL Lib.itoa
 by_cases h:p<0
 ·rw[if_pos h]
  obtain⟨i1,i2,i3⟩:=decDig_all p.natAbs;simp only[List.head?_cons,decide_true,if_true,List.tail_cons];rw[if_pos ⟨decDig_five (by omega),i3,i1⟩,i2]
  congr 1
  omega
 ·rw[if_neg h]
  obtain⟨i1,i2,i3⟩:=decDig_all p.toNat;have:=head_dig i1 [] i3;rw[List.append_nil] at this;simp only[decide_eq_false this,Bool.false_eq_true,if_false];rw[if_pos ⟨decDig_five (by omega),i3,i1⟩,i2]
  congr 1
  omega
theorem ten_move {a b:Nat}{P:Int}(h: ¬a*10^ (-P).toNat<b*10^P.toNat){k:Nat}(hk:1≤k):b*10^ (-((k:Int)-1-P)).toNat*10^ (k-1)≤a*10^ ((k:Int)-1-P).toNat:=by
 obtain⟨pp,i1⟩: ∃k,P.toNat=k:=⟨_,rfl⟩;obtain⟨pm,i2⟩: ∃k,(-P).toNat=k:=⟨_,rfl⟩;obtain⟨u,i7⟩: ∃j,((k:Int)-1-P).toNat=j:=⟨_,rfl⟩;obtain⟨v,i8⟩: ∃j,(-((k:Int)-1-P)).toNat=j:=⟨_,rfl⟩;rw[i1,i2] at h;rw[i7,i8];have a1:v+(k-1)+pm=u+pp:=by omega
 refine Nat.le_of_mul_le_mul_right (c:=10^pp) ?_ (Nat.pow_pos (by omega))
 calc b*10^v*10^ (k-1)*10^pp=b*10^pp*10^ (v+(k-1)):=by rw[Nat.pow_add];ac_rfl
  _≤a*10^pm*10^ (v+(k-1)):=Nat.mul_le_mul_right _ (by omega)
  _=a*10^ (v+(k-1)+pm):=by rw[Nat.pow_add 10 (v+(k-1))];ac_rfl
  _=a*10^u*10^pp:=by rw[a1,Nat.pow_add];ac_rfl
theorem afm (N k:Nat)(h:N<65536^k):N<10^ (5*k):=by
 have:65536^k≤100000^k:=Nat.pow_le_pow_left (by omega) k;rw[Nat.pow_mul];exact Nat.lt_of_lt_of_le h this
theorem five_odd (n:Nat)(h:n % 2=1): ∀k,(n*5^k) % 2=1:=by
 intro k
 induction k with
 |zero=>rw[Nat.pow_zero,Nat.mul_one];exact h
 |succ k ih=>
  rw[Nat.pow_succ,←Nat.mul_assoc];generalize n*5^k=m at*;omega
def exP (k j:Nat):Bool:=([(1,1),(1,2),(1,3),(1,5),(1,8),(2,2),(2,3),(3,3),(4,2),(4,3),(4,4),(4,5),(4,8),(5,3),(5,5),(6,2),(6,3),(6,5),(6,6),(6,7),(6,8),(7,3),(7,7),(8,3),(8,8)]:List (Nat×Nat)).contains (k,j)
theorem redF_keep: ∀k n,(redF n k).1*5^k=n*5^ (redF n k).2
 |0,n=>rfl
 |k+1,n=>by
  unfold redF
  by_cases h:n % 5=0
  ·rw[if_pos h,Nat.pow_succ,←Nat.mul_assoc,redF_keep k (n/5),Nat.mul_right_comm]
   congr 1
   omega
  ·rw[if_neg h]
theorem shF_spec (mk:Nat→Bool): ∀f a,a≤shF mk f a∧shF mk f a≤a+f∧(∀j,a≤j→j<shF mk f a→mk j=false)∧(shF mk f a<a+f→mk (shF mk f a)=true)
 |0,a=>⟨Nat.le_refl _,Nat.le_refl _,fun j h1 h2=>absurd (show j<a from h2) (by omega),fun h=>absurd (show a<a+0 from h) (by omega)⟩
 |f+1,a=>by
  unfold shF
  by_cases h:mk a=true
  ·rw[if_pos h]
   exact⟨Nat.le_refl _,by omega,fun j h1 h2=>by omega,fun _=>h⟩
  ·rw[if_neg h]
   obtain⟨i1,i2,i3,i4⟩:=shF_spec mk f (a+1);refine⟨by omega,by omega,fun j h1 h2=> ?_,fun h5=>i4 (by omega)⟩
   rcases Nat.lt_or_ge a j with c|c
   ·exact i3 j c h2
   ·obtain rfl:j=a:=by omega
    simpa using h
def whB (ov sg:Bool)(N:Int):Bool:= !(ov||decide ((9223372036854775808:Int)<N)||(N==9223372036854775808&& !sg))
def whR (ov sg:Bool)(N:Int):Int:=if whB ov sg N=true then(if sg=true then IntKind.i64.wrap (IntKind.u64.wrap (-N)) else IntKind.i64.wrap N) else 0
def inW (s:Bool)(d:Nat):Bool:=if s=true then decide (d≤9223372036854775808) else decide (d<9223372036854775808)
theorem whB_is (s:Bool)(d:Nat):whB false s d=inW s d:=by
 unfold whB inW
 cases s<;>rw[Bool.eq_iff_iff]<;>simp<;>omega
theorem whR_is {s:Bool}{d:Nat}(h:inW s d=true):whR false s d=if s=true then-(d:Int) else d:=by
 unfold whR;rw[whB_is,if_pos h];unfold inW at h
 cases s<;>simp at h⊢
 ·rw[IntKind.wrap_i64]
  omega
 ·rw[IntKind.wrap_i64,IntKind.wrap_u64]
  omega
theorem inW_big {s:Bool}{d:Nat}(h:2^64≤d):inW s d=false:=by
 unfold inW
 cases s<;>simp<;>omega
end Go.Proofs.YtlgkfdcmokchgaaGreatDoor

/-
  Texts laid together: Dz, Leaf, Rev, Co9, Co11, Co6, Co7, Co8, Co13, Co16, Co17, Gr1, Roo1, Gr5, Gm1, Gr6, Gr7, Dy5, Dy6, Dk1, Gh4, Gn2, Ef1, Ce4, Co20, Co21, Ce1, Ce10, Eb1, Cr11, Eb3, Rk2, Cv0, Pa3, Oq2, Ra4, Gq9, Inv, Bm4, Cv8, Eh5.
-/
import Derived.WalkKit
import Derived.WalkSpells
import Derived.Deep.QuietTactic
import Derived.BigQuiet
import Derived.Lib.TrailingZeros
import Derived.Test.YtddkchlamdhgcaaGreatDoorChecked
import Derived.Handy
import Derived.Laws.CopyOwn
import Derived.BigRegion
import Derived.Deep.LoopGhost
import Derived.Deep.RegionLaw
import Derived.WalkSmall
import Derived.OpenShut
import Derived.Laws.MathBits
import Derived.Lib.BitFns
import Derived.Lib.Walk
import Derived.Lib.Small
import Derived.Shelf.Spec.TrailingZeros
import Derived.Deep.RegionHeld3
import Derived.Deep.MidRow
import Derived.Deep.Cut
import Derived.Laws.IdiomStrings
import Derived.Laws.ResultCell
import Derived.ChangeMaps4
import Derived.Deep.DeepCutAuto
import Derived.Deep.RegionWith
import Derived.Laws.OwnMore
import Derived.Deep.AppendLies
import Derived.Deep.CutBlock
import Derived.Maps.AppendAt
import Derived.OrdersHeld
namespace Go.Proofs.YtddkchlamdhgcaaGreatDoor
open _root_.Go.Proofs.Tryz
open Go.RowKit
def sgn (z:Int):Int:=if z=0 then 0 else if z<0 then-1 else 1
def chk (zs:List Nat):Int:=if 0<zs.length∧zs.getD (zs.length-1) 0=0 then 1 else if 1200<zs.length then 2 else 0
theorem Oq {zs:List Nat}(h:0<zs.length)(hz:zs.getD (zs.length-1) 0=0):chk zs=1:=by unfold chk;rw[if_pos ⟨h,hz⟩]
theorem Ot {zs:List Nat}(hz:zs.getD (zs.length-1) 0≠0)(h:1200<zs.length):chk zs=2:=by unfold chk;rw[if_neg (fun c=>hz c.2),if_pos h]
theorem ZT {zs:List Nat}(hz:zs.getD (zs.length-1) 0≠0)(h: ¬1200<zs.length):chk zs=0:=by unfold chk;rw[if_neg (fun c=>hz c.2),if_neg h]
theorem vm (w:World)(g:Option Nat):w.grownBy w.drew g:=⟨rfl,rfl,rfl,Nat.le_refl _,fun _ _ _=>rfl⟩
def XT (zs cur:List Nat)(i:Nat):Prop:=
 cur.length=zs.length∧2*i≤zs.length+1∧ ∀k,k<zs.length→cur.getD k 0=if k<i∨zs.length-1-i<k then zs.getD (zs.length-1-k) 0 else zs.getD k 0
theorem MG {zs cur:List Nat}{i:Nat}(h:XT zs cur i)(hi: ¬i<zs.length-1-i):cur=zs.reverse:=by
 obtain⟨h1,h2,h3⟩:=h;apply List.ext_getElem (by simpa using h1);intro k hk1 hk2;have hk:k<zs.length:=by omega
 have:=h3 k hk;have e1:cur.getD k 0=cur[k]:=by simp[List.getD_eq_getElem?_getD,hk1]
 have e2:zs.reverse[k]=zs.getD (zs.length-1-k) 0:=by
  rw[List.getElem_reverse];simp[List.getD_eq_getElem?_getD,show zs.length-1-k<zs.length from by omega]
 rw[←e1,this,e2]
 by_cases e3:k<i∨zs.length-1-i<k
 ·rw[if_pos e3]
 ·rw[if_neg e3,show zs.length-1-k=k from by omega]
def fmN:Nat→Nat
 |1=>1|2=>1|3=>1|4=>2|5=>2|_=>3
def wrN (k:Nat):Nat:=if k=3 then 2^63 else if k=4 then 2^5 else if k=5 then 2^13 else 0
theorem SK (f n:Nat):f&&& 2^n=if f.testBit n then 2^n else 0:=by
 apply Nat.eq_of_testBit_eq;intro i;rw[Nat.testBit_and,Nat.testBit_two_pow]
 by_cases hi:n=i
 ·subst hi
  cases h:f.testBit n
  ·simp
  ·simp
 ·cases h:f.testBit n
  ·simp[hi]
  ·simp[hi]
theorem ab0 (f:Nat)(h:f<18446744073709551616):bits .and .u64 f 9223372036854775808=if f<9223372036854775808 then 0 else 9223372036854775808:=by
 have e1:=u64_and_nat f 9223372036854775808 h (by omega);rw[show 9223372036854775808=((9223372036854775808:Nat):Int) from rfl,e1]
 have e2:=SK f 63;rw[Nat.testBit_eq_decide_div_mod_eq,show(2:Nat)^63=9223372036854775808 from rfl] at e2
 rw[e2]
 by_cases c:f<9223372036854775808
 ·rw[if_pos c,show f/9223372036854775808=0 from by omega]
  rfl
 ·rw[if_neg c,show f/9223372036854775808=1 from by omega]
  rfl
theorem NR (f:Nat)(h:f<18446744073709551616):bits .and .u64 f 0=0:=by
 have e1:=u64_and_nat f 0 h (by omega);rw[Nat.and_zero] at e1;exact e1
theorem O7 (w:World)(b o:Nat)(v:Value)(g i:Nat):(w.setCell ⟨b,o,none⟩ v).frozen? ⟨g,i,none⟩=w.frozen? ⟨g,i,none⟩:=
 World.frozen?_setCells b [v] o w ⟨g,i,none⟩
def WI (zs cur:List Nat)(i:Nat):Prop:=
 cur.length=zs.length∧ ∀k,k<zs.length→cur.getD k 0=if k<2*i then zs.getD (k+1-2*(k % 2)) 0 else zs.getD k 0
theorem XO (x y r:Nat)(hx:x<9223372036854775808)(hy:y<256):bits .or .u64 (IntKind.u64.wrap ((x:Int)*2)) (IntKind.u64.wrap (bits .and .u8 ((y:Int)/2^ (7-r)) 1))=((2*x+y/2^ (7-r) % 2:Nat):Int):=by
 have e1:(y:Int)/2^ (7-r)=((y/2^ (7-r):Nat):Int):=by simp
 have h1:y/2^ (7-r)<256:=Nat.lt_of_le_of_lt (Nat.div_le_self _ _) hy;have e2:=u8_and_nat (y/2^ (7-r)) 1 h1 (by omega);rw[Nat.and_one_is_mod] at e2;rw[e1,show 1=((1:Nat):Int) from rfl,e2]
 have h2:=Nat.mod_lt (y/2^ (7-r)) (show 0<2 by omega)
 generalize y/2^ (7-r) % 2=b at*;rw[IntKind.wrap_u64,IntKind.wrap_u64,show((x:Int)*2) % 18446744073709551616=((2*x:Nat):Int) from by omega,show(b:Int) % 18446744073709551616=(b:Int) from by omega]
 rw[u64_or_nat _ _ (by omega) (by omega),nat_join 1 _ _ (by omega) (by omega)]
def C9 (k:Nat):Nat:=if k=3 then 118 else if 6≤k then 120 else 117
theorem Cx {P:Program}{f:FuncId}{fn:Func}{c:Code}(hf:P.funcs[f]? =some fn)(hname:(fn.name== "runtime.NumGoroutine")=false)(hb:fn.body=some c)(args:Array Value)(w:World):Sem.run P (callFunc f args) w= .ok (.enter f args) w:=by
 have hn: ¬fn.name= "runtime.NumGoroutine" :=by simpa using hname
 simp[callFunc,hf,hn,hb]
theorem Db (k:Nat)(args:Array Value)(W:World):Sem.run Tryz.prog (callFunc (C9 k) args) W= .ok (.enter (C9 k) args) W:=by
 unfold C9
 split
 ·exact Cx func118 (by kernel_rfl) rfl args W
 ·split
  ·exact Cx func120 (by kernel_rfl) rfl args W
  ·exact Cx func117 (by kernel_rfl) rfl args W
def lJ (r:Nat):Nat→Nat→Int→Nat×Int
 |0,d,p=>(d,p)
 |n+1,d,p=>if d % r=0 then lJ r n (d/r) (p+1) else(d,p)
theorem adB {a b:Nat}(h:0<b):0<a|||b:=Nat.lt_of_lt_of_le h Nat.right_le_or
def eJ (m n:Int):Bool:=decide (n< -m)||decide (m<n)
def xa (R:Int):Int:=if R=16 then 4000 else 17000
def bk (R D L G:Int):Int:=if R=2∨R=16 then(if D<1∨120<D∨eJ (xa R) L=true∨eJ (xa R) G=true∨G<L then 3 else 0) else 6
theorem FD {R D L G:Int}(h1: ¬R=2)(h2: ¬R=16):bk R D L G=6:=if_neg (fun h=>h.elim h1 h2)
theorem zp {R D L G:Int}(h:R=2∨R=16)(hb:D<1∨120<D∨eJ (xa R) L=true∨eJ (xa R) G=true∨G<L):bk R D L G=3:=(if_pos h).trans (if_pos hb)
theorem Bm {R D L G:Int}(h:R=2∨R=16)(hb: ¬(D<1∨120<D∨eJ (xa R) L=true∨eJ (xa R) G=true∨G<L)):bk R D L G=0:=(if_pos h).trans (if_neg hb)
theorem cB {R D L G:Int}(h:bk R D L G=0):(R=2∨R=16)∧1≤D∧D≤120∧ -17000≤L∧L≤17000∧ -17000≤G∧G≤17000∧L≤G∧(R=16→ -4000≤L∧G≤4000):=by
 unfold bk at h
 split at h
 ·rename_i h1
  split at h
  ·omega
  ·rename_i h2
   have f1:eJ (xa R) L=false:=by
    cases hc:eJ (xa R) L
    ·rfl
    ·exact absurd (.inr (.inr (.inl hc))) h2
   have f2:eJ (xa R) G=false:=by
    cases hc:eJ (xa R) G
    ·rfl
    ·exact absurd (.inr (.inr (.inr (.inl hc)))) h2
   unfold eJ xa at f1 f2;simp only[Bool.or_eq_false_iff,decide_eq_false_iff_not] at f1 f2;refine⟨h1,by omega,by omega, ?_⟩
   split at f1<;>split at f2<;>first|omega| (refine⟨by omega,by omega,by omega,by omega,by omega,fun _=>by omega⟩)
 ·omega
theorem Qd (a:Int)(k:Nat)(hk:0<k):(a<a.tdiv k*k→a/(k:Int)=a.tdiv k-1)∧(¬a<a.tdiv k*k→a/(k:Int)=a.tdiv k):=by
 have e:=Int.tmod_add_mul_tdiv a k;have h1:a.tmod k<k:=Int.tmod_lt_of_pos a (by omega);have h2: -(k:Int)<a.tmod k:=by
  have h:=Int.tmod_lt_of_pos (-a) (b:=(k:Int)) (by omega);rw[Int.neg_tmod] at h;omega
 have e2:(k:Int)*a.tdiv k=a.tdiv k*k:=Int.mul_comm _ _;rw[e2] at e
 constructor
 ·intro h
  have h3:a=(a.tmod k+k)+(k:Int)*(a.tdiv k-1):=by
   rw[Int.mul_sub,e2];omega
  rw[h3,Int.add_mul_ediv_left _ _ (by omega),Int.ediv_eq_zero_of_lt (by omega) (by omega)];rw[←h3];omega
 ·intro h
  have h3:a=a.tmod k+(k:Int)*a.tdiv k:=by
   rw[e2];omega
  rw[h3,Int.add_mul_ediv_left _ _ (by omega),Int.ediv_eq_zero_of_lt (by omega) (by omega)];rw[←h3];omega
def eA (xs ys:List Nat)(E:Int):Int:=if chk xs=0 then(if chk ys=0 then(if ys.length=0∨eJ 20000 E=true then 3 else 0) else chk ys) else chk xs
def jg (c d:Int):Int:=if c=0 then d else c
def nL (cx cy:Int)(ly:Nat)(fe:Bool)(gc:Int):Int:=if cx=0 then(if cy=0 then(if ly=0∨fe=true then 3 else gc) else cy) else cx
theorem Uu (xs ys:List Nat)(E gc:Int):jg (eA xs ys E) gc=nL (chk xs) (chk ys) ys.length (eJ 20000 E) gc:=by
 unfold jg eA nL
 by_cases h1:chk xs=0
 ·rw[if_pos h1,if_pos h1]
  by_cases h2:chk ys=0
  ·rw[if_pos h2,if_pos h2]
   by_cases h3:ys.length=0∨eJ 20000 E=true
   ·rw[if_pos h3,if_pos h3,if_neg (by omega)]
   ·rw[if_neg h3,if_neg h3,if_pos rfl]
  ·rw[if_neg h2,if_neg h2,if_neg h2]
 ·rw[if_neg h1,if_neg h1,if_neg h1]
theorem aaU (k i:Nat):k/2^i=k/2^ (i+1)+k/2^ (i+1)+k/2^i % 2:=by
 rw[Nat.pow_succ,←Nat.div_div_eq_div_mul];omega
theorem M4 (x:Int)(h1: -1000000≤x)(h2:x≤1000000):IntKind.i64.wrap x=x:=by
 exact IntWalk.i64_in _ ⟨by omega,by omega⟩
theorem bG (k:Nat):0<2^k:=Nat.pow_pos (by omega)
theorem DS {N M a b a' b':Nat}(h:M*2^b≤N*2^a)(hk:b'+a≤b+a'):M*2^b'≤N*2^a':=by
 refine Nat.le_of_mul_le_mul_right (c:=2^a) ?_ (bG a)
 calc M*2^b'*2^a=M*2^ (b'+a):=by rw[Nat.mul_assoc,←Nat.pow_add]
  _≤M*2^ (b+a'):=Nat.mul_le_mul_left _ (Nat.pow_le_pow_right (by omega) hk)
  _=M*2^b*2^a':=by rw[Nat.mul_assoc,←Nat.pow_add]
  _≤N*2^a*2^a':=Nat.mul_le_mul_right _ h
  _=N*2^a'*2^a:=by rw[Nat.mul_right_comm]
theorem GD {P:Program}(w:World)(d:Nat){t:TypeId}{ps rs:Array TypeId}{vd:Bool}(h:P.underlying t=some (.func ps rs vd))(f:Fn)(a b:Array Value):(Op.equalIn (d+1) t (.func f a b) .nilFunc).run P w= .ok false w:=by
 simp[Op.equalIn,run_underlying h]
theorem DE {P:Program}(w:World)(d:Nat){t:TypeId}{ps rs:Array TypeId}{vd:Bool}(h:P.underlying t=some (.func ps rs vd)):(Op.equalIn (d+1) t .nilFunc .nilFunc).run P w= .ok true w:=by
 simp[Op.equalIn,run_underlying h]
theorem Rq {P:Program}(w:World){t:TypeId}{ps rs:Array TypeId}{vd:Bool}(h:P.underlying t=some (.func ps rs vd))(f:Fn)(a b:Array Value):(binOp .eql t (.func f a b) .nilFunc).run P w= .ok (.bool false) w:=by
 simp only[binOp];simp[Op.equal,Op.maxDepth,GD w 9999 h f a b]
theorem Oa {P:Program}(w:World){t:TypeId}{ps rs:Array TypeId}{vd:Bool}(h:P.underlying t=some (.func ps rs vd)):(binOp .eql t .nilFunc .nilFunc).run P w= .ok (.bool true) w:=by
 simp only[binOp];simp[Op.equal,Op.maxDepth,DE w 9999 h]
def T4 (way:Int):FuncId:=if way=1 then 90 else if way=2 then 91 else if way=3 then 92 else if way=4 then 93 else 94
def iC (way:Int):Bool:=decide (1≤way∧way≤5)
def ac0 (way:Int):Value:=if iC way=true then .func (.func (T4 way)) #[] #[] else .nilFunc
theorem zi {way:Int}(h:iC way=true):way=1∨way=2∨way=3∨way=4∨way=5:=by
 have:=of_decide_eq_true h;omega
theorem enter_of {P:Program}{f:FuncId}{fn:Func}{c:Code}(hf:P.funcs[f]? =some fn)(hname:(fn.name== "runtime.NumGoroutine")=false)(hb:fn.body=some c)(args:Array Value)(w:World):Sem.run P (callFunc f args) w= .ok (.enter f args) w:=by
 have hn: ¬fn.name= "runtime.NumGoroutine" :=by simpa using hname
 simp[callFunc,hf,hn,hb]
theorem PO {way:Int}(h:iC way=true)(args:Array Value)(W:World):Sem.run Tryz.prog (callFunc (T4 way) args) W= .ok (.enter (T4 way) args) W:=by
 rcases zi h with rfl|rfl|rfl|rfl|rfl
 ·exact enter_of func90 (by kernel_rfl) rfl args W
 ·exact enter_of func91 (by kernel_rfl) rfl args W
 ·exact enter_of func92 (by kernel_rfl) rfl args W
 ·exact enter_of func93 (by kernel_rfl) rfl args W
 ·exact enter_of func94 (by kernel_rfl) rfl args W
def eE (xs ys:List Nat)(E R D L G way:Int):Int:=
 if jg (eA xs ys E) (bk R D L G)=0 then(if iC way=true then 0 else 6) else jg (eA xs ys E) (bk R D L G)
theorem C4 {c d:Int}(h:jg c d=0):c=0∧d=0:=by
 unfold jg at h
 split at h
 ·exact⟨by assumption,h⟩
 ·exact absurd h (by assumption)
theorem gO {xs ys:List Nat}{E:Int}(h:eA xs ys E=0):chk xs=0∧chk ys=0∧0<ys.length∧ -20000≤E∧E≤20000:=by
 unfold eA at h
 by_cases h1:chk xs=0
 ·rw[if_pos h1] at h
  by_cases h2:chk ys=0
  ·rw[if_pos h2] at h
   by_cases h3:ys.length=0∨eJ 20000 E=true
   ·rw[if_pos h3] at h
    cases h
   ·have h4: ¬eJ 20000 E=true:=fun c=>h3 (Or.inr c)
    unfold eJ at h4;simp at h4;refine⟨h1,h2, ?_,by omega,by omega⟩;have: ¬ys.length=0:=fun c=>h3 (Or.inl c)
    omega
  ·rw[if_neg h2] at h
   exact absurd h h2
 ·rw[if_neg h1] at h
  exact absurd h h1
def aS (xs:List Nat)(e:Int):Int:=if chk xs=0 then(if e< -20000∨20000<e then 3 else 0) else chk xs
theorem bL {xs:List Nat}{e:Int}(h:aS xs e=0):chk xs=0∧ -20000≤e∧e≤20000:=by
 unfold aS at h
 by_cases h1:chk xs=0
 ·rw[if_pos h1] at h
  by_cases h2:e< -20000∨20000<e
  ·rw[if_pos h2] at h;omega
  ·exact⟨h1,by omega,by omega⟩
 ·rw[if_neg h1] at h;exact absurd h h1
theorem Ad (q k:Nat)(h:q≠0):bitLen (2^k*q)=k+bitLen q:=by
 have hd:2^k*q/2^k=q:=Nat.mul_div_cancel_left q (Nat.pow_pos (by omega));have:=bitLen_shift (2^k*q) k (by rw[hd];exact h)
 rwa [hd] at this
def onC (dc gc:Int):Int:=if dc=0 then gc else dc
def ix (xs:List Nat)(p R D L G:Int):Int:=
 if chk xs=0 then(if bk R D L G=0 then(if eJ 20000 p=true then 3 else 0) else bk R D L G) else chk xs
theorem A8 {m n:Int}(h:eJ m n=false): -m≤n∧n≤m:=by
 unfold eJ at h;simp at h;omega
theorem kA {xs:List Nat}{p R D L G:Int}(h1:chk xs=0)(h2:bk R D L G=0)(h3:eJ 20000 p=false):ix xs p R D L G=0:=by
 unfold ix;rw[if_pos h1,if_pos h2,if_neg (by rw[h3];decide)]
theorem mg {P:Program}{ops:Array Oper}{o:Oper}{a:Act}{w:World}{K:Act→World→Prop}{Q:Exit→Act→World→Prop}{E:Prop}
  (hg:o.guard=none) (s x:Operand) (t:TypeId) (hop:o.op=Op.call {callee:=Callee.builtin Builtin.append,args:= #[s,x],argTypes:= #[t,t]})
  (v u v':Value) (w':World) (hs:a.eval s=v) (hx:a.eval x=u) (hr:(Builtin.append_ #[t,t] o.type #[v,u]).run P w= .ok v' w') (hK:K (a.put o.dst v') w'):
  if Region.wanted o (yielded ops a.tmps)=true then Oper.wp P o a w K Q else E:=by
 have hw:Region.wanted o (yielded ops a.tmps)=true:=by simp[Region.wanted,hg]
 rw[if_pos hw];unfold Oper.wp;simp[execOp,hop,resolve,invoke,builtin,hs,hx,hr,Result.andThen];exact hK
theorem Lp (y b t u:Nat)(hb:b<2):(y|||b*2^t).testBit u=(y.testBit u||(decide (b=1)&&decide (t=u))):=by
 rw[Nat.testBit_or]
 rcases(show b=0∨b=1 by omega) with rfl|rfl
 ·simp
 ·rw[Nat.one_mul,Nat.testBit_two_pow]
  simp
def Eb (ex fr:Nat)(ng:Bool)(e f:Nat)(i:Nat):Bool:=
 if i=0 then ng else if i≤ex then decide (e/2^ (ex-i) % 2=1) else decide (f/2^ (ex+fr-i) % 2=1)
def iR (k c:Nat):Bool:=c==1||(c==3||c==4)&&decide (k≤3)||c==5&&decide (6≤k)
def pI (k c:Nat):Bool:=c==5&&decide (6≤k)
def Bk (k c:Nat):Bool:=c==3||c==1&&decide (k≤5)
def qX (k c dn:Nat)(ng:Bool)(p:Int):Int:=if iR k c=false then 5 else if 0<dn∨p≠0∨ng=true∧Bk k c=false then 4 else 0
theorem TZ (x a:Nat)(hx:x<4294967296)(ha:a<4294967296):bits .or .u64 ((x:Int)*4294967296) a=((a+4294967296*x:Nat):Int):=by
 rw[show x*4294967296=((4294967296*x:Nat):Int) from by omega]
 rw[u64_or_nat _ _ (by omega) (by omega),nat_join 32 _ _ (by omega) (by omega)]
 congr 1
 omega
def gsI:Nat→Int
 |1=>104|2=>971|3=>16320|4=>57|5=>49|6=>103|7=>71|8=>970|_=>0
theorem JL {f n:Nat}(h:f<2^n):f|||2^n=f+2^n:=by
 have:=Nat.two_pow_add_eq_or_of_lt h 1;rw[Nat.mul_one] at this;rw[Nat.or_comm,←this,Nat.add_comm]
theorem aaQ {f n:Nat}(h1:2^n≤f)(h2:f<2^ (n+1)):f|||2^n=f:=by
 obtain⟨r,rfl⟩: ∃r,f=r+2^n:=⟨f-2^n,by omega⟩;have hr:r<2^n:=by rw[Nat.pow_succ] at h2;omega
 rw[←JL hr,Nat.or_assoc,Nat.or_self]
theorem LT {d n:Nat}(h1:2^n≤d)(h2:d<2^ (n+1)):d % 2^n=d-2^n:=by
 rw[Nat.pow_succ] at h2;rw[Nat.mod_eq_sub_mod h1,Nat.mod_eq_of_lt (by omega)]
theorem FZ (r:Nat)(hr:2≤r): ∀(j n q:Nat) (p:Int),q % r≠0→r^j*q<2^n→lJ r n (r^j*q) p=(q,p+(j:Int))
 |0,n,q,p,hq,hn=>by
  rw[Nat.pow_zero,Nat.one_mul] at hn⊢
  cases n with
  |zero=>
   have:q=0:=by simpa using hn
   subst this;simp at hq
  |succ n=>
   rw[lJ,if_neg hq];simp
 |j+1,n,q,p,hq,hn=>by
  have e1:r^ (j+1)*q=r*(r^j*q):=by rw[Nat.pow_succ,Nat.mul_comm (r^j) r,Nat.mul_assoc]
  rw[e1] at hn⊢
  cases n with
  |zero=>
   exfalso
   have h0:r*(r^j*q)=0:=by simpa using hn
   have hq0:q≠0:=fun h=>hq (by rw[h];simp)
   have h1:0<r^j*q:=Nat.mul_pos (Nat.pow_pos (by omega)) (Nat.pos_of_ne_zero hq0);have h2:0<r*(r^j*q):=Nat.mul_pos (by omega) h1;omega
  |succ n=>
   rw[lJ,if_pos (Nat.mul_mod_right _ _),Nat.mul_div_cancel_left _ (by omega)];have hlt:r^j*q<2^n:=by
    have h2:2*(r^j*q)≤r*(r^j*q):=Nat.mul_le_mul_right _ hr;rw[Nat.pow_succ] at hn;omega
   rw[FZ r hr j n q (p+1) hq hlt]
   congr 1
   push_cast
   omega
theorem YZ {f n:Nat}(h:f<2^n):f|||2^n=f+2^n:=by
 rw[Nat.or_comm,nat_join n (2^n) f (Nat.mod_self _) h];omega
theorem adg {f n:Nat}(h1:2^n≤f)(h2:f<2^ (n+1)):f|||2^n=f:=by
 rw[Nat.pow_succ] at h2;have e:f=2^n||| (f-2^n):=by
  rw[nat_join n (2^n) (f-2^n) (Nat.mod_self _) (by omega)];omega
 rw[e,Nat.or_comm,←Nat.or_assoc,Nat.or_self]
theorem GI (r:Nat): ∀(n d:Nat) (p:Int),(lJ r n d p).1≤d
 |0,d,p=>Nat.le_refl _
 |n+1,d,p=>by
  unfold lJ
  split
  ·exact Nat.le_trans (GI r n _ _) (Nat.div_le_self _ _)
  ·exact Nat.le_refl _
theorem wZ {n k:Nat}(h:bitLen n≤k):n<2^k:=Nat.lt_of_lt_of_le (bitLen_spec n).1 (Nat.pow_le_pow_right (by omega) h)
theorem wp_yield {P:Program}{op:Oper}{a:Act}{w:World}{K:Act→World→Prop}{Q:Exit→Act→World→Prop}(v:Value)(hv:(execOp a.eval op).run P w= .ok (.value v) w)(h:K (a.put op.dst v) w):op.wp P a w K Q:=by
 unfold Oper.wp;rw[hv];exact h
theorem ne3 {c:Int}(h:c≠3):(c==3)=false:=by simpa using h
theorem ne1 {c:Int}(h:c≠1):(c==1)=false:=by simpa using h
theorem Bi {P:Program}{ops:Array Oper}{rest:List Oper}{o:Oper}{a:Act}{w:World}{Q:Exit→Act→World→Prop}(hg:o.guard=none)(s x:Operand)(t:TypeId)(hop:o.op=Op.call {callee:=Callee.builtin Builtin.append,args:= #[s,x],argTypes:= #[t,t]})
  (v u v':Value) (w':World) (hs:a.eval s=v) (hx:a.eval x=u) (hr:(Builtin.append_ #[t,t] o.type #[v,u]).run P w= .ok v' w') (h:wpList P ops Q rest (a.put o.dst v') w'):wpList P ops Q (o::rest) a w:=
 wpList_plain hg fun K hK=>by
  unfold Oper.wp;simp[execOp,hop,resolve,invoke,builtin,hs,hx,hr,Result.andThen];exact hK _ _ h
theorem way_is {way:Int}:iC way=true↔1≤way∧way≤5:=by
 unfold iC;simp
theorem M9 {xs ys:List Nat}{E R D L G way:Int}(h: ¬eA xs ys E=0):eE xs ys E R D L G way=eA xs ys E:=by
 have e:jg (eA xs ys E) (bk R D L G)=eA xs ys E:=if_neg h;unfold eE;rw[e,if_neg h]
theorem Na {xs ys:List Nat}{E R D L G way:Int}(h:eA xs ys E=0)(h2: ¬bk R D L G=0):eE xs ys E R D L G way=bk R D L G:=by
 have e:jg (eA xs ys E) (bk R D L G)=bk R D L G:=if_pos h;unfold eE;rw[e,if_neg h2]
theorem Bq {xs ys:List Nat}{E R D L G way:Int}(h:eA xs ys E=0)(h2:bk R D L G=0):eE xs ys E R D L G way=if iC way=true then 0 else 6:=by
 have e:jg (eA xs ys E) (bk R D L G)=bk R D L G:=if_pos h;unfold eE;rw[e,if_pos h2]
theorem Nb {xs ys:List Nat}{E R D L G way:Int}(h:eE xs ys E R D L G way=0):eA xs ys E=0∧bk R D L G=0∧iC way=true:=by
 by_cases h1:eA xs ys E=0
 ·by_cases h2:bk R D L G=0
  ·refine⟨h1,h2, ?_⟩
   rw[Bq h1 h2] at h
   by_cases h3:iC way=true
   ·exact h3
   ·rw[if_neg h3] at h
    cases h
  ·rw[Na h1 h2] at h
   exact absurd h h2
 ·rw[M9 h1] at h
  exact absurd h h1
def left (listed:Array Bool):Nat:=(listed.toList.filter (fun b=> !b)).length
theorem Gq {p:Nat}(hp:p≠0):1≤bitLen p:=by
 have h:=(bitLen_spec p).1
 rcases Nat.eq_zero_or_pos (bitLen p) with h0|h0
 ·rw[h0] at h
  omega
 ·exact h0
def whB (ov sg:Bool)(N:Int):Bool:= !(ov||decide ((9223372036854775808:Int)<N)||(N==9223372036854775808&& !sg))
def whR (ov sg:Bool)(N:Int):Int:=if whB ov sg N=true then(if sg=true then IntKind.i64.wrap (IntKind.u64.wrap (-N)) else IntKind.i64.wrap N) else 0
def exP (k j:Nat):Bool:=([(1,1),(1,2),(1,3),(1,5),(1,8),(2,2),(2,3),(3,3),(4,2),(4,3),(4,4),(4,5),(4,8),(5,3),(5,5),(6,2),(6,3),(6,5),(6,6),(6,7),(6,8),(7,3),(7,7),(8,3),(8,8)]:List (Nat×Nat)).contains (k,j)
end Go.Proofs.YtddkchlamdhgcaaGreatDoor

/-
  Texts laid together: Ex, Dy3, Co9, Co13, Co11, Co12, Co20, Co21, Dy5, Dy6, Ce10, Tx3, Tx7, Co17, Co18, Tx10, Read1, Tx1, Gh4, Gn2, Cr11, Eb3, Ar2, Rk1, Pa1, Pa3, Ra4, Gq9, Tx5, Inv, Bm4, Tx6, Tx12, Tx13, Tx14, Tx17.
-/
import Derived.Test.YtpgijbdgljkeeaaGreatDoorUx03
namespace Go.Proofs.YtpgijbdgljkeeaaGreatDoor
open _root_.Go.Proofs.Tryz
open Go.RowKit
theorem fy {P:Program}{o:Oper}{a:Act}{w:World}(t:TypeId)(x:Operand)(ho:o.op= .load t x)(b i:Nat)(hx:a.eval x= .pointer (some ⟨b,i,none⟩))(cs:List Value)(d:TypeDesc)(hr:w.rangeAt b i cs)(hu:P.underlying t=some d)(hd:d.isRow=true)(hi:(P.info? t).map (·.size)=some cs.length):(execOp a.eval o).run P w= .ok (.value (.agg cs.toArray)) w:=by
 unfold execOp;simp only[ho,hx];have:=run_loadAt_mid (P:=P) w b i t cs d hr hu hd hi;simp[this]
theorem am {B b:Nat}{w w1:World}(h:Below B w w1)(hb:B≤b)(x0 x1 x2:Value):Below B w (((w1.setCell ⟨b,0,none⟩ x0).setCell ⟨b,1,none⟩ x1).setCell ⟨b,2,none⟩ x2):=
 ((h.setCell (p:=⟨b,0,none⟩) hb x0).setCell (p:=⟨b,1,none⟩) hb x1).setCell (p:=⟨b,2,none⟩) hb x2
def gW (k:Nat):Nat:=2^ (dgN k-1)
def wrN (k:Nat):Nat:=if k=3 then 2^63 else if k=4 then 2^5 else if k=5 then 2^13 else 0
theorem bO {k:Nat}(h:1≤k∧k≤8):k=1∨k=2∨k=3∨k=4∨k=5∨k=6∨k=7∨k=8:=by omega
def C9 (k:Nat):Nat:=if k=3 then 187 else if 6≤k then 188 else 186
theorem Cx {P:Program}{f:FuncId}{fn:Func}{c:Code}(hf:P.funcs[f]? =some fn)(hname:(fn.name== "runtime.NumGoroutine")=false)(hb:fn.body=some c)(args:Array Value)(w:World):Sem.run P (callFunc f args) w= .ok (.enter f args) w:=by
 have hn: ¬fn.name= "runtime.NumGoroutine" :=by simpa using hname
 simp[callFunc,hf,hn,hb]
theorem Db (k:Nat)(args:Array Value)(W:World):Sem.run Tryz.prog (callFunc (C9 k) args) W= .ok (.enter (C9 k) args) W:=by
 unfold C9
 split
 ·exact Cx func187 (by kernel_rfl) rfl args W
 ·split
  ·exact Cx func188 (by kernel_rfl) rfl args W
  ·exact Cx func186 (by kernel_rfl) rfl args W
theorem SK (f n:Nat):f&&& 2^n=if f.testBit n then 2^n else 0:=by
 apply Nat.eq_of_testBit_eq;intro i;rw[Nat.testBit_and,Nat.testBit_two_pow]
 by_cases hi:n=i
 ·subst hi
  cases h:f.testBit n
  ·simp
  ·simp
 ·cases h:f.testBit n
  ·simp[hi]
  ·simp[hi]
theorem ab0 (f:Nat)(h:f<18446744073709551616):bits .and .u64 f 9223372036854775808=if f<9223372036854775808 then 0 else 9223372036854775808:=by
 have e1:=u64_and_nat f 9223372036854775808 h (by omega);rw[show 9223372036854775808=((9223372036854775808:Nat):Int) from rfl,e1]
 have e2:=SK f 63;rw[Nat.testBit_eq_decide_div_mod_eq,show(2:Nat)^63=9223372036854775808 from rfl] at e2
 rw[e2]
 by_cases c:f<9223372036854775808
 ·rw[if_pos c,show f/9223372036854775808=0 from by omega]
  rfl
 ·rw[if_neg c,show f/9223372036854775808=1 from by omega]
  rfl
theorem NR (f:Nat)(h:f<18446744073709551616):bits .and .u64 f 0=0:=by
 have e1:=u64_and_nat f 0 h (by omega);rw[Nat.and_zero] at e1;exact e1
def iI (k e f:Nat):Nat:=if rdN k=16 then f else if e=0 then f else f|||gW k
def ii (k e:Nat):Int:=if rdN k=16 then lsI k+e else if e=0 then lsI k else lsI k+e-1
def iR (k c:Nat):Bool:=c==1||(c==3||c==4)&&decide (k≤3)||c==5&&decide (6≤k)
def pI (k c:Nat):Bool:=c==5&&decide (6≤k)
def lS (k c:Nat):Nat:=if k≤3 then(if c=3 then wrN k else if c=4 then wrN k|||gW k/2 else 0) else 0
def Bk (k c:Nat):Bool:=c==3||c==1&&decide (k≤5)
def qX (k c dn:Nat)(ng:Bool)(p:Int):Int:=if iR k c=false then 5 else if 0<dn∨p≠0∨ng=true∧Bk k c=false then 4 else 0
theorem Fx {k:Nat}(c:Nat)(hk:1≤k∧k≤8):lS k c<18446744073709551616:=by
 have h1:wrN k<2^64:=by rcases bO hk with rfl|rfl|rfl|rfl|rfl|rfl|rfl|rfl<;>decide
 have h2:gW k<2^64:=by rcases bO hk with rfl|rfl|rfl|rfl|rfl|rfl|rfl|rfl<;>decide
 unfold lS
 split
 ·split
  ·exact h1
  ·split
   ·exact Nat.or_lt_two_pow (n:=64) h1 (by omega)
   ·omega
 ·omega
def aS (xs:List Nat)(e:Int):Int:=if chk xs=0 then(if e< -20000∨20000<e then 3 else 0) else chk xs
theorem bL {xs:List Nat}{e:Int}(h:aS xs e=0):chk xs=0∧ -20000≤e∧e≤20000:=by
 unfold aS at h
 by_cases h1:chk xs=0
 ·rw[if_pos h1] at h
  by_cases h2:e< -20000∨20000<e
  ·rw[if_pos h2] at h;omega
  ·exact⟨h1,by omega,by omega⟩
 ·rw[if_neg h1] at h;exact absurd h h1
theorem Re {k:Nat}(hk:1≤k∧k≤8):gW k<18446744073709551616:=by
 rcases bO hk with rfl|rfl|rfl|rfl|rfl|rfl|rfl|rfl<;>decide
def gsI:Nat→Int
 |1=>104|2=>971|3=>16320|4=>57|5=>49|6=>103|7=>71|8=>970|_=>0
def redF:Nat→Nat→Nat×Nat
 |m,0=>(m,0)
 |m,k+1=>if m % 5=0 then redF (m/5) k else(m,k+1)
theorem redF_le: ∀(k m:Nat),(redF m k).1≤m∧(redF m k).2≤k:=by
 intro k
 induction k with
 |zero=>intro m;exact⟨Nat.le_refl _,Nat.le_refl _⟩
 |succ k ih=>
  intro m;unfold redF
  split
  ·have:=ih (m/5)
   have:=Nat.div_le_self m 5;omega
  ·exact⟨Nat.le_refl _,Nat.le_refl _⟩
def pbV (n:Int):Int:=(n*30103).tdiv 100000-1
theorem pb_is (n:Int):(n*30103).tdiv 100000=if 0≤n then n*30103/100000 else-(-n*30103/100000):=by
 by_cases h:0≤n
 ·rw[if_pos h,Int.tdiv_eq_ediv_of_nonneg (by omega)]
 ·rw[if_neg h,show n*30103= -(-n*30103) by omega,Int.neg_tdiv,Int.tdiv_eq_ediv_of_nonneg (by omega)]
theorem adB {a b:Nat}(h:0<b):0<a|||b:=Nat.lt_of_lt_of_le h Nat.right_le_or
theorem VL (k:Nat):0<gW k:=Nat.pow_pos (by omega)
theorem ZM {k:Nat}(hk:1≤k∧k≤8):gW k<2^64:=by
 rcases bO hk with rfl|rfl|rfl|rfl|rfl|rfl|rfl|rfl<;>decide
theorem vS {k:Nat}(hk:1≤k∧k≤8)(e:Nat){f:Nat}(hf:f<2^64):iI k e f<2^64:=by
 unfold iI
 split
 ·exact hf
 ·split
  ·exact hf
  ·exact Nat.or_lt_two_pow hf (ZM hk)
theorem ab9 {k:Nat}(hk:1≤k∧k≤8){e:Nat}(he:e<65536): -100000≤ii k e∧ii k e≤100000:=by
 have h: -20000≤lsI k∧lsI k≤0:=by rcases bO hk with rfl|rfl|rfl|rfl|rfl|rfl|rfl|rfl<;>decide
 unfold ii
 split
 ·omega
 ·split<;>omega
theorem fF {n:Int}(h:dK n≠0):1≤n.toNat∧n.toNat≤8∧((n.toNat:Nat):Int)=n:=by
 unfold dK at h
 by_cases c:n<1∨8<n
 ·rw[if_pos c] at h
  exact absurd rfl h
 ·omega
def shF (mk:Nat→Bool):Nat→Nat→Nat
 |0,k=>k
 |f+1,k=>if mk k=true then k else shF mk f (k+1)
theorem Ay (s:ByteArray)(i:Nat):byt s i<256:=by unfold byt;exact UInt8.toNat_lt _
theorem IX (s:ByteArray)(h:s.size=0):s=⟨#[]⟩:=by
 obtain⟨d⟩:=s;simp only[ByteArray.size] at h;have:=Array.eq_empty_of_size_eq_zero h;rw[this]
theorem Qw (s:ByteArray)(h:s.size≠0):s.toList.isEmpty=false:=by
 rw[Lib.toList_data];rw[List.isEmpty_eq_false_iff];intro e;apply h;have:=congrArg List.length e;rw[Array.length_toList] at this;exact this
def digB (s:ByteArray):Bool:=decide (s.size≠0∧ ∀i,i<s.size→48≤byt s i∧byt s i≤57)
theorem digB_iff (s:ByteArray):digB s=true↔s.size≠0∧ ∀i,i<s.size→48≤byt s i∧byt s i≤57:=by
 unfold digB;rw[decide_eq_true_eq]
def onC (dc gc:Int):Int:=if dc=0 then gc else dc
def ix (xs:List Nat)(p R D L G:Int):Int:=
 if chk xs=0 then(if bk R D L G=0 then(if eJ 20000 p=true then 3 else 0) else bk R D L G) else chk xs
theorem A8 {m n:Int}(h:eJ m n=false): -m≤n∧n≤m:=by
 unfold eJ at h;simp at h;omega
theorem kA {xs:List Nat}{p R D L G:Int}(h1:chk xs=0)(h2:bk R D L G=0)(h3:eJ 20000 p=false):ix xs p R D L G=0:=by
 unfold ix;rw[if_pos h1,if_pos h2,if_neg (by rw[h3];decide)]
theorem FZ (r:Nat)(hr:2≤r): ∀(j n q:Nat) (p:Int),q % r≠0→r^j*q<2^n→lJ r n (r^j*q) p=(q,p+(j:Int))
 |0,n,q,p,hq,hn=>by
  rw[Nat.pow_zero,Nat.one_mul] at hn⊢
  cases n with
  |zero=>
   have:q=0:=by simpa using hn
   subst this;simp at hq
  |succ n=>
   rw[lJ,if_neg hq];simp
 |j+1,n,q,p,hq,hn=>by
  have e1:r^ (j+1)*q=r*(r^j*q):=by rw[Nat.pow_succ,Nat.mul_comm (r^j) r,Nat.mul_assoc]
  rw[e1] at hn⊢
  cases n with
  |zero=>
   exfalso
   have h0:r*(r^j*q)=0:=by simpa using hn
   have hq0:q≠0:=fun h=>hq (by rw[h];simp)
   have h1:0<r^j*q:=Nat.mul_pos (Nat.pow_pos (by omega)) (Nat.pos_of_ne_zero hq0);have h2:0<r*(r^j*q):=Nat.mul_pos (by omega) h1;omega
  |succ n=>
   rw[lJ,if_pos (Nat.mul_mod_right _ _),Nat.mul_div_cancel_left _ (by omega)];have hlt:r^j*q<2^n:=by
    have h2:2*(r^j*q)≤r*(r^j*q):=Nat.mul_le_mul_right _ hr;rw[Nat.pow_succ] at hn;omega
   rw[FZ r hr j n q (p+1) hq hlt]
   congr 1
   push_cast
   omega
theorem YZ {f n:Nat}(h:f<2^n):f|||2^n=f+2^n:=by
 rw[Nat.or_comm,nat_join n (2^n) f (Nat.mod_self _) h];omega
theorem adg {f n:Nat}(h1:2^n≤f)(h2:f<2^ (n+1)):f|||2^n=f:=by
 rw[Nat.pow_succ] at h2;have e:f=2^n||| (f-2^n):=by
  rw[nat_join n (2^n) (f-2^n) (Nat.mod_self _) (by omega)];omega
 rw[e,Nat.or_comm,←Nat.or_assoc,Nat.or_self]
theorem GI (r:Nat): ∀(n d:Nat) (p:Int),(lJ r n d p).1≤d
 |0,d,p=>Nat.le_refl _
 |n+1,d,p=>by
  unfold lJ
  split
  ·exact Nat.le_trans (GI r n _ _) (Nat.div_le_self _ _)
  ·exact Nat.le_refl _
def fT (n:Int):List ByteArray→Int
 | []=>0
 |p::ps=>if dF n p=0 then fT n ps else dF n p
theorem ut.symm {J:Int}{N1 M1 N2 M2:Nat}{E1 E2:Int}(h:ut J N1 M1 E1 N2 M2 E2):ut J N2 M2 E2 N1 M1 E1:=fun j hj=>⟨(h j hj).1.symm,(h j hj).2.symm⟩
theorem qt {k:Nat}(hk:1≤k∧k≤8):dK k=1∨dK k=2∨dK k=3:=by
 rcases bO hk with rfl|rfl|rfl|rfl|rfl|rfl|rfl|rfl<;>decide
theorem ne3 {c:Int}(h:c≠3):(c==3)=false:=by simpa using h
theorem ne1 {c:Int}(h:c≠1):(c==1)=false:=by simpa using h
theorem way_is {way:Int}:iC way=true↔1≤way∧way≤5:=by
 unfold iC;simp
theorem M9 {xs ys:List Nat}{E R D L G way:Int}(h: ¬eA xs ys E=0):eE xs ys E R D L G way=eA xs ys E:=by
 have e:jg (eA xs ys E) (bk R D L G)=eA xs ys E:=if_neg h;unfold eE;rw[e,if_neg h]
theorem Na {xs ys:List Nat}{E R D L G way:Int}(h:eA xs ys E=0)(h2: ¬bk R D L G=0):eE xs ys E R D L G way=bk R D L G:=by
 have e:jg (eA xs ys E) (bk R D L G)=bk R D L G:=if_pos h;unfold eE;rw[e,if_neg h2]
theorem Bq {xs ys:List Nat}{E R D L G way:Int}(h:eA xs ys E=0)(h2:bk R D L G=0):eE xs ys E R D L G way=if iC way=true then 0 else 6:=by
 have e:jg (eA xs ys E) (bk R D L G)=bk R D L G:=if_pos h;unfold eE;rw[e,if_pos h2]
theorem Nb {xs ys:List Nat}{E R D L G way:Int}(h:eE xs ys E R D L G way=0):eA xs ys E=0∧bk R D L G=0∧iC way=true:=by
 by_cases h1:eA xs ys E=0
 ·by_cases h2:bk R D L G=0
  ·refine⟨h1,h2, ?_⟩
   rw[Bq h1 h2] at h
   by_cases h3:iC way=true
   ·exact h3
   ·rw[if_neg h3] at h
    cases h
  ·rw[Na h1 h2] at h
   exact absurd h h2
 ·rw[M9 h1] at h
  exact absurd h h1
theorem mk_size (l:List UInt8):(⟨l.toArray⟩:ByteArray).size=l.length:=List.size_toArray
theorem size_list (s:ByteArray):s.size=s.data.toList.length:=Array.length_toList.symm
def undash (s:ByteArray):ByteArray:=⟨(Lib.trimPrefix s.data.toList [45]).toArray⟩
def dash (s:ByteArray):Bool:=Lib.hasPrefix s.data.toList [45]
theorem undash_size (a:ByteArray):(undash a).size≤a.size:=by
 unfold undash;rw[mk_size,size_list a];unfold Lib.trimPrefix
 split
 ·rw[List.length_drop]
  omega
 ·exact Nat.le_refl _
def rpV (a:ByteArray):Int×Bool:=if(undash a).size≤5∧digB (undash a)=true then(if dash a=true then-((pv (undash a) (undash a).size:Nat):Int) else((pv (undash a) (undash a).size:Nat):Int),true) else(0,false)
def cutS (c:UInt8)(s:ByteArray):ByteArray×ByteArray×Bool:=(⟨(Lib.cut s.data.toList [c]).1.toArray⟩,⟨(Lib.cut s.data.toList [c]).2.1.toArray⟩,(Lib.cut s.data.toList [c]).2.2)
def nmZ:Bool×ByteArray×Int:=(false,⟨#[]⟩,0)
def nmC (t:ByteArray):ByteArray×ByteArray×Bool:=cutS 101 (undash t)
def nmP (t:ByteArray):Int×Bool:=if(nmC t).2.2=true then rpV (nmC t).2.1 else(0,true)
def nmD (t:ByteArray):ByteArray×ByteArray×Bool:=cutS 46 (nmC t).1
def nmQ (t:ByteArray):Int:=(nmP t).1-((nmD t).2.1.size:Int)
def nmV (t:ByteArray):(Bool×ByteArray×Int)×Int:=
 if 400<t.size then(nmZ,2) else
 if(nmP t).2=false∨digB ((nmD t).1++(nmD t).2.1)=false∨((nmD t).2.2=true∧(nmD t).2.1.size=0) then(nmZ,1) else
 if nmQ t< -6000∨6000<nmQ t then(nmZ,3) else((dash t,(nmD t).1++(nmD t).2.1,nmQ t),0)
theorem rpV_in (a:ByteArray): -100000< (rpV a).1∧(rpV a).1<100000:=by
 unfold rpV
 split
 ·rename_i h
  have hp:=Tb (undash a) ((digB_iff _).1 h.2).2 _ (Nat.le_refl _);have hp5:10^ (undash a).size≤10^5:=Nat.pow_le_pow_right (by omega) h.1
  show-100000< (if dash a=true then-((pv (undash a) (undash a).size:Nat):Int) else((pv (undash a) (undash a).size:Nat):Int))∧(if dash a=true then-((pv (undash a) (undash a).size:Nat):Int) else((pv (undash a) (undash a).size:Nat):Int))<_
  generalize pv (undash a) (undash a).size=P at hp⊢
  split<;>omega
 ·exact⟨by decide,by decide⟩
def left (listed:Array Bool):Nat:=(listed.toList.filter (fun b=> !b)).length
theorem Gq {p:Nat}(hp:p≠0):1≤bitLen p:=by
 have h:=(bitLen_spec p).1
 rcases Nat.eq_zero_or_pos (bitLen p) with h0|h0
 ·rw[h0] at h
  omega
 ·exact h0
theorem pow10_two (a:Nat):10^a≤2^ (4*a):=by
 rw[Nat.pow_mul];exact Nat.pow_le_pow_left (by omega) a
def nrM (N:Nat)(p:Int):Nat×Nat:=if 0<p then(N*5^p.toNat,1) else((redF N (-p).toNat).1,5^ (redF N (-p).toNat).2)
theorem redF_pos: ∀(k m:Nat),m≠0→(redF m k).1≠0:=by
 intro k
 induction k with
 |zero=>intro m h;exact h
 |succ k ih=>
  intro m h;unfold redF
  split
  ·exact ih _ (by omega)
  ·exact h
theorem nrM_in {N a:Nat}{p:Int}(h0:N≠0)(hN:N<2^a)(p2:p≤6000):(nrM N p).1≠0∧(nrM N p).1<2^ (a+18000):=by
 unfold nrM
 by_cases hp:0<p
 ·rw[if_pos hp]
  refine⟨Nat.mul_ne_zero h0 (Nat.ne_of_gt (Nat.pow_pos (by omega))), ?_⟩;obtain⟨c,hc⟩: ∃c,c=18000:=⟨_,rfl⟩;rw[←hc];have h5:5^p.toNat≤2^c:=Nat.le_trans (pow5_two _) (Nat.pow_le_pow_right (by omega) (by omega));rw[Nat.pow_add];exact Nat.mul_lt_mul_of_lt_of_le hN h5 (Nat.pow_pos (by omega))
 ·rw[if_neg hp]
  exact⟨redF_pos _ _ h0,Nat.lt_of_le_of_lt (redF_le _ _).1 (Nat.lt_of_lt_of_le hN (Nat.pow_le_pow_right (by omega) (by omega)))⟩
def raE (t:ByteArray):Int:=(nmV t).2
theorem pb_in {n:Int}(h1: -16501≤n)(h2:n≤16564): -5000≤pbV n∧pbV n≤5000:=by
 unfold pbV;rw[pb_is n]
 split<;>omega
def xHun:Nat:=100000
def xThi:Nat:=30103
theorem two_ten:Nat.ble (2^xHun) (10^xThi)=true:=by kernel_rfl
theorem ten_two:Nat.ble (10^xThi) (2^ (xHun+1))=true:=by kernel_rfl
theorem tenroot_le {a b k:Nat}(hk:k≠0)(h:a^k≤b^k):a≤b:=by
 rcases Nat.lt_or_ge b a with c|c
 ·exact absurd h (Nat.not_le_of_gt (Nat.pow_lt_pow_left c hk))
 ·exact c
theorem low_pow {m q:Nat}(h:m*xThi≤q*xHun):2^m≤10^q:=by
 refine tenroot_le (k:=xHun) (by decide) ?_;have h1:(2^xHun)^m≤(10^xThi)^m:=Nat.pow_le_pow_left (Nat.le_of_ble_eq_true two_ten) m;rw[←Nat.pow_mul,←Nat.pow_mul] at h1;rw[←Nat.pow_mul,←Nat.pow_mul,Nat.mul_comm m];refine Nat.le_trans h1 (Nat.pow_le_pow_right (by omega) ?_);rw[Nat.mul_comm];exact h
theorem high_pow {n q:Nat}(h:(q+1)*xHun≤n*xThi)(hn:n≤xHun):10^q≤2^n:=by
 refine tenroot_le (k:=xHun) (by decide) ?_;have h1:(10^xThi)^n≤(2^ (xHun+1))^n:=Nat.pow_le_pow_left (Nat.le_of_ble_eq_true ten_two) n;rw[←Nat.pow_mul,←Nat.pow_mul,Nat.succ_mul,Nat.pow_add] at h1;have h2:2^n≤10^xHun:=Nat.le_trans (Nat.pow_le_pow_right (by omega) hn) (Nat.pow_le_pow_left (by omega) _);have h3:10^ (q*xHun)*10^xHun≤2^ (n*xHun)*10^xHun:=by
  rw[←Nat.pow_add];refine Nat.le_trans (Nat.pow_le_pow_right (by omega) (show q*xHun+xHun≤xThi*n from ?_)) (Nat.le_trans h1 ?_)
  ·rw[Nat.mul_comm xThi,←Nat.succ_mul]
   exact h
  ·rw[Nat.mul_comm n]
   exact Nat.mul_le_mul_left _ h2
 rw[←Nat.pow_mul,←Nat.pow_mul];exact Nat.le_of_mul_le_mul_right h3 (Nat.pow_pos (by omega))
theorem pb_key {n:Int}(h1: -16501≤n)(h2:n≤16564):10^ (pbV n).toNat*2^ (-n).toNat≤2^n.toNat*10^ (-(pbV n)).toNat:=by
 have e:pbV n=(if 0≤n then n*30103/100000 else-(-n*30103/100000))-1:=by unfold pbV;rw[pb_is n]
 by_cases hn:0≤n
 ·rw[if_pos hn] at e
  rw[show(-n).toNat=0 by omega,Nat.pow_zero,Nat.mul_one]
  by_cases hq:0<pbV n
  ·rw[show(-(pbV n)).toNat=0 by omega,Nat.pow_zero,Nat.mul_one]
   refine high_pow ?_ (by unfold xHun;omega);unfold xHun xThi;omega
  ·rw[show(pbV n).toNat=0 by omega,Nat.pow_zero]
   exact Nat.mul_pos (Nat.pow_pos (by omega)) (Nat.pow_pos (by omega))
 ·rw[if_neg hn] at e
  rw[show(pbV n).toNat=0 by omega,Nat.pow_zero,Nat.one_mul,show n.toNat=0 by omega,Nat.pow_zero,Nat.one_mul]
  refine low_pow ?_;unfold xHun xThi;omega
theorem ten_parts (k:Nat):10^k=2^k*5^k:=by rw[←Nat.mul_pow]
theorem prQ_le {H C k:Nat}(hH:H<2*10^C)(hkC:k≤C):prQ H C k≤10^k:=by
 have hf:H/prU C k<10^k:=by
  unfold prU;rw[Nat.div_lt_iff_lt_mul (Nat.mul_pos (Nat.pow_pos (by omega)) (by omega))];have e:10^C=10^k*10^ (C-k):=by rw[←Nat.pow_add];congr 1;omega
  rw[e] at hH;rw[←Nat.mul_assoc,Nat.mul_comm _ 2];exact hH
 unfold prQ
 split<;>omega
def tenS:ByteArray:=⟨#[63,185,153,153,153,153,153,154]⟩
end Go.Proofs.YtpgijbdgljkeeaaGreatDoor

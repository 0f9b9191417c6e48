/- Texts laid together. -/
import Derived.Test.YthhiidikgchdeabGreatDoorLb01
import Derived.Test.YthhiidikgchdeabGreatDoorLb03
import Derived.Test.YthhiidikgchdeabGreatDoorLb04
set_option maxRecDepth 100000
namespace Go.Proofs.YthhiidikgchdeabGreatDoor
open _root_.Go.Proofs.Tryz
open Go.RowKit
theorem adl (B:Nat)(l:List Nat)(j:Nat)(a:0<B)(_hs:Dg.Small B l)(b:Dg.vl B l=0):l.getD j 0=0:=by
 by_cases h:j<l.length
 ·have c:=Dg.vl_split B l j h
  rw[b] at c;have d:B^j*l.getD j 0=0:=by
   rcases Nat.eq_zero_or_pos (l.getD j 0) with e|e
   ·rw[e,Nat.mul_zero]
   ·exfalso
    have g:0<B^j*l.getD j 0:=Nat.mul_pos (Nat.pow_pos a) e;have f:B^j*(l.getD j 0+B*Dg.vl B (l.drop (j+1)))=0:=by omega
    rw[Nat.mul_add] at f;omega
  rcases Nat.mul_eq_zero.1 d with e|e
  ·exact absurd e (Nat.ne_of_gt (Nat.pow_pos a))
  ·exact e
 ·simp[List.getD_eq_getElem?_getD,show l.length≤j from by omega]
theorem jC (v:Value)(zs:List Nat)(w:World)(h:Rd w .u32 v zs):
  yC 72 #[v] w fun e w'=>e= .returned (yi (chk zs))∧w'=w:=by
 obtain⟨n,cap,rfl,o,m,c⟩:=h;unfold maxLen at m
 by_cases l:zs.length=0
 ·have a:zs=[]:=List.eq_nil_of_length_eq_zero l
  subst a
  go_enter func72,ntmps72
  go_wp2
  go_ret
  exact⟨rfl,rfl⟩
 ·obtain⟨b,p,rfl,f⟩:=c (by omega)
  have i:=f (zs.length-1) (by omega)
  by_cases a:zs.getD (zs.length-1) 0=0
  ·have j:chk zs=1:=Oq (by omega) a
   rw[j];rw[a] at i;clear f c j a
   go_enter func72,ntmps72
   go_wp2
   go_ret
   exact⟨rfl,rfl⟩
  ·obtain⟨d,g⟩: ∃d,zs.getD (zs.length-1) 0=d:=⟨_,rfl⟩
   by_cases k:1200<zs.length
   ·rw[Ot a k]
    rw[g] at i a;clear f c g
    go_enter func72,ntmps72
    go_wp2
    go_ret
    exact⟨rfl,rfl⟩
   ·rw[ZT a k]
    rw[g] at i a;clear f c g
    go_enter func72,ntmps72
    go_wp2
    go_ret
    exact⟨rfl,rfl⟩
def acQ (zs cur:List Nat)(d k r:Nat):Prop:=
 cur.length=zs.length∧Dg.Small 4294967296 cur∧r<d∧(∀j,j<k→cur.getD j 0=zs.getD j 0)∧Dg.vl 4294967296 (zs.drop k)=Dg.vl 4294967296 (cur.drop k)*d+r
theorem Tryz.infoU8:(Tryz.prog.info? 5).map (fun i=>(i.zero,i.size,i.bytes))=some (some (.int .u8 0),1,1):=by kernel_rfl
theorem qP {B:Nat}{l:List Nat}{x:Nat}(h:Dg.Small B l)(c:x<B):Dg.Small B (l++[x]):=by
 intro i;rw[List.getD_eq_getElem?_getD,List.getElem?_append]
 by_cases a:i<l.length
 ·rw[if_pos a];simpa[List.getD_eq_getElem?_getD] using h i
 ·rw[if_neg a]
  by_cases b:i-l.length=0
  ·simp[b];exact c
  ·rw[List.getElem?_eq_none (by simp;omega)];simp;omega
theorem aF {zs:List Nat}(h:chk zs=0):Dg.Norm zs∧zs.length≤1200:=by
 unfold chk at h
 by_cases a:0<zs.length∧zs.getD (zs.length-1) 0=0
 ·rw[if_pos a] at h;omega
 ·rw[if_neg a] at h
  by_cases b:1200<zs.length
  ·rw[if_pos b] at h;omega
  ·refine⟨fun c e=>a ⟨List.length_pos_iff.2 c,e⟩,by omega⟩
theorem pJ {zs:List Nat}(h:Dg.Norm zs)(a:zs.length≤1200):chk zs=0:=by
 unfold chk;rw[if_neg (fun c=>h (List.length_pos_iff.1 c.1) c.2),if_neg (by omega)]
theorem I0 (B:Nat)(l:List Nat)(c:Dg.Norm l)(k:Nat)(h:k<l.length)(b:0<B):B^k≤Dg.vl B l:=by
 have a:=Dg.vl_ge B l (by intro e;subst e;simp at h) c;exact Nat.le_trans (Nat.pow_le_pow_right b (by omega)) a
theorem oZ {xs:List Nat}(a:Dg.Small 4294967296 xs):Dg.vl 4294967296 xs<65536^ (2*xs.length):=by
 rw[JJ];exact Dg.vl_lt _ _ a
theorem zX {xs:List Nat}(a:Dg.Small 4294967296 xs):(Dg.dg 65536 (Dg.vl 4294967296 xs)).length≤2*xs.length:=
 Dg.dg_len_le _ _ _ (by omega) (oZ a)
theorem C6 (b a:Nat)(f:a<16):(List.replicate (b+1) 0).set b (2^a)=Dg.dg 65536 (2^ (16*b+a)):=by
 have c:2^a<65536:=by
  have:2^a≤2^15:=Nat.pow_le_pow_right (by omega) (by omega);omega
 have e:0<2^a:=Nat.pow_pos (by omega);refine Dg.eq_dg 65536 (by omega) _ _ (Dg.small_set (Dg.small_replicate _ _ (by omega)) _ _ c) (fun _=> ?_) ?_
 ·simp only[List.length_set,List.length_replicate,Nat.add_sub_cancel]
  rw[Dg.getD_set _ _ _ _ (by simp),if_pos rfl];omega
 ·have:=Dg.vl_set 65536 (List.replicate (b+1) 0) b (2^a) (by simp)
  have d:(List.replicate (b+1) 0).getD b 0=0:=by simp[List.getD_eq_getElem?_getD]
  rw[d,Dg.vl_replicate_zero] at this;rw[Nat.pow_add,Nat.pow_mul,show(2:Nat)^16=65536 from by decide]
  omega
theorem Fr (n:Nat):(Dg.dg 65536 (2^n)).length≤n/16+1:=by
 refine Dg.dg_len_le _ _ _ (by omega) ?_;rw[show(65536:Nat)=2^16 from by decide,←Nat.pow_mul]
 exact Nat.pow_lt_pow_right (by omega) (by omega)
theorem Vp (x k a:Nat)(w:World)(g:((x:Int)==0)=false)
  (b:bits BinOp.and IntKind.u32 x (-(x:Int) % 4294967296)*125613361 % 4294967296/134217728=(a:Int))
  (d:a<32) (f:k<32) (c:w.cell? ⟨0,a,none⟩=some (.int .u8 k)):
  yC 125 #[.int .u32 x] w fun e w'=>e= .returned (yi k)∧w'=w:=by
 go_enter func125,ntmps125
 go_wp2_with (simp only[b])
 go_ret
 exact⟨rfl,rfl⟩
theorem jZ (n k L j:Nat)(h:(Dg.dg 65536 n).length≤L)(l:k≤16*j):(Dg.dg 65536 (n*2^k)).length≤L+j:=by
 apply Dg.dg_len_le 65536 _ _ (by omega);have a:=Dg.vl_lt 65536 (Dg.dg 65536 n) (Dg.small_dg _ _ (by omega));rw[Dg.vl_dg _ _ (by omega)] at a;have f:65536^ (Dg.dg 65536 n).length≤65536^L:=Nat.pow_le_pow_right (by omega) h;have b:2^k≤65536^j:=by
  rw[show(65536:Nat)=2^16 from rfl,←Nat.pow_mul]
  exact Nat.pow_le_pow_right (by omega) (by omega)
 rw[Nat.pow_add];have e:0<65536^j:=Nat.pow_pos (by omega);generalize 65536^j=c at*;generalize 65536^L=d at*;have g:n*2^k≤n*c:=Nat.mul_le_mul_left _ b;have i:n*c<d*c:=Nat.mul_lt_mul_of_pos_right (by omega) e;omega
theorem og (x y L:Nat)(c:(Dg.dg 65536 x).length≤L)(d:(Dg.dg 65536 y).length≤L):(Dg.dg 65536 (x+y)).length≤L+1:=by
 apply Dg.dg_len_le 65536 _ _ (by omega);have a:=Dg.vl_lt 65536 (Dg.dg 65536 x) (Dg.small_dg _ _ (by omega));have b:=Dg.vl_lt 65536 (Dg.dg 65536 y) (Dg.small_dg _ _ (by omega));rw[Dg.vl_dg _ _ (by omega)] at a b;have e:65536^ (Dg.dg 65536 x).length≤65536^L:=Nat.pow_le_pow_right (by omega) c;have f:65536^ (Dg.dg 65536 y).length≤65536^L:=Nat.pow_le_pow_right (by omega) d;rw[Nat.pow_succ];omega
theorem len_zero (n:Nat):(((Dg.dg 65536 n).length:Int)==0)=decide (n=0):=by
 have a:=Dg.dg_nil_iff 65536 n (by omega)
 by_cases h:n=0
 ·rw[decide_eq_true h,a.2 h];rfl
 ·rw[decide_eq_false h];simp;exact fun e=>h (a.1 e)
theorem nt {n:Nat}{e:Int}(h:(Dg.dg 4294967296 n).length≤1200)(a: -20000≤e)(b:e≤20000):aS (Dg.dg 4294967296 n) e=0:=by
 unfold aS;rw[pJ (Dg.norm_dg _ _ (by omega)) h,if_pos rfl,if_neg (by omega)]
theorem Nq (x:Nat):Dg.vl 4294967296 [x % 4294967296,x/4294967296]=x:=by
 simp only[Dg.vl];omega
theorem aO {xs:List Nat}{e:Int}(h:aS xs e=0)(f:Dg.Small 4294967296 xs):Dg.Norm xs∧Dg.dg 4294967296 (Dg.vl 4294967296 xs)=xs∧xs.length≤1200∧ -20000≤e∧e≤20000:=by
 obtain⟨b,c,d⟩:=bL h;obtain⟨a,g⟩:=aF b;exact⟨a,(Dg.eq_dg 4294967296 (by omega) xs _ f a rfl).symm,g,c,d⟩
def acc (R cur ys:List Nat)(i t b:Nat):Prop:=
 cur.length=R.length∧Dg.Small 4294967296 cur∧(∀j,i+ys.length<j→cur.getD j 0=R.getD j 0)∧b≤1∧Dg.vl 4294967296 cur+4294967296^i*(Dg.vl 4294967296 ys*t)=Dg.vl 4294967296 R+4294967296^ (i+ys.length+1)*b
def Py (R cur ys:List Nat)(i o:Nat):Prop:=
 cur.length=R.length∧Dg.Small 4294967296 cur∧(∀j,i+ys.length<j→cur.getD j 0=R.getD j 0)∧o≤1∧Dg.vl 4294967296 cur+4294967296^ (i+ys.length+1)*o=Dg.vl 4294967296 R+4294967296^i*Dg.vl 4294967296 ys
theorem V8 (n D:Nat)(g:1≤n)(f:4294967296^ (n-1)≤D)(d:D<4294967296^n):(Dg.dg 4294967296 D).length=n:=by
 have a:=Dg.dg_len_le 4294967296 D n (by omega) d;have b:=Dg.vl_lt 4294967296 _ (Dg.small_dg 4294967296 D (by omega));rw[Dg.vl_dg 4294967296 D (by omega)] at b;have c:n-1< (Dg.dg 4294967296 D).length:=by
  rcases Nat.lt_or_ge (n-1) (Dg.dg 4294967296 D).length with e|e
  ·exact e
  ·have:=Nat.pow_le_pow_right (n:=4294967296) (by omega) e
   omega
 omega
theorem RI (X a s:Nat)(h:X<4294967296^a)(e:s<32):(Dg.dg 4294967296 (X*2^s)).length≤a+1:=by
 apply Dg.dg_len_le 4294967296 _ _ (by omega);have b:2^s≤4294967296:=by have:2^s≤2^32:=Nat.pow_le_pow_right (by omega) (by omega);omega
 rw[Nat.pow_succ];have c:X*2^s<4294967296^a*2^s:=Nat.mul_lt_mul_of_pos_right h (Nat.pow_pos (by omega));have d:4294967296^a*2^s≤4294967296^a*4294967296:=Nat.mul_le_mul_left _ b;omega
def Jm (A D M:Nat)(R os:List Nat)(N k:Nat):Prop:=
 R.length=N∧os.length=M∧Dg.Small 4294967296 R∧Dg.Small 4294967296 os∧(∀j,j<k→os.getD j 0=0)∧D*Dg.vl 4294967296 os+Dg.vl 4294967296 R=A∧Dg.vl 4294967296 R<D*4294967296^k
theorem Iv {A D M N i q:Nat}{R b a:List Nat}(h:Jm A D M R b N (i+1))(t:i<M)(m:q<4294967296)(v:a.length=R.length)(o:Dg.Small 4294967296 a)
  (n:Dg.vl 4294967296 a+4294967296^i*(D*q)=Dg.vl 4294967296 R) (l:Dg.vl 4294967296 a<D*4294967296^i):Jm A D M a (b.set i q) N i:=by
 obtain⟨p,f,r,g,c,k,s⟩:=h;refine⟨by omega,by simpa using f,o,Dg.small_set g _ _ m,fun j u=> ?_, ?_,l⟩
 ·rw[Dg.getD_set _ _ _ _ (by omega),if_neg (by omega)];exact c j (by omega)
 ·have d:=Dg.vl_set 4294967296 b i q (by omega)
  rw[c i (by omega),Nat.mul_zero,Nat.add_zero] at d;rw[d,Nat.mul_add,←k,←n];have e:D*(4294967296^i*q)=4294967296^i*(D*q):=by rw[←Nat.mul_assoc,←Nat.mul_assoc,Nat.mul_comm D]
  rw[e];omega
theorem acV (l:List Nat)(n:Nat):Dg.vl 4294967296 (l++List.replicate n 0)=Dg.vl 4294967296 l:=by
 rw[Dg.vl_append,Dg.vl_zeros 4294967296 (List.replicate n 0) (fun i=>by
  by_cases h:i<n
  ·simp[List.getD_eq_getElem?_getD,h]
  ·simp[List.getD_eq_getElem?_getD,h]),Nat.mul_zero,Nat.add_zero]
theorem TM {l m:List Nat}(h:Dg.Small 4294967296 l)(k:Dg.Small 4294967296 m):Dg.Small 4294967296 (l++m):=by
 intro i
 by_cases a:i<l.length
 ·have:=h i
  simpa[List.getD_eq_getElem?_getD,List.getElem?_append_left a] using this
 ·have:=k (i-l.length)
  simpa[List.getD_eq_getElem?_getD,List.getElem?_append_right (Nat.le_of_not_lt a)] using this
theorem CV (n:Nat):Dg.Small 4294967296 (List.replicate n 0):=by
 intro i
 by_cases h:i<n
 ·simp[List.getD_eq_getElem?_getD,h]
 ·simp[List.getD_eq_getElem?_getD,h]
theorem Xs {X Y s M N:Nat}{R c:List Nat}(i:0<Y)(h:Jm (X*2^s) (Y*2^s) M R c N 0):Dg.vl 4294967296 c=X/Y∧Dg.vl 4294967296 R/2^s=X % Y:=by
 obtain⟨-,-,-,-,-,f,a⟩:=h;rw[Nat.pow_zero,Nat.mul_one] at a;have b:0<2^s:=Nat.pow_pos (by omega);have g:0<Y*2^s:=Nat.mul_pos i b;have d:X*2^s/(Y*2^s)=Dg.vl 4294967296 c:=by
  rw[←f,Nat.mul_add_div g,Nat.div_eq_of_lt a,Nat.add_zero]
 have e:X*2^s % (Y*2^s)=Dg.vl 4294967296 R:=by
  rw[←f,Nat.mul_add_mod,Nat.mod_eq_of_lt a]
 rw[Nat.mul_div_mul_right _ _ b] at d;rw[Nat.mul_mod_mul_right] at e;refine⟨d.symm, ?_⟩;rw[←e,Nat.mul_div_cancel _ b]
theorem nF {xs:List Nat}(d:Dg.Small 4294967296 xs)(h:chk xs=0)(b: ¬xs.length=0):Dg.vl 4294967296 xs≠0:=fun c=>by
 have a:Dg.dg 4294967296 (Dg.vl 4294967296 xs)=xs:=Dg.dg_vl _ (by omega) _ d (aF h).1;rw[c] at a;rw[←a] at b;exact b rfl
theorem jq {d k L:Nat}(h:d<2^k)(a:k≤32*L):(Dg.dg 4294967296 d).length≤L:=by
 refine Dg.dg_len_le 4294967296 _ _ (by omega) (Nat.lt_of_lt_of_le h ?_);rw[show(4294967296:Nat)=2^32 from by decide,←Nat.pow_mul]
 exact Nat.pow_le_pow_right (by omega) a
theorem len_pow {m k:Nat}(h:m≤2^k)(a:k≤60000):(Dg.dg 4294967296 m).length≤1900:=
 jq (k:=k+1) (Nat.lt_of_le_of_lt h (Nat.pow_lt_pow_right (by omega) (by omega))) (by omega)
theorem len_big {m k:Nat}(h:m≤(k+2)*2^k)(a:k≤60000):(Dg.dg 4294967296 m).length≤1900:=jq (big_pow h a) (by omega)
theorem dg_ne {d:Nat}(h:0<d):Dg.dg 4294967296 d≠[]:=fun e=>by
 have:=(Dg.dg_nil_iff 4294967296 d (by omega)).1 e;omega
def lg (u:Rat)(n:Nat):Rat:=rs (lgt u) n
def gs (u:Rat)(n:Nat):Rat:=rs (rp u) n
def glR (t:Rat)(n:Nat):Rat:=er (lg t n) n*(1-t)
def aw (w:Rat)(n:Nat):Rat:=rs (awt w) n
def ta (w:Rat)(n:Nat):Rat:=rs (fun j=>sgj j*awt w j) n
def CxN.la (n:Nat):Rat:=18*aw (1/26) n+2*aw (-1/4801) n+8*aw (1/8749) n
def CxN.qa (n:Nat):Rat:=8*ta (1/5) n+2*ta (-(1/239)) n
def CxN.qb (n:Nat):Rat:=24*ta (1/18) n+16*ta (1/57) n+10*ta (-(1/239)) n
theorem tm_exp (u:Rat): ∀k,prE u k=tmS u cExp k
 |0=>rfl
 |k+1=>by
  simp only[prE,tmS,cExp,tm_exp u k]
  grind
structure IvN.Cut (d:Rat) (S S':IvN):Prop where
 lo:S'.lo≤S.lo
 hi:S.hi≤S'.hi
 lo':S.lo-S'.lo≤d*ab S.lo
 hi':S'.hi-S.hi≤d*ab S.hi
 pow: ∀k,S.inn (hf k)→S'.inn (hf k)
theorem IvN.Cut.has {d:Rat}{S a:IvN}(h:Cut d S a){x:Rat}(g:S.has x):a.has x:=⟨Rat.le_trans h.lo g.1,Rat.le_trans g.2 h.hi⟩
def awg (tn:Nat)(w:Rat)(n:Nat):Rat:=rs (fun j=>sgt tn j*awt w j) n
theorem sq_ab (g:Bool)(x:Rat):ab (sqT g*x)=ab x:=by
 cases g<;>simp only[sqT,Bool.false_eq_true,if_false,if_true]<;>unfold ab<;>grind
theorem cut_negR {d:Rat}{S a:IvN}(c:IvN.Cut d S a):IvN.Cut d (IvN.neg S) (IvN.neg a):=by
 have e:=c.lo;have f:=c.hi;have g:=c.lo';have h:=c.hi';refine⟨?_, ?_, ?_, ?_,fun k b=> ?_⟩
 ·show-a.hi≤ -S.hi;grind
 ·show-S.lo≤ -a.lo;grind
 ·show-S.hi- -a.hi≤d*ab (-S.hi);rw[ab_neg];grind
 ·show-a.lo- -S.lo≤d*ab (-S.lo);rw[ab_neg];grind
 ·have l: -(hf k)≤ -S.hi∧ -S.lo≤hf k:=b
  obtain⟨i,j⟩:=c.pow k ⟨by grind,by grind⟩;exact⟨by show-(hf k)≤ -a.hi;grind,by show-a.lo≤hf k;grind⟩
def lgV (p:Int)(X:Rat)(n:Nat):Rat:=2*aw X n+(p:Rat)*CxN.la n
theorem mJ {n:Nat}:(Dg.dg 4294967296 n).length=0↔n=0:=by
 rw[List.length_eq_zero_iff,Dg.dg_nil_iff _ _ (by omega)]
theorem UI {d k L:Nat}(h:d≤2^k)(a:k+1≤16*L):(Dg.dg 65536 d).length≤L:=by
 refine Dg.dg_len_le 65536 _ _ (by omega) (Nat.lt_of_le_of_lt h ?_);rw[show(65536:Nat)=2^16 from by decide,←Nat.pow_mul]
 exact Nat.pow_lt_pow_right (by omega) (by omega)
end Go.Proofs.YthhiidikgchdeabGreatDoor

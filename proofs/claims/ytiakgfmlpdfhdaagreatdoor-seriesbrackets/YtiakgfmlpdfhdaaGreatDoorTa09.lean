/-
  Texts laid together: Dz, Leaf, Div1, DivBy, Begun, Laws1, Dy1, Dy2, Dy3, Co1, Co9, Co6, Dy6, Dy7, Dr2, Dr3a, Dp2, Bl7, Dk1, Bs2, Bs1, Co11, Co15, Over, Gr2, Gk3, Sp1, Sp2, Sp3, Co17, Co18, Cr9, Rk1, Sr1, BlM, Bl4, Bl12, Bl18, Sr2, Sr3, Br3, Br4.
-/
import Derived.Deep.CutBlock
import Derived.Maps.AppendAt
import Derived.Test.YtiakgfmlpdfhdaaGreatDoorTa01
import Derived.Test.YtiakgfmlpdfhdaaGreatDoorTa02
import Derived.Test.YtiakgfmlpdfhdaaGreatDoorTa03
set_option maxRecDepth 100000
set_option maxHeartbeats 3200000
namespace Go.Proofs.YtiakgfmlpdfhdaaGreatDoor
open _root_.Go.Proofs.Tryz
open Go.RowKit
theorem eL {K:Nat}{a:ak}(ha: -(K:Int)≤a.e): -(K:Int)≤(bare a).e:=by
 unfold bare
 by_cases h:a.n=0
 ·rw[if_pos h];simp
 ·rw[if_neg h];simp only;omega
theorem adl (B:Nat)(l:List Nat)(j:Nat)(hB:0<B)(_hs:Dg.Small B l)(h0:Dg.vl B l=0):l.getD j 0=0:=by
 by_cases h:j<l.length
 ·have h1:=Dg.vl_split B l j h
  rw[h0] at h1;have h2:B^j*l.getD j 0=0:=by
   rcases Nat.eq_zero_or_pos (l.getD j 0) with e|e
   ·rw[e,Nat.mul_zero]
   ·exfalso
    have h3:0<B^j*l.getD j 0:=Nat.mul_pos (Nat.pow_pos hB) e;have h4:B^j*(l.getD j 0+B*Dg.vl B (l.drop (j+1)))=0:=by omega
    rw[Nat.mul_add] at h4;omega
  rcases Nat.mul_eq_zero.1 h2 with e|e
  ·exact absurd e (Nat.ne_of_gt (Nat.pow_pos hB))
  ·exact e
 ·simp[List.getD_eq_getElem?_getD,show l.length≤j from by omega]
theorem jC (v:Value)(zs:List Nat)(w:World)(h:Rd w .u32 v zs):
  yC 109 #[v] w fun e w'=>e= .returned (yi (chk zs))∧w'=w:=by
 obtain⟨ao,cap,rfl,hlc,hm,hc⟩:=h;unfold maxLen at hm
 by_cases h0:zs.length=0
 ·have hz:zs=[]:=List.eq_nil_of_length_eq_zero h0
  subst hz
  go_enter func109,ntmps109
  go_wp2
  go_ret
  exact⟨rfl,rfl⟩
 ·obtain⟨b,off,rfl,hcell⟩:=hc (by omega)
  have h1:=hcell (zs.length-1) (by omega)
  by_cases hz:zs.getD (zs.length-1) 0=0
  ·have e1:chk zs=1:=Oq (by omega) hz
   rw[e1];rw[hz] at h1;clear hcell hc e1 hz
   go_enter func109,ntmps109
   go_wp2
   go_ret
   exact⟨rfl,rfl⟩
  ·obtain⟨d,hd⟩: ∃d,zs.getD (zs.length-1) 0=d:=⟨_,rfl⟩
   by_cases hg:1200<zs.length
   ·rw[Ot hz hg]
    rw[hd] at h1 hz;clear hcell hc hd
    go_enter func109,ntmps109
    go_wp2
    go_ret
    exact⟨rfl,rfl⟩
   ·rw[ZT hz hg]
    rw[hd] at h1 hz;clear hcell hc hd
    go_enter func109,ntmps109
    go_wp2
    go_ret
    exact⟨rfl,rfl⟩
theorem fP (v:Value)(zs:List Nat)(w:World)(h:Rd w .u32 v zs):
  yC 79 #[v] w fun e w'=>e= .returned (yi (chk zs))∧w'=w:=by
 obtain⟨ao,cap,rfl,hlc,hm,hc⟩:=h;unfold maxLen at hm
 by_cases h0:zs.length=0
 ·have hz:zs=[]:=List.eq_nil_of_length_eq_zero h0
  subst hz
  go_enter func79,ntmps79
  go_wp2
  go_ret
  exact⟨rfl,rfl⟩
 ·obtain⟨b,off,rfl,hcell⟩:=hc (by omega)
  have h1:=hcell (zs.length-1) (by omega)
  by_cases hz:zs.getD (zs.length-1) 0=0
  ·have e1:chk zs=1:=Oq (by omega) hz
   rw[e1];rw[hz] at h1;clear hcell hc e1 hz
   go_enter func79,ntmps79
   go_wp2
   go_ret
   exact⟨rfl,rfl⟩
  ·obtain⟨d,hd⟩: ∃d,zs.getD (zs.length-1) 0=d:=⟨_,rfl⟩
   by_cases hg:1200<zs.length
   ·rw[Ot hz hg]
    rw[hd] at h1 hz;clear hcell hc hd
    go_enter func79,ntmps79
    go_wp2
    go_ret
    exact⟨rfl,rfl⟩
   ·rw[ZT hz hg]
    rw[hd] at h1 hz;clear hcell hc hd
    go_enter func79,ntmps79
    go_wp2
    go_ret
    exact⟨rfl,rfl⟩
theorem Vb (hi lo y:Nat)(w:World)(h1:hi<y)(h2:lo<4294967296)(h3:y<4294967296):
  yC 111 #[.int .u32 hi,.int .u32 lo,.int .u32 y] w (yR w (.tuple #[.int .u32 ((hi*4294967296+lo)/y:Nat),.int .u32 ((hi*4294967296+lo) % y:Nat)])):=by
 have hor:=KJ hi lo (by omega) h2;obtain⟨t,ht⟩: ∃t,hi*4294967296+lo=t:=⟨_,rfl⟩;have hq1:=I6 h1 h2 ht.symm;have htb:t<18446744073709551616:=by omega
 rw[ht] at hor⊢;have hr1:t % y<y:=Nat.mod_lt _ (by omega);obtain⟨q,hq⟩: ∃q,t/y=q:=⟨_,rfl⟩;obtain⟨r,hr⟩: ∃r,t % y=r:=⟨_,rfl⟩;have hqI:(t:Int)/(y:Int)=(q:Int):=by rw[←hq];exact(Int.natCast_ediv t y).symm
 have hrI:(t:Int) % (y:Int)=(r:Int):=by rw[←hr];exact(Int.natCast_emod t y).symm
 rw[hq] at hq1⊢;rw[hr] at hr1⊢;clear hq hr ht;have hd:decide (y≤hi)=false:=by simp;omega
 have hy:((y:Int) != 0)=true:=by rw[bne_iff_ne];omega
 go_enter func111,ntmps111
 go_wp2
 go_quiet (fail)
 go_wp2
 go_ret2
 exact⟨rfl,aL (Below.refl _ _) _⟩
theorem Ew {w w':World}(g:Option Nat)(h:yB w w'):w.grownBy w' g:=⟨h.os,h.tape,h.output,h.size,fun k hk _=>h.block k hk⟩
theorem aF {zs:List Nat}(h:chk zs=0):Dg.Norm zs∧zs.length≤1200:=by
 unfold chk at h
 by_cases h1:0<zs.length∧zs.getD (zs.length-1) 0=0
 ·rw[if_pos h1] at h;omega
 ·rw[if_neg h1] at h
  by_cases h2:1200<zs.length
  ·rw[if_pos h2] at h;omega
  ·refine⟨fun hne e=>h1 ⟨List.length_pos_iff.2 hne,e⟩,by omega⟩
theorem oZ {xs:List Nat}(sa:Dg.Small 4294967296 xs):Dg.vl 4294967296 xs<65536^ (2*xs.length):=by
 rw[JJ];exact Dg.vl_lt _ _ sa
theorem zX {xs:List Nat}(sa:Dg.Small 4294967296 xs):(Dg.dg 65536 (Dg.vl 4294967296 xs)).length≤2*xs.length:=
 Dg.dg_len_le _ _ _ (by omega) (oZ sa)
theorem Vp (x k idx:Nat)(w:World)(hx0:((x:Int)==0)=false)
  (key:bits BinOp.and IntKind.u32 x (-(x:Int) % 4294967296)*125613361 % 4294967296/134217728=(idx:Int))
  (hi:idx<32) (hk:k<32) (hcell:w.cell? ⟨0,idx,none⟩=some (.int .u8 k)):
  yC 97 #[.int .u32 x] w fun e w'=>e= .returned (yi k)∧w'=w:=by
 go_enter func97,ntmps97
 go_wp2_with (simp only[key])
 go_ret
 exact⟨rfl,rfl⟩
theorem Zx (l:List Nat)(k t m:Nat)(hk:k<l.length)(h: ∀j,j<k→l.getD j 0=0)(hd:l.getD k 0=2^t*(2*m+1))(ht:t<32):tz (Dg.vl 4294967296 l)=32*k+t:=by
 have h1:=Dg.vl_split 4294967296 l k hk;have h0:Dg.vl 4294967296 (l.take k)=0:=Dg.vl_zeros 4294967296 (l.take k) (fun i=>by
  by_cases hi:i<k
  ·have:=h i hi
   simpa[List.getD_eq_getElem?_getD,List.getElem?_take,hi] using this
  ·simp[List.getD_eq_getElem?_getD,List.getElem?_take,hi])
 rw[h0,hd,Nat.zero_add] at h1;obtain⟨u,hu⟩: ∃u,Dg.vl 4294967296 (l.drop (k+1))=u:=⟨_,rfl⟩;rw[hu] at h1;have e32:(4294967296:Nat)=2^t*(2*2^ (31-t)):=by
  have:(4294967296:Nat)=2^ (t+(1+(31-t))):=by rw[show t+(1+(31-t))=32 from by omega]
  rw[this,Nat.pow_add,Nat.pow_add,Nat.pow_one]
 have e1:(2:Nat)^ (32*k)=4294967296^k:=by rw[Nat.pow_mul]
 refine F8 (m:=m+2^ (31-t)*u) ?_;rw[h1,Nat.pow_add,e1,Nat.mul_assoc]
 congr 1
 generalize 2^ (31-t)=c at*;have e2:4294967296*u=2^t*(2*(c*u)):=by rw[e32];simp only[Nat.mul_assoc]
 rw[e2,←Nat.mul_add]
 congr 1
 omega
theorem iK (b:Bool)(ao:Option Addr)(n ca:Nat)(e:Int)(w:World):yC 22 #[ydV b (.slice ao n ca) e] w (yR w (ydV b (.slice ao n ca) e)):=by
 go_enter func22,ntmps22
 go_wp2
 go_returns
 exact⟨rfl,((Below.refl _ _).alloc (Nat.le_refl _) _).alloc (by simp[World.size_alloc]) _⟩
def bU (t:ak):ak×Int:=
 if 1200< (Dg.dg 4294967296 (bare t).n).length then(⟨false,0,0⟩,2) else if(bare t).e< -20000∨20000< (bare t).e then(⟨false,0,0⟩,3) else(bare t,0)
def gR (w:World)(r:ak×Int)(e:Ending)(w':World):Prop:=
 ∃s,e= .returned (.tuple #[ydV r.1.s s r.1.e,yi r.2])∧Own w' w.heap.size 49 .u32 s (Dg.dg 4294967296 r.1.n)∧yB w w'
def dK (n:Int):Int:=if n<1∨8<n then 0 else if n≤3 then 1 else if n≤5 then 2 else 3
def rdN:Nat→Nat
 |4=>16|5=>16|_=>2
def frN (k:Nat):Nat:=8*szN k-1-exN k
def kp (k:Nat):Nat:=2^exN k-1
def eH (zs:List Nat)(f:Nat):Nat→Nat
 |0=>0
 |n+1=>2*eH zs f n+fU zs (f+n)
theorem gZ (n L:Nat)(h:(Dg.dg 4294967296 n).length≤L):tz n≤32*L:=by
 by_cases h0:n=0
 ·subst h0;exact Nat.zero_le _
 ·obtain⟨m,hm⟩:=fO h0
  have h1:=Dg.vl_lt 4294967296 (Dg.dg 4294967296 n) (Dg.small_dg _ _ (by omega));rw[Dg.vl_dg _ _ (by omega)] at h1;have h2:4294967296^ (Dg.dg 4294967296 n).length≤4294967296^L:=Nat.pow_le_pow_right (by omega) h;have h3:(4294967296:Nat)^L=2^ (32*L):=by rw[Nat.pow_mul]
  have h4:2^tz n*1≤2^tz n*(2*m+1):=Nat.mul_le_mul_left _ (by omega);rw[←hm,Nat.mul_one] at h4;have h5:2^tz n<2^ (32*L):=by rw[←h3];omega
  exact Nat.le_of_lt ((Nat.pow_lt_pow_iff_right (by omega)).1 h5)
theorem RZ (x y L:Nat)(hx:(Dg.dg 4294967296 x).length≤L)(hy:(Dg.dg 4294967296 y).length≤L):(Dg.dg 4294967296 (x+y)).length≤L+1:=by
 apply Dg.dg_len_le 4294967296 _ _ (by omega);have h1:=Dg.vl_lt 4294967296 (Dg.dg 4294967296 x) (Dg.small_dg _ _ (by omega));have h2:=Dg.vl_lt 4294967296 (Dg.dg 4294967296 y) (Dg.small_dg _ _ (by omega));rw[Dg.vl_dg _ _ (by omega)] at h1 h2;have h3:4294967296^ (Dg.dg 4294967296 x).length≤4294967296^L:=Nat.pow_le_pow_right (by omega) hx;have h4:4294967296^ (Dg.dg 4294967296 y).length≤4294967296^L:=Nat.pow_le_pow_right (by omega) hy;rw[Nat.pow_succ];omega
theorem im (n L:Nat)(h:(Dg.dg 4294967296 n).length≤L):(Dg.dg 65536 n).length≤2*L:=by
 apply Dg.dg_len_le 65536 _ _ (by omega);have h1:=Dg.vl_lt 4294967296 (Dg.dg 4294967296 n) (Dg.small_dg _ _ (by omega));rw[Dg.vl_dg _ _ (by omega)] at h1;have h2:4294967296^ (Dg.dg 4294967296 n).length≤4294967296^L:=Nat.pow_le_pow_right (by omega) h;rw[JJ];omega
theorem jZ (n k L j:Nat)(h:(Dg.dg 65536 n).length≤L)(hk:k≤16*j):(Dg.dg 65536 (n*2^k)).length≤L+j:=by
 apply Dg.dg_len_le 65536 _ _ (by omega);have h1:=Dg.vl_lt 65536 (Dg.dg 65536 n) (Dg.small_dg _ _ (by omega));rw[Dg.vl_dg _ _ (by omega)] at h1;have h2:65536^ (Dg.dg 65536 n).length≤65536^L:=Nat.pow_le_pow_right (by omega) h;have h3:2^k≤65536^j:=by
  rw[show(65536:Nat)=2^16 from rfl,←Nat.pow_mul]
  exact Nat.pow_le_pow_right (by omega) (by omega)
 rw[Nat.pow_add];have h4:0<65536^j:=Nat.pow_pos (by omega);generalize 65536^j=c at*;generalize 65536^L=d at*;have h5:n*2^k≤n*c:=Nat.mul_le_mul_left _ h3;have h6:n*c<d*c:=Nat.mul_lt_mul_of_pos_right (by omega) h4;omega
theorem og (x y L:Nat)(hx:(Dg.dg 65536 x).length≤L)(hy:(Dg.dg 65536 y).length≤L):(Dg.dg 65536 (x+y)).length≤L+1:=by
 apply Dg.dg_len_le 65536 _ _ (by omega);have h1:=Dg.vl_lt 65536 (Dg.dg 65536 x) (Dg.small_dg _ _ (by omega));have h2:=Dg.vl_lt 65536 (Dg.dg 65536 y) (Dg.small_dg _ _ (by omega));rw[Dg.vl_dg _ _ (by omega)] at h1 h2;have h3:65536^ (Dg.dg 65536 x).length≤65536^L:=Nat.pow_le_pow_right (by omega) hx;have h4:65536^ (Dg.dg 65536 y).length≤65536^L:=Nat.pow_le_pow_right (by omega) hy;rw[Nat.pow_succ];omega
theorem len_zero (n:Nat):(((Dg.dg 65536 n).length:Int)==0)=decide (n=0):=by
 have n1:=Dg.dg_nil_iff 65536 n (by omega)
 by_cases h:n=0
 ·rw[decide_eq_true h,n1.2 h];rfl
 ·rw[decide_eq_false h];simp;exact fun e=>h (n1.1 e)
def iD (r q:ak×Int):ak×ak×Int:=if r.2=0 then if q.2=0 then(r.1,q.1,0) else(⟨false,0,0⟩,⟨false,0,0⟩,q.2) else(⟨false,0,0⟩,⟨false,0,0⟩,r.2)
theorem gf {a L:Nat}(h:(Dg.dg 4294967296 a).length≤L):bitLen a≤32*L:=by
 refine bF a _ ?_;rw[Nat.pow_mul];have h1:=Dg.vl_lt 4294967296 _ (Dg.small_dg 4294967296 a (by omega));rw[Dg.vl_dg _ _ (by omega)] at h1;exact Nat.lt_of_lt_of_le h1 (Nat.pow_le_pow_right (by omega) h)
def jE (w:World)(r:ak×ak×Int)(e:Ending)(w':World):Prop:=
 ∃p q,e= .returned (.tuple #[.agg #[.bool r.1.s,p,yi r.1.e,.bool r.2.1.s,q,yi r.2.1.e],yi r.2.2])∧Own w' w.heap.size 49 .u32 p (Dg.dg 4294967296 r.1.n)∧Own w' w.heap.size 49 .u32 q (Dg.dg 4294967296 r.2.1.n)∧yB w w'
theorem Qy (s:Bool)(ao:Option Addr)(la ca:Nat)(e:Int)(w:World):
  yC 101 #[ydV s (.slice ao la ca) e] w (yR w (.agg #[.bool s,.slice ao la ca,yi e,.bool s,.slice ao la ca,yi e])):=by
 go_enter func101,ntmps101
 go_wp2
 go_returns
 exact⟨rfl,((Below.refl _ _).alloc (Nat.le_refl _) _).alloc (by simp[World.size_alloc]) _⟩
def ac8 (w:World)(x:Nat→ak)(ao:Nat→Option Addr)(ca:Nat→Nat)(l h:Nat)(z:Ending)(w':World):Prop:=
 z= .returned (.agg #[.bool (x l).s,.slice (ao l) (Dg.dg 4294967296 (x l).n).length (ca l),yi (x l).e,.bool (x h).s,.slice (ao h) (Dg.dg 4294967296 (x h).n).length (ca h),yi (x h).e])∧yB w w'
def dh (k:Nat)(ng:Bool)(e f:Nat):Nat:=
 if k≤3 then(if e=0 then(if f=0 then 1 else 2) else if e=kp k then(if f=(if k=3 then 2^63 else 0) then 3 else 4) else if k=3∧f<2^63 then 4 else 2)
 else if k≤5 then(if f=0 then 1 else 2)
 else if e=0 then(if ng then 5 else 1) else 2
theorem Nq (x:Nat):Dg.vl 4294967296 [x % 4294967296,x/4294967296]=x:=by
 simp only[Dg.vl];omega
theorem zf (w:World)(base e d:Nat)(hb:base≤w.heap.size):Own (w.alloc (.cells #[.int .u32 d] e)) base e .u32 (.slice (some ⟨w.heap.size,0,none⟩) 1 1) [d]:=
 World.ownsRow_lit (e:=e) (size:=1) (base:=base) w #[.int .u32 d] 1 hb (by unfold maxLen;omega) rfl
def eZ (N:Nat)(n:Int):Nat:=if n<0 then N else N*2^n.toNat
def dX (M:Nat)(n:Int):Nat:=if n<0 then M*2^ (-n).toNat else M
theorem jq {d k L:Nat}(h:d<2^k)(hk:k≤32*L):(Dg.dg 4294967296 d).length≤L:=by
 refine Dg.dg_len_le 4294967296 _ _ (by omega) (Nat.lt_of_lt_of_le h ?_);rw[show(4294967296:Nat)=2^32 from by decide,←Nat.pow_mul]
 exact Nat.pow_le_pow_right (by omega) hk
def SpanV (w:World)(v:Value)(a b:ak):Prop:= ∃p q,v= .agg #[.bool a.s,p,yi a.e,.bool b.s,q,yi b.e]∧Rd w .u32 p (Dg.dg 4294967296 a.n)∧Rd w .u32 q (Dg.dg 4294967296 b.n)
theorem len_pow {m k:Nat}(h:m≤2^k)(hk:k≤60000):(Dg.dg 4294967296 m).length≤1900:=
 jq (k:=k+1) (Nat.lt_of_le_of_lt h (Nat.pow_lt_pow_right (by omega) (by omega))) (by omega)
theorem len_big {m k:Nat}(h:m≤(k+2)*2^k)(hk:k≤60000):(Dg.dg 4294967296 m).length≤1900:=jq (big_pow h hk) (by omega)
theorem dg_ne {d:Nat}(h:0<d):Dg.dg 4294967296 d≠[]:=fun e=>by
 have:=(Dg.dg_nil_iff 4294967296 d (by omega)).1 e;omega
theorem short_is {t:ak}{b:Nat}(hb:b≤1000)(hn:(bare t).n<2^b)(h1: -20000≤(bare t).e)(h2:(bare t).e≤20000):bU t=(bare t,0):=by
 unfold bU;have hl:(Dg.dg 4294967296 (bare t).n).length≤32:=jq hn (by omega);rw[if_neg (by omega),if_neg (by omega)]
theorem cut_e_le {t:ak}{E:Int}(h:(bare t).e≤E)(hE:E≤100000)(h0:0< (bare t).n):t.e≤100000:=by
 unfold bare at h h0
 by_cases c:t.n=0
 ·rw[if_pos c] at h0
  exact absurd h0 (by simp)
 ·rw[if_neg c] at h
  simp only at h;omega
def kt (k:Nat)(ng:Bool)(e f:Nat):Bool:=if dh k ng e f≤3 then ng else false
def dF (n:Int)(s:ByteArray):Int:=if dK n=0 then 6 else if s.size=szN n.toNat then 0 else 1
def ji (k:Nat)(ng:Bool)(E FF:Nat):ak:=
 if k=3 then(if E+1=2^exN k∨0<E∧FF<2^ (dgN k-1) then⟨false,0,0⟩ else bare ⟨ng,FF,wdI (rdN k)*(lsI k+(((E-1:Nat):Nat):Int))⟩)
 else if k≤2 then(if E+1=2^exN k then⟨false,0,0⟩ else bare ⟨ng,FF+(if 0<E then 2^ (dgN k-1) else 0),wdI (rdN k)*(lsI k+(((E-1:Nat):Nat):Int))⟩)
 else if k≤5 then bare ⟨ng,FF,wdI (rdN k)*(lsI k+(E:Int))⟩
 else(if E=0 then⟨false,0,0⟩ else bare ⟨ng,FF+2^ (dgN k-1),wdI (rdN k)*(lsI k+(E:Int)-1)⟩)
def ut (J:Int)(N1 M1:Nat)(E1:Int)(N2 M2:Nat)(E2:Int):Prop:=
 ∀j,J≤j→eZ N1 (E1-j)/dX M1 (E1-j)=eZ N2 (E2-j)/dX M2 (E2-j)∧(eZ N1 (E1-j) % dX M1 (E1-j)=0↔eZ N2 (E2-j) % dX M2 (E2-j)=0)
theorem ut.symm {J:Int}{N1 M1 N2 M2:Nat}{E1 E2:Int}(h:ut J N1 M1 E1 N2 M2 E2):ut J N2 M2 E2 N1 M1 E1:=fun j hj=>⟨(h j hj).1.symm,(h j hj).2.symm⟩
theorem two_lenS16 {d k L:Nat}(h:d≤2^k)(hk:k+1≤16*L):(Dg.dg 65536 d).length≤L:=by
 refine Dg.dg_len_le 65536 _ _ (by omega) (Nat.lt_of_le_of_lt h ?_);rw[show(65536:Nat)=2^16 from by decide,←Nat.pow_mul]
 exact Nat.pow_lt_pow_right (by omega) (by omega)
def RB6 (W:World)(v:Value)(x y:ak):Prop:= ∃p q,v= .agg #[.bool x.s,p,yi x.e,.bool y.s,q,yi y.e]∧Rd W .i64 p (Dg.dg 65536 x.n)∧Rd W .i64 q (Dg.dg 65536 y.n)
def cW (n c d:Int):Int:=if c=0 then kj n d else c
def fL:ak:=⟨false,0,0⟩
theorem LV {x y p q i j m:Nat}(hx:x<2^p)(hy:y<2^q)(h1:p+i≤m)(h2:q+j≤m):x*2^i+y*2^j<2^ (m+1):=by
 have a1:x*2^i<2^p*2^i:=Nat.mul_lt_mul_of_pos_right hx (Nat.pow_pos (by omega));have a2:y*2^j<2^q*2^j:=Nat.mul_lt_mul_of_pos_right hy (Nat.pow_pos (by omega));rw[←Nat.pow_add] at a1 a2;have b1:2^ (p+i)≤2^m:=Nat.pow_le_pow_right (by omega) h1;have b2:2^ (q+j)≤2^m:=Nat.pow_le_pow_right (by omega) h2;rw[Nat.pow_succ];omega
theorem dyad_lenS {n:Nat}(h:n<2^1000):(Dg.dg 4294967296 n).length≤32:=jq h (by omega)
theorem dyad_len16 {n:Nat}(h:n<2^1000):(Dg.dg 65536 n).length≤63:=two_lenS16 (Nat.le_of_lt h) (by omega)
def pw (k:Nat):Nat:=2^k
theorem pw_eq {a b:Nat}(h:a=b):2^a=pw b:=by rw[h];rfl
def leB (a b:Nat):Bool:=Nat.ble a b
def lgS (X:Nat):Nat:=Nat.log2 X
theorem of_leB {a b:Nat}(h:leB a b=true):a≤b:=Nat.le_of_ble_eq_true h
theorem lgS_eq (X:Nat):lgS X=Nat.log2 X:=rfl
theorem bare_dig {d m t:Nat}(hd:d=2^t*(2*m+1))(e:Int):bare ⟨false,d,e⟩=⟨false,2*m+1,e+t⟩:=by
 have h0:d≠0:=by
  rw[hd];exact Nat.ne_of_gt (Nat.mul_pos (Nat.pow_pos (by omega)) (by omega))
 unfold bare;rw[if_neg h0];simp only;rw[F8 hd,lI hd]
def bsN (F:Nat→Bool):Nat→Nat→Nat→Nat
 |0,i,_=>i
 |f+1,i,j=>if i<j then(if F ((i+j)/2)=true then bsN F f i ((i+j)/2) else bsN F f ((i+j)/2+1) j) else i
theorem search_any (q m:Nat)(F:Nat→Bool)(w:World)(hm:m≤4096)
  (HF: ∀(i:Nat) w1,i<m→yB w w1→yC 24 #[yi i,.pointer (some ⟨q,0,none⟩)] w1 (yR w1 (.bool (F i)))):
  yC 23 #[yi m,.func (.func 24) #[] #[.pointer (some ⟨q,0,none⟩)]] w (yR w (yi ((bsN F m 0 m:Nat):Int))):=by
 obtain⟨N,hN⟩: ∃N,bsN F m 0 m=N:=⟨_,rfl⟩;rw[hN];replace hN:Hid _:=hN;replace HF:Hid _:=HF
 go_enter func23,ntmps23
 go_wp2
 go_loopw [5,6] (fun iv jv wr=> ∃i j f:Nat,iv=yi i∧jv=yi (j:Int)∧i≤j∧j≤m∧j-i≤f∧bsN F f i j=N∧yB w wr) (fun iv jv _=>(intOf jv).toNat-(intOf iv).toNat)
 case atStart=>exact⟨0,m,m,rfl,rfl,Nat.zero_le _,Nat.le_refl _,Nat.le_refl _,hN.out,Below.refl _ _⟩
 case round=>
  obtain⟨i,j,f,rfl,rfl,hij,hjm,h1,h2,hb⟩:=hrel
  by_cases hlt:i<j
  ·obtain⟨f,rfl⟩: ∃k,f=k+1:=⟨f-1,by omega⟩
   unfold bsN at h2;rw[if_pos hlt] at h2;obtain⟨h,hh⟩: ∃h,(i+j)/2=h:=⟨_,rfl⟩;rw[hh] at h2;have hw0:IntKind.i64.wrap ((i:Int)+(j:Int))=(i:Int)+(j:Int):=IntWalk.i64_in _ ⟨by omega,by omega⟩;have hdiv:((i:Int)+(j:Int))/2=(h:Int):=by omega
   have h5:h<j:=by omega
   have h6:i≤h:=by omega
   have hc:Hid _:=HF.out h wr (by omega) hb;have hw2:IntKind.i64.wrap ((h:Int)+1)=(h:Int)+1:=IntWalk.i64_in _ ⟨by omega,by omega⟩;clear hh;have go: ∀b,F h=b→Hid (yC 24 #[yi (h:Int),.pointer (some ⟨q,0,none⟩)] wr (yR wr (.bool b))):=fun b hb=>by
    have:=hc.out;rw[hb] at this;exact this
   cases hf:F h
   ·have hg:=go false hf
    rw[hf,if_neg (by decide)] at h2;have hjf:j-(h+1)≤f:=by omega
    replace h2:Hid _:=h2;clear go hc hf h1
    go_wp2_with fail
    refine Calls.mono hg.out ?_;rintro z w1 ⟨rfl,b1⟩;have b2:=aa hb b1;clear hg hb b1
    go_wp2
    go_roundw
    case rel=>exact⟨h+1,j,f,by go_num,rfl,by omega,hjm,hjf,h2.out,b2⟩
    case measure=>simp[intOf];omega
   ·have hg:=go true hf
    rw[hf,if_pos rfl] at h2;have hjf:h-i≤f:=by omega
    replace h2:Hid _:=h2;clear go hc hf h1
    go_wp2_with fail
    refine Calls.mono hg.out ?_;rintro z w1 ⟨rfl,b1⟩;have b2:=aa hb b1;clear hg hb b1
    go_wp2
    go_roundw
    case rel=>exact⟨i,h,f,rfl,rfl,h6,by omega,hjf,h2.out,b2⟩
    case measure=>simp[intOf];omega
  ·obtain rfl:i=j:=by omega
   have hi:N=i:=by
    rw[←h2]
    cases f with
    |zero=>rfl
    |succ f=>unfold bsN;rw[if_neg (by omega)]
   replace hi:Hid _:=hi;clear h1 h2
   go_wp2
   go_ret
   exact⟨by rw[hi.out];rfl,hb⟩
def EndR (a:ak):Prop:=(Dg.dg 4294967296 a.n).length≤1200∧ -20000≤a.e∧a.e≤20000
end Go.Proofs.YtiakgfmlpdfhdaaGreatDoor

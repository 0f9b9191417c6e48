/- Texts laid together. -/
import Derived.Test.YthhiidikgchdeaaGreatDoorKs01
import Derived.Test.YthhiidikgchdeaaGreatDoorKs05
import Derived.Test.YthhiidikgchdeaaGreatDoorKs06
import Derived.Test.YthhiidikgchdeaaGreatDoorKs07
set_option maxRecDepth 100000
set_option maxHeartbeats 800000
namespace Go.Proofs.YthhiidikgchdeaaGreatDoor
open _root_.Go.Proofs.Tryz
open Go.RowKit
theorem adl (B:Nat)(l:List Nat)(j:Nat)(a:0<B)(_hs:Dg.Small B l)(b:Dg.vl B l=0):l.getD j 0=0:=by
 by_cases h:j<l.length
 ·have c:=Dg.vl_split B l j h
  rw[b] at c;have d:B^j*l.getD j 0=0:=by
   rcases Nat.eq_zero_or_pos (l.getD j 0) with e|e
   ·rw[e,Nat.mul_zero]
   ·exfalso
    have g:0<B^j*l.getD j 0:=Nat.mul_pos (Nat.pow_pos a) e;have f:B^j*(l.getD j 0+B*Dg.vl B (l.drop (j+1)))=0:=by omega
    rw[Nat.mul_add] at f;omega
  rcases Nat.mul_eq_zero.1 d with e|e
  ·exact absurd e (Nat.ne_of_gt (Nat.pow_pos a))
  ·exact e
 ·simp[List.getD_eq_getElem?_getD,show l.length≤j from by omega]
abbrev yOL (c:Int)(g:Bool)(t:ak)(o:Option Addr)(k:Nat):List Value:=[.int .i64 c,.bool g,.bool t.s,.slice o (Dg.dg 4294967296 t.n).length k,.int .i64 t.e]
abbrev yOV (c:Int)(g:Bool)(t:ak)(o:Option Addr)(k:Nat):Value:= .agg #[.int .i64 c,.bool g,.bool t.s,.slice o (Dg.dg 4294967296 t.n).length k,.int .i64 t.e]
abbrev yOA (c:Int)(g:Bool)(t:ak)(o:Option Addr)(k:Nat):Array Value:= #[.int .i64 c,.bool g,.bool t.s,.slice o (Dg.dg 4294967296 t.n).length k,.int .i64 t.e]
abbrev yDL (t:ak)(o:Option Addr)(k:Nat):List Value:=[.bool t.s,.slice o (Dg.dg 4294967296 t.n).length k,.int .i64 t.e]
abbrev yDV (t:ak)(o:Option Addr)(k:Nat):Value:= .agg #[.bool t.s,.slice o (Dg.dg 4294967296 t.n).length k,.int .i64 t.e]
abbrev yDA (t:ak)(o:Option Addr)(k:Nat):Array Value:= #[.bool t.s,.slice o (Dg.dg 4294967296 t.n).length k,.int .i64 t.e]
theorem Vb (a b y:Nat)(w:World)(g:a<y)(f:b<4294967296)(k:y<4294967296):
  yC 172 #[.int .u32 a,.int .u32 b,.int .u32 y] w (yR w (.tuple #[.int .u32 ((a*4294967296+b)/y:Nat),.int .u32 ((a*4294967296+b) % y:Nat)])):=by
 have h:=KJ a b (by omega) f;obtain⟨t,e⟩: ∃t,a*4294967296+b=t:=⟨_,rfl⟩;have i:=I6 g f e.symm;have o:t<18446744073709551616:=by omega
 rw[e] at h⊢;have j:t % y<y:=Nat.mod_lt _ (by omega);obtain⟨q,c⟩: ∃q,t/y=q:=⟨_,rfl⟩;obtain⟨r,d⟩: ∃r,t % y=r:=⟨_,rfl⟩;have m:(t:Int)/(y:Int)=(q:Int):=by rw[←c];exact(Int.natCast_ediv t y).symm
 have n:(t:Int) % (y:Int)=(r:Int):=by rw[←d];exact(Int.natCast_emod t y).symm
 rw[c] at i⊢;rw[d] at j⊢;clear c d e;have l:decide (y≤a)=false:=by simp;omega
 have p:((y:Int) != 0)=true:=by rw[bne_iff_ne];omega
 go_enter func172,ntmps172
 go_wp2
 go_quiet (fail)
 go_wp2
 go_ret2
 exact⟨rfl,aL (Below.refl _ _) _⟩
theorem Ew {w w':World}(g:Option Nat)(h:yB w w'):w.grownBy w' g:=⟨h.os,h.tape,h.output,h.size,fun k a _=>h.block k a⟩
def acQ (zs cur:List Nat)(d k r:Nat):Prop:=
 cur.length=zs.length∧Dg.Small 4294967296 cur∧r<d∧(∀j,j<k→cur.getD j 0=zs.getD j 0)∧Dg.vl 4294967296 (zs.drop k)=Dg.vl 4294967296 (cur.drop k)*d+r
theorem Tx {zs a:List Nat}{d k r t:Nat}(h:acQ zs a d (k+1) r)(l:k<zs.length)(p:t=r*4294967296+zs.getD k 0)(i:0<d)(m:t/d<4294967296):
  acQ zs (a.set k (t/d)) d k (t % d):=by
 obtain⟨b,c,n,f,g⟩:=h;refine⟨by simpa using b,Dg.small_set c _ _ m,Nat.mod_lt _ i,fun j o=> ?_, ?_⟩
 ·rw[Dg.getD_set _ _ _ _ (by omega),if_neg (by omega)];exact f j (by omega)
 ·rw[AU zs k l,AU (a.set k (t/d)) k (by simpa using(by omega:k<a.length)),Dg.getD_set _ _ _ _ (by omega),if_pos rfl,List.drop_set_of_lt (by omega)]
  simp only[Dg.vl];rw[g];have:=Nat.div_add_mod t d;rw[Nat.add_mul,Nat.mul_comm (t/d) d,Nat.mul_assoc,Nat.mul_add];have e:r*4294967296=4294967296*r:=Nat.mul_comm _ _;omega
theorem Tryz.infoU8:(Tryz.prog.info? 5).map (fun i=>(i.zero,i.size,i.bytes))=some (some (.int .u8 0),1,1):=by kernel_rfl
theorem qP {B:Nat}{l:List Nat}{x:Nat}(h:Dg.Small B l)(c:x<B):Dg.Small B (l++[x]):=by
 intro i;rw[List.getD_eq_getElem?_getD,List.getElem?_append]
 by_cases a:i<l.length
 ·rw[if_pos a];simpa[List.getD_eq_getElem?_getD] using h i
 ·rw[if_neg a]
  by_cases b:i-l.length=0
  ·simp[b];exact c
  ·rw[List.getElem?_eq_none (by simp;omega)];simp;omega
theorem cE {w:World}{k:IntKind}{e:Nat}(zs:List Nat)(a:Array Value)(b:a=(zs.map (fun n:Nat=>Value.int k (n:Int))).toArray)(d:zs.length≤maxLen):
  Rd (w.alloc (.cells a e)) k (.slice (some ⟨w.heap.size,0,none⟩) zs.length zs.length) zs:=by
 refine⟨_,zs.length,rfl,Nat.le_refl _,d,fun _=>⟨w.heap.size,0,rfl,fun i c=> ?_⟩⟩
 rw[World.cell?_alloc_at _ _ _ _ rfl,b,Nat.zero_add];simp only[List.getElem?_toArray];exact j9 k zs i c
theorem iW {w wr b:World}{e x:Nat}{k:IntKind}{a:List Nat}{f v':Value}(d:yB w wr)(j:Own wr w.heap.size e k f a)
  (i:b.ownsRow w.heap.size e 1 v' (a.length+1) ((a.map (fun n:Nat=>Value.int k (n:Int)))++[.int k x]))
  (g:(wr.alloc (.cells #[.int k x] e)).grownBy b f.ownBlock):
  Own b w.heap.size e k v' (a++[x])∧yB w b:=by
 have c:yB wr (wr.alloc (.cells #[.int k x] e)):=(Below.refl _ _).alloc (Nat.le_refl _) _;refine⟨?_, ?_⟩
 ·unfold Own
  simpa using i
 ·refine(aa d c).grown g (Nat.le_trans d.size c.size) (fun k h=> ?_)
  exact(World.ownsRow.lt j k h).1
theorem I0 (B:Nat)(l:List Nat)(c:Dg.Norm l)(k:Nat)(h:k<l.length)(b:0<B):B^k≤Dg.vl B l:=by
 have a:=Dg.vl_ge B l (by intro e;subst e;simp at h) c;exact Nat.le_trans (Nat.pow_le_pow_right b (by omega)) a
def abk (xs ys ps:List Nat)(k c:Nat):Prop:=
 ps.length=k∧Dg.Small 65536 ps∧c≤1∧Dg.vl 65536 ps+65536^k*c=Dg.vl 65536 (xs.take k)+Dg.vl 65536 (ys.take k)∧(0<k→65536^ (k-1)≤Dg.vl 65536 xs+Dg.vl 65536 ys)
theorem Yx {xs b a:List Nat}{k c:Nat}(h:abk xs b a k c)(m: ¬(k<xs.length∨k<b.length∨0<c)):a=Dg.dg 65536 (Dg.vl 65536 xs+Dg.vl 65536 b):=by
 obtain⟨d,e,l,f,g⟩:=h;have i:c=0:=by omega
 subst i;rw[List.take_of_length_le (by omega),List.take_of_length_le (by omega)] at f;refine Dg.eq_dg 65536 (by omega) _ _ e (Dg.norm_of_ge 65536 a e (fun j=> ?_)) (by omega)
 have:=g (by rw[←d];exact List.length_pos_iff.2 j);rw[d];omega
def QA (xs ys ps:List Nat)(k c:Nat):Prop:=
 ps.length=k∧Dg.Small 65536 ps∧c≤1∧Dg.vl 65536 (xs.take k)+65536^k*c=Dg.vl 65536 ps+Dg.vl 65536 (ys.take k)
theorem Nl {xs a b:List Nat}{c:Nat}(h:QA xs a b xs.length c)(j:a.length≤xs.length)(m:Dg.vl 65536 a≤Dg.vl 65536 xs):Dg.vl 65536 b=Dg.vl 65536 xs-Dg.vl 65536 a:=by
 obtain⟨d,f,l,g⟩:=h;rw[List.take_of_length_le (Nat.le_refl xs.length),List.take_of_length_le j] at g;have k:=Dg.vl_lt 65536 b f;rw[d] at k;have i:c=0:=by
  rcases Nat.eq_zero_or_pos c with e|e
  ·exact e
  ·have:c=1:=by omega
   subst this;omega
 subst i;omega
theorem IL (B:Nat)(b:Nat)(f:B=2^b)(k:1<B)(zs:List Nat)(j:Dg.Small B zs)(g:Dg.Norm zs)(e:zs≠[]):bitLen (Dg.vl B zs)=b*(zs.length-1)+bitLen (zs.getD (zs.length-1) 0):=by
 have l:0<zs.length:=List.length_pos_iff.2 e;have a:=Dg.vl_split B zs (zs.length-1) (by omega);rw[show zs.length-1+1=zs.length from by omega,List.drop_of_length_le (Nat.le_refl _)] at a
 simp only[Dg.vl,Nat.mul_zero,Nat.add_zero] at a;have d:=Dg.vl_lt B (zs.take (zs.length-1)) (Dg.small_take j _ (by omega));rw[List.length_take,Nat.min_eq_left (by omega)] at d;have i:B^ (zs.length-1)=2^ (b*(zs.length-1)):=by rw[f,Nat.pow_mul]
 have c:Dg.vl B zs/2^ (b*(zs.length-1))=zs.getD (zs.length-1) 0:=by
  rw[←i,a,Nat.add_comm,Nat.mul_add_div (Nat.pow_pos (by omega)),Nat.div_eq_of_lt d,Nat.add_zero]
 have h:=g e;rw[bitLen_shift _ (b*(zs.length-1)) (by rw[c];exact h),c]
theorem XR (P Q:Nat)(l:List Nat)(k:Nat)(h:k<l.length):(low P Q l).take (k+1)=(low P Q l).take k++[l.getD k 0/P+l.getD (k+1) 0 % P*Q]:=by
 rw[Dg.take_succ' _ k (by rw[mA];exact h),Gb P Q l k h]
theorem Ug (P Q:Nat)(l:List Nat)(a:P*Q=65536)(f:Dg.Small 65536 l):Dg.Small 65536 (low P Q l):=by
 intro j
 by_cases d:j<l.length
 ·rw[Gb P Q l j d]
  have b:0<P:=by
   rcases Nat.eq_zero_or_pos P with e|e
   ·subst e;simp at a
   ·exact e
  have g:l.getD j 0/P<Q:=by rw[Nat.div_lt_iff_lt_mul b,Nat.mul_comm,a];exact f j
  have c:(l.getD (j+1) 0 % P+1)*Q≤P*Q:=Nat.mul_le_mul_right _ (Nat.mod_lt _ b);rw[Nat.add_mul,a] at c;omega
 ·rw[Dg.getD_of_le _ _ (by rw[mA];omega)];omega
theorem aa7 (B:Nat)(b:0<B)(xs:List Nat)(a:Nat)(d:a≤xs.length)(f:Dg.Small B xs):Dg.vl B (xs.drop a)=Dg.vl B xs/B^a:=by
 have e:=Dg.vl_take_drop B xs a d;have c:=Dg.vl_lt B (xs.take a) (Dg.small_take f _ b);rw[List.length_take,Nat.min_eq_left d] at c;rw[e,Nat.add_comm,Nat.mul_add_div (Nat.pow_pos b),Nat.div_eq_of_lt c,Nat.add_zero]
theorem Vp (x k a:Nat)(w:World)(g:((x:Int)==0)=false)
  (b:bits BinOp.and IntKind.u32 x (-(x:Int) % 4294967296)*125613361 % 4294967296/134217728=(a:Int))
  (d:a<32) (f:k<32) (c:w.cell? ⟨0,a,none⟩=some (.int .u8 k)):
  yC 151 #[.int .u32 x] w fun e w'=>e= .returned (yi k)∧w'=w:=by
 go_enter func151,ntmps151
 go_wp2_with (simp only[b])
 go_ret
 exact⟨rfl,rfl⟩
theorem Zx (l:List Nat)(k t m:Nat)(o:k<l.length)(h: ∀j,j<k→l.getD j 0=0)(n:l.getD k 0=2^t*(2*m+1))(q:t<32):tz (Dg.vl 4294967296 l)=32*k+t:=by
 have a:=Dg.vl_split 4294967296 l k o;have g:Dg.vl 4294967296 (l.take k)=0:=Dg.vl_zeros 4294967296 (l.take k) (fun i=>by
  by_cases b:i<k
  ·have:=h i b
   simpa[List.getD_eq_getElem?_getD,List.getElem?_take,b] using this
  ·simp[List.getD_eq_getElem?_getD,List.getElem?_take,b])
 rw[g,n,Nat.zero_add] at a;obtain⟨u,p⟩: ∃u,Dg.vl 4294967296 (l.drop (k+1))=u:=⟨_,rfl⟩;rw[p] at a;have f:(4294967296:Nat)=2^t*(2*2^ (31-t)):=by
  have:(4294967296:Nat)=2^ (t+(1+(31-t))):=by rw[show t+(1+(31-t))=32 from by omega]
  rw[this,Nat.pow_add,Nat.pow_add,Nat.pow_one]
 have d:(2:Nat)^ (32*k)=4294967296^k:=by rw[Nat.pow_mul]
 refine F8 (m:=m+2^ (31-t)*u) ?_;rw[a,Nat.pow_add,d,Nat.mul_assoc]
 congr 1
 generalize 2^ (31-t)=c at*;have e:4294967296*u=2^t*(2*(c*u)):=by rw[f];simp only[Nat.mul_assoc]
 rw[e,←Nat.mul_add]
 congr 1
 omega
theorem QY (l:List Nat)(k t m:Nat)(o:k<l.length)(h: ∀j,j<k→l.getD j 0=0)(n:l.getD k 0=2^t*(2*m+1))(q:t<16):tz (Dg.vl 65536 l)=16*k+t:=by
 have a:=Dg.vl_split 65536 l k o;have g:Dg.vl 65536 (l.take k)=0:=Dg.vl_zeros 65536 (l.take k) (fun i=>by
  by_cases b:i<k
  ·have:=h i b
   simpa[List.getD_eq_getElem?_getD,List.getElem?_take,b] using this
  ·simp[List.getD_eq_getElem?_getD,List.getElem?_take,b])
 rw[g,n,Nat.zero_add] at a;obtain⟨u,p⟩: ∃u,Dg.vl 65536 (l.drop (k+1))=u:=⟨_,rfl⟩;rw[p] at a;have f:(65536:Nat)=2^t*(2*2^ (15-t)):=by
  have:(65536:Nat)=2^ (t+(1+(15-t))):=by rw[show t+(1+(15-t))=16 from by omega]
  rw[this,Nat.pow_add,Nat.pow_add,Nat.pow_one]
 have d:(2:Nat)^ (16*k)=65536^k:=by rw[Nat.pow_mul]
 refine F8 (m:=m+2^ (15-t)*u) ?_;rw[a,Nat.pow_add,d,Nat.mul_assoc]
 congr 1
 generalize 2^ (15-t)=c at*;have e:65536*u=2^t*(2*(c*u)):=by rw[f];simp only[Nat.mul_assoc]
 rw[e,←Nat.mul_add]
 congr 1
 omega
theorem gZ (n L:Nat)(h:(Dg.dg 4294967296 n).length≤L):tz n≤32*L:=by
 by_cases a:n=0
 ·subst a;exact Nat.zero_le _
 ·obtain⟨m,f⟩:=fO a
  have b:=Dg.vl_lt 4294967296 (Dg.dg 4294967296 n) (Dg.small_dg _ _ (by omega));rw[Dg.vl_dg _ _ (by omega)] at b;have g:4294967296^ (Dg.dg 4294967296 n).length≤4294967296^L:=Nat.pow_le_pow_right (by omega) h;have c:(4294967296:Nat)^L=2^ (32*L):=by rw[Nat.pow_mul]
  have d:2^tz n*1≤2^tz n*(2*m+1):=Nat.mul_le_mul_left _ (by omega);rw[←f,Nat.mul_one] at d;have e:2^tz n<2^ (32*L):=by rw[←c];omega
  exact Nat.le_of_lt ((Nat.pow_lt_pow_iff_right (by omega)).1 e)
theorem YA (s:Bool)(a:Option Addr)(c b:Nat)(e:Int)(w:World):
  yC 120 #[ydV s (.slice a c b) e] w (yR w (ydV (!s) (.slice a c b) e)):=by
 go_enter func120,ntmps120
 go_wp2
 go_returns
 exact⟨rfl,((Below.refl _ _).alloc (Nat.le_refl _) _).alloc (by simp[World.size_alloc]) _⟩
theorem gf {a L:Nat}(h:(Dg.dg 4294967296 a).length≤L):bitLen a≤32*L:=by
 refine bF a _ ?_;rw[Nat.pow_mul];have b:=Dg.vl_lt 4294967296 _ (Dg.small_dg 4294967296 a (by omega));rw[Dg.vl_dg _ _ (by omega)] at b;exact Nat.lt_of_lt_of_le b (Nat.pow_le_pow_right (by omega) h)
theorem Qy (s:Bool)(a:Option Addr)(c b:Nat)(e:Int)(w:World):
  yC 66 #[ydV s (.slice a c b) e] w (yR w (.agg #[.bool s,.slice a c b,yi e,.bool s,.slice a c b,yi e])):=by
 go_enter func66,ntmps66
 go_wp2
 go_returns
 exact⟨rfl,((Below.refl _ _).alloc (Nat.le_refl _) _).alloc (by simp[World.size_alloc]) _⟩
def ac8 (w:World)(x:Nat→ak)(ao:Nat→Option Addr)(ca:Nat→Nat)(l h:Nat)(z:Ending)(w':World):Prop:=
 z= .returned (.agg #[.bool (x l).s,.slice (ao l) (Dg.dg 4294967296 (x l).n).length (ca l),yi (x l).e,.bool (x h).s,.slice (ao h) (Dg.dg 4294967296 (x h).n).length (ca h),yi (x h).e])∧yB w w'
theorem Nq (x:Nat):Dg.vl 4294967296 [x % 4294967296,x/4294967296]=x:=by
 simp only[Dg.vl];omega
def KRd (w:World)(n:Nat)(a b:ak)(z:Ending)(w':World):Prop:=
 ∃o p q,z= .returned (.tuple #[o,.agg #[.bool a.s,p,yi a.e,.bool b.s,q,yi b.e]])∧Rd w' .u32 o (Dg.dg 4294967296 n)∧Rd w' .u32 p (Dg.dg 4294967296 a.n)∧Rd w' .u32 q (Dg.dg 4294967296 b.n)∧yB w w'
theorem mX (A:ak)(b:Int)(up:Bool)(r:1≤b):
  (bitLen (bare A).n≤b∧aY A b up=A)∨
  (∃j q:Nat,¬(bitLen (bare A).n:Int)≤b∧A.n≠0∧(bitLen A.n:Int)-b=(j:Int)∧A.n/2^j=q∧q*2^j≤A.n∧A.n< (q+1)*2^j∧q<2^b.toNat∧0<q∧tz A.n≤j∧aY A b up=⟨A.s,q+(if(up != A.s)=true then 1 else 0),A.e+(j:Int)⟩):=by
 by_cases c:A.n=0
 ·refine Or.inl ⟨?_,if_pos ?_⟩
  ·unfold bare
   rw[if_pos c]
   show((bitLen 0:Nat):Int)≤b
   rw[gP];omega
  ·rw[c,gP,if_pos rfl];omega
 ·obtain⟨m,i⟩:=fO c
  have l:=lI i;have f:=Ad (2*m+1) (tz A.n) (by omega);rw[←i] at f;have k:(bare A).n=2*m+1:=by
   unfold bare;rw[if_neg c];exact l
  rw[k]
  by_cases h:(bitLen (2*m+1):Int)≤b
  ·refine Or.inl ⟨h,if_pos ?_⟩
   rw[if_neg c,f];omega
  ·refine Or.inr ?_
   obtain⟨j,g⟩: ∃j:Nat,(bitLen A.n:Int)-b=(j:Int):=⟨((bitLen A.n:Int)-b).toNat,by omega⟩;obtain⟨o,p⟩:=bitLen_spec A.n;have d:0<2^j:=Nat.pow_pos (by omega);refine⟨j,A.n/2^j,h,c,g,rfl,Nat.div_mul_le_self _ _, ?_, ?_, ?_,by omega, ?_⟩
   ·have:=Nat.lt_div_mul_add (a:=A.n) d
    rw[Nat.add_mul,Nat.one_mul];exact this
   ·rw[Nat.div_lt_iff_lt_mul d,←Nat.pow_add]
    have e:b.toNat+j=bitLen A.n:=by omega
    rw[e];exact o
   ·apply Nat.div_pos _ d
    refine Nat.le_trans (Nat.pow_le_pow_right (by omega) ?_) (p c);omega
   ·unfold aY
    rw[if_neg c,if_neg (by rw[f] at g⊢;omega),g,Int.toNat_natCast]
def RB6 (W:World)(v:Value)(x y:ak):Prop:= ∃p q,v= .agg #[.bool x.s,p,yi x.e,.bool y.s,q,yi y.e]∧Rd W .i64 p (Dg.dg 65536 x.n)∧Rd W .i64 q (Dg.dg 65536 y.n)
theorem zf (w:World)(base e d:Nat)(a:base≤w.heap.size):Own (w.alloc (.cells #[.int .u32 d] e)) base e .u32 (.slice (some ⟨w.heap.size,0,none⟩) 1 1) [d]:=
 World.ownsRow_lit (e:=e) (size:=1) (base:=base) w #[.int .u32 d] 1 a (by unfold maxLen;omega) rfl
theorem jq {d k L:Nat}(h:d<2^k)(a:k≤32*L):(Dg.dg 4294967296 d).length≤L:=by
 refine Dg.dg_len_le 4294967296 _ _ (by omega) (Nat.lt_of_lt_of_le h ?_);rw[show(4294967296:Nat)=2^32 from by decide,←Nat.pow_mul]
 exact Nat.pow_le_pow_right (by omega) a
def SpanV (w:World)(v:Value)(a b:ak):Prop:= ∃p q,v= .agg #[.bool a.s,p,yi a.e,.bool b.s,q,yi b.e]∧Rd w .u32 p (Dg.dg 4294967296 a.n)∧Rd w .u32 q (Dg.dg 4294967296 b.n)
theorem FitsT.len {t:ak}(h:FitsT t):(Dg.dg 4294967296 t.n).length≤9000:=by
 obtain⟨⟨k,b,a⟩,-⟩:=h;exact jq a (by omega)
theorem len_pow {m k:Nat}(h:m≤2^k)(a:k≤60000):(Dg.dg 4294967296 m).length≤1900:=
 jq (k:=k+1) (Nat.lt_of_le_of_lt h (Nat.pow_lt_pow_right (by omega) (by omega))) (by omega)
theorem len_big {m k:Nat}(h:m≤(k+2)*2^k)(a:k≤60000):(Dg.dg 4294967296 m).length≤1900:=jq (big_pow h a) (by omega)
theorem dg_ne {d:Nat}(h:0<d):Dg.dg 4294967296 d≠[]:=fun e=>by
 have:=(Dg.dg_nil_iff 4294967296 d (by omega)).1 e;omega
theorem fits_up {t:ak}{n:Nat}(h:FitsT t)(f:n≤10)(d:t.e≤80000):FitsT (upT t n):=by
 obtain⟨a,b,c⟩:=h;exact⟨a,by show-90000≤t.e+(n:Int);omega,by show t.e+(n:Int)≤90000;omega⟩
def IvN.times (S T:IvN):IvN:=⟨mn (mn (mn (S.lo*T.lo) (S.lo*T.hi)) (S.hi*T.lo)) (S.hi*T.hi),mx (mx (mx (S.lo*T.lo) (S.lo*T.hi)) (S.hi*T.lo)) (S.hi*T.hi)⟩
theorem IvN.plus_has {S T:IvN}{x y:Rat}(h:S.has x)(g:T.has y):(plus S T).has (x+y):=by
 unfold has plus at*
 grind
theorem IvN.times_has {S T:IvN}{x y:Rat}(h:S.has x)(g:T.has y):(times S T).has (x*y):=by
 obtain⟨i,j⟩:=h;obtain⟨a,b⟩:=g;obtain⟨k,l⟩:=mid_mul (y:=y) i j;obtain⟨c,d⟩:=mid_mul (y:=S.lo) a b;obtain⟨e,f⟩:=mid_mul (y:=S.hi) a b;rw[Rat.mul_comm y,Rat.mul_comm T.lo,Rat.mul_comm T.hi] at c d e f;unfold times has mn mx;simp only
 grind
theorem IvN.times_ends (S T:IvN):((times S T).lo=S.lo*T.lo∨(times S T).lo=S.lo*T.hi∨(times S T).lo=S.hi*T.lo∨(times S T).lo=S.hi*T.hi)∧((times S T).hi=S.lo*T.lo∨(times S T).hi=S.lo*T.hi∨(times S T).hi=S.hi*T.lo∨(times S T).hi=S.hi*T.hi):=by
 unfold times mn mx;simp only
 grind
theorem IvN.ab_of {a m:Rat}(b: -m≤a)(c:a≤m):ab a≤m:=by rw[ab_le];constructor<;>grind
theorem IvN.times_wd {S T:IvN}{m k:Rat}(w:S.inn m)(y:T.inn k)(s:S.lo≤S.hi)(t:T.lo≤T.hi):(times S T).wd≤m*T.wd+k*S.wd∧(times S T).inn (m*k)∧(times S T).lo≤(times S T).hi:=by
 obtain⟨D,E⟩:=w;obtain⟨F,G⟩:=y;have o:0≤m:=by grind
 have z:0≤k:=by grind
 have d: ∀a b p q:Rat,-m≤a→a≤m→ -k≤q→q≤k→ab (a-b)≤S.wd→ab (p-q)≤T.wd→a*p-b*q≤m*T.wd+k*S.wd:=by
  intro a b p q c f i j u v;have e:a*p-b*q=a*(p-q)+q*(a-b):=by grind
  have B:=le_ab (a*(p-q));have C:=le_ab (q*(a-b));rw[ab_mul] at B C;have N:=mul_le_mul' (ab_of c f) v (ab_nonneg _) o;have O:=mul_le_mul' (ab_of i j) u (ab_nonneg _) z
  grind
 have r: ∀a p:Rat,-m≤a→a≤m→ -k≤p→p≤k→ -(m*k)≤a*p∧a*p≤m*k:=by
  intro a p c f i j;have x:=mul_le_mul' (ab_of c f) (ab_of i j) (ab_nonneg _) o;rw[←ab_mul] at x;have:=le_ab (a*p);have:=neg_le_ab (a*p)
  grind
 have P:ab (S.lo-S.lo)≤S.wd:=by unfold ab wd;grind
 have Q:ab (S.hi-S.hi)≤S.wd:=by unfold ab wd;grind
 have uS:ab (S.hi-S.lo)≤S.wd:=by unfold ab wd;grind
 have L:ab (S.lo-S.hi)≤S.wd:=by unfold ab wd;grind
 have zTr:ab (T.lo-T.lo)≤T.wd:=by unfold ab wd;grind
 have R:ab (T.hi-T.hi)≤T.wd:=by unfold ab wd;grind
 have uT:ab (T.hi-T.lo)≤T.wd:=by unfold ab wd;grind
 have M:ab (T.lo-T.hi)≤T.wd:=by unfold ab wd;grind
 have H:S.lo≤m:=by grind
 have I: -m≤S.hi:=by grind
 have J:T.lo≤k:=by grind
 have K: -k≤T.hi:=by grind
 obtain⟨n,l⟩:=times_ends S T;have A:(times S T).lo≤(times S T).hi:=Rat.le_trans (times_has (S:=S) (T:=T) ⟨Rat.le_refl,s⟩ ⟨Rat.le_refl,t⟩).1 (times_has (S:=S) (T:=T) ⟨Rat.le_refl,s⟩ ⟨Rat.le_refl,t⟩).2;refine⟨?_,⟨?_, ?_⟩,A⟩
 ·show(times S T).hi-(times S T).lo≤_
  rcases n with h|h|h|h<;>rcases l with g|g|g|g<;>rw[h,g]<;>apply d<;>assumption
 ·rcases n with h|h|h|h<;>rw[h]<;>exact(r _ _ (by assumption) (by assumption) (by assumption) (by assumption)).1
 ·rcases l with h|h|h|h<;>rw[h]<;>exact(r _ _ (by assumption) (by assumption) (by assumption) (by assumption)).2
theorem IvN.Cut.wd {d m:Rat}{S c:IvN}(h:Cut d S c)(e:0≤d)(f:S.inn m)(j:S.lo≤S.hi):c.wd≤S.wd+2*(d*m)∧c.lo≤c.hi:=by
 obtain⟨a,b⟩:=f;have g:=Rat.mul_le_mul_of_nonneg_left (ab_of a (by grind:S.lo≤m)) e;have i:=Rat.mul_le_mul_of_nonneg_left (ab_of (by grind: -m≤S.hi) b) e;have:=h.lo;have:=h.hi;have:=h.lo';have:=h.hi';unfold IvN.wd
 constructor<;>grind
theorem tm_tail {u:Rat}{c:Nat→Rat}(d: ∀k,0≤c (k+1))(f: ∀k,ab u*c (k+1)≤1/2): ∀n K,∃r:Rat,1/2≤r∧r≤2∧(0≤u→1≤r)∧(u≤0→r≤1)∧rs (tmS u c) (K+n+1)-rs (tmS u c) K=tmS u c K*r
 |0,K=>⟨1,by grind,by grind,fun _=>by grind,fun _=>by grind,by
   show rs (tmS u c) K+tmS u c K-rs (tmS u c) K=_
   grind⟩
 |n+1,K=>by
  obtain⟨r,m,i,o,j,a⟩:=tm_tail d f n (K+1);rw[show K+1+n+1=K+(n+1)+1 by omega] at a
  have e:rs (tmS u c) (K+1)=rs (tmS u c) K+tmS u c K:=rfl;have h:tmS u c (K+1)=tmS u c K*u*c (K+1):=rfl;have q:=f K;have p:=d K;refine⟨1+u*c (K+1)*r, ?_, ?_, ?_, ?_, ?_⟩
  ·by_cases g:0≤u
   ·have:=Rat.mul_nonneg (Rat.mul_nonneg g p) (show 0≤r by grind)
    grind
   ·have l:=j (by grind)
    have b:ab u= -u:=by unfold ab;grind
    rw[b] at q;have:=mul_le_mul' q l (by grind) (by grind)
    grind
  ·by_cases g:0≤u
   ·have b:ab u=u:=by unfold ab;grind
    rw[b] at q;have:=mul_le_mul' q i (by grind) (by grind)
    grind
   ·have:=Rat.mul_nonneg (Rat.mul_nonneg (show 0≤ -u by grind) p) (show 0≤r by grind)
    grind
  ·intro g
   have:=Rat.mul_nonneg (Rat.mul_nonneg g p) (show 0≤r by grind)
   grind
  ·intro g
   have:=Rat.mul_nonneg (Rat.mul_nonneg (show 0≤ -u by grind) p) (show 0≤r by grind)
   grind
  ·rw[h] at a
   rw[e] at a;have:tmS u c K*(1+u*c (K+1)*r)=tmS u c K+tmS u c K*u*c (K+1)*r:=by grind
   rw[this,←a]
   grind
theorem rs_bd {u:Rat}{c:Nat→Rat}(d: ∀k,0≤c (k+1))(f: ∀k,ab u*c (k+1)≤1/2)(n:Nat):1/2≤rs (tmS u c) (n+1)∧rs (tmS u c) (n+1)≤2:=by
 obtain⟨r,g,h,_,_,a⟩:=tm_tail d f n 0;rw[Nat.zero_add] at a;have e:rs (tmS u c) 0=0:=rfl;have b:tmS u c 0=1:=rfl;rw[e,b] at a
 grind
structure PInv (U:IvN) (c:Nat→Rat) (wU d:Rat) (k:Nat) (sum term:IvN):Prop where
 term_has: ∀u,U.has u→term.has (tmS u c k)
 sum_has: ∀u,U.has u→sum.has (rs (tmS u c) (k+1))
 term_in:term.inn (hf k)
 term_ord:term.lo≤term.hi
 sum_ord:sum.lo≤sum.hi
 term_wd:term.wd≤hf k*((k:Rat)*(2*(wU+d)))
 sum_wd:sum.wd≤(k:Rat)*(2*(wU+d)+8*d)
theorem PInv.zero (U:IvN)(c:Nat→Rat)(wU d:Rat):PInv U c wU d 0 ⟨1,1⟩ ⟨1,1⟩:=by
 refine⟨fun u _=> ?_,fun u _=> ?_, ?_,Rat.le_refl,Rat.le_refl, ?_, ?_⟩
 ·exact⟨Rat.le_refl,Rat.le_refl⟩
 ·have:rs (tmS u c) (0+1)=1:=by simp only[rs,tmS];grind
  rw[this];exact⟨Rat.le_refl,Rat.le_refl⟩
 ·constructor<;>simp only[hf]<;>grind
 ·unfold IvN.wd
  simp
  grind
 ·unfold IvN.wd
  simp
  grind
theorem PInv.term {U:IvN}{c:Nat→Rat}{wU d mu:Rat}{k:Nat}{B i f:IvN}(h:PInv U c wU d k B i)(w: ∀k,0≤c (k+1)∧c (k+1)≤1)(l:U.inn mu)(t:U.lo≤U.hi)(n: ∀k,mu*c (k+1)≤1/2)(p:U.wd≤wU)(x:0≤d)
  (j:IvN.Cut d (IvN.scl (c (k+1)) (IvN.times i U)) f):
  (∀u,U.has u→f.has (tmS u c (k+1)))∧f.inn (hf (k+1))∧f.lo≤f.hi∧f.wd≤hf (k+1)*(((k+1:Nat):Rat)*(2*(wU+d))):=by
 obtain⟨g,s⟩:=w k;have J:=hf_pos k;obtain⟨C,D,E⟩:=IvN.times_wd h.term_in l h.term_ord t;obtain⟨A,q⟩:=IvN.scl_wd g D;have y:(IvN.scl (c (k+1)) (IvN.times i U)).lo≤(IvN.scl (c (k+1)) (IvN.times i U)).hi:=Rat.mul_le_mul_of_nonneg_left E g;have m:(IvN.scl (c (k+1)) (IvN.times i U)).inn (hf (k+1)):=by
  have a:=Rat.mul_le_mul_of_nonneg_left (n k) (show 0≤hf k by grind)
  have b:c (k+1)*(hf k*mu)≤hf (k+1):=by simp only[hf];grind
  exact⟨by have:=q.1;grind,Rat.le_trans q.2 b⟩
 obtain⟨r,F⟩:=j.wd x m y;refine⟨fun u o=> ?_,j.pow _ m,F, ?_⟩
 ·have a:=IvN.scl_has (IvN.times_has (h.term_has u o) o) g
  have b:=j.has a;have e:c (k+1)*(tmS u c k*u)=tmS u c (k+1):=by simp only[tmS];grind
  rwa [e] at b
 ·have e:((k+1:Nat):Rat)=(k:Rat)+1:=by simp
  rw[A] at r;rw[e];have z:0≤wU:=by unfold IvN.wd at p;grind
  have G:=h.term_wd;have L:0≤mu:=by have:=l.1;have:=l.2;grind
  have K:(0:Rat)≤(k:Rat):=by
   have:((0:Nat):Rat)≤(k:Rat):=Rat.natCast_le_natCast.2 (by omega)
   simpa using this
  have M:=Rat.mul_le_mul_of_nonneg_left C g;have N:=mul_le_mul' (n k) G (by have:=h.term_ord;unfold IvN.wd;grind) (by grind);have O:=Rat.mul_le_mul_of_nonneg_left p (show 0≤c (k+1)*hf k from Rat.mul_nonneg g (by grind))
  have P:=mul_le_mul' s (Rat.le_refl (a:=hf k*wU)) (Rat.mul_nonneg (by grind) z) (by grind);have H:hf (k+1)=hf k*(1/2):=rfl;rw[H] at r⊢;have I:((k:Rat)+1)*(2*(wU+d))=(k:Rat)*(2*(wU+d))+2*(wU+d):=by grind
  rw[I];generalize(k:Rat)*(2*(wU+d))=v at*
  grind
theorem ab_inn {U:IvN}{mu u:Rat}(a:U.inn mu)(b:U.has u):ab u≤mu:=IvN.ab_of (Rat.le_trans a.1 b.1) (Rat.le_trans b.2 a.2)
theorem PInv.sum_in {U:IvN}{c:Nat→Rat}{wU d mu:Rat}{k:Nat}{g n:IvN}(h:PInv U c wU d k g n)(e: ∀k,0≤c (k+1)∧c (k+1)≤1)(i:U.inn mu)(j:U.lo≤U.hi)(l: ∀k,mu*c (k+1)≤1/2)
  (o:(k:Rat)*(2*(wU+d)+8*d)≤1):g.inn 3:=by
 have f:U.has U.lo:=⟨Rat.le_refl,j⟩;have m: ∀k,ab U.lo*c (k+1)≤1/2:=fun k=>Rat.le_trans (Rat.mul_le_mul_of_nonneg_right (ab_inn i f) (e k).1) (l k)
 obtain⟨a,b⟩:=rs_bd (fun k=>(e k).1) m k
 obtain⟨x,y⟩:=h.sum_has _ f;have w:=h.sum_wd;unfold IvN.wd at w
 constructor<;>grind
theorem PInv.next {U:IvN}{c:Nat→Rat}{wU d mu:Rat}{k:Nat}{b s a r:IvN}(h:PInv U c wU d k b s)(m: ∀k,0≤c (k+1)∧c (k+1)≤1)(j:U.inn mu)(l:U.lo≤U.hi)(o: ∀k,mu*c (k+1)≤1/2)(q:U.wd≤wU)(n:0≤d)
  (C:(k:Rat)*(2*(wU+d)+8*d)≤1)
  (z:IvN.Cut d (IvN.scl (c (k+1)) (IvN.times s U)) a) (i:IvN.Cut d (IvN.plus b a) r):PInv U c wU d (k+1) r a:=by
 obtain⟨g,t,v,f⟩:=h.term m j l o q n z;have M:=h.sum_in m j l o C;have K:0≤wU:=by unfold IvN.wd at q;grind
 have J:=hf_one (k+1);have B:(IvN.plus b a).inn 4:=by
  unfold IvN.plus IvN.inn at*
  constructor<;>grind
 have D:(IvN.plus b a).lo≤(IvN.plus b a).hi:=by
  have:=h.sum_ord;unfold IvN.plus
  grind
 obtain⟨E,F⟩:=i.wd n B D;refine⟨g,fun u p=>i.has (IvN.plus_has (h.sum_has u p) (g u p)),t,v,F,f, ?_⟩
 have e:((k+1:Nat):Rat)=(k:Rat)+1:=by simp
 have A:((k+1+1:Nat):Rat)=(k:Rat)+1+1:=by simp
 have w:=hf_nat (k+1);have G:=hf_pos (k+1);have L:=nat_nn k;rw[A] at w;rw[e] at f⊢;have H:=Rat.mul_le_mul_of_nonneg_right (show hf (k+1)*((k:Rat)+1)≤1 by grind) (show 0≤2*(wU+d) by grind)
 have x:hf (k+1)*(((k:Rat)+1)*(2*(wU+d)))=hf (k+1)*((k:Rat)+1)*(2*(wU+d)):=by grind
 rw[x] at f;have I:=h.sum_wd;have y:(IvN.plus b a).wd=b.wd+a.wd:=by unfold IvN.plus IvN.wd;grind
 rw[y] at E
 grind
theorem awg_rest (tn:Nat){w:Rat}(c:0≤w)(d:w≤1/2)(i:Nat): ∀j,ab (awg tn w (i+j)-awg tn w i)≤rp w (2*i+1)*(4/3-4/3*(hf j*hf j))
 |0=>by
  have:awg tn w (i+0)-awg tn w i=0:=by rw[Nat.add_zero];grind
  rw[this];simp only[hf];unfold ab
  grind
 |j+1=>by
  have k:=awg_rest tn c d i j;have e:awg tn w (i+(j+1))=awg tn w (i+j)+sgt tn (i+j)*awt w (i+j):=rfl;have a:=ab_add (awg tn w (i+j)-awg tn w i) (sgt tn (i+j)*awt w (i+j));have f:awg tn w (i+j)-awg tn w i+sgt tn (i+j)*awt w (i+j)=awg tn w (i+(j+1))-awg tn w i:=by rw[e];grind
  rw[f,ab_mul] at a;have l:ab (sgt tn (i+j))=1:=by unfold sgt ab;grind
  rw[l] at a;have p: ∀j,rp w (2*(i+j)+1)≤rp w (2*i+1)*(hf j*hf j):=by
   intro j
   induction j with
   |zero=>simp only[hf];rw[Nat.add_zero];grind
   |succ j k=>
    have r:rp w (2*(i+(j+1))+1)=rp w (2*(i+j)+1)*w*w:=rfl;have n:=rp_nn c (2*(i+j)+1);have x:=mul_le_mul' d d c (by grind);have y:=Rat.mul_le_mul_of_nonneg_left (show w*w≤1/4 by grind) n
    rw[r];simp only[hf]
    grind
  have q:=p j;have n:=rp_nn c (2*(i+j)+1);have h:=CxN.inv_one (2*(i+j));have b:ab (awt w (i+j))≤rp w (2*(i+j)+1):=by
   unfold awt;rw[ab_mul];have g:ab (rp w (2*(i+j)+1))=rp w (2*(i+j)+1):=by unfold ab;grind
   rw[g];have:=Rat.mul_le_mul_of_nonneg_right h n
   grind
  simp only[hf]
  grind
theorem lp_near {n:Nat}(x:2≤n)(tn:Nat){w N:Rat}(hw:w*(n:Rat)=1)(X:0≤N): ∀f i t s r:Nat,t<4^f→(t:Rat)≤N*rp w (2*i+1)→N*rp w (2*i+1)≤(t:Rat)+2→ab (N*awg tn w i-((s:Rat)-(r:Rat)))≤3*(i:Rat)→
  ∀m,(lp (n*n) tn f i t s r).1≤m→ab (N*awg tn w m-(((lp (n*n) tn f i t s r).2.1:Rat)-((lp (n*n) tn f i t s r).2.2:Rat)))≤3*((lp (n*n) tn f i t s r).1:Rat)+3:=by
 have a0:(0:Rat)< (n:Rat):=nat_pos' (by omega);have Y:(2:Rat)≤(n:Rat):=by
  have:((2:Nat):Rat)≤(n:Rat):=Rat.natCast_le_natCast.2 x
  simpa using this
 have j:0≤w:=by
  by_cases c:0≤w
  ·exact c
  ·have:=Rat.mul_nonneg (show 0≤ -w by grind) (show 0≤(n:Rat) by grind)
   grind
 have B:w≤1/2:=by
  have:=Rat.mul_le_mul_of_nonneg_left Y j
  grind
 have L: ∀{a:Rat},a≤((0:Nat):Rat)+2→a≤2:=fun {a} h=>by
  have R:((0:Nat):Rat)=0:=rfl;rw[R] at h
  grind
 have E: ∀i s r:Nat,N*rp w (2*i+1)≤2→ab (N*awg tn w i-((s:Rat)-(r:Rat)))≤3*(i:Rat)→ ∀m,i≤m→ab (N*awg tn w m-((s:Rat)-(r:Rat)))≤3*(i:Rat)+3:=by
  intro i s r o q m g;have a:=awg_rest tn j B i (m-i);rw[show i+(m-i)=m by omega] at a
  have p:=hf_pos (m-i);have n0:=rp_nn j (2*i+1);have n1:=Rat.mul_nonneg n0 (Rat.mul_nonneg (show 0≤hf (m-i) by grind) (show 0≤hf (m-i) by grind))
  have b:=Rat.mul_le_mul_of_nonneg_left (show ab (awg tn w m-awg tn w i)≤rp w (2*i+1)*(4/3) by grind) X
  have c:N*ab (awg tn w m-awg tn w i)=ab (N*(awg tn w m-awg tn w i)):=by
   rw[ab_mul];have:ab N=N:=by unfold ab;grind
   rw[this]
  rw[c] at b;have d:=ab_add (N*(awg tn w m-awg tn w i)) (N*awg tn w i-((s:Rat)-(r:Rat)));have e:N*(awg tn w m-awg tn w i)+(N*awg tn w i-((s:Rat)-(r:Rat)))=N*awg tn w m-((s:Rat)-(r:Rat)):=by grind
  rw[e] at d
  grind
 intro f
 induction f with
 |zero=>
  intro i t s r y o q u m g;have l:t=0:=by simpa using y
  subst l;simp only[lp] at g⊢;exact E i s r (L q) u m g
 |succ f ih=>
  intro i t s r y o q u m g
  by_cases l:t=0
  ·subst l
   rw[lp_zero] at g⊢;exact E i s r (L q) u m g
  have Z:4≤n*n:=Nat.mul_le_mul x x;have H:=div_step Z y;obtain⟨D,Q⟩:=div_rat (a:=t) (b:=n*n) (by omega);obtain⟨q1,q2⟩:=div_rat (a:=t) (b:=2*i+1) (by omega);have I:rp w (2*(i+1)+1)=rp w (2*i+1)*w*w:=rfl;have r0:=rp_nn j (2*i+1);have P:((n*n:Nat):Rat)=(n:Rat)*(n:Rat):=Rat.natCast_mul _ _;rw[P] at D Q;have J:w*w*((n:Rat)*(n:Rat))=1:=by
   have:w*w*((n:Rat)*(n:Rat))=w*(n:Rat)*(w*(n:Rat)):=by grind
   rw[this,hw]
   grind
  have K:=Rat.mul_nonneg j j;have a3:w*w≤1/4:=by have:=mul_le_mul' B B j (by grind);grind
  have F:((t/(n*n):Nat):Rat)≤N*rp w (2*(i+1)+1):=by
   have a:=Rat.mul_le_mul_of_nonneg_left (Rat.le_trans D o) K;rw[I];generalize((t/(n*n):Nat):Rat)=T at*;have:w*w*(T*((n:Rat)*(n:Rat)))=T*(w*w*((n:Rat)*(n:Rat))):=by grind
   rw[this,J] at a
   grind
  have G:N*rp w (2*(i+1)+1)≤((t/(n*n):Nat):Rat)+2:=by
   have a:=Rat.mul_le_mul_of_nonneg_left (show N*rp w (2*i+1)≤((t/(n*n):Nat):Rat)*((n:Rat)*(n:Rat))+((n:Rat)*(n:Rat)-1)+2 by grind) K
   rw[I];generalize((t/(n*n):Nat):Rat)=T at*;have:w*w*(T*((n:Rat)*(n:Rat))+((n:Rat)*(n:Rat)-1)+2)=T*(w*w*((n:Rat)*(n:Rat)))+(w*w*((n:Rat)*(n:Rat))-w*w)+2*(w*w):=by grind
   rw[this,J] at a
   grind
  have k0:(0:Rat)< ((2*i+1:Nat):Rat):=nat_pos (2*i);have k1:(1:Rat)≤((2*i+1:Nat):Rat):=by
   have:((1:Nat):Rat)≤((2*i+1:Nat):Rat):=Rat.natCast_le_natCast.2 (by omega)
   simpa using this
  have v:=inv_mul (2*i);have A:=inv_nonneg (2*i);have W:ab (N*awt w i-((t/(2*i+1):Nat):Rat))≤3:=by
   unfold awt;generalize((t/(2*i+1):Nat):Rat)=T at*;generalize 1/((2*i+1:Nat):Rat)=c at*;generalize((2*i+1:Nat):Rat)=k at*;generalize rp w (2*i+1)=ρ at*;have c1:c≤1:=by have:=Rat.mul_le_mul_of_nonneg_left k1 A;grind
   have M:=Rat.mul_le_mul_of_nonneg_left (Rat.le_trans q1 o) A;have O:=Rat.mul_le_mul_of_nonneg_left (show N*ρ≤T*k+(k-1)+2 by grind) A
   have S:c*(T*k)=T*(c*k):=by grind
   have U:c*(T*k+(k-1)+2)=T*(c*k)+c*k+c:=by grind
   rw[S,v] at M;rw[U,v] at O;rw[ab_le]
   constructor<;>grind
  have ai:awg tn w (i+1)=awg tn w i+sgt tn i*awt w i:=rfl;have C:((i+1:Nat):Rat)=(i:Rat)+1:=by simp
  rw[ab_le] at W u
  by_cases c:tn*(i % 2)=0
  ·have z:sgt tn i=1:=by unfold sgt;rw[if_pos c]
   rw[lp,if_neg l,if_pos c] at g⊢;refine ih _ _ _ _ H F G ?_ m g;rw[ai,z,C,Rat.natCast_add,ab_le]
   constructor<;>grind
  ·have z:sgt tn i= -1:=by unfold sgt;rw[if_neg c]
   rw[lp,if_neg l,if_neg c] at g⊢;refine ih _ _ _ _ H F G ?_ m g;rw[ai,z,C,Rat.natCast_add,ab_le]
   constructor<;>grind
theorem p2_at {e:Int}{K:Nat}(h: -(K:Int)≤e):p2 e*((2^K:Nat):Rat)=((2^ (e+K).toNat:Nat):Rat):=by
 unfold p2
 by_cases c:0≤e
 ·rw[if_pos c,←two_addR]
  congr 2
  omega
 ·rw[if_neg c]
  have a:=two_posR (-e).toNat;have:((2^K:Nat):Rat)=((2^ (-e).toNat:Nat):Rat)*((2^ (e+K).toNat:Nat):Rat):=by
   rw[←two_addR]
   congr 2
   omega
  rw[this];generalize((2^ (-e).toNat:Nat):Rat)=x at*
  grind
theorem p2_pos (e:Int):0<p2 e:=by
 have h:=p2_at (e:=e) (K:=e.natAbs) (by omega);have a:=two_posR (e+(e.natAbs:Nat)).toNat;have b:=two_posR e.natAbs;rw[←h] at a;generalize p2 e=x at*;generalize((2^e.natAbs:Nat):Rat)=y at*
 by_cases c:0<x
 ·exact c
 ·have:=Rat.mul_nonneg (show 0≤ -x by grind) (show 0≤y by grind)
  grind
theorem p2_add (a b:Int):p2 (a+b)=p2 a*p2 b:=by
 obtain⟨K,j⟩: ∃K:Nat,K=a.natAbs+b.natAbs:=⟨_,rfl⟩;have g:=p2_at (e:=a) (K:=K) (by omega);have h:=p2_at (e:=b) (K:=K) (by omega);have i:=p2_at (e:=a+b) (K:=K+K) (by omega);have f:((2^ (a+b+((K+K:Nat):Int)).toNat:Nat):Rat)=((2^ (a+(K:Int)).toNat:Nat):Rat)*((2^ (b+(K:Int)).toNat:Nat):Rat):=by
  rw[←two_addR]
  congr 2
  omega
 rw[f,←g,←h,two_addR] at i;have d:=two_posR K;generalize((2^K:Nat):Rat)=y at*;have:p2 (a+b)*(y*y)=p2 a*p2 b*(y*y):=by grind
 have k:y*y≠0:=by
  intro c;have:=Rat.mul_pos d d
  grind
 grind
theorem cut_odd (t:ak)(b:Nat)(_hb:1≤b)(up:Bool)(r:t.n % 2=1)(q:b<bitLen t.n):(aY t b up).s=t.s∧
  (up=t.s→((aY t b up).n:Rat)*p2 (aY t b up).e≤((t.n-1:Nat):Rat)*p2 t.e)∧(up≠t.s→((t.n+1:Nat):Rat)*p2 t.e≤((aY t b up).n:Rat)*p2 (aY t b up).e):=by
 have p:tz t.n=0:=by
  obtain⟨m,f⟩:=fO (show t.n≠0 by omega)
  by_cases c:tz t.n=0
  ·exact c
  ·obtain⟨j,l⟩: ∃j,tz t.n=j+1:=⟨tz t.n-1,by omega⟩
   rw[l,Nat.pow_succ,Nat.mul_comm (2^j) 2,Nat.mul_assoc] at f;omega
 unfold aY;rw[if_neg (show¬t.n=0 by omega),p,if_neg (by omega)]
 obtain⟨k,o⟩: ∃k:Nat,(bitLen t.n:Int)-(b:Int)=((k+1:Nat):Int):=⟨bitLen t.n-b-1,by omega⟩;rw[o,Int.toNat_natCast];have v:=p2_pos t.e;have d:=Nat.div_add_mod t.n (2^ (k+1));have f:=Nat.mod_lt t.n (show 0<2^ (k+1) from Nat.pow_pos (by omega))
 obtain⟨c,i⟩: ∃c,t.n/2^ (k+1)=c:=⟨_,rfl⟩;rw[i] at d⊢;have h:2^ (k+1)=2*2^k:=by rw[Nat.pow_succ,Nat.mul_comm]
 have u:t.n % 2^ (k+1)≠0:=fun g=>by
  rw[g,h,Nat.mul_assoc] at d;omega
 refine⟨rfl,fun a=> ?_,fun a=> ?_⟩
 ·have:(up != t.s)=false:=by rw[a];cases t.s<;>rfl
  simp only[this,Bool.false_eq_true,if_false,Nat.add_zero];rw[show t.e+((k+1:Nat):Int)=((k+1:Nat):Int)+t.e by omega,p2_add,p2_nat,←Rat.mul_assoc,←Rat.natCast_mul]
  exact Rat.mul_le_mul_of_nonneg_right (nat_le (by rw[Nat.mul_comm];omega)) (by grind)
 ·have:(up != t.s)=true:=by revert a;cases up<;>cases t.s<;>simp
  simp only[this,if_true];rw[show t.e+((k+1:Nat):Int)=((k+1:Nat):Int)+t.e by omega,p2_add,p2_nat,←Rat.mul_assoc,←Rat.natCast_mul]
  exact Rat.mul_le_mul_of_nonneg_right (nat_le (by rw[Nat.add_mul,Nat.mul_comm c];omega)) (by grind)
end Go.Proofs.YthhiidikgchdeaaGreatDoor

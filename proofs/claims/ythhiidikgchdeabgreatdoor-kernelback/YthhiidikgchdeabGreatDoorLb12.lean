/- Texts laid together. -/
import Derived.Test.YthhiidikgchdeabGreatDoorLb06
import Derived.Test.YthhiidikgchdeabGreatDoorLb07
import Derived.Test.YthhiidikgchdeabGreatDoorLb09
set_option maxRecDepth 100000
namespace Go.Proofs.YthhiidikgchdeabGreatDoor
open _root_.Go.Proofs.Tryz
open Go.RowKit
theorem iW {w wr b:World}{e x:Nat}{k:IntKind}{a:List Nat}{f v':Value}(d:yB w wr)(j:Own wr w.heap.size e k f a)
  (i:b.ownsRow w.heap.size e 1 v' (a.length+1) ((a.map (fun n:Nat=>Value.int k (n:Int)))++[.int k x]))
  (g:(wr.alloc (.cells #[.int k x] e)).grownBy b f.ownBlock):
  Own b w.heap.size e k v' (a++[x])∧yB w b:=by
 have c:yB wr (wr.alloc (.cells #[.int k x] e)):=(Below.refl _ _).alloc (Nat.le_refl _) _;refine⟨?_, ?_⟩
 ·unfold Own
  simpa using i
 ·refine(aa d c).grown g (Nat.le_trans d.size c.size) (fun k h=> ?_)
  exact(World.ownsRow.lt j k h).1
def abk (xs ys ps:List Nat)(k c:Nat):Prop:=
 ps.length=k∧Dg.Small 65536 ps∧c≤1∧Dg.vl 65536 ps+65536^k*c=Dg.vl 65536 (xs.take k)+Dg.vl 65536 (ys.take k)∧(0<k→65536^ (k-1)≤Dg.vl 65536 xs+Dg.vl 65536 ys)
theorem Yx {xs b a:List Nat}{k c:Nat}(h:abk xs b a k c)(m: ¬(k<xs.length∨k<b.length∨0<c)):a=Dg.dg 65536 (Dg.vl 65536 xs+Dg.vl 65536 b):=by
 obtain⟨d,e,l,f,g⟩:=h;have i:c=0:=by omega
 subst i;rw[List.take_of_length_le (by omega),List.take_of_length_le (by omega)] at f;refine Dg.eq_dg 65536 (by omega) _ _ e (Dg.norm_of_ge 65536 a e (fun j=> ?_)) (by omega)
 have:=g (by rw[←d];exact List.length_pos_iff.2 j);rw[d];omega
def QA (xs ys ps:List Nat)(k c:Nat):Prop:=
 ps.length=k∧Dg.Small 65536 ps∧c≤1∧Dg.vl 65536 (xs.take k)+65536^k*c=Dg.vl 65536 ps+Dg.vl 65536 (ys.take k)
theorem Nl {xs a b:List Nat}{c:Nat}(h:QA xs a b xs.length c)(j:a.length≤xs.length)(m:Dg.vl 65536 a≤Dg.vl 65536 xs):Dg.vl 65536 b=Dg.vl 65536 xs-Dg.vl 65536 a:=by
 obtain⟨d,f,l,g⟩:=h;rw[List.take_of_length_le (Nat.le_refl xs.length),List.take_of_length_le j] at g;have k:=Dg.vl_lt 65536 b f;rw[d] at k;have i:c=0:=by
  rcases Nat.eq_zero_or_pos c with e|e
  ·exact e
  ·have:c=1:=by omega
   subst this;omega
 subst i;omega
def Sv (xs ys ps:List Nat)(i:Nat):Prop:=
 ps.length=xs.length+ys.length∧Dg.Small 65536 ps∧(∀j,i+ys.length≤j→ps.getD j 0=0)∧Dg.vl 65536 ps=Dg.vl 65536 (xs.take i)*Dg.vl 65536 ys
def M5 (xs ys ps:List Nat)(i k c:Nat):Prop:=
 ps.length=xs.length+ys.length∧Dg.Small 65536 ps∧c<65536∧(∀j,i+ys.length+1≤j→ps.getD j 0=0)∧(k≤ys.length→ps.getD (i+ys.length) 0=0)∧(ys.length<k→c=0)∧k≤ys.length+1∧
  Dg.vl 65536 ps+65536^ (i+k)*c=Dg.vl 65536 (xs.take i)*Dg.vl 65536 ys+65536^i*(xs.getD i 0*Dg.vl 65536 (ys.take k))
theorem M6 (xs a:List Nat):Sv xs a (List.replicate (xs.length+a.length) 0) 0:=by
 refine⟨by simp,Dg.small_replicate _ _ (by omega),fun j _=> ?_, ?_⟩
 ·by_cases h:j<xs.length+a.length<;>simp[List.getD_eq_getElem?_getD,h]
 ·simp[Dg.vl_replicate_zero,Dg.vl]
theorem M7 {xs b a:List Nat}{i:Nat}(h:Sv xs b a i):M5 xs b a i 0 0:=
 ⟨h.1,h.2.1,by omega,fun j c=>h.2.2.1 j (by omega),fun _=>h.2.2.1 _ (by omega),fun _=>rfl,by omega,by rw[h.2.2.2];simp[Dg.vl]⟩
theorem Qk {xs a b:List Nat}{i k c:Nat}(h:M5 xs a b i k c)(n:i<xs.length)(t: ¬(k<a.length∨0<c)):Sv xs a b (i+1):=by
 obtain⟨d,f,o,g,p,q,r,l⟩:=h;have m:c=0:=by omega
 subst m;refine⟨d,f,fun j s=>g j (by omega), ?_⟩
 rw[Dg.vl_take_succ _ _ _ n,Nat.add_mul,Nat.mul_assoc];have e:a.take k=a:=List.take_of_length_le (by omega);rw[e] at l;omega
theorem XR (P Q:Nat)(l:List Nat)(k:Nat)(h:k<l.length):(low P Q l).take (k+1)=(low P Q l).take k++[l.getD k 0/P+l.getD (k+1) 0 % P*Q]:=by
 rw[Dg.take_succ' _ k (by rw[mA];exact h),Gb P Q l k h]
theorem aa7 (B:Nat)(b:0<B)(xs:List Nat)(a:Nat)(d:a≤xs.length)(f:Dg.Small B xs):Dg.vl B (xs.drop a)=Dg.vl B xs/B^a:=by
 have e:=Dg.vl_take_drop B xs a d;have c:=Dg.vl_lt B (xs.take a) (Dg.small_take f _ b);rw[List.length_take,Nat.min_eq_left d] at c;rw[e,Nat.add_comm,Nat.mul_add_div (Nat.pow_pos b),Nat.div_eq_of_lt c,Nat.add_zero]
theorem Zx (l:List Nat)(k t m:Nat)(o:k<l.length)(h: ∀j,j<k→l.getD j 0=0)(n:l.getD k 0=2^t*(2*m+1))(q:t<32):tz (Dg.vl 4294967296 l)=32*k+t:=by
 have a:=Dg.vl_split 4294967296 l k o;have g:Dg.vl 4294967296 (l.take k)=0:=Dg.vl_zeros 4294967296 (l.take k) (fun i=>by
  by_cases b:i<k
  ·have:=h i b
   simpa[List.getD_eq_getElem?_getD,List.getElem?_take,b] using this
  ·simp[List.getD_eq_getElem?_getD,List.getElem?_take,b])
 rw[g,n,Nat.zero_add] at a;obtain⟨u,p⟩: ∃u,Dg.vl 4294967296 (l.drop (k+1))=u:=⟨_,rfl⟩;rw[p] at a;have f:(4294967296:Nat)=2^t*(2*2^ (31-t)):=by
  have:(4294967296:Nat)=2^ (t+(1+(31-t))):=by rw[show t+(1+(31-t))=32 from by omega]
  rw[this,Nat.pow_add,Nat.pow_add,Nat.pow_one]
 have d:(2:Nat)^ (32*k)=4294967296^k:=by rw[Nat.pow_mul]
 refine F8 (m:=m+2^ (31-t)*u) ?_;rw[a,Nat.pow_add,d,Nat.mul_assoc]
 congr 1
 generalize 2^ (31-t)=c at*;have e:4294967296*u=2^t*(2*(c*u)):=by rw[f];simp only[Nat.mul_assoc]
 rw[e,←Nat.mul_add]
 congr 1
 omega
theorem au.cs3 {w:World}{b:Nat}{f:TypeId}{a d e:Value}{l:List Value}(h:au w b f (a::d::e::l)):w.cell? ⟨b,0,none⟩=some a∧w.cell? ⟨b,1,none⟩=some d∧w.cell? ⟨b,2,none⟩=some e:=⟨h.c 0 rfl,h.c 1 rfl,h.c 2 rfl⟩
theorem But.own {b:Nat}{w w':World}{base e:Nat}{k:IntKind}{v:Value}{zs:List Nat}(h:But b w w')(r:Own w base e k v zs){g:TypeId}{p:List Value}(f:au w b g p)(n:g≠e):Own w' base e k v zs:=by
 obtain⟨j,d⟩:=r;refine⟨j, ?_⟩
 rcases d with d| ⟨c,cap',i,o,l,a,r⟩
 ·exact .inl d
 ·refine .inr ⟨c,cap',i,o,l, ?_,r⟩
  have m:c≠b:=by
   intro e;subst e;unfold au at f;rw[f] at a;simp only[Option.some.injEq,Obj.cells.injEq] at a;exact n a.2.1
  rw[h.block c m];exact a
theorem aC {w w':World}{g o:Nat}{a:List Value}(h:w.rangeAt g o a)(b:yB w w'):w'.rangeAt g o a:=fun j v c=>by
 have:=h j v c;rw[←this];exact World.cell?_of_block (b.block g (World.block_lt_of_cell? w _ this))
theorem Loc.apart {w:World}{b c:Nat}{a d e:Value}(h:Loc w b a d e)(q:c≠b)(n o p:Value):
  Loc (((w.setCell ⟨c,0,none⟩ n).setCell ⟨c,1,none⟩ o).setCell ⟨c,2,none⟩ p) b a d e:=by
 obtain⟨m,⟨f,g,i⟩,j,k,l⟩:=h;refine⟨by simpa using m,⟨?_, ?_, ?_⟩,by simpa using j,by simpa using k,by simpa using l⟩
 ·rw[World.cell?_setCell_other (h:=by simp),World.cell?_setCell_other (h:=by simp),World.cell?_setCell_other (h:=by simp)];exact f
 ·rw[World.cell?_setCell_other (h:=by simp),World.cell?_setCell_other (h:=by simp),World.cell?_setCell_other (h:=by simp)];exact g
 ·rw[World.cell?_setCell_other (h:=by simp),World.cell?_setCell_other (h:=by simp),World.cell?_setCell_other (h:=by simp)];exact i
theorem dI (w:World)(a:TypeId):ZB (w.alloc (.cells (ydA false yN 0) a)) w.heap.size:=
 ⟨by simp[World.size_alloc],a,heap_alloc_new _ _⟩
theorem gu {w:World}{b:Nat}{v:Value}{zs:List Nat}(r:Rd w .u32 v zs)(h:ZB w b)(_hn:Dg.Norm zs)(s t u:Value):
  Rd (((w.setCell ⟨b,0,none⟩ s).setCell ⟨b,1,none⟩ t).setCell ⟨b,2,none⟩ u) .u32 v zs:=by
 obtain⟨x,z,m⟩:=h;obtain⟨g,cap,rfl,j,k,l⟩:=r;refine⟨g,cap,rfl,j,k,fun q=> ?_⟩
 obtain⟨c,f,rfl,d⟩:=l q;refine⟨c,f,rfl,fun i n=> ?_⟩
 have y:c≠b:=by
  intro e;subst e;have a:=d (zs.length-1) (by omega);unfold World.cell? at a;simp only[m] at a;obtain⟨o,p⟩: ∃o,f+(zs.length-1)=o:=⟨_,rfl⟩;rw[p] at a
  match o,a with
  |0,a=>simp at a
  |1,a=>simp at a
  |2,a=>simp at a
  |o+3,a=>simp at a
 rw[World.cell?_setCell_other (h:=by simp),World.cell?_setCell_other (h:=by simp),World.cell?_setCell_other (h:=by simp)];exact d i n
theorem QY (l:List Nat)(k t m:Nat)(o:k<l.length)(h: ∀j,j<k→l.getD j 0=0)(n:l.getD k 0=2^t*(2*m+1))(q:t<16):tz (Dg.vl 65536 l)=16*k+t:=by
 have a:=Dg.vl_split 65536 l k o;have g:Dg.vl 65536 (l.take k)=0:=Dg.vl_zeros 65536 (l.take k) (fun i=>by
  by_cases b:i<k
  ·have:=h i b
   simpa[List.getD_eq_getElem?_getD,List.getElem?_take,b] using this
  ·simp[List.getD_eq_getElem?_getD,List.getElem?_take,b])
 rw[g,n,Nat.zero_add] at a;obtain⟨u,p⟩: ∃u,Dg.vl 65536 (l.drop (k+1))=u:=⟨_,rfl⟩;rw[p] at a;have f:(65536:Nat)=2^t*(2*2^ (15-t)):=by
  have:(65536:Nat)=2^ (t+(1+(15-t))):=by rw[show t+(1+(15-t))=16 from by omega]
  rw[this,Nat.pow_add,Nat.pow_add,Nat.pow_one]
 have d:(2:Nat)^ (16*k)=65536^k:=by rw[Nat.pow_mul]
 refine F8 (m:=m+2^ (15-t)*u) ?_;rw[a,Nat.pow_add,d,Nat.mul_assoc]
 congr 1
 generalize 2^ (15-t)=c at*;have e:65536*u=2^t*(2*(c*u)):=by rw[f];simp only[Nat.mul_assoc]
 rw[e,←Nat.mul_add]
 congr 1
 omega
theorem afA {w:World}{b:Nat}{g:TypeId}{a d e:Value}(h:au w b g [a,d,e]):(w.cell? ⟨b,0,none⟩=some a∧w.cell? ⟨b,1,none⟩=some d∧w.cell? ⟨b,2,none⟩=some e)∧w.frozen? ⟨b,0,none⟩=false∧w.frozen? ⟨b,1,none⟩=false∧w.frozen? ⟨b,2,none⟩=false:=
 ⟨⟨h.c 0 rfl,h.c 1 rfl,h.c 2 rfl⟩,h.f 0,h.f 1,h.f 2⟩
theorem kY {w:World}{b:Nat}{g:TypeId}{f d:List Value}(h:au w b g f)(o n:Nat)(e:(f.drop o).take n=d):w.rangeAt b o d:=fun j v a=>by
 subst e;refine h.c (o+j) ?_;rw[List.getElem?_take] at a
 split at a
 ·rw[List.getElem?_drop] at a
  exact a
 ·cases a
theorem dZ {w w':World}{b g o:Nat}{a:List Value}(d:But b w w')(h:w.rangeAt g o a)(e:g≠b):w'.rangeAt g o a:=fun j v f=>by rw[d.c (by exact e)];exact h j v f
theorem YA (s:Bool)(a:Option Addr)(c b:Nat)(e:Int)(w:World):
  yC 96 #[ydV s (.slice a c b) e] w (yR w (ydV (!s) (.slice a c b) e)):=by
 go_enter func96,ntmps96
 go_wp2
 go_returns
 exact⟨rfl,((Below.refl _ _).alloc (Nat.le_refl _) _).alloc (by simp[World.size_alloc]) _⟩
theorem Qy (s:Bool)(a:Option Addr)(c b:Nat)(e:Int)(w:World):
  yC 61 #[ydV s (.slice a c b) e] w (yR w (.agg #[.bool s,.slice a c b,yi e,.bool s,.slice a c b,yi e])):=by
 go_enter func61,ntmps61
 go_wp2
 go_returns
 exact⟨rfl,((Below.refl _ _).alloc (Nat.le_refl _) _).alloc (by simp[World.size_alloc]) _⟩
def ac8 (w:World)(x:Nat→ak)(ao:Nat→Option Addr)(ca:Nat→Nat)(l h:Nat)(z:Ending)(w':World):Prop:=
 z= .returned (.agg #[.bool (x l).s,.slice (ao l) (Dg.dg 4294967296 (x l).n).length (ca l),yi (x l).e,.bool (x h).s,.slice (ao h) (Dg.dg 4294967296 (x h).n).length (ca h),yi (x h).e])∧yB w w'
def KRd (w:World)(n:Nat)(a b:ak)(z:Ending)(w':World):Prop:=
 ∃o p q,z= .returned (.tuple #[o,.agg #[.bool a.s,p,yi a.e,.bool b.s,q,yi b.e]])∧Rd w' .u32 o (Dg.dg 4294967296 n)∧Rd w' .u32 p (Dg.dg 4294967296 a.n)∧Rd w' .u32 q (Dg.dg 4294967296 b.n)∧yB w w'
theorem results_tc {P:Program}{d:Func}{a t:Nat}{g:TypeId}{c:Array Value}{w:World}{b:Nat}{v u:Value}(i:d.results= #[.tmp t,.cell a g])(f:c.getD t undef=u)(e:c.getD a undef= .pointer (some ⟨b,0,none⟩))(h:(loadVar g ⟨b,0,none⟩).run P w= .ok v w):(results d c).run P w= .ok (.tuple #[u,v]) w:=by
 rw[Array.getD_eq_getD_getElem?] at e f;unfold results;simp[i,e,f,asAddr,h]
def Ag (W:World)(base:Nat)(v:Value):Prop:= ∃p,v= .pointer (some ⟨p,0,none⟩)∧base≤p∧Loc W p (.bool false) yN (yi 0)
def V4 (W:World)(base:Nat)(v:Value):Prop:= ∃p,v= .pointer (some ⟨p,0,none⟩)∧base≤p∧Loc W p (.bool false) yN (yi 0)∧ZB W p
theorem rd_cell1 {w:World}{q d:Nat}(h:au w q 36 [.int .u32 d]):Rd w .u32 (.slice (some ⟨q,0,none⟩) 1 1) [d]:=⟨_,_,rfl,by simp,by unfold maxLen;simp,fun _=>⟨_,0,rfl,fun i a=>by
 obtain rfl:i=0:=by simpa using a
 exact h.c 0 rfl⟩⟩
theorem IvN.Cut.wd {d m:Rat}{S c:IvN}(h:Cut d S c)(e:0≤d)(f:S.inn m)(j:S.lo≤S.hi):c.wd≤S.wd+2*(d*m)∧c.lo≤c.hi:=by
 obtain⟨a,b⟩:=f;have g:=Rat.mul_le_mul_of_nonneg_left (ab_of a (by grind:S.lo≤m)) e;have i:=Rat.mul_le_mul_of_nonneg_left (ab_of (by grind: -m≤S.hi) b) e;have:=h.lo;have:=h.hi;have:=h.lo';have:=h.hi';unfold IvN.wd
 constructor<;>grind
structure PInv (U:IvN) (c:Nat→Rat) (wU d:Rat) (k:Nat) (sum term:IvN):Prop where
 term_has: ∀u,U.has u→term.has (tmS u c k)
 sum_has: ∀u,U.has u→sum.has (rs (tmS u c) (k+1))
 term_in:term.inn (hf k)
 term_ord:term.lo≤term.hi
 sum_ord:sum.lo≤sum.hi
 term_wd:term.wd≤hf k*((k:Rat)*(2*(wU+d)))
 sum_wd:sum.wd≤(k:Rat)*(2*(wU+d)+8*d)
theorem PInv.zero (U:IvN)(c:Nat→Rat)(wU d:Rat):PInv U c wU d 0 ⟨1,1⟩ ⟨1,1⟩:=by
 refine⟨fun u _=> ?_,fun u _=> ?_, ?_,Rat.le_refl,Rat.le_refl, ?_, ?_⟩
 ·exact⟨Rat.le_refl,Rat.le_refl⟩
 ·have:rs (tmS u c) (0+1)=1:=by simp only[rs,tmS];grind
  rw[this];exact⟨Rat.le_refl,Rat.le_refl⟩
 ·constructor<;>simp only[hf]<;>grind
 ·unfold IvN.wd
  simp
  grind
 ·unfold IvN.wd
  simp
  grind
theorem PInv.term {U:IvN}{c:Nat→Rat}{wU d mu:Rat}{k:Nat}{B i f:IvN}(h:PInv U c wU d k B i)(w: ∀k,0≤c (k+1)∧c (k+1)≤1)(l:U.inn mu)(t:U.lo≤U.hi)(n: ∀k,mu*c (k+1)≤1/2)(p:U.wd≤wU)(x:0≤d)
  (j:IvN.Cut d (IvN.scl (c (k+1)) (IvN.times i U)) f):
  (∀u,U.has u→f.has (tmS u c (k+1)))∧f.inn (hf (k+1))∧f.lo≤f.hi∧f.wd≤hf (k+1)*(((k+1:Nat):Rat)*(2*(wU+d))):=by
 obtain⟨g,s⟩:=w k;have J:=hf_pos k;obtain⟨C,D,E⟩:=IvN.times_wd h.term_in l h.term_ord t;obtain⟨A,q⟩:=IvN.scl_wd g D;have y:(IvN.scl (c (k+1)) (IvN.times i U)).lo≤(IvN.scl (c (k+1)) (IvN.times i U)).hi:=Rat.mul_le_mul_of_nonneg_left E g;have m:(IvN.scl (c (k+1)) (IvN.times i U)).inn (hf (k+1)):=by
  have a:=Rat.mul_le_mul_of_nonneg_left (n k) (show 0≤hf k by grind)
  have b:c (k+1)*(hf k*mu)≤hf (k+1):=by simp only[hf];grind
  exact⟨by have:=q.1;grind,Rat.le_trans q.2 b⟩
 obtain⟨r,F⟩:=j.wd x m y;refine⟨fun u o=> ?_,j.pow _ m,F, ?_⟩
 ·have a:=IvN.scl_has (IvN.times_has (h.term_has u o) o) g
  have b:=j.has a;have e:c (k+1)*(tmS u c k*u)=tmS u c (k+1):=by simp only[tmS];grind
  rwa [e] at b
 ·have e:((k+1:Nat):Rat)=(k:Rat)+1:=by simp
  rw[A] at r;rw[e];have z:0≤wU:=by unfold IvN.wd at p;grind
  have G:=h.term_wd;have L:0≤mu:=by have:=l.1;have:=l.2;grind
  have K:(0:Rat)≤(k:Rat):=by
   have:((0:Nat):Rat)≤(k:Rat):=Rat.natCast_le_natCast.2 (by omega)
   simpa using this
  have M:=Rat.mul_le_mul_of_nonneg_left C g;have N:=mul_le_mul' (n k) G (by have:=h.term_ord;unfold IvN.wd;grind) (by grind);have O:=Rat.mul_le_mul_of_nonneg_left p (show 0≤c (k+1)*hf k from Rat.mul_nonneg g (by grind))
  have P:=mul_le_mul' s (Rat.le_refl (a:=hf k*wU)) (Rat.mul_nonneg (by grind) z) (by grind);have H:hf (k+1)=hf k*(1/2):=rfl;rw[H] at r⊢;have I:((k:Rat)+1)*(2*(wU+d))=(k:Rat)*(2*(wU+d))+2*(wU+d):=by grind
  rw[I];generalize(k:Rat)*(2*(wU+d))=v at*
  grind
theorem ab_inn {U:IvN}{mu u:Rat}(a:U.inn mu)(b:U.has u):ab u≤mu:=IvN.ab_of (Rat.le_trans a.1 b.1) (Rat.le_trans b.2 a.2)
theorem PInv.sum_in {U:IvN}{c:Nat→Rat}{wU d mu:Rat}{k:Nat}{g n:IvN}(h:PInv U c wU d k g n)(e: ∀k,0≤c (k+1)∧c (k+1)≤1)(i:U.inn mu)(j:U.lo≤U.hi)(l: ∀k,mu*c (k+1)≤1/2)
  (o:(k:Rat)*(2*(wU+d)+8*d)≤1):g.inn 3:=by
 have f:U.has U.lo:=⟨Rat.le_refl,j⟩;have m: ∀k,ab U.lo*c (k+1)≤1/2:=fun k=>Rat.le_trans (Rat.mul_le_mul_of_nonneg_right (ab_inn i f) (e k).1) (l k)
 obtain⟨a,b⟩:=rs_bd (fun k=>(e k).1) m k
 obtain⟨x,y⟩:=h.sum_has _ f;have w:=h.sum_wd;unfold IvN.wd at w
 constructor<;>grind
theorem PInv.next {U:IvN}{c:Nat→Rat}{wU d mu:Rat}{k:Nat}{b s a r:IvN}(h:PInv U c wU d k b s)(m: ∀k,0≤c (k+1)∧c (k+1)≤1)(j:U.inn mu)(l:U.lo≤U.hi)(o: ∀k,mu*c (k+1)≤1/2)(q:U.wd≤wU)(n:0≤d)
  (C:(k:Rat)*(2*(wU+d)+8*d)≤1)
  (z:IvN.Cut d (IvN.scl (c (k+1)) (IvN.times s U)) a) (i:IvN.Cut d (IvN.plus b a) r):PInv U c wU d (k+1) r a:=by
 obtain⟨g,t,v,f⟩:=h.term m j l o q n z;have M:=h.sum_in m j l o C;have K:0≤wU:=by unfold IvN.wd at q;grind
 have J:=hf_one (k+1);have B:(IvN.plus b a).inn 4:=by
  unfold IvN.plus IvN.inn at*
  constructor<;>grind
 have D:(IvN.plus b a).lo≤(IvN.plus b a).hi:=by
  have:=h.sum_ord;unfold IvN.plus
  grind
 obtain⟨E,F⟩:=i.wd n B D;refine⟨g,fun u p=>i.has (IvN.plus_has (h.sum_has u p) (g u p)),t,v,F,f, ?_⟩
 have e:((k+1:Nat):Rat)=(k:Rat)+1:=by simp
 have A:((k+1+1:Nat):Rat)=(k:Rat)+1+1:=by simp
 have w:=hf_nat (k+1);have G:=hf_pos (k+1);have L:=nat_nn k;rw[A] at w;rw[e] at f⊢;have H:=Rat.mul_le_mul_of_nonneg_right (show hf (k+1)*((k:Rat)+1)≤1 by grind) (show 0≤2*(wU+d) by grind)
 have x:hf (k+1)*(((k:Rat)+1)*(2*(wU+d)))=hf (k+1)*((k:Rat)+1)*(2*(wU+d)):=by grind
 rw[x] at f;have I:=h.sum_wd;have y:(IvN.plus b a).wd=b.wd+a.wd:=by unfold IvN.plus IvN.wd;grind
 rw[y] at E
 grind
theorem awg_rest (tn:Nat){w:Rat}(c:0≤w)(d:w≤1/2)(i:Nat): ∀j,ab (awg tn w (i+j)-awg tn w i)≤rp w (2*i+1)*(4/3-4/3*(hf j*hf j))
 |0=>by
  have:awg tn w (i+0)-awg tn w i=0:=by rw[Nat.add_zero];grind
  rw[this];simp only[hf];unfold ab
  grind
 |j+1=>by
  have k:=awg_rest tn c d i j;have e:awg tn w (i+(j+1))=awg tn w (i+j)+sgt tn (i+j)*awt w (i+j):=rfl;have a:=ab_add (awg tn w (i+j)-awg tn w i) (sgt tn (i+j)*awt w (i+j));have f:awg tn w (i+j)-awg tn w i+sgt tn (i+j)*awt w (i+j)=awg tn w (i+(j+1))-awg tn w i:=by rw[e];grind
  rw[f,ab_mul] at a;have l:ab (sgt tn (i+j))=1:=by unfold sgt ab;grind
  rw[l] at a;have p: ∀j,rp w (2*(i+j)+1)≤rp w (2*i+1)*(hf j*hf j):=by
   intro j
   induction j with
   |zero=>simp only[hf];rw[Nat.add_zero];grind
   |succ j k=>
    have r:rp w (2*(i+(j+1))+1)=rp w (2*(i+j)+1)*w*w:=rfl;have n:=rp_nn c (2*(i+j)+1);have x:=mul_le_mul' d d c (by grind);have y:=Rat.mul_le_mul_of_nonneg_left (show w*w≤1/4 by grind) n
    rw[r];simp only[hf]
    grind
  have q:=p j;have n:=rp_nn c (2*(i+j)+1);have h:=CxN.inv_one (2*(i+j));have b:ab (awt w (i+j))≤rp w (2*(i+j)+1):=by
   unfold awt;rw[ab_mul];have g:ab (rp w (2*(i+j)+1))=rp w (2*(i+j)+1):=by unfold ab;grind
   rw[g];have:=Rat.mul_le_mul_of_nonneg_right h n
   grind
  simp only[hf]
  grind
theorem lp_near {n:Nat}(x:2≤n)(tn:Nat){w N:Rat}(hw:w*(n:Rat)=1)(X:0≤N): ∀f i t s r:Nat,t<4^f→(t:Rat)≤N*rp w (2*i+1)→N*rp w (2*i+1)≤(t:Rat)+2→ab (N*awg tn w i-((s:Rat)-(r:Rat)))≤3*(i:Rat)→
  ∀m,(lp (n*n) tn f i t s r).1≤m→ab (N*awg tn w m-(((lp (n*n) tn f i t s r).2.1:Rat)-((lp (n*n) tn f i t s r).2.2:Rat)))≤3*((lp (n*n) tn f i t s r).1:Rat)+3:=by
 have a0:(0:Rat)< (n:Rat):=nat_pos' (by omega);have Y:(2:Rat)≤(n:Rat):=by
  have:((2:Nat):Rat)≤(n:Rat):=Rat.natCast_le_natCast.2 x
  simpa using this
 have j:0≤w:=by
  by_cases c:0≤w
  ·exact c
  ·have:=Rat.mul_nonneg (show 0≤ -w by grind) (show 0≤(n:Rat) by grind)
   grind
 have B:w≤1/2:=by
  have:=Rat.mul_le_mul_of_nonneg_left Y j
  grind
 have L: ∀{a:Rat},a≤((0:Nat):Rat)+2→a≤2:=fun {a} h=>by
  have R:((0:Nat):Rat)=0:=rfl;rw[R] at h
  grind
 have E: ∀i s r:Nat,N*rp w (2*i+1)≤2→ab (N*awg tn w i-((s:Rat)-(r:Rat)))≤3*(i:Rat)→ ∀m,i≤m→ab (N*awg tn w m-((s:Rat)-(r:Rat)))≤3*(i:Rat)+3:=by
  intro i s r o q m g;have a:=awg_rest tn j B i (m-i);rw[show i+(m-i)=m by omega] at a
  have p:=hf_pos (m-i);have n0:=rp_nn j (2*i+1);have n1:=Rat.mul_nonneg n0 (Rat.mul_nonneg (show 0≤hf (m-i) by grind) (show 0≤hf (m-i) by grind))
  have b:=Rat.mul_le_mul_of_nonneg_left (show ab (awg tn w m-awg tn w i)≤rp w (2*i+1)*(4/3) by grind) X
  have c:N*ab (awg tn w m-awg tn w i)=ab (N*(awg tn w m-awg tn w i)):=by
   rw[ab_mul];have:ab N=N:=by unfold ab;grind
   rw[this]
  rw[c] at b;have d:=ab_add (N*(awg tn w m-awg tn w i)) (N*awg tn w i-((s:Rat)-(r:Rat)));have e:N*(awg tn w m-awg tn w i)+(N*awg tn w i-((s:Rat)-(r:Rat)))=N*awg tn w m-((s:Rat)-(r:Rat)):=by grind
  rw[e] at d
  grind
 intro f
 induction f with
 |zero=>
  intro i t s r y o q u m g;have l:t=0:=by simpa using y
  subst l;simp only[lp] at g⊢;exact E i s r (L q) u m g
 |succ f ih=>
  intro i t s r y o q u m g
  by_cases l:t=0
  ·subst l
   rw[lp_zero] at g⊢;exact E i s r (L q) u m g
  have Z:4≤n*n:=Nat.mul_le_mul x x;have H:=div_step Z y;obtain⟨D,Q⟩:=div_rat (a:=t) (b:=n*n) (by omega);obtain⟨q1,q2⟩:=div_rat (a:=t) (b:=2*i+1) (by omega);have I:rp w (2*(i+1)+1)=rp w (2*i+1)*w*w:=rfl;have r0:=rp_nn j (2*i+1);have P:((n*n:Nat):Rat)=(n:Rat)*(n:Rat):=Rat.natCast_mul _ _;rw[P] at D Q;have J:w*w*((n:Rat)*(n:Rat))=1:=by
   have:w*w*((n:Rat)*(n:Rat))=w*(n:Rat)*(w*(n:Rat)):=by grind
   rw[this,hw]
   grind
  have K:=Rat.mul_nonneg j j;have a3:w*w≤1/4:=by have:=mul_le_mul' B B j (by grind);grind
  have F:((t/(n*n):Nat):Rat)≤N*rp w (2*(i+1)+1):=by
   have a:=Rat.mul_le_mul_of_nonneg_left (Rat.le_trans D o) K;rw[I];generalize((t/(n*n):Nat):Rat)=T at*;have:w*w*(T*((n:Rat)*(n:Rat)))=T*(w*w*((n:Rat)*(n:Rat))):=by grind
   rw[this,J] at a
   grind
  have G:N*rp w (2*(i+1)+1)≤((t/(n*n):Nat):Rat)+2:=by
   have a:=Rat.mul_le_mul_of_nonneg_left (show N*rp w (2*i+1)≤((t/(n*n):Nat):Rat)*((n:Rat)*(n:Rat))+((n:Rat)*(n:Rat)-1)+2 by grind) K
   rw[I];generalize((t/(n*n):Nat):Rat)=T at*;have:w*w*(T*((n:Rat)*(n:Rat))+((n:Rat)*(n:Rat)-1)+2)=T*(w*w*((n:Rat)*(n:Rat)))+(w*w*((n:Rat)*(n:Rat))-w*w)+2*(w*w):=by grind
   rw[this,J] at a
   grind
  have k0:(0:Rat)< ((2*i+1:Nat):Rat):=nat_pos (2*i);have k1:(1:Rat)≤((2*i+1:Nat):Rat):=by
   have:((1:Nat):Rat)≤((2*i+1:Nat):Rat):=Rat.natCast_le_natCast.2 (by omega)
   simpa using this
  have v:=inv_mul (2*i);have A:=inv_nonneg (2*i);have W:ab (N*awt w i-((t/(2*i+1):Nat):Rat))≤3:=by
   unfold awt;generalize((t/(2*i+1):Nat):Rat)=T at*;generalize 1/((2*i+1:Nat):Rat)=c at*;generalize((2*i+1:Nat):Rat)=k at*;generalize rp w (2*i+1)=ρ at*;have c1:c≤1:=by have:=Rat.mul_le_mul_of_nonneg_left k1 A;grind
   have M:=Rat.mul_le_mul_of_nonneg_left (Rat.le_trans q1 o) A;have O:=Rat.mul_le_mul_of_nonneg_left (show N*ρ≤T*k+(k-1)+2 by grind) A
   have S:c*(T*k)=T*(c*k):=by grind
   have U:c*(T*k+(k-1)+2)=T*(c*k)+c*k+c:=by grind
   rw[S,v] at M;rw[U,v] at O;rw[ab_le]
   constructor<;>grind
  have ai:awg tn w (i+1)=awg tn w i+sgt tn i*awt w i:=rfl;have C:((i+1:Nat):Rat)=(i:Rat)+1:=by simp
  rw[ab_le] at W u
  by_cases c:tn*(i % 2)=0
  ·have z:sgt tn i=1:=by unfold sgt;rw[if_pos c]
   rw[lp,if_neg l,if_pos c] at g⊢;refine ih _ _ _ _ H F G ?_ m g;rw[ai,z,C,Rat.natCast_add,ab_le]
   constructor<;>grind
  ·have z:sgt tn i= -1:=by unfold sgt;rw[if_neg c]
   rw[lp,if_neg l,if_neg c] at g⊢;refine ih _ _ _ _ H F G ?_ m g;rw[ai,z,C,Rat.natCast_add,ab_le]
   constructor<;>grind
theorem lp_sum {n k:Nat}(j:2≤n)(tn:Nat){w:Rat}(d:w*(n:Rat)=1)(m:Nat)(i:(lp (n*n) tn (k+1) 0 (2^k/n) 0 0).1≤m):
  ab (((2^k:Nat):Rat)*awg tn w m-(((lp (n*n) tn (k+1) 0 (2^k/n) 0 0).2.1:Rat)-((lp (n*n) tn (k+1) 0 (2^k/n) 0 0).2.2:Rat)))≤3*((lp (n*n) tn (k+1) 0 (2^k/n) 0 0).1:Rat)+3:=by
 have p:(0:Rat)< (n:Rat):=nat_pos' (by omega);have q:(1:Rat)≤(n:Rat):=by
  have:((1:Nat):Rat)≤(n:Rat):=Rat.natCast_le_natCast.2 (by omega)
  simpa using this
 have f:0≤w:=by
  by_cases c:0≤w
  ·exact c
  ·have:=Rat.mul_nonneg (show 0≤ -w by grind) (show 0≤(n:Rat) by grind)
   grind
 obtain⟨g,h⟩:=div_rat (a:=2^k) (b:=n) (by omega);have e:rp w (2*0+1)=w:=by simp only[rp];grind
 refine lp_near j tn d (nat_nn _) (k+1) 0 (2^k/n) 0 0 ?_ ?_ ?_ ?_ m i
 ·have l:2^k/n≤2^k:=Nat.div_le_self _ _
  have o:2^k<4^ (k+1):=by
   have a:2^k≤4^k:=Nat.pow_le_pow_left (by omega) k;have b:0<4^k:=Nat.pow_pos (by omega);rw[Nat.pow_succ];omega
  omega
 ·rw[e]
  have a:=Rat.mul_le_mul_of_nonneg_right g f;generalize((2^k/n:Nat):Rat)=T at*;have:T*(n:Rat)*w=T*(w*(n:Rat)):=by grind
  rw[this,d] at a
  grind
 ·rw[e]
  have a:=Rat.mul_le_mul_of_nonneg_right h f;generalize((2^k/n:Nat):Rat)=T at*;have:(T*(n:Rat)+((n:Rat)-1))*w=T*(w*(n:Rat))+(w*(n:Rat)-w):=by grind
  rw[this,d] at a
  grind
 ·have:awg tn w 0=0:=rfl
  rw[this];unfold ab;simp
  grind
theorem awg_aw (w:Rat)(n:Nat):awg 0 w n=aw w n:=by
 unfold awg aw;exact rs_congr fun j _=>by unfold sgt;rw[if_pos (by omega)];grind
theorem hf_two (k:Nat):hf k*((2^k:Nat):Rat)=1:=by
 induction k with
 |zero=>simp only[hf];simp
 |succ k ih=>
  rw[Nat.pow_succ,Rat.natCast_mul];have:((2:Nat):Rat)=2:=rfl;rw[this];simp only[hf]
  grind
theorem aw_neg (w:Rat)(n:Nat):aw (-w) n= -aw w n:=by
 have h: ∀n,rs (awt (-w)) n= -rs (awt w) n:=by
  intro n
  induction n with
  |zero=>simp only[rs];grind
  |succ n ih=>
   rw[rs,rs,ih];unfold awt;rw[(rp_neg w n).2]
   grind
 exact h n
theorem p2_hf (k:Nat):p2 (-(k:Int))=hf k:=by
 have h:=hf_two k;have a:=p2_neg k;rw[p2_nat] at a;have b:=two_posR k;generalize((2^k:Nat):Rat)=y at*
 grind
def SIn (S:IvN)(f:Nat→Rat):Prop:= ∃g,NrN f g∧EvN fun n=>S.has (g n)
theorem SIn.cut {d:Rat}{S a:IvN}{f:Nat→Rat}(h:SIn S f)(c:IvN.Cut d S a):SIn a f:=by
 obtain⟨g,b,N,e⟩:=h;exact⟨g,b,N,fun n i=>c.has (e n i)⟩
theorem Fit9.all {t:ak}(h:Fit9 t):(Dg.dg 4294967296 t.n).length≤100000000∧ -1000000000≤t.e∧t.e≤1000000000:=by
 obtain⟨a,b⟩:=h;exact⟨jq (bits_lt t.n) (by omega),by omega,by omega⟩
theorem lp_few {nn j:Nat}(d:2^j≤nn)(tn:Nat): ∀F f i t s r:Nat,t<2^ (j*f)→(lp nn tn F i t s r).1≤i+f:=by
 intro F
 induction F with
 |zero=>intro f i t s r _;simp only[lp];omega
 |succ F ih=>
  intro f i t s r e
  by_cases a:t=0
  ·rw[lp,if_pos a];simp only;omega
  ·cases f with
   |zero=>
    rw[Nat.mul_zero,Nat.pow_zero] at e;omega
   |succ f=>
    have b:t/nn<2^ (j*f):=by
     have c:0<2^j:=Nat.pow_pos (by omega);refine Nat.lt_of_le_of_lt (Nat.div_le_div_left d c) (Nat.div_lt_of_lt_mul ?_)
     rwa [←Nat.pow_add,Nat.add_comm,←Nat.mul_succ]
    rw[lp,if_neg a]
    split
    ·have:=ih f (i+1) (t/nn) (s+t/(2*i+1)) r b
     omega
    ·have:=ih f (i+1) (t/nn) s (r+t/(2*i+1)) b
     omega
def PwR (w:World)(I:Nat→ak×ak→ak×ak→Prop)(a b x y:ak)(f:Int)(ao bo xo yo:Option Addr)(ac bc xc yc:Nat)(b7 b8 b9:Nat)(kv:Value)(wr:World):Prop:=
 ∃(k j:Nat) (s r h v:ak) (so ro ho vo:Option Addr) (sc rc hc vc:Nat),kv=yi j∧Hid (j=k+1∧I k (s,r) (h,v))∧
  au wr w.heap.size 54 [.bool a.s,yT ao a.n ac,yi a.e,.bool b.s,yT bo b.n bc,yi b.e]∧au wr (w.heap.size+1) 54 [.bool false,yN,yi 0,.bool false,yN,yi 0]∧au wr b7 54 [.bool x.s,yT xo x.n xc,yi f,.bool y.s,yT yo y.n yc,yi y.e]∧au wr b8 54 [.bool s.s,yT so s.n sc,yi s.e,.bool r.s,yT ro r.n rc,yi r.e]∧au wr b9 54 [.bool h.s,yT ho h.n hc,yi h.e,.bool v.s,yT vo v.n vc,yi v.e]∧
  Rd wr .u32 (yT ao a.n ac) (Dg.dg 4294967296 a.n)∧Rd wr .u32 (yT bo b.n bc) (Dg.dg 4294967296 b.n)∧Rd wr .u32 (yT xo x.n xc) (Dg.dg 4294967296 x.n)∧Rd wr .u32 (yT yo y.n yc) (Dg.dg 4294967296 y.n)∧Rd wr .u32 (yT so s.n sc) (Dg.dg 4294967296 s.n)∧Rd wr .u32 (yT ro r.n rc) (Dg.dg 4294967296 r.n)∧Rd wr .u32 (yT ho h.n hc) (Dg.dg 4294967296 h.n)∧Rd wr .u32 (yT vo v.n vc) (Dg.dg 4294967296 v.n)∧yB w wr
end Go.Proofs.YthhiidikgchdeabGreatDoor

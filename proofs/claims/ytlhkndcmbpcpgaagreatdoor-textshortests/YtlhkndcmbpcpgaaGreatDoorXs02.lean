/- Texts laid together. -/
import Derived.WalkKit
import Derived.WalkSpells
import Derived.Deep.QuietTactic
import Derived.BigQuiet
import Derived.Lib.TrailingZeros
import Derived.Test.YtlhkndcmbpcpgaaGreatDoorChecked
import Derived.Handy
import Derived.Laws.CopyOwn
import Derived.BigRegion
import Derived.Deep.LoopGhost
import Derived.Deep.RegionLaw
import Derived.WalkSmall
import Derived.OpenShut
import Derived.Laws.MathBits
import Derived.Lib.BitFns
import Derived.Lib.Walk
import Derived.Lib.Small
import Derived.Lib.Strings
import Derived.Shelf.Spec.TrailingZeros
import Derived.Deep.RegionHeld3
import Derived.Laws.ResultCell
import Derived.ChangeMaps4
import Derived.Deep.MidRow
import Derived.Deep.Cut
import Derived.Deep.DeepCutAuto
import Derived.Deep.RegionWith
import Derived.Laws.OwnMore
import Derived.Deep.AppendLies
import Derived.Laws.IdiomStrings
import Derived.Shelf.Lay
import Derived.Shelf.Strings.Cut
import Derived.Shelf.Small.Wraps
import Derived.Shelf.Strconv.Atoi
import Derived.Shelf.Strconv.Itoa3
import Derived.Lib.AppendIntMem
import Derived.Lib.SmallJoins
import Derived.Test.YtlhkndcmbpcpgaaGreatDoorRows
import Derived.Deep.CutBlock
import Derived.Maps.AppendAt
import Derived.OrdersHeld
import Derived.Lib.ItoaLen
namespace Go.Proofs.YtlhkndcmbpcpgaaGreatDoor
open Go.RowKit
theorem aL {w a:World}{B:Nat}(h:Below B w a)(n:Nat):Below B w (a.drewN n):=⟨h.os,h.tape,h.output,h.size,h.block⟩
def tz (n:Nat):Nat:=Lib.ctzFrom n n
theorem fO {n:Nat}(h:n≠0): ∃m,n=2^tz n*(2*m+1):=by
 obtain⟨m,a,_⟩:=Lib.ctzFrom_spec n n (by omega) Nat.lt_two_pow_self;exact⟨m,a⟩
theorem Dh {t u m k:Nat}(h:2^t*(2*m+1)=2^u*(2*k+1)):t=u∧m=k:=by
 induction t generalizing u with
 |zero=>
  cases u with
  |zero=>simp at h;exact⟨rfl,by omega⟩
  |succ u=>rw[Nat.pow_succ,Nat.mul_comm _ 2,Nat.mul_assoc] at h;omega
 |succ t ih=>
  cases u with
  |zero=>rw[Nat.pow_succ,Nat.mul_comm _ 2,Nat.mul_assoc] at h;omega
  |succ u=>
   rw[Nat.pow_succ,Nat.mul_comm _ 2,Nat.mul_assoc,Nat.pow_succ,Nat.mul_comm (2^u) 2,Nat.mul_assoc] at h;have:=ih (u:=u) (by omega);exact⟨by omega,this.2⟩
theorem F8 {n t m:Nat}(h:n=2^t*(2*m+1)):tz n=t:=by
 have b:n≠0:=by
  rw[h];exact Nat.ne_of_gt (Nat.mul_pos (Nat.pow_pos (by omega)) (by omega))
 obtain⟨k,a⟩:=fO b;exact(Dh (a.symm.trans h)).1
theorem lI {n t m:Nat}(h:n=2^t*(2*m+1)):n/2^t=2*m+1:=by
 rw[h,Nat.mul_div_cancel_left _ (Nat.pow_pos (by omega))]
def Mgk (n:Nat):Prop:=0≤n
theorem mgkI (n:Nat):Mgk n:=Nat.zero_le n
def dm (a b:Int):Int:=if a<b then-1 else if b<a then 1 else 0
theorem KJ (a b:Nat)(c:a<4294967296)(d:b<4294967296):bits .or .u64 ((a:Int)*4294967296) b=((a*4294967296+b:Nat):Int):=by
 have e:((a:Int)*4294967296)=((a*4294967296:Nat):Int):=by omega
 rw[e,u64_or_nat _ _ (by omega) (by omega)];have:=nat_join 32 (a*4294967296) b (by omega) (by omega);rw[this]
theorem I6 {t y:Nat}{a b:Nat}(c:a<y)(d:b<4294967296)(e:t=a*4294967296+b):t/y<4294967296:=by
 rw[Nat.div_lt_iff_lt_mul (by omega)];have:(a+1)*4294967296≤y*4294967296:=Nat.mul_le_mul_right _ c;rw[Nat.mul_comm 4294967296 y];omega
theorem rO (b a j:Nat):(⟨b,a,none⟩:Addr).add j=⟨b,a+j,none⟩:=by
 simp only[Addr.add]
 split
 ·rename_i h;subst h;rfl
 ·rfl
theorem j9 (k:IntKind)(zs:List Nat)(j:Nat)(a:j<zs.length):(zs.map (fun n:Nat=>Value.int k (n:Int)))[j]? =some (.int k ((zs.getD j 0:Nat):Int)):=by
 rw[List.getElem?_map,List.getElem?_eq_getElem a];simp[List.getD_eq_getElem?_getD,a]
theorem ib (w:World)(g:Option Nat):w.grownBy w g:=⟨rfl,rfl,rfl,Nat.le_refl _,fun _ _ _=>rfl⟩
theorem bI (w:World)(g j:Nat)(u:Value):w.grownBy (w.setCell ⟨g,j,none⟩ u) (some g):=
 ⟨rfl,rfl,rfl,by simp[World.setCell],fun k _ a=>Below.heap_setCell w ⟨g,j,none⟩ u k (fun e=>a (by rw[e]))⟩
theorem AU (l:List Nat)(k:Nat)(h:k<l.length):l.drop k=l.getD k 0::l.drop (k+1):=by
 rw[List.drop_eq_getElem_cons h];simp[List.getD_eq_getElem?_getD,h]
theorem vm (w:World)(g:Option Nat):w.grownBy w.drew g:=⟨rfl,rfl,rfl,Nat.le_refl _,fun _ _ _=>rfl⟩
def XT (zs cur:List Nat)(i:Nat):Prop:=
 cur.length=zs.length∧2*i≤zs.length+1∧ ∀k,k<zs.length→cur.getD k 0=if k<i∨zs.length-1-i<k then zs.getD (zs.length-1-k) 0 else zs.getD k 0
def brw (x y c:Nat):Nat:=if x<y+c then 1 else 0
theorem DT (v:Nat)(h:v<4294967296):v.testBit 31=decide (2147483648≤v):=by
 rw[Nat.testBit_eq_decide_div_mod_eq]
 by_cases e:2147483648≤v
 ·rw[decide_eq_true e,decide_eq_true (by omega)]
 ·rw[decide_eq_false e,decide_eq_false (by omega)]
theorem abU (v:Nat)(h:v<4294967296):v/2147483648=(v.testBit 31).toNat:=by
 rw[DT v h]
 by_cases e:2147483648≤v
 ·rw[decide_eq_true e,Bool.toNat_true];omega
 ·rw[decide_eq_false e,Bool.toNat_false];omega
theorem QS (x y c d:Nat)(l:x<4294967296)(m:y<4294967296)(q:c≤1)(r:d=(x+4294967296-y-c) % 4294967296):
  (((4294967295^^^x)&&& y)||| ((4294967295^^^ (x^^^y))&&& d))/2147483648=brw x y c:=by
 have k:d<4294967296:=by omega
 have n:(4294967295^^^x)<2^32:=Nat.xor_lt_two_pow (by omega) (by omega);have g:(x^^^y)<2^32:=Nat.xor_lt_two_pow (by omega) (by omega);have o:(4294967295^^^ (x^^^y))<2^32:=Nat.xor_lt_two_pow (by omega) g;have h:((4294967295^^^x)&&& y)<2^32:=Nat.and_lt_two_pow _ (by omega);have i:((4294967295^^^ (x^^^y))&&& d)<2^32:=Nat.and_lt_two_pow _ (by omega);have p:=Nat.or_lt_two_pow h i;rw[abU _ (by omega)];have j:Nat.testBit 4294967295 31=true:=by decide
 simp only[Nat.testBit_or,Nat.testBit_and,Nat.testBit_xor,j,DT x l,DT y m,DT d k];unfold brw
 by_cases a:2147483648≤x<;>by_cases b:2147483648≤y<;>by_cases e:2147483648≤d<;>by_cases f:x<y+c<;>simp[a,b,e,f]<;>omega
theorem NE (x y c:Nat)(f:x<4294967296)(g:y<4294967296)(d:c≤1):
  bits .or .u32 (bits .and .u32 (bits .xor .u32 IntKind.u32.max x) y) (bits .and .u32 (bits .xor .u32 IntKind.u32.max (bits .xor .u32 x y)) (((x:Int)-(y:Int)-(c:Int)) % 4294967296))/2147483648=((brw x y c:Nat):Int):=by
 have b:IntKind.u32.max=((4294967295:Nat):Int):=by decide
 have e:((x:Int)-(y:Int)-(c:Int)) % 4294967296=(((x+4294967296-y-c) % 4294967296:Nat):Int):=by omega
 have l:(x+4294967296-y-c) % 4294967296<4294967296:=Nat.mod_lt _ (by omega);have h:(4294967295^^^x)<2^32:=Nat.xor_lt_two_pow (by omega) (by omega);have a:(x^^^y)<2^32:=Nat.xor_lt_two_pow (by omega) (by omega);have i:(4294967295^^^ (x^^^y))<2^32:=Nat.xor_lt_two_pow (by omega) a;have j:((4294967295^^^x)&&& y)<2^32:=Nat.and_lt_two_pow _ (by omega);have k:((4294967295^^^ (x^^^y))&&& ((x+4294967296-y-c) % 4294967296))<2^32:=Nat.and_lt_two_pow _ (by omega);rw[b,e,u32_xor_nat _ _ (by omega) (by omega),u32_xor_nat _ _ (by omega) (by omega),u32_xor_nat _ _ (by omega) (by omega),u32_and_nat _ _ (by omega) (by omega),u32_and_nat _ _ (by omega) (by omega),u32_or_nat _ _ (by omega) (by omega)];rw[←QS x y c _ f g d rfl];exact(Int.natCast_ediv _ _).symm
theorem RN (x y c:Nat):brw x y c≤1:=by unfold brw;split<;>omega
theorem gX {a b:Int}(h:a<b):dm a b= -1:=by unfold dm;rw[if_pos h]
theorem sO {a b:Int}(h:b<a):dm a b=1:=by unfold dm;rw[if_neg (by omega),if_pos h]
theorem Bh (a:Int):dm a a=0:=by unfold dm;rw[if_neg (by omega),if_neg (by omega)]
theorem JJ (k:Nat):(65536:Nat)^ (2*k)=4294967296^k:=by rw[Nat.pow_mul]
theorem gP:bitLen 0=0:=rfl
theorem vC (x:Nat)(h:x≠0):bitLen x=1+bitLen (x/2):=by
 by_cases a:x/2=0
 ·have:x=1:=by omega
  subst this;rfl
 ·exact bitLen_shift x 1 a
theorem ac5 (x:Nat)(h:x<18446744073709551616):Lib.bitLen x=bitLen x:=by
 induction x using Nat.strongRecOn with
 |_ x ih=>
  by_cases a:x=0
  ·subst a;rfl
  ·rw[Lib.bitLen_half x a h,vC x a,ih (x/2) (by omega) (by omega)]
theorem X4 (i:Nat)(h:i<Lib.len8tab.size):(Lib.len8tab[i]'h).toNat=bitLen i:=by
 have a:=Lib.len8tab_size;have:=Lib.len8_eq ⟨i,by omega⟩;simp only[Lib.len8,Int.toNat_natCast] at this;rw[getElem?_pos Lib.len8tab i h] at this;simp only[Option.getD_some] at this;rw[ac5 i (by omega)] at this;omega
theorem qz (k q x:Nat)(h:bitLen x=k+bitLen q)(b:q<256∧k≤24):RowKit.wrap64 ((k:Int)+RowKit.wrap64 ((bitLen q:Nat):Int))=((bitLen x:Nat):Int):=by
 have c:=bitLen_le8 q b.1;have a:=IntWalk.wrap64_in ((bitLen q:Nat):Int) ⟨by omega,by omega⟩;rw[a,IntWalk.wrap64_in _ ⟨by omega,by omega⟩,h];omega
theorem bF (x k:Nat)(h:x<2^k):bitLen x≤k:=by
 by_cases a:x=0
 ·subst a;rw[gP];omega
 ·have:=(bitLen_spec x).2 a
  have:=(Nat.pow_lt_pow_iff_right (by omega:1<2)).1 (Nat.lt_of_le_of_lt this h);omega
theorem Y7 (u x a:Nat)(g:a<32)(c:u<2^a):bits .or .u32 u ((x:Int)*2^a % 4294967296)=((u+x*2^a % 4294967296:Nat):Int):=by
 have f:2^a≤2^31:=Nat.pow_le_pow_right (by omega) (by omega);have e:(x:Int)*2^a % 4294967296=((x*2^a % 4294967296:Nat):Int):=by
  rw[Int.natCast_emod,Int.natCast_mul,Int.natCast_pow];rfl
 rw[e,u32_or_nat _ _ (by omega) (Nat.mod_lt _ (by omega)),Nat.or_comm];have d:x*2^a % 4294967296 % 2^a=0:=by
  have b:2^a∣4294967296:=⟨2^ (32-a),by rw[←Nat.pow_add,show a+(32-a)=32 from by omega]⟩
  rw[Nat.mod_mod_of_dvd _ b];exact Nat.mul_mod_left _ _
 rw[nat_join a _ _ d c];omega
theorem Vg (x a:Nat)(b:a<32):(x:Int)/2^ (32-a)=((x*2^a/4294967296:Nat):Int):=by
 have e:x*2^a/4294967296=x/2^ (32-a):=by
  have:(4294967296:Nat)=2^ (32-a)*2^a:=by rw[←Nat.pow_add,show 32-a+a=32 from by omega]
  rw[this,Nat.mul_div_mul_right _ _ (Nat.pow_pos (by omega))]
 rw[e,Int.natCast_ediv,Int.natCast_pow];rfl
def low (P Q:Nat):List Nat→List Nat
 | []=>[]
 |y::l=>(y/P+l.headD 0 % P*Q)::low P Q l
theorem mA (P Q:Nat)(l:List Nat):(low P Q l).length=l.length:=by
 induction l with
 |nil=>rfl
 |cons y l ih=>simp[low,ih]
theorem Gb (P Q:Nat)(l:List Nat): ∀j,j<l.length→(low P Q l).getD j 0=l.getD j 0/P+l.getD (j+1) 0 % P*Q:=by
 induction l with
 |nil=>intro j h;simp at h
 |cons y l ih=>
  intro j h
  cases j with
  |zero=>cases l<;>simp[low]
  |succ j=>simpa[low] using ih j (by simpa using h)
theorem I7 {P Q x y:Nat}(a:P*Q=4294967296)(f:x<4294967296):x/P<Q∧x/P+y % P*Q<4294967296:=by
 have b:0<P:=by
  rcases Nat.eq_zero_or_pos P with e|e
  ·subst e;simp at a
  ·exact e
 have c:x/P<Q:=by rw[Nat.div_lt_iff_lt_mul b,Nat.mul_comm,a];exact f
 have d:(y % P+1)*Q≤P*Q:=Nat.mul_le_mul_right _ (Nat.mod_lt _ b);rw[Nat.add_mul,a] at d;exact⟨c,by omega⟩
theorem adm (x y a:Nat)(h:a<32)(g:x<4294967296):bits .or .u32 ((x:Int)/2^a) ((y:Int)*2^ (32-a) % 4294967296)=((x/2^a+y % 2^a*2^ (32-a):Nat):Int):=by
 have b:2^a*2^ (32-a)=4294967296:=by rw[←Nat.pow_add,show a+(32-a)=32 from by omega]
 have f:=I7 (y:=y) b g;have c:(x:Int)/2^a=((x/2^a:Nat):Int):=by rw[Int.natCast_ediv,Int.natCast_pow];rfl
 have d:(y:Int)*2^ (32-a) % 4294967296=((y*2^ (32-a) % 4294967296:Nat):Int):=by rw[Int.natCast_emod,Int.natCast_mul,Int.natCast_pow];rfl
 have e:y*2^ (32-a) % 4294967296=y % 2^a*2^ (32-a):=by rw[←b,Nat.mul_mod_mul_right]
 rw[c,d,e,u32_or_nat _ _ (by omega) (by omega),Nat.or_comm,nat_join (32-a) _ _ (Nat.mul_mod_left _ _) f.1];omega
theorem ui (l:List Nat)(a j:Nat):(l.drop a).getD j 0=l.getD (a+j) 0:=by
 simp[List.getD_eq_getElem?_getD,List.getElem?_drop]
def abK (xs ds:List Nat)(wh P Q k:Nat):Prop:=
 ds.length=xs.length-wh∧ ∀j,ds.getD j 0=if j<k then xs.getD (wh+j) 0/P+xs.getD (wh+j+1) 0 % P*Q else 0
def shN (N:Nat)(n:Int):Nat:=if n<0 then N/2^ (-n).toNat else N*2^n.toNat
theorem C8 {x y:Nat}(a:x<65536)(b:y<65536):x*y≤4294836225:=by
 have:=Nat.mul_le_mul (Nat.le_sub_one_of_lt a) (Nat.le_sub_one_of_lt b)
 simpa using this
theorem Ql (p c x y:Nat):((p:Int)+(c:Int)+(x:Int)*(y:Int)) % 65536=(((p+c+x*y) % 65536:Nat):Int):=by
 rw[←Int.natCast_mul];omega
theorem Qm (p c x y:Nat):((p:Int)+(c:Int)+(x:Int)*(y:Int))/65536=(((p+c+x*y)/65536:Nat):Int):=by
 rw[←Int.natCast_mul];omega
def byt (s:ByteArray)(i:Nat):Nat:=(s[i]?.getD 0).toNat
theorem Ay (s:ByteArray)(i:Nat):byt s i<256:=by unfold byt;exact UInt8.toNat_lt _
theorem KD (s:ByteArray)(i:Nat)(h:i<s.size):(s[i]'h).toNat=byt s i:=by
 unfold byt;rw[getElem?_pos s i h];rfl
theorem am {B b:Nat}{w c:World}(h:Below B w c)(a:B≤b)(d e f:Value):Below B w (((c.setCell ⟨b,0,none⟩ d).setCell ⟨b,1,none⟩ e).setCell ⟨b,2,none⟩ f):=
 ((h.setCell (p:=⟨b,0,none⟩) a d).setCell (p:=⟨b,1,none⟩) a e).setCell (p:=⟨b,2,none⟩) a f
theorem CE (n:Nat)(i:Int)(h:0≤i):shN n i=n*2^i.toNat:=by
 unfold shN;rw[if_neg (by omega)]
theorem Ox {u v a D E q:Nat}(_hE:0<E)(f:a< (u+1)*E)(c:v*E≤D)(e:q*D≤a):q*v≤u:=by
 have d:q*v*E≤q*D:=by rw[Nat.mul_assoc];exact Nat.mul_le_mul_left _ c
 have b:q*v*E< (u+1)*E:=by omega
 have:=Nat.lt_of_mul_lt_mul_right b;omega
theorem Oy {u v a D E g:Nat}(d:g*v≤u)(j:g≤v+1)(k:u*E≤a)(c:D≤(v+1)*E):(g-1)*D≤a:=by
 have f:(g-1)*D≤(g-1)*(v+1)*E:=by rw[Nat.mul_assoc];exact Nat.mul_le_mul_left _ c
 have b:(g-1)*(v+1)≤u:=by
  rcases Nat.eq_zero_or_pos g with e|e
  ·subst e;simp
  ·obtain⟨h,rfl⟩: ∃h,g=h+1:=⟨g-1,by omega⟩
   rw[Nat.add_sub_cancel];rw[Nat.add_mul] at d;rw[Nat.mul_add];omega
 have i:(g-1)*(v+1)*E≤u*E:=Nat.mul_le_mul_right _ b;omega
def GsI (top d1 d0 p0 g r:Nat):Prop:=g*d1+r=top∧ ∀q,q*(d1*4294967296+d0)≤top*4294967296+p0→q<4294967296→q≤g
theorem Z1 (b a c d:Nat)(e:0<a)(j:d<4294967296):GsI b a c d (b/a) (b % a):=by
 refine⟨by have:=Nat.div_add_mod b a;rw[Nat.mul_comm] at this;exact this,fun q k _=> ?_⟩
 have f:q*a≤b:=by
  rcases Nat.lt_or_ge b (q*a) with h|h
  ·exfalso
   have g:(b+1)*4294967296≤q*a*4294967296:=Nat.mul_le_mul_right _ h;have i:q*a*4294967296≤q*(a*4294967296+c):=by rw[Nat.mul_assoc];exact Nat.mul_le_mul_left q (Nat.le_add_right _ _)
   omega
  ·exact h
 exact(Nat.le_div_iff_mul_le e).2 f
theorem S9 {j a c f g r:Nat}(h:GsI j a c f g r)(p:0<g)(d:4294967296≤g∨r*4294967296+f<g*c):GsI j a c f (g-1) (r+a):=by
 obtain⟨i,l⟩:=h;obtain⟨k,rfl⟩: ∃k,g=k+1:=⟨g-1,by omega⟩;rw[Nat.add_sub_cancel];refine⟨by rw[Nat.add_mul] at i;omega,fun q b m=> ?_⟩
 have o:=l q b m
 rcases Nat.lt_or_ge k q with e|e
 ·exfalso
  have n:q=k+1:=by omega
  subst n
  rcases d with d|d
  ·omega
  ·rw[←i,Nat.mul_add] at b
   rw[Nat.add_mul ((k+1)*a)] at b;rw[Nat.mul_assoc] at b;omega
 ·exact e
theorem Z2 {d b a c g r:Nat}(h:GsI d b a c g r)(e:g*a≤r*4294967296+c):g*(b*4294967296+a)≤d*4294967296+c:=by
 rw[←h.1,Nat.mul_add,Nat.add_mul (g*b),Nat.mul_assoc];omega
theorem Sd (c x s:Nat):((c:Int)+(x:Int)*(s:Int)) % 4294967296=(((c+x*s) % 4294967296:Nat):Int):=by rw[←Int.natCast_mul];omega
theorem Se (c x s:Nat):((c:Int)+(x:Int)*(s:Int))/4294967296=(((c+x*s)/4294967296:Nat):Int):=by rw[←Int.natCast_mul];omega
def msr (v:Value):Nat:=(intOf v).toNat
theorem Ap {x:Nat}(h:x<4294967296):(x:Int) % 4294967296=(x:Int):=by omega
theorem Mk {c a b d f i g r : Nat} (h : GsI c a b d g r) (p : 4294967296 ≤ r) (_hd : 0 < a) (q : i * 4294967296 + f = c) (n : i ≤ a) (o : f < 4294967296) (k : b < 4294967296) :
  g < 4294967296 ∧ g * (a * 4294967296 + b) ≤ c * 4294967296 + d := by
 have j : g < 4294967296 := by
  rcases Nat.lt_or_ge g 4294967296 with e | e
  ·exact e
  ·exfalso
   have l := h.1
   have m : 4294967296 * a ≤ g * a := Nat.mul_le_mul_right _ e
   omega
 refine ⟨j, Z2 h ?_⟩
 have : g * b ≤ 4294967296 * 4294967296 := Nat.mul_le_mul (by omega) (by omega)
 omega
theorem adr {B X D i n:Nat}(a:0<B)(c:1≤n)(b:X<D*B^ (i+1)):X/B^ (i+n)≤D/B^ (n-1):=by
 have e:i+n=(i+1)+(n-1):=by omega
 rw[e,Nat.pow_add,←Nat.div_div_eq_div_mul];apply Nat.div_le_div_right;have:=(Nat.div_lt_iff_lt_mul (Nat.pow_pos a)).2 b;omega
theorem aeU (B X m:Nat)(f:0<B)(g:X<B^ (m+3)):((X/B^ (m+2) % B)*B+X/B^ (m+1) % B)*B+X/B^m % B=X/B^m:=by
 have a:X/B^ (m+1)=X/B^m/B:=by rw[Nat.pow_succ,Nat.div_div_eq_div_mul]
 have d:X/B^ (m+2)=X/B^m/B/B:=by rw[show m+2=m+1+1 from rfl,Nat.pow_succ,←Nat.div_div_eq_div_mul,a]
 have e:X/B^ (m+2)<B:=by
  rw[Nat.div_lt_iff_lt_mul (Nat.pow_pos f)];have:B^ (m+3)=B*B^ (m+2):=by rw[show m+3=m+2+1 from rfl,Nat.pow_succ,Nat.mul_comm]
  omega
 rw[Nat.mod_eq_of_lt e,d,a];generalize X/B^m=u;have b:=Nat.div_add_mod (u/B) B;have c:=Nat.div_add_mod u B;rw[Nat.mul_comm (u/B/B) B,b,Nat.mul_comm,c]
theorem two (B D m:Nat)(d:0<B)(e:D<B^ (m+2)):(D/B^ (m+1) % B)*B+D/B^m % B=D/B^m:=by
 have b:D/B^ (m+1)=D/B^m/B:=by rw[Nat.pow_succ,Nat.div_div_eq_div_mul]
 have c:D/B^ (m+1)<B:=by
  rw[Nat.div_lt_iff_lt_mul (Nat.pow_pos d)];have:B^ (m+2)=B*B^ (m+1):=by rw[show m+2=m+1+1 from rfl,Nat.pow_succ,Nat.mul_comm]
  omega
 rw[Nat.mod_eq_of_lt c,b];have a:=Nat.div_add_mod (D/B^m) B;rw[Nat.mul_comm,a]
theorem SF (x:Nat){E:Nat}(h:0<E):x< (x/E+1)*E:=by
 have a:=Nat.div_add_mod x E;have b:=Nat.mod_lt x h;rw[Nat.add_mul,Nat.one_mul,Nat.mul_comm];generalize x % E=r at*;omega
theorem NC {B X D i m g:Nat}(c:0<B)(l:X<D*B^ (i+1))(d:B^ (m+1)≤D)(t:g<B)
  (f: ∀k,k*(D/B^m)≤X/B^ (i+m)→k<B→k≤g) (j:g*(D/B^m)≤X/B^ (i+m)):
  X/B^i/D<B∧(g=X/B^i/D∨g=X/B^i/D+1):=by
 have b:0<B^m:=Nat.pow_pos c;have e:0<D:=Nat.lt_of_lt_of_le (Nat.pow_pos c) d;have h:X/B^i/D<B:=by
  rw[Nat.div_lt_iff_lt_mul e,Nat.div_lt_iff_lt_mul (Nat.pow_pos c),Nat.mul_assoc,Nat.mul_comm B,Nat.mul_assoc,←Nat.pow_succ];exact l
 refine⟨h, ?_⟩;rw[Nat.pow_add,←Nat.div_div_eq_div_mul] at f j;generalize u:X/B^i=a at*;have p:D/B^m*B^m≤D:=Nat.div_mul_le_self D _;have q:D≤(D/B^m+1)*B^m:=by have:=SF D b;omega
 have n:a/B^m*B^m≤a:=Nat.div_mul_le_self a _;have o:a< (a/B^m+1)*B^m:=SF a b;have v:B≤D/B^m:=by
  rw[Nat.le_div_iff_mul_le b,Nat.mul_comm,←Nat.pow_succ];exact d
 have r:=Ox b o p (Nat.div_mul_le_self a D);have w:=f _ r h;have s:=Oy j (by omega) n q;have x:g-1≤a/D:=(Nat.le_div_iff_mul_le e).2 s;omega
theorem ND {X D i B:Nat}(b:0<B)(c:0<D):B^i*(D*(X/B^i/D))≤X∧X<B^i*(D*(X/B^i/D))+B^i*D:=by
 have d:0<B^i:=Nat.pow_pos b;have e:=Nat.div_add_mod X (B^i);have f:=Nat.div_add_mod (X/B^i) D;have g:=Nat.mod_lt X d;have h:=Nat.mod_lt (X/B^i) c;generalize X/B^i/D=q at*;generalize X/B^i % D=l at*;generalize X % B^i=k at*;generalize X/B^i=s at*;have j:B^i*(D*q)≤B^i*s:=Nat.mul_le_mul_left _ (by omega);have a:B^i*(s+1)≤B^i*(D*q+D):=Nat.mul_le_mul_left _ (by omega);rw[Nat.mul_add,Nat.mul_add,Nat.mul_one] at a;omega
theorem QQ {X Z T a c x g q b:Nat}(h:a≤X)(i:X<a+c)(f:x=a∨x=a+c)(d:(x=a→g=q)∧(x=a+c→g=q+1))(j:Z+x=X+T*b)(k:Z<T)(l:b≤1):
  (b=0→g=q∧Z+a=X)∧(b=1→g=q+1∧Z+(a+c)=X+T):=by
 constructor
 ·intro e
  subst e
  rcases f with e|e
  ·exact⟨d.1 e,by omega⟩
  ·omega
 ·intro e
  subst e
  rcases f with e|e
  ·omega
  ·exact⟨d.2 e,by omega⟩
theorem uB (y:Nat)(h:y≠0):1≤bitLen y∧2^ (bitLen y-1)≤y∧y<2^bitLen y:=by
 induction y using Nat.strongRecOn with
 |_ y ih=>
  rw[vC y h]
  by_cases d:y/2=0
  ·have:y=1:=by omega
   subst this;simp[gP]
  ·have⟨a,b,c⟩:=ih (y/2) (by omega) d
   refine⟨by omega, ?_, ?_⟩
   ·rw[show 1+bitLen (y/2)-1=(bitLen (y/2)-1)+1 from by omega,Nat.pow_succ];omega
   ·rw[Nat.add_comm,Nat.pow_succ];omega
theorem EP (n j:Nat):(List.replicate n 0).getD j 0=0:=by
 by_cases h:j<n
 ·simp[List.getD_eq_getElem?_getD,h]
 ·simp[List.getD_eq_getElem?_getD,h]
theorem Xx {a b:Int}(h:b≤a):decide (dm a b<0)=false:=by
 unfold dm;rw[if_neg (by omega)]
 by_cases c:b<a
 ·rw[if_pos c];rfl
 ·rw[if_neg c];rfl
def xg (R:Int):Int:=if R=16 then 4 else 1
def ai (R:Int):Nat:=if R=16 then 4 else 1
theorem jf (R:Int):xg R=(ai R:Int):=by unfold xg ai;split<;>rfl
theorem eN (R:Int):1≤ai R∧ai R≤4:=by unfold ai;split<;>omega
def aT (R D top:Int):Int:=top/(ai R:Int)-(D-1)
theorem Qd (a:Int)(k:Nat)(i:0<k):(a<a.tdiv k*k→a/(k:Int)=a.tdiv k-1)∧(¬a<a.tdiv k*k→a/(k:Int)=a.tdiv k):=by
 have e:=Int.tmod_add_mul_tdiv a k;have f:a.tmod k<k:=Int.tmod_lt_of_pos a (by omega);have g: -(k:Int)<a.tmod k:=by
  have h:=Int.tmod_lt_of_pos (-a) (b:=(k:Int)) (by omega);rw[Int.neg_tmod] at h;omega
 have d:(k:Int)*a.tdiv k=a.tdiv k*k:=Int.mul_comm _ _;rw[d] at e
 constructor
 ·intro h
  have c:a=(a.tmod k+k)+(k:Int)*(a.tdiv k-1):=by
   rw[Int.mul_sub,d];omega
  rw[c,Int.add_mul_ediv_left _ _ (by omega),Int.ediv_eq_zero_of_lt (by omega) (by omega)];rw[←c];omega
 ·intro h
  have c:a=a.tmod k+(k:Int)*a.tdiv k:=by
   rw[d];omega
  rw[c,Int.add_mul_ediv_left _ _ (by omega),Int.ediv_eq_zero_of_lt (by omega) (by omega)];rw[←c];omega
def eZ (N:Nat)(n:Int):Nat:=if n<0 then N else N*2^n.toNat
def dX (M:Nat)(n:Int):Nat:=if n<0 then M*2^ (-n).toNat else M
def dY (N M:Nat)(E:Int):Int:=
 E+(((bitLen N:Int)-(bitLen M:Int))-(if eZ N (-((bitLen N:Int)-(bitLen M:Int)))/dX M (-((bitLen N:Int)-(bitLen M:Int)))=0 then 1 else 0))
structure fz where
 s:Bool
 d:Nat
 p:Int
 ex:Bool
 ov:Bool
 un:Bool
theorem Bf {b a:Bool}(h: ¬(b=false∧a=true)):(b=true∨a=false)∧(!b&&a)=false:=by
 cases b<;>cases a<;>simp at h⊢
theorem fw (N:Nat)(n:Int):eZ N n=N*2^n.toNat:=by
 unfold eZ
 split
 ·rw[show n.toNat=0 by omega,Nat.pow_zero,Nat.mul_one]
 ·rfl
theorem eM (M:Nat)(n:Int):dX M n=M*2^ (-n).toNat:=by
 unfold dX
 split
 ·rfl
 ·rw[show(-n).toNat=0 by omega,Nat.pow_zero,Nat.mul_one]
theorem bG (k:Nat):0<2^k:=Nat.pow_pos (by omega)
theorem DS {N M a b d e:Nat}(h:M*2^b≤N*2^a)(f:e+a≤b+d):M*2^e≤N*2^d:=by
 refine Nat.le_of_mul_le_mul_right (c:=2^a) ?_ (bG a)
 calc M*2^e*2^a=M*2^ (e+a):=by rw[Nat.mul_assoc,←Nat.pow_add]
  _≤M*2^ (b+d):=Nat.mul_le_mul_left _ (Nat.pow_le_pow_right (by omega) f)
  _=M*2^b*2^d:=by rw[Nat.mul_assoc,←Nat.pow_add]
  _≤N*2^a*2^d:=Nat.mul_le_mul_right _ h
  _=N*2^d*2^a:=by rw[Nat.mul_right_comm]
theorem M8 {t d r x:Nat}(a:r<d)(b:x<65536)(c:t=65536*r+x):t/d<65536:=by
 rw[Nat.div_lt_iff_lt_mul (by omega)];have:(r+1)*65536≤d*65536:=Nat.mul_le_mul_right _ a;rw[Nat.mul_comm 65536 d];omega
theorem Vm (l:List Nat)(k:Nat):(l.drop k).getD 0 0=l.getD k 0:=by
 simp[List.getD_eq_getElem?_getD]
theorem NG {b d N:Nat}(e:N/b≤d)(a:b*d≤N)(c:0<b):d=N/b:=by
 have:d≤N/b:=by rw[Nat.le_div_iff_mul_le c,Nat.mul_comm];exact a
 omega
theorem QW {b d N:Nat}(c:N/b≤d)(a: ¬b*d≤N)(_hb:0<b):N/b+1≤d:=by
 rcases Nat.lt_or_ge (N/b) d with h|h
 ·exact h
 ·exfalso
  apply a;have e:d=N/b:=by omega
  rw[e];exact Nat.mul_div_le N b
theorem kq {P:Program}{ops:Array Oper}{b:List Oper}{o:Oper}{a:Act}{w:World}{Q:Exit→Act→World→Prop}(e:o.guard=none)(s x:Operand)(t:TypeId)
  (f:o.op= .call {callee:= .builtin .append,args:= #[s,x],argTypes:= #[t,t]}) (v u c:Value) (w':World) (i:a.eval s=v) (j:a.eval x=u)
  (g:(Builtin.append_ #[t,t] o.type #[v,u]).run P w= .ok c w') (h:wpList P ops Q b (a.put o.dst c) w'):wpList P ops Q (o::b) a w:=by
 refine wpList_plain e fun K d=> ?_
 unfold Oper.wp execOp;simp only[f,resolve,invoke,builtin,Sem.run_bind,Sem.run_pure,Result.andThen_ok,List.map_toArray,List.map_cons,List.map_nil,i,j,g];exact d _ _ h
def sJ (rs:List Nat)(n:Nat):Nat→Nat
 |0=>0
 |j+1=>65536*sJ rs n j+rs.getD (n-j) 0
theorem Ti {a b:Int}(h:b≤a):decide (dm a b<0)=false:=by
 unfold dm;rw[if_neg (by omega)]
 by_cases c:b<a
 ·rw[if_pos c];rfl
 ·rw[if_neg c];rfl
theorem Wn {a b:Int}(h:a≤b):dm a b≤0:=by
 unfold dm
 by_cases c:a<b
 ·rw[if_pos c];omega
 ·rw[if_neg c,if_neg (by omega)];omega
theorem N8 {M:Nat}(n:Int)(a:0<M):0<dX M n:=by
 rw[eM];exact Nat.mul_pos a (bG _)
theorem wp_yield {P:Program}{b:Oper}{a:Act}{w:World}{K:Act→World→Prop}{Q:Exit→Act→World→Prop}(v:Value)(c:(execOp a.eval b).run P w= .ok (.value v) w)(h:K (a.put b.dst v) w):b.wp P a w K Q:=by
 unfold Oper.wp;rw[c];exact h
theorem ten_two4 (K:Nat):10^K≤2^ (4*K):=by
 rw[Nat.pow_mul];exact Nat.pow_le_pow_left (by omega) K
theorem pw_small {o t k K:Nat}(d:0<o)(a:0<t)(c:0<k)(h:o*t^k=10^K):o≤10^K∧t≤10^K:=by
 constructor
 ·rw[←h]
  exact Nat.le_mul_of_pos_right _ (Nat.pow_pos a)
 ·have e:t^k≤10^K:=by rw[←h];exact Nat.le_mul_of_pos_left _ d
  have b:t^1≤t^k:=Nat.pow_le_pow_right a c;rw[Nat.pow_one] at b;omega
theorem pw_sq {t K:Nat}(h:t≤10^K):t*t≤10^ (2*K):=by
 rw[Nat.two_mul,Nat.pow_add];exact Nat.mul_le_mul h h
theorem pw_even {o t k K:Nat}(h:o*t^k=10^K)(a:k % 2=0):o*(t*t)^ (k/2)=10^K:=by
 rw[←h,←Nat.pow_two,←Nat.pow_mul]
 congr 2
 omega
theorem pw_odd {o t k K:Nat}(h:o*t^k=10^K)(a:k % 2=1):o*t*(t*t)^ (k/2)=10^K:=by
 rw[←h,←Nat.pow_two,←Nat.pow_mul,Nat.mul_assoc,←Nat.pow_succ']
 congr 2
 omega
theorem aaU (k i:Nat):k/2^i=k/2^ (i+1)+k/2^ (i+1)+k/2^i % 2:=by
 rw[Nat.pow_succ,←Nat.div_div_eq_div_mul];omega
def dK (n:Int):Int:=if n<1∨8<n then 0 else if n≤3 then 1 else if n≤5 then 2 else 3
theorem O7 (w:World)(b o:Nat)(v:Value)(g i:Nat):(w.setCell ⟨b,o,none⟩ v).frozen? ⟨g,i,none⟩=w.frozen? ⟨g,i,none⟩:=
 World.frozen?_setCells b [v] o w ⟨g,i,none⟩
def jr (s:ByteArray):List Nat:=s.data.toList.map (fun b=>b.toNat)
theorem oV (s:ByteArray):(jr s).length=s.size:=by
 unfold jr;rw[List.length_map,Array.length_toList];rfl
def fU (zs:List Nat)(i:Nat):Nat:=zs.getD (i/8) 0/2^ (7-i % 8) % 2
def eH (zs:List Nat)(f:Nat):Nat→Nat
 |0=>0
 |n+1=>2*eH zs f n+fU zs (f+n)
theorem xW (zs:List Nat)(i:Nat):fU zs i<2:=Nat.mod_lt _ (by omega)
theorem gh (zs:List Nat)(f:Nat): ∀n,eH zs f n<2^n
 |0=>by simp[eH]
 |n+1=>by
  have a:=gh zs f n;have b:=xW zs (f+n);rw[Nat.pow_succ];simp only[eH];omega
theorem Cf (x r:Nat):x % 2*2^ (7-r)<256:=by
 have a:(2:Nat)^ (7-r)≤2^7:=Nat.pow_le_pow_right (by omega) (by omega);have b:=Nat.mod_lt x (show 0<2 by omega)
 have c:x % 2*2^ (7-r)≤1*2^7:=Nat.mul_le_mul (by omega) a;omega
theorem aaR (b y r:Nat)(e:b<256)(f:y<18446744073709551616):bits .or .u8 b (bits .and .u64 y 1 % 256*2^ (7-r) % 256)=((b|||y % 2*2^ (7-r):Nat):Int):=by
 have a:=u64_and_nat y 1 f (by omega);rw[Nat.and_one_is_mod] at a;have g:=Nat.mod_lt y (show 0<2 by omega)
 have d:=Cf y r;have c:(((y % 2:Nat):Int) % 256*2^ (7-r))=((y % 2*2^ (7-r):Nat):Int):=by
  rw[show((y % 2:Nat):Int) % 256=((y % 2:Nat):Int) from by omega]
  push_cast
  rfl
 rw[show 1=((1:Nat):Int) from rfl,a,c,show((y % 2*2^ (7-r):Nat):Int) % 256=((y % 2*2^ (7-r):Nat):Int) from by omega]
 exact u8_or_nat _ _ e d
def szN:Nat→Nat
 |1=>4|2=>8|3=>10|4=>4|5=>8|6=>4|7=>8|8=>8|_=>0
def exN:Nat→Nat
 |1=>8|2=>11|3=>15|4=>7|5=>7|6=>8|7=>8|8=>11|_=>0
def dgN:Nat→Nat
 |1=>24|2=>53|3=>64|4=>6|5=>14|6=>24|7=>56|8=>53|_=>0
def rdN:Nat→Nat
 |4=>16|5=>16|_=>2
def lsI:Nat→Int
 |1=> -149|2=> -1074|3=> -16445|4=> -70|5=> -78|6=> -151|7=> -183|8=> -1076|_=>0
def frN (k:Nat):Nat:=8*szN k-1-exN k
def kp (k:Nat):Nat:=2^exN k-1
theorem bO {k:Nat}(h:1≤k∧k≤8):k=1∨k=2∨k=3∨k=4∨k=5∨k=6∨k=7∨k=8:=by omega
theorem fZ {k:Nat}(a:1≤k∧k≤8):1+exN k+frN k=8*szN k∧exN k≤15∧szN k≤10∧frN k≤64∧(∃m,szN k=2*m)∧7≤exN k:=by
 rcases bO a with rfl|rfl|rfl|rfl|rfl|rfl|rfl|rfl
 ·exact⟨by decide,by decide,by decide,by decide,⟨2,rfl⟩,by decide⟩
 ·exact⟨by decide,by decide,by decide,by decide,⟨4,rfl⟩,by decide⟩
 ·exact⟨by decide,by decide,by decide,by decide,⟨5,rfl⟩,by decide⟩
 ·exact⟨by decide,by decide,by decide,by decide,⟨2,rfl⟩,by decide⟩
 ·exact⟨by decide,by decide,by decide,by decide,⟨4,rfl⟩,by decide⟩
 ·exact⟨by decide,by decide,by decide,by decide,⟨2,rfl⟩,by decide⟩
 ·exact⟨by decide,by decide,by decide,by decide,⟨4,rfl⟩,by decide⟩
 ·exact⟨by decide,by decide,by decide,by decide,⟨4,rfl⟩,by decide⟩
def dh (k:Nat)(ng:Bool)(e f:Nat):Nat:=
 if k≤3 then(if e=0 then(if f=0 then 1 else 2) else if e=kp k then(if f=(if k=3 then 2^63 else 0) then 3 else 4) else if k=3∧f<2^63 then 4 else 2)
 else if k≤5 then(if f=0 then 1 else 2)
 else if e=0 then(if ng then 5 else 1) else 2
def tpT (T:ByteArray)(n:Nat):ByteArray:=if n<T.size then T.extract 0 n else T
def tpP (T:ByteArray)(n:Nat):ByteArray:=if 1<n then(tpT T n).extract 0 1++⟨#[46]⟩++(tpT T n).extract 1 (tpT T n).size else tpT T n
def tpG (g:Bool)(T:ByteArray)(n:Nat):ByteArray:=if g=true then(⟨#[45]⟩:ByteArray)++tpP T n else tpP T n
def tpS (g:Bool)(T:ByteArray)(n:Nat)(ia:ByteArray):ByteArray:=tpG g T n++⟨#[101]⟩++ia
def pbV (n:Int):Int:=(n*30103).tdiv 100000-1
theorem pb_is (n:Int):(n*30103).tdiv 100000=if 0≤n then n*30103/100000 else-(-n*30103/100000):=by
 by_cases h:0≤n
 ·rw[if_pos h,Int.tdiv_eq_ediv_of_nonneg (by omega)]
 ·rw[if_neg h,show n*30103= -(-n*30103) by omega,Int.neg_tdiv,Int.tdiv_eq_ediv_of_nonneg (by omega)]
def kt (k:Nat)(ng:Bool)(e f:Nat):Bool:=if dh k ng e f≤3 then ng else false
def dF (n:Int)(s:ByteArray):Int:=if dK n=0 then 6 else if s.size=szN n.toNat then 0 else 1
def plN (k i:Nat):Nat:=if k=3 then szN k-1-i else if 6≤k then i+1-2*(i % 2) else i
theorem Co {k i:Nat}(a:1≤k∧k≤8)(b:i<szN k):plN k i<szN k:=by
 obtain⟨m,c⟩:=(fZ a).2.2.2.2.1;unfold plN
 split
 ·omega
 ·split<;>omega
def jY (bf:Nat→Bool):Nat→Nat
 |0=>0
 |n+1=>jY bf n*2+if bf n then 1 else 0
theorem DZ (a:Nat→Bool): ∀n,jY a n<2^n
 |0=>by simp[jY]
 |n+1=>by
  have:=DZ a n;rw[jY,Nat.pow_succ]
  split<;>omega
theorem uz (a:List Nat)(f:Nat): ∀n,jY (fun i=>decide (fU a (f+i)=1)) n=eH a f n
 |0=>rfl
 |n+1=>by
  rw[jY,eH,uz a f n];have:=xW a (f+n)
  by_cases h:fU a (f+n)=1
  ·rw[h];simp;omega
  ·rw[show fU a (f+n)=0 from by omega];simp;omega
def wdI (R:Int):Int:=if R=16 then 4 else 1
theorem za {x j:Nat}{b on:Bool}(h:on=decide (x+1=2^j)):(on&&b)=decide (2*x+(if b then 1 else 0)+1=2^ (j+1)):=by
 rw[h,Nat.pow_succ]
 cases b
 ·simp
  omega
 ·simp only[Bool.and_true,if_true]
  congr 1
  apply propext;omega
def zR (k:Nat)(ng:Bool)(E FF:Nat):Bool:=
 if k=3 then(if E+1=2^exN k then(if FF=2^ (dgN k-1) then ng else false) else if 0<E∧FF<2^ (dgN k-1) then false else ng)
 else if k≤2 then(if E+1=2^exN k then(if FF=0 then ng else false) else ng)
 else if k≤5 then ng
 else(if E=0 then false else ng)
def ut (J:Int)(N1 M1:Nat)(E1:Int)(N2 M2:Nat)(E2:Int):Prop:=
 ∀j,J≤j→eZ N1 (E1-j)/dX M1 (E1-j)=eZ N2 (E2-j)/dX M2 (E2-j)∧(eZ N1 (E1-j) % dX M1 (E1-j)=0↔eZ N2 (E2-j) % dX M2 (E2-j)=0)
theorem ut.symm {J:Int}{e c f d:Nat}{a b:Int}(h:ut J e c a f d b):ut J f d b e c a:=fun j g=>⟨(h j g).1.symm,(h j g).2.symm⟩
theorem size_list (s:ByteArray):s.size=s.data.toList.length:=Array.length_toList.symm
def undash (s:ByteArray):ByteArray:=⟨(Lib.trimPrefix s.data.toList [45]).toArray⟩
def dash (s:ByteArray):Bool:=Lib.hasPrefix s.data.toList [45]
theorem Gq {p:Nat}(b:p≠0):1≤bitLen p:=by
 have h:=(bitLen_spec p).1
 rcases Nat.eq_zero_or_pos (bitLen p) with a|a
 ·rw[a] at h
  omega
 ·exact a
theorem pow5_two (a:Nat):5^a≤2^ (3*a):=by
 rw[Nat.pow_mul];exact Nat.pow_le_pow_left (by omega) a
def scA (xn:Nat)(e n:Int):Nat:=xn*5^n.toNat*2^ (e+n).toNat
def scB (e n:Int):Nat:=5^ (-n).toNat*2^ (-(e+n)).toNat
theorem sc_in {xn a c:Nat}{e n:Int}(m:a=64)(o:c=36964)(h:xn<2^a)(l:e≤16500)(r:n≤5100):scA xn e n<2^c∧xn*5^n.toNat<2^c∧xn*2^ (e+n).toNat<2^c:=by
 obtain⟨u,p⟩: ∃u,u=15300:=⟨_,rfl⟩;obtain⟨v,q⟩: ∃v,v=21600:=⟨_,rfl⟩;have g:5^n.toNat≤2^u:=Nat.le_trans (pow5_two _) (Nat.pow_le_pow_right (by omega) (by omega));have f:2^ (e+n).toNat≤2^v:=Nat.pow_le_pow_right (by omega) (by omega);have j:1≤2^ (e+n).toNat:=Nat.pow_pos (by omega);have k:1≤5^n.toNat:=Nat.pow_pos (by omega);have d:2^c=2^a*2^u*2^v:=by rw[←Nat.pow_add,←Nat.pow_add];congr 1;omega
 have i:xn*5^n.toNat<2^a*2^u:=Nat.mul_lt_mul_of_lt_of_le h g (Nat.pow_pos (by omega));have b:scA xn e n<2^c:=by
  rw[d];exact Nat.mul_lt_mul_of_lt_of_le i f (Nat.pow_pos (by omega))
 refine⟨b,Nat.lt_of_le_of_lt ?_ b,Nat.lt_of_le_of_lt ?_ b⟩
 ·exact Nat.le_mul_of_pos_right _ j
 ·unfold scA
  rw[Nat.mul_assoc,Nat.mul_comm (5^n.toNat),←Nat.mul_assoc];exact Nat.le_mul_of_pos_right _ k
theorem pb_in {n:Int}(a: -16501≤n)(b:n≤16564): -5000≤pbV n∧pbV n≤5000:=by
 unfold pbV;rw[pb_is n]
 split<;>omega
def xHun:Nat:=100000
def xThi:Nat:=30103
theorem two_ten:Nat.ble (2^xHun) (10^xThi)=true:=by kernel_rfl
theorem ten_two:Nat.ble (10^xThi) (2^ (xHun+1))=true:=by kernel_rfl
theorem tenroot_le {a b k:Nat}(d:k≠0)(h:a^k≤b^k):a≤b:=by
 rcases Nat.lt_or_ge b a with c|c
 ·exact absurd h (Nat.not_le_of_gt (Nat.pow_lt_pow_left c d))
 ·exact c
theorem low_pow {m q:Nat}(h:m*xThi≤q*xHun):2^m≤10^q:=by
 refine tenroot_le (k:=xHun) (by decide) ?_;have a:(2^xHun)^m≤(10^xThi)^m:=Nat.pow_le_pow_left (Nat.le_of_ble_eq_true two_ten) m;rw[←Nat.pow_mul,←Nat.pow_mul] at a;rw[←Nat.pow_mul,←Nat.pow_mul,Nat.mul_comm m];refine Nat.le_trans a (Nat.pow_le_pow_right (by omega) ?_);rw[Nat.mul_comm];exact h
theorem high_pow {n q:Nat}(h:(q+1)*xHun≤n*xThi)(d:n≤xHun):10^q≤2^n:=by
 refine tenroot_le (k:=xHun) (by decide) ?_;have a:(10^xThi)^n≤(2^ (xHun+1))^n:=Nat.pow_le_pow_left (Nat.le_of_ble_eq_true ten_two) n;rw[←Nat.pow_mul,←Nat.pow_mul,Nat.succ_mul,Nat.pow_add] at a;have b:2^n≤10^xHun:=Nat.le_trans (Nat.pow_le_pow_right (by omega) d) (Nat.pow_le_pow_left (by omega) _);have c:10^ (q*xHun)*10^xHun≤2^ (n*xHun)*10^xHun:=by
  rw[←Nat.pow_add];refine Nat.le_trans (Nat.pow_le_pow_right (by omega) (show q*xHun+xHun≤xThi*n from ?_)) (Nat.le_trans a ?_)
  ·rw[Nat.mul_comm xThi,←Nat.succ_mul]
   exact h
  ·rw[Nat.mul_comm n]
   exact Nat.mul_le_mul_left _ b
 rw[←Nat.pow_mul,←Nat.pow_mul];exact Nat.le_of_mul_le_mul_right c (Nat.pow_pos (by omega))
theorem pb_key {n:Int}(b: -16501≤n)(c:n≤16564):10^ (pbV n).toNat*2^ (-n).toNat≤2^n.toNat*10^ (-(pbV n)).toNat:=by
 have e:pbV n=(if 0≤n then n*30103/100000 else-(-n*30103/100000))-1:=by unfold pbV;rw[pb_is n]
 by_cases a:0≤n
 ·rw[if_pos a] at e
  rw[show(-n).toNat=0 by omega,Nat.pow_zero,Nat.mul_one]
  by_cases d:0<pbV n
  ·rw[show(-(pbV n)).toNat=0 by omega,Nat.pow_zero,Nat.mul_one]
   refine high_pow ?_ (by unfold xHun;omega);unfold xHun xThi;omega
  ·rw[show(pbV n).toNat=0 by omega,Nat.pow_zero]
   exact Nat.mul_pos (Nat.pow_pos (by omega)) (Nat.pow_pos (by omega))
 ·rw[if_neg a] at e
  rw[show(pbV n).toNat=0 by omega,Nat.pow_zero,Nat.one_mul,show n.toNat=0 by omega,Nat.pow_zero,Nat.one_mul]
  refine low_pow ?_;unfold xHun xThi;omega
theorem ten_parts (k:Nat):10^k=2^k*5^k:=by rw[←Nat.mul_pow]
def prU (C k:Nat):Nat:=10^ (C-k)*2
def prQ (H C k:Nat):Nat:=if prU C k<H % prU C k*2∨(H % prU C k*2=prU C k∧H/prU C k % 2=1) then H/prU C k+1 else H/prU C k
theorem prQ_le {H C k:Nat}(a:H<2*10^C)(c:k≤C):prQ H C k≤10^k:=by
 have b:H/prU C k<10^k:=by
  unfold prU;rw[Nat.div_lt_iff_lt_mul (Nat.mul_pos (Nat.pow_pos (by omega)) (by omega))];have e:10^C=10^k*10^ (C-k):=by rw[←Nat.pow_add];congr 1;omega
  rw[e] at a;rw[←Nat.mul_assoc,Nat.mul_comm _ 2];exact a
 unfold prQ
 split<;>omega
def txt (ds:List Nat):List Nat:=(ds.map (fun d=>48+d)).reverse
theorem Md (a:List Nat)(d:Nat):txt (a++[d])=(48+d)::txt a:=by simp[txt]
theorem jL (a:List Nat):(txt a).length=a.length:=by simp[txt]
theorem tQ (a:List Nat)(i:Nat)(h:i<a.length):(txt a).getD i 0=48+a.getD (a.length-1-i) 0:=by
 have b:a.length-1-i<a.length:=by omega
 simp[txt,List.getD_eq_getElem?_getD,h,b]
theorem rt_same {n d a B:Nat}(j:0<d)(i:0<B)(h:n*B=a*d):n/d=a/B∧n % d*B=a % B*d:=by
 have b:a=B*(a/B)+a % B:=(Nat.div_add_mod a B).symm;have e:a % B<B:=Nat.mod_lt _ i;generalize a/B=q at b⊢;generalize a % B=r at b e⊢;have k:n*B=d*q*B+r*d:=by rw[h,b,Nat.add_mul];congr 1;ac_rfl
 have l:d*q≤n:=Nat.le_of_mul_le_mul_right (c:=B) (by omega) i;obtain⟨s,rfl⟩: ∃s,n=d*q+s:=⟨n-d*q,by omega⟩;have f:s*B=r*d:=by rw[Nat.add_mul] at k;omega
 have g:s<d:=by
  refine Nat.lt_of_mul_lt_mul_right (a:=B) ?_;rw[f,Nat.mul_comm d];exact Nat.mul_lt_mul_of_pos_right e j
 refine⟨?_, ?_⟩
 ·rw[Nat.mul_add_div j,Nat.div_eq_of_lt g,Nat.add_zero]
 ·rw[Nat.mul_add_mod,Nat.mod_eq_of_lt g,f]
theorem half_same {a b j H:Nat}(u:0<b)(A:1≤j)(e:H=if 0<a % b then a/b*2+1 else a/b*2):
  H/(10^j*2)=a/(b*10^j)∧(10^j*2<H % (10^j*2)*2↔b*10^j<a % (b*10^j)*2)∧(H % (10^j*2)*2=10^j*2↔a % (b*10^j)*2=b*10^j):=by
 obtain⟨i,rfl⟩: ∃i,j=i+1:=⟨j-1,by omega⟩;have eT:10^ (i+1)=2*(5*10^i):=by rw[Nat.pow_succ];omega
 have t:0<5*10^i:=Nat.mul_pos (by omega) (Nat.pow_pos (by omega));rw[eT];generalize 5*10^i=T at t⊢;have f:a=b*(a/b)+a % b:=(Nat.div_add_mod a b).symm;have p:a % b<b:=Nat.mod_lt _ u;have w:a/(b*(2*T))=a/b/(2*T):=(Nat.div_div_eq_div_mul _ _ _).symm;have v:a % (b*(2*T))=a % b+b*(a/b % (2*T)):=Nat.mod_mul;rw[w,v];generalize a/b=W at f e⊢;generalize a % b=r at f p e⊢;have k:W=2*T*(W/(2*T))+W % (2*T):=(Nat.div_add_mod _ _).symm;have s:W % (2*T)<2*T:=Nat.mod_lt _ (by omega);generalize W/(2*T)=q at k⊢;generalize W % (2*T)=m at k s⊢;obtain⟨l,B,o,e⟩: ∃l,l≤1∧(l=0↔r=0)∧H=W*2+l:=by
  by_cases c:0<r
  ·exact⟨1,by omega,by omega,by rw[e,if_pos c]⟩
  ·exact⟨0,by omega,by omega,by rw[e,if_neg c];rfl⟩
 have g:H=2*T*2*q+(m*2+l):=by
  rw[e];have:W*2=2*T*2*q+m*2:=by
   have:2*T*2*q=2*(2*T*q):=by ac_rfl
   omega
  omega
 have n:m*2+l<2*T*2:=by omega
 have x:H/(2*T*2)=q:=by rw[g,Nat.mul_add_div (by omega),Nat.div_eq_of_lt n,Nat.add_zero]
 have y:H % (2*T*2)=m*2+l:=by rw[g,Nat.mul_add_mod,Nat.mod_eq_of_lt n]
 rw[x,y];have z:b*(2*T)=2*(b*T):=by ac_rfl
 rw[z];refine⟨rfl, ?_, ?_⟩
 ·constructor
  ·intro h
   have:T≤m:=by omega
   rcases Nat.lt_or_ge T m with c|c
   ·have:=Nat.mul_le_mul_left b c
    rw[Nat.mul_succ] at this;omega
   ·obtain rfl:T=m:=by omega
    have:0<r:=by omega
    omega
  ·intro h
   rcases Nat.lt_or_ge m T with c|c
   ·have:=Nat.mul_le_mul_left b c
    rw[Nat.mul_succ] at this;omega
   ·rcases Nat.lt_or_ge T m with d|d
    ·omega
    ·obtain rfl:T=m:=by omega
     have:0<r:=by omega
     omega
 ·constructor
  ·intro h
   obtain rfl:l=0:=by omega
   obtain rfl:r=0:=o.1 rfl;obtain rfl:m=T:=by omega
   omega
  ·intro h
   rcases Nat.lt_trichotomy m T with c|c|c
   ·have:=Nat.mul_le_mul_left b c
    rw[Nat.mul_succ] at this;omega
   ·subst c
    have:r=0:=by omega
    have:l=0:=o.2 this;omega
   ·have:=Nat.mul_le_mul_left b c
    rw[Nat.mul_succ] at this;omega
theorem dg_cross (xn:Nat)(e n:Int):scA xn e n*2^ (-e).toNat*10^ (-n).toNat=xn*2^e.toNat*scB e n*10^n.toNat:=by
 unfold scA scB;obtain⟨a,f⟩: ∃k,n.toNat=k:=⟨_,rfl⟩;obtain⟨nm,g⟩: ∃k,(-n).toNat=k:=⟨_,rfl⟩;obtain⟨c,h⟩: ∃k,e.toNat=k:=⟨_,rfl⟩;obtain⟨b,i⟩: ∃k,(-e).toNat=k:=⟨_,rfl⟩;obtain⟨d,j⟩: ∃k,(e+n).toNat=k:=⟨_,rfl⟩;obtain⟨tm,m⟩: ∃k,(-(e+n)).toNat=k:=⟨_,rfl⟩;rw[f,g,h,i,j,m];have o:d+b+nm=c+tm+a:=by omega
 clear f g h i j m;rw[ten_parts nm,ten_parts a];have l:xn*5^a*2^d*2^b*(2^nm*5^nm)=xn*2^ (d+b+nm)*5^ (a+nm):=by
  simp only[Nat.pow_add]
  ac_rfl
 have r:xn*2^c*(5^nm*2^tm)*(2^a*5^a)=xn*2^ (c+tm+a)*5^ (a+nm):=by
  simp only[Nat.pow_add]
  ac_rfl
 rw[l,r,o]
theorem dg_less {N D a b C:Nat}{n p:Int}(t:0<b)(u:a*D*10^ (-n).toNat=N*b*10^n.toNat)(A:a/b<10^C)(j:10^ (C-1)≤a/b)(G:1≤C)(z:0<D):
  N*10^ (-p).toNat<D*10^p.toNat↔(C:Int)-n≤p:=by
 have g: ∀k,0<10^k:=fun k=>Nat.pow_pos (by omega)
 have B:N*10^ (-p).toNat<D*10^p.toNat↔a*10^ (-(n+p)).toNat<b*10^ (n+p).toNat:=by
  obtain⟨d,l⟩: ∃k,n.toNat=k:=⟨_,rfl⟩;obtain⟨nm,i⟩: ∃k,(-n).toNat=k:=⟨_,rfl⟩;obtain⟨f,m⟩: ∃k,p.toNat=k:=⟨_,rfl⟩;obtain⟨e,o⟩: ∃k,(-p).toNat=k:=⟨_,rfl⟩;obtain⟨c,r⟩: ∃k,(n+p).toNat=k:=⟨_,rfl⟩;obtain⟨tm,s⟩: ∃k,(-(n+p)).toNat=k:=⟨_,rfl⟩;rw[l,i] at u;rw[m,o,r,s];have w:nm+e+c=d+f+tm:=by omega
  clear l i m o r s;have E:N*10^e<D*10^f↔N*10^e*(b*10^d*10^c)<D*10^f*(b*10^d*10^c):=
   (Nat.mul_lt_mul_right (Nat.mul_pos (Nat.mul_pos t (g _)) (g _))).symm
  have F:a*10^tm<b*10^c↔a*10^tm*(D*10^f*10^d)<b*10^c*(D*10^f*10^d):=
   (Nat.mul_lt_mul_right (Nat.mul_pos (Nat.mul_pos z (g _)) (g _))).symm
  rw[E,F];have x:N*10^e*(b*10^d*10^c)=a*10^tm*(D*10^f*10^d):=by
   have:N*10^e*(b*10^d*10^c)=(N*b*10^d)*(10^e*10^c):=by ac_rfl
   rw[this,←u];have:a*D*10^nm*(10^e*10^c)=a*D*10^ (nm+e+c):=by
    rw[Nat.pow_add,Nat.pow_add];ac_rfl
   rw[this,w,Nat.pow_add,Nat.pow_add]
   ac_rfl
  have y:D*10^f*(b*10^d*10^c)=b*10^c*(D*10^f*10^d):=by ac_rfl
  rw[x,y]
 rw[B]
 by_cases v:0≤n+p
 ·obtain⟨q,v⟩: ∃q:Nat,n+p=q:=⟨(n+p).toNat,by omega⟩
  rw[v,show(-(q:Int)).toNat=0 by omega,Int.toNat_natCast,Nat.pow_zero,Nat.mul_one,Nat.mul_comm,←Nat.div_lt_iff_lt_mul t]
  constructor
  ·intro h
   have:10^ (C-1)<10^q:=Nat.lt_of_le_of_lt j h;have:=(Nat.pow_lt_pow_iff_right (by omega:1<10)).1 this;omega
  ·intro h
   exact Nat.lt_of_lt_of_le A (Nat.pow_le_pow_right (by omega) (by omega))
 ·rw[show(n+p).toNat=0 by omega,Nat.pow_zero,Nat.mul_one]
  constructor
  ·intro h
   have i:a<b:=Nat.lt_of_le_of_lt (Nat.le_mul_of_pos_right _ (g _)) h;rw[Nat.div_eq_of_lt i] at j;exact absurd j (by have:=g (C-1);omega)
  ·intro h
   omega
theorem dg_ratio {N D a b C k:Nat}{n P:Int}(h:a*D*10^ (-n).toNat=N*b*10^n.toNat)(o:P=(C:Int)-n-1)(p:k≤C):
  (N*10^ ((k:Int)-1-P).toNat)*(b*10^ (C-k))=a*(D*10^ (-((k:Int)-1-P)).toNat):=by
 have m: ∀k,0<10^k:=fun k=>Nat.pow_pos (by omega)
 obtain⟨c,d⟩: ∃k,n.toNat=k:=⟨_,rfl⟩;obtain⟨nm,e⟩: ∃k,(-n).toNat=k:=⟨_,rfl⟩;obtain⟨up,f⟩: ∃j,((k:Int)-1-P).toNat=j:=⟨_,rfl⟩;obtain⟨um,g⟩: ∃j,(-((k:Int)-1-P)).toNat=j:=⟨_,rfl⟩;rw[d,e] at h;rw[f,g];have i:up+(C-k)+nm=um+c:=by omega
 clear d e f g;refine Nat.eq_of_mul_eq_mul_right (m (c+nm)) ?_;rw[Nat.pow_add];have l:N*10^up*(b*10^ (C-k))*(10^c*10^nm)=N*b*10^c*10^ (up+(C-k)+nm):=by
  rw[Nat.pow_add,Nat.pow_add];ac_rfl
 rw[l,←h,i,Nat.pow_add]
 ac_rfl
theorem pow2_ten {k q:Nat}(h:k≤13*q):2^k≤10^ (4*q):=by
 refine Nat.le_trans (Nat.pow_le_pow_right (by omega) h) ?_;rw[Nat.pow_mul,Nat.pow_mul];exact Nat.pow_le_pow_left (by decide) q
theorem tdiv_in {z:Int}(a: -540000≤z)(b:z≤540000): -5400≤z.tdiv 100∧z.tdiv 100≤5400:=by
 by_cases h:0≤z
 ·rw[Int.tdiv_eq_ediv_of_nonneg h]
  omega
 ·obtain⟨y,rfl⟩: ∃y,z= -y:=⟨-z,by omega⟩
  rw[Int.neg_tdiv,Int.tdiv_eq_ediv_of_nonneg (by omega)];omega
def isDg (b:UInt8):Bool:=decide (48≤b.toNat∧b.toNat≤57)
def spD:List UInt8→List UInt8×List UInt8
 | []=>([],[])
 |b::r=>if isDg b=true then(b::(spD r).1,(spD r).2) else([],b::r)
def lvD (l:List UInt8):Nat:=l.foldl (fun a b=>a*10+(b.toNat-48)) 0
theorem lvD_snoc (l:List UInt8)(b:UInt8):lvD (l++[b])=lvD l*10+(b.toNat-48):=by
 unfold lvD;rw[List.foldl_append];rfl
def nuE (d:List UInt8)(p:Int):List UInt8→Option (List UInt8×Int)
 | []=>if d=[] then none else some (d,p)
 |b::r=>
  if d=[]∨b≠101 then none else
  let m:=decide (r.head? =some 45)
  let q:=spD (if m=true then r.tail else r)
  if q.1.length<1∨5<q.1.length∨q.2≠[] then none else some (d,p+(if m=true then-(lvD q.1:Int) else(lvD q.1:Int)))
def nuL (l:List UInt8):Option (List UInt8×Int):=
 if(spD l).2.head? =some 46 then
  let v:=spD (spD l).2.tail
  if v.1=[] then none else nuE ((spD l).1++v.1) (-(v.1.length:Int)) v.2
 else nuE (spD l).1 0 (spD l).2
def RestAt (s:ByteArray)(k:Nat)(r:List UInt8):Prop:=k≤s.size∧s.data.toList.drop k=r
theorem rest_nil {s:ByteArray}{k:Nat}(h:RestAt s k []):k=s.size:=by
 obtain⟨b,a⟩:=h;have:=congrArg List.length a;rw[List.length_drop,List.length_nil,←size_list] at this;omega
theorem rest_cons {s:ByteArray}{k:Nat}{b:UInt8}{r:List UInt8}(h:RestAt s k (b::r)):k<s.size∧byt s k=b.toNat∧RestAt s (k+1) r∧s.extract k (k+1)=⟨#[b]⟩:=by
 obtain⟨j,a⟩:=h;have g:=congrArg List.length a;rw[List.length_drop,List.length_cons,←size_list] at g;have d:k<s.size:=by omega
 have f:k<s.data.toList.length:=by rw[←size_list];exact d
 have c:=List.drop_eq_getElem_cons f;rw[a] at c;have e:b=s.data.toList[k]:=by injection c
 have i:r=s.data.toList.drop (k+1):=by injection c
 refine⟨d, ?_,⟨by omega,i.symm⟩, ?_⟩
 ·rw[←KD s k d,e,Array.getElem_toList]
  rfl
 ·apply ByteArray.ext
  rw[ByteArray.data_extract];apply Array.ext';rw[Array.toList_extract];simp only[List.extract_eq_take_drop];rw[a,show k+1-k=1 by omega]
  rfl
def hdDg:List UInt8→Bool
 | []=>false
 |b::_=>isDg b
theorem dash_cases (s:ByteArray): ∃g c L,RestAt s c L∧(undash s).data.toList=L∧dash s=g∧c≤1∧((g=true∧c=1∧0<s.size∧byt s 0=45)∨(g=false∧c=0∧(s.size=0∨(0<s.size∧byt s 0≠45)))):=by
 have j:(undash s).data.toList=Lib.trimPrefix s.data.toList [45]:=rfl;have k:dash s=Lib.hasPrefix s.data.toList [45]:=rfl;rw[j,k];have a:RestAt s 0 s.data.toList:=⟨by omega,rfl⟩;generalize m:s.data.toList=S at*
 cases S with
 |nil=>exact⟨false,0,[],a,rfl,rfl,by omega,.inr ⟨rfl,rfl,.inl (rest_nil a).symm⟩⟩
 |cons b r=>
  obtain⟨f,h,l,-⟩:=rest_cons a
  by_cases d:b=45
  ·subst d
   exact⟨true,1,r,l,rfl,rfl,by omega,.inl ⟨rfl,rfl,f,h⟩⟩
  ·have i:Lib.hasPrefix (b::r) [45]=false:=by
    show([45].isPrefixOf (b::r))=false
    simp only[List.isPrefixOf];rw[show((45:UInt8)==b)=false from beq_eq_false_iff_ne.2 fun e=>d e.symm]
    rfl
   refine⟨false,0,b::r,a, ?_,i,by omega,.inr ⟨rfl,rfl,.inr ⟨f, ?_⟩⟩⟩
   ·unfold Lib.trimPrefix
    rw[i];rfl
   ·rw[h]
    intro e;exact d (UInt8.toNat_inj.1 e)
theorem lvD_lt: ∀(k:Nat) (v:List UInt8),v.length=k→(∀b∈v,isDg b=true)→lvD v<10^k:=by
 intro k
 induction k with
 |zero=>
  intro v a _;obtain rfl:=List.length_eq_zero_iff.1 a;exact Nat.one_pos
 |succ k ih=>
  intro v a h
  rcases List.eq_nil_or_concat v with rfl| ⟨u,b,rfl⟩
  ·cases a
  ·rw[List.concat_eq_append] at h a⊢
   have f:=ih u (by simpa using a) fun c e=>h c (List.mem_append.2 (.inl e))
   have d:=h b (List.mem_append.2 (.inr (List.mem_cons_self ..)));have g:=of_decide_eq_true d;rw[lvD_snoc,Nat.pow_succ];omega
end Go.Proofs.YtlhkndcmbpcpgaaGreatDoor

/- Texts laid together. -/
import Derived.WalkKit
import Derived.WalkSpells
import Derived.Deep.QuietTactic
import Derived.BigQuiet
import Derived.Lib.TrailingZeros
import Derived.Test.YthhiidikgchdeabGreatDoorChecked
import Derived.Handy
import Derived.Laws.CopyOwn
import Derived.BigRegion
import Derived.Deep.LoopGhost
import Derived.Deep.RegionLaw
import Derived.WalkSmall
import Derived.OpenShut
import Derived.Laws.MathBits
import Derived.Lib.BitFns
import Derived.Lib.Walk
import Derived.Lib.Small
import Derived.Shelf.Spec.TrailingZeros
import Derived.Deep.RegionHeld3
import Derived.Deep.MidRow
import Derived.Laws.ResultCell
import Derived.Deep.Cut
import Derived.Laws.IdiomStrings
namespace Go.Proofs.YthhiidikgchdeabGreatDoor
open Go.RowKit
theorem aa {w a b:World}(h:Below w.heap.size w a)(k:Below a.heap.size a b):Below w.heap.size w b:=
 h.trans (k.mono h.size)
theorem aL {w a:World}{B:Nat}(h:Below B w a)(n:Nat):Below B w (a.drewN n):=⟨h.os,h.tape,h.output,h.size,h.block⟩
structure ak where
 s:Bool
 n:Nat
 e:Int
def tz (n:Nat):Nat:=Lib.ctzFrom n n
theorem fO {n:Nat}(h:n≠0): ∃m,n=2^tz n*(2*m+1):=by
 obtain⟨m,a,_⟩:=Lib.ctzFrom_spec n n (by omega) Nat.lt_two_pow_self;exact⟨m,a⟩
theorem Dh {t u m k:Nat}(h:2^t*(2*m+1)=2^u*(2*k+1)):t=u∧m=k:=by
 induction t generalizing u with
 |zero=>
  cases u with
  |zero=>simp at h;exact⟨rfl,by omega⟩
  |succ u=>rw[Nat.pow_succ,Nat.mul_comm _ 2,Nat.mul_assoc] at h;omega
 |succ t ih=>
  cases u with
  |zero=>rw[Nat.pow_succ,Nat.mul_comm _ 2,Nat.mul_assoc] at h;omega
  |succ u=>
   rw[Nat.pow_succ,Nat.mul_comm _ 2,Nat.mul_assoc,Nat.pow_succ,Nat.mul_comm (2^u) 2,Nat.mul_assoc] at h;have:=ih (u:=u) (by omega);exact⟨by omega,this.2⟩
theorem F8 {n t m:Nat}(h:n=2^t*(2*m+1)):tz n=t:=by
 have b:n≠0:=by
  rw[h];exact Nat.ne_of_gt (Nat.mul_pos (Nat.pow_pos (by omega)) (by omega))
 obtain⟨k,a⟩:=fO b;exact(Dh (a.symm.trans h)).1
def aG (a b:ak):ak:=
 let e:=min a.e b.e
 let x:=a.n*2^ (a.e-e).toNat
 let y:=b.n*2^ (b.e-e).toNat
 if a.s=b.s then⟨a.s,x+y,e⟩ else if x<y then⟨b.s,y-x,e⟩ else⟨a.s,x-y,e⟩
def aK (a b:ak):ak:=⟨a.s != b.s,a.n*b.n,a.e+b.e⟩
def dV (a:ak):ak:=⟨!a.s,a.n,a.e⟩
def Mgk (n:Nat):Prop:=0≤n
theorem mgkI (n:Nat):Mgk n:=Nat.zero_le n
def dm (a b:Int):Int:=if a<b then-1 else if b<a then 1 else 0
theorem KJ (a b:Nat)(c:a<4294967296)(d:b<4294967296):bits .or .u64 ((a:Int)*4294967296) b=((a*4294967296+b:Nat):Int):=by
 have e:((a:Int)*4294967296)=((a*4294967296:Nat):Int):=by omega
 rw[e,u64_or_nat _ _ (by omega) (by omega)];have:=nat_join 32 (a*4294967296) b (by omega) (by omega);rw[this]
theorem I6 {t y:Nat}{a b:Nat}(c:a<y)(d:b<4294967296)(e:t=a*4294967296+b):t/y<4294967296:=by
 rw[Nat.div_lt_iff_lt_mul (by omega)];have:(a+1)*4294967296≤y*4294967296:=Nat.mul_le_mul_right _ c;rw[Nat.mul_comm 4294967296 y];omega
theorem rO (b a j:Nat):(⟨b,a,none⟩:Addr).add j=⟨b,a+j,none⟩:=by
 simp only[Addr.add]
 split
 ·rename_i h;subst h;rfl
 ·rfl
theorem j9 (k:IntKind)(zs:List Nat)(j:Nat)(a:j<zs.length):(zs.map (fun n:Nat=>Value.int k (n:Int)))[j]? =some (.int k ((zs.getD j 0:Nat):Int)):=by
 rw[List.getElem?_map,List.getElem?_eq_getElem a];simp[List.getD_eq_getElem?_getD,a]
theorem ib (w:World)(g:Option Nat):w.grownBy w g:=⟨rfl,rfl,rfl,Nat.le_refl _,fun _ _ _=>rfl⟩
theorem bI (w:World)(g j:Nat)(u:Value):w.grownBy (w.setCell ⟨g,j,none⟩ u) (some g):=
 ⟨rfl,rfl,rfl,by simp[World.setCell],fun k _ a=>Below.heap_setCell w ⟨g,j,none⟩ u k (fun e=>a (by rw[e]))⟩
theorem AU (l:List Nat)(k:Nat)(h:k<l.length):l.drop k=l.getD k 0::l.drop (k+1):=by
 rw[List.drop_eq_getElem_cons h];simp[List.getD_eq_getElem?_getD,h]
def brw (x y c:Nat):Nat:=if x<y+c then 1 else 0
theorem DT (v:Nat)(h:v<4294967296):v.testBit 31=decide (2147483648≤v):=by
 rw[Nat.testBit_eq_decide_div_mod_eq]
 by_cases e:2147483648≤v
 ·rw[decide_eq_true e,decide_eq_true (by omega)]
 ·rw[decide_eq_false e,decide_eq_false (by omega)]
theorem abU (v:Nat)(h:v<4294967296):v/2147483648=(v.testBit 31).toNat:=by
 rw[DT v h]
 by_cases e:2147483648≤v
 ·rw[decide_eq_true e,Bool.toNat_true];omega
 ·rw[decide_eq_false e,Bool.toNat_false];omega
theorem QS (x y c d:Nat)(l:x<4294967296)(m:y<4294967296)(q:c≤1)(r:d=(x+4294967296-y-c) % 4294967296):
  (((4294967295^^^x)&&& y)||| ((4294967295^^^ (x^^^y))&&& d))/2147483648=brw x y c:=by
 have k:d<4294967296:=by omega
 have n:(4294967295^^^x)<2^32:=Nat.xor_lt_two_pow (by omega) (by omega);have g:(x^^^y)<2^32:=Nat.xor_lt_two_pow (by omega) (by omega);have o:(4294967295^^^ (x^^^y))<2^32:=Nat.xor_lt_two_pow (by omega) g;have h:((4294967295^^^x)&&& y)<2^32:=Nat.and_lt_two_pow _ (by omega);have i:((4294967295^^^ (x^^^y))&&& d)<2^32:=Nat.and_lt_two_pow _ (by omega);have p:=Nat.or_lt_two_pow h i;rw[abU _ (by omega)];have j:Nat.testBit 4294967295 31=true:=by decide
 simp only[Nat.testBit_or,Nat.testBit_and,Nat.testBit_xor,j,DT x l,DT y m,DT d k];unfold brw
 by_cases a:2147483648≤x<;>by_cases b:2147483648≤y<;>by_cases e:2147483648≤d<;>by_cases f:x<y+c<;>simp[a,b,e,f]<;>omega
theorem NE (x y c:Nat)(f:x<4294967296)(g:y<4294967296)(d:c≤1):
  bits .or .u32 (bits .and .u32 (bits .xor .u32 IntKind.u32.max x) y) (bits .and .u32 (bits .xor .u32 IntKind.u32.max (bits .xor .u32 x y)) (((x:Int)-(y:Int)-(c:Int)) % 4294967296))/2147483648=((brw x y c:Nat):Int):=by
 have b:IntKind.u32.max=((4294967295:Nat):Int):=by decide
 have e:((x:Int)-(y:Int)-(c:Int)) % 4294967296=(((x+4294967296-y-c) % 4294967296:Nat):Int):=by omega
 have l:(x+4294967296-y-c) % 4294967296<4294967296:=Nat.mod_lt _ (by omega);have h:(4294967295^^^x)<2^32:=Nat.xor_lt_two_pow (by omega) (by omega);have a:(x^^^y)<2^32:=Nat.xor_lt_two_pow (by omega) (by omega);have i:(4294967295^^^ (x^^^y))<2^32:=Nat.xor_lt_two_pow (by omega) a;have j:((4294967295^^^x)&&& y)<2^32:=Nat.and_lt_two_pow _ (by omega);have k:((4294967295^^^ (x^^^y))&&& ((x+4294967296-y-c) % 4294967296))<2^32:=Nat.and_lt_two_pow _ (by omega);rw[b,e,u32_xor_nat _ _ (by omega) (by omega),u32_xor_nat _ _ (by omega) (by omega),u32_xor_nat _ _ (by omega) (by omega),u32_and_nat _ _ (by omega) (by omega),u32_and_nat _ _ (by omega) (by omega),u32_or_nat _ _ (by omega) (by omega)];rw[←QS x y c _ f g d rfl];exact(Int.natCast_ediv _ _).symm
theorem RN (x y c:Nat):brw x y c≤1:=by unfold brw;split<;>omega
theorem gX {a b:Int}(h:a<b):dm a b= -1:=by unfold dm;rw[if_pos h]
theorem sO {a b:Int}(h:b<a):dm a b=1:=by unfold dm;rw[if_neg (by omega),if_pos h]
theorem Bh (a:Int):dm a a=0:=by unfold dm;rw[if_neg (by omega),if_neg (by omega)]
theorem gP:bitLen 0=0:=rfl
theorem vC (x:Nat)(h:x≠0):bitLen x=1+bitLen (x/2):=by
 by_cases a:x/2=0
 ·have:x=1:=by omega
  subst this;rfl
 ·exact bitLen_shift x 1 a
theorem ac5 (x:Nat)(h:x<18446744073709551616):Lib.bitLen x=bitLen x:=by
 induction x using Nat.strongRecOn with
 |_ x ih=>
  by_cases a:x=0
  ·subst a;rfl
  ·rw[Lib.bitLen_half x a h,vC x a,ih (x/2) (by omega) (by omega)]
theorem X4 (i:Nat)(h:i<Lib.len8tab.size):(Lib.len8tab[i]'h).toNat=bitLen i:=by
 have a:=Lib.len8tab_size;have:=Lib.len8_eq ⟨i,by omega⟩;simp only[Lib.len8,Int.toNat_natCast] at this;rw[getElem?_pos Lib.len8tab i h] at this;simp only[Option.getD_some] at this;rw[ac5 i (by omega)] at this;omega
theorem qz (k q x:Nat)(h:bitLen x=k+bitLen q)(b:q<256∧k≤24):RowKit.wrap64 ((k:Int)+RowKit.wrap64 ((bitLen q:Nat):Int))=((bitLen x:Nat):Int):=by
 have c:=bitLen_le8 q b.1;have a:=IntWalk.wrap64_in ((bitLen q:Nat):Int) ⟨by omega,by omega⟩;rw[a,IntWalk.wrap64_in _ ⟨by omega,by omega⟩,h];omega
theorem bF (x k:Nat)(h:x<2^k):bitLen x≤k:=by
 by_cases a:x=0
 ·subst a;rw[gP];omega
 ·have:=(bitLen_spec x).2 a
  have:=(Nat.pow_lt_pow_iff_right (by omega:1<2)).1 (Nat.lt_of_le_of_lt this h);omega
theorem Y7 (u x a:Nat)(g:a<32)(c:u<2^a):bits .or .u32 u ((x:Int)*2^a % 4294967296)=((u+x*2^a % 4294967296:Nat):Int):=by
 have f:2^a≤2^31:=Nat.pow_le_pow_right (by omega) (by omega);have e:(x:Int)*2^a % 4294967296=((x*2^a % 4294967296:Nat):Int):=by
  rw[Int.natCast_emod,Int.natCast_mul,Int.natCast_pow];rfl
 rw[e,u32_or_nat _ _ (by omega) (Nat.mod_lt _ (by omega)),Nat.or_comm];have d:x*2^a % 4294967296 % 2^a=0:=by
  have b:2^a∣4294967296:=⟨2^ (32-a),by rw[←Nat.pow_add,show a+(32-a)=32 from by omega]⟩
  rw[Nat.mod_mod_of_dvd _ b];exact Nat.mul_mod_left _ _
 rw[nat_join a _ _ d c];omega
theorem Vg (x a:Nat)(b:a<32):(x:Int)/2^ (32-a)=((x*2^a/4294967296:Nat):Int):=by
 have e:x*2^a/4294967296=x/2^ (32-a):=by
  have:(4294967296:Nat)=2^ (32-a)*2^a:=by rw[←Nat.pow_add,show 32-a+a=32 from by omega]
  rw[this,Nat.mul_div_mul_right _ _ (Nat.pow_pos (by omega))]
 rw[e,Int.natCast_ediv,Int.natCast_pow];rfl
def low (P Q:Nat):List Nat→List Nat
 | []=>[]
 |y::l=>(y/P+l.headD 0 % P*Q)::low P Q l
theorem mA (P Q:Nat)(l:List Nat):(low P Q l).length=l.length:=by
 induction l with
 |nil=>rfl
 |cons y l ih=>simp[low,ih]
theorem Gb (P Q:Nat)(l:List Nat): ∀j,j<l.length→(low P Q l).getD j 0=l.getD j 0/P+l.getD (j+1) 0 % P*Q:=by
 induction l with
 |nil=>intro j h;simp at h
 |cons y l ih=>
  intro j h
  cases j with
  |zero=>cases l<;>simp[low]
  |succ j=>simpa[low] using ih j (by simpa using h)
theorem I7 {P Q x y:Nat}(a:P*Q=4294967296)(f:x<4294967296):x/P<Q∧x/P+y % P*Q<4294967296:=by
 have b:0<P:=by
  rcases Nat.eq_zero_or_pos P with e|e
  ·subst e;simp at a
  ·exact e
 have c:x/P<Q:=by rw[Nat.div_lt_iff_lt_mul b,Nat.mul_comm,a];exact f
 have d:(y % P+1)*Q≤P*Q:=Nat.mul_le_mul_right _ (Nat.mod_lt _ b);rw[Nat.add_mul,a] at d;exact⟨c,by omega⟩
theorem adm (x y a:Nat)(h:a<32)(g:x<4294967296):bits .or .u32 ((x:Int)/2^a) ((y:Int)*2^ (32-a) % 4294967296)=((x/2^a+y % 2^a*2^ (32-a):Nat):Int):=by
 have b:2^a*2^ (32-a)=4294967296:=by rw[←Nat.pow_add,show a+(32-a)=32 from by omega]
 have f:=I7 (y:=y) b g;have c:(x:Int)/2^a=((x/2^a:Nat):Int):=by rw[Int.natCast_ediv,Int.natCast_pow];rfl
 have d:(y:Int)*2^ (32-a) % 4294967296=((y*2^ (32-a) % 4294967296:Nat):Int):=by rw[Int.natCast_emod,Int.natCast_mul,Int.natCast_pow];rfl
 have e:y*2^ (32-a) % 4294967296=y % 2^a*2^ (32-a):=by rw[←b,Nat.mul_mod_mul_right]
 rw[c,d,e,u32_or_nat _ _ (by omega) (by omega),Nat.or_comm,nat_join (32-a) _ _ (Nat.mul_mod_left _ _) f.1];omega
theorem ui (l:List Nat)(a j:Nat):(l.drop a).getD j 0=l.getD (a+j) 0:=by
 simp[List.getD_eq_getElem?_getD,List.getElem?_drop]
def abK (xs ds:List Nat)(wh P Q k:Nat):Prop:=
 ds.length=xs.length-wh∧ ∀j,ds.getD j 0=if j<k then xs.getD (wh+j) 0/P+xs.getD (wh+j+1) 0 % P*Q else 0
def shN (N:Nat)(n:Int):Nat:=if n<0 then N/2^ (-n).toNat else N*2^n.toNat
theorem abX {a b:Int}(h:b≤a):decide (dm a b<0)=false:=by
 unfold dm;rw[if_neg (by omega)]
 by_cases c:b<a
 ·rw[if_pos c];rfl
 ·rw[if_neg c];rfl
theorem fy {P:Program}{o:Oper}{a:Act}{w:World}(t:TypeId)(x:Operand)(g:o.op= .load t x)(b i:Nat)(k:a.eval x= .pointer (some ⟨b,i,none⟩))(c:List Value)(d:TypeDesc)(h:w.rangeAt b i c)(j:P.underlying t=some d)(e:d.isRow=true)(f:(P.info? t).map (·.size)=some c.length):(execOp a.eval o).run P w= .ok (.value (.agg c.toArray)) w:=by
 unfold execOp;simp only[g,k];have:=run_loadAt_mid (P:=P) w b i t c d h j e f;simp[this]
theorem am {B b:Nat}{w c:World}(h:Below B w c)(a:B≤b)(d e f:Value):Below B w (((c.setCell ⟨b,0,none⟩ d).setCell ⟨b,1,none⟩ e).setCell ⟨b,2,none⟩ f):=
 ((h.setCell (p:=⟨b,0,none⟩) a d).setCell (p:=⟨b,1,none⟩) a e).setCell (p:=⟨b,2,none⟩) a f
theorem CE (n:Nat)(i:Int)(h:0≤i):shN n i=n*2^i.toNat:=by
 unfold shN;rw[if_neg (by omega)]
def lp (nn tn:Nat):Nat→Nat→Nat→Nat→Nat→Nat×Nat×Nat
 |0,i,_,s,r=>(i,s,r)
 |f+1,i,t,s,r=>if t=0 then(i,s,r) else if tn*(i % 2)=0 then lp nn tn f (i+1) (t/nn) (s+t/(2*i+1)) r else lp nn tn f (i+1) (t/nn) s (r+t/(2*i+1))
theorem lp_zero (nn tn f i s r:Nat):lp nn tn f i 0 s r=(i,s,r):=by
 cases f<;>simp[lp]
theorem lp_up (nn tn f i t s r:Nat)(a:t≠0)(h:tn*(i % 2)=0):lp nn tn (f+1) i t s r=lp nn tn f (i+1) (t/nn) (s+t/(2*i+1)) r:=by
 rw[lp,if_neg a,if_pos h]
theorem lp_down (nn tn f i t s r:Nat)(a:t≠0)(h: ¬tn*(i % 2)=0):lp nn tn (f+1) i t s r=lp nn tn f (i+1) (t/nn) s (r+t/(2*i+1)):=by
 rw[lp,if_neg a,if_neg h]
theorem div_step {nn t f:Nat}(a:4≤nn)(h:t<4^ (f+1)):t/nn<4^f:=by
 rw[Nat.pow_succ,Nat.mul_comm] at h;have:t/nn≤t/4:=Nat.div_le_div_left a (by omega);have:t/4<4^f:=Nat.div_lt_of_lt_mul h;omega
theorem Ox {u v a D E q:Nat}(_hE:0<E)(f:a< (u+1)*E)(c:v*E≤D)(e:q*D≤a):q*v≤u:=by
 have d:q*v*E≤q*D:=by rw[Nat.mul_assoc];exact Nat.mul_le_mul_left _ c
 have b:q*v*E< (u+1)*E:=by omega
 have:=Nat.lt_of_mul_lt_mul_right b;omega
theorem Oy {u v a D E g:Nat}(d:g*v≤u)(j:g≤v+1)(k:u*E≤a)(c:D≤(v+1)*E):(g-1)*D≤a:=by
 have f:(g-1)*D≤(g-1)*(v+1)*E:=by rw[Nat.mul_assoc];exact Nat.mul_le_mul_left _ c
 have b:(g-1)*(v+1)≤u:=by
  rcases Nat.eq_zero_or_pos g with e|e
  ·subst e;simp
  ·obtain⟨h,rfl⟩: ∃h,g=h+1:=⟨g-1,by omega⟩
   rw[Nat.add_sub_cancel];rw[Nat.add_mul] at d;rw[Nat.mul_add];omega
 have i:(g-1)*(v+1)*E≤u*E:=Nat.mul_le_mul_right _ b;omega
def GsI (top d1 d0 p0 g r:Nat):Prop:=g*d1+r=top∧ ∀q,q*(d1*4294967296+d0)≤top*4294967296+p0→q<4294967296→q≤g
theorem Z1 (b a c d:Nat)(e:0<a)(j:d<4294967296):GsI b a c d (b/a) (b % a):=by
 refine⟨by have:=Nat.div_add_mod b a;rw[Nat.mul_comm] at this;exact this,fun q k _=> ?_⟩
 have f:q*a≤b:=by
  rcases Nat.lt_or_ge b (q*a) with h|h
  ·exfalso
   have g:(b+1)*4294967296≤q*a*4294967296:=Nat.mul_le_mul_right _ h;have i:q*a*4294967296≤q*(a*4294967296+c):=by rw[Nat.mul_assoc];exact Nat.mul_le_mul_left q (Nat.le_add_right _ _)
   omega
  ·exact h
 exact(Nat.le_div_iff_mul_le e).2 f
theorem S9 {j a c f g r:Nat}(h:GsI j a c f g r)(p:0<g)(d:4294967296≤g∨r*4294967296+f<g*c):GsI j a c f (g-1) (r+a):=by
 obtain⟨i,l⟩:=h;obtain⟨k,rfl⟩: ∃k,g=k+1:=⟨g-1,by omega⟩;rw[Nat.add_sub_cancel];refine⟨by rw[Nat.add_mul] at i;omega,fun q b m=> ?_⟩
 have o:=l q b m
 rcases Nat.lt_or_ge k q with e|e
 ·exfalso
  have n:q=k+1:=by omega
  subst n
  rcases d with d|d
  ·omega
  ·rw[←i,Nat.mul_add] at b
   rw[Nat.add_mul ((k+1)*a)] at b;rw[Nat.mul_assoc] at b;omega
 ·exact e
theorem Z2 {d b a c g r:Nat}(h:GsI d b a c g r)(e:g*a≤r*4294967296+c):g*(b*4294967296+a)≤d*4294967296+c:=by
 rw[←h.1,Nat.mul_add,Nat.add_mul (g*b),Nat.mul_assoc];omega
theorem Sd (c x s:Nat):((c:Int)+(x:Int)*(s:Int)) % 4294967296=(((c+x*s) % 4294967296:Nat):Int):=by rw[←Int.natCast_mul];omega
theorem Se (c x s:Nat):((c:Int)+(x:Int)*(s:Int))/4294967296=(((c+x*s)/4294967296:Nat):Int):=by rw[←Int.natCast_mul];omega
def msr (v:Value):Nat:=(intOf v).toNat
theorem Ap {x:Nat}(h:x<4294967296):(x:Int) % 4294967296=(x:Int):=by omega
theorem Mk {c a b d p1 p2 g r : Nat} (h : GsI c a b d g r) (n : 4294967296 ≤ r) (_hd : 0 < a) (o : p2 * 4294967296 + p1 = c) (l : p2 ≤ a) (m : p1 < 4294967296) (i : b < 4294967296) :
  g < 4294967296 ∧ g * (a * 4294967296 + b) ≤ c * 4294967296 + d := by
 have f : g < 4294967296 := by
  rcases Nat.lt_or_ge g 4294967296 with e | e
  ·exact e
  ·exfalso
   have j := h.1
   have k : 4294967296 * a ≤ g * a := Nat.mul_le_mul_right _ e
   omega
 refine ⟨f, Z2 h ?_⟩
 have : g * b ≤ 4294967296 * 4294967296 := Nat.mul_le_mul (by omega) (by omega)
 omega
theorem adr {B X D i n:Nat}(a:0<B)(c:1≤n)(b:X<D*B^ (i+1)):X/B^ (i+n)≤D/B^ (n-1):=by
 have e:i+n=(i+1)+(n-1):=by omega
 rw[e,Nat.pow_add,←Nat.div_div_eq_div_mul];apply Nat.div_le_div_right;have:=(Nat.div_lt_iff_lt_mul (Nat.pow_pos a)).2 b;omega
theorem aeU (B X m:Nat)(f:0<B)(g:X<B^ (m+3)):((X/B^ (m+2) % B)*B+X/B^ (m+1) % B)*B+X/B^m % B=X/B^m:=by
 have a:X/B^ (m+1)=X/B^m/B:=by rw[Nat.pow_succ,Nat.div_div_eq_div_mul]
 have d:X/B^ (m+2)=X/B^m/B/B:=by rw[show m+2=m+1+1 from rfl,Nat.pow_succ,←Nat.div_div_eq_div_mul,a]
 have e:X/B^ (m+2)<B:=by
  rw[Nat.div_lt_iff_lt_mul (Nat.pow_pos f)];have:B^ (m+3)=B*B^ (m+2):=by rw[show m+3=m+2+1 from rfl,Nat.pow_succ,Nat.mul_comm]
  omega
 rw[Nat.mod_eq_of_lt e,d,a];generalize X/B^m=u;have b:=Nat.div_add_mod (u/B) B;have c:=Nat.div_add_mod u B;rw[Nat.mul_comm (u/B/B) B,b,Nat.mul_comm,c]
theorem two (B D m:Nat)(d:0<B)(e:D<B^ (m+2)):(D/B^ (m+1) % B)*B+D/B^m % B=D/B^m:=by
 have b:D/B^ (m+1)=D/B^m/B:=by rw[Nat.pow_succ,Nat.div_div_eq_div_mul]
 have c:D/B^ (m+1)<B:=by
  rw[Nat.div_lt_iff_lt_mul (Nat.pow_pos d)];have:B^ (m+2)=B*B^ (m+1):=by rw[show m+2=m+1+1 from rfl,Nat.pow_succ,Nat.mul_comm]
  omega
 rw[Nat.mod_eq_of_lt c,b];have a:=Nat.div_add_mod (D/B^m) B;rw[Nat.mul_comm,a]
theorem SF (x:Nat){E:Nat}(h:0<E):x< (x/E+1)*E:=by
 have a:=Nat.div_add_mod x E;have b:=Nat.mod_lt x h;rw[Nat.add_mul,Nat.one_mul,Nat.mul_comm];generalize x % E=r at*;omega
theorem NC {B X D i m g:Nat}(c:0<B)(l:X<D*B^ (i+1))(d:B^ (m+1)≤D)(t:g<B)
  (f: ∀k,k*(D/B^m)≤X/B^ (i+m)→k<B→k≤g) (j:g*(D/B^m)≤X/B^ (i+m)):
  X/B^i/D<B∧(g=X/B^i/D∨g=X/B^i/D+1):=by
 have b:0<B^m:=Nat.pow_pos c;have e:0<D:=Nat.lt_of_lt_of_le (Nat.pow_pos c) d;have h:X/B^i/D<B:=by
  rw[Nat.div_lt_iff_lt_mul e,Nat.div_lt_iff_lt_mul (Nat.pow_pos c),Nat.mul_assoc,Nat.mul_comm B,Nat.mul_assoc,←Nat.pow_succ];exact l
 refine⟨h, ?_⟩;rw[Nat.pow_add,←Nat.div_div_eq_div_mul] at f j;generalize u:X/B^i=a at*;have p:D/B^m*B^m≤D:=Nat.div_mul_le_self D _;have q:D≤(D/B^m+1)*B^m:=by have:=SF D b;omega
 have n:a/B^m*B^m≤a:=Nat.div_mul_le_self a _;have o:a< (a/B^m+1)*B^m:=SF a b;have v:B≤D/B^m:=by
  rw[Nat.le_div_iff_mul_le b,Nat.mul_comm,←Nat.pow_succ];exact d
 have r:=Ox b o p (Nat.div_mul_le_self a D);have w:=f _ r h;have s:=Oy j (by omega) n q;have x:g-1≤a/D:=(Nat.le_div_iff_mul_le e).2 s;omega
theorem ND {X D i B:Nat}(b:0<B)(c:0<D):B^i*(D*(X/B^i/D))≤X∧X<B^i*(D*(X/B^i/D))+B^i*D:=by
 have d:0<B^i:=Nat.pow_pos b;have e:=Nat.div_add_mod X (B^i);have f:=Nat.div_add_mod (X/B^i) D;have g:=Nat.mod_lt X d;have h:=Nat.mod_lt (X/B^i) c;generalize X/B^i/D=q at*;generalize X/B^i % D=l at*;generalize X % B^i=k at*;generalize X/B^i=s at*;have j:B^i*(D*q)≤B^i*s:=Nat.mul_le_mul_left _ (by omega);have a:B^i*(s+1)≤B^i*(D*q+D):=Nat.mul_le_mul_left _ (by omega);rw[Nat.mul_add,Nat.mul_add,Nat.mul_one] at a;omega
theorem QQ {X Z T a c x g q b:Nat}(h:a≤X)(i:X<a+c)(f:x=a∨x=a+c)(d:(x=a→g=q)∧(x=a+c→g=q+1))(j:Z+x=X+T*b)(k:Z<T)(l:b≤1):
  (b=0→g=q∧Z+a=X)∧(b=1→g=q+1∧Z+(a+c)=X+T):=by
 constructor
 ·intro e
  subst e
  rcases f with e|e
  ·exact⟨d.1 e,by omega⟩
  ·omega
 ·intro e
  subst e
  rcases f with e|e
  ·omega
  ·exact⟨d.2 e,by omega⟩
theorem uB (y:Nat)(h:y≠0):1≤bitLen y∧2^ (bitLen y-1)≤y∧y<2^bitLen y:=by
 induction y using Nat.strongRecOn with
 |_ y ih=>
  rw[vC y h]
  by_cases d:y/2=0
  ·have:y=1:=by omega
   subst this;simp[gP]
  ·have⟨a,b,c⟩:=ih (y/2) (by omega) d
   refine⟨by omega, ?_, ?_⟩
   ·rw[show 1+bitLen (y/2)-1=(bitLen (y/2)-1)+1 from by omega,Nat.pow_succ];omega
   ·rw[Nat.add_comm,Nat.pow_succ];omega
theorem EP (n j:Nat):(List.replicate n 0).getD j 0=0:=by
 by_cases h:j<n
 ·simp[List.getD_eq_getElem?_getD,h]
 ·simp[List.getD_eq_getElem?_getD,h]
theorem Xx {a b:Int}(h:b≤a):decide (dm a b<0)=false:=by
 unfold dm;rw[if_neg (by omega)]
 by_cases c:b<a
 ·rw[if_pos c];rfl
 ·rw[if_neg c];rfl
def d8 (s:Bool)(m:Nat)(e:Int)(left:Bool):ak:=⟨s,m*2+(if left=true then 1 else 0),e-1⟩
def gV (a b:ak)(B:Nat):Nat:=B+bitLen b.n-bitLen a.n
def cK (a b:ak)(B:Nat):ak:=d8 (a.s != b.s) (a.n*2^gV a b B/b.n) (a.e-b.e-(gV a b B:Int)) (decide (0<a.n*2^gV a b B % b.n))
def InvN (n k tn:Nat)(R:Nat×Nat×Nat)(f i t s r:Nat):Prop:=
 lp (n*n) tn f i t s r=R∧t<4^f∧i+f≤k+1∧s≤i*2^k∧t≤2^k∧(i % 2=0→r≤s)∧(i % 2=1→r+tn*(t/(2*i+1))≤s)∧(tn=0→r=0)
def invLo (R:Nat×Nat×Nat)(k:Nat):ak:=⟨(aG ⟨false,R.2.1-R.2.2,0⟩ (dV ⟨false,3+3*R.1,0⟩)).s,(aG ⟨false,R.2.1-R.2.2,0⟩ (dV ⟨false,3+3*R.1,0⟩)).n,(aG ⟨false,R.2.1-R.2.2,0⟩ (dV ⟨false,3+3*R.1,0⟩)).e-(k:Int)⟩
def invHi (R:Nat×Nat×Nat)(k:Nat):ak:=⟨(aG ⟨false,R.2.1-R.2.2,0⟩ ⟨false,3+3*R.1,0⟩).s,(aG ⟨false,R.2.1-R.2.2,0⟩ ⟨false,3+3*R.1,0⟩).n,(aG ⟨false,R.2.1-R.2.2,0⟩ ⟨false,3+3*R.1,0⟩).e-(k:Int)⟩
theorem plus_e0 (a b:ak)(c:a.e=0)(d:b.e=0):(aG a b).e=0:=by
 unfold aG;simp only[c,d]
 split
 ·rfl
 ·split<;>rfl
theorem inv_zero {n k tn:Nat}(_hn:2≤n):InvN n k tn (lp (n*n) tn (k+1) 0 (2^k/n) 0 0) (k+1) 0 (2^k/n) 0 0:=by
 have h:=Nat.div_le_self (2^k) n;refine⟨rfl, ?_,by omega,by omega,h,by omega,by omega,by omega⟩;have a:(2:Nat)^k≤4^k:=Nat.pow_le_pow_left (by omega) k;have b:(4:Nat)^ (k+1)=4^k*4:=Nat.pow_succ 4 k;have c:0< (4:Nat)^k:=Nat.pow_pos (by omega);omega
theorem inv_up {n k tn:Nat}{R:Nat×Nat×Nat}{f i t s r:Nat}(j:2≤n)(h:InvN n k tn R f i t s r)(m:t≠0)(b:tn*(i % 2)=0)(x:tn≤1):
  ∃a,f=a+1∧InvN n k tn R a (i+1) (t/(n*n)) (s+t/(2*i+1)) r:=by
 obtain⟨c,d,A,B,C,p,u,l⟩:=h;have v:4≤n*n:=Nat.mul_le_mul j j
 cases f with
 |zero=>exact absurd (show t=0 by simpa using d) m
 |succ f=>
  refine⟨f,rfl, ?_⟩;rw[lp_up _ _ _ _ _ _ _ m b] at c;have y:=Nat.div_le_self t (2*i+1);have z:=Nat.div_le_self t (n*n);have o:t/(n*n)/(2*(i+1)+1)≤t/(2*i+1):=by
   rw[Nat.div_div_eq_div_mul];refine Nat.div_le_div_left ?_ (by omega);have:1*(2*(i+1)+1)≤n*n*(2*(i+1)+1):=Nat.mul_le_mul_right _ (by omega);omega
  refine⟨c,div_step v d,by omega, ?_,by omega, ?_, ?_,l⟩
  all_goals generalize t/(2*i+1)=q at*
  ·rw[Nat.add_mul];omega
  ·intro w
   have g:i % 2=1:=by omega
   rw[g] at b;have:=u g;have:r=0:=l (by omega);omega
  ·intro w
   have:=p (by omega);have e:tn*(t/(n*n)/(2*(i+1)+1))≤1*(t/(n*n)/(2*(i+1)+1)):=Nat.mul_le_mul_right _ x;rw[Nat.one_mul] at e;exact Nat.le_trans (Nat.add_le_add_left (Nat.le_trans e o) r) (by omega)
theorem inv_down {n k tn:Nat}{R:Nat×Nat×Nat}{f i t s r:Nat}(l:2≤n)(h:InvN n k tn R f i t s r)(m:t≠0)(b:tn*(i % 2)=1):
  ∃a,f=a+1∧InvN n k tn R a (i+1) (t/(n*n)) s (r+t/(2*i+1)):=by
 obtain⟨d,e,w,x,y,z,o,A⟩:=h;have p:4≤n*n:=Nat.mul_le_mul l l
 cases f with
 |zero=>exact absurd (show t=0 by simpa using e) m
 |succ f=>
  refine⟨f,rfl, ?_⟩;rw[lp_down _ _ _ _ _ _ _ m (by omega)] at d;have v:=Nat.div_le_self t (n*n);have j:i % 2=1:=by
   rcases Nat.mod_two_eq_zero_or_one i with c|c
   ·rw[c] at b;omega
   ·exact c
  have u:tn=1:=by rw[j] at b;omega
  have g:=o j;subst u;rw[Nat.one_mul] at g;generalize t/(2*i+1)=q at*;exact⟨d,div_step p e,by omega,by rw[Nat.add_mul];omega,by omega,fun _=>g,fun c=>by omega,fun c=>by omega⟩
theorem inv_end {n k tn:Nat}{R:Nat×Nat×Nat}{f i s r:Nat}(h:InvN n k tn R f i 0 s r):R=(i,s,r)∧r≤s∧i≤k+1∧s≤(k+2)*2^k:=by
 obtain⟨a,g,j,b,l,d,e,m⟩:=h;rw[lp_zero] at a;refine⟨a.symm, ?_,by omega,Nat.le_trans b (Nat.mul_le_mul_right _ (by omega))⟩
 rcases Nat.mod_two_eq_zero_or_one i with c|c
 ·exact d c
 ·have:=e c
  rw[Nat.zero_div,Nat.mul_zero] at this;exact this
end Go.Proofs.YthhiidikgchdeabGreatDoor

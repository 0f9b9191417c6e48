/-
  Texts laid together: Mg0, Mem, Dz, Leaf, Div1, DivBy, Rev, Add, Minus, Cmp, Bits, Shift, Dy1, Dy3, Dy4, Knuth, Read2, Back, Long0, Long, Long1, Over, Co1, Co6, Co10, Co9, Co11, Gr1, Gr2, Gr4, Tx9, Co17, Co18, Cr4, Cr9, Ar2, Rk1, Wy.
-/
import Derived.WalkKit
import Derived.WalkSpells
import Derived.Deep.QuietTactic
import Derived.BigQuiet
import Derived.Lib.TrailingZeros
import Derived.Test.YtdhpndnncmagiaaGreatDoorChecked
import Derived.Handy
import Derived.Laws.CopyOwn
import Derived.BigRegion
import Derived.Deep.LoopGhost
import Derived.Deep.RegionLaw
import Derived.WalkSmall
import Derived.OpenShut
import Derived.Laws.MathBits
import Derived.Lib.BitFns
import Derived.Lib.Walk
import Derived.Lib.Small
import Derived.Shelf.Spec.TrailingZeros
import Derived.Deep.RegionHeld3
import Derived.Laws.ResultCell
import Derived.Deep.MidRow
import Derived.Laws.IdiomStrings
import Derived.Deep.Cut
import Derived.ChangeMaps4
import Derived.Deep.DeepCutAuto
import Derived.Deep.AppendLies
import Derived.Deep.RegionWith
import Derived.Laws.OwnMore
import Derived.Deep.CutBlock
import Derived.Maps.AppendAt
namespace Go.Proofs.YtdhpndnncmagiaaGreatDoor
open Go.RowKit
def Mgk (n:Nat):Prop:=0≤n
theorem mgkI (n:Nat):Mgk n:=Nat.zero_le n
theorem aa {w w1 w2:World}(h:Below w.heap.size w w1)(k:Below w1.heap.size w1 w2):Below w.heap.size w w2:=
 h.trans (k.mono h.size)
theorem aL {w w1:World}{B:Nat}(h:Below B w w1)(n:Nat):Below B w (w1.drewN n):=⟨h.os,h.tape,h.output,h.size,h.block⟩
structure ak where
 s:Bool
 n:Nat
 e:Int
def sz (s:Bool)(n:Nat):Int:=if s then-(n:Int) else n
def tz (n:Nat):Nat:=Lib.ctzFrom n n
theorem fO {n:Nat}(h:n≠0): ∃m,n=2^tz n*(2*m+1):=by
 obtain⟨m,hm,_⟩:=Lib.ctzFrom_spec n n (by omega) Nat.lt_two_pow_self;exact⟨m,hm⟩
theorem Dh {t u m k:Nat}(h:2^t*(2*m+1)=2^u*(2*k+1)):t=u∧m=k:=by
 induction t generalizing u with
 |zero=>
  cases u with
  |zero=>simp at h;exact⟨rfl,by omega⟩
  |succ u=>rw[Nat.pow_succ,Nat.mul_comm _ 2,Nat.mul_assoc] at h;omega
 |succ t ih=>
  cases u with
  |zero=>rw[Nat.pow_succ,Nat.mul_comm _ 2,Nat.mul_assoc] at h;omega
  |succ u=>
   rw[Nat.pow_succ,Nat.mul_comm _ 2,Nat.mul_assoc,Nat.pow_succ,Nat.mul_comm (2^u) 2,Nat.mul_assoc] at h;have:=ih (u:=u) (by omega);exact⟨by omega,this.2⟩
theorem F8 {n t m:Nat}(h:n=2^t*(2*m+1)):tz n=t:=by
 have hn:n≠0:=by
  rw[h];exact Nat.ne_of_gt (Nat.mul_pos (Nat.pow_pos (by omega)) (by omega))
 obtain⟨k,hk⟩:=fO hn;exact(Dh (hk.symm.trans h)).1
def bare (a:ak):ak:=if a.n=0 then⟨false,0,0⟩ else⟨a.s,a.n/2^tz a.n,a.e+tz a.n⟩
def aG (a b:ak):ak:=
 let e:=min a.e b.e
 let x:=a.n*2^ (a.e-e).toNat
 let y:=b.n*2^ (b.e-e).toNat
 if a.s=b.s then⟨a.s,x+y,e⟩ else if x<y then⟨b.s,y-x,e⟩ else⟨a.s,x-y,e⟩
def dm (a b:Int):Int:=if a<b then-1 else if b<a then 1 else 0
theorem KJ (hi lo:Nat)(h1:hi<4294967296)(h2:lo<4294967296):bits .or .u64 ((hi:Int)*4294967296) lo=((hi*4294967296+lo:Nat):Int):=by
 have e:((hi:Int)*4294967296)=((hi*4294967296:Nat):Int):=by omega
 rw[e,u64_or_nat _ _ (by omega) (by omega)];have:=nat_join 32 (hi*4294967296) lo (by omega) (by omega);rw[this]
theorem I6 {t y:Nat}{hi lo:Nat}(h1:hi<y)(h2:lo<4294967296)(ht:t=hi*4294967296+lo):t/y<4294967296:=by
 rw[Nat.div_lt_iff_lt_mul (by omega)];have:(hi+1)*4294967296≤y*4294967296:=Nat.mul_le_mul_right _ h1;rw[Nat.mul_comm 4294967296 y];omega
theorem rO (b off j:Nat):(⟨b,off,none⟩:Addr).add j=⟨b,off+j,none⟩:=by
 simp only[Addr.add]
 split
 ·rename_i h;subst h;rfl
 ·rfl
theorem j9 (k:IntKind)(zs:List Nat)(j:Nat)(hj:j<zs.length):(zs.map (fun n:Nat=>Value.int k (n:Int)))[j]? =some (.int k ((zs.getD j 0:Nat):Int)):=by
 rw[List.getElem?_map,List.getElem?_eq_getElem hj];simp[List.getD_eq_getElem?_getD,hj]
theorem ib (w:World)(g:Option Nat):w.grownBy w g:=⟨rfl,rfl,rfl,Nat.le_refl _,fun _ _ _=>rfl⟩
theorem bI (w:World)(g j:Nat)(u:Value):w.grownBy (w.setCell ⟨g,j,none⟩ u) (some g):=
 ⟨rfl,rfl,rfl,by simp[World.setCell],fun k _ hk=>Below.heap_setCell w ⟨g,j,none⟩ u k (fun e=>hk (by rw[e]))⟩
theorem AU (l:List Nat)(k:Nat)(h:k<l.length):l.drop k=l.getD k 0::l.drop (k+1):=by
 rw[List.drop_eq_getElem_cons h];simp[List.getD_eq_getElem?_getD,h]
theorem vm (w:World)(g:Option Nat):w.grownBy w.drew g:=⟨rfl,rfl,rfl,Nat.le_refl _,fun _ _ _=>rfl⟩
def brw (x y c:Nat):Nat:=if x<y+c then 1 else 0
theorem DT (v:Nat)(h:v<4294967296):v.testBit 31=decide (2147483648≤v):=by
 rw[Nat.testBit_eq_decide_div_mod_eq]
 by_cases e:2147483648≤v
 ·rw[decide_eq_true e,decide_eq_true (by omega)]
 ·rw[decide_eq_false e,decide_eq_false (by omega)]
theorem abU (v:Nat)(h:v<4294967296):v/2147483648=(v.testBit 31).toNat:=by
 rw[DT v h]
 by_cases e:2147483648≤v
 ·rw[decide_eq_true e,Bool.toNat_true];omega
 ·rw[decide_eq_false e,Bool.toNat_false];omega
theorem QS (x y c d:Nat)(hx:x<4294967296)(hy:y<4294967296)(hc:c≤1)(hd:d=(x+4294967296-y-c) % 4294967296):
  (((4294967295^^^x)&&& y)||| ((4294967295^^^ (x^^^y))&&& d))/2147483648=brw x y c:=by
 have hdl:d<4294967296:=by omega
 have h1:(4294967295^^^x)<2^32:=Nat.xor_lt_two_pow (by omega) (by omega);have h2:(x^^^y)<2^32:=Nat.xor_lt_two_pow (by omega) (by omega);have h3:(4294967295^^^ (x^^^y))<2^32:=Nat.xor_lt_two_pow (by omega) h2;have h4:((4294967295^^^x)&&& y)<2^32:=Nat.and_lt_two_pow _ (by omega);have h5:((4294967295^^^ (x^^^y))&&& d)<2^32:=Nat.and_lt_two_pow _ (by omega);have h6:=Nat.or_lt_two_pow h4 h5;rw[abU _ (by omega)];have hM:Nat.testBit 4294967295 31=true:=by decide
 simp only[Nat.testBit_or,Nat.testBit_and,Nat.testBit_xor,hM,DT x hx,DT y hy,DT d hdl];unfold brw
 by_cases a1:2147483648≤x<;>by_cases a2:2147483648≤y<;>by_cases a3:2147483648≤d<;>by_cases a4:x<y+c<;>simp[a1,a2,a3,a4]<;>omega
theorem NE (x y c:Nat)(hx:x<4294967296)(hy:y<4294967296)(hc:c≤1):
  bits .or .u32 (bits .and .u32 (bits .xor .u32 IntKind.u32.max x) y) (bits .and .u32 (bits .xor .u32 IntKind.u32.max (bits .xor .u32 x y)) (((x:Int)-(y:Int)-(c:Int)) % 4294967296))/2147483648=((brw x y c:Nat):Int):=by
 have hM:IntKind.u32.max=((4294967295:Nat):Int):=by decide
 have hd:((x:Int)-(y:Int)-(c:Int)) % 4294967296=(((x+4294967296-y-c) % 4294967296:Nat):Int):=by omega
 have hdl:(x+4294967296-y-c) % 4294967296<4294967296:=Nat.mod_lt _ (by omega);have h1:(4294967295^^^x)<2^32:=Nat.xor_lt_two_pow (by omega) (by omega);have h2:(x^^^y)<2^32:=Nat.xor_lt_two_pow (by omega) (by omega);have h3:(4294967295^^^ (x^^^y))<2^32:=Nat.xor_lt_two_pow (by omega) h2;have h4:((4294967295^^^x)&&& y)<2^32:=Nat.and_lt_two_pow _ (by omega);have h5:((4294967295^^^ (x^^^y))&&& ((x+4294967296-y-c) % 4294967296))<2^32:=Nat.and_lt_two_pow _ (by omega);rw[hM,hd,u32_xor_nat _ _ (by omega) (by omega),u32_xor_nat _ _ (by omega) (by omega),u32_xor_nat _ _ (by omega) (by omega),u32_and_nat _ _ (by omega) (by omega),u32_and_nat _ _ (by omega) (by omega),u32_or_nat _ _ (by omega) (by omega)];rw[←QS x y c _ hx hy hc rfl];exact(Int.natCast_ediv _ _).symm
theorem RN (x y c:Nat):brw x y c≤1:=by unfold brw;split<;>omega
theorem gX {a b:Int}(h:a<b):dm a b= -1:=by unfold dm;rw[if_pos h]
theorem sO {a b:Int}(h:b<a):dm a b=1:=by unfold dm;rw[if_neg (by omega),if_pos h]
theorem Bh (a:Int):dm a a=0:=by unfold dm;rw[if_neg (by omega),if_neg (by omega)]
theorem gP:bitLen 0=0:=rfl
theorem vC (x:Nat)(h:x≠0):bitLen x=1+bitLen (x/2):=by
 by_cases h1:x/2=0
 ·have:x=1:=by omega
  subst this;rfl
 ·exact bitLen_shift x 1 h1
theorem ac5 (x:Nat)(h:x<18446744073709551616):Lib.bitLen x=bitLen x:=by
 induction x using Nat.strongRecOn with
 |_ x ih=>
  by_cases h0:x=0
  ·subst h0;rfl
  ·rw[Lib.bitLen_half x h0 h,vC x h0,ih (x/2) (by omega) (by omega)]
theorem X4 (i:Nat)(h:i<Lib.len8tab.size):(Lib.len8tab[i]'h).toNat=bitLen i:=by
 have hs:=Lib.len8tab_size;have:=Lib.len8_eq ⟨i,by omega⟩;simp only[Lib.len8,Int.toNat_natCast] at this;rw[getElem?_pos Lib.len8tab i h] at this;simp only[Option.getD_some] at this;rw[ac5 i (by omega)] at this;omega
theorem qz (k q x:Nat)(h:bitLen x=k+bitLen q)(hq:q<256∧k≤24):RowKit.wrap64 ((k:Int)+RowKit.wrap64 ((bitLen q:Nat):Int))=((bitLen x:Nat):Int):=by
 have hb:=bitLen_le8 q hq.1;have e1:=IntWalk.wrap64_in ((bitLen q:Nat):Int) ⟨by omega,by omega⟩;rw[e1,IntWalk.wrap64_in _ ⟨by omega,by omega⟩,h];omega
theorem bF (x k:Nat)(h:x<2^k):bitLen x≤k:=by
 by_cases h0:x=0
 ·subst h0;rw[gP];omega
 ·have:=(bitLen_spec x).2 h0
  have:=(Nat.pow_lt_pow_iff_right (by omega:1<2)).1 (Nat.lt_of_le_of_lt this h);omega
theorem Y7 (u x pt:Nat)(hpt:pt<32)(hu:u<2^pt):bits .or .u32 u ((x:Int)*2^pt % 4294967296)=((u+x*2^pt % 4294967296:Nat):Int):=by
 have hp:2^pt≤2^31:=Nat.pow_le_pow_right (by omega) (by omega);have e:(x:Int)*2^pt % 4294967296=((x*2^pt % 4294967296:Nat):Int):=by
  rw[Int.natCast_emod,Int.natCast_mul,Int.natCast_pow];rfl
 rw[e,u32_or_nat _ _ (by omega) (Nat.mod_lt _ (by omega)),Nat.or_comm];have hz:x*2^pt % 4294967296 % 2^pt=0:=by
  have hd:2^pt∣4294967296:=⟨2^ (32-pt),by rw[←Nat.pow_add,show pt+(32-pt)=32 from by omega]⟩
  rw[Nat.mod_mod_of_dvd _ hd];exact Nat.mul_mod_left _ _
 rw[nat_join pt _ _ hz hu];omega
theorem Vg (x pt:Nat)(hpt:pt<32):(x:Int)/2^ (32-pt)=((x*2^pt/4294967296:Nat):Int):=by
 have e:x*2^pt/4294967296=x/2^ (32-pt):=by
  have:(4294967296:Nat)=2^ (32-pt)*2^pt:=by rw[←Nat.pow_add,show 32-pt+pt=32 from by omega]
  rw[this,Nat.mul_div_mul_right _ _ (Nat.pow_pos (by omega))]
 rw[e,Int.natCast_ediv,Int.natCast_pow];rfl
def low (P Q:Nat):List Nat→List Nat
 | []=>[]
 |y::l=>(y/P+l.headD 0 % P*Q)::low P Q l
theorem mA (P Q:Nat)(l:List Nat):(low P Q l).length=l.length:=by
 induction l with
 |nil=>rfl
 |cons y l ih=>simp[low,ih]
theorem Gb (P Q:Nat)(l:List Nat): ∀j,j<l.length→(low P Q l).getD j 0=l.getD j 0/P+l.getD (j+1) 0 % P*Q:=by
 induction l with
 |nil=>intro j h;simp at h
 |cons y l ih=>
  intro j h
  cases j with
  |zero=>cases l<;>simp[low]
  |succ j=>simpa[low] using ih j (by simpa using h)
theorem I7 {P Q x y:Nat}(hPQ:P*Q=4294967296)(hx:x<4294967296):x/P<Q∧x/P+y % P*Q<4294967296:=by
 have hP:0<P:=by
  rcases Nat.eq_zero_or_pos P with e|e
  ·subst e;simp at hPQ
  ·exact e
 have h1:x/P<Q:=by rw[Nat.div_lt_iff_lt_mul hP,Nat.mul_comm,hPQ];exact hx
 have h2:(y % P+1)*Q≤P*Q:=Nat.mul_le_mul_right _ (Nat.mod_lt _ hP);rw[Nat.add_mul,hPQ] at h2;exact⟨h1,by omega⟩
theorem adm (x y pt:Nat)(hpt:pt<32)(hx:x<4294967296):bits .or .u32 ((x:Int)/2^pt) ((y:Int)*2^ (32-pt) % 4294967296)=((x/2^pt+y % 2^pt*2^ (32-pt):Nat):Int):=by
 have hPQ:2^pt*2^ (32-pt)=4294967296:=by rw[←Nat.pow_add,show pt+(32-pt)=32 from by omega]
 have hd:=I7 (y:=y) hPQ hx;have e1:(x:Int)/2^pt=((x/2^pt:Nat):Int):=by rw[Int.natCast_ediv,Int.natCast_pow];rfl
 have e2:(y:Int)*2^ (32-pt) % 4294967296=((y*2^ (32-pt) % 4294967296:Nat):Int):=by rw[Int.natCast_emod,Int.natCast_mul,Int.natCast_pow];rfl
 have e3:y*2^ (32-pt) % 4294967296=y % 2^pt*2^ (32-pt):=by rw[←hPQ,Nat.mul_mod_mul_right]
 rw[e1,e2,e3,u32_or_nat _ _ (by omega) (by omega),Nat.or_comm,nat_join (32-pt) _ _ (Nat.mul_mod_left _ _) hd.1];omega
theorem ui (l:List Nat)(a j:Nat):(l.drop a).getD j 0=l.getD (a+j) 0:=by
 simp[List.getD_eq_getElem?_getD,List.getElem?_drop]
def abK (xs ds:List Nat)(wh P Q k:Nat):Prop:=
 ds.length=xs.length-wh∧ ∀j,ds.getD j 0=if j<k then xs.getD (wh+j) 0/P+xs.getD (wh+j+1) 0 % P*Q else 0
def shN (N:Nat)(n:Int):Nat:=if n<0 then N/2^ (-n).toNat else N*2^n.toNat
theorem abX {a b:Int}(h:b≤a):decide (dm a b<0)=false:=by
 unfold dm;rw[if_neg (by omega)]
 by_cases h2:b<a
 ·rw[if_pos h2];rfl
 ·rw[if_neg h2];rfl
theorem am {B b:Nat}{w w1:World}(h:Below B w w1)(hb:B≤b)(x0 x1 x2:Value):Below B w (((w1.setCell ⟨b,0,none⟩ x0).setCell ⟨b,1,none⟩ x1).setCell ⟨b,2,none⟩ x2):=
 ((h.setCell (p:=⟨b,0,none⟩) hb x0).setCell (p:=⟨b,1,none⟩) hb x1).setCell (p:=⟨b,2,none⟩) hb x2
theorem CE (n:Nat)(i:Int)(h:0≤i):shN n i=n*2^i.toNat:=by
 unfold shN;rw[if_neg (by omega)]
theorem Ox {u v seg D E q:Nat}(_hE:0<E)(hseg:seg< (u+1)*E)(hD:v*E≤D)(hq:q*D≤seg):q*v≤u:=by
 have h1:q*v*E≤q*D:=by rw[Nat.mul_assoc];exact Nat.mul_le_mul_left _ hD
 have h2:q*v*E< (u+1)*E:=by omega
 have:=Nat.lt_of_mul_lt_mul_right h2;omega
theorem Oy {u v seg D E g:Nat}(hg:g*v≤u)(hgv:g≤v+1)(hseg:u*E≤seg)(hD:D≤(v+1)*E):(g-1)*D≤seg:=by
 have h1:(g-1)*D≤(g-1)*(v+1)*E:=by rw[Nat.mul_assoc];exact Nat.mul_le_mul_left _ hD
 have h2:(g-1)*(v+1)≤u:=by
  rcases Nat.eq_zero_or_pos g with e|e
  ·subst e;simp
  ·obtain⟨h,rfl⟩: ∃h,g=h+1:=⟨g-1,by omega⟩
   rw[Nat.add_sub_cancel];rw[Nat.add_mul] at hg;rw[Nat.mul_add];omega
 have h3:(g-1)*(v+1)*E≤u*E:=Nat.mul_le_mul_right _ h2;omega
def GsI (top d1 d0 p0 g r:Nat):Prop:=g*d1+r=top∧ ∀q,q*(d1*4294967296+d0)≤top*4294967296+p0→q<4294967296→q≤g
theorem Z1 (top d1 d0 p0:Nat)(h1:0<d1)(hp:p0<4294967296):GsI top d1 d0 p0 (top/d1) (top % d1):=by
 refine⟨by have:=Nat.div_add_mod top d1;rw[Nat.mul_comm] at this;exact this,fun q hq _=> ?_⟩
 have h2:q*d1≤top:=by
  rcases Nat.lt_or_ge top (q*d1) with h|h
  ·exfalso
   have h3:(top+1)*4294967296≤q*d1*4294967296:=Nat.mul_le_mul_right _ h;have h4:q*d1*4294967296≤q*(d1*4294967296+d0):=by rw[Nat.mul_assoc];exact Nat.mul_le_mul_left q (Nat.le_add_right _ _)
   omega
  ·exact h
 exact(Nat.le_div_iff_mul_le h1).2 h2
theorem S9 {top d1 d0 p0 g r:Nat}(h:GsI top d1 d0 p0 g r)(hg:0<g)(hc:4294967296≤g∨r*4294967296+p0<g*d0):GsI top d1 d0 p0 (g-1) (r+d1):=by
 obtain⟨h1,h2⟩:=h;obtain⟨k,rfl⟩: ∃k,g=k+1:=⟨g-1,by omega⟩;rw[Nat.add_sub_cancel];refine⟨by rw[Nat.add_mul] at h1;omega,fun q hq hqB=> ?_⟩
 have h3:=h2 q hq hqB
 rcases Nat.lt_or_ge k q with e|e
 ·exfalso
  have hqk:q=k+1:=by omega
  subst hqk
  rcases hc with hc|hc
  ·omega
  ·rw[←h1,Nat.mul_add] at hq
   rw[Nat.add_mul ((k+1)*d1)] at hq;rw[Nat.mul_assoc] at hq;omega
 ·exact e
theorem Z2 {top d1 d0 p0 g r:Nat}(h:GsI top d1 d0 p0 g r)(hc:g*d0≤r*4294967296+p0):g*(d1*4294967296+d0)≤top*4294967296+p0:=by
 rw[←h.1,Nat.mul_add,Nat.add_mul (g*d1),Nat.mul_assoc];omega
theorem Sd (c x s:Nat):((c:Int)+(x:Int)*(s:Int)) % 4294967296=(((c+x*s) % 4294967296:Nat):Int):=by rw[←Int.natCast_mul];omega
theorem Se (c x s:Nat):((c:Int)+(x:Int)*(s:Int))/4294967296=(((c+x*s)/4294967296:Nat):Int):=by rw[←Int.natCast_mul];omega
def msr (v:Value):Nat:=(intOf v).toNat
theorem Ap {x:Nat}(h:x<4294967296):(x:Int) % 4294967296=(x:Int):=by omega
theorem Mk {top d1 d0 p0 p1 p2 g r : Nat} (h : GsI top d1 d0 p0 g r) (hr : 4294967296 ≤ r) (_hd : 0 < d1) (ht : p2 * 4294967296 + p1 = top) (hle : p2 ≤ d1) (hp : p1 < 4294967296) (h0 : d0 < 4294967296) :
  g < 4294967296 ∧ g * (d1 * 4294967296 + d0) ≤ top * 4294967296 + p0 := by
 have hg : g < 4294967296 := by
  rcases Nat.lt_or_ge g 4294967296 with e | e
  ·exact e
  ·exfalso
   have h1 := h.1
   have h2 : 4294967296 * d1 ≤ g * d1 := Nat.mul_le_mul_right _ e
   omega
 refine ⟨hg, Z2 h ?_⟩
 have : g * d0 ≤ 4294967296 * 4294967296 := Nat.mul_le_mul (by omega) (by omega)
 omega
theorem adr {B X D i n:Nat}(hB:0<B)(hn:1≤n)(hX:X<D*B^ (i+1)):X/B^ (i+n)≤D/B^ (n-1):=by
 have e:i+n=(i+1)+(n-1):=by omega
 rw[e,Nat.pow_add,←Nat.div_div_eq_div_mul];apply Nat.div_le_div_right;have:=(Nat.div_lt_iff_lt_mul (Nat.pow_pos hB)).2 hX;omega
theorem aeU (B X m:Nat)(hB:0<B)(hX:X<B^ (m+3)):((X/B^ (m+2) % B)*B+X/B^ (m+1) % B)*B+X/B^m % B=X/B^m:=by
 have h1:X/B^ (m+1)=X/B^m/B:=by rw[Nat.pow_succ,Nat.div_div_eq_div_mul]
 have h2:X/B^ (m+2)=X/B^m/B/B:=by rw[show m+2=m+1+1 from rfl,Nat.pow_succ,←Nat.div_div_eq_div_mul,h1]
 have h3:X/B^ (m+2)<B:=by
  rw[Nat.div_lt_iff_lt_mul (Nat.pow_pos hB)];have:B^ (m+3)=B*B^ (m+2):=by rw[show m+3=m+2+1 from rfl,Nat.pow_succ,Nat.mul_comm]
  omega
 rw[Nat.mod_eq_of_lt h3,h2,h1];generalize X/B^m=u;have a1:=Nat.div_add_mod (u/B) B;have a2:=Nat.div_add_mod u B;rw[Nat.mul_comm (u/B/B) B,a1,Nat.mul_comm,a2]
theorem two (B D m:Nat)(hB:0<B)(hD:D<B^ (m+2)):(D/B^ (m+1) % B)*B+D/B^m % B=D/B^m:=by
 have h1:D/B^ (m+1)=D/B^m/B:=by rw[Nat.pow_succ,Nat.div_div_eq_div_mul]
 have h3:D/B^ (m+1)<B:=by
  rw[Nat.div_lt_iff_lt_mul (Nat.pow_pos hB)];have:B^ (m+2)=B*B^ (m+1):=by rw[show m+2=m+1+1 from rfl,Nat.pow_succ,Nat.mul_comm]
  omega
 rw[Nat.mod_eq_of_lt h3,h1];have a2:=Nat.div_add_mod (D/B^m) B;rw[Nat.mul_comm,a2]
theorem SF (x:Nat){E:Nat}(h:0<E):x< (x/E+1)*E:=by
 have h1:=Nat.div_add_mod x E;have h2:=Nat.mod_lt x h;rw[Nat.add_mul,Nat.one_mul,Nat.mul_comm];generalize x % E=r at*;omega
theorem NC {B X D i m g:Nat}(hB:0<B)(hX:X<D*B^ (i+1))(hD:B^ (m+1)≤D)(hg:g<B)
  (hlow: ∀k,k*(D/B^m)≤X/B^ (i+m)→k<B→k≤g) (hup:g*(D/B^m)≤X/B^ (i+m)):
  X/B^i/D<B∧(g=X/B^i/D∨g=X/B^i/D+1):=by
 have hE:0<B^m:=Nat.pow_pos hB;have hD0:0<D:=Nat.lt_of_lt_of_le (Nat.pow_pos hB) hD;have hqB:X/B^i/D<B:=by
  rw[Nat.div_lt_iff_lt_mul hD0,Nat.div_lt_iff_lt_mul (Nat.pow_pos hB),Nat.mul_assoc,Nat.mul_comm B,Nat.mul_assoc,←Nat.pow_succ];exact hX
 refine⟨hqB, ?_⟩;rw[Nat.pow_add,←Nat.div_div_eq_div_mul] at hlow hup;generalize hseg:X/B^i=seg at*;have hv1:D/B^m*B^m≤D:=Nat.div_mul_le_self D _;have hv2:D≤(D/B^m+1)*B^m:=by have:=SF D hE;omega
 have hu1:seg/B^m*B^m≤seg:=Nat.div_mul_le_self seg _;have hu2:seg< (seg/B^m+1)*B^m:=SF seg hE;have hvB:B≤D/B^m:=by
  rw[Nat.le_div_iff_mul_le hE,Nat.mul_comm,←Nat.pow_succ];exact hD
 have l1:=Ox hE hu2 hv1 (Nat.div_mul_le_self seg D);have l2:=hlow _ l1 hqB;have l3:=Oy hup (by omega) hu1 hv2;have l4:g-1≤seg/D:=(Nat.le_div_iff_mul_le hD0).2 l3;omega
theorem ND {X D i B:Nat}(hB:0<B)(hD:0<D):B^i*(D*(X/B^i/D))≤X∧X<B^i*(D*(X/B^i/D))+B^i*D:=by
 have hE:0<B^i:=Nat.pow_pos hB;have h1:=Nat.div_add_mod X (B^i);have h2:=Nat.div_add_mod (X/B^i) D;have h3:=Nat.mod_lt X hE;have h4:=Nat.mod_lt (X/B^i) hD;generalize X/B^i/D=q at*;generalize X/B^i % D=r2 at*;generalize X % B^i=r1 at*;generalize X/B^i=s at*;have h5:B^i*(D*q)≤B^i*s:=Nat.mul_le_mul_left _ (by omega);have h6:B^i*(s+1)≤B^i*(D*q+D):=Nat.mul_le_mul_left _ (by omega);rw[Nat.mul_add,Nat.mul_add,Nat.mul_one] at h6;omega
theorem QQ {X Z T a c x g q b:Nat}(h1:a≤X)(h2:X<a+c)(hx:x=a∨x=a+c)(hg:(x=a→g=q)∧(x=a+c→g=q+1))(hZ:Z+x=X+T*b)(hZl:Z<T)(hb:b≤1):
  (b=0→g=q∧Z+a=X)∧(b=1→g=q+1∧Z+(a+c)=X+T):=by
 constructor
 ·intro e
  subst e
  rcases hx with e|e
  ·exact⟨hg.1 e,by omega⟩
  ·omega
 ·intro e
  subst e
  rcases hx with e|e
  ·omega
  ·exact⟨hg.2 e,by omega⟩
theorem uB (y:Nat)(h:y≠0):1≤bitLen y∧2^ (bitLen y-1)≤y∧y<2^bitLen y:=by
 induction y using Nat.strongRecOn with
 |_ y ih=>
  rw[vC y h]
  by_cases h2:y/2=0
  ·have:y=1:=by omega
   subst this;simp[gP]
  ·have⟨a,b,c⟩:=ih (y/2) (by omega) h2
   refine⟨by omega, ?_, ?_⟩
   ·rw[show 1+bitLen (y/2)-1=(bitLen (y/2)-1)+1 from by omega,Nat.pow_succ];omega
   ·rw[Nat.add_comm,Nat.pow_succ];omega
theorem EP (n j:Nat):(List.replicate n 0).getD j 0=0:=by
 by_cases h:j<n
 ·simp[List.getD_eq_getElem?_getD,h]
 ·simp[List.getD_eq_getElem?_getD,h]
theorem Xx {a b:Int}(h:b≤a):decide (dm a b<0)=false:=by
 unfold dm;rw[if_neg (by omega)]
 by_cases h2:b<a
 ·rw[if_pos h2];rfl
 ·rw[if_neg h2];rfl
def dK (n:Int):Int:=if n<1∨8<n then 0 else if n≤3 then 1 else if n≤5 then 2 else 3
theorem O7 (w:World)(b o:Nat)(v:Value)(g i:Nat):(w.setCell ⟨b,o,none⟩ v).frozen? ⟨g,i,none⟩=w.frozen? ⟨g,i,none⟩:=
 World.frozen?_setCells b [v] o w ⟨g,i,none⟩
def jr (s:ByteArray):List Nat:=s.data.toList.map (fun b=>b.toNat)
def fU (zs:List Nat)(i:Nat):Nat:=zs.getD (i/8) 0/2^ (7-i % 8) % 2
def eH (zs:List Nat)(f:Nat):Nat→Nat
 |0=>0
 |n+1=>2*eH zs f n+fU zs (f+n)
theorem Cf (x r:Nat):x % 2*2^ (7-r)<256:=by
 have h1:(2:Nat)^ (7-r)≤2^7:=Nat.pow_le_pow_right (by omega) (by omega);have h2:=Nat.mod_lt x (show 0<2 by omega)
 have h3:x % 2*2^ (7-r)≤1*2^7:=Nat.mul_le_mul (by omega) h1;omega
theorem aaR (b y r:Nat)(hb:b<256)(hy:y<18446744073709551616):bits .or .u8 b (bits .and .u64 y 1 % 256*2^ (7-r) % 256)=((b|||y % 2*2^ (7-r):Nat):Int):=by
 have e2:=u64_and_nat y 1 hy (by omega);rw[Nat.and_one_is_mod] at e2;have h2:=Nat.mod_lt y (show 0<2 by omega)
 have h3:=Cf y r;have e3:(((y % 2:Nat):Int) % 256*2^ (7-r))=((y % 2*2^ (7-r):Nat):Int):=by
  rw[show((y % 2:Nat):Int) % 256=((y % 2:Nat):Int) from by omega]
  push_cast
  rfl
 rw[show 1=((1:Nat):Int) from rfl,e2,e3,show((y % 2*2^ (7-r):Nat):Int) % 256=((y % 2*2^ (7-r):Nat):Int) from by omega]
 exact u8_or_nat _ _ hb h3
def szN:Nat→Nat
 |1=>4|2=>8|3=>10|4=>4|5=>8|6=>4|7=>8|8=>8|_=>0
def exN:Nat→Nat
 |1=>8|2=>11|3=>15|4=>7|5=>7|6=>8|7=>8|8=>11|_=>0
def dgN:Nat→Nat
 |1=>24|2=>53|3=>64|4=>6|5=>14|6=>24|7=>56|8=>53|_=>0
def rdN:Nat→Nat
 |4=>16|5=>16|_=>2
def lsI:Nat→Int
 |1=> -149|2=> -1074|3=> -16445|4=> -70|5=> -78|6=> -151|7=> -183|8=> -1076|_=>0
def frN (k:Nat):Nat:=8*szN k-1-exN k
def kp (k:Nat):Nat:=2^exN k-1
def dh (k:Nat)(ng:Bool)(e f:Nat):Nat:=
 if k≤3 then(if e=0 then(if f=0 then 1 else 2) else if e=kp k then(if f=(if k=3 then 2^63 else 0) then 3 else 4) else if k=3∧f<2^63 then 4 else 2)
 else if k≤5 then(if f=0 then 1 else 2)
 else if e=0 then(if ng then 5 else 1) else 2
def xg (R:Int):Int:=if R=16 then 4 else 1
def ai (R:Int):Nat:=if R=16 then 4 else 1
theorem jf (R:Int):xg R=(ai R:Int):=by unfold xg ai;split<;>rfl
theorem eN (R:Int):1≤ai R∧ai R≤4:=by unfold ai;split<;>omega
theorem Qd (a:Int)(k:Nat)(hk:0<k):(a<a.tdiv k*k→a/(k:Int)=a.tdiv k-1)∧(¬a<a.tdiv k*k→a/(k:Int)=a.tdiv k):=by
 have e:=Int.tmod_add_mul_tdiv a k;have h1:a.tmod k<k:=Int.tmod_lt_of_pos a (by omega);have h2: -(k:Int)<a.tmod k:=by
  have h:=Int.tmod_lt_of_pos (-a) (b:=(k:Int)) (by omega);rw[Int.neg_tmod] at h;omega
 have e2:(k:Int)*a.tdiv k=a.tdiv k*k:=Int.mul_comm _ _;rw[e2] at e
 constructor
 ·intro h
  have h3:a=(a.tmod k+k)+(k:Int)*(a.tdiv k-1):=by
   rw[Int.mul_sub,e2];omega
  rw[h3,Int.add_mul_ediv_left _ _ (by omega),Int.ediv_eq_zero_of_lt (by omega) (by omega)];rw[←h3];omega
 ·intro h
  have h3:a=a.tmod k+(k:Int)*a.tdiv k:=by
   rw[e2];omega
  rw[h3,Int.add_mul_ediv_left _ _ (by omega),Int.ediv_eq_zero_of_lt (by omega) (by omega)];rw[←h3];omega
def eZ (N:Nat)(n:Int):Nat:=if n<0 then N else N*2^n.toNat
def dX (M:Nat)(n:Int):Nat:=if n<0 then M*2^ (-n).toNat else M
def dY (N M:Nat)(E:Int):Int:=
 E+(((bitLen N:Int)-(bitLen M:Int))-(if eZ N (-((bitLen N:Int)-(bitLen M:Int)))/dX M (-((bitLen N:Int)-(bitLen M:Int)))=0 then 1 else 0))
structure fz where
 s:Bool
 d:Nat
 p:Int
 ex:Bool
 ov:Bool
 un:Bool
theorem Bf {ex aw:Bool}(h: ¬(ex=false∧aw=true)):(ex=true∨aw=false)∧(!ex&&aw)=false:=by
 cases ex<;>cases aw<;>simp at h⊢
def tpT (T:ByteArray)(n:Nat):ByteArray:=if n<T.size then T.extract 0 n else T
def tpP (T:ByteArray)(n:Nat):ByteArray:=if 1<n then(tpT T n).extract 0 1++⟨#[46]⟩++(tpT T n).extract 1 (tpT T n).size else tpT T n
def tpG (g:Bool)(T:ByteArray)(n:Nat):ByteArray:=if g=true then(⟨#[45]⟩:ByteArray)++tpP T n else tpP T n
def tpS (g:Bool)(T:ByteArray)(n:Nat)(ia:ByteArray):ByteArray:=tpG g T n++⟨#[101]⟩++ia
def kt (k:Nat)(ng:Bool)(e f:Nat):Bool:=if dh k ng e f≤3 then ng else false
def dF (n:Int)(s:ByteArray):Int:=if dK n=0 then 6 else if s.size=szN n.toNat then 0 else 1
def wdI (R:Int):Int:=if R=16 then 4 else 1
def ji (k:Nat)(ng:Bool)(E FF:Nat):ak:=
 if k=3 then(if E+1=2^exN k∨0<E∧FF<2^ (dgN k-1) then⟨false,0,0⟩ else bare ⟨ng,FF,wdI (rdN k)*(lsI k+(((E-1:Nat):Nat):Int))⟩)
 else if k≤2 then(if E+1=2^exN k then⟨false,0,0⟩ else bare ⟨ng,FF+(if 0<E then 2^ (dgN k-1) else 0),wdI (rdN k)*(lsI k+(((E-1:Nat):Nat):Int))⟩)
 else if k≤5 then bare ⟨ng,FF,wdI (rdN k)*(lsI k+(E:Int))⟩
 else(if E=0 then⟨false,0,0⟩ else bare ⟨ng,FF+2^ (dgN k-1),wdI (rdN k)*(lsI k+(E:Int)-1)⟩)
def fT (n:Int):List ByteArray→Int
 | []=>0
 |p::ps=>if dF n p=0 then fT n ps else dF n p
def ut (J:Int)(N1 M1:Nat)(E1:Int)(N2 M2:Nat)(E2:Int):Prop:=
 ∀j,J≤j→eZ N1 (E1-j)/dX M1 (E1-j)=eZ N2 (E2-j)/dX M2 (E2-j)∧(eZ N1 (E1-j) % dX M1 (E1-j)=0↔eZ N2 (E2-j) % dX M2 (E2-j)=0)
theorem wp_yield {P:Program}{op:Oper}{a:Act}{w:World}{K:Act→World→Prop}{Q:Exit→Act→World→Prop}(v:Value)(hv:(execOp a.eval op).run P w= .ok (.value v) w)(h:K (a.put op.dst v) w):op.wp P a w K Q:=by
 unfold Oper.wp;rw[hv];exact h
end Go.Proofs.YtdhpndnncmagiaaGreatDoor

/-
  Texts laid together: Mem, Dz, Leaf, Div1, DivBy, Cmp, Ref2, Bits, Shift, Ref5, Dy1, Dy3, Dy4, Knuth, Read2, Back, Long0, Long, IntoM, Into0, Into1.
-/
import Derived.WalkKit
import Derived.WalkSpells
import Derived.Deep.QuietTactic
import Derived.BigQuiet
import Derived.Lib.TrailingZeros
import Derived.Test.YtiakgfmlpdfhdaaDoorChecked
import Derived.Handy
import Derived.Laws.CopyOwn
import Derived.BigRegion
import Derived.Deep.LoopGhost
import Derived.Deep.RegionLaw
import Derived.WalkSmall
import Derived.OpenShut
import Derived.Laws.MathBits
import Derived.Lib.BitFns
import Derived.Lib.Walk
import Derived.Lib.Small
import Derived.Shelf.Spec.TrailingZeros
import Derived.Deep.RegionHeld3
import Derived.Laws.ResultCell
import Derived.Deep.RegionWith
import Derived.Laws.OwnMore
import Derived.Deep.AppendLies
namespace Go.Proofs.YtiakgfmlpdfhdaaDoor
open Go.RowKit
theorem aL {w w1:World}{B:Nat}(h:Below B w w1)(n:Nat):Below B w (w1.drewN n):=⟨h.os,h.tape,h.output,h.size,h.block⟩
def tz (n:Nat):Nat:=Lib.ctzFrom n n
theorem fO {n:Nat}(h:n≠0): ∃m,n=2^tz n*(2*m+1):=by
 obtain⟨m,hm,_⟩:=Lib.ctzFrom_spec n n (by omega) Nat.lt_two_pow_self;exact⟨m,hm⟩
theorem Dh {t u m k:Nat}(h:2^t*(2*m+1)=2^u*(2*k+1)):t=u∧m=k:=by
 induction t generalizing u with
 |zero=>
  cases u with
  |zero=>simp at h;exact⟨rfl,by omega⟩
  |succ u=>rw[Nat.pow_succ,Nat.mul_comm _ 2,Nat.mul_assoc] at h;omega
 |succ t ih=>
  cases u with
  |zero=>rw[Nat.pow_succ,Nat.mul_comm _ 2,Nat.mul_assoc] at h;omega
  |succ u=>
   rw[Nat.pow_succ,Nat.mul_comm _ 2,Nat.mul_assoc,Nat.pow_succ,Nat.mul_comm (2^u) 2,Nat.mul_assoc] at h;have:=ih (u:=u) (by omega);exact⟨by omega,this.2⟩
theorem F8 {n t m:Nat}(h:n=2^t*(2*m+1)):tz n=t:=by
 have hn:n≠0:=by
  rw[h];exact Nat.ne_of_gt (Nat.mul_pos (Nat.pow_pos (by omega)) (by omega))
 obtain⟨k,hk⟩:=fO hn;exact(Dh (hk.symm.trans h)).1
def dm (a b:Int):Int:=if a<b then-1 else if b<a then 1 else 0
theorem KJ (hi lo:Nat)(h1:hi<4294967296)(h2:lo<4294967296):bits .or .u64 ((hi:Int)*4294967296) lo=((hi*4294967296+lo:Nat):Int):=by
 have e:((hi:Int)*4294967296)=((hi*4294967296:Nat):Int):=by omega
 rw[e,u64_or_nat _ _ (by omega) (by omega)];have:=nat_join 32 (hi*4294967296) lo (by omega) (by omega);rw[this]
theorem rO (b off j:Nat):(⟨b,off,none⟩:Addr).add j=⟨b,off+j,none⟩:=by
 simp only[Addr.add]
 split
 ·rename_i h;subst h;rfl
 ·rfl
theorem j9 (k:IntKind)(zs:List Nat)(j:Nat)(hj:j<zs.length):(zs.map (fun n:Nat=>Value.int k (n:Int)))[j]? =some (.int k ((zs.getD j 0:Nat):Int)):=by
 rw[List.getElem?_map,List.getElem?_eq_getElem hj];simp[List.getD_eq_getElem?_getD,hj]
theorem ib (w:World)(g:Option Nat):w.grownBy w g:=⟨rfl,rfl,rfl,Nat.le_refl _,fun _ _ _=>rfl⟩
theorem bI (w:World)(g j:Nat)(u:Value):w.grownBy (w.setCell ⟨g,j,none⟩ u) (some g):=
 ⟨rfl,rfl,rfl,by simp[World.setCell],fun k _ hk=>Below.heap_setCell w ⟨g,j,none⟩ u k (fun e=>hk (by rw[e]))⟩
theorem gX {a b:Int}(h:a<b):dm a b= -1:=by unfold dm;rw[if_pos h]
theorem sO {a b:Int}(h:b<a):dm a b=1:=by unfold dm;rw[if_neg (by omega),if_pos h]
theorem Bh (a:Int):dm a a=0:=by unfold dm;rw[if_neg (by omega),if_neg (by omega)]
theorem JJ (k:Nat):(65536:Nat)^ (2*k)=4294967296^k:=by rw[Nat.pow_mul]
theorem gP:bitLen 0=0:=rfl
theorem vC (x:Nat)(h:x≠0):bitLen x=1+bitLen (x/2):=by
 by_cases h1:x/2=0
 ·have:x=1:=by omega
  subst this;rfl
 ·exact bitLen_shift x 1 h1
theorem ac5 (x:Nat)(h:x<18446744073709551616):Lib.bitLen x=bitLen x:=by
 induction x using Nat.strongRecOn with
 |_ x ih=>
  by_cases h0:x=0
  ·subst h0;rfl
  ·rw[Lib.bitLen_half x h0 h,vC x h0,ih (x/2) (by omega) (by omega)]
theorem X4 (i:Nat)(h:i<Lib.len8tab.size):(Lib.len8tab[i]'h).toNat=bitLen i:=by
 have hs:=Lib.len8tab_size;have:=Lib.len8_eq ⟨i,by omega⟩;simp only[Lib.len8,Int.toNat_natCast] at this;rw[getElem?_pos Lib.len8tab i h] at this;simp only[Option.getD_some] at this;rw[ac5 i (by omega)] at this;omega
theorem qz (k q x:Nat)(h:bitLen x=k+bitLen q)(hq:q<256∧k≤24):RowKit.wrap64 ((k:Int)+RowKit.wrap64 ((bitLen q:Nat):Int))=((bitLen x:Nat):Int):=by
 have hb:=bitLen_le8 q hq.1;have e1:=IntWalk.wrap64_in ((bitLen q:Nat):Int) ⟨by omega,by omega⟩;rw[e1,IntWalk.wrap64_in _ ⟨by omega,by omega⟩,h];omega
theorem bF (x k:Nat)(h:x<2^k):bitLen x≤k:=by
 by_cases h0:x=0
 ·subst h0;rw[gP];omega
 ·have:=(bitLen_spec x).2 h0
  have:=(Nat.pow_lt_pow_iff_right (by omega:1<2)).1 (Nat.lt_of_le_of_lt this h);omega
def shN (N:Nat)(n:Int):Nat:=if n<0 then N/2^ (-n).toNat else N*2^n.toNat
theorem C8 {x y:Nat}(hx:x<65536)(hy:y<65536):x*y≤4294836225:=by
 have:=Nat.mul_le_mul (Nat.le_sub_one_of_lt hx) (Nat.le_sub_one_of_lt hy)
 simpa using this
theorem Ql (p c x y:Nat):((p:Int)+(c:Int)+(x:Int)*(y:Int)) % 65536=(((p+c+x*y) % 65536:Nat):Int):=by
 rw[←Int.natCast_mul];omega
theorem Qm (p c x y:Nat):((p:Int)+(c:Int)+(x:Int)*(y:Int))/65536=(((p+c+x*y)/65536:Nat):Int):=by
 rw[←Int.natCast_mul];omega
theorem abX {a b:Int}(h:b≤a):decide (dm a b<0)=false:=by
 unfold dm;rw[if_neg (by omega)]
 by_cases h2:b<a
 ·rw[if_pos h2];rfl
 ·rw[if_neg h2];rfl
theorem am {B b:Nat}{w w1:World}(h:Below B w w1)(hb:B≤b)(x0 x1 x2:Value):Below B w (((w1.setCell ⟨b,0,none⟩ x0).setCell ⟨b,1,none⟩ x1).setCell ⟨b,2,none⟩ x2):=
 ((h.setCell (p:=⟨b,0,none⟩) hb x0).setCell (p:=⟨b,1,none⟩) hb x1).setCell (p:=⟨b,2,none⟩) hb x2
theorem CE (n:Nat)(i:Int)(h:0≤i):shN n i=n*2^i.toNat:=by
 unfold shN;rw[if_neg (by omega)]
theorem Ox {u v seg D E q:Nat}(_hE:0<E)(hseg:seg< (u+1)*E)(hD:v*E≤D)(hq:q*D≤seg):q*v≤u:=by
 have h1:q*v*E≤q*D:=by rw[Nat.mul_assoc];exact Nat.mul_le_mul_left _ hD
 have h2:q*v*E< (u+1)*E:=by omega
 have:=Nat.lt_of_mul_lt_mul_right h2;omega
theorem Oy {u v seg D E g:Nat}(hg:g*v≤u)(hgv:g≤v+1)(hseg:u*E≤seg)(hD:D≤(v+1)*E):(g-1)*D≤seg:=by
 have h1:(g-1)*D≤(g-1)*(v+1)*E:=by rw[Nat.mul_assoc];exact Nat.mul_le_mul_left _ hD
 have h2:(g-1)*(v+1)≤u:=by
  rcases Nat.eq_zero_or_pos g with e|e
  ·subst e;simp
  ·obtain⟨h,rfl⟩: ∃h,g=h+1:=⟨g-1,by omega⟩
   rw[Nat.add_sub_cancel];rw[Nat.add_mul] at hg;rw[Nat.mul_add];omega
 have h3:(g-1)*(v+1)*E≤u*E:=Nat.mul_le_mul_right _ h2;omega
def GsI (top d1 d0 p0 g r:Nat):Prop:=g*d1+r=top∧ ∀q,q*(d1*4294967296+d0)≤top*4294967296+p0→q<4294967296→q≤g
theorem Z1 (top d1 d0 p0:Nat)(h1:0<d1)(hp:p0<4294967296):GsI top d1 d0 p0 (top/d1) (top % d1):=by
 refine⟨by have:=Nat.div_add_mod top d1;rw[Nat.mul_comm] at this;exact this,fun q hq _=> ?_⟩
 have h2:q*d1≤top:=by
  rcases Nat.lt_or_ge top (q*d1) with h|h
  ·exfalso
   have h3:(top+1)*4294967296≤q*d1*4294967296:=Nat.mul_le_mul_right _ h;have h4:q*d1*4294967296≤q*(d1*4294967296+d0):=by rw[Nat.mul_assoc];exact Nat.mul_le_mul_left q (Nat.le_add_right _ _)
   omega
  ·exact h
 exact(Nat.le_div_iff_mul_le h1).2 h2
theorem S9 {top d1 d0 p0 g r:Nat}(h:GsI top d1 d0 p0 g r)(hg:0<g)(hc:4294967296≤g∨r*4294967296+p0<g*d0):GsI top d1 d0 p0 (g-1) (r+d1):=by
 obtain⟨h1,h2⟩:=h;obtain⟨k,rfl⟩: ∃k,g=k+1:=⟨g-1,by omega⟩;rw[Nat.add_sub_cancel];refine⟨by rw[Nat.add_mul] at h1;omega,fun q hq hqB=> ?_⟩
 have h3:=h2 q hq hqB
 rcases Nat.lt_or_ge k q with e|e
 ·exfalso
  have hqk:q=k+1:=by omega
  subst hqk
  rcases hc with hc|hc
  ·omega
  ·rw[←h1,Nat.mul_add] at hq
   rw[Nat.add_mul ((k+1)*d1)] at hq;rw[Nat.mul_assoc] at hq;omega
 ·exact e
theorem Z2 {top d1 d0 p0 g r:Nat}(h:GsI top d1 d0 p0 g r)(hc:g*d0≤r*4294967296+p0):g*(d1*4294967296+d0)≤top*4294967296+p0:=by
 rw[←h.1,Nat.mul_add,Nat.add_mul (g*d1),Nat.mul_assoc];omega
theorem Sd (c x s:Nat):((c:Int)+(x:Int)*(s:Int)) % 4294967296=(((c+x*s) % 4294967296:Nat):Int):=by rw[←Int.natCast_mul];omega
theorem Se (c x s:Nat):((c:Int)+(x:Int)*(s:Int))/4294967296=(((c+x*s)/4294967296:Nat):Int):=by rw[←Int.natCast_mul];omega
def msr (v:Value):Nat:=(intOf v).toNat
theorem Ap {x:Nat}(h:x<4294967296):(x:Int) % 4294967296=(x:Int):=by omega
theorem Mk {top d1 d0 p0 p1 p2 g r:Nat}(h:GsI top d1 d0 p0 g r)(hr:4294967296≤r)(_hd:0<d1)(ht:p2*4294967296+p1=top)(hle:p2≤d1)(hp:p1<4294967296)(h0:d0<4294967296):
  g<4294967296∧g*(d1*4294967296+d0)≤top*4294967296+p0:=by
 have hg:g<4294967296:=by
  rcases Nat.lt_or_ge g 4294967296 with e|e
  ·exact e
  ·exfalso
   have h1:=h.1;have h2:4294967296*d1≤g*d1:=Nat.mul_le_mul_right _ e;omega
 refine⟨hg,Z2 h ?_⟩;have:g*d0≤4294967296*4294967296:=Nat.mul_le_mul (by omega) (by omega);omega
theorem ND {X D i B:Nat}(hB:0<B)(hD:0<D):B^i*(D*(X/B^i/D))≤X∧X<B^i*(D*(X/B^i/D))+B^i*D:=by
 have hE:0<B^i:=Nat.pow_pos hB;have h1:=Nat.div_add_mod X (B^i);have h2:=Nat.div_add_mod (X/B^i) D;have h3:=Nat.mod_lt X hE;have h4:=Nat.mod_lt (X/B^i) hD;generalize X/B^i/D=q at*;generalize X/B^i % D=r2 at*;generalize X % B^i=r1 at*;generalize X/B^i=s at*;have h5:B^i*(D*q)≤B^i*s:=Nat.mul_le_mul_left _ (by omega);have h6:B^i*(s+1)≤B^i*(D*q+D):=Nat.mul_le_mul_left _ (by omega);rw[Nat.mul_add,Nat.mul_add,Nat.mul_one] at h6;omega
theorem QQ {X Z T a c x g q b:Nat}(h1:a≤X)(h2:X<a+c)(hx:x=a∨x=a+c)(hg:(x=a→g=q)∧(x=a+c→g=q+1))(hZ:Z+x=X+T*b)(hZl:Z<T)(hb:b≤1):
  (b=0→g=q∧Z+a=X)∧(b=1→g=q+1∧Z+(a+c)=X+T):=by
 constructor
 ·intro e
  subst e
  rcases hx with e|e
  ·exact⟨hg.1 e,by omega⟩
  ·omega
 ·intro e
  subst e
  rcases hx with e|e
  ·omega
  ·exact⟨hg.2 e,by omega⟩
theorem uB (y:Nat)(h:y≠0):1≤bitLen y∧2^ (bitLen y-1)≤y∧y<2^bitLen y:=by
 induction y using Nat.strongRecOn with
 |_ y ih=>
  rw[vC y h]
  by_cases h2:y/2=0
  ·have:y=1:=by omega
   subst this;simp[gP]
  ·have⟨a,b,c⟩:=ih (y/2) (by omega) h2
   refine⟨by omega, ?_, ?_⟩
   ·rw[show 1+bitLen (y/2)-1=(bitLen (y/2)-1)+1 from by omega,Nat.pow_succ];omega
   ·rw[Nat.add_comm,Nat.pow_succ];omega
theorem Vm (l:List Nat)(k:Nat):(l.drop k).getD 0 0=l.getD k 0:=by
 simp[List.getD_eq_getElem?_getD]
theorem NG {b d N:Nat}(h1:N/b≤d)(h2:b*d≤N)(hb:0<b):d=N/b:=by
 have:d≤N/b:=by rw[Nat.le_div_iff_mul_le hb,Nat.mul_comm];exact h2
 omega
theorem QW {b d N:Nat}(h1:N/b≤d)(h2: ¬b*d≤N)(_hb:0<b):N/b+1≤d:=by
 rcases Nat.lt_or_ge (N/b) d with h|h
 ·exact h
 ·exfalso
  apply h2;have e:d=N/b:=by omega
  rw[e];exact Nat.mul_div_le N b
theorem kq {P:Program}{ops:Array Oper}{rest:List Oper}{o:Oper}{a:Act}{w:World}{Q:Exit→Act→World→Prop}(hgd:o.guard=none)(s x:Operand)(t:TypeId)
  (ho:o.op= .call {callee:= .builtin .append,args:= #[s,x],argTypes:= #[t,t]}) (v u v':Value) (w':World) (hs:a.eval s=v) (hx:a.eval x=u)
  (hr:(Builtin.append_ #[t,t] o.type #[v,u]).run P w= .ok v' w') (h:wpList P ops Q rest (a.put o.dst v') w'):wpList P ops Q (o::rest) a w:=by
 refine wpList_plain hgd fun K hK=> ?_
 unfold Oper.wp execOp;simp only[ho,resolve,invoke,builtin,Sem.run_bind,Sem.run_pure,Result.andThen_ok,List.map_toArray,List.map_cons,List.map_nil,hs,hx,hr];exact hK _ _ h
def sJ (rs:List Nat)(n:Nat):Nat→Nat
 |0=>0
 |j+1=>65536*sJ rs n j+rs.getD (n-j) 0
theorem Ti {a b:Int}(h:b≤a):decide (dm a b<0)=false:=by
 unfold dm;rw[if_neg (by omega)]
 by_cases h2:b<a
 ·rw[if_pos h2];rfl
 ·rw[if_neg h2];rfl
theorem Wn {a b:Int}(h:a≤b):dm a b≤0:=by
 unfold dm
 by_cases h1:a<b
 ·rw[if_pos h1];omega
 ·rw[if_neg h1,if_neg (by omega)];omega
end Go.Proofs.YtiakgfmlpdfhdaaDoor

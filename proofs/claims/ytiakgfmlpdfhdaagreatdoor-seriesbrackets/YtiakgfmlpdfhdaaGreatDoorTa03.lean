/-
  Texts laid together: Dz, Leaf, Div1, Ref2, Bits, Co9, Co6, Cr4, Dy5, Dy6, Bl6, Dk1, Bs1, Sm1, Dn1, Bm3, Sm2, Knuth, Read2, Back, Long0, Long, Long1, Sp1, Sp4, Sp7, Inv, BlN, Bl4, Sp8.
-/
import Derived.WalkKit
import Derived.WalkSpells
import Derived.Deep.QuietTactic
import Derived.BigQuiet
import Derived.Lib.TrailingZeros
import Derived.Test.YtiakgfmlpdfhdaaGreatDoorChecked
import Derived.Handy
import Derived.Laws.CopyOwn
import Derived.BigRegion
import Derived.Deep.LoopGhost
import Derived.Deep.RegionLaw
import Derived.WalkSmall
import Derived.OpenShut
import Derived.Laws.MathBits
import Derived.Lib.BitFns
import Derived.Lib.Walk
import Derived.Lib.Small
import Derived.Shelf.Spec.TrailingZeros
import Derived.Deep.RegionHeld3
import Derived.Deep.MidRow
import Derived.Deep.Cut
import Derived.Laws.IdiomStrings
import Derived.Laws.ResultCell
import Derived.ChangeMaps4
import Derived.Deep.DeepCutAuto
import Derived.OrdersHeld
import Derived.Deep.RegionWith
import Derived.Laws.OwnMore
import Derived.Deep.AppendLies
namespace Go.Proofs.YtiakgfmlpdfhdaaGreatDoor
open Go.RowKit
def sz (s:Bool)(n:Nat):Int:=if s then-(n:Int) else n
theorem lI {n t m:Nat}(h:n=2^t*(2*m+1)):n/2^t=2*m+1:=by
 rw[h,Nat.mul_div_cancel_left _ (Nat.pow_pos (by omega))]
theorem Y5 (s:Bool)(n k:Nat):sz s n*(k:Int)=sz s (n*k):=by
 unfold sz
 cases s<;>simp[Int.neg_mul]
theorem QI {s t:Bool}{n m:Nat}(h:sz s n=sz t m)(hn:n≠0):s=t∧n=m:=by
 unfold sz at h
 cases s<;>cases t<;>simp at h<;>first|exact⟨rfl,by omega⟩| (exfalso;omega)
theorem Y6 (s t:Bool)(x y:Nat):sz s x+sz t y=if s=t then sz s (x+y) else if x<y then sz t (y-x) else sz s (x-y):=by
 unfold sz
 cases s<;>cases t<;>simp<;>(try split)<;>omega
def sgn (z:Int):Int:=if z=0 then 0 else if z<0 then-1 else 1
def chk (zs:List Nat):Int:=if 0<zs.length∧zs.getD (zs.length-1) 0=0 then 1 else if 1200<zs.length then 2 else 0
theorem Oq {zs:List Nat}(h:0<zs.length)(hz:zs.getD (zs.length-1) 0=0):chk zs=1:=by unfold chk;rw[if_pos ⟨h,hz⟩]
theorem Ot {zs:List Nat}(hz:zs.getD (zs.length-1) 0≠0)(h:1200<zs.length):chk zs=2:=by unfold chk;rw[if_neg (fun c=>hz c.2),if_pos h]
theorem ZT {zs:List Nat}(hz:zs.getD (zs.length-1) 0≠0)(h: ¬1200<zs.length):chk zs=0:=by unfold chk;rw[if_neg (fun c=>hz c.2),if_neg h]
theorem I6 {t y:Nat}{hi lo:Nat}(h1:hi<y)(h2:lo<4294967296)(ht:t=hi*4294967296+lo):t/y<4294967296:=by
 rw[Nat.div_lt_iff_lt_mul (by omega)];have:(hi+1)*4294967296≤y*4294967296:=Nat.mul_le_mul_right _ h1;rw[Nat.mul_comm 4294967296 y];omega
theorem JJ (k:Nat):(65536:Nat)^ (2*k)=4294967296^k:=by rw[Nat.pow_mul]
theorem gP:bitLen 0=0:=rfl
theorem vC (x:Nat)(h:x≠0):bitLen x=1+bitLen (x/2):=by
 by_cases h1:x/2=0
 ·have:x=1:=by omega
  subst this;rfl
 ·exact bitLen_shift x 1 h1
theorem ac5 (x:Nat)(h:x<18446744073709551616):Lib.bitLen x=bitLen x:=by
 induction x using Nat.strongRecOn with
 |_ x ih=>
  by_cases h0:x=0
  ·subst h0;rfl
  ·rw[Lib.bitLen_half x h0 h,vC x h0,ih (x/2) (by omega) (by omega)]
theorem X4 (i:Nat)(h:i<Lib.len8tab.size):(Lib.len8tab[i]'h).toNat=bitLen i:=by
 have hs:=Lib.len8tab_size;have:=Lib.len8_eq ⟨i,by omega⟩;simp only[Lib.len8,Int.toNat_natCast] at this;rw[getElem?_pos Lib.len8tab i h] at this;simp only[Option.getD_some] at this;rw[ac5 i (by omega)] at this;omega
theorem qz (k q x:Nat)(h:bitLen x=k+bitLen q)(hq:q<256∧k≤24):RowKit.wrap64 ((k:Int)+RowKit.wrap64 ((bitLen q:Nat):Int))=((bitLen x:Nat):Int):=by
 have hb:=bitLen_le8 q hq.1;have e1:=IntWalk.wrap64_in ((bitLen q:Nat):Int) ⟨by omega,by omega⟩;rw[e1,IntWalk.wrap64_in _ ⟨by omega,by omega⟩,h];omega
theorem bF (x k:Nat)(h:x<2^k):bitLen x≤k:=by
 by_cases h0:x=0
 ·subst h0;rw[gP];omega
 ·have:=(bitLen_spec x).2 h0
  have:=(Nat.pow_lt_pow_iff_right (by omega:1<2)).1 (Nat.lt_of_le_of_lt this h);omega
def szN:Nat→Nat
 |1=>4|2=>8|3=>10|4=>4|5=>8|6=>4|7=>8|8=>8|_=>0
def exN:Nat→Nat
 |1=>8|2=>11|3=>15|4=>7|5=>7|6=>8|7=>8|8=>11|_=>0
def dgN:Nat→Nat
 |1=>24|2=>53|3=>64|4=>6|5=>14|6=>24|7=>56|8=>53|_=>0
def lsI:Nat→Int
 |1=> -149|2=> -1074|3=> -16445|4=> -70|5=> -78|6=> -151|7=> -183|8=> -1076|_=>0
def jr (s:ByteArray):List Nat:=s.data.toList.map (fun b=>b.toNat)
def fU (zs:List Nat)(i:Nat):Nat:=zs.getD (i/8) 0/2^ (7-i % 8) % 2
def wdI (R:Int):Int:=if R=16 then 4 else 1
def aS (xs:List Nat)(e:Int):Int:=if chk xs=0 then(if e< -20000∨20000<e then 3 else 0) else chk xs
def dQ (xs:List Nat)(e:Int)(ys:List Nat)(f:Int):Int:=if aS xs e=0 then aS ys f else aS xs e
theorem bL {xs:List Nat}{e:Int}(h:aS xs e=0):chk xs=0∧ -20000≤e∧e≤20000:=by
 unfold aS at h
 by_cases h1:chk xs=0
 ·rw[if_pos h1] at h
  by_cases h2:e< -20000∨20000<e
  ·rw[if_pos h2] at h;omega
  ·exact⟨h1,by omega,by omega⟩
 ·rw[if_neg h1] at h;exact absurd h h1
theorem iN {xs ys:List Nat}{e f:Int}(h:dQ xs e ys f=0):aS xs e=0∧aS ys f=0:=by
 unfold dQ at h
 by_cases h1:aS xs e=0
 ·rw[if_pos h1] at h;exact⟨h1,h⟩
 ·rw[if_neg h1] at h;exact absurd h h1
theorem aW {B b:Nat}{w w1:World}(h:Below B w w1)(hb:B≤b)(x0 x1 x2 x3 x4 x5:Value):Below B w ((((((w1.setCell ⟨b,0,none⟩ x0).setCell ⟨b,1,none⟩ x1).setCell ⟨b,2,none⟩ x2).setCell ⟨b,3,none⟩ x3).setCell ⟨b,4,none⟩ x4).setCell ⟨b,5,none⟩ x5):=
 ((((((h.setCell (p:=⟨b,0,none⟩) hb x0).setCell (p:=⟨b,1,none⟩) hb x1).setCell (p:=⟨b,2,none⟩) hb x2).setCell (p:=⟨b,3,none⟩) hb x3).setCell (p:=⟨b,4,none⟩) hb x4).setCell (p:=⟨b,5,none⟩) hb x5)
theorem Ad (q k:Nat)(h:q≠0):bitLen (2^k*q)=k+bitLen q:=by
 have hd:2^k*q/2^k=q:=Nat.mul_div_cancel_left q (Nat.pow_pos (by omega));have:=bitLen_shift (2^k*q) k (by rw[hd];exact h)
 rwa [hd] at this
theorem Dd {B b:Nat}{w w1:World}(h:Below B w w1)(hb:B≤b)(x0 x1 x2:Value):Below B w (((w1.setCell ⟨b,3,none⟩ x0).setCell ⟨b,4,none⟩ x1).setCell ⟨b,5,none⟩ x2):=
 (((h.setCell (p:=⟨b,3,none⟩) hb x0).setCell (p:=⟨b,4,none⟩) hb x1).setCell (p:=⟨b,5,none⟩) hb x2)
theorem two_div {nn t:Nat}(hn:4≤nn):2*(t/nn)≤t:=by
 have h1:t/nn≤t/4:=Nat.div_le_div_left hn (by omega);omega
theorem div_pair {t T D k:Nat}(hk:0<k)(h1:t*D≤T)(h2:T< (t+1)*D):t/k*D≤T/k∧T/k< (t/k+1)*D:=by
 have hD:0<D:=by
  rcases Nat.eq_zero_or_pos D with c|c
  ·subst c;simp at h2
  ·exact c
 constructor
 ·rw[Nat.le_div_iff_mul_le hk,Nat.mul_right_comm]
  exact Nat.le_trans (Nat.mul_le_mul_right _ (Nat.div_mul_le_self t k)) h1
 ·rw[Nat.div_lt_iff_lt_mul hk,Nat.mul_right_comm]
  refine Nat.lt_of_lt_of_le h2 (Nat.mul_le_mul_right _ ?_);have:=Nat.div_add_mod t k;have:=Nat.mod_lt t hk;rw[Nat.add_mul,Nat.mul_comm (t/k)];omega
theorem Nr {x y:Nat}(h:x≤y):bitLen x≤bitLen y:=bF x _ (Nat.lt_of_le_of_lt h (bitLen_spec y).1)
theorem Ak {m F E q b:Nat}(hm:m<2^b)(hq:2^b≤2*q)(h1:q*2^E<m*2^F)(h2:m*2^F< (q+1)*2^E):False:=by
 rcases Nat.lt_or_ge F E with h|h
 ·obtain⟨d,hd⟩: ∃d,E=F+1+d:=⟨E-F-1,by omega⟩
  subst hd;have hF:0<2^F:=Nat.pow_pos (by omega);have hd:1≤2^d:=Nat.pow_pos (by omega);have h3:m*2^F<2*q*2^F:=Nat.mul_lt_mul_of_pos_right (by omega) hF;have h4:2*q*2^F*1≤2*q*2^F*2^d:=Nat.mul_le_mul_left _ hd;have e:q*2^ (F+1+d)=2*q*2^F*2^d:=by
   rw[Nat.pow_add,Nat.pow_succ]
   ac_rfl
  omega
 ·obtain⟨d,hd⟩: ∃d,F=d+E:=⟨F-E,by omega⟩
  subst hd;rw[Nat.pow_add,←Nat.mul_assoc] at h1 h2;have h3:=Nat.lt_of_mul_lt_mul_right h1;have h4:=Nat.lt_of_mul_lt_mul_right h2;omega
theorem pow4_le (k:Nat)(n:Nat):2^k/n<4^ (k+1):=by
 have h:=Nat.div_le_self (2^k) n;have h1:(2:Nat)^k≤4^k:=Nat.pow_le_pow_left (by omega) k;have h2:(4:Nat)^ (k+1)=4^k*4:=Nat.pow_succ 4 k;have h3:0< (4:Nat)^k:=Nat.pow_pos (by omega);omega
def win (S:Nat):Nat→Nat→Bool
 |0,_=>true
 |k+1,p=>Nat.ble (2^ (p-32)) (S % 2^p)&&Nat.ble (S % 2^p+2^ (p-32)+1) (2^p)&&win S k (p+10)
theorem win_at (S:Nat): ∀k p j,win S k p=true→j<k→2^ (p+10*j-32)≤S % 2^ (p+10*j)∧S % 2^ (p+10*j)+2^ (p+10*j-32)<2^ (p+10*j):=by
 intro k
 induction k with
 |zero=>intro p j _ h;omega
 |succ k ih=>
  intro p j h hj;unfold win at h;simp only[Bool.and_eq_true,Nat.ble_eq] at h;obtain⟨⟨h1,h2⟩,h3⟩:=h
  cases j with
  |zero=>simp only[Nat.mul_zero,Nat.add_zero];exact⟨h1,by omega⟩
  |succ j=>
   have:=ih (p+10) j h3 (by omega)
   rwa [show p+10+10*j=p+10*(j+1) by omega] at this
theorem win_all {S L:Nat}(hL:1000≤L)(hw:win S 100 (10*((L-1000)/10))=true){b:Nat}(h1:10≤b)(h2:b≤1000)(hp:42≤L-b):
  ∃m,L-b≤m+41∧2^m≤S % 2^ (L-b)∧S % 2^ (L-b)+2^m<2^ (L-b):=by
 obtain⟨j,hj⟩: ∃j,j=(L-b)/10-(L-1000)/10:=⟨_,rfl⟩;have hj2:j<100:=by omega
 obtain⟨w1,w2⟩:=win_at S 100 _ j hw hj2;obtain⟨p0,hp0⟩: ∃p,p=10*((L-1000)/10)+10*j:=⟨_,rfl⟩;have e0:p0≤L-b∧L-b≤p0+9:=by omega
 rw[←hp0] at w1 w2;obtain⟨g,hg⟩: ∃g,L-b=p0+g:=⟨L-b-p0,by omega⟩;refine⟨p0-32,by omega, ?_, ?_⟩
 ·rw[hg,Nat.pow_add,Nat.mod_mul]
  omega
 ·rw[hg,Nat.pow_add,Nat.mod_mul]
  have h3:=Nat.mod_lt (S/2^p0) (show 0<2^g from Nat.pow_pos (by omega))
  have h4:2^p0*(S/2^p0 % 2^g)+2^p0≤2^p0*2^g:=by
   rw[←Nat.mul_succ];exact Nat.mul_le_mul_left _ h3
  omega
theorem cut_same {S L W w b lo hi dl:Nat}(hLl:2^ (L-1)≤S)(hLh:S<2^L)(hb:1≤b)(hbL:b<L)(hw:w≤W)(hq:W≤L-b+w){m:Nat}(m1:2^m≤S % 2^ (L-b))(m2:S % 2^ (L-b)+2^m<2^ (L-b))
  (s1:lo*2^ (W-w)≤S) (s2:S≤hi*2^ (W-w)) (hd:hi≤lo+dl) (hm:dl*2^ (W-w)≤2^m):
  ∃c,2^b≤2*c∧c<2^b∧c*2^ (L-b+w-W)≤lo∧hi< (c+1)*2^ (L-b+w-W)∧lo≤hi:=by
 obtain⟨D,hD⟩: ∃D,2^ (W-w)=D:=⟨_,rfl⟩;obtain⟨Q,hQ⟩: ∃Q,2^ (L-b+w-W)=Q:=⟨_,rfl⟩;have hD0:0<D:=by rw[←hD];exact Nat.pow_pos (by omega)
 have hP:2^ (L-b)=Q*D:=by rw[←hD,←hQ,←Nat.pow_add];congr 1;omega
 have hL2:2^L=2^b*(Q*D):=by rw[←hP,←Nat.pow_add];congr 1;omega
 have hL1:2^L=2*2^ (L-1):=by rw[←Nat.pow_succ'];congr 1;omega
 have hP0:0<Q*D:=by rw[←hP];exact Nat.pow_pos (by omega)
 rw[hD] at s1 s2 hm;rw[hP] at m1 m2;have hS:=Nat.div_add_mod S (Q*D);obtain⟨c,hc⟩: ∃c,S/(Q*D)=c:=⟨_,rfl⟩;rw[hc] at hS;rw[hQ];have hdl:hi*D≤lo*D+dl*D:=by rw[←Nat.add_mul];exact Nat.mul_le_mul_right _ hd
 refine⟨c, ?_, ?_, ?_, ?_, ?_⟩
 ·refine Nat.le_of_mul_le_mul_right (c:=Q*D) ?_ hP0
  rw[←hL2,hL1,Nat.mul_assoc];refine Nat.mul_le_mul_left 2 ?_;have h5:2^b*(Q*D)≤2*S:=by omega
  have h6:2*(c*(Q*D))+2*(Q*D)>2*S:=by
   have:=Nat.mod_lt S hP0;rw[Nat.mul_comm c];omega
  obtain⟨b',rfl⟩: ∃b',b=b'+1:=⟨b-1,by omega⟩;rw[Nat.pow_succ] at h5 hL2;have h7:2^b'*(Q*D)≤S:=by rw[Nat.mul_right_comm] at h5;omega
  have h8:2^b'≤c:=by rw[←hc,Nat.le_div_iff_mul_le hP0];exact h7
  have h9:2^ (L-1)=2^b'*(Q*D):=by rw[Nat.mul_right_comm] at hL2;omega
  rw[h9];exact Nat.mul_le_mul_right _ h8
 ·rw[←hc,Nat.div_lt_iff_lt_mul hP0,←hL2]
  exact hLh
 ·refine Nat.le_of_mul_le_mul_right (c:=D) ?_ hD0
  rw[Nat.mul_assoc,Nat.mul_comm c];omega
 ·refine Nat.lt_of_mul_lt_mul_right (a:=D) ?_
  rw[Nat.mul_assoc,Nat.add_mul,Nat.one_mul,Nat.mul_comm c];omega
 ·refine Nat.le_of_mul_le_mul_right (c:=D) ?_ hD0
  omega
theorem Ox {u v seg D E q:Nat}(_hE:0<E)(hseg:seg< (u+1)*E)(hD:v*E≤D)(hq:q*D≤seg):q*v≤u:=by
 have h1:q*v*E≤q*D:=by rw[Nat.mul_assoc];exact Nat.mul_le_mul_left _ hD
 have h2:q*v*E< (u+1)*E:=by omega
 have:=Nat.lt_of_mul_lt_mul_right h2;omega
theorem Oy {u v seg D E g:Nat}(hg:g*v≤u)(hgv:g≤v+1)(hseg:u*E≤seg)(hD:D≤(v+1)*E):(g-1)*D≤seg:=by
 have h1:(g-1)*D≤(g-1)*(v+1)*E:=by rw[Nat.mul_assoc];exact Nat.mul_le_mul_left _ hD
 have h2:(g-1)*(v+1)≤u:=by
  rcases Nat.eq_zero_or_pos g with e|e
  ·subst e;simp
  ·obtain⟨h,rfl⟩: ∃h,g=h+1:=⟨g-1,by omega⟩
   rw[Nat.add_sub_cancel];rw[Nat.add_mul] at hg;rw[Nat.mul_add];omega
 have h3:(g-1)*(v+1)*E≤u*E:=Nat.mul_le_mul_right _ h2;omega
theorem Sd (c x s:Nat):((c:Int)+(x:Int)*(s:Int)) % 4294967296=(((c+x*s) % 4294967296:Nat):Int):=by rw[←Int.natCast_mul];omega
theorem Se (c x s:Nat):((c:Int)+(x:Int)*(s:Int))/4294967296=(((c+x*s)/4294967296:Nat):Int):=by rw[←Int.natCast_mul];omega
def msr (v:Value):Nat:=(intOf v).toNat
theorem Ap {x:Nat}(h:x<4294967296):(x:Int) % 4294967296=(x:Int):=by omega
theorem adr {B X D i n:Nat}(hB:0<B)(hn:1≤n)(hX:X<D*B^ (i+1)):X/B^ (i+n)≤D/B^ (n-1):=by
 have e:i+n=(i+1)+(n-1):=by omega
 rw[e,Nat.pow_add,←Nat.div_div_eq_div_mul];apply Nat.div_le_div_right;have:=(Nat.div_lt_iff_lt_mul (Nat.pow_pos hB)).2 hX;omega
theorem aeU (B X m:Nat)(hB:0<B)(hX:X<B^ (m+3)):((X/B^ (m+2) % B)*B+X/B^ (m+1) % B)*B+X/B^m % B=X/B^m:=by
 have h1:X/B^ (m+1)=X/B^m/B:=by rw[Nat.pow_succ,Nat.div_div_eq_div_mul]
 have h2:X/B^ (m+2)=X/B^m/B/B:=by rw[show m+2=m+1+1 from rfl,Nat.pow_succ,←Nat.div_div_eq_div_mul,h1]
 have h3:X/B^ (m+2)<B:=by
  rw[Nat.div_lt_iff_lt_mul (Nat.pow_pos hB)];have:B^ (m+3)=B*B^ (m+2):=by rw[show m+3=m+2+1 from rfl,Nat.pow_succ,Nat.mul_comm]
  omega
 rw[Nat.mod_eq_of_lt h3,h2,h1];generalize X/B^m=u;have a1:=Nat.div_add_mod (u/B) B;have a2:=Nat.div_add_mod u B;rw[Nat.mul_comm (u/B/B) B,a1,Nat.mul_comm,a2]
theorem two (B D m:Nat)(hB:0<B)(hD:D<B^ (m+2)):(D/B^ (m+1) % B)*B+D/B^m % B=D/B^m:=by
 have h1:D/B^ (m+1)=D/B^m/B:=by rw[Nat.pow_succ,Nat.div_div_eq_div_mul]
 have h3:D/B^ (m+1)<B:=by
  rw[Nat.div_lt_iff_lt_mul (Nat.pow_pos hB)];have:B^ (m+2)=B*B^ (m+1):=by rw[show m+2=m+1+1 from rfl,Nat.pow_succ,Nat.mul_comm]
  omega
 rw[Nat.mod_eq_of_lt h3,h1];have a2:=Nat.div_add_mod (D/B^m) B;rw[Nat.mul_comm,a2]
theorem SF (x:Nat){E:Nat}(h:0<E):x< (x/E+1)*E:=by
 have h1:=Nat.div_add_mod x E;have h2:=Nat.mod_lt x h;rw[Nat.add_mul,Nat.one_mul,Nat.mul_comm];generalize x % E=r at*;omega
theorem NC {B X D i m g:Nat}(hB:0<B)(hX:X<D*B^ (i+1))(hD:B^ (m+1)≤D)(hg:g<B)
  (hlow: ∀k,k*(D/B^m)≤X/B^ (i+m)→k<B→k≤g) (hup:g*(D/B^m)≤X/B^ (i+m)):
  X/B^i/D<B∧(g=X/B^i/D∨g=X/B^i/D+1):=by
 have hE:0<B^m:=Nat.pow_pos hB;have hD0:0<D:=Nat.lt_of_lt_of_le (Nat.pow_pos hB) hD;have hqB:X/B^i/D<B:=by
  rw[Nat.div_lt_iff_lt_mul hD0,Nat.div_lt_iff_lt_mul (Nat.pow_pos hB),Nat.mul_assoc,Nat.mul_comm B,Nat.mul_assoc,←Nat.pow_succ];exact hX
 refine⟨hqB, ?_⟩;rw[Nat.pow_add,←Nat.div_div_eq_div_mul] at hlow hup;generalize hseg:X/B^i=seg at*;have hv1:D/B^m*B^m≤D:=Nat.div_mul_le_self D _;have hv2:D≤(D/B^m+1)*B^m:=by have:=SF D hE;omega
 have hu1:seg/B^m*B^m≤seg:=Nat.div_mul_le_self seg _;have hu2:seg< (seg/B^m+1)*B^m:=SF seg hE;have hvB:B≤D/B^m:=by
  rw[Nat.le_div_iff_mul_le hE,Nat.mul_comm,←Nat.pow_succ];exact hD
 have l1:=Ox hE hu2 hv1 (Nat.div_mul_le_self seg D);have l2:=hlow _ l1 hqB;have l3:=Oy hup (by omega) hu1 hv2;have l4:g-1≤seg/D:=(Nat.le_div_iff_mul_le hD0).2 l3;omega
theorem ND {X D i B:Nat}(hB:0<B)(hD:0<D):B^i*(D*(X/B^i/D))≤X∧X<B^i*(D*(X/B^i/D))+B^i*D:=by
 have hE:0<B^i:=Nat.pow_pos hB;have h1:=Nat.div_add_mod X (B^i);have h2:=Nat.div_add_mod (X/B^i) D;have h3:=Nat.mod_lt X hE;have h4:=Nat.mod_lt (X/B^i) hD;generalize X/B^i/D=q at*;generalize X/B^i % D=r2 at*;generalize X % B^i=r1 at*;generalize X/B^i=s at*;have h5:B^i*(D*q)≤B^i*s:=Nat.mul_le_mul_left _ (by omega);have h6:B^i*(s+1)≤B^i*(D*q+D):=Nat.mul_le_mul_left _ (by omega);rw[Nat.mul_add,Nat.mul_add,Nat.mul_one] at h6;omega
theorem QQ {X Z T a c x g q b:Nat}(h1:a≤X)(h2:X<a+c)(hx:x=a∨x=a+c)(hg:(x=a→g=q)∧(x=a+c→g=q+1))(hZ:Z+x=X+T*b)(hZl:Z<T)(hb:b≤1):
  (b=0→g=q∧Z+a=X)∧(b=1→g=q+1∧Z+(a+c)=X+T):=by
 constructor
 ·intro e
  subst e
  rcases hx with e|e
  ·exact⟨hg.1 e,by omega⟩
  ·omega
 ·intro e
  subst e
  rcases hx with e|e
  ·omega
  ·exact⟨hg.2 e,by omega⟩
theorem uB (y:Nat)(h:y≠0):1≤bitLen y∧2^ (bitLen y-1)≤y∧y<2^bitLen y:=by
 induction y using Nat.strongRecOn with
 |_ y ih=>
  rw[vC y h]
  by_cases h2:y/2=0
  ·have:y=1:=by omega
   subst this;simp[gP]
  ·have⟨a,b,c⟩:=ih (y/2) (by omega) h2
   refine⟨by omega, ?_, ?_⟩
   ·rw[show 1+bitLen (y/2)-1=(bitLen (y/2)-1)+1 from by omega,Nat.pow_succ];omega
   ·rw[Nat.add_comm,Nat.pow_succ];omega
theorem EP (n j:Nat):(List.replicate n 0).getD j 0=0:=by
 by_cases h:j<n
 ·simp[List.getD_eq_getElem?_getD,h]
 ·simp[List.getD_eq_getElem?_getD,h]
theorem big_pow {m k:Nat}(h:m≤(k+2)*2^k)(hk:k≤60000):m<2^ (k+16):=by
 refine Nat.lt_of_le_of_lt h ?_;rw[Nat.pow_add,Nat.mul_comm];exact Nat.mul_lt_mul_of_pos_left (by omega) (Nat.pow_pos (by omega))
def chkN (X:Nat):Bool:=Nat.ble 1110 (Nat.log2 X)&&Nat.ble (Nat.log2 X) 1121&&win X 100 (10*((Nat.log2 X+1-1000)/10))
theorem two_mono {a b:Nat}(h:a≤b):2^a≤2^b:=Nat.pow_le_pow_right (by omega) h
theorem chk_len {X:Nat}(h:chkN X=true): ∃L,1111≤L∧L≤1122∧L=Nat.log2 X+1∧2^ (L-1)≤X∧X<2^L∧win X 100 (10*((L-1000)/10))=true:=by
 unfold chkN at h;simp only[Bool.and_eq_true,Nat.ble_eq] at h;obtain⟨⟨h1,h2⟩,h3⟩:=h;have h0:X≠0:=by
  rintro rfl;simp at h1
 have l1:=Nat.log2_self_le h0;have l2:=Nat.lt_log2_self (n:=X);exact⟨Nat.log2 X+1,by omega,by omega,rfl,l1,l2,h3⟩
theorem to_nat {lo hi:Int}{D X dl:Nat}(h2:(X:Int)≤hi*(D:Int))(hd:hi≤lo+(dl:Int))(hX:dl*D<X):0≤lo:=by
 by_cases c:lo<0
 ·have h3:hi*(D:Int)≤(dl:Int)*(D:Int):=Int.mul_le_mul_of_nonneg_right (by omega) (Int.natCast_nonneg D)
  rw[←Int.natCast_mul] at h3;omega
 ·omega
def left (listed:Array Bool):Nat:=(listed.toList.filter (fun b=> !b)).length
theorem Gt {listed:Array Bool}{i:Nat}(hi:listed[i]? =some false):left (listed.setIfInBounds i true)+1=left listed:=by
 unfold left;obtain⟨l⟩:=listed;simp only[List.setIfInBounds_toArray,List.getElem?_toArray] at hi⊢
 induction l generalizing i with
 |nil=>simp at hi
 |cons b l ih=>
  cases i with
  |zero=>
   simp only[List.getElem?_cons_zero,Option.some.injEq] at hi;subst hi;simp
  |succ i=>
   simp only[List.getElem?_cons_succ] at hi;have:=ih hi
   cases b<;>simp at this⊢ <;>omega
theorem xF {md:Region.Mode}{ops:Array Oper}{listed:Array Bool}{i:Nat}(h:i∈Region.ready md ops listed):listed[i]? =some false:=by
 have:=(mem_ready.1 h).1;simp only[Array.getD_eq_getD_getElem?] at this
 cases hc:listed[i]? with
 |none=>rw[hc] at this;simp at this
 |some b=>rw[hc] at this;simp at this;rw[this]
theorem CH {md:Region.Mode}{ops:Array Oper}{listed:Array Bool}(h:left listed=0):Region.ready md ops listed=[]:=by
 rcases hr:Region.ready md ops listed with _| ⟨i,r⟩
 ·rfl
 ·exfalso
  have h1:=Gt (xF (md:=md) (ops:=ops) (i:=i) (by rw[hr];simp));omega
theorem iX {P:Program}{md:Region.Mode}{ops:Array Oper}{Q:Exit→Act→World→Prop}(I:Array Bool→Act→World→Prop)(L:Array Bool)(n:Nat)(hn:left L=n)
  (hend: ∀a w,I L a w→wpAny P md ops Q n L a w)
  (hstep: ∀listed a w,I listed a w→listed≠L→Region.ready md ops listed≠[]∧ ∀i∈Region.ready md ops listed,wpOp P ops Q i (fun a' w'=>I (listed.setIfInBounds i true) a' w') a w):
  ∀fuel listed a w,left listed=fuel→I listed a w→wpAny P md ops Q fuel listed a w
 |0,listed,a,w,hf,h=>by
  by_cases hL:listed=L
  ·subst hL
   have:n=0:=by omega
   subst this;exact hend a w h
  ·exact absurd (CH hf) (hstep listed a w h hL).1
 |fuel+1,listed,a,w,hf,h=>by
  by_cases hL:listed=L
  ·subst hL
   have:n=fuel+1:=by omega
   subst this;exact hend a w h
  ·obtain⟨h1,h2⟩:=hstep listed a w h hL
   exact⟨fun h0=>absurd h0 h1,fun i hi=>wpOp_mono (fun a' w' h'=>iX I L n hn hend hstep fuel _ a' w' (by have:=Gt (xF hi);omega) h') (h2 i hi)⟩
theorem aI {P:Program}{ops:Array Oper}{Q:Exit→Act→World→Prop}{i:Nat}{J:Act→World→Prop}{a:Act}{w:World}{o:Oper}(ho:ops[i]? =some o)(hw:Region.wanted o (yielded ops a.tmps)=true)
  (h: ∀K:Act→World→Prop,Hid (∀a' w',J a' w'→K a' w')→o.wp P a w K Q):wpOp P ops Q i J a w:=by
 unfold wpOp;rw[ho];simp only[hw,if_true];exact .inl (h J (fun _ _ h=>h))
theorem eY {P:Program}{md:Region.Mode}{ops:Array Oper}{Q:Exit→Act→World→Prop}{fuel i:Nat}{listed:Array Bool}{a:Act}{w:World}(h:Region.ready md ops listed=[i])
  (h2:wpOp P ops Q i (wpAny P md ops Q fuel (listed.setIfInBounds i true)) a w):wpAny P md ops Q (fuel+1) listed a w:=
 And.intro (fun h0=>by rw[h] at h0;exact absurd h0 (by simp)) (fun j hj=>by
  rw[h,List.mem_singleton] at hj;subst hj;exact h2)
theorem jP {P:Program}{md:Region.Mode}{ops:Array Oper}{Q:Exit→Act→World→Prop}{listed:Array Bool}{a:Act}{w:World}(h:Region.ready md ops listed=[])(h2:Q .normal a w):wpAny P md ops Q 0 listed a w:=⟨h,h2⟩
theorem aE {md:Region.Mode}{ops:Array Oper}{listed:Array Bool}{i d:Nat}{o:Oper}(ho:ops[i]? =some o)(hd:o.after.any (fun e=>Region.binds md e&&e.on==d)=true)(h:i∈Region.ready md ops listed):listed.getD d false=true:=by
 obtain⟨_,o',ho',hall⟩:=mem_ready.1 h;rw[ho] at ho'
 cases ho'
 rw[Array.any_eq_true] at hd;obtain⟨k,hk,he⟩:=hd;simp only[Bool.and_eq_true,beq_iff_eq] at he;have:=hall _ (Array.getElem_mem hk) he.1
 rwa [he.2] at this
theorem pE {md:Region.Mode}{ops:Array Oper}{listed:Array Bool}{i:Nat}(h:i∈Region.ready md ops listed):i<ops.size:=by
 obtain⟨_,o',ho',_⟩:=mem_ready.1 h;exact(Array.getElem?_eq_some_iff.1 ho').1
theorem aM {md:Region.Mode}{ops:Array Oper}{listed:Array Bool}{j:Nat}{o:Oper}(h:Region.ready md ops listed=[])(ho:ops[j]? =some o)
  (hall:(o.after.all fun e=> !Region.binds md e||listed.getD e.on false)=true):listed.getD j true=true:=by
 cases hc:listed.getD j true with
 |true=>rfl
 |false=>
  exfalso
  have:j∈Region.ready md ops listed:=by
   refine mem_ready.2 ⟨hc,o,ho,fun e he hb=> ?_⟩
   have:=Array.all_eq_true_iff_forall_mem.1 hall e he
   simpa[hb] using this
  rw[h] at this
  cases this
def Vr (n:Int):Int:=if n<1∨4096<n then 3 else 0
def kj (n c:Int):Int:=if c=0 then Vr n else c
def four' {α:Type}(a b c d:α):Nat→α
 |0=>a
 |1=>b
 |2=>c
 |_=>d
end Go.Proofs.YtiakgfmlpdfhdaaGreatDoor

/-
  Texts laid together: Long0, Long, Long1, Long2.
-/
import Derived.Test.YtpainhklfoaniaaGreatDoorSc13
import Derived.Test.YtpainhklfoaniaaGreatDoorSc05
set_option maxRecDepth 100000
set_option maxHeartbeats 3200000
namespace Go.Proofs.YtpainhklfoaniaaGreatDoor
open _root_.Go.Proofs.Tryz
open Go.RowKit
theorem CG (B:Nat)(l:List Nat)(j:Nat)(hB:0<B)(hs:Dg.Small B l):l.getD j 0=Dg.vl B l/B^j % B:=by
 by_cases h:j<l.length
 ·have h1:=Dg.vl_split B l j h
  have h2:=Dg.vl_lt B (l.take j) (Dg.small_take hs j hB);rw[List.length_take,Nat.min_eq_left (by omega)] at h2;rw[h1,Nat.add_mul_div_left _ _ (Nat.pow_pos hB),Nat.div_eq_of_lt h2,Nat.zero_add,Nat.add_mul_mod_self_left];exact(Nat.mod_eq_of_lt (hs j)).symm
 ·rw[Dg.getD_of_le l j (by omega)]
  have h2:=Dg.vl_lt B l hs;have h3:B^l.length≤B^j:=Nat.pow_le_pow_right hB (by omega);rw[Nat.div_eq_of_lt (by omega),Nat.zero_mod]
theorem Dk (B:Nat)(l:List Nat)(m:Nat)(hB:0<B)(hs:Dg.Small B l)(hz: ∀j,m≤j→l.getD j 0=0):Dg.vl B l<B^m:=by
 by_cases h:m≤l.length
 ·rw[Dg.vl_take_drop B l m h]
  have h1:Dg.vl B (l.drop m)=0:=Dg.vl_zeros B _ (fun i=>by
   have:=hz (m+i) (by omega)
   simpa[List.getD_eq_getElem?_getD,List.getElem?_drop] using this)
  have h2:=Dg.vl_lt B (l.take m) (Dg.small_take hs m hB);rw[List.length_take,Nat.min_eq_left h] at h2;rw[h1,Nat.mul_zero,Nat.add_zero];exact h2
 ·have h2:=Dg.vl_lt B l hs
  have h3:B^l.length≤B^m:=Nat.pow_le_pow_right hB (by omega);omega
theorem NB (B:Nat)(l:List Nat)(m:Nat)(hB:0<B)(hs:Dg.Small B l)(h:Dg.vl B l<B^m)(j:Nat)(hj:m≤j):l.getD j 0=0:=by
 rw[CG B l j hB hs];have h3:B^m≤B^j:=Nat.pow_le_pow_right hB hj;rw[Nat.div_eq_of_lt (by omega),Nat.zero_mod]
theorem adr {B X D i n:Nat}(hB:0<B)(hn:1≤n)(hX:X<D*B^ (i+1)):X/B^ (i+n)≤D/B^ (n-1):=by
 have e:i+n=(i+1)+(n-1):=by omega
 rw[e,Nat.pow_add,←Nat.div_div_eq_div_mul];apply Nat.div_le_div_right;have:=(Nat.div_lt_iff_lt_mul (Nat.pow_pos hB)).2 hX;omega
theorem aeU (B X m:Nat)(hB:0<B)(hX:X<B^ (m+3)):((X/B^ (m+2) % B)*B+X/B^ (m+1) % B)*B+X/B^m % B=X/B^m:=by
 have h1:X/B^ (m+1)=X/B^m/B:=by rw[Nat.pow_succ,Nat.div_div_eq_div_mul]
 have h2:X/B^ (m+2)=X/B^m/B/B:=by rw[show m+2=m+1+1 from rfl,Nat.pow_succ,←Nat.div_div_eq_div_mul,h1]
 have h3:X/B^ (m+2)<B:=by
  rw[Nat.div_lt_iff_lt_mul (Nat.pow_pos hB)];have:B^ (m+3)=B*B^ (m+2):=by rw[show m+3=m+2+1 from rfl,Nat.pow_succ,Nat.mul_comm]
  omega
 rw[Nat.mod_eq_of_lt h3,h2,h1];generalize X/B^m=u;have a1:=Nat.div_add_mod (u/B) B;have a2:=Nat.div_add_mod u B;rw[Nat.mul_comm (u/B/B) B,a1,Nat.mul_comm,a2]
theorem two (B D m:Nat)(hB:0<B)(hD:D<B^ (m+2)):(D/B^ (m+1) % B)*B+D/B^m % B=D/B^m:=by
 have h1:D/B^ (m+1)=D/B^m/B:=by rw[Nat.pow_succ,Nat.div_div_eq_div_mul]
 have h3:D/B^ (m+1)<B:=by
  rw[Nat.div_lt_iff_lt_mul (Nat.pow_pos hB)];have:B^ (m+2)=B*B^ (m+1):=by rw[show m+2=m+1+1 from rfl,Nat.pow_succ,Nat.mul_comm]
  omega
 rw[Nat.mod_eq_of_lt h3,h1];have a2:=Nat.div_add_mod (D/B^m) B;rw[Nat.mul_comm,a2]
theorem SF (x:Nat){E:Nat}(h:0<E):x< (x/E+1)*E:=by
 have h1:=Nat.div_add_mod x E;have h2:=Nat.mod_lt x h;rw[Nat.add_mul,Nat.one_mul,Nat.mul_comm];generalize x % E=r at*;omega
theorem NC {B X D i m g:Nat}(hB:0<B)(hX:X<D*B^ (i+1))(hD:B^ (m+1)≤D)(hg:g<B)
  (hlow: ∀k,k*(D/B^m)≤X/B^ (i+m)→k<B→k≤g) (hup:g*(D/B^m)≤X/B^ (i+m)):
  X/B^i/D<B∧(g=X/B^i/D∨g=X/B^i/D+1):=by
 have hE:0<B^m:=Nat.pow_pos hB;have hD0:0<D:=Nat.lt_of_lt_of_le (Nat.pow_pos hB) hD;have hqB:X/B^i/D<B:=by
  rw[Nat.div_lt_iff_lt_mul hD0,Nat.div_lt_iff_lt_mul (Nat.pow_pos hB),Nat.mul_assoc,Nat.mul_comm B,Nat.mul_assoc,←Nat.pow_succ];exact hX
 refine⟨hqB, ?_⟩;rw[Nat.pow_add,←Nat.div_div_eq_div_mul] at hlow hup;generalize hseg:X/B^i=seg at*;have hv1:D/B^m*B^m≤D:=Nat.div_mul_le_self D _;have hv2:D≤(D/B^m+1)*B^m:=by have:=SF D hE;omega
 have hu1:seg/B^m*B^m≤seg:=Nat.div_mul_le_self seg _;have hu2:seg< (seg/B^m+1)*B^m:=SF seg hE;have hvB:B≤D/B^m:=by
  rw[Nat.le_div_iff_mul_le hE,Nat.mul_comm,←Nat.pow_succ];exact hD
 have l1:=Ox hE hu2 hv1 (Nat.div_mul_le_self seg D);have l2:=hlow _ l1 hqB;have l3:=Oy hup (by omega) hu1 hv2;have l4:g-1≤seg/D:=(Nat.le_div_iff_mul_le hD0).2 l3;omega
theorem ND {X D i B:Nat}(hB:0<B)(hD:0<D):B^i*(D*(X/B^i/D))≤X∧X<B^i*(D*(X/B^i/D))+B^i*D:=by
 have hE:0<B^i:=Nat.pow_pos hB;have h1:=Nat.div_add_mod X (B^i);have h2:=Nat.div_add_mod (X/B^i) D;have h3:=Nat.mod_lt X hE;have h4:=Nat.mod_lt (X/B^i) hD;generalize X/B^i/D=q at*;generalize X/B^i % D=r2 at*;generalize X % B^i=r1 at*;generalize X/B^i=s at*;have h5:B^i*(D*q)≤B^i*s:=Nat.mul_le_mul_left _ (by omega);have h6:B^i*(s+1)≤B^i*(D*q+D):=Nat.mul_le_mul_left _ (by omega);rw[Nat.mul_add,Nat.mul_add,Nat.mul_one] at h6;omega
theorem QQ {X Z T a c x g q b:Nat}(h1:a≤X)(h2:X<a+c)(hx:x=a∨x=a+c)(hg:(x=a→g=q)∧(x=a+c→g=q+1))(hZ:Z+x=X+T*b)(hZl:Z<T)(hb:b≤1):
  (b=0→g=q∧Z+a=X)∧(b=1→g=q+1∧Z+(a+c)=X+T):=by
 constructor
 ·intro e
  subst e
  rcases hx with e|e
  ·exact⟨hg.1 e,by omega⟩
  ·omega
 ·intro e
  subst e
  rcases hx with e|e
  ·omega
  ·exact⟨hg.2 e,by omega⟩
theorem QR {R cur ys:List Nat}{i g b q X D:Nat}(hT:acc R cur ys i g b)(sR:Dg.Small 4294967296 R)(hX:Dg.vl 4294967296 R=X)(hD:Dg.vl 4294967296 ys=D)(hD0:0<D)(hDl:D<4294967296^ys.length)
  (hl:X<D*4294967296^ (i+1)) (hq:X/4294967296^i/D=q) (hg:g=q∨g=q+1):
  (b=0→g=q∧Dg.vl 4294967296 cur+4294967296^i*(D*q)=X∧Dg.vl 4294967296 cur<D*4294967296^i)∧
  (b=1→g=q+1∧ ∀(cur':List Nat) (o:Nat),Py cur cur' ys i o→Dg.vl 4294967296 cur'+4294967296^i*(D*q)=X∧Dg.vl 4294967296 cur'<D*4294967296^i):=by
 have hXT:X<4294967296^ (i+ys.length+1):=by
  have e1:D*4294967296^ (i+1)≤4294967296^ys.length*4294967296^ (i+1):=Nat.mul_le_mul_right _ (by omega);rw[←Nat.pow_add,show ys.length+(i+1)=i+ys.length+1 from by omega] at e1
  omega
 have hzR: ∀j,i+ys.length+1≤j→R.getD j 0=0:=fun j hj=>NB 4294967296 R _ (by omega) sR (by rw[hX];exact hXT) j hj
 obtain⟨t1,t2,t3,t4,t5⟩:=hT;have hzc: ∀j,i+ys.length+1≤j→cur.getD j 0=0:=fun j hj=>by rw[t3 j (by omega)];exact hzR j hj
 have hcl:=Dk 4294967296 cur _ (by omega) t2 hzc;have hb:=ND (X:=X) (D:=D) (i:=i) (B:=4294967296) (by omega) hD0;rw[hq] at hb;rw[hX,hD] at t5;have e3:4294967296^i*(D*(q+1))=4294967296^i*(D*q)+4294967296^i*D:=by rw[Nat.mul_add,Nat.mul_one,Nat.mul_add]
 have e4:4294967296^i*D≤4294967296^ (i+ys.length+1):=by
  have e1:4294967296^i*D≤4294967296^i*4294967296^ys.length:=Nat.mul_le_mul_left _ (by omega);rw[←Nat.pow_add] at e1;have e2:(4294967296:Nat)^ (i+ys.length)≤4294967296^ (i+ys.length+1):=Nat.pow_le_pow_right (by omega) (by omega);omega
 have e5:D*4294967296^i=4294967296^i*D:=Nat.mul_comm _ _;have hc0:0<4294967296^i*D:=Nat.mul_pos (Nat.pow_pos (by omega)) hD0;have hx:4294967296^i*(D*g)=4294967296^i*(D*q)∨4294967296^i*(D*g)=4294967296^i*(D*q)+4294967296^i*D:=by
  rcases hg with e|e
  ·left;rw[e]
  ·right;rw[e,e3]
 have hgq:(4294967296^i*(D*g)=4294967296^i*(D*q)→g=q)∧(4294967296^i*(D*g)=4294967296^i*(D*q)+4294967296^i*D→g=q+1):=by
  constructor
  ·intro e
   rcases hg with h|h
   ·exact h
   ·rw[h,e3] at e;omega
  ·intro e
   rcases hg with h|h
   ·rw[h] at e;omega
   ·exact h
 have hw:=QQ hb.1 hb.2 hx hgq t5 hcl t4;rw[e5];have hb2:=hb.2;have hb1:=hb.1;refine⟨fun h0=> ?_,fun h1=> ?_⟩
 ·have:=hw.1 h0
  exact⟨this.1,this.2,by omega⟩
 ·have h2:=hw.2 h1
  refine⟨h2.1,fun cur' o hB=> ?_⟩
  obtain⟨b1,b2,b3,b4,b5⟩:=hB;have hzc': ∀j,i+ys.length+1≤j→cur'.getD j 0=0:=fun j hj=>by rw[b3 j (by omega)];exact hzc j hj
  have hcl':=Dk 4294967296 cur' _ (by omega) b2 hzc';rw[hD] at b5;have h3:=h2.2;have ho:o=0∨o=1:=by omega
  clear hw hx hgq t5 hzR hzc hzc' t1 t2 t3 b1 b2 b3 h2 hl hXT
  rcases ho with ho|ho
  ·subst ho
   rw[Nat.mul_zero] at b5;omega
  ·subst ho
   rw[Nat.mul_one] at b5;omega
theorem Own.other {w w':World}{base e:Nat}{k:IntKind}{b g n cap:Nat}{zs:List Nat}(h:Own w base e k (.slice (some ⟨b,0,none⟩) n cap) zs)(hg:w.grownBy w' (some g))(hne:b≠g):Own w' base e k (.slice (some ⟨b,0,none⟩) n cap) zs:=by
 have hb:=h.block;obtain⟨hl,h2⟩:=h;refine⟨hl, ?_⟩
 rcases h2 with h2| ⟨g',cap',cur,hv,hbg,hh,r⟩
 ·exact .inl h2
 ·refine .inr ⟨g',cap',cur,hv,hbg, ?_,r⟩
  simp at hv;rw[hg.block g' (by omega) (by intro e;cases e;omega)]
  exact hh
theorem Own.form {w:World}{base e:Nat}{k:IntKind}{v:Value}{zs:List Nat}(h:Own w base e k v zs)(hp:0<zs.length): ∃g cap,v= .slice (some ⟨g,0,none⟩) zs.length cap∧base≤g∧g<w.heap.size∧zs.length≤cap:=by
 have h0:=h;obtain⟨hl,h2⟩:=h
 rcases h2 with⟨_,h2⟩| ⟨g',cap',cur,rfl,hbg,hh,r⟩
 ·omega
 ·exact⟨g',cap',rfl,hbg,h0.block.2,r.1⟩
theorem uB (y:Nat)(h:y≠0):1≤bitLen y∧2^ (bitLen y-1)≤y∧y<2^bitLen y:=by
 induction y using Nat.strongRecOn with
 |_ y ih=>
  rw[vC y h]
  by_cases h2:y/2=0
  ·have:y=1:=by omega
   subst this;simp[gP]
  ·have⟨a,b,c⟩:=ih (y/2) (by omega) h2
   refine⟨by omega, ?_, ?_⟩
   ·rw[show 1+bitLen (y/2)-1=(bitLen (y/2)-1)+1 from by omega,Nat.pow_succ];omega
   ·rw[Nat.add_comm,Nat.pow_succ];omega
theorem V7 (ys:List Nat)(s:Nat)(sb:Dg.Small 4294967296 ys)(nb:Dg.Norm ys)(hn:2≤ys.length)(hs:s=32-bitLen (ys.getD (ys.length-1) 0)):
  s<32∧2147483648*4294967296^ (ys.length-1)≤Dg.vl 4294967296 ys*2^s∧Dg.vl 4294967296 ys*2^s<4294967296^ys.length:=by
 have hy0:ys.getD (ys.length-1) 0≠0:=nb (by intro e;rw[e] at hn;simp at hn);have hyl:=sb (ys.length-1);have hsp:=Dg.vl_split 4294967296 ys (ys.length-1) (by omega);have hlo:=Dg.vl_lt 4294967296 (ys.take (ys.length-1)) (Dg.small_take sb _ (by omega));rw[List.length_take,Nat.min_eq_left (by omega)] at hlo;rw[show ys.length-1+1=ys.length from by omega,List.drop_length] at hsp
 simp only[Dg.vl,Nat.mul_zero,Nat.add_zero] at hsp;generalize ys.getD (ys.length-1) 0=y at*;generalize Dg.vl 4294967296 (ys.take (ys.length-1))=lo at*;have⟨h1,h2,h3⟩:=uB y hy0;have h4:=bF y 32 (by omega);have e1:2^ (bitLen y-1)*2^s=2147483648:=by rw[←Nat.pow_add,show bitLen y-1+s=31 from by omega]
 have e2:2^bitLen y*2^s=4294967296:=by rw[←Nat.pow_add,show bitLen y+s=32 from by omega]
 have e3:(4294967296:Nat)^ys.length=4294967296^ (ys.length-1)*4294967296:=by rw[←Nat.pow_succ,show(ys.length-1).succ=ys.length from by omega]
 have a1:2^ (bitLen y-1)*2^s≤y*2^s:=Nat.mul_le_mul_right _ h2;have a2:(y+1)*2^s≤2^bitLen y*2^s:=Nat.mul_le_mul_right _ h3;refine⟨by omega, ?_, ?_⟩
 ·rw[hsp,Nat.add_mul,Nat.mul_assoc]
  have:4294967296^ (ys.length-1)*2147483648≤4294967296^ (ys.length-1)*(y*2^s):=Nat.mul_le_mul_left _ (by omega);rw[Nat.mul_comm 2147483648];omega
 ·rw[hsp,e3]
  have b1:(lo+4294967296^ (ys.length-1)*y)<4294967296^ (ys.length-1)*(y+1):=by rw[Nat.mul_add,Nat.mul_one];omega
  have b2:(lo+4294967296^ (ys.length-1)*y)*2^s<4294967296^ (ys.length-1)*(y+1)*2^s:=Nat.mul_lt_mul_of_pos_right b1 (Nat.pow_pos (by omega));rw[Nat.mul_assoc (4294967296^ (ys.length-1)) (y+1)] at b2;have b3:4294967296^ (ys.length-1)*((y+1)*2^s)≤4294967296^ (ys.length-1)*4294967296:=Nat.mul_le_mul_left _ (by omega);omega
theorem V8 (n D:Nat)(hn:1≤n)(h1:4294967296^ (n-1)≤D)(h2:D<4294967296^n):(Dg.dg 4294967296 D).length=n:=by
 have a:=Dg.dg_len_le 4294967296 D n (by omega) h2;have b:=Dg.vl_lt 4294967296 _ (Dg.small_dg 4294967296 D (by omega));rw[Dg.vl_dg 4294967296 D (by omega)] at b;have c:n-1< (Dg.dg 4294967296 D).length:=by
  rcases Nat.lt_or_ge (n-1) (Dg.dg 4294967296 D).length with e|e
  ·exact e
  ·have:=Nat.pow_le_pow_right (n:=4294967296) (by omega) e
   omega
 omega
theorem RI (X na s:Nat)(h:X<4294967296^na)(hs:s<32):(Dg.dg 4294967296 (X*2^s)).length≤na+1:=by
 apply Dg.dg_len_le 4294967296 _ _ (by omega);have h1:2^s≤4294967296:=by have:2^s≤2^32:=Nat.pow_le_pow_right (by omega) (by omega);omega
 rw[Nat.pow_succ];have h2:X*2^s<4294967296^na*2^s:=Nat.mul_lt_mul_of_pos_right h (Nat.pow_pos (by omega));have h3:4294967296^na*2^s≤4294967296^na*4294967296:=Nat.mul_le_mul_left _ h1;omega
def Jm (A D M:Nat)(R os:List Nat)(N k:Nat):Prop:=
 R.length=N∧os.length=M∧Dg.Small 4294967296 R∧Dg.Small 4294967296 os∧(∀j,j<k→os.getD j 0=0)∧D*Dg.vl 4294967296 os+Dg.vl 4294967296 R=A∧Dg.vl 4294967296 R<D*4294967296^k
def ae2 (w:World)(A D M N gr go gb cb:Nat)(bs:List Nat)(iv:Value)(wr:World):Prop:=
 ∃(k:Nat) (R os:List Nat),k≤M∧iv=yi ((k:Int)-1)∧Jm A D M R os N k∧Own wr w.heap.size 108 .u32 (.slice (some ⟨gr,0,none⟩) N N) R∧Own wr w.heap.size 108 .u32 (.slice (some ⟨go,0,none⟩) M M) os∧
  Own wr w.heap.size 108 .u32 (.slice (some ⟨gb,0,none⟩) bs.length cb) bs∧yB w wr
def Two (w:World)(q r:Nat)(e:Ending)(w':World):Prop:=
 ∃v1 v2,e= .returned (.tuple #[v1,v2])∧Own w' w.heap.size 108 .u32 v1 (Dg.dg 4294967296 q)∧Own w' w.heap.size 108 .u32 v2 (Dg.dg 4294967296 r)∧yB w w'
theorem Pi {A D M N i nn:Nat}{R os bs:List Nat}(h:Jm A D M R os N (i+1))(sb:Dg.Small 4294967296 bs)(hbs:Dg.vl 4294967296 bs=D)(hn:2≤nn)(hD1:2147483648*4294967296^ (nn-1)≤D)(hD2:D<4294967296^nn):
  2147483648≤bs.getD (nn-1) 0∧R.getD (i+nn) 0≤bs.getD (nn-1) 0∧
  ∀g,g<4294967296→(∀k,k*(bs.getD (nn-1) 0*4294967296+bs.getD (nn-2) 0)≤(R.getD (i+nn) 0*4294967296+R.getD (i+(nn-1)) 0)*4294967296+R.getD (i+(nn-2)) 0→k<4294967296→k≤g)→
   g*(bs.getD (nn-1) 0*4294967296+bs.getD (nn-2) 0)≤(R.getD (i+nn) 0*4294967296+R.getD (i+(nn-1)) 0)*4294967296+R.getD (i+(nn-2)) 0→
   Dg.vl 4294967296 R/4294967296^i/D<4294967296∧(g=Dg.vl 4294967296 R/4294967296^i/D∨g=Dg.vl 4294967296 R/4294967296^i/D+1):=by
 obtain⟨-,-,sR,-,-,-,hX⟩:=h;obtain⟨m,rfl⟩: ∃m,nn=m+2:=⟨nn-2,by omega⟩;have hB:(0:Nat)<4294967296:=by omega
 rw[show m+2-1=m+1 from rfl] at*
 rw[show m+2-2=m from rfl]
 have d1:bs.getD (m+1) 0=D/4294967296^ (m+1) % 4294967296:=by rw[CG 4294967296 bs (m+1) hB sb,hbs]
 have d0:bs.getD m 0=D/4294967296^m % 4294967296:=by rw[CG 4294967296 bs m hB sb,hbs]
 have p2:=CG 4294967296 R (i+(m+2)) hB sR;have p1:=CG 4294967296 R (i+(m+1)) hB sR;have p0:=CG 4294967296 R (i+m) hB sR;have hXl:Dg.vl 4294967296 R<4294967296^ (i+m+3):=by
  have e1:D*4294967296^ (i+1)≤4294967296^ (m+2)*4294967296^ (i+1):=Nat.mul_le_mul_right _ (Nat.le_of_lt hD2);rw[←Nat.pow_add,show m+2+(i+1)=i+m+3 from by omega] at e1
  exact Nat.lt_of_lt_of_le hX e1
 have tp:=adr (n:=m+2) hB (by omega) hX;rw[show m+2-1=m+1 from rfl] at tp
 have hDt:D/4294967296^ (m+1)<4294967296:=by
  rw[Nat.div_lt_iff_lt_mul (Nat.pow_pos hB),Nat.mul_comm,←Nat.pow_succ];exact hD2
 have t3:=aeU 4294967296 (Dg.vl 4294967296 R) (i+m) hB hXl;have t2:=two 4294967296 D m hB hD2;rw[d1,d0,p2,p1,p0];rw[show i+(m+2)=i+m+2 from by omega] at tp⊢
 rw[show i+(m+1)=i+m+1 from by omega]
 refine⟨?_, ?_, ?_⟩
 ·rw[Nat.mod_eq_of_lt hDt,Nat.le_div_iff_mul_le (Nat.pow_pos hB)]
  exact hD1
 ·rw[Nat.mod_eq_of_lt hDt]
  exact Nat.le_trans (Nat.mod_le _ _) tp
 ·rw[t3,t2]
  intro g hg hlow hup;refine NC hB hX ?_ hg hlow hup;have e1:1*4294967296^ (m+1)≤2147483648*4294967296^ (m+1):=Nat.mul_le_mul_right _ (by omega);rw[Nat.one_mul] at e1;exact Nat.le_trans e1 hD1
theorem Iv {A D M N i q:Nat}{R os cur:List Nat}(h:Jm A D M R os N (i+1))(hi:i<M)(hq:q<4294967296)(hl:cur.length=R.length)(sc:Dg.Small 4294967296 cur)
  (hv:Dg.vl 4294967296 cur+4294967296^i*(D*q)=Dg.vl 4294967296 R) (hlt:Dg.vl 4294967296 cur<D*4294967296^i):Jm A D M cur (os.set i q) N i:=by
 obtain⟨h1,h2,h3,h4,h5,h6,h7⟩:=h;refine⟨by omega,by simpa using h2,sc,Dg.small_set h4 _ _ hq,fun j hj=> ?_, ?_,hlt⟩
 ·rw[Dg.getD_set _ _ _ _ (by omega),if_neg (by omega)];exact h5 j (by omega)
 ·have hs:=Dg.vl_set 4294967296 os i q (by omega)
  rw[h5 i (by omega),Nat.mul_zero,Nat.add_zero] at hs;rw[hs,Nat.mul_add,←h6,←hv];have e:D*(4294967296^i*q)=4294967296^i*(D*q):=by rw[←Nat.mul_assoc,←Nat.mul_assoc,Nat.mul_comm D]
  rw[e];omega
theorem acV (l:List Nat)(n:Nat):Dg.vl 4294967296 (l++List.replicate n 0)=Dg.vl 4294967296 l:=by
 rw[Dg.vl_append,Dg.vl_zeros 4294967296 (List.replicate n 0) (fun i=>by
  by_cases h:i<n
  ·simp[List.getD_eq_getElem?_getD,h]
  ·simp[List.getD_eq_getElem?_getD,h]),Nat.mul_zero,Nat.add_zero]
theorem TM {l m:List Nat}(h:Dg.Small 4294967296 l)(k:Dg.Small 4294967296 m):Dg.Small 4294967296 (l++m):=by
 intro i
 by_cases hi:i<l.length
 ·have:=h i
  simpa[List.getD_eq_getElem?_getD,List.getElem?_append_left hi] using this
 ·have:=k (i-l.length)
  simpa[List.getD_eq_getElem?_getD,List.getElem?_append_right (Nat.le_of_not_lt hi)] using this
theorem CV (n:Nat):Dg.Small 4294967296 (List.replicate n 0):=by
 intro i
 by_cases h:i<n
 ·simp[List.getD_eq_getElem?_getD,h]
 ·simp[List.getD_eq_getElem?_getD,h]
theorem EP (n j:Nat):(List.replicate n 0).getD j 0=0:=by
 by_cases h:j<n
 ·simp[List.getD_eq_getElem?_getD,h]
 ·simp[List.getD_eq_getElem?_getD,h]
theorem Pj {X na nn s D:Nat}{az:List Nat}(haz:Dg.dg 4294967296 (X*2^s)=az)(hal:az.length≤na+1)(hX:X<4294967296^na)(hs:s<32)(hn:1≤nn)(hle:nn≤na+1)(hD1:2147483648*4294967296^ (nn-1)≤D):
  Jm (X*2^s) D (na+1-nn) (az++(List.replicate (na+1) 0).drop az.length) (List.replicate (na+1-nn) 0) (na+1) (na+1-nn):=by
 have sz:Dg.Small 4294967296 az:=by rw[←haz];exact Dg.small_dg _ _ (by omega)
 have hv:Dg.vl 4294967296 (az++(List.replicate (na+1) 0).drop az.length)=X*2^s:=by
  rw[List.drop_replicate,acV,←haz,Dg.vl_dg _ _ (by omega)]
 refine⟨by simp;omega,by simp, ?_,CV _,fun j _=>EP _ j, ?_, ?_⟩
 ·rw[List.drop_replicate]
  exact TM sz (CV _)
 ·rw[hv,Dg.vl_zeros _ _ (EP _),Nat.mul_zero,Nat.zero_add]
 ·rw[hv]
  have e1:2147483648*4294967296^ (nn-1)*4294967296^ (na+1-nn)≤D*4294967296^ (na+1-nn):=Nat.mul_le_mul_right _ hD1;rw[Nat.mul_assoc,←Nat.pow_add,show nn-1+(na+1-nn)=na from by omega] at e1
  have e2:X*2^s<4294967296^na*2^s:=Nat.mul_lt_mul_of_pos_right hX (Nat.pow_pos (by omega));have e3:4294967296^na*2^s≤4294967296^na*2^31:=Nat.mul_le_mul_left _ (Nat.pow_le_pow_right (by omega) (by omega));rw[show(2:Nat)^31=2147483648 from rfl,Nat.mul_comm _ 2147483648] at e3
  omega
theorem Xs {X Y s M N:Nat}{R os:List Nat}(hY:0<Y)(h:Jm (X*2^s) (Y*2^s) M R os N 0):Dg.vl 4294967296 os=X/Y∧Dg.vl 4294967296 R/2^s=X % Y:=by
 obtain⟨-,-,-,-,-,h6,h7⟩:=h;rw[Nat.pow_zero,Nat.mul_one] at h7;have hp:0<2^s:=Nat.pow_pos (by omega);have hD:0<Y*2^s:=Nat.mul_pos hY hp;have e1:X*2^s/(Y*2^s)=Dg.vl 4294967296 os:=by
  rw[←h6,Nat.mul_add_div hD,Nat.div_eq_of_lt h7,Nat.add_zero]
 have e2:X*2^s % (Y*2^s)=Dg.vl 4294967296 R:=by
  rw[←h6,Nat.mul_add_mod,Nat.mod_eq_of_lt h7]
 rw[Nat.mul_div_mul_right _ _ hp] at e1;rw[Nat.mul_mod_mul_right] at e2;refine⟨e1.symm, ?_⟩;rw[←e2,Nat.mul_div_cancel _ hp]
theorem JS (va vb:Value)(xs ys:List Nat)(w:World)(ha:Rd w .u32 va xs)(hb:Rd w .u32 vb ys)(sa:Dg.Small 4294967296 xs)(sb:Dg.Small 4294967296 ys)(nb:Dg.Norm ys)(hn:2≤ys.length)(hle:ys.length≤xs.length)(hla:xs.length≤900000):
  yC 162 #[va,vb] w (Two w (Dg.vl 4294967296 xs/Dg.vl 4294967296 ys) (Dg.vl 4294967296 xs % Dg.vl 4294967296 ys)):=by
 obtain⟨i0,hi,hz0,hz1,hz2⟩:=info_parts Tryz.infoU32;have hsz:(Tryz.prog.info? 108).map (·.size)=some 1:=by rw[hi];simp[hz1]
 obtain⟨s,hs⟩: ∃s,32-bitLen (ys.getD (ys.length-1) 0)=s:=⟨_,rfl⟩;obtain⟨hs32,hD1,hD2⟩:=V7 ys s sb nb hn hs.symm;have hlz:=XC (ys.getD (ys.length-1) 0) w (sb _);rw[hs] at hlz;have hrb:=vO vb ys s 0 s (2^s) w hb sb (by omega) (by omega) hs32 rfl (by omega) (by intro e;rw[e] at hn;simp at hn);have HRA:Hid (∀w1,yB w w1→yC 146 #[va,yi s] w1 (Num w1 (Dg.vl 4294967296 xs*2^s))):=fun w1 b1=>
  vO va xs s 0 s (2^s) w1 (ha.l b1) sa (by omega) (by omega) hs32 rfl (by omega) (by intro e;rw[e] at hle;have h0:ys.length≤0:=hle;omega)
 obtain⟨ao,ca,rfl⟩:=ha.shape;obtain⟨bo,cb,rfl⟩:=hb.shape;obtain⟨-,-,hcb⟩:=iQ hb;obtain⟨bb,boff,rfl,hcell⟩:=hcb (by omega);have hy:=hcell (ys.length-1) (by omega);have hyl:=sb (ys.length-1);have n1:((ys.length:Int)-1)=((ys.length-1:Nat):Int):=by omega
 have hvx:=Dg.vl_lt 4294967296 xs sa;obtain⟨X,hX⟩: ∃X,Dg.vl 4294967296 xs=X:=⟨_,rfl⟩;obtain⟨Y,hY⟩: ∃Y,Dg.vl 4294967296 ys=Y:=⟨_,rfl⟩;rw[hX] at HRA hvx⊢;rw[hY] at hrb hD1 hD2⊢;obtain⟨nn,hnn⟩: ∃nn,ys.length=nn:=⟨_,rfl⟩;obtain⟨na,hna⟩: ∃na,xs.length=na:=⟨_,rfl⟩;obtain⟨y,hyy⟩: ∃y,ys.getD (ys.length-1) 0=y:=⟨_,rfl⟩;rw[hyy] at hlz hy hyl;rw[hnn] at hD1 hD2 hrb hy n1 hn hle⊢;rw[hna] at HRA hle hla hvx⊢;have HD1:Hid (2147483648*4294967296^ (nn-1)≤Y*2^s):=hD1;have HD2:Hid (Y*2^s<4294967296^nn):=hD2;have HVX:Hid (X<4294967296^na):=hvx;clear ha hb sa sb nb hs hcb hcell hX hY hnn hna hyy hD1 hD2 hvx
 go_enter func162,ntmps162
 go_wp2_with fail
 refine hlz.mono ?_;rintro e w' ⟨rfl,rfl⟩;clear hlz
 go_wp2_with fail
 refine hrb.mono ?_;rintro e w1 ⟨vby,rfl,ownb,bel1⟩;clear hrb;have hDl:(Dg.dg 4294967296 (Y*2^s)).length=nn:=V8 nn _ (by omega) (by have:=HD1.out;omega) HD2.out;obtain⟨gb,cby,rfl,hgb1,hgb2,hcby⟩:=ownb.form (by omega);rw[hDl] at ownb hcby⊢;obtain⟨bs,hbs⟩: ∃bs,Dg.dg 4294967296 (Y*2^s)=bs:=⟨_,rfl⟩;rw[hbs] at ownb hDl
 go_wp2_with (at_make;refine wpList_make_full _ rfl _ _ 106 rfl w1.heap.size 108 i0 (.int .u32 0) 1 underlying106 hi hz0 hz1 _ _ _ _ (na+1) rfl rfl (by omega) (by omega) ?b2 ?b3 (Nat.le_refl _) ?_)
 case b2=>rw[hz2];omega
 case b3=>unfold maxLen;omega
 intro w2 hown2 hgrow2;have own2:=gL hown2;have bel2:yB w1 w2:=(Below.refl _ _).grown hgrow2 (Nat.le_refl _) (fun k h=>by cases h)
 clear hown2 hgrow2
 go_wp2_with fail
 refine(HRA.out w2 (aa bel1 bel2)).mono ?_;rintro e w3 ⟨vra,rfl,owna,bel3⟩;obtain⟨az,haz⟩: ∃az,Dg.dg 4294967296 (X*2^s)=az:=⟨_,rfl⟩;rw[haz] at owna;have hal:az.length≤na+1:=by rw[←haz];exact RI X na s HVX.out hs32
 have rda:=owna.rd;obtain⟨ara,cra,rfl⟩:=rda.shape;have own3:=own2.l bel3;obtain⟨w4,hrun,own4,gr4⟩:=Nw 106 106 3 underlying106 hsz own3 rda (by simpa using hal);have b12:=aa bel1 bel2;have b13:=aa b12 bel3;have bel4:Below w'.heap.size w' w4:=b13.grown gr4 b13.size (fun k hk=>by cases hk;exact bel1.size)
 have ownb4:=((ownb.l bel2).l bel3).other gr4 (by omega);have own4:=own4.lower bel1.size;clear own3 rda owna HRA own2 ownb hsz
 go_wp2_with (at_make;refine wpList_make_full _ rfl _ _ 106 rfl w4.heap.size 108 i0 (.int .u32 0) 1 underlying106 hi hz0 hz1 _ _ _ _ (na+1-nn) rfl rfl ?b0 ?b1 ?b2 ?b3 (Nat.le_refl _) ?_)
 case b0=>omega
 case b1=>omega
 case b2=>rw[hz2];omega
 case b3=>unfold maxLen;omega
 intro w5 hown5 hgrow5;have own5:=gL hown5;have bel5:yB w4 w5:=(Below.refl _ _).grown hgrow5 (Nat.le_refl _) (fun k h=>by cases h)
 have ownr5:=own4.l bel5;have ownb5:=ownb4.l bel5;have belw:=aa bel4 bel5;have hb14:w1.heap.size<w4.heap.size:=own4.block.2;have hbw1:w'.heap.size≤w1.heap.size:=bel1.size;clear hown5 hgrow5 own4 ownb4 bel4 bel5 bel1 bel2 bel3 b12 b13 gr4 hrun hy hyl n1;have hst:=Pj (nn:=nn) haz hal HVX.out hs32 (by omega) (by omega) HD1.out;have hsb:Dg.Small 4294967296 bs:=by rw[←hbs];exact Dg.small_dg _ _ (by omega)
 have hvb:Dg.vl 4294967296 bs=Y*2^s:=by rw[←hbs];exact Dg.vl_dg _ _ (by omega)
 have hY0:0<Y:=by
  rcases Nat.eq_zero_or_pos Y with e|e
  ·have:=HD1.out
   rw[e,Nat.zero_mul] at this;have h2:=Nat.pow_pos (n:=nn-1) (show 0<4294967296 by omega)
   omega
  ·exact e
 obtain⟨M,hM⟩: ∃M,na+1=M+nn:=⟨na+1-nn,by omega⟩;rw[hM,Nat.add_sub_cancel] at own5 hst;rw[hM] at ownr5;rw[hM,Nat.add_sub_cancel];obtain⟨g4,hg4⟩: ∃g4,w4.heap.size=g4:=⟨_,rfl⟩;obtain⟨g1,hg1⟩: ∃g1,w1.heap.size=g1:=⟨_,rfl⟩;rw[hg4] at own5 hb14⊢;rw[hg1] at ownr5 hb14 hbw1 hgb2⊢;have own5:=own5.lower (show w'.heap.size≤g4 by omega)
 have ne1:gb≠g1:=by omega
 have ne2:g1≠g4:=by omega
 have ne3:gb≠g4:=by omega
 have hbw4:w'.heap.size≤g4:=by omega
 have hMN:M+nn≤900001:=by omega
 clear haz hal HVX hbs hM hle hla hg4 hg1
 go_wp2
 go_loopw [10] (fun iv wr=>ae2 w' (X*2^s) (Y*2^s) M (M+nn) g1 g4 gb cby bs iv wr) (fun iv _=>(intOf iv+1).toNat)
 case atStart=>exact⟨M,_,_,Nat.le_refl _,rfl,hst,ownr5,own5,by rw[hDl];exact ownb5,belw⟩
 case round=>
  clear hst own5 ownr5 ownb5 belw hgb1 hgb2 hcby hb14 hi hz0 hz1 hz2;obtain⟨k,R,os,hk,rfl,hI,ownR,ownO,ownB,bel⟩:=hrel
  by_cases hk0:k=0
  ·subst hk0
   have hen:=Xs hY0 hI;have ro:=ownO.rd;have rr:=ownR.rd;clear ownB
   go_wp2_with fail
   refine(jD _ _ _ _ _ ro).mono ?_;rintro e w6 ⟨m,rfl,hm,rfl⟩;have to:=jW 4294967296 (by omega) ownO hI.2.2.2.1 hm;rw[hen.1] at to
   go_wp2_with fail
   refine(jD _ _ _ _ _ rr).mono ?_;rintro e w6 ⟨m2,rfl,hm2,rfl⟩;have tr:=jW 4294967296 (by omega) ownR hI.2.2.1 hm2;have hlow:=Dj _ _ s 0 s w6 tr.rd (Dg.small_dg _ _ (by omega)) (by have h1:=hm2.1;have h2:=hI.1;have h3:=tr.len;omega) (by omega) hs32 (by omega);rw[Dg.vl_dg _ _ (by omega),hen.2] at hlow;clear ro rr hm hm2 hen ownO ownR tr hI
   go_wp2_with fail
   refine hlow.mono ?_;rintro e w7 ⟨vr,rfl,ownr7,bel7⟩;have to7:=to.l bel7;have b7:=aa bel bel7;have or7:=ownr7.lower bel.size;clear hlow
   go_wp2
   go_ret2
   exact⟨_,_,rfl,to7,or7,b7⟩
  ·obtain⟨i,rfl⟩: ∃i,k=i+1:=⟨k-1,by omega⟩
   have n2:((i+1:Nat):Int)-1=(i:Int):=by omega
   rw[n2];have hRl:=hI.1;rw[hDl] at ownB;have c2:=ownR.c (i+nn) (by omega);have c1:=ownR.c (i+(nn-1)) (by omega);have c0:=ownR.c (i+(nn-2)) (by omega);have e1:=ownB.c (nn-1) (by omega);have e0:=ownB.c (nn-2) (by omega);have lg:=Pi hI hsb hvb hn HD1.out HD2.out;have hgs:=TX g1 i nn (M+nn-i) gb 0 cby _ _ _ _ _ wr hn (by omega) (by omega) c2 c1 c0 (by rw[Nat.zero_add];exact e1) (by rw[Nat.zero_add];exact e0) (hI.2.2.1 _) (hI.2.2.1 _) (hI.2.2.1 _) (hsb _) (hsb _) lg.1 lg.2.1;have LG:=lg.2.2;have HLG:Hid _:=LG;clear c2 c1 c0 e1 e0 lg LG
   go_wp2_with fail
   rw[show i+nn+1-i=nn+1 from by omega]
   refine hgs.mono ?_;rintro e w6 ⟨g,rfl,hgl,hlow,hup,bel6⟩;clear hgs;have hq:=HLG.out g hgl hlow hup;clear HLG hlow hup;have ownR6:=ownR.l bel6;have ownO6:=ownO.l bel6;have ownB6:=ownB.l bel6;have b6:=aa bel bel6;clear ownR ownO ownB bel6 bel;have htk:=H7 g1 (M+nn) i (M+nn-i) w'.heap.size g R bs _ w6 ownR6 hI.2.2.1 hsb (fun w'' hg=>(ownB6.other hg ne1).rd) (by omega) hgl (by omega)
   rw[hDl] at htk;obtain⟨q,hqq⟩: ∃q,Dg.vl 4294967296 R/4294967296^i/(Y*2^s)=q:=⟨_,rfl⟩;rw[hqq] at hq;have HRE:Hid (∀cur b,acc R cur bs i g b→_):=fun cur b hT=>QR hT hI.2.2.1 rfl hvb (Nat.mul_pos hY0 (Nat.pow_pos (by omega))) (by rw[hDl];exact HD2.out) hI.2.2.2.2.2.2 hqq hq.2
   go_wp2_with fail
   refine htk.mono ?_;rintro e w7 ⟨b,cur,rfl,hT,ownC,gr7⟩;have hre:=HRE.out cur b hT;have hb1:=hT.2.2.2.1;have hTl:=hT.1;have hTs:=hT.2.1;have ownO7:=ownO6.other gr7 ne2.symm;have ownB7:=ownB6.other gr7 ne1;have b7:=b6.grown gr7 b6.size (fun k hk=>by cases hk;exact hbw1)
   have hql:=hq.1;have hil:i<M:=by omega
   clear HRE hT htk hq hqq ownR6 ownO6 ownB6 b6 gr7
   by_cases hb:b=0
   ·subst hb
    obtain⟨rfl,hv,hlt⟩:=hre.1 rfl;have hnx:=Iv hI hil hgl hTl hTs hv hlt;have ed:decide ((0:Nat)=1)=false:=rfl;rw[ed];have hf:=ownO7.f i;have hcO:=ownO7.c i (by have:=hI.2.1;omega);clear hre hv hlt hI hTs
    go_wp2
    go_roundw
    case rel=>exact⟨i,cur,_,by omega,by go_num,hnx,ownC.other (bI _ _ _ _) ne2,ownO7.store i _,by rw[hDl];exact ownB7.other (bI _ _ _ _) ne3,b7.setCell (by exact hbw4) _⟩
    case measure=>simp[intOf]
   ·have hb:b=1:=by omega
    subst hb;obtain⟨rfl,hbk⟩:=hre.2 rfl;have hpb:=Mj g1 (M+nn) i (M+nn-i) w'.heap.size cur bs _ w7 ownC hTs hsb (fun w'' hg=>(ownB7.other hg ne1).rd) (by omega) (by omega)
    rw[hDl] at hpb;have ed:decide ((1:Nat)=1)=true:=rfl;rw[ed];have n3:((q+1:Nat):Int)-1=(q:Int):=by omega
    have HBK:Hid _:=hbk;clear hre hbk
    go_wp2_with fail
    refine hpb.mono ?_;rintro e w8 ⟨o,cur',rfl,hB,ownC8,gr8⟩;obtain⟨hv,hlt⟩:=HBK.out cur' o hB;have hnx:=Iv hI hil hql (hB.1.trans hTl) hB.2.1 hv hlt;have ownO8:=ownO7.other gr8 ne2.symm;have ownB8:=ownB7.other gr8 ne1;have b8:=b7.grown gr8 b7.size (fun k hk=>by cases hk;exact hbw1)
    have hf:=ownO8.f i;have hcO:=ownO8.c i (by have:=hI.2.1;omega);clear hpb HBK hv hlt hB gr8 hI hTs ownC ownO7 ownB7 b7
    go_wp2
    go_roundw
    case rel=>exact⟨i,cur',_,by omega,by go_num,hnx,ownC8.other (bI _ _ _ _) ne2,ownO8.store i _,by rw[hDl];exact ownB8.other (bI _ _ _ _) ne3,b8.setCell (by exact hbw4) _⟩
    case measure=>simp[intOf]
end Go.Proofs.YtpainhklfoaniaaGreatDoor

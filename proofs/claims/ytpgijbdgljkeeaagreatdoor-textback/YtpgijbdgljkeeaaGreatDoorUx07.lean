/-
  Texts laid together: DivBy, Add, Ref2, Bits, Dr1, Take, Back, Long0, Long, Long1, Gr4.
-/
import Derived.Test.YtpgijbdgljkeeaaGreatDoorUx01
import Derived.Test.YtpgijbdgljkeeaaGreatDoorUx02
import Derived.Test.YtpgijbdgljkeeaaGreatDoorUx03
set_option maxRecDepth 100000
set_option maxHeartbeats 4000000
namespace Go.Proofs.YtpgijbdgljkeeaaGreatDoor
open _root_.Go.Proofs.Tryz
open Go.RowKit
def acQ (zs cur:List Nat)(d k r:Nat):Prop:=
 cur.length=zs.length∧Dg.Small 4294967296 cur∧r<d∧(∀j,j<k→cur.getD j 0=zs.getD j 0)∧Dg.vl 4294967296 (zs.drop k)=Dg.vl 4294967296 (cur.drop k)*d+r
theorem Tx {zs cur:List Nat}{d k r t:Nat}(h:acQ zs cur d (k+1) r)(hk:k<zs.length)(ht:t=r*4294967296+zs.getD k 0)(hd:0<d)(hq:t/d<4294967296):
  acQ zs (cur.set k (t/d)) d k (t % d):=by
 obtain⟨h1,h2,h3,h4,h5⟩:=h;refine⟨by simpa using h1,Dg.small_set h2 _ _ hq,Nat.mod_lt _ hd,fun j hj=> ?_, ?_⟩
 ·rw[Dg.getD_set _ _ _ _ (by omega),if_neg (by omega)];exact h4 j (by omega)
 ·rw[AU zs k hk,AU (cur.set k (t/d)) k (by simpa using(by omega:k<cur.length)),Dg.getD_set _ _ _ _ (by omega),if_pos rfl,List.drop_set_of_lt (by omega)]
  simp only[Dg.vl];rw[h5];have:=Nat.div_add_mod t d;rw[Nat.add_mul,Nat.mul_comm (t/d) d,Nat.mul_assoc,Nat.mul_add];have e:r*4294967296=4294967296*r:=Nat.mul_comm _ _;omega
theorem ur (x y c:Nat)(w:World)(hx:x<4294967296)(hy:y<4294967296)(hc:c≤1):
  yC 138 #[.int .u32 x,.int .u32 y,.int .u32 c] w fun e w'=>e= .returned (.tuple #[.int .u32 ((x+y+c) % 4294967296:Nat),.int .u32 ((x+y+c)/4294967296:Nat)])∧w'=w:=by
 go_enter func138,ntmps138
 go_wp2
 go_ret2
 exact⟨by go_num,rfl⟩
theorem zA (x y c:Nat)(w:World)(hx:x<4294967296)(hy:y<4294967296)(hc:c≤1):
  yC 209 #[.int .u32 x,.int .u32 y,.int .u32 c] w fun e w'=>e= .returned (.tuple #[.int .u32 ((x+4294967296-y-c) % 4294967296:Nat),.int .u32 ((brw x y c:Nat):Int)])∧w'=w:=by
 have hb:=NE x y c hx hy hc;have hsg: ¬IntKind.u32.signed=true:=by decide
 have hd:(((x:Int)-(y:Int)) % 4294967296-(c:Int)) % 4294967296=(((x+4294967296-y-c) % 4294967296:Nat):Int):=by omega
 obtain⟨d,ed⟩: ∃d,(x+4294967296-y-c) % 4294967296=d:=⟨_,rfl⟩;rw[ed] at hd⊢;have Hd:Hid _:=hd;clear hd ed
 go_enter func209,ntmps209
 go_wp2
 go_ret2
 exact⟨by rw[←Hd.out];rfl,rfl⟩
theorem iV (B:Nat)(l:List Nat)(k:Nat):Dg.vl B (l.take (k+1))=Dg.vl B (l.take k)+B^k*l.getD k 0:=by
 by_cases h:k<l.length
 ·exact Dg.vl_take_succ _ _ _ h
 ·rw[List.take_of_length_le (by omega),List.take_of_length_le (by omega),Dg.getD_of_le _ _ (by omega)];omega
theorem Un (x:Int)(w:World)(h0:0≤x)(h1:x≤4294967295):
  yC 134 #[.int .u32 x] w fun e w'=>e= .returned (yi (bitLen x.toNat:Nat))∧w'=w:=by
 go_enter func134,ntmps134
 go_wp2
 all_goals try (exfalso;have hz:=Lib.len8tab_size;omega)
 all_goals (go_ret;refine⟨congrArg Ending.returned (congrArg (Value.int IntKind.i64) ?_),rfl⟩)
 all_goals simp only[X4]
 ·exact qz 24 _ x.toNat (by have:=bitLen_shift x.toNat 24 (by omega);rw[this];congr 2;omega) (by omega)
 ·exact qz 16 _ x.toNat (by have:=bitLen_shift x.toNat 16 (by omega);rw[this];congr 2;omega) (by omega)
 ·exact qz 8 _ x.toNat (by have:=bitLen_shift x.toNat 8 (by omega);rw[this];congr 2;omega) (by omega)
 ·have hb:=bitLen_le8 x.toNat (by omega)
  have e1:=IntWalk.wrap64_in ((bitLen x.toNat:Nat):Int) ⟨by omega,by omega⟩;rw[e1,e1]
theorem IK (x:Nat)(w:World)(h:x<4294967296):
  yC 134 #[.int .u32 x] w fun e w'=>e= .returned (yi (bitLen x:Nat))∧w'=w:=by
 have:=Un x w (by omega) (by omega);rw[Int.toNat_natCast] at this;exact this
def Rv (w:World)(v:Value)(t:ak):Prop:= ∃s,v=(ydV t.s s t.e)∧Rd w .i64 s (Dg.dg 65536 t.n)
def SX (R cur ys:List Nat)(i t k c b:Nat):Prop:=
 cur.length=R.length∧Dg.Small 4294967296 cur∧c<4294967296∧b≤1∧(∀j,i+k≤j→cur.getD j 0=R.getD j 0)∧Dg.vl 4294967296 cur+4294967296^i*(Dg.vl 4294967296 (ys.take k)*t)=Dg.vl 4294967296 R+4294967296^ (i+k)*(b+c)
theorem VS {R cur ys:List Nat}{i t k c b y p ct:Nat}(h:SX R cur ys i t k c b)(_hk:k<ys.length)(hl:i+k<R.length)(hy:ys.getD k 0=y)(hp:R.getD (i+k) 0=p)(hpl:p<4294967296)(hct:ct=c+y*t)(hcl:ct/4294967296<4294967296):
  SX R (cur.set (i+k) ((p+4294967296-ct % 4294967296-b) % 4294967296)) ys i t (k+1) (ct/4294967296) (brw p (ct % 4294967296) b):=by
 obtain⟨h1,h2,h3,h4,h5,h6⟩:=h;refine⟨by simpa using h1,Dg.small_set h2 _ _ (Nat.mod_lt _ (by omega)),hcl,RN _ _ _,fun j hj=> ?_, ?_⟩
 ·rw[Dg.getD_set _ _ _ _ (by omega),if_neg (by omega)];exact h5 j (by omega)
 ·have hs:=Dg.vl_set 4294967296 cur (i+k) ((p+4294967296-ct % 4294967296-b) % 4294967296) (by omega)
  rw[h5 _ (Nat.le_refl _),hp] at hs;have hlo:ct % 4294967296<4294967296:=Nat.mod_lt _ (by omega);have eb:p+4294967296*brw p (ct % 4294967296) b=(p+4294967296-ct % 4294967296-b) % 4294967296+ct % 4294967296+b:=by unfold brw;split<;>omega
  generalize hnew:(p+4294967296-ct % 4294967296-b) % 4294967296=new at*;generalize brw p (ct % 4294967296) b=b' at*;rw[iV,hy];have e1:4294967296^i*((Dg.vl 4294967296 (ys.take k)+4294967296^k*y)*t)=4294967296^i*(Dg.vl 4294967296 (ys.take k)*t)+4294967296^ (i+k)*(y*t):=by
   rw[Nat.add_mul,Nat.mul_add,Nat.pow_add,Nat.mul_assoc,Nat.mul_assoc]
  have e2:4294967296^ (i+(k+1))*(b'+ct/4294967296)=4294967296^ (i+k)*(4294967296*b'+4294967296*(ct/4294967296)):=by
   rw[show i+(k+1)=i+k+1 from by omega,Nat.pow_succ,Nat.mul_assoc,Nat.mul_add]
  have e3:=Nat.mod_add_div ct 4294967296;have e4:4294967296^ (i+k)*(4294967296*b'+4294967296*(ct/4294967296)+p)=4294967296^ (i+k)*(new+b+c+y*t):=by congr 1;omega
  rw[Nat.mul_add,Nat.mul_add,Nat.mul_add,Nat.mul_add,Nat.mul_add] at e4;rw[Nat.mul_add] at h6;rw[e1,e2,Nat.mul_add];omega
theorem VT {R cur ys:List Nat}{i t c b p:Nat}(h:SX R cur ys i t ys.length c b)(hl:i+ys.length<R.length)(hp:R.getD (i+ys.length) 0=p)(hpl:p<4294967296):
  (cur.set (i+ys.length) ((p+4294967296-c-b) % 4294967296)).length=R.length∧Dg.Small 4294967296 (cur.set (i+ys.length) ((p+4294967296-c-b) % 4294967296))∧(∀j,i+ys.length<j→(cur.set (i+ys.length) ((p+4294967296-c-b) % 4294967296)).getD j 0=R.getD j 0)∧
   Dg.vl 4294967296 (cur.set (i+ys.length) ((p+4294967296-c-b) % 4294967296))+4294967296^i*(Dg.vl 4294967296 ys*t)=Dg.vl 4294967296 R+4294967296^ (i+ys.length+1)*brw p c b:=by
 obtain⟨h1,h2,h3,h4,h5,h6⟩:=h;refine⟨by simpa using h1,Dg.small_set h2 _ _ (Nat.mod_lt _ (by omega)),fun j hj=> ?_, ?_⟩
 ·rw[Dg.getD_set _ _ _ _ (by omega),if_neg (by omega)];exact h5 j (by omega)
 ·have hs:=Dg.vl_set 4294967296 cur (i+ys.length) ((p+4294967296-c-b) % 4294967296) (by omega)
  rw[h5 _ (Nat.le_refl _),hp] at hs;have eb:p+4294967296*brw p c b=(p+4294967296-c-b) % 4294967296+c+b:=by unfold brw;split<;>omega
  generalize(p+4294967296-c-b) % 4294967296=new at*;generalize brw p c b=b' at*;rw[List.take_of_length_le (Nat.le_refl _)] at h6;have e2:4294967296^ (i+ys.length+1)*b'=4294967296^ (i+ys.length)*(4294967296*b'):=by rw[Nat.pow_succ,Nat.mul_assoc]
  have e4:4294967296^ (i+ys.length)*(p+4294967296*b')=4294967296^ (i+ys.length)*(new+c+b):=by rw[eb]
  rw[Nat.mul_add,Nat.mul_add,Nat.mul_add] at e4;rw[Nat.mul_add] at h6;rw[e2];omega
def acc (R cur ys:List Nat)(i t b:Nat):Prop:=
 cur.length=R.length∧Dg.Small 4294967296 cur∧(∀j,i+ys.length<j→cur.getD j 0=R.getD j 0)∧b≤1∧Dg.vl 4294967296 cur+4294967296^i*(Dg.vl 4294967296 ys*t)=Dg.vl 4294967296 R+4294967296^ (i+ys.length+1)*b
def Sp (R cur ys:List Nat)(i k c:Nat):Prop:=
 cur.length=R.length∧Dg.Small 4294967296 cur∧c≤1∧(∀j,i+k≤j→cur.getD j 0=R.getD j 0)∧Dg.vl 4294967296 cur+4294967296^ (i+k)*c=Dg.vl 4294967296 R+4294967296^i*Dg.vl 4294967296 (ys.take k)
theorem TV {R cur ys:List Nat}{i k c y p:Nat}(h:Sp R cur ys i k c)(hl:i+k<R.length)(hy:ys.getD k 0=y)(hp:R.getD (i+k) 0=p)(hpl:p<4294967296)(hyl:y<4294967296):
  Sp R (cur.set (i+k) ((p+y+c) % 4294967296)) ys i (k+1) ((p+y+c)/4294967296):=by
 obtain⟨h1,h2,h3,h5,h6⟩:=h;refine⟨by simpa using h1,Dg.small_set h2 _ _ (Nat.mod_lt _ (by omega)),by omega,fun j hj=> ?_, ?_⟩
 ·rw[Dg.getD_set _ _ _ _ (by omega),if_neg (by omega)];exact h5 j (by omega)
 ·have hs:=Dg.vl_set 4294967296 cur (i+k) ((p+y+c) % 4294967296) (by omega)
  rw[h5 _ (Nat.le_refl _),hp] at hs;rw[iV,hy];generalize hT:p+y+c=T at*;have e1:4294967296^i*(Dg.vl 4294967296 (ys.take k)+4294967296^k*y)=4294967296^i*Dg.vl 4294967296 (ys.take k)+4294967296^ (i+k)*y:=by rw[Nat.mul_add,Nat.pow_add,Nat.mul_assoc]
  have e2:4294967296^ (i+(k+1))*(T/4294967296)=4294967296^ (i+k)*(4294967296*(T/4294967296)):=by rw[show i+(k+1)=i+k+1 from by omega,Nat.pow_succ,Nat.mul_assoc]
  have e3:4294967296^ (i+k)*T=4294967296^ (i+k)*(T % 4294967296)+4294967296^ (i+k)*(4294967296*(T/4294967296)):=by rw[←Nat.mul_add,Nat.mod_add_div]
  have e4:4294967296^ (i+k)*T=4294967296^ (i+k)*p+4294967296^ (i+k)*y+4294967296^ (i+k)*c:=by rw[←hT,Nat.mul_add,Nat.mul_add]
  rw[e1,e2];omega
def Py (R cur ys:List Nat)(i o:Nat):Prop:=
 cur.length=R.length∧Dg.Small 4294967296 cur∧(∀j,i+ys.length<j→cur.getD j 0=R.getD j 0)∧o≤1∧Dg.vl 4294967296 cur+4294967296^ (i+ys.length+1)*o=Dg.vl 4294967296 R+4294967296^i*Dg.vl 4294967296 ys
theorem TW {R cur ys:List Nat}{i c p:Nat}(h:Sp R cur ys i ys.length c)(hl:i+ys.length<R.length)(hp:R.getD (i+ys.length) 0=p)(hpl:p<4294967296):
  Py R (cur.set (i+ys.length) ((p+c) % 4294967296)) ys i ((p+c)/4294967296):=by
 obtain⟨h1,h2,h3,h5,h6⟩:=h;refine⟨by simpa using h1,Dg.small_set h2 _ _ (Nat.mod_lt _ (by omega)),fun j hj=> ?_,by omega, ?_⟩
 ·rw[Dg.getD_set _ _ _ _ (by omega),if_neg (by omega)];exact h5 j (by omega)
 ·have hs:=Dg.vl_set 4294967296 cur (i+ys.length) ((p+c) % 4294967296) (by omega)
  rw[h5 _ (Nat.le_refl _),hp] at hs;rw[List.take_of_length_le (Nat.le_refl _)] at h6;generalize hT:p+c=T at*;have e2:4294967296^ (i+ys.length+1)*(T/4294967296)=4294967296^ (i+ys.length)*(4294967296*(T/4294967296)):=by rw[Nat.pow_succ,Nat.mul_assoc]
  have e3:4294967296^ (i+ys.length)*T=4294967296^ (i+ys.length)*(T % 4294967296)+4294967296^ (i+ys.length)*(4294967296*(T/4294967296)):=by rw[←Nat.mul_add,Nat.mod_add_div]
  have e4:4294967296^ (i+ys.length)*T=4294967296^ (i+ys.length)*p+4294967296^ (i+ys.length)*c:=by rw[←hT,Nat.mul_add]
  rw[e2];omega
theorem CG (B:Nat)(l:List Nat)(j:Nat)(hB:0<B)(hs:Dg.Small B l):l.getD j 0=Dg.vl B l/B^j % B:=by
 by_cases h:j<l.length
 ·have h1:=Dg.vl_split B l j h
  have h2:=Dg.vl_lt B (l.take j) (Dg.small_take hs j hB);rw[List.length_take,Nat.min_eq_left (by omega)] at h2;rw[h1,Nat.add_mul_div_left _ _ (Nat.pow_pos hB),Nat.div_eq_of_lt h2,Nat.zero_add,Nat.add_mul_mod_self_left];exact(Nat.mod_eq_of_lt (hs j)).symm
 ·rw[Dg.getD_of_le l j (by omega)]
  have h2:=Dg.vl_lt B l hs;have h3:B^l.length≤B^j:=Nat.pow_le_pow_right hB (by omega);rw[Nat.div_eq_of_lt (by omega),Nat.zero_mod]
theorem Dk (B:Nat)(l:List Nat)(m:Nat)(hB:0<B)(hs:Dg.Small B l)(hz: ∀j,m≤j→l.getD j 0=0):Dg.vl B l<B^m:=by
 by_cases h:m≤l.length
 ·rw[Dg.vl_take_drop B l m h]
  have h1:Dg.vl B (l.drop m)=0:=Dg.vl_zeros B _ (fun i=>by
   have:=hz (m+i) (by omega)
   simpa[List.getD_eq_getElem?_getD,List.getElem?_drop] using this)
  have h2:=Dg.vl_lt B (l.take m) (Dg.small_take hs m hB);rw[List.length_take,Nat.min_eq_left h] at h2;rw[h1,Nat.mul_zero,Nat.add_zero];exact h2
 ·have h2:=Dg.vl_lt B l hs
  have h3:B^l.length≤B^m:=Nat.pow_le_pow_right hB (by omega);omega
theorem NB (B:Nat)(l:List Nat)(m:Nat)(hB:0<B)(hs:Dg.Small B l)(h:Dg.vl B l<B^m)(j:Nat)(hj:m≤j):l.getD j 0=0:=by
 rw[CG B l j hB hs];have h3:B^m≤B^j:=Nat.pow_le_pow_right hB hj;rw[Nat.div_eq_of_lt (by omega),Nat.zero_mod]
theorem QR {R cur ys:List Nat}{i g b q X D:Nat}(hT:acc R cur ys i g b)(sR:Dg.Small 4294967296 R)(hX:Dg.vl 4294967296 R=X)(hD:Dg.vl 4294967296 ys=D)(hD0:0<D)(hDl:D<4294967296^ys.length)
  (hl:X<D*4294967296^ (i+1)) (hq:X/4294967296^i/D=q) (hg:g=q∨g=q+1):
  (b=0→g=q∧Dg.vl 4294967296 cur+4294967296^i*(D*q)=X∧Dg.vl 4294967296 cur<D*4294967296^i)∧
  (b=1→g=q+1∧ ∀(cur':List Nat) (o:Nat),Py cur cur' ys i o→Dg.vl 4294967296 cur'+4294967296^i*(D*q)=X∧Dg.vl 4294967296 cur'<D*4294967296^i):=by
 have hXT:X<4294967296^ (i+ys.length+1):=by
  have e1:D*4294967296^ (i+1)≤4294967296^ys.length*4294967296^ (i+1):=Nat.mul_le_mul_right _ (by omega);rw[←Nat.pow_add,show ys.length+(i+1)=i+ys.length+1 from by omega] at e1
  omega
 have hzR: ∀j,i+ys.length+1≤j→R.getD j 0=0:=fun j hj=>NB 4294967296 R _ (by omega) sR (by rw[hX];exact hXT) j hj
 obtain⟨t1,t2,t3,t4,t5⟩:=hT;have hzc: ∀j,i+ys.length+1≤j→cur.getD j 0=0:=fun j hj=>by rw[t3 j (by omega)];exact hzR j hj
 have hcl:=Dk 4294967296 cur _ (by omega) t2 hzc;have hb:=ND (X:=X) (D:=D) (i:=i) (B:=4294967296) (by omega) hD0;rw[hq] at hb;rw[hX,hD] at t5;have e3:4294967296^i*(D*(q+1))=4294967296^i*(D*q)+4294967296^i*D:=by rw[Nat.mul_add,Nat.mul_one,Nat.mul_add]
 have e4:4294967296^i*D≤4294967296^ (i+ys.length+1):=by
  have e1:4294967296^i*D≤4294967296^i*4294967296^ys.length:=Nat.mul_le_mul_left _ (by omega);rw[←Nat.pow_add] at e1;have e2:(4294967296:Nat)^ (i+ys.length)≤4294967296^ (i+ys.length+1):=Nat.pow_le_pow_right (by omega) (by omega);omega
 have e5:D*4294967296^i=4294967296^i*D:=Nat.mul_comm _ _;have hc0:0<4294967296^i*D:=Nat.mul_pos (Nat.pow_pos (by omega)) hD0;have hx:4294967296^i*(D*g)=4294967296^i*(D*q)∨4294967296^i*(D*g)=4294967296^i*(D*q)+4294967296^i*D:=by
  rcases hg with e|e
  ·left;rw[e]
  ·right;rw[e,e3]
 have hgq:(4294967296^i*(D*g)=4294967296^i*(D*q)→g=q)∧(4294967296^i*(D*g)=4294967296^i*(D*q)+4294967296^i*D→g=q+1):=by
  constructor
  ·intro e
   rcases hg with h|h
   ·exact h
   ·rw[h,e3] at e;omega
  ·intro e
   rcases hg with h|h
   ·rw[h] at e;omega
   ·exact h
 have hw:=QQ hb.1 hb.2 hx hgq t5 hcl t4;rw[e5];have hb2:=hb.2;have hb1:=hb.1;refine⟨fun h0=> ?_,fun h1=> ?_⟩
 ·have:=hw.1 h0
  exact⟨this.1,this.2,by omega⟩
 ·have h2:=hw.2 h1
  refine⟨h2.1,fun cur' o hB=> ?_⟩
  obtain⟨b1,b2,b3,b4,b5⟩:=hB;have hzc': ∀j,i+ys.length+1≤j→cur'.getD j 0=0:=fun j hj=>by rw[b3 j (by omega)];exact hzc j hj
  have hcl':=Dk 4294967296 cur' _ (by omega) b2 hzc';rw[hD] at b5;have h3:=h2.2;have ho:o=0∨o=1:=by omega
  clear hw hx hgq t5 hzR hzc hzc' t1 t2 t3 b1 b2 b3 h2 hl hXT
  rcases ho with ho|ho
  ·subst ho
   rw[Nat.mul_zero] at b5;omega
  ·subst ho
   rw[Nat.mul_one] at b5;omega
theorem V7 (ys:List Nat)(s:Nat)(sb:Dg.Small 4294967296 ys)(nb:Dg.Norm ys)(hn:2≤ys.length)(hs:s=32-bitLen (ys.getD (ys.length-1) 0)):
  s<32∧2147483648*4294967296^ (ys.length-1)≤Dg.vl 4294967296 ys*2^s∧Dg.vl 4294967296 ys*2^s<4294967296^ys.length:=by
 have hy0:ys.getD (ys.length-1) 0≠0:=nb (by intro e;rw[e] at hn;simp at hn);have hyl:=sb (ys.length-1);have hsp:=Dg.vl_split 4294967296 ys (ys.length-1) (by omega);have hlo:=Dg.vl_lt 4294967296 (ys.take (ys.length-1)) (Dg.small_take sb _ (by omega));rw[List.length_take,Nat.min_eq_left (by omega)] at hlo;rw[show ys.length-1+1=ys.length from by omega,List.drop_length] at hsp
 simp only[Dg.vl,Nat.mul_zero,Nat.add_zero] at hsp;generalize ys.getD (ys.length-1) 0=y at*;generalize Dg.vl 4294967296 (ys.take (ys.length-1))=lo at*;have⟨h1,h2,h3⟩:=uB y hy0;have h4:=bF y 32 (by omega);have e1:2^ (bitLen y-1)*2^s=2147483648:=by rw[←Nat.pow_add,show bitLen y-1+s=31 from by omega]
 have e2:2^bitLen y*2^s=4294967296:=by rw[←Nat.pow_add,show bitLen y+s=32 from by omega]
 have e3:(4294967296:Nat)^ys.length=4294967296^ (ys.length-1)*4294967296:=by rw[←Nat.pow_succ,show(ys.length-1).succ=ys.length from by omega]
 have a1:2^ (bitLen y-1)*2^s≤y*2^s:=Nat.mul_le_mul_right _ h2;have a2:(y+1)*2^s≤2^bitLen y*2^s:=Nat.mul_le_mul_right _ h3;refine⟨by omega, ?_, ?_⟩
 ·rw[hsp,Nat.add_mul,Nat.mul_assoc]
  have:4294967296^ (ys.length-1)*2147483648≤4294967296^ (ys.length-1)*(y*2^s):=Nat.mul_le_mul_left _ (by omega);rw[Nat.mul_comm 2147483648];omega
 ·rw[hsp,e3]
  have b1:(lo+4294967296^ (ys.length-1)*y)<4294967296^ (ys.length-1)*(y+1):=by rw[Nat.mul_add,Nat.mul_one];omega
  have b2:(lo+4294967296^ (ys.length-1)*y)*2^s<4294967296^ (ys.length-1)*(y+1)*2^s:=Nat.mul_lt_mul_of_pos_right b1 (Nat.pow_pos (by omega));rw[Nat.mul_assoc (4294967296^ (ys.length-1)) (y+1)] at b2;have b3:4294967296^ (ys.length-1)*((y+1)*2^s)≤4294967296^ (ys.length-1)*4294967296:=Nat.mul_le_mul_left _ (by omega);omega
theorem V8 (n D:Nat)(hn:1≤n)(h1:4294967296^ (n-1)≤D)(h2:D<4294967296^n):(Dg.dg 4294967296 D).length=n:=by
 have a:=Dg.dg_len_le 4294967296 D n (by omega) h2;have b:=Dg.vl_lt 4294967296 _ (Dg.small_dg 4294967296 D (by omega));rw[Dg.vl_dg 4294967296 D (by omega)] at b;have c:n-1< (Dg.dg 4294967296 D).length:=by
  rcases Nat.lt_or_ge (n-1) (Dg.dg 4294967296 D).length with e|e
  ·exact e
  ·have:=Nat.pow_le_pow_right (n:=4294967296) (by omega) e
   omega
 omega
theorem RI (X na s:Nat)(h:X<4294967296^na)(hs:s<32):(Dg.dg 4294967296 (X*2^s)).length≤na+1:=by
 apply Dg.dg_len_le 4294967296 _ _ (by omega);have h1:2^s≤4294967296:=by have:2^s≤2^32:=Nat.pow_le_pow_right (by omega) (by omega);omega
 rw[Nat.pow_succ];have h2:X*2^s<4294967296^na*2^s:=Nat.mul_lt_mul_of_pos_right h (Nat.pow_pos (by omega));have h3:4294967296^na*2^s≤4294967296^na*4294967296:=Nat.mul_le_mul_left _ h1;omega
def Jm (A D M:Nat)(R os:List Nat)(N k:Nat):Prop:=
 R.length=N∧os.length=M∧Dg.Small 4294967296 R∧Dg.Small 4294967296 os∧(∀j,j<k→os.getD j 0=0)∧D*Dg.vl 4294967296 os+Dg.vl 4294967296 R=A∧Dg.vl 4294967296 R<D*4294967296^k
theorem Pi {A D M N i nn:Nat}{R os bs:List Nat}(h:Jm A D M R os N (i+1))(sb:Dg.Small 4294967296 bs)(hbs:Dg.vl 4294967296 bs=D)(hn:2≤nn)(hD1:2147483648*4294967296^ (nn-1)≤D)(hD2:D<4294967296^nn):
  2147483648≤bs.getD (nn-1) 0∧R.getD (i+nn) 0≤bs.getD (nn-1) 0∧
  ∀g,g<4294967296→(∀k,k*(bs.getD (nn-1) 0*4294967296+bs.getD (nn-2) 0)≤(R.getD (i+nn) 0*4294967296+R.getD (i+(nn-1)) 0)*4294967296+R.getD (i+(nn-2)) 0→k<4294967296→k≤g)→
   g*(bs.getD (nn-1) 0*4294967296+bs.getD (nn-2) 0)≤(R.getD (i+nn) 0*4294967296+R.getD (i+(nn-1)) 0)*4294967296+R.getD (i+(nn-2)) 0→
   Dg.vl 4294967296 R/4294967296^i/D<4294967296∧(g=Dg.vl 4294967296 R/4294967296^i/D∨g=Dg.vl 4294967296 R/4294967296^i/D+1):=by
 obtain⟨-,-,sR,-,-,-,hX⟩:=h;obtain⟨m,rfl⟩: ∃m,nn=m+2:=⟨nn-2,by omega⟩;have hB:(0:Nat)<4294967296:=by omega
 rw[show m+2-1=m+1 from rfl] at*
 rw[show m+2-2=m from rfl]
 have d1:bs.getD (m+1) 0=D/4294967296^ (m+1) % 4294967296:=by rw[CG 4294967296 bs (m+1) hB sb,hbs]
 have d0:bs.getD m 0=D/4294967296^m % 4294967296:=by rw[CG 4294967296 bs m hB sb,hbs]
 have p2:=CG 4294967296 R (i+(m+2)) hB sR;have p1:=CG 4294967296 R (i+(m+1)) hB sR;have p0:=CG 4294967296 R (i+m) hB sR;have hXl:Dg.vl 4294967296 R<4294967296^ (i+m+3):=by
  have e1:D*4294967296^ (i+1)≤4294967296^ (m+2)*4294967296^ (i+1):=Nat.mul_le_mul_right _ (Nat.le_of_lt hD2);rw[←Nat.pow_add,show m+2+(i+1)=i+m+3 from by omega] at e1
  exact Nat.lt_of_lt_of_le hX e1
 have tp:=adr (n:=m+2) hB (by omega) hX;rw[show m+2-1=m+1 from rfl] at tp
 have hDt:D/4294967296^ (m+1)<4294967296:=by
  rw[Nat.div_lt_iff_lt_mul (Nat.pow_pos hB),Nat.mul_comm,←Nat.pow_succ];exact hD2
 have t3:=aeU 4294967296 (Dg.vl 4294967296 R) (i+m) hB hXl;have t2:=two 4294967296 D m hB hD2;rw[d1,d0,p2,p1,p0];rw[show i+(m+2)=i+m+2 from by omega] at tp⊢
 rw[show i+(m+1)=i+m+1 from by omega]
 refine⟨?_, ?_, ?_⟩
 ·rw[Nat.mod_eq_of_lt hDt,Nat.le_div_iff_mul_le (Nat.pow_pos hB)]
  exact hD1
 ·rw[Nat.mod_eq_of_lt hDt]
  exact Nat.le_trans (Nat.mod_le _ _) tp
 ·rw[t3,t2]
  intro g hg hlow hup;refine NC hB hX ?_ hg hlow hup;have e1:1*4294967296^ (m+1)≤2147483648*4294967296^ (m+1):=Nat.mul_le_mul_right _ (by omega);rw[Nat.one_mul] at e1;exact Nat.le_trans e1 hD1
theorem Iv {A D M N i q:Nat}{R os cur:List Nat}(h:Jm A D M R os N (i+1))(hi:i<M)(hq:q<4294967296)(hl:cur.length=R.length)(sc:Dg.Small 4294967296 cur)
  (hv:Dg.vl 4294967296 cur+4294967296^i*(D*q)=Dg.vl 4294967296 R) (hlt:Dg.vl 4294967296 cur<D*4294967296^i):Jm A D M cur (os.set i q) N i:=by
 obtain⟨h1,h2,h3,h4,h5,h6,h7⟩:=h;refine⟨by omega,by simpa using h2,sc,Dg.small_set h4 _ _ hq,fun j hj=> ?_, ?_,hlt⟩
 ·rw[Dg.getD_set _ _ _ _ (by omega),if_neg (by omega)];exact h5 j (by omega)
 ·have hs:=Dg.vl_set 4294967296 os i q (by omega)
  rw[h5 i (by omega),Nat.mul_zero,Nat.add_zero] at hs;rw[hs,Nat.mul_add,←h6,←hv];have e:D*(4294967296^i*q)=4294967296^i*(D*q):=by rw[←Nat.mul_assoc,←Nat.mul_assoc,Nat.mul_comm D]
  rw[e];omega
theorem acV (l:List Nat)(n:Nat):Dg.vl 4294967296 (l++List.replicate n 0)=Dg.vl 4294967296 l:=by
 rw[Dg.vl_append,Dg.vl_zeros 4294967296 (List.replicate n 0) (fun i=>by
  by_cases h:i<n
  ·simp[List.getD_eq_getElem?_getD,h]
  ·simp[List.getD_eq_getElem?_getD,h]),Nat.mul_zero,Nat.add_zero]
theorem TM {l m:List Nat}(h:Dg.Small 4294967296 l)(k:Dg.Small 4294967296 m):Dg.Small 4294967296 (l++m):=by
 intro i
 by_cases hi:i<l.length
 ·have:=h i
  simpa[List.getD_eq_getElem?_getD,List.getElem?_append_left hi] using this
 ·have:=k (i-l.length)
  simpa[List.getD_eq_getElem?_getD,List.getElem?_append_right (Nat.le_of_not_lt hi)] using this
theorem CV (n:Nat):Dg.Small 4294967296 (List.replicate n 0):=by
 intro i
 by_cases h:i<n
 ·simp[List.getD_eq_getElem?_getD,h]
 ·simp[List.getD_eq_getElem?_getD,h]
theorem Pj {X na nn s D:Nat}{az:List Nat}(haz:Dg.dg 4294967296 (X*2^s)=az)(hal:az.length≤na+1)(hX:X<4294967296^na)(hs:s<32)(hn:1≤nn)(hle:nn≤na+1)(hD1:2147483648*4294967296^ (nn-1)≤D):
  Jm (X*2^s) D (na+1-nn) (az++(List.replicate (na+1) 0).drop az.length) (List.replicate (na+1-nn) 0) (na+1) (na+1-nn):=by
 have sz:Dg.Small 4294967296 az:=by rw[←haz];exact Dg.small_dg _ _ (by omega)
 have hv:Dg.vl 4294967296 (az++(List.replicate (na+1) 0).drop az.length)=X*2^s:=by
  rw[List.drop_replicate,acV,←haz,Dg.vl_dg _ _ (by omega)]
 refine⟨by simp;omega,by simp, ?_,CV _,fun j _=>EP _ j, ?_, ?_⟩
 ·rw[List.drop_replicate]
  exact TM sz (CV _)
 ·rw[hv,Dg.vl_zeros _ _ (EP _),Nat.mul_zero,Nat.zero_add]
 ·rw[hv]
  have e1:2147483648*4294967296^ (nn-1)*4294967296^ (na+1-nn)≤D*4294967296^ (na+1-nn):=Nat.mul_le_mul_right _ hD1;rw[Nat.mul_assoc,←Nat.pow_add,show nn-1+(na+1-nn)=na from by omega] at e1
  have e2:X*2^s<4294967296^na*2^s:=Nat.mul_lt_mul_of_pos_right hX (Nat.pow_pos (by omega));have e3:4294967296^na*2^s≤4294967296^na*2^31:=Nat.mul_le_mul_left _ (Nat.pow_le_pow_right (by omega) (by omega));rw[show(2:Nat)^31=2147483648 from rfl,Nat.mul_comm _ 2147483648] at e3
  omega
theorem Xs {X Y s M N:Nat}{R os:List Nat}(hY:0<Y)(h:Jm (X*2^s) (Y*2^s) M R os N 0):Dg.vl 4294967296 os=X/Y∧Dg.vl 4294967296 R/2^s=X % Y:=by
 obtain⟨-,-,-,-,-,h6,h7⟩:=h;rw[Nat.pow_zero,Nat.mul_one] at h7;have hp:0<2^s:=Nat.pow_pos (by omega);have hD:0<Y*2^s:=Nat.mul_pos hY hp;have e1:X*2^s/(Y*2^s)=Dg.vl 4294967296 os:=by
  rw[←h6,Nat.mul_add_div hD,Nat.div_eq_of_lt h7,Nat.add_zero]
 have e2:X*2^s % (Y*2^s)=Dg.vl 4294967296 R:=by
  rw[←h6,Nat.mul_add_mod,Nat.mod_eq_of_lt h7]
 rw[Nat.mul_div_mul_right _ _ hp] at e1;rw[Nat.mul_mod_mul_right] at e2;refine⟨e1.symm, ?_⟩;rw[←e2,Nat.mul_div_cancel _ hp]
theorem wV (r:Nat):(((Dg.dg 4294967296 r).length:Int)==0)=decide (r=0):=by
 have h:=Dg.dg_nil_iff 4294967296 r (by omega)
 by_cases h0:r=0
 ·rw[h.2 h0]
  simp[h0]
 ·have e:(((Dg.dg 4294967296 r).length:Int)==0)=false:=by
   simp;exact fun e=>h0 (h.1 e)
  rw[e];simp[h0]
end Go.Proofs.YtpgijbdgljkeeaaGreatDoor

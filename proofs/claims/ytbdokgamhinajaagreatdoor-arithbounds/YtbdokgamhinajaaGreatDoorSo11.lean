/-
  Texts laid together: Take, Back, Long0, Long, Long1.
-/
import Derived.Test.YtbdokgamhinajaaGreatDoorSo10
set_option maxRecDepth 100000
set_option maxHeartbeats 3200000
namespace Go.Proofs.YtbdokgamhinajaaGreatDoor
open _root_.Go.Proofs.Tryz
open Go.RowKit
def SX (R cur ys:List Nat)(i t k c b:Nat):Prop:=
 cur.length=R.length∧Dg.Small 4294967296 cur∧c<4294967296∧b≤1∧(∀j,i+k≤j→cur.getD j 0=R.getD j 0)∧Dg.vl 4294967296 cur+4294967296^i*(Dg.vl 4294967296 (ys.take k)*t)=Dg.vl 4294967296 R+4294967296^ (i+k)*(b+c)
theorem VS {R cur ys:List Nat}{i t k c b y p ct:Nat}(h:SX R cur ys i t k c b)(_hk:k<ys.length)(hl:i+k<R.length)(hy:ys.getD k 0=y)(hp:R.getD (i+k) 0=p)(hpl:p<4294967296)(hct:ct=c+y*t)(hcl:ct/4294967296<4294967296):
  SX R (cur.set (i+k) ((p+4294967296-ct % 4294967296-b) % 4294967296)) ys i t (k+1) (ct/4294967296) (brw p (ct % 4294967296) b):=by
 obtain⟨h1,h2,h3,h4,h5,h6⟩:=h;refine⟨by simpa using h1,Dg.small_set h2 _ _ (Nat.mod_lt _ (by omega)),hcl,RN _ _ _,fun j hj=> ?_, ?_⟩
 ·rw[Dg.getD_set _ _ _ _ (by omega),if_neg (by omega)];exact h5 j (by omega)
 ·have hs:=Dg.vl_set 4294967296 cur (i+k) ((p+4294967296-ct % 4294967296-b) % 4294967296) (by omega)
  rw[h5 _ (Nat.le_refl _),hp] at hs;have hlo:ct % 4294967296<4294967296:=Nat.mod_lt _ (by omega);have eb:p+4294967296*brw p (ct % 4294967296) b=(p+4294967296-ct % 4294967296-b) % 4294967296+ct % 4294967296+b:=by unfold brw;split<;>omega
  generalize hnew:(p+4294967296-ct % 4294967296-b) % 4294967296=new at*;generalize brw p (ct % 4294967296) b=b' at*;rw[iV,hy];have e1:4294967296^i*((Dg.vl 4294967296 (ys.take k)+4294967296^k*y)*t)=4294967296^i*(Dg.vl 4294967296 (ys.take k)*t)+4294967296^ (i+k)*(y*t):=by
   rw[Nat.add_mul,Nat.mul_add,Nat.pow_add,Nat.mul_assoc,Nat.mul_assoc]
  have e2:4294967296^ (i+(k+1))*(b'+ct/4294967296)=4294967296^ (i+k)*(4294967296*b'+4294967296*(ct/4294967296)):=by
   rw[show i+(k+1)=i+k+1 from by omega,Nat.pow_succ,Nat.mul_assoc,Nat.mul_add]
  have e3:=Nat.mod_add_div ct 4294967296;have e4:4294967296^ (i+k)*(4294967296*b'+4294967296*(ct/4294967296)+p)=4294967296^ (i+k)*(new+b+c+y*t):=by congr 1;omega
  rw[Nat.mul_add,Nat.mul_add,Nat.mul_add,Nat.mul_add,Nat.mul_add] at e4;rw[Nat.mul_add] at h6;rw[e1,e2,Nat.mul_add];omega
theorem VT {R cur ys:List Nat}{i t c b p:Nat}(h:SX R cur ys i t ys.length c b)(hl:i+ys.length<R.length)(hp:R.getD (i+ys.length) 0=p)(hpl:p<4294967296):
  (cur.set (i+ys.length) ((p+4294967296-c-b) % 4294967296)).length=R.length∧Dg.Small 4294967296 (cur.set (i+ys.length) ((p+4294967296-c-b) % 4294967296))∧(∀j,i+ys.length<j→(cur.set (i+ys.length) ((p+4294967296-c-b) % 4294967296)).getD j 0=R.getD j 0)∧
   Dg.vl 4294967296 (cur.set (i+ys.length) ((p+4294967296-c-b) % 4294967296))+4294967296^i*(Dg.vl 4294967296 ys*t)=Dg.vl 4294967296 R+4294967296^ (i+ys.length+1)*brw p c b:=by
 obtain⟨h1,h2,h3,h4,h5,h6⟩:=h;refine⟨by simpa using h1,Dg.small_set h2 _ _ (Nat.mod_lt _ (by omega)),fun j hj=> ?_, ?_⟩
 ·rw[Dg.getD_set _ _ _ _ (by omega),if_neg (by omega)];exact h5 j (by omega)
 ·have hs:=Dg.vl_set 4294967296 cur (i+ys.length) ((p+4294967296-c-b) % 4294967296) (by omega)
  rw[h5 _ (Nat.le_refl _),hp] at hs;have eb:p+4294967296*brw p c b=(p+4294967296-c-b) % 4294967296+c+b:=by unfold brw;split<;>omega
  generalize(p+4294967296-c-b) % 4294967296=new at*;generalize brw p c b=b' at*;rw[List.take_of_length_le (Nat.le_refl _)] at h6;have e2:4294967296^ (i+ys.length+1)*b'=4294967296^ (i+ys.length)*(4294967296*b'):=by rw[Nat.pow_succ,Nat.mul_assoc]
  have e4:4294967296^ (i+ys.length)*(p+4294967296*b')=4294967296^ (i+ys.length)*(new+c+b):=by rw[eb]
  rw[Nat.mul_add,Nat.mul_add,Nat.mul_add] at e4;rw[Nat.mul_add] at h6;rw[e2];omega
def acc (R cur ys:List Nat)(i t b:Nat):Prop:=
 cur.length=R.length∧Dg.Small 4294967296 cur∧(∀j,i+ys.length<j→cur.getD j 0=R.getD j 0)∧b≤1∧Dg.vl 4294967296 cur+4294967296^i*(Dg.vl 4294967296 ys*t)=Dg.vl 4294967296 R+4294967296^ (i+ys.length+1)*b
theorem H7 (g N i pc base t:Nat)(R ys:List Nat)(vb:Value)(w:World)(ho:Own w base 148 .u32 (.slice (some ⟨g,0,none⟩) N N) R)(sR:Dg.Small 4294967296 R)(sb:Dg.Small 4294967296 ys)
  (hby: ∀w',w.grownBy w' (some g)→Rd w' .u32 vb ys) (hl:i+ys.length<R.length) (ht:t<4294967296) (hRl:R.length≤2000000):
  yC 190 #[.slice (some ⟨g,i,none⟩) (ys.length+1) pc,vb,.int .u32 t] w fun e w'=>
   ∃(b:Nat) (cur:List Nat),e= .returned (.bool (decide (b=1)))∧acc R cur ys i t b∧Own w' base 148 .u32 (.slice (some ⟨g,0,none⟩) N N) cur∧w.grownBy w' (some g):=by
 obtain⟨bo,cb,rfl⟩:=(hby w (ib _ _)).shape;have HBY:Hid _:=hby
 clear hby
 go_enter func190,ntmps190
 go_wp2
 go_loopw [7,8,14] (fun cv bv kv wr=> ∃(k c b:Nat) (cur:List Nat),k≤ys.length∧kv=yi k∧cv= .int .u64 c∧bv= .int .u32 b∧Own wr base 148 .u32 (.slice (some ⟨g,0,none⟩) N N) cur∧SX R cur ys i t k c b∧w.grownBy wr (some g)) (fun _ _ kv _=>ys.length-(intOf kv).toNat)
 case atStart=>exact⟨0,0,0,R,Nat.zero_le _,rfl,rfl,rfl,ho,⟨rfl,sR,by omega,by omega,fun _ _=>rfl,by simp[Dg.vl]⟩,ib _ _⟩
 case round=>
  clear ho;obtain⟨k,c,b,cur,hk,rfl,rfl,rfl,own,hI,gr⟩:=hrel;have hcl:=hI.1;have hc32:=hI.2.2.1;have hb1:=hI.2.2.2.1
  by_cases hlt:k<ys.length
  ·obtain⟨-,-,hcb⟩:=iQ (HBY.out wr gr)
   obtain⟨b2,off2,rfl,hcell2⟩:=hcb (by omega);have hy:=hcell2 k hlt;have hyl:=sb k;have hp:=own.c (i+k) (by omega);have hf:=own.f (i+k);rw[hI.2.2.2.2.1 _ (Nat.le_refl _)] at hp;have hpl:=sR (i+k);obtain⟨y,ey⟩: ∃y,ys.getD k 0=y:=⟨_,rfl⟩;obtain⟨p,ep⟩: ∃p,R.getD (i+k) 0=p:=⟨_,rfl⟩;rw[ey] at hy hyl;rw[ep] at hp hpl;have hxy:=uf hyl ht;have hxyI:(y:Int)*(t:Int)≤18446744065119617025:=by rw[←Int.natCast_mul];omega
   have hxy0:0≤(y:Int)*(t:Int):=by rw[←Int.natCast_mul];omega
   have hst:=VS hI hlt (by omega) ey ep hpl rfl (by omega);have hlo:(c+y*t) % 4294967296<4294967296:=Nat.mod_lt _ (by omega);have hs32:=zA p ((c+y*t) % 4294967296) b wr hpl hlo hb1;rw[←Sd] at hs32;have HST:Hid _:=hst;obtain⟨nw,hnw⟩: ∃nw,(p+4294967296-(c+y*t) % 4294967296-b) % 4294967296=nw:=⟨_,rfl⟩;obtain⟨nb,hnb⟩: ∃nb,brw p ((c+y*t) % 4294967296) b=nb:=⟨_,rfl⟩;rw[hnw,hnb] at hs32 HST;clear ey ep hcell2 hcb hst hlo hcl hnw hnb
   go_wp2_with fail
   refine hs32.mono ?_;rintro e w' ⟨rfl,rfl⟩;clear hs32
   go_wp2
   go_roundw
   case rel=>
    rw[Se];exact⟨k+1,_,nb,_,by omega,by go_num,rfl,rfl,own.store (i+k) _,HST.out,eF gr (bI _ _ _ _)⟩
   case measure=>simp[intOf];omega
  ·have hke:k=ys.length:=by omega
   subst hke;have hp:=own.c (i+ys.length) (by omega);have hf:=own.f (i+ys.length);rw[hI.2.2.2.2.1 _ (Nat.le_refl _)] at hp;have hpl:=sR (i+ys.length);obtain⟨p,ep⟩: ∃p,R.getD (i+ys.length) 0=p:=⟨_,rfl⟩;rw[ep] at hp hpl;have hst:=VT hI hl ep hpl;have hs32:=zA p c b wr hpl hc32 hb1;have hbl:=RN p c b;obtain⟨nw,hnw⟩: ∃nw,(p+4294967296-c-b) % 4294967296=nw:=⟨_,rfl⟩;obtain⟨nb,hnb⟩: ∃nb,brw p c b=nb:=⟨_,rfl⟩;rw[hnw,hnb] at hs32 hst;rw[hnb] at hbl;have HST:Hid (acc R (cur.set (i+ys.length) nw) ys i t nb):=⟨hst.1,hst.2.1,hst.2.2.1,hbl,hst.2.2.2⟩;have own2:=own.store (i+ys.length) nw;have gr2:=eF gr (bI wr g (i+ys.length) (.int .u32 (nw:Int)));clear ep hst hcl hnw hnb
   go_wp2_with fail
   refine hs32.mono ?_;rintro e w' ⟨rfl,rfl⟩;clear hs32
   by_cases hz:nb=0
   ·subst hz
    go_wp2
    go_ret
    exact⟨0,_,rfl,HST,own2,gr2⟩
   ·have hz1:nb=1:=by omega
    subst hz1
    go_wp2
    go_ret
    exact⟨1,_,rfl,HST,own2,gr2⟩
def Sp (R cur ys:List Nat)(i k c:Nat):Prop:=
 cur.length=R.length∧Dg.Small 4294967296 cur∧c≤1∧(∀j,i+k≤j→cur.getD j 0=R.getD j 0)∧Dg.vl 4294967296 cur+4294967296^ (i+k)*c=Dg.vl 4294967296 R+4294967296^i*Dg.vl 4294967296 (ys.take k)
theorem TV {R cur ys:List Nat}{i k c y p:Nat}(h:Sp R cur ys i k c)(hl:i+k<R.length)(hy:ys.getD k 0=y)(hp:R.getD (i+k) 0=p)(hpl:p<4294967296)(hyl:y<4294967296):
  Sp R (cur.set (i+k) ((p+y+c) % 4294967296)) ys i (k+1) ((p+y+c)/4294967296):=by
 obtain⟨h1,h2,h3,h5,h6⟩:=h;refine⟨by simpa using h1,Dg.small_set h2 _ _ (Nat.mod_lt _ (by omega)),by omega,fun j hj=> ?_, ?_⟩
 ·rw[Dg.getD_set _ _ _ _ (by omega),if_neg (by omega)];exact h5 j (by omega)
 ·have hs:=Dg.vl_set 4294967296 cur (i+k) ((p+y+c) % 4294967296) (by omega)
  rw[h5 _ (Nat.le_refl _),hp] at hs;rw[iV,hy];generalize hT:p+y+c=T at*;have e1:4294967296^i*(Dg.vl 4294967296 (ys.take k)+4294967296^k*y)=4294967296^i*Dg.vl 4294967296 (ys.take k)+4294967296^ (i+k)*y:=by rw[Nat.mul_add,Nat.pow_add,Nat.mul_assoc]
  have e2:4294967296^ (i+(k+1))*(T/4294967296)=4294967296^ (i+k)*(4294967296*(T/4294967296)):=by rw[show i+(k+1)=i+k+1 from by omega,Nat.pow_succ,Nat.mul_assoc]
  have e3:4294967296^ (i+k)*T=4294967296^ (i+k)*(T % 4294967296)+4294967296^ (i+k)*(4294967296*(T/4294967296)):=by rw[←Nat.mul_add,Nat.mod_add_div]
  have e4:4294967296^ (i+k)*T=4294967296^ (i+k)*p+4294967296^ (i+k)*y+4294967296^ (i+k)*c:=by rw[←hT,Nat.mul_add,Nat.mul_add]
  rw[e1,e2];omega
def Py (R cur ys:List Nat)(i o:Nat):Prop:=
 cur.length=R.length∧Dg.Small 4294967296 cur∧(∀j,i+ys.length<j→cur.getD j 0=R.getD j 0)∧o≤1∧Dg.vl 4294967296 cur+4294967296^ (i+ys.length+1)*o=Dg.vl 4294967296 R+4294967296^i*Dg.vl 4294967296 ys
theorem TW {R cur ys:List Nat}{i c p:Nat}(h:Sp R cur ys i ys.length c)(hl:i+ys.length<R.length)(hp:R.getD (i+ys.length) 0=p)(hpl:p<4294967296):
  Py R (cur.set (i+ys.length) ((p+c) % 4294967296)) ys i ((p+c)/4294967296):=by
 obtain⟨h1,h2,h3,h5,h6⟩:=h;refine⟨by simpa using h1,Dg.small_set h2 _ _ (Nat.mod_lt _ (by omega)),fun j hj=> ?_,by omega, ?_⟩
 ·rw[Dg.getD_set _ _ _ _ (by omega),if_neg (by omega)];exact h5 j (by omega)
 ·have hs:=Dg.vl_set 4294967296 cur (i+ys.length) ((p+c) % 4294967296) (by omega)
  rw[h5 _ (Nat.le_refl _),hp] at hs;rw[List.take_of_length_le (Nat.le_refl _)] at h6;generalize hT:p+c=T at*;have e2:4294967296^ (i+ys.length+1)*(T/4294967296)=4294967296^ (i+ys.length)*(4294967296*(T/4294967296)):=by rw[Nat.pow_succ,Nat.mul_assoc]
  have e3:4294967296^ (i+ys.length)*T=4294967296^ (i+ys.length)*(T % 4294967296)+4294967296^ (i+ys.length)*(4294967296*(T/4294967296)):=by rw[←Nat.mul_add,Nat.mod_add_div]
  have e4:4294967296^ (i+ys.length)*T=4294967296^ (i+ys.length)*p+4294967296^ (i+ys.length)*c:=by rw[←hT,Nat.mul_add]
  rw[e2];omega
theorem Mj (g N i pc base:Nat)(R ys:List Nat)(vb:Value)(w:World)(ho:Own w base 148 .u32 (.slice (some ⟨g,0,none⟩) N N) R)(sR:Dg.Small 4294967296 R)(sb:Dg.Small 4294967296 ys)
  (hby: ∀w',w.grownBy w' (some g)→Rd w' .u32 vb ys) (hl:i+ys.length<R.length) (hRl:R.length≤2000000):
  yC 191 #[.slice (some ⟨g,i,none⟩) (ys.length+1) pc,vb] w fun e w'=>
   ∃(o:Nat) (cur:List Nat),e= .returned (.tuple #[])∧Py R cur ys i o∧Own w' base 148 .u32 (.slice (some ⟨g,0,none⟩) N N) cur∧w.grownBy w' (some g):=by
 obtain⟨bo,cb,rfl⟩:=(hby w (ib _ _)).shape;have HBY:Hid _:=hby
 clear hby
 go_enter func191,ntmps191
 go_wp2
 go_loopw [4,9] (fun cv kv wr=> ∃(k c:Nat) (cur:List Nat),k≤ys.length∧kv=yi k∧cv= .int .u32 c∧Own wr base 148 .u32 (.slice (some ⟨g,0,none⟩) N N) cur∧Sp R cur ys i k c∧w.grownBy wr (some g)) (fun _ kv _=>ys.length-(intOf kv).toNat)
 case atStart=>exact⟨0,0,R,Nat.zero_le _,rfl,rfl,ho,⟨rfl,sR,by omega,fun _ _=>rfl,by simp[Dg.vl]⟩,ib _ _⟩
 case round=>
  clear ho;obtain⟨k,c,cur,hk,rfl,rfl,own,hI,gr⟩:=hrel;have hcl:=hI.1;have hc1:=hI.2.2.1
  by_cases hlt:k<ys.length
  ·obtain⟨-,-,hcb⟩:=iQ (HBY.out wr gr)
   obtain⟨b2,off2,rfl,hcell2⟩:=hcb (by omega);have hy:=hcell2 k hlt;have hyl:=sb k;have hp:=own.c (i+k) (by omega);have hf:=own.f (i+k);rw[hI.2.2.2.1 _ (Nat.le_refl _)] at hp;have hpl:=sR (i+k);obtain⟨y,ey⟩: ∃y,ys.getD k 0=y:=⟨_,rfl⟩;obtain⟨p,ep⟩: ∃p,R.getD (i+k) 0=p:=⟨_,rfl⟩;rw[ey] at hy hyl;rw[ep] at hp hpl;have hst:=TV hI (by omega) ey ep hpl hyl;have ha32:=ur p y c wr hpl hyl hc1;clear ey ep hcell2 hcb hcl
   go_wp2_with fail
   refine ha32.mono ?_;rintro e w' ⟨rfl,rfl⟩;clear ha32
   go_wp2
   go_roundw
   case rel=>exact⟨k+1,_,_,by omega,by go_num,rfl,own.store (i+k) _,hst,eF gr (bI _ _ _ _)⟩
   case measure=>simp[intOf];omega
  ·have hke:k=ys.length:=by omega
   subst hke;have hp:=own.c (i+ys.length) (by omega);have hf:=own.f (i+ys.length);rw[hI.2.2.2.1 _ (Nat.le_refl _)] at hp;have hpl:=sR (i+ys.length);obtain⟨p,ep⟩: ∃p,R.getD (i+ys.length) 0=p:=⟨_,rfl⟩;rw[ep] at hp hpl;have hst:=TW hI hl ep hpl;have e0:((p:Int)+(c:Int)) % 4294967296=(((p+c) % 4294967296:Nat):Int):=by omega
   have own2:=own.store (i+ys.length) ((p+c) % 4294967296);have gr2:=eF gr (bI wr g (i+ys.length) (.int .u32 (((p+c) % 4294967296:Nat):Int)));rw[←e0] at own2 gr2;have HST:Hid _:=hst;clear ep hst hcl e0
   go_wp2
   go_end0
   exact⟨_,_,rfl,HST,own2,gr2⟩
theorem XC (x:Nat)(w:World)(h:x<4294967296):yC 188 #[.int .u32 x] w fun e w'=>e= .returned (yi ((32-bitLen x:Nat):Int))∧w'=w:=by
 have hl:=IK x w h;have hb:=bF x 32 (by omega);obtain⟨l,hl2⟩: ∃l,bitLen x=l:=⟨_,rfl⟩;rw[hl2] at hl hb⊢;clear hl2
 go_enter func188,ntmps188
 go_wp2_with fail
 refine hl.mono ?_;rintro e w' ⟨rfl,rfl⟩
 go_wp2
 go_ret
 exact⟨by go_num,rfl⟩
def msr (v:Value):Nat:=(intOf v).toNat
def GsR (w:World)(g at0 top d1 d0 p0:Nat)(gv rv:Value)(wr:World):Prop:=
 ∃(t r:Nat),gv= .int .u64 t∧rv= .int .u64 r∧Hid (GsI top d1 d0 p0 t r)∧r<4294967296∧t≤4294967297∧wr.cell? ⟨g,at0,none⟩=some (.int .u32 p0)∧yB w wr
theorem Ap {x:Nat}(h:x<4294967296):(x:Int) % 4294967296=(x:Int):=by omega
theorem Mk {top d1 d0 p0 p1 p2 g r:Nat}(h:GsI top d1 d0 p0 g r)(hr:4294967296≤r)(_hd:0<d1)(ht:p2*4294967296+p1=top)(hle:p2≤d1)(hp:p1<4294967296)(h0:d0<4294967296):
  g<4294967296∧g*(d1*4294967296+d0)≤top*4294967296+p0:=by
 have hg:g<4294967296:=by
  rcases Nat.lt_or_ge g 4294967296 with e|e
  ·exact e
  ·exfalso
   have h1:=h.1;have h2:4294967296*d1≤g*d1:=Nat.mul_le_mul_right _ e;omega
 refine⟨hg,Z2 h ?_⟩;have:g*d0≤4294967296*4294967296:=Nat.mul_le_mul (by omega) (by omega);omega
theorem TX (g i n pc:Nat)(bb boff cb:Nat)(p2 p1 p0 d1 d0:Nat)(w:World)(hn:2≤n)(hnl:n≤2000000)(_hil:i≤2000000)
  (c2:w.cell? ⟨g,i+n,none⟩=some (.int .u32 p2)) (c1:w.cell? ⟨g,i+(n-1),none⟩=some (.int .u32 p1)) (c0:w.cell? ⟨g,i+(n-2),none⟩=some (.int .u32 p0))
  (e1:w.cell? ⟨bb,boff+(n-1),none⟩=some (.int .u32 d1)) (e0:w.cell? ⟨bb,boff+(n-2),none⟩=some (.int .u32 d0))
  (hp2:p2<4294967296) (hp1:p1<4294967296) (hp0:p0<4294967296) (hd1:d1<4294967296) (hd0:d0<4294967296) (hd:2147483648≤d1) (hle:p2≤d1):
  yC 189 #[.slice (some ⟨g,i,none⟩) (n+1) pc,.slice (some ⟨bb,boff,none⟩) n cb] w fun e w'=>
   ∃q:Nat,e= .returned (.int .u32 q)∧q<4294967296∧(∀k,k*(d1*4294967296+d0)≤(p2*4294967296+p1)*4294967296+p0→k<4294967296→k≤q)∧q*(d1*4294967296+d0)≤(p2*4294967296+p1)*4294967296+p0∧yB w w':=by
 have hor:=KJ p2 p1 hp2 hp1;obtain⟨top,ht⟩: ∃top,p2*4294967296+p1=top:=⟨_,rfl⟩;rw[ht] at hor⊢;have htl:top<18446744073709551616:=by omega
 have hst:=Z1 top d1 d0 p0 (by omega) hp0;obtain⟨q0,hq0⟩: ∃q,top/d1=q:=⟨_,rfl⟩;obtain⟨r0,hr0⟩: ∃r,top % d1=r:=⟨_,rfl⟩;have hr0l:r0<d1:=by rw[←hr0];exact Nat.mod_lt _ (by omega)
 have hq0l:q0≤4294967297:=by
  rw[←hq0];have:top/d1<4294967298:=by rw[Nat.div_lt_iff_lt_mul (by omega)];omega
  omega
 have f1:(top:Int)/(d1:Int)=(q0:Int):=by rw[←hq0];exact(Int.natCast_ediv top d1).symm
 have f2:(top:Int) % (d1:Int)=(r0:Int):=by rw[←hr0];exact(Int.natCast_emod top d1).symm
 have g1:IntKind.u64.wrap d1=(d1:Int):=IntWalk.u64_in _ ⟨by omega,by omega⟩;rw[hq0,hr0] at hst;have HTop:Hid _:=ht;clear hq0 hr0 ht;have n1:((n:Int)-1)=((n-1:Nat):Int):=by omega
 have n2:((n:Int)-2)=((n-2:Nat):Int):=by omega
 go_enter func189,ntmps189
 go_wp2
 go_quiet (fail)
 go_wp2
 go_quiet (fail)
 go_wp2
 go_quiet (fail)
 go_wp2
 go_loopw [9,10] (fun gv rv wr=>GsR w g (i+(n-2)) top d1 d0 p0 gv rv wr) (fun gv _ _=>msr gv)
 case atStart=>exact⟨q0,r0,rfl,by rw[f2],hst,by omega,hq0l,c0,aL (aL (aL (Below.refl _ _) _) _) _⟩
 case round=>
  clear c0 hst c1 c2 e0 e1 f1 f2 hr0l hq0l hor;obtain⟨t,r,rfl,rfl,HI,hr,ht1,hc0,bel⟩:=hrel;have hI:=HI.out;have hor:=KJ r p0 hr hp0
  by_cases hbig:4294967296≤t
  ·have hst:=S9 hI (by omega) (.inl hbig)
   have hbI:(4294967296:Int)≤(t:Int):=by omega
   have m1:((t:Int)-1)=((t-1:Nat):Int):=by omega
   have HS:Hid _:=hst
   by_cases hbr:4294967296≤r+d1
   ·have hfin:=Mk hst hbr (by omega) HTop.out hle hp1 hd0
    have HF:Hid _:=hfin;have hbrI:(4294967296:Int)≤(r:Int)+(d1:Int):=by omega
    clear hfin hst hI hbr
    go_wp2
    go_ret
    exact⟨t-1,by first|rfl| (rw[Ap HF.out.1];rfl),HF.out.1,HS.out.2,HF.out.2,bel⟩
   ·obtain⟨rd,hrd⟩: ∃rd,r+d1=rd:=⟨_,rfl⟩
    rw[hrd] at HS hbr;have hrdI:(r:Int)+(d1:Int)=(rd:Int):=by omega
    have hbrN:rd<4294967296:=by omega
    have hrdJ:(rd:Int)<4294967296:=by omega
    have hrdD:decide ((4294967296:Int)≤(rd:Int))=false:=by rw[decide_eq_false_iff_not];omega
    clear hst hI hbr hrd
    go_wp2
    go_roundw
    case rel=>exact⟨t-1,rd,rfl,rfl,HS.out,hbrN,by omega,hc0,bel⟩
    case measure=>simp[msr,intOf];omega
  ·have hbI:(t:Int)<4294967296:=by omega
   have hbN:t<4294967296:=by omega
   have hbd:decide ((4294967296:Int)≤(t:Int))=false:=by rw[decide_eq_false_iff_not];omega
   have hxy:=uf hbN hd0;have hxyI:(t:Int)*(d0:Int)≤18446744065119617025:=by rw[←Int.natCast_mul];omega
   have hxy0:0≤(t:Int)*(d0:Int):=by rw[←Int.natCast_mul];omega
   have hsum:r*4294967296+p0<18446744073709551616:=by omega
   obtain⟨sm,hsm⟩: ∃sm,r*4294967296+p0=sm:=⟨_,rfl⟩;rw[hsm] at hor hsum
   by_cases hgt:sm<t*d0
   ·have hpos:0<t:=by
     rcases Nat.eq_zero_or_pos t with e|e
     ·rw[e,Nat.zero_mul] at hgt;omega
     ·exact e
    have hgtI:(sm:Int)< (t:Int)*(d0:Int):=by rw[←Int.natCast_mul];omega
    have hst:=S9 hI hpos (.inr (by rw[hsm];exact hgt));clear hbig hsm hgt;have m1:((t:Int)-1)=((t-1:Nat):Int):=by omega
    have HS:Hid _:=hst
    by_cases hbr:4294967296≤r+d1
    ·have hfin:=Mk hst hbr (by omega) HTop.out hle hp1 hd0
     have HF:Hid _:=hfin;have hbrI:(4294967296:Int)≤(r:Int)+(d1:Int):=by omega
     clear hfin hst hI hbr
     go_wp2
     go_ret
     exact⟨t-1,by first|rfl| (rw[Ap HF.out.1];rfl),HF.out.1,HS.out.2,HF.out.2,bel⟩
    ·obtain⟨rd,hrd⟩: ∃rd,r+d1=rd:=⟨_,rfl⟩
     rw[hrd] at HS hbr;have hrdI:(r:Int)+(d1:Int)=(rd:Int):=by omega
     have hbrN:rd<4294967296:=by omega
     have hrdJ:(rd:Int)<4294967296:=by omega
     have hrdD:decide ((4294967296:Int)≤(rd:Int))=false:=by rw[decide_eq_false_iff_not];omega
     clear hst hI hbr hrd
     go_wp2
     go_roundw
     case rel=>exact⟨t-1,rd,rfl,rfl,HS.out,hbrN,by omega,hc0,bel⟩
     case measure=>simp[msr,intOf];omega
   ·have hgtI:(t:Int)*(d0:Int)≤(sm:Int):=by rw[←Int.natCast_mul];omega
    have hfin:=Z2 hI (by rw[hsm];omega);have HF:Hid _:=hfin;have hgd:decide ((sm:Int)< (t:Int)*(d0:Int))=false:=by rw[decide_eq_false_iff_not];omega
    clear hbig hsm hgt hfin hI
    go_wp2
    go_ret
    exact⟨t,by first|rfl| (rw[Ap hbN];rfl),hbN,HI.out.2,HF.out,bel⟩
theorem CG (B:Nat)(l:List Nat)(j:Nat)(hB:0<B)(hs:Dg.Small B l):l.getD j 0=Dg.vl B l/B^j % B:=by
 by_cases h:j<l.length
 ·have h1:=Dg.vl_split B l j h
  have h2:=Dg.vl_lt B (l.take j) (Dg.small_take hs j hB);rw[List.length_take,Nat.min_eq_left (by omega)] at h2;rw[h1,Nat.add_mul_div_left _ _ (Nat.pow_pos hB),Nat.div_eq_of_lt h2,Nat.zero_add,Nat.add_mul_mod_self_left];exact(Nat.mod_eq_of_lt (hs j)).symm
 ·rw[Dg.getD_of_le l j (by omega)]
  have h2:=Dg.vl_lt B l hs;have h3:B^l.length≤B^j:=Nat.pow_le_pow_right hB (by omega);rw[Nat.div_eq_of_lt (by omega),Nat.zero_mod]
theorem Dk (B:Nat)(l:List Nat)(m:Nat)(hB:0<B)(hs:Dg.Small B l)(hz: ∀j,m≤j→l.getD j 0=0):Dg.vl B l<B^m:=by
 by_cases h:m≤l.length
 ·rw[Dg.vl_take_drop B l m h]
  have h1:Dg.vl B (l.drop m)=0:=Dg.vl_zeros B _ (fun i=>by
   have:=hz (m+i) (by omega)
   simpa[List.getD_eq_getElem?_getD,List.getElem?_drop] using this)
  have h2:=Dg.vl_lt B (l.take m) (Dg.small_take hs m hB);rw[List.length_take,Nat.min_eq_left h] at h2;rw[h1,Nat.mul_zero,Nat.add_zero];exact h2
 ·have h2:=Dg.vl_lt B l hs
  have h3:B^l.length≤B^m:=Nat.pow_le_pow_right hB (by omega);omega
theorem NB (B:Nat)(l:List Nat)(m:Nat)(hB:0<B)(hs:Dg.Small B l)(h:Dg.vl B l<B^m)(j:Nat)(hj:m≤j):l.getD j 0=0:=by
 rw[CG B l j hB hs];have h3:B^m≤B^j:=Nat.pow_le_pow_right hB hj;rw[Nat.div_eq_of_lt (by omega),Nat.zero_mod]
theorem adr {B X D i n:Nat}(hB:0<B)(hn:1≤n)(hX:X<D*B^ (i+1)):X/B^ (i+n)≤D/B^ (n-1):=by
 have e:i+n=(i+1)+(n-1):=by omega
 rw[e,Nat.pow_add,←Nat.div_div_eq_div_mul];apply Nat.div_le_div_right;have:=(Nat.div_lt_iff_lt_mul (Nat.pow_pos hB)).2 hX;omega
theorem aeU (B X m:Nat)(hB:0<B)(hX:X<B^ (m+3)):((X/B^ (m+2) % B)*B+X/B^ (m+1) % B)*B+X/B^m % B=X/B^m:=by
 have h1:X/B^ (m+1)=X/B^m/B:=by rw[Nat.pow_succ,Nat.div_div_eq_div_mul]
 have h2:X/B^ (m+2)=X/B^m/B/B:=by rw[show m+2=m+1+1 from rfl,Nat.pow_succ,←Nat.div_div_eq_div_mul,h1]
 have h3:X/B^ (m+2)<B:=by
  rw[Nat.div_lt_iff_lt_mul (Nat.pow_pos hB)];have:B^ (m+3)=B*B^ (m+2):=by rw[show m+3=m+2+1 from rfl,Nat.pow_succ,Nat.mul_comm]
  omega
 rw[Nat.mod_eq_of_lt h3,h2,h1];generalize X/B^m=u;have a1:=Nat.div_add_mod (u/B) B;have a2:=Nat.div_add_mod u B;rw[Nat.mul_comm (u/B/B) B,a1,Nat.mul_comm,a2]
theorem two (B D m:Nat)(hB:0<B)(hD:D<B^ (m+2)):(D/B^ (m+1) % B)*B+D/B^m % B=D/B^m:=by
 have h1:D/B^ (m+1)=D/B^m/B:=by rw[Nat.pow_succ,Nat.div_div_eq_div_mul]
 have h3:D/B^ (m+1)<B:=by
  rw[Nat.div_lt_iff_lt_mul (Nat.pow_pos hB)];have:B^ (m+2)=B*B^ (m+1):=by rw[show m+2=m+1+1 from rfl,Nat.pow_succ,Nat.mul_comm]
  omega
 rw[Nat.mod_eq_of_lt h3,h1];have a2:=Nat.div_add_mod (D/B^m) B;rw[Nat.mul_comm,a2]
theorem SF (x:Nat){E:Nat}(h:0<E):x< (x/E+1)*E:=by
 have h1:=Nat.div_add_mod x E;have h2:=Nat.mod_lt x h;rw[Nat.add_mul,Nat.one_mul,Nat.mul_comm];generalize x % E=r at*;omega
theorem NC {B X D i m g:Nat}(hB:0<B)(hX:X<D*B^ (i+1))(hD:B^ (m+1)≤D)(hg:g<B)
  (hlow: ∀k,k*(D/B^m)≤X/B^ (i+m)→k<B→k≤g) (hup:g*(D/B^m)≤X/B^ (i+m)):
  X/B^i/D<B∧(g=X/B^i/D∨g=X/B^i/D+1):=by
 have hE:0<B^m:=Nat.pow_pos hB;have hD0:0<D:=Nat.lt_of_lt_of_le (Nat.pow_pos hB) hD;have hqB:X/B^i/D<B:=by
  rw[Nat.div_lt_iff_lt_mul hD0,Nat.div_lt_iff_lt_mul (Nat.pow_pos hB),Nat.mul_assoc,Nat.mul_comm B,Nat.mul_assoc,←Nat.pow_succ];exact hX
 refine⟨hqB, ?_⟩;rw[Nat.pow_add,←Nat.div_div_eq_div_mul] at hlow hup;generalize hseg:X/B^i=seg at*;have hv1:D/B^m*B^m≤D:=Nat.div_mul_le_self D _;have hv2:D≤(D/B^m+1)*B^m:=by have:=SF D hE;omega
 have hu1:seg/B^m*B^m≤seg:=Nat.div_mul_le_self seg _;have hu2:seg< (seg/B^m+1)*B^m:=SF seg hE;have hvB:B≤D/B^m:=by
  rw[Nat.le_div_iff_mul_le hE,Nat.mul_comm,←Nat.pow_succ];exact hD
 have l1:=Ox hE hu2 hv1 (Nat.div_mul_le_self seg D);have l2:=hlow _ l1 hqB;have l3:=Oy hup (by omega) hu1 hv2;have l4:g-1≤seg/D:=(Nat.le_div_iff_mul_le hD0).2 l3;omega
theorem ND {X D i B:Nat}(hB:0<B)(hD:0<D):B^i*(D*(X/B^i/D))≤X∧X<B^i*(D*(X/B^i/D))+B^i*D:=by
 have hE:0<B^i:=Nat.pow_pos hB;have h1:=Nat.div_add_mod X (B^i);have h2:=Nat.div_add_mod (X/B^i) D;have h3:=Nat.mod_lt X hE;have h4:=Nat.mod_lt (X/B^i) hD;generalize X/B^i/D=q at*;generalize X/B^i % D=r2 at*;generalize X % B^i=r1 at*;generalize X/B^i=s at*;have h5:B^i*(D*q)≤B^i*s:=Nat.mul_le_mul_left _ (by omega);have h6:B^i*(s+1)≤B^i*(D*q+D):=Nat.mul_le_mul_left _ (by omega);rw[Nat.mul_add,Nat.mul_add,Nat.mul_one] at h6;omega
theorem QQ {X Z T a c x g q b:Nat}(h1:a≤X)(h2:X<a+c)(hx:x=a∨x=a+c)(hg:(x=a→g=q)∧(x=a+c→g=q+1))(hZ:Z+x=X+T*b)(hZl:Z<T)(hb:b≤1):
  (b=0→g=q∧Z+a=X)∧(b=1→g=q+1∧Z+(a+c)=X+T):=by
 constructor
 ·intro e
  subst e
  rcases hx with e|e
  ·exact⟨hg.1 e,by omega⟩
  ·omega
 ·intro e
  subst e
  rcases hx with e|e
  ·omega
  ·exact⟨hg.2 e,by omega⟩
theorem QR {R cur ys:List Nat}{i g b q X D:Nat}(hT:acc R cur ys i g b)(sR:Dg.Small 4294967296 R)(hX:Dg.vl 4294967296 R=X)(hD:Dg.vl 4294967296 ys=D)(hD0:0<D)(hDl:D<4294967296^ys.length)
  (hl:X<D*4294967296^ (i+1)) (hq:X/4294967296^i/D=q) (hg:g=q∨g=q+1):
  (b=0→g=q∧Dg.vl 4294967296 cur+4294967296^i*(D*q)=X∧Dg.vl 4294967296 cur<D*4294967296^i)∧
  (b=1→g=q+1∧ ∀(cur':List Nat) (o:Nat),Py cur cur' ys i o→Dg.vl 4294967296 cur'+4294967296^i*(D*q)=X∧Dg.vl 4294967296 cur'<D*4294967296^i):=by
 have hXT:X<4294967296^ (i+ys.length+1):=by
  have e1:D*4294967296^ (i+1)≤4294967296^ys.length*4294967296^ (i+1):=Nat.mul_le_mul_right _ (by omega);rw[←Nat.pow_add,show ys.length+(i+1)=i+ys.length+1 from by omega] at e1
  omega
 have hzR: ∀j,i+ys.length+1≤j→R.getD j 0=0:=fun j hj=>NB 4294967296 R _ (by omega) sR (by rw[hX];exact hXT) j hj
 obtain⟨t1,t2,t3,t4,t5⟩:=hT;have hzc: ∀j,i+ys.length+1≤j→cur.getD j 0=0:=fun j hj=>by rw[t3 j (by omega)];exact hzR j hj
 have hcl:=Dk 4294967296 cur _ (by omega) t2 hzc;have hb:=ND (X:=X) (D:=D) (i:=i) (B:=4294967296) (by omega) hD0;rw[hq] at hb;rw[hX,hD] at t5;have e3:4294967296^i*(D*(q+1))=4294967296^i*(D*q)+4294967296^i*D:=by rw[Nat.mul_add,Nat.mul_one,Nat.mul_add]
 have e4:4294967296^i*D≤4294967296^ (i+ys.length+1):=by
  have e1:4294967296^i*D≤4294967296^i*4294967296^ys.length:=Nat.mul_le_mul_left _ (by omega);rw[←Nat.pow_add] at e1;have e2:(4294967296:Nat)^ (i+ys.length)≤4294967296^ (i+ys.length+1):=Nat.pow_le_pow_right (by omega) (by omega);omega
 have e5:D*4294967296^i=4294967296^i*D:=Nat.mul_comm _ _;have hc0:0<4294967296^i*D:=Nat.mul_pos (Nat.pow_pos (by omega)) hD0;have hx:4294967296^i*(D*g)=4294967296^i*(D*q)∨4294967296^i*(D*g)=4294967296^i*(D*q)+4294967296^i*D:=by
  rcases hg with e|e
  ·left;rw[e]
  ·right;rw[e,e3]
 have hgq:(4294967296^i*(D*g)=4294967296^i*(D*q)→g=q)∧(4294967296^i*(D*g)=4294967296^i*(D*q)+4294967296^i*D→g=q+1):=by
  constructor
  ·intro e
   rcases hg with h|h
   ·exact h
   ·rw[h,e3] at e;omega
  ·intro e
   rcases hg with h|h
   ·rw[h] at e;omega
   ·exact h
 have hw:=QQ hb.1 hb.2 hx hgq t5 hcl t4;rw[e5];have hb2:=hb.2;have hb1:=hb.1;refine⟨fun h0=> ?_,fun h1=> ?_⟩
 ·have:=hw.1 h0
  exact⟨this.1,this.2,by omega⟩
 ·have h2:=hw.2 h1
  refine⟨h2.1,fun cur' o hB=> ?_⟩
  obtain⟨b1,b2,b3,b4,b5⟩:=hB;have hzc': ∀j,i+ys.length+1≤j→cur'.getD j 0=0:=fun j hj=>by rw[b3 j (by omega)];exact hzc j hj
  have hcl':=Dk 4294967296 cur' _ (by omega) b2 hzc';rw[hD] at b5;have h3:=h2.2;have ho:o=0∨o=1:=by omega
  clear hw hx hgq t5 hzR hzc hzc' t1 t2 t3 b1 b2 b3 h2 hl hXT
  rcases ho with ho|ho
  ·subst ho
   rw[Nat.mul_zero] at b5;omega
  ·subst ho
   rw[Nat.mul_one] at b5;omega
theorem Own.other {w w':World}{base e:Nat}{k:IntKind}{b g n cap:Nat}{zs:List Nat}(h:Own w base e k (.slice (some ⟨b,0,none⟩) n cap) zs)(hg:w.grownBy w' (some g))(hne:b≠g):Own w' base e k (.slice (some ⟨b,0,none⟩) n cap) zs:=by
 have hb:=h.block;obtain⟨hl,h2⟩:=h;refine⟨hl, ?_⟩
 rcases h2 with h2| ⟨g',cap',cur,hv,hbg,hh,r⟩
 ·exact .inl h2
 ·refine .inr ⟨g',cap',cur,hv,hbg, ?_,r⟩
  simp at hv;rw[hg.block g' (by omega) (by intro e;cases e;omega)]
  exact hh
theorem Own.form {w:World}{base e:Nat}{k:IntKind}{v:Value}{zs:List Nat}(h:Own w base e k v zs)(hp:0<zs.length): ∃g cap,v= .slice (some ⟨g,0,none⟩) zs.length cap∧base≤g∧g<w.heap.size∧zs.length≤cap:=by
 have h0:=h;obtain⟨hl,h2⟩:=h
 rcases h2 with⟨_,h2⟩| ⟨g',cap',cur,rfl,hbg,hh,r⟩
 ·omega
 ·exact⟨g',cap',rfl,hbg,h0.block.2,r.1⟩
theorem uB (y:Nat)(h:y≠0):1≤bitLen y∧2^ (bitLen y-1)≤y∧y<2^bitLen y:=by
 induction y using Nat.strongRecOn with
 |_ y ih=>
  rw[vC y h]
  by_cases h2:y/2=0
  ·have:y=1:=by omega
   subst this;simp[gP]
  ·have⟨a,b,c⟩:=ih (y/2) (by omega) h2
   refine⟨by omega, ?_, ?_⟩
   ·rw[show 1+bitLen (y/2)-1=(bitLen (y/2)-1)+1 from by omega,Nat.pow_succ];omega
   ·rw[Nat.add_comm,Nat.pow_succ];omega
theorem V7 (ys:List Nat)(s:Nat)(sb:Dg.Small 4294967296 ys)(nb:Dg.Norm ys)(hn:2≤ys.length)(hs:s=32-bitLen (ys.getD (ys.length-1) 0)):
  s<32∧2147483648*4294967296^ (ys.length-1)≤Dg.vl 4294967296 ys*2^s∧Dg.vl 4294967296 ys*2^s<4294967296^ys.length:=by
 have hy0:ys.getD (ys.length-1) 0≠0:=nb (by intro e;rw[e] at hn;simp at hn);have hyl:=sb (ys.length-1);have hsp:=Dg.vl_split 4294967296 ys (ys.length-1) (by omega);have hlo:=Dg.vl_lt 4294967296 (ys.take (ys.length-1)) (Dg.small_take sb _ (by omega));rw[List.length_take,Nat.min_eq_left (by omega)] at hlo;rw[show ys.length-1+1=ys.length from by omega,List.drop_length] at hsp
 simp only[Dg.vl,Nat.mul_zero,Nat.add_zero] at hsp;generalize ys.getD (ys.length-1) 0=y at*;generalize Dg.vl 4294967296 (ys.take (ys.length-1))=lo at*;have⟨h1,h2,h3⟩:=uB y hy0;have h4:=bF y 32 (by omega);have e1:2^ (bitLen y-1)*2^s=2147483648:=by rw[←Nat.pow_add,show bitLen y-1+s=31 from by omega]
 have e2:2^bitLen y*2^s=4294967296:=by rw[←Nat.pow_add,show bitLen y+s=32 from by omega]
 have e3:(4294967296:Nat)^ys.length=4294967296^ (ys.length-1)*4294967296:=by rw[←Nat.pow_succ,show(ys.length-1).succ=ys.length from by omega]
 have a1:2^ (bitLen y-1)*2^s≤y*2^s:=Nat.mul_le_mul_right _ h2;have a2:(y+1)*2^s≤2^bitLen y*2^s:=Nat.mul_le_mul_right _ h3;refine⟨by omega, ?_, ?_⟩
 ·rw[hsp,Nat.add_mul,Nat.mul_assoc]
  have:4294967296^ (ys.length-1)*2147483648≤4294967296^ (ys.length-1)*(y*2^s):=Nat.mul_le_mul_left _ (by omega);rw[Nat.mul_comm 2147483648];omega
 ·rw[hsp,e3]
  have b1:(lo+4294967296^ (ys.length-1)*y)<4294967296^ (ys.length-1)*(y+1):=by rw[Nat.mul_add,Nat.mul_one];omega
  have b2:(lo+4294967296^ (ys.length-1)*y)*2^s<4294967296^ (ys.length-1)*(y+1)*2^s:=Nat.mul_lt_mul_of_pos_right b1 (Nat.pow_pos (by omega));rw[Nat.mul_assoc (4294967296^ (ys.length-1)) (y+1)] at b2;have b3:4294967296^ (ys.length-1)*((y+1)*2^s)≤4294967296^ (ys.length-1)*4294967296:=Nat.mul_le_mul_left _ (by omega);omega
theorem V8 (n D:Nat)(hn:1≤n)(h1:4294967296^ (n-1)≤D)(h2:D<4294967296^n):(Dg.dg 4294967296 D).length=n:=by
 have a:=Dg.dg_len_le 4294967296 D n (by omega) h2;have b:=Dg.vl_lt 4294967296 _ (Dg.small_dg 4294967296 D (by omega));rw[Dg.vl_dg 4294967296 D (by omega)] at b;have c:n-1< (Dg.dg 4294967296 D).length:=by
  rcases Nat.lt_or_ge (n-1) (Dg.dg 4294967296 D).length with e|e
  ·exact e
  ·have:=Nat.pow_le_pow_right (n:=4294967296) (by omega) e
   omega
 omega
theorem RI (X na s:Nat)(h:X<4294967296^na)(hs:s<32):(Dg.dg 4294967296 (X*2^s)).length≤na+1:=by
 apply Dg.dg_len_le 4294967296 _ _ (by omega);have h1:2^s≤4294967296:=by have:2^s≤2^32:=Nat.pow_le_pow_right (by omega) (by omega);omega
 rw[Nat.pow_succ];have h2:X*2^s<4294967296^na*2^s:=Nat.mul_lt_mul_of_pos_right h (Nat.pow_pos (by omega));have h3:4294967296^na*2^s≤4294967296^na*4294967296:=Nat.mul_le_mul_left _ h1;omega
def Jm (A D M:Nat)(R os:List Nat)(N k:Nat):Prop:=
 R.length=N∧os.length=M∧Dg.Small 4294967296 R∧Dg.Small 4294967296 os∧(∀j,j<k→os.getD j 0=0)∧D*Dg.vl 4294967296 os+Dg.vl 4294967296 R=A∧Dg.vl 4294967296 R<D*4294967296^k
def ae2 (w:World)(A D M N gr go gb cb:Nat)(bs:List Nat)(iv:Value)(wr:World):Prop:=
 ∃(k:Nat) (R os:List Nat),k≤M∧iv=yi ((k:Int)-1)∧Jm A D M R os N k∧Own wr w.heap.size 148 .u32 (.slice (some ⟨gr,0,none⟩) N N) R∧Own wr w.heap.size 148 .u32 (.slice (some ⟨go,0,none⟩) M M) os∧
  Own wr w.heap.size 148 .u32 (.slice (some ⟨gb,0,none⟩) bs.length cb) bs∧yB w wr
def Two (w:World)(q r:Nat)(e:Ending)(w':World):Prop:=
 ∃v1 v2,e= .returned (.tuple #[v1,v2])∧Own w' w.heap.size 148 .u32 v1 (Dg.dg 4294967296 q)∧Own w' w.heap.size 148 .u32 v2 (Dg.dg 4294967296 r)∧yB w w'
theorem Pi {A D M N i nn:Nat}{R os bs:List Nat}(h:Jm A D M R os N (i+1))(sb:Dg.Small 4294967296 bs)(hbs:Dg.vl 4294967296 bs=D)(hn:2≤nn)(hD1:2147483648*4294967296^ (nn-1)≤D)(hD2:D<4294967296^nn):
  2147483648≤bs.getD (nn-1) 0∧R.getD (i+nn) 0≤bs.getD (nn-1) 0∧
  ∀g,g<4294967296→(∀k,k*(bs.getD (nn-1) 0*4294967296+bs.getD (nn-2) 0)≤(R.getD (i+nn) 0*4294967296+R.getD (i+(nn-1)) 0)*4294967296+R.getD (i+(nn-2)) 0→k<4294967296→k≤g)→
   g*(bs.getD (nn-1) 0*4294967296+bs.getD (nn-2) 0)≤(R.getD (i+nn) 0*4294967296+R.getD (i+(nn-1)) 0)*4294967296+R.getD (i+(nn-2)) 0→
   Dg.vl 4294967296 R/4294967296^i/D<4294967296∧(g=Dg.vl 4294967296 R/4294967296^i/D∨g=Dg.vl 4294967296 R/4294967296^i/D+1):=by
 obtain⟨-,-,sR,-,-,-,hX⟩:=h;obtain⟨m,rfl⟩: ∃m,nn=m+2:=⟨nn-2,by omega⟩;have hB:(0:Nat)<4294967296:=by omega
 rw[show m+2-1=m+1 from rfl] at*
 rw[show m+2-2=m from rfl]
 have d1:bs.getD (m+1) 0=D/4294967296^ (m+1) % 4294967296:=by rw[CG 4294967296 bs (m+1) hB sb,hbs]
 have d0:bs.getD m 0=D/4294967296^m % 4294967296:=by rw[CG 4294967296 bs m hB sb,hbs]
 have p2:=CG 4294967296 R (i+(m+2)) hB sR;have p1:=CG 4294967296 R (i+(m+1)) hB sR;have p0:=CG 4294967296 R (i+m) hB sR;have hXl:Dg.vl 4294967296 R<4294967296^ (i+m+3):=by
  have e1:D*4294967296^ (i+1)≤4294967296^ (m+2)*4294967296^ (i+1):=Nat.mul_le_mul_right _ (Nat.le_of_lt hD2);rw[←Nat.pow_add,show m+2+(i+1)=i+m+3 from by omega] at e1
  exact Nat.lt_of_lt_of_le hX e1
 have tp:=adr (n:=m+2) hB (by omega) hX;rw[show m+2-1=m+1 from rfl] at tp
 have hDt:D/4294967296^ (m+1)<4294967296:=by
  rw[Nat.div_lt_iff_lt_mul (Nat.pow_pos hB),Nat.mul_comm,←Nat.pow_succ];exact hD2
 have t3:=aeU 4294967296 (Dg.vl 4294967296 R) (i+m) hB hXl;have t2:=two 4294967296 D m hB hD2;rw[d1,d0,p2,p1,p0];rw[show i+(m+2)=i+m+2 from by omega] at tp⊢
 rw[show i+(m+1)=i+m+1 from by omega]
 refine⟨?_, ?_, ?_⟩
 ·rw[Nat.mod_eq_of_lt hDt,Nat.le_div_iff_mul_le (Nat.pow_pos hB)]
  exact hD1
 ·rw[Nat.mod_eq_of_lt hDt]
  exact Nat.le_trans (Nat.mod_le _ _) tp
 ·rw[t3,t2]
  intro g hg hlow hup;refine NC hB hX ?_ hg hlow hup;have e1:1*4294967296^ (m+1)≤2147483648*4294967296^ (m+1):=Nat.mul_le_mul_right _ (by omega);rw[Nat.one_mul] at e1;exact Nat.le_trans e1 hD1
theorem Iv {A D M N i q:Nat}{R os cur:List Nat}(h:Jm A D M R os N (i+1))(hi:i<M)(hq:q<4294967296)(hl:cur.length=R.length)(sc:Dg.Small 4294967296 cur)
  (hv:Dg.vl 4294967296 cur+4294967296^i*(D*q)=Dg.vl 4294967296 R) (hlt:Dg.vl 4294967296 cur<D*4294967296^i):Jm A D M cur (os.set i q) N i:=by
 obtain⟨h1,h2,h3,h4,h5,h6,h7⟩:=h;refine⟨by omega,by simpa using h2,sc,Dg.small_set h4 _ _ hq,fun j hj=> ?_, ?_,hlt⟩
 ·rw[Dg.getD_set _ _ _ _ (by omega),if_neg (by omega)];exact h5 j (by omega)
 ·have hs:=Dg.vl_set 4294967296 os i q (by omega)
  rw[h5 i (by omega),Nat.mul_zero,Nat.add_zero] at hs;rw[hs,Nat.mul_add,←h6,←hv];have e:D*(4294967296^i*q)=4294967296^i*(D*q):=by rw[←Nat.mul_assoc,←Nat.mul_assoc,Nat.mul_comm D]
  rw[e];omega
theorem acV (l:List Nat)(n:Nat):Dg.vl 4294967296 (l++List.replicate n 0)=Dg.vl 4294967296 l:=by
 rw[Dg.vl_append,Dg.vl_zeros 4294967296 (List.replicate n 0) (fun i=>by
  by_cases h:i<n
  ·simp[List.getD_eq_getElem?_getD,h]
  ·simp[List.getD_eq_getElem?_getD,h]),Nat.mul_zero,Nat.add_zero]
theorem TM {l m:List Nat}(h:Dg.Small 4294967296 l)(k:Dg.Small 4294967296 m):Dg.Small 4294967296 (l++m):=by
 intro i
 by_cases hi:i<l.length
 ·have:=h i
  simpa[List.getD_eq_getElem?_getD,List.getElem?_append_left hi] using this
 ·have:=k (i-l.length)
  simpa[List.getD_eq_getElem?_getD,List.getElem?_append_right (Nat.le_of_not_lt hi)] using this
theorem CV (n:Nat):Dg.Small 4294967296 (List.replicate n 0):=by
 intro i
 by_cases h:i<n
 ·simp[List.getD_eq_getElem?_getD,h]
 ·simp[List.getD_eq_getElem?_getD,h]
theorem EP (n j:Nat):(List.replicate n 0).getD j 0=0:=by
 by_cases h:j<n
 ·simp[List.getD_eq_getElem?_getD,h]
 ·simp[List.getD_eq_getElem?_getD,h]
theorem Pj {X na nn s D:Nat}{az:List Nat}(haz:Dg.dg 4294967296 (X*2^s)=az)(hal:az.length≤na+1)(hX:X<4294967296^na)(hs:s<32)(hn:1≤nn)(hle:nn≤na+1)(hD1:2147483648*4294967296^ (nn-1)≤D):
  Jm (X*2^s) D (na+1-nn) (az++(List.replicate (na+1) 0).drop az.length) (List.replicate (na+1-nn) 0) (na+1) (na+1-nn):=by
 have sz:Dg.Small 4294967296 az:=by rw[←haz];exact Dg.small_dg _ _ (by omega)
 have hv:Dg.vl 4294967296 (az++(List.replicate (na+1) 0).drop az.length)=X*2^s:=by
  rw[List.drop_replicate,acV,←haz,Dg.vl_dg _ _ (by omega)]
 refine⟨by simp;omega,by simp, ?_,CV _,fun j _=>EP _ j, ?_, ?_⟩
 ·rw[List.drop_replicate]
  exact TM sz (CV _)
 ·rw[hv,Dg.vl_zeros _ _ (EP _),Nat.mul_zero,Nat.zero_add]
 ·rw[hv]
  have e1:2147483648*4294967296^ (nn-1)*4294967296^ (na+1-nn)≤D*4294967296^ (na+1-nn):=Nat.mul_le_mul_right _ hD1;rw[Nat.mul_assoc,←Nat.pow_add,show nn-1+(na+1-nn)=na from by omega] at e1
  have e2:X*2^s<4294967296^na*2^s:=Nat.mul_lt_mul_of_pos_right hX (Nat.pow_pos (by omega));have e3:4294967296^na*2^s≤4294967296^na*2^31:=Nat.mul_le_mul_left _ (Nat.pow_le_pow_right (by omega) (by omega));rw[show(2:Nat)^31=2147483648 from rfl,Nat.mul_comm _ 2147483648] at e3
  omega
theorem Xs {X Y s M N:Nat}{R os:List Nat}(hY:0<Y)(h:Jm (X*2^s) (Y*2^s) M R os N 0):Dg.vl 4294967296 os=X/Y∧Dg.vl 4294967296 R/2^s=X % Y:=by
 obtain⟨-,-,-,-,-,h6,h7⟩:=h;rw[Nat.pow_zero,Nat.mul_one] at h7;have hp:0<2^s:=Nat.pow_pos (by omega);have hD:0<Y*2^s:=Nat.mul_pos hY hp;have e1:X*2^s/(Y*2^s)=Dg.vl 4294967296 os:=by
  rw[←h6,Nat.mul_add_div hD,Nat.div_eq_of_lt h7,Nat.add_zero]
 have e2:X*2^s % (Y*2^s)=Dg.vl 4294967296 R:=by
  rw[←h6,Nat.mul_add_mod,Nat.mod_eq_of_lt h7]
 rw[Nat.mul_div_mul_right _ _ hp] at e1;rw[Nat.mul_mod_mul_right] at e2;refine⟨e1.symm, ?_⟩;rw[←e2,Nat.mul_div_cancel _ hp]
end Go.Proofs.YtbdokgamhinajaaGreatDoor

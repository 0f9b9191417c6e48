/-
  Texts laid together: Knuth, Read2, Take, Back.
-/
import Derived.Test.YtpainhklfoaniaaGreatDoorSc04
set_option maxRecDepth 100000
set_option maxHeartbeats 3200000
namespace Go.Proofs.YtpainhklfoaniaaGreatDoor
open _root_.Go.Proofs.Tryz
open Go.RowKit
theorem Ox {u v seg D E q:Nat}(_hE:0<E)(hseg:seg< (u+1)*E)(hD:v*E≤D)(hq:q*D≤seg):q*v≤u:=by
 have h1:q*v*E≤q*D:=by rw[Nat.mul_assoc];exact Nat.mul_le_mul_left _ hD
 have h2:q*v*E< (u+1)*E:=by omega
 have:=Nat.lt_of_mul_lt_mul_right h2;omega
theorem Oy {u v seg D E g:Nat}(hg:g*v≤u)(hgv:g≤v+1)(hseg:u*E≤seg)(hD:D≤(v+1)*E):(g-1)*D≤seg:=by
 have h1:(g-1)*D≤(g-1)*(v+1)*E:=by rw[Nat.mul_assoc];exact Nat.mul_le_mul_left _ hD
 have h2:(g-1)*(v+1)≤u:=by
  rcases Nat.eq_zero_or_pos g with e|e
  ·subst e;simp
  ·obtain⟨h,rfl⟩: ∃h,g=h+1:=⟨g-1,by omega⟩
   rw[Nat.add_sub_cancel];rw[Nat.add_mul] at hg;rw[Nat.mul_add];omega
 have h3:(g-1)*(v+1)*E≤u*E:=Nat.mul_le_mul_right _ h2;omega
def GsI (top d1 d0 p0 g r:Nat):Prop:=g*d1+r=top∧ ∀q,q*(d1*4294967296+d0)≤top*4294967296+p0→q<4294967296→q≤g
theorem Z1 (top d1 d0 p0:Nat)(h1:0<d1)(hp:p0<4294967296):GsI top d1 d0 p0 (top/d1) (top % d1):=by
 refine⟨by have:=Nat.div_add_mod top d1;rw[Nat.mul_comm] at this;exact this,fun q hq _=> ?_⟩
 have h2:q*d1≤top:=by
  rcases Nat.lt_or_ge top (q*d1) with h|h
  ·exfalso
   have h3:(top+1)*4294967296≤q*d1*4294967296:=Nat.mul_le_mul_right _ h;have h4:q*d1*4294967296≤q*(d1*4294967296+d0):=by rw[Nat.mul_assoc];exact Nat.mul_le_mul_left q (Nat.le_add_right _ _)
   omega
  ·exact h
 exact(Nat.le_div_iff_mul_le h1).2 h2
theorem S9 {top d1 d0 p0 g r:Nat}(h:GsI top d1 d0 p0 g r)(hg:0<g)(hc:4294967296≤g∨r*4294967296+p0<g*d0):GsI top d1 d0 p0 (g-1) (r+d1):=by
 obtain⟨h1,h2⟩:=h;obtain⟨k,rfl⟩: ∃k,g=k+1:=⟨g-1,by omega⟩;rw[Nat.add_sub_cancel];refine⟨by rw[Nat.add_mul] at h1;omega,fun q hq hqB=> ?_⟩
 have h3:=h2 q hq hqB
 rcases Nat.lt_or_ge k q with e|e
 ·exfalso
  have hqk:q=k+1:=by omega
  subst hqk
  rcases hc with hc|hc
  ·omega
  ·rw[←h1,Nat.mul_add] at hq
   rw[Nat.add_mul ((k+1)*d1)] at hq;rw[Nat.mul_assoc] at hq;omega
 ·exact e
theorem Z2 {top d1 d0 p0 g r:Nat}(h:GsI top d1 d0 p0 g r)(hc:g*d0≤r*4294967296+p0):g*(d1*4294967296+d0)≤top*4294967296+p0:=by
 rw[←h.1,Nat.mul_add,Nat.add_mul (g*d1),Nat.mul_assoc];omega
theorem Sd (c x s:Nat):((c:Int)+(x:Int)*(s:Int)) % 4294967296=(((c+x*s) % 4294967296:Nat):Int):=by rw[←Int.natCast_mul];omega
theorem Se (c x s:Nat):((c:Int)+(x:Int)*(s:Int))/4294967296=(((c+x*s)/4294967296:Nat):Int):=by rw[←Int.natCast_mul];omega
def SX (R cur ys:List Nat)(i t k c b:Nat):Prop:=
 cur.length=R.length∧Dg.Small 4294967296 cur∧c<4294967296∧b≤1∧(∀j,i+k≤j→cur.getD j 0=R.getD j 0)∧Dg.vl 4294967296 cur+4294967296^i*(Dg.vl 4294967296 (ys.take k)*t)=Dg.vl 4294967296 R+4294967296^ (i+k)*(b+c)
theorem VS {R cur ys:List Nat}{i t k c b y p ct:Nat}(h:SX R cur ys i t k c b)(_hk:k<ys.length)(hl:i+k<R.length)(hy:ys.getD k 0=y)(hp:R.getD (i+k) 0=p)(hpl:p<4294967296)(hct:ct=c+y*t)(hcl:ct/4294967296<4294967296):
  SX R (cur.set (i+k) ((p+4294967296-ct % 4294967296-b) % 4294967296)) ys i t (k+1) (ct/4294967296) (brw p (ct % 4294967296) b):=by
 obtain⟨h1,h2,h3,h4,h5,h6⟩:=h;refine⟨by simpa using h1,Dg.small_set h2 _ _ (Nat.mod_lt _ (by omega)),hcl,RN _ _ _,fun j hj=> ?_, ?_⟩
 ·rw[Dg.getD_set _ _ _ _ (by omega),if_neg (by omega)];exact h5 j (by omega)
 ·have hs:=Dg.vl_set 4294967296 cur (i+k) ((p+4294967296-ct % 4294967296-b) % 4294967296) (by omega)
  rw[h5 _ (Nat.le_refl _),hp] at hs;have hlo:ct % 4294967296<4294967296:=Nat.mod_lt _ (by omega);have eb:p+4294967296*brw p (ct % 4294967296) b=(p+4294967296-ct % 4294967296-b) % 4294967296+ct % 4294967296+b:=by unfold brw;split<;>omega
  generalize hnew:(p+4294967296-ct % 4294967296-b) % 4294967296=new at*;generalize brw p (ct % 4294967296) b=b' at*;rw[iV,hy];have e1:4294967296^i*((Dg.vl 4294967296 (ys.take k)+4294967296^k*y)*t)=4294967296^i*(Dg.vl 4294967296 (ys.take k)*t)+4294967296^ (i+k)*(y*t):=by
   rw[Nat.add_mul,Nat.mul_add,Nat.pow_add,Nat.mul_assoc,Nat.mul_assoc]
  have e2:4294967296^ (i+(k+1))*(b'+ct/4294967296)=4294967296^ (i+k)*(4294967296*b'+4294967296*(ct/4294967296)):=by
   rw[show i+(k+1)=i+k+1 from by omega,Nat.pow_succ,Nat.mul_assoc,Nat.mul_add]
  have e3:=Nat.mod_add_div ct 4294967296;have e4:4294967296^ (i+k)*(4294967296*b'+4294967296*(ct/4294967296)+p)=4294967296^ (i+k)*(new+b+c+y*t):=by congr 1;omega
  rw[Nat.mul_add,Nat.mul_add,Nat.mul_add,Nat.mul_add,Nat.mul_add] at e4;rw[Nat.mul_add] at h6;rw[e1,e2,Nat.mul_add];omega
theorem VT {R cur ys:List Nat}{i t c b p:Nat}(h:SX R cur ys i t ys.length c b)(hl:i+ys.length<R.length)(hp:R.getD (i+ys.length) 0=p)(hpl:p<4294967296):
  (cur.set (i+ys.length) ((p+4294967296-c-b) % 4294967296)).length=R.length∧Dg.Small 4294967296 (cur.set (i+ys.length) ((p+4294967296-c-b) % 4294967296))∧(∀j,i+ys.length<j→(cur.set (i+ys.length) ((p+4294967296-c-b) % 4294967296)).getD j 0=R.getD j 0)∧
   Dg.vl 4294967296 (cur.set (i+ys.length) ((p+4294967296-c-b) % 4294967296))+4294967296^i*(Dg.vl 4294967296 ys*t)=Dg.vl 4294967296 R+4294967296^ (i+ys.length+1)*brw p c b:=by
 obtain⟨h1,h2,h3,h4,h5,h6⟩:=h;refine⟨by simpa using h1,Dg.small_set h2 _ _ (Nat.mod_lt _ (by omega)),fun j hj=> ?_, ?_⟩
 ·rw[Dg.getD_set _ _ _ _ (by omega),if_neg (by omega)];exact h5 j (by omega)
 ·have hs:=Dg.vl_set 4294967296 cur (i+ys.length) ((p+4294967296-c-b) % 4294967296) (by omega)
  rw[h5 _ (Nat.le_refl _),hp] at hs;have eb:p+4294967296*brw p c b=(p+4294967296-c-b) % 4294967296+c+b:=by unfold brw;split<;>omega
  generalize(p+4294967296-c-b) % 4294967296=new at*;generalize brw p c b=b' at*;rw[List.take_of_length_le (Nat.le_refl _)] at h6;have e2:4294967296^ (i+ys.length+1)*b'=4294967296^ (i+ys.length)*(4294967296*b'):=by rw[Nat.pow_succ,Nat.mul_assoc]
  have e4:4294967296^ (i+ys.length)*(p+4294967296*b')=4294967296^ (i+ys.length)*(new+c+b):=by rw[eb]
  rw[Nat.mul_add,Nat.mul_add,Nat.mul_add] at e4;rw[Nat.mul_add] at h6;rw[e2];omega
def acc (R cur ys:List Nat)(i t b:Nat):Prop:=
 cur.length=R.length∧Dg.Small 4294967296 cur∧(∀j,i+ys.length<j→cur.getD j 0=R.getD j 0)∧b≤1∧Dg.vl 4294967296 cur+4294967296^i*(Dg.vl 4294967296 ys*t)=Dg.vl 4294967296 R+4294967296^ (i+ys.length+1)*b
theorem H7 (g N i pc base t:Nat)(R ys:List Nat)(vb:Value)(w:World)(ho:Own w base 108 .u32 (.slice (some ⟨g,0,none⟩) N N) R)(sR:Dg.Small 4294967296 R)(sb:Dg.Small 4294967296 ys)
  (hby: ∀w',w.grownBy w' (some g)→Rd w' .u32 vb ys) (hl:i+ys.length<R.length) (ht:t<4294967296) (hRl:R.length≤2000000):
  yC 172 #[.slice (some ⟨g,i,none⟩) (ys.length+1) pc,vb,.int .u32 t] w fun e w'=>
   ∃(b:Nat) (cur:List Nat),e= .returned (.bool (decide (b=1)))∧acc R cur ys i t b∧Own w' base 108 .u32 (.slice (some ⟨g,0,none⟩) N N) cur∧w.grownBy w' (some g):=by
 obtain⟨bo,cb,rfl⟩:=(hby w (ib _ _)).shape;have HBY:Hid _:=hby
 clear hby
 go_enter func172,ntmps172
 go_wp2
 go_loopw [7,8,14] (fun cv bv kv wr=> ∃(k c b:Nat) (cur:List Nat),k≤ys.length∧kv=yi k∧cv= .int .u64 c∧bv= .int .u32 b∧Own wr base 108 .u32 (.slice (some ⟨g,0,none⟩) N N) cur∧SX R cur ys i t k c b∧w.grownBy wr (some g)) (fun _ _ kv _=>ys.length-(intOf kv).toNat)
 case atStart=>exact⟨0,0,0,R,Nat.zero_le _,rfl,rfl,rfl,ho,⟨rfl,sR,by omega,by omega,fun _ _=>rfl,by simp[Dg.vl]⟩,ib _ _⟩
 case round=>
  clear ho;obtain⟨k,c,b,cur,hk,rfl,rfl,rfl,own,hI,gr⟩:=hrel;have hcl:=hI.1;have hc32:=hI.2.2.1;have hb1:=hI.2.2.2.1
  by_cases hlt:k<ys.length
  ·obtain⟨-,-,hcb⟩:=iQ (HBY.out wr gr)
   obtain⟨b2,off2,rfl,hcell2⟩:=hcb (by omega);have hy:=hcell2 k hlt;have hyl:=sb k;have hp:=own.c (i+k) (by omega);have hf:=own.f (i+k);rw[hI.2.2.2.2.1 _ (Nat.le_refl _)] at hp;have hpl:=sR (i+k);obtain⟨y,ey⟩: ∃y,ys.getD k 0=y:=⟨_,rfl⟩;obtain⟨p,ep⟩: ∃p,R.getD (i+k) 0=p:=⟨_,rfl⟩;rw[ey] at hy hyl;rw[ep] at hp hpl;have hxy:=uf hyl ht;have hxyI:(y:Int)*(t:Int)≤18446744065119617025:=by rw[←Int.natCast_mul];omega
   have hxy0:0≤(y:Int)*(t:Int):=by rw[←Int.natCast_mul];omega
   have hst:=VS hI hlt (by omega) ey ep hpl rfl (by omega);have hlo:(c+y*t) % 4294967296<4294967296:=Nat.mod_lt _ (by omega);have hs32:=zA p ((c+y*t) % 4294967296) b wr hpl hlo hb1;rw[←Sd] at hs32;have HST:Hid _:=hst;obtain⟨nw,hnw⟩: ∃nw,(p+4294967296-(c+y*t) % 4294967296-b) % 4294967296=nw:=⟨_,rfl⟩;obtain⟨nb,hnb⟩: ∃nb,brw p ((c+y*t) % 4294967296) b=nb:=⟨_,rfl⟩;rw[hnw,hnb] at hs32 HST;clear ey ep hcell2 hcb hst hlo hcl hnw hnb
   go_wp2_with fail
   refine hs32.mono ?_;rintro e w' ⟨rfl,rfl⟩;clear hs32
   go_wp2
   go_roundw
   case rel=>
    rw[Se];exact⟨k+1,_,nb,_,by omega,by go_num,rfl,rfl,own.store (i+k) _,HST.out,eF gr (bI _ _ _ _)⟩
   case measure=>simp[intOf];omega
  ·have hke:k=ys.length:=by omega
   subst hke;have hp:=own.c (i+ys.length) (by omega);have hf:=own.f (i+ys.length);rw[hI.2.2.2.2.1 _ (Nat.le_refl _)] at hp;have hpl:=sR (i+ys.length);obtain⟨p,ep⟩: ∃p,R.getD (i+ys.length) 0=p:=⟨_,rfl⟩;rw[ep] at hp hpl;have hst:=VT hI hl ep hpl;have hs32:=zA p c b wr hpl hc32 hb1;have hbl:=RN p c b;obtain⟨nw,hnw⟩: ∃nw,(p+4294967296-c-b) % 4294967296=nw:=⟨_,rfl⟩;obtain⟨nb,hnb⟩: ∃nb,brw p c b=nb:=⟨_,rfl⟩;rw[hnw,hnb] at hs32 hst;rw[hnb] at hbl;have HST:Hid (acc R (cur.set (i+ys.length) nw) ys i t nb):=⟨hst.1,hst.2.1,hst.2.2.1,hbl,hst.2.2.2⟩;have own2:=own.store (i+ys.length) nw;have gr2:=eF gr (bI wr g (i+ys.length) (.int .u32 (nw:Int)));clear ep hst hcl hnw hnb
   go_wp2_with fail
   refine hs32.mono ?_;rintro e w' ⟨rfl,rfl⟩;clear hs32
   by_cases hz:nb=0
   ·subst hz
    go_wp2
    go_ret
    exact⟨0,_,rfl,HST,own2,gr2⟩
   ·have hz1:nb=1:=by omega
    subst hz1
    go_wp2
    go_ret
    exact⟨1,_,rfl,HST,own2,gr2⟩
def Sp (R cur ys:List Nat)(i k c:Nat):Prop:=
 cur.length=R.length∧Dg.Small 4294967296 cur∧c≤1∧(∀j,i+k≤j→cur.getD j 0=R.getD j 0)∧Dg.vl 4294967296 cur+4294967296^ (i+k)*c=Dg.vl 4294967296 R+4294967296^i*Dg.vl 4294967296 (ys.take k)
theorem TV {R cur ys:List Nat}{i k c y p:Nat}(h:Sp R cur ys i k c)(hl:i+k<R.length)(hy:ys.getD k 0=y)(hp:R.getD (i+k) 0=p)(hpl:p<4294967296)(hyl:y<4294967296):
  Sp R (cur.set (i+k) ((p+y+c) % 4294967296)) ys i (k+1) ((p+y+c)/4294967296):=by
 obtain⟨h1,h2,h3,h5,h6⟩:=h;refine⟨by simpa using h1,Dg.small_set h2 _ _ (Nat.mod_lt _ (by omega)),by omega,fun j hj=> ?_, ?_⟩
 ·rw[Dg.getD_set _ _ _ _ (by omega),if_neg (by omega)];exact h5 j (by omega)
 ·have hs:=Dg.vl_set 4294967296 cur (i+k) ((p+y+c) % 4294967296) (by omega)
  rw[h5 _ (Nat.le_refl _),hp] at hs;rw[iV,hy];generalize hT:p+y+c=T at*;have e1:4294967296^i*(Dg.vl 4294967296 (ys.take k)+4294967296^k*y)=4294967296^i*Dg.vl 4294967296 (ys.take k)+4294967296^ (i+k)*y:=by rw[Nat.mul_add,Nat.pow_add,Nat.mul_assoc]
  have e2:4294967296^ (i+(k+1))*(T/4294967296)=4294967296^ (i+k)*(4294967296*(T/4294967296)):=by rw[show i+(k+1)=i+k+1 from by omega,Nat.pow_succ,Nat.mul_assoc]
  have e3:4294967296^ (i+k)*T=4294967296^ (i+k)*(T % 4294967296)+4294967296^ (i+k)*(4294967296*(T/4294967296)):=by rw[←Nat.mul_add,Nat.mod_add_div]
  have e4:4294967296^ (i+k)*T=4294967296^ (i+k)*p+4294967296^ (i+k)*y+4294967296^ (i+k)*c:=by rw[←hT,Nat.mul_add,Nat.mul_add]
  rw[e1,e2];omega
def Py (R cur ys:List Nat)(i o:Nat):Prop:=
 cur.length=R.length∧Dg.Small 4294967296 cur∧(∀j,i+ys.length<j→cur.getD j 0=R.getD j 0)∧o≤1∧Dg.vl 4294967296 cur+4294967296^ (i+ys.length+1)*o=Dg.vl 4294967296 R+4294967296^i*Dg.vl 4294967296 ys
theorem TW {R cur ys:List Nat}{i c p:Nat}(h:Sp R cur ys i ys.length c)(hl:i+ys.length<R.length)(hp:R.getD (i+ys.length) 0=p)(hpl:p<4294967296):
  Py R (cur.set (i+ys.length) ((p+c) % 4294967296)) ys i ((p+c)/4294967296):=by
 obtain⟨h1,h2,h3,h5,h6⟩:=h;refine⟨by simpa using h1,Dg.small_set h2 _ _ (Nat.mod_lt _ (by omega)),fun j hj=> ?_,by omega, ?_⟩
 ·rw[Dg.getD_set _ _ _ _ (by omega),if_neg (by omega)];exact h5 j (by omega)
 ·have hs:=Dg.vl_set 4294967296 cur (i+ys.length) ((p+c) % 4294967296) (by omega)
  rw[h5 _ (Nat.le_refl _),hp] at hs;rw[List.take_of_length_le (Nat.le_refl _)] at h6;generalize hT:p+c=T at*;have e2:4294967296^ (i+ys.length+1)*(T/4294967296)=4294967296^ (i+ys.length)*(4294967296*(T/4294967296)):=by rw[Nat.pow_succ,Nat.mul_assoc]
  have e3:4294967296^ (i+ys.length)*T=4294967296^ (i+ys.length)*(T % 4294967296)+4294967296^ (i+ys.length)*(4294967296*(T/4294967296)):=by rw[←Nat.mul_add,Nat.mod_add_div]
  have e4:4294967296^ (i+ys.length)*T=4294967296^ (i+ys.length)*p+4294967296^ (i+ys.length)*c:=by rw[←hT,Nat.mul_add]
  rw[e2];omega
theorem Mj (g N i pc base:Nat)(R ys:List Nat)(vb:Value)(w:World)(ho:Own w base 108 .u32 (.slice (some ⟨g,0,none⟩) N N) R)(sR:Dg.Small 4294967296 R)(sb:Dg.Small 4294967296 ys)
  (hby: ∀w',w.grownBy w' (some g)→Rd w' .u32 vb ys) (hl:i+ys.length<R.length) (hRl:R.length≤2000000):
  yC 173 #[.slice (some ⟨g,i,none⟩) (ys.length+1) pc,vb] w fun e w'=>
   ∃(o:Nat) (cur:List Nat),e= .returned (.tuple #[])∧Py R cur ys i o∧Own w' base 108 .u32 (.slice (some ⟨g,0,none⟩) N N) cur∧w.grownBy w' (some g):=by
 obtain⟨bo,cb,rfl⟩:=(hby w (ib _ _)).shape;have HBY:Hid _:=hby
 clear hby
 go_enter func173,ntmps173
 go_wp2
 go_loopw [4,9] (fun cv kv wr=> ∃(k c:Nat) (cur:List Nat),k≤ys.length∧kv=yi k∧cv= .int .u32 c∧Own wr base 108 .u32 (.slice (some ⟨g,0,none⟩) N N) cur∧Sp R cur ys i k c∧w.grownBy wr (some g)) (fun _ kv _=>ys.length-(intOf kv).toNat)
 case atStart=>exact⟨0,0,R,Nat.zero_le _,rfl,rfl,ho,⟨rfl,sR,by omega,fun _ _=>rfl,by simp[Dg.vl]⟩,ib _ _⟩
 case round=>
  clear ho;obtain⟨k,c,cur,hk,rfl,rfl,own,hI,gr⟩:=hrel;have hcl:=hI.1;have hc1:=hI.2.2.1
  by_cases hlt:k<ys.length
  ·obtain⟨-,-,hcb⟩:=iQ (HBY.out wr gr)
   obtain⟨b2,off2,rfl,hcell2⟩:=hcb (by omega);have hy:=hcell2 k hlt;have hyl:=sb k;have hp:=own.c (i+k) (by omega);have hf:=own.f (i+k);rw[hI.2.2.2.1 _ (Nat.le_refl _)] at hp;have hpl:=sR (i+k);obtain⟨y,ey⟩: ∃y,ys.getD k 0=y:=⟨_,rfl⟩;obtain⟨p,ep⟩: ∃p,R.getD (i+k) 0=p:=⟨_,rfl⟩;rw[ey] at hy hyl;rw[ep] at hp hpl;have hst:=TV hI (by omega) ey ep hpl hyl;have ha32:=ur p y c wr hpl hyl hc1;clear ey ep hcell2 hcb hcl
   go_wp2_with fail
   refine ha32.mono ?_;rintro e w' ⟨rfl,rfl⟩;clear ha32
   go_wp2
   go_roundw
   case rel=>exact⟨k+1,_,_,by omega,by go_num,rfl,own.store (i+k) _,hst,eF gr (bI _ _ _ _)⟩
   case measure=>simp[intOf];omega
  ·have hke:k=ys.length:=by omega
   subst hke;have hp:=own.c (i+ys.length) (by omega);have hf:=own.f (i+ys.length);rw[hI.2.2.2.1 _ (Nat.le_refl _)] at hp;have hpl:=sR (i+ys.length);obtain⟨p,ep⟩: ∃p,R.getD (i+ys.length) 0=p:=⟨_,rfl⟩;rw[ep] at hp hpl;have hst:=TW hI hl ep hpl;have e0:((p:Int)+(c:Int)) % 4294967296=(((p+c) % 4294967296:Nat):Int):=by omega
   have own2:=own.store (i+ys.length) ((p+c) % 4294967296);have gr2:=eF gr (bI wr g (i+ys.length) (.int .u32 (((p+c) % 4294967296:Nat):Int)));rw[←e0] at own2 gr2;have HST:Hid _:=hst;clear ep hst hcl e0
   go_wp2
   go_end0
   exact⟨_,_,rfl,HST,own2,gr2⟩
theorem XC (x:Nat)(w:World)(h:x<4294967296):yC 170 #[.int .u32 x] w fun e w'=>e= .returned (yi ((32-bitLen x:Nat):Int))∧w'=w:=by
 have hl:=IK x w h;have hb:=bF x 32 (by omega);obtain⟨l,hl2⟩: ∃l,bitLen x=l:=⟨_,rfl⟩;rw[hl2] at hl hb⊢;clear hl2
 go_enter func170,ntmps170
 go_wp2_with fail
 refine hl.mono ?_;rintro e w' ⟨rfl,rfl⟩
 go_wp2
 go_ret
 exact⟨by go_num,rfl⟩
def msr (v:Value):Nat:=(intOf v).toNat
def GsR (w:World)(g at0 top d1 d0 p0:Nat)(gv rv:Value)(wr:World):Prop:=
 ∃(t r:Nat),gv= .int .u64 t∧rv= .int .u64 r∧Hid (GsI top d1 d0 p0 t r)∧r<4294967296∧t≤4294967297∧wr.cell? ⟨g,at0,none⟩=some (.int .u32 p0)∧yB w wr
theorem Ap {x:Nat}(h:x<4294967296):(x:Int) % 4294967296=(x:Int):=by omega
theorem Mk {top d1 d0 p0 p1 p2 g r:Nat}(h:GsI top d1 d0 p0 g r)(hr:4294967296≤r)(_hd:0<d1)(ht:p2*4294967296+p1=top)(hle:p2≤d1)(hp:p1<4294967296)(h0:d0<4294967296):
  g<4294967296∧g*(d1*4294967296+d0)≤top*4294967296+p0:=by
 have hg:g<4294967296:=by
  rcases Nat.lt_or_ge g 4294967296 with e|e
  ·exact e
  ·exfalso
   have h1:=h.1;have h2:4294967296*d1≤g*d1:=Nat.mul_le_mul_right _ e;omega
 refine⟨hg,Z2 h ?_⟩;have:g*d0≤4294967296*4294967296:=Nat.mul_le_mul (by omega) (by omega);omega
theorem TX (g i n pc:Nat)(bb boff cb:Nat)(p2 p1 p0 d1 d0:Nat)(w:World)(hn:2≤n)(hnl:n≤2000000)(_hil:i≤2000000)
  (c2:w.cell? ⟨g,i+n,none⟩=some (.int .u32 p2)) (c1:w.cell? ⟨g,i+(n-1),none⟩=some (.int .u32 p1)) (c0:w.cell? ⟨g,i+(n-2),none⟩=some (.int .u32 p0))
  (e1:w.cell? ⟨bb,boff+(n-1),none⟩=some (.int .u32 d1)) (e0:w.cell? ⟨bb,boff+(n-2),none⟩=some (.int .u32 d0))
  (hp2:p2<4294967296) (hp1:p1<4294967296) (hp0:p0<4294967296) (hd1:d1<4294967296) (hd0:d0<4294967296) (hd:2147483648≤d1) (hle:p2≤d1):
  yC 171 #[.slice (some ⟨g,i,none⟩) (n+1) pc,.slice (some ⟨bb,boff,none⟩) n cb] w fun e w'=>
   ∃q:Nat,e= .returned (.int .u32 q)∧q<4294967296∧(∀k,k*(d1*4294967296+d0)≤(p2*4294967296+p1)*4294967296+p0→k<4294967296→k≤q)∧q*(d1*4294967296+d0)≤(p2*4294967296+p1)*4294967296+p0∧yB w w':=by
 have hor:=KJ p2 p1 hp2 hp1;obtain⟨top,ht⟩: ∃top,p2*4294967296+p1=top:=⟨_,rfl⟩;rw[ht] at hor⊢;have htl:top<18446744073709551616:=by omega
 have hst:=Z1 top d1 d0 p0 (by omega) hp0;obtain⟨q0,hq0⟩: ∃q,top/d1=q:=⟨_,rfl⟩;obtain⟨r0,hr0⟩: ∃r,top % d1=r:=⟨_,rfl⟩;have hr0l:r0<d1:=by rw[←hr0];exact Nat.mod_lt _ (by omega)
 have hq0l:q0≤4294967297:=by
  rw[←hq0];have:top/d1<4294967298:=by rw[Nat.div_lt_iff_lt_mul (by omega)];omega
  omega
 have f1:(top:Int)/(d1:Int)=(q0:Int):=by rw[←hq0];exact(Int.natCast_ediv top d1).symm
 have f2:(top:Int) % (d1:Int)=(r0:Int):=by rw[←hr0];exact(Int.natCast_emod top d1).symm
 have g1:IntKind.u64.wrap d1=(d1:Int):=IntWalk.u64_in _ ⟨by omega,by omega⟩;rw[hq0,hr0] at hst;have HTop:Hid _:=ht;clear hq0 hr0 ht;have n1:((n:Int)-1)=((n-1:Nat):Int):=by omega
 have n2:((n:Int)-2)=((n-2:Nat):Int):=by omega
 go_enter func171,ntmps171
 go_wp2
 go_quiet (fail)
 go_wp2
 go_quiet (fail)
 go_wp2
 go_quiet (fail)
 go_wp2
 go_loopw [9,10] (fun gv rv wr=>GsR w g (i+(n-2)) top d1 d0 p0 gv rv wr) (fun gv _ _=>msr gv)
 case atStart=>exact⟨q0,r0,rfl,by rw[f2],hst,by omega,hq0l,c0,aL (aL (aL (Below.refl _ _) _) _) _⟩
 case round=>
  clear c0 hst c1 c2 e0 e1 f1 f2 hr0l hq0l hor;obtain⟨t,r,rfl,rfl,HI,hr,ht1,hc0,bel⟩:=hrel;have hI:=HI.out;have hor:=KJ r p0 hr hp0
  by_cases hbig:4294967296≤t
  ·have hst:=S9 hI (by omega) (.inl hbig)
   have hbI:(4294967296:Int)≤(t:Int):=by omega
   have m1:((t:Int)-1)=((t-1:Nat):Int):=by omega
   have HS:Hid _:=hst
   by_cases hbr:4294967296≤r+d1
   ·have hfin:=Mk hst hbr (by omega) HTop.out hle hp1 hd0
    have HF:Hid _:=hfin;have hbrI:(4294967296:Int)≤(r:Int)+(d1:Int):=by omega
    clear hfin hst hI hbr
    go_wp2
    go_ret
    exact⟨t-1,by first|rfl| (rw[Ap HF.out.1];rfl),HF.out.1,HS.out.2,HF.out.2,bel⟩
   ·obtain⟨rd,hrd⟩: ∃rd,r+d1=rd:=⟨_,rfl⟩
    rw[hrd] at HS hbr;have hrdI:(r:Int)+(d1:Int)=(rd:Int):=by omega
    have hbrN:rd<4294967296:=by omega
    have hrdJ:(rd:Int)<4294967296:=by omega
    have hrdD:decide ((4294967296:Int)≤(rd:Int))=false:=by rw[decide_eq_false_iff_not];omega
    clear hst hI hbr hrd
    go_wp2
    go_roundw
    case rel=>exact⟨t-1,rd,rfl,rfl,HS.out,hbrN,by omega,hc0,bel⟩
    case measure=>simp[msr,intOf];omega
  ·have hbI:(t:Int)<4294967296:=by omega
   have hbN:t<4294967296:=by omega
   have hbd:decide ((4294967296:Int)≤(t:Int))=false:=by rw[decide_eq_false_iff_not];omega
   have hxy:=uf hbN hd0;have hxyI:(t:Int)*(d0:Int)≤18446744065119617025:=by rw[←Int.natCast_mul];omega
   have hxy0:0≤(t:Int)*(d0:Int):=by rw[←Int.natCast_mul];omega
   have hsum:r*4294967296+p0<18446744073709551616:=by omega
   obtain⟨sm,hsm⟩: ∃sm,r*4294967296+p0=sm:=⟨_,rfl⟩;rw[hsm] at hor hsum
   by_cases hgt:sm<t*d0
   ·have hpos:0<t:=by
     rcases Nat.eq_zero_or_pos t with e|e
     ·rw[e,Nat.zero_mul] at hgt;omega
     ·exact e
    have hgtI:(sm:Int)< (t:Int)*(d0:Int):=by rw[←Int.natCast_mul];omega
    have hst:=S9 hI hpos (.inr (by rw[hsm];exact hgt));clear hbig hsm hgt;have m1:((t:Int)-1)=((t-1:Nat):Int):=by omega
    have HS:Hid _:=hst
    by_cases hbr:4294967296≤r+d1
    ·have hfin:=Mk hst hbr (by omega) HTop.out hle hp1 hd0
     have HF:Hid _:=hfin;have hbrI:(4294967296:Int)≤(r:Int)+(d1:Int):=by omega
     clear hfin hst hI hbr
     go_wp2
     go_ret
     exact⟨t-1,by first|rfl| (rw[Ap HF.out.1];rfl),HF.out.1,HS.out.2,HF.out.2,bel⟩
    ·obtain⟨rd,hrd⟩: ∃rd,r+d1=rd:=⟨_,rfl⟩
     rw[hrd] at HS hbr;have hrdI:(r:Int)+(d1:Int)=(rd:Int):=by omega
     have hbrN:rd<4294967296:=by omega
     have hrdJ:(rd:Int)<4294967296:=by omega
     have hrdD:decide ((4294967296:Int)≤(rd:Int))=false:=by rw[decide_eq_false_iff_not];omega
     clear hst hI hbr hrd
     go_wp2
     go_roundw
     case rel=>exact⟨t-1,rd,rfl,rfl,HS.out,hbrN,by omega,hc0,bel⟩
     case measure=>simp[msr,intOf];omega
   ·have hgtI:(t:Int)*(d0:Int)≤(sm:Int):=by rw[←Int.natCast_mul];omega
    have hfin:=Z2 hI (by rw[hsm];omega);have HF:Hid _:=hfin;have hgd:decide ((sm:Int)< (t:Int)*(d0:Int))=false:=by rw[decide_eq_false_iff_not];omega
    clear hbig hsm hgt hfin hI
    go_wp2
    go_ret
    exact⟨t,by first|rfl| (rw[Ap hbN];rfl),hbN,HI.out.2,HF.out,bel⟩
end Go.Proofs.YtpainhklfoaniaaGreatDoor

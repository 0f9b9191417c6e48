/-
  Texts laid together: Ref5, Ref6, Take, Back, Long0, Long1, IntoM, Into1.
-/
import Derived.Test.YtiakgfmlpdfhdaaDoorSv05
import Derived.Test.YtiakgfmlpdfhdaaDoorSv07
import Derived.Test.YtiakgfmlpdfhdaaDoorSv08
import Derived.Test.YtiakgfmlpdfhdaaDoorSv09
import Derived.Test.YtiakgfmlpdfhdaaDoorSv10
set_option maxRecDepth 100000
set_option maxHeartbeats 1600000
namespace Go.Proofs.YtiakgfmlpdfhdaaDoor
open Go.RowKit
theorem M7 {xs ys ps:List Nat}{i:Nat}(h:Sv xs ys ps i):M5 xs ys ps i 0 0:=
 ⟨h.1,h.2.1,by omega,fun j hj=>h.2.2.1 j (by omega),fun _=>h.2.2.1 _ (by omega),fun _=>rfl,by omega,by rw[h.2.2.2];simp[Dg.vl]⟩
theorem Qk {xs ys ps:List Nat}{i k c:Nat}(h:M5 xs ys ps i k c)(hi:i<xs.length)(hk: ¬(k<ys.length∨0<c)):Sv xs ys ps (i+1):=by
 obtain⟨h1,h2,h3,h4,h5,h6,h7,h8⟩:=h;have hc:c=0:=by omega
 subst hc;refine⟨h1,h2,fun j hj=>h4 j (by omega), ?_⟩
 rw[Dg.vl_take_succ _ _ _ hi,Nat.add_mul,Nat.mul_assoc];have e:ys.take k=ys:=List.take_of_length_le (by omega);rw[e] at h8;omega
theorem pf (n wh pt:Nat)(w:World)(hn:n=16*wh+pt)(hpt:pt<16)(hnl:n≤1000000):
  yC 37 #[yi n] w (cG w (2^n)):=by
 have hd:=C6 wh pt hpt;rw[←hn] at hd;obtain⟨i0,hi,hz0,hz1,hz2⟩:=info_parts Tryd.infoI64;have hq:(n:Int)/16=(wh:Int):=by omega
 have hr:(n:Int) % 16=(pt:Int):=by omega
 have hwl:wh≤1000000:=by omega
 have HD:Hid _:=hd;clear hd hn
 go_enter Tryd.func37,Tryd.ntmps37
 go_wp2_with (at_make;refine wpList_make_full _ rfl _ _ 34 rfl w.heap.size 3 i0 (yi 0) 1 Tryd.underlying34 hi hz0 hz1 _ _ _ _ (wh+1) rfl rfl (by omega) (by omega) ?b2 ?b3 (Nat.le_refl _) ?_)
 case b2=>rw[hz2];omega
 case b3=>unfold maxLen;omega
 intro w0 hown0 hgrow0;have own0:=gL hown0;have bel0:yB w w0:=(Below.refl _ _).grown hgrow0 (Nat.le_refl _) (fun k h=>by cases h)
 clear hown0 hgrow0
 go_wp2
 go_loop [4,5] (fun dv iv=> ∃k d:Nat,k≤pt∧iv=yi k∧dv=yi d∧Hid (d=2^k)) (fun _ iv=>pt-(intOf iv).toNat)
 case atStart=>exact⟨0,1,Nat.zero_le _,rfl,rfl,rfl⟩
 case round=>
  obtain⟨k,d,hk,rfl,rfl,hdk⟩:=hrel;have hdl:d≤65536:=by
   rw[hdk.out];have:2^k≤2^15:=Nat.pow_le_pow_right (by omega) (by omega);omega
  by_cases hlt:k<pt
  ·go_wp2
   go_round
   case rel=>exact⟨k+1,2*d,by omega,by go_num,by go_num,by rw[show d=2^k from hdk.out,Nat.pow_succ];exact Nat.mul_comm _ _⟩
   case measure=>simp[intOf];omega
  ·have hke:k=pt:=by omega
   subst hke;have hc:=own0.c wh (by simp);have hf:=own0.f wh;have own2:=own0.store wh d;have bel2:=bel0.setCell (p:=⟨w.heap.size,wh,none⟩) (by exact Nat.le_refl _) (yi (d:Int));have hdd:=hdk.out;rw[show(List.replicate (wh+1) 0).set wh d=Dg.dg 65536 (2^n) from by rw[hdd];exact HD.out] at own2
   have rd2:=own2.rd;clear hdd own2
   go_wp2
   go_ret
   exact⟨_,rfl,rd2,bel2⟩
theorem VS {R cur ys:List Nat}{i t k c b y p ct:Nat}(h:SX R cur ys i t k c b)(_hk:k<ys.length)(hl:i+k<R.length)(hy:ys.getD k 0=y)(hp:R.getD (i+k) 0=p)(hpl:p<4294967296)(hct:ct=c+y*t)(hcl:ct/4294967296<4294967296):
  SX R (cur.set (i+k) ((p+4294967296-ct % 4294967296-b) % 4294967296)) ys i t (k+1) (ct/4294967296) (brw p (ct % 4294967296) b):=by
 obtain⟨h1,h2,h3,h4,h5,h6⟩:=h;refine⟨by simpa using h1,Dg.small_set h2 _ _ (Nat.mod_lt _ (by omega)),hcl,RN _ _ _,fun j hj=> ?_, ?_⟩
 ·rw[Dg.getD_set _ _ _ _ (by omega),if_neg (by omega)];exact h5 j (by omega)
 ·have hs:=Dg.vl_set 4294967296 cur (i+k) ((p+4294967296-ct % 4294967296-b) % 4294967296) (by omega)
  rw[h5 _ (Nat.le_refl _),hp] at hs;have hlo:ct % 4294967296<4294967296:=Nat.mod_lt _ (by omega);have eb:p+4294967296*brw p (ct % 4294967296) b=(p+4294967296-ct % 4294967296-b) % 4294967296+ct % 4294967296+b:=by unfold brw;split<;>omega
  generalize hnew:(p+4294967296-ct % 4294967296-b) % 4294967296=new at*;generalize brw p (ct % 4294967296) b=b' at*;rw[iV,hy];have e1:4294967296^i*((Dg.vl 4294967296 (ys.take k)+4294967296^k*y)*t)=4294967296^i*(Dg.vl 4294967296 (ys.take k)*t)+4294967296^ (i+k)*(y*t):=by
   rw[Nat.add_mul,Nat.mul_add,Nat.pow_add,Nat.mul_assoc,Nat.mul_assoc]
  have e2:4294967296^ (i+(k+1))*(b'+ct/4294967296)=4294967296^ (i+k)*(4294967296*b'+4294967296*(ct/4294967296)):=by
   rw[show i+(k+1)=i+k+1 from by omega,Nat.pow_succ,Nat.mul_assoc,Nat.mul_add]
  have e3:=Nat.mod_add_div ct 4294967296;have e4:4294967296^ (i+k)*(4294967296*b'+4294967296*(ct/4294967296)+p)=4294967296^ (i+k)*(new+b+c+y*t):=by congr 1;omega
  rw[Nat.mul_add,Nat.mul_add,Nat.mul_add,Nat.mul_add,Nat.mul_add] at e4;rw[Nat.mul_add] at h6;rw[e1,e2,Nat.mul_add];omega
theorem TV {R cur ys:List Nat}{i k c y p:Nat}(h:Sp R cur ys i k c)(hl:i+k<R.length)(hy:ys.getD k 0=y)(hp:R.getD (i+k) 0=p)(hpl:p<4294967296)(hyl:y<4294967296):
  Sp R (cur.set (i+k) ((p+y+c) % 4294967296)) ys i (k+1) ((p+y+c)/4294967296):=by
 obtain⟨h1,h2,h3,h5,h6⟩:=h;refine⟨by simpa using h1,Dg.small_set h2 _ _ (Nat.mod_lt _ (by omega)),by omega,fun j hj=> ?_, ?_⟩
 ·rw[Dg.getD_set _ _ _ _ (by omega),if_neg (by omega)];exact h5 j (by omega)
 ·have hs:=Dg.vl_set 4294967296 cur (i+k) ((p+y+c) % 4294967296) (by omega)
  rw[h5 _ (Nat.le_refl _),hp] at hs;rw[iV,hy];generalize hT:p+y+c=T at*;have e1:4294967296^i*(Dg.vl 4294967296 (ys.take k)+4294967296^k*y)=4294967296^i*Dg.vl 4294967296 (ys.take k)+4294967296^ (i+k)*y:=by rw[Nat.mul_add,Nat.pow_add,Nat.mul_assoc]
  have e2:4294967296^ (i+(k+1))*(T/4294967296)=4294967296^ (i+k)*(4294967296*(T/4294967296)):=by rw[show i+(k+1)=i+k+1 from by omega,Nat.pow_succ,Nat.mul_assoc]
  have e3:4294967296^ (i+k)*T=4294967296^ (i+k)*(T % 4294967296)+4294967296^ (i+k)*(4294967296*(T/4294967296)):=by rw[←Nat.mul_add,Nat.mod_add_div]
  have e4:4294967296^ (i+k)*T=4294967296^ (i+k)*p+4294967296^ (i+k)*y+4294967296^ (i+k)*c:=by rw[←hT,Nat.mul_add,Nat.mul_add]
  rw[e1,e2];omega
theorem QR {R cur ys:List Nat}{i g b q X D:Nat}(hT:acc R cur ys i g b)(sR:Dg.Small 4294967296 R)(hX:Dg.vl 4294967296 R=X)(hD:Dg.vl 4294967296 ys=D)(hD0:0<D)(hDl:D<4294967296^ys.length)
  (hl:X<D*4294967296^ (i+1)) (hq:X/4294967296^i/D=q) (hg:g=q∨g=q+1):
  (b=0→g=q∧Dg.vl 4294967296 cur+4294967296^i*(D*q)=X∧Dg.vl 4294967296 cur<D*4294967296^i)∧
  (b=1→g=q+1∧ ∀(cur':List Nat) (o:Nat),Py cur cur' ys i o→Dg.vl 4294967296 cur'+4294967296^i*(D*q)=X∧Dg.vl 4294967296 cur'<D*4294967296^i):=by
 have hXT:X<4294967296^ (i+ys.length+1):=by
  have e1:D*4294967296^ (i+1)≤4294967296^ys.length*4294967296^ (i+1):=Nat.mul_le_mul_right _ (by omega);rw[←Nat.pow_add,show ys.length+(i+1)=i+ys.length+1 from by omega] at e1
  omega
 have hzR: ∀j,i+ys.length+1≤j→R.getD j 0=0:=fun j hj=>NB 4294967296 R _ (by omega) sR (by rw[hX];exact hXT) j hj
 obtain⟨t1,t2,t3,t4,t5⟩:=hT;have hzc: ∀j,i+ys.length+1≤j→cur.getD j 0=0:=fun j hj=>by rw[t3 j (by omega)];exact hzR j hj
 have hcl:=Dk 4294967296 cur _ (by omega) t2 hzc;have hb:=ND (X:=X) (D:=D) (i:=i) (B:=4294967296) (by omega) hD0;rw[hq] at hb;rw[hX,hD] at t5;have e3:4294967296^i*(D*(q+1))=4294967296^i*(D*q)+4294967296^i*D:=by rw[Nat.mul_add,Nat.mul_one,Nat.mul_add]
 have e4:4294967296^i*D≤4294967296^ (i+ys.length+1):=by
  have e1:4294967296^i*D≤4294967296^i*4294967296^ys.length:=Nat.mul_le_mul_left _ (by omega);rw[←Nat.pow_add] at e1;have e2:(4294967296:Nat)^ (i+ys.length)≤4294967296^ (i+ys.length+1):=Nat.pow_le_pow_right (by omega) (by omega);omega
 have e5:D*4294967296^i=4294967296^i*D:=Nat.mul_comm _ _;have hc0:0<4294967296^i*D:=Nat.mul_pos (Nat.pow_pos (by omega)) hD0;have hx:4294967296^i*(D*g)=4294967296^i*(D*q)∨4294967296^i*(D*g)=4294967296^i*(D*q)+4294967296^i*D:=by
  rcases hg with e|e
  ·left;rw[e]
  ·right;rw[e,e3]
 have hgq:(4294967296^i*(D*g)=4294967296^i*(D*q)→g=q)∧(4294967296^i*(D*g)=4294967296^i*(D*q)+4294967296^i*D→g=q+1):=by
  constructor
  ·intro e
   rcases hg with h|h
   ·exact h
   ·rw[h,e3] at e;omega
  ·intro e
   rcases hg with h|h
   ·rw[h] at e;omega
   ·exact h
 have hw:=QQ hb.1 hb.2 hx hgq t5 hcl t4;rw[e5];have hb2:=hb.2;have hb1:=hb.1;refine⟨fun h0=> ?_,fun h1=> ?_⟩
 ·have:=hw.1 h0
  exact⟨this.1,this.2,by omega⟩
 ·have h2:=hw.2 h1
  refine⟨h2.1,fun cur' o hB=> ?_⟩
  obtain⟨b1,b2,b3,b4,b5⟩:=hB;have hzc': ∀j,i+ys.length+1≤j→cur'.getD j 0=0:=fun j hj=>by rw[b3 j (by omega)];exact hzc j hj
  have hcl':=Dk 4294967296 cur' _ (by omega) b2 hzc';rw[hD] at b5;have h3:=h2.2;have ho:o=0∨o=1:=by omega
  clear hw hx hgq t5 hzR hzc hzc' t1 t2 t3 b1 b2 b3 h2 hl hXT
  rcases ho with ho|ho
  ·subst ho
   rw[Nat.mul_zero] at b5;omega
  ·subst ho
   rw[Nat.mul_one] at b5;omega
theorem Pi {A D M N i nn:Nat}{R os bs:List Nat}(h:Jm A D M R os N (i+1))(sb:Dg.Small 4294967296 bs)(hbs:Dg.vl 4294967296 bs=D)(hn:2≤nn)(hD1:2147483648*4294967296^ (nn-1)≤D)(hD2:D<4294967296^nn):
  2147483648≤bs.getD (nn-1) 0∧R.getD (i+nn) 0≤bs.getD (nn-1) 0∧
  ∀g,g<4294967296→(∀k,k*(bs.getD (nn-1) 0*4294967296+bs.getD (nn-2) 0)≤(R.getD (i+nn) 0*4294967296+R.getD (i+(nn-1)) 0)*4294967296+R.getD (i+(nn-2)) 0→k<4294967296→k≤g)→
   g*(bs.getD (nn-1) 0*4294967296+bs.getD (nn-2) 0)≤(R.getD (i+nn) 0*4294967296+R.getD (i+(nn-1)) 0)*4294967296+R.getD (i+(nn-2)) 0→
   Dg.vl 4294967296 R/4294967296^i/D<4294967296∧(g=Dg.vl 4294967296 R/4294967296^i/D∨g=Dg.vl 4294967296 R/4294967296^i/D+1):=by
 obtain⟨-,-,sR,-,-,-,hX⟩:=h;obtain⟨m,rfl⟩: ∃m,nn=m+2:=⟨nn-2,by omega⟩;have hB:(0:Nat)<4294967296:=by omega
 rw[show m+2-1=m+1 from rfl] at*
 rw[show m+2-2=m from rfl]
 have d1:bs.getD (m+1) 0=D/4294967296^ (m+1) % 4294967296:=by rw[CG 4294967296 bs (m+1) hB sb,hbs]
 have d0:bs.getD m 0=D/4294967296^m % 4294967296:=by rw[CG 4294967296 bs m hB sb,hbs]
 have p2:=CG 4294967296 R (i+(m+2)) hB sR;have p1:=CG 4294967296 R (i+(m+1)) hB sR;have p0:=CG 4294967296 R (i+m) hB sR;have hXl:Dg.vl 4294967296 R<4294967296^ (i+m+3):=by
  have e1:D*4294967296^ (i+1)≤4294967296^ (m+2)*4294967296^ (i+1):=Nat.mul_le_mul_right _ (Nat.le_of_lt hD2);rw[←Nat.pow_add,show m+2+(i+1)=i+m+3 from by omega] at e1
  exact Nat.lt_of_lt_of_le hX e1
 have tp:=adr (n:=m+2) hB (by omega) hX;rw[show m+2-1=m+1 from rfl] at tp
 have hDt:D/4294967296^ (m+1)<4294967296:=by
  rw[Nat.div_lt_iff_lt_mul (Nat.pow_pos hB),Nat.mul_comm,←Nat.pow_succ];exact hD2
 have t3:=aeU 4294967296 (Dg.vl 4294967296 R) (i+m) hB hXl;have t2:=two 4294967296 D m hB hD2;rw[d1,d0,p2,p1,p0];rw[show i+(m+2)=i+m+2 from by omega] at tp⊢
 rw[show i+(m+1)=i+m+1 from by omega]
 refine⟨?_, ?_, ?_⟩
 ·rw[Nat.mod_eq_of_lt hDt,Nat.le_div_iff_mul_le (Nat.pow_pos hB)]
  exact hD1
 ·rw[Nat.mod_eq_of_lt hDt]
  exact Nat.le_trans (Nat.mod_le _ _) tp
 ·rw[t3,t2]
  intro g hg hlow hup;refine NC hB hX ?_ hg hlow hup;have e1:1*4294967296^ (m+1)≤2147483648*4294967296^ (m+1):=Nat.mul_le_mul_right _ (by omega);rw[Nat.one_mul] at e1;exact Nat.le_trans e1 hD1
theorem iy (B:Nat)(l:List Nat)(k:Nat):Dg.vl B (l.drop k)=l.getD k 0+B*Dg.vl B (l.drop (k+1)):=by
 rw[abW B (l.drop k),Vm,List.drop_drop]
theorem Zs (B:Nat)(l:List Nat)(k:Nat)(h:l.length≤k+3):Dg.vl B (l.drop k)=l.getD k 0+B*(l.getD (k+1) 0+B*l.getD (k+2) 0):=by
 rw[iy,iy,iy,List.drop_of_length_le (by omega)];simp[Dg.vl]
theorem Zt (B:Nat)(l:List Nat)(k:Nat)(h:l.length≤k+2):Dg.vl B (l.drop k)=l.getD k 0+B*l.getD (k+1) 0:=by
 rw[iy,iy,List.drop_of_length_le (by omega)];simp[Dg.vl]
theorem Zu (rs bs:List Nat)(n R b top under:Nat)(hn:2≤n)(hbl:bs.length=n)(sr:Dg.Small 65536 rs)(nb:Dg.Norm bs)
  (hR:Dg.vl 65536 rs=R) (hb:Dg.vl 65536 bs=b) (hrl:rs.length≤n+1) (hlt:R<65536*b)
  (ht:top=65536*(65536*rs.getD n 0+rs.getD (n-1) 0)+rs.getD (n-2) 0) (hu:under=bs.getD (n-1) 0*65536+bs.getD (n-2) 0):
  R/b≤65535∧R/b≤top/(under+1)+1:=by
 obtain⟨k,rfl⟩: ∃k,n=k+2:=⟨n-2,by omega⟩;have e1:k+2-1=k+1:=by omega
 have e2:k+2-2=k:=by omega
 rw[e1,e2] at ht hu;have r1:=BH 65536 rs k;rw[Zs 65536 rs k (by omega),hR] at r1;have b1:=BH 65536 bs k;rw[Zt 65536 bs k (by omega),hb] at b1;have et:rs.getD k 0+65536*(rs.getD (k+1) 0+65536*rs.getD (k+2) 0)=top:=by omega
 have eu:bs.getD k 0+65536*bs.getD (k+1) 0=under:=by omega
 rw[et] at r1;rw[eu] at b1;have rl:Dg.vl 65536 (rs.take k)<65536^k:=Nat.lt_of_lt_of_le (Dg.vl_lt 65536 _ (Dg.small_take sr k (by omega))) (Nat.pow_le_pow_right (by omega) (List.length_take_le _ _));have hu1:65536≤under:=by
  have h0:=nb (by intro e;rw[e] at hbl;simp at hbl);rw[hbl,e1] at h0;omega
 obtain⟨P,hP⟩: ∃P,65536^k=P:=⟨_,rfl⟩;rw[hP] at r1 b1 rl;have hb0:0<b:=by
  rcases Nat.eq_zero_or_pos b with h|h
  ·rw[h] at hlt;omega
  ·exact h
 obtain⟨Q,hQ⟩: ∃Q,R/b=Q:=⟨_,rfl⟩;have q1:Q≤65535:=by
  rw[←hQ];have:R/b<65536:=by rw[Nat.div_lt_iff_lt_mul hb0];exact hlt
  omega
 have q2:Q*b≤R:=by rw[←hQ];exact Nat.div_mul_le_self R b
 rw[hQ];refine⟨q1, ?_⟩;have q3:Q*(P*under)≤Q*b:=Nat.mul_le_mul_left _ (by omega);have q4:P*(Q*under)<P*(top+1):=by
  have:P*(Q*under)=Q*(P*under):=by rw[←Nat.mul_assoc,Nat.mul_comm P Q,Nat.mul_assoc]
  rw[this,Nat.mul_add];omega
 have q5:Q*under<top+1:=Nat.lt_of_mul_lt_mul_left q4
 rcases Nat.eq_zero_or_pos Q with h|h
 ·rw[h];exact Nat.zero_le _
 ·obtain⟨q,rfl⟩: ∃q,Q=q+1:=⟨Q-1,by omega⟩
  have q6:q*(under+1)≤top:=by
   rw[Nat.add_mul] at q5;rw[Nat.mul_add];omega
  have:=(Nat.le_div_iff_mul_le (by omega)).2 q6;omega
theorem Vn {xs cur:List Nat}{b k R N:Nat}(h:BI xs cur b (k+1) R)(hk:k<xs.length)(hN:N=xs.getD k 0+65536*R)(hb:0<b)(hx:xs.getD k 0<65536):
  N<65536*b∧BI xs (cur.set k (N/b)) b k (N % b):=by
 obtain⟨h1,h2,h3,h4,h5⟩:=h;have hlt:N<65536*b:=by
  have:65536*(R+1)≤65536*b:=Nat.mul_le_mul_left _ h4;omega
 have hq:N/b<65536:=by rw[Nat.div_lt_iff_lt_mul hb];exact hlt
 refine⟨hlt,by simpa using h1,Dg.small_set h2 _ _ hq,fun j hj=> ?_,Nat.mod_lt _ hb, ?_⟩
 ·rw[Dg.getD_set _ _ _ _ (by omega),if_neg (by omega)]
  exact h3 j (by omega)
 ·rw[iy 65536 xs k,iy 65536 (cur.set k (N/b)) k,Dg.getD_set _ _ _ _ (by omega),if_pos rfl,List.drop_set_of_lt (by omega),h5]
  have:=Nat.div_add_mod N b;rw[Nat.add_mul,Nat.mul_comm (N/b) b,Nat.mul_assoc,Nat.mul_add];omega
theorem QV {xs cur:List Nat}{b k R N:Nat}(h:BI xs cur b (k+1) R)(_hk:k<xs.length)(hN:N=xs.getD k 0+65536*R)(hlt:N<b):BI xs cur b k N:=by
 obtain⟨h1,h2,h3,h4,h5⟩:=h;refine⟨h1,h2,fun j hj=>h3 j (by omega),hlt, ?_⟩
 rw[iy 65536 xs k,iy 65536 cur k,h3 k (by omega),h5,Nat.zero_add,Nat.mul_add,Nat.mul_assoc];omega
def aeu (w:World)(xs:List Nat)(b k R:Nat)(cur:List Nat)(rv:Value)(wr:World):Prop:=
 Own wr w.heap.size 3 .i64 (.slice (some ⟨w.heap.size,0,none⟩) xs.length xs.length) cur∧Rd wr .i64 rv (Dg.dg 65536 R)∧BI xs cur b k R∧yB w wr
end Go.Proofs.YtiakgfmlpdfhdaaDoor

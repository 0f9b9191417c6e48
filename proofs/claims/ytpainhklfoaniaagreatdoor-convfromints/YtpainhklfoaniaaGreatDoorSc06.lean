/-
  Texts laid together: Ref6, Dy1, Dy2.
-/
import Derived.Shelf.Spec.TrailingZeros
import Derived.Deep.RegionHeld3
import Derived.Test.YtpainhklfoaniaaGreatDoorSc05
set_option maxRecDepth 100000
set_option maxHeartbeats 1600000
namespace Go.Proofs.YtpainhklfoaniaaGreatDoor
open _root_.Go.Proofs.Tryz
open Go.RowKit
theorem C6 (wh pt:Nat)(hpt:pt<16):(List.replicate (wh+1) 0).set wh (2^pt)=Dg.dg 65536 (2^ (16*wh+pt)):=by
 have hp:2^pt<65536:=by
  have:2^pt≤2^15:=Nat.pow_le_pow_right (by omega) (by omega);omega
 have hp0:0<2^pt:=Nat.pow_pos (by omega);refine Dg.eq_dg 65536 (by omega) _ _ (Dg.small_set (Dg.small_replicate _ _ (by omega)) _ _ hp) (fun _=> ?_) ?_
 ·simp only[List.length_set,List.length_replicate,Nat.add_sub_cancel]
  rw[Dg.getD_set _ _ _ _ (by simp),if_pos rfl];omega
 ·have:=Dg.vl_set 65536 (List.replicate (wh+1) 0) wh (2^pt) (by simp)
  have hz:(List.replicate (wh+1) 0).getD wh 0=0:=by simp[List.getD_eq_getElem?_getD]
  rw[hz,Dg.vl_replicate_zero] at this;rw[Nat.pow_add,Nat.pow_mul,show(2:Nat)^16=65536 from by decide]
  omega
theorem pf (n wh pt:Nat)(w:World)(hn:n=16*wh+pt)(hpt:pt<16)(hnl:n≤1000000):
  yC 26 #[yi n] w (cG w (2^n)):=by
 have hd:=C6 wh pt hpt;rw[←hn] at hd;obtain⟨i0,hi,hz0,hz1,hz2⟩:=info_parts Tryz.infoI64;have hq:(n:Int)/16=(wh:Int):=by omega
 have hr:(n:Int) % 16=(pt:Int):=by omega
 have hwl:wh≤1000000:=by omega
 have HD:Hid _:=hd;clear hd hn
 go_enter func26,ntmps26
 go_wp2_with (at_make;refine wpList_make_full _ rfl _ _ 33 rfl w.heap.size 3 i0 (yi 0) 1 underlying33 hi hz0 hz1 _ _ _ _ (wh+1) rfl rfl (by omega) (by omega) ?b2 ?b3 (Nat.le_refl _) ?_)
 case b2=>rw[hz2];omega
 case b3=>unfold maxLen;omega
 intro w0 hown0 hgrow0;have own0:=gL hown0;have bel0:yB w w0:=(Below.refl _ _).grown hgrow0 (Nat.le_refl _) (fun k h=>by cases h)
 clear hown0 hgrow0
 go_wp2
 go_loop [4,5] (fun dv iv=> ∃k d:Nat,k≤pt∧iv=yi k∧dv=yi d∧Hid (d=2^k)) (fun _ iv=>pt-(intOf iv).toNat)
 case atStart=>exact⟨0,1,Nat.zero_le _,rfl,rfl,rfl⟩
 case round=>
  obtain⟨k,d,hk,rfl,rfl,hdk⟩:=hrel;have hdl:d≤65536:=by
   rw[hdk.out];have:2^k≤2^15:=Nat.pow_le_pow_right (by omega) (by omega);omega
  by_cases hlt:k<pt
  ·go_wp2
   go_round
   case rel=>exact⟨k+1,2*d,by omega,by go_num,by go_num,by rw[show d=2^k from hdk.out,Nat.pow_succ];exact Nat.mul_comm _ _⟩
   case measure=>simp[intOf];omega
  ·have hke:k=pt:=by omega
   subst hke;have hc:=own0.c wh (by simp);have hf:=own0.f wh;have own2:=own0.store wh d;have bel2:=bel0.setCell (p:=⟨w.heap.size,wh,none⟩) (by exact Nat.le_refl _) (yi (d:Int));have hdd:=hdk.out;rw[show(List.replicate (wh+1) 0).set wh d=Dg.dg 65536 (2^n) from by rw[hdd];exact HD.out] at own2
   have rd2:=own2.rd;clear hdd own2
   go_wp2
   go_ret
   exact⟨_,rfl,rd2,bel2⟩
theorem Fr (n:Nat):(Dg.dg 65536 (2^n)).length≤n/16+1:=by
 refine Dg.dg_len_le _ _ _ (by omega) ?_;rw[show(65536:Nat)=2^16 from by decide,←Nat.pow_mul]
 exact Nat.pow_lt_pow_right (by omega) (by omega)
theorem kD (va:Value)(xs:List Nat)(n:Nat)(w:World)(ha:Rd w .i64 va xs)(sa:Dg.Small 65536 xs)(hla:xs.length≤1000000)(hnl:n≤1000000):
  yC 62 #[va,yi n] w (cG w (Dg.vl 65536 xs*2^n)):=by
 obtain⟨ao,ca,rfl⟩:=ha.shape
 by_cases hne:xs=[]
 ·subst hne
  have hz:Dg.vl 65536 []*2^n=0:=by simp[Dg.vl]
  rw[hz]
  go_enter func62,ntmps62
  go_wp2
  go_ret
  exact⟨_,rfl,(aQ _ 0 0 _).rd,Below.refl _ _⟩
 ·have h00:((xs.length:Int)==0)=false:=by simp;exact hne
  have hp:=pf n (n/16) (n % 16) w (by omega) (by omega) hnl;have hl:=Fr n
  go_enter func62,ntmps62
  go_wp2_with fail
  refine hp.mono ?_;rintro e w1 ⟨v1,rfl,r1,b1⟩;have ht:=fN _ v1 xs _ w1 (ha.l b1) r1 sa (Dg.small_dg _ _ (by omega)) hla (by omega);rw[Dg.vl_dg _ _ (by omega)] at ht
  go_wp2_with fail
  refine ht.mono ?_;rintro e w2 ⟨v2,rfl,r2,b2⟩;have b12:=aa b1 b2;clear ht hp
  go_wp2
  go_ret
  exact⟨_,rfl,r2,b12⟩
theorem XR (P Q:Nat)(l:List Nat)(k:Nat)(h:k<l.length):(low P Q l).take (k+1)=(low P Q l).take k++[l.getD k 0/P+l.getD (k+1) 0 % P*Q]:=by
 rw[Dg.take_succ' _ k (by rw[mA];exact h),Gb P Q l k h]
theorem Ug (P Q:Nat)(l:List Nat)(hPQ:P*Q=65536)(hs:Dg.Small 65536 l):Dg.Small 65536 (low P Q l):=by
 intro j
 by_cases hj:j<l.length
 ·rw[Gb P Q l j hj]
  have hP:0<P:=by
   rcases Nat.eq_zero_or_pos P with e|e
   ·subst e;simp at hPQ
   ·exact e
  have h1:l.getD j 0/P<Q:=by rw[Nat.div_lt_iff_lt_mul hP,Nat.mul_comm,hPQ];exact hs j
  have h2:(l.getD (j+1) 0 % P+1)*Q≤P*Q:=Nat.mul_le_mul_right _ (Nat.mod_lt _ hP);rw[Nat.add_mul,hPQ] at h2;omega
 ·rw[Dg.getD_of_le _ _ (by rw[mA];omega)];omega
theorem aa7 (B:Nat)(hB:0<B)(xs:List Nat)(wh:Nat)(hw:wh≤xs.length)(sa:Dg.Small B xs):Dg.vl B (xs.drop wh)=Dg.vl B xs/B^wh:=by
 have hsp:=Dg.vl_take_drop B xs wh hw;have hlt:=Dg.vl_lt B (xs.take wh) (Dg.small_take sa _ hB);rw[List.length_take,Nat.min_eq_left hw] at hlt;rw[hsp,Nat.add_comm,Nat.mul_add_div (Nat.pow_pos hB),Nat.div_eq_of_lt hlt,Nat.add_zero]
theorem MD (va:Value)(xs:List Nat)(n wh pt P Q:Nat)(w:World)(ha:Rd w .i64 va xs)(sa:Dg.Small 65536 xs)(hla:xs.length≤1000000)(hn:n=16*wh+pt)(hpt:pt<16)(hnl:n≤100000000)(hP:P=2^pt)(hQ:Q=2^ (16-pt)):
  yC 34 #[va,yi n] w (Si w (Dg.vl 65536 xs/2^n)):=by
 have hPQ:P*Q=65536:=by rw[hP,hQ,←Nat.pow_add,show pt+(16-pt)=16 from by omega]
 have hpw:65536^wh*P=2^n:=by rw[hn,hP,Nat.pow_add,Nat.pow_mul]
 have hP0:0<P:=by rw[hP];exact Nat.pow_pos (by omega)
 have hQ0:0<Q:=by rw[hQ];exact Nat.pow_pos (by omega)
 have hPl:P≤65536:=by rw[←hPQ];exact Nat.le_mul_of_pos_right _ hQ0
 have hQl:Q≤65536:=by rw[←hPQ];exact Nat.le_mul_of_pos_left _ hP0
 obtain⟨ao,ca,rfl,-,-,hca⟩:=ha;obtain⟨i0,hi,hz0,hz1,hz2⟩:=info_parts Tryz.infoI64;have hq:(n:Int)/16=(wh:Int):=by omega
 have hr:(n:Int) % 16=(pt:Int):=by omega
 have hwl:wh≤100000000:=by omega
 have HPQ:Hid _:=hPQ;have HPW:Hid _:=hpw;have HP:Hid _:=hP
 by_cases hge:xs.length≤wh
 ·have hz:Dg.vl 65536 xs/2^n=0:=by
   apply Nat.div_eq_of_lt;have h1:=Dg.vl_lt 65536 xs sa;have h2:65536^xs.length≤65536^wh:=Nat.pow_le_pow_right (by omega) hge;have h3:65536^wh≤65536^wh*P:=Nat.le_mul_of_pos_right _ hP0;omega
  rw[hz];clear hz hn hPQ hpw hP hQ
  go_enter func34,ntmps34
  go_wp2
  go_ret
  exact⟨_,rfl,(aQ _ 0 0 _).rd,(fun a n c h=>by cases h),Below.refl _ _⟩
 ·have hdQ:(65536:Int)/(P:Int)=(Q:Int):=by
   have:65536/P=Q:=by rw[←hPQ];exact Nat.mul_div_cancel_left _ hP0
   rw[←this];exact(Int.natCast_ediv 65536 P).symm
  clear hn hPQ hpw hP hQ
  go_enter func34,ntmps34
  go_wp2
  go_loop [5,6] (fun dv iv=> ∃k d:Nat,k≤pt∧iv=yi k∧dv=yi d∧Hid (d=2^k)) (fun _ iv=>pt-(intOf iv).toNat)
  case atStart=>exact⟨0,1,Nat.zero_le _,rfl,rfl,rfl⟩
  case round=>
   obtain⟨k,d,hk,rfl,rfl,hdk⟩:=hrel;have hdl:d≤65536:=by
    rw[hdk.out];have:2^k≤2^15:=Nat.pow_le_pow_right (by omega) (by omega);omega
   by_cases hlt:k<pt
   ·go_wp2
    go_round
    case rel=>exact⟨k+1,2*d,by omega,by go_num,by go_num,by rw[show d=2^k from hdk.out,Nat.pow_succ];exact Nat.mul_comm _ _⟩
    case measure=>simp[intOf];omega
   ·have hke:k=pt:=by omega
    subst hke;have hdP:d=P:=hdk.out.trans HP.out.symm;subst hdP;clear hdk hdl HP
    go_wp2
    go_loopw [7,8] (fun ov iv wr=> ∃j:Nat,wh+j≤xs.length∧iv=yi ((wh+j:Nat):Int)∧Own wr w.heap.size 3 .i64 ov ((low d Q (xs.drop wh)).take j)∧yB w wr) (fun _ iv _=>xs.length-(intOf iv).toNat)
    case atStart=>exact⟨0,by omega,by go_num,aQ _ _ _ _,Below.refl _ _⟩
    case round=>
     obtain⟨j,hj,rfl,own,bel⟩:=hrel
     by_cases hlt2:wh+j<xs.length
     ·obtain⟨b,off,rfl,hcell⟩:=hca (by omega)
      have hx:=cell_later bel (hcell (wh+j) hlt2);have hy:=fun h:wh+j+1<xs.length=>cell_later bel (hcell (wh+j+1) h)
      have hxl:=sa (wh+j);have hyl:=sa (wh+j+1);have hy0: ¬wh+j+1<xs.length→xs.getD (wh+j+1) 0=0:=fun h=>Dg.getD_of_le _ _ (by omega)
      have hsn:=XR d Q (xs.drop wh) j (by simp;omega);rw[ui,ui,←Nat.add_assoc] at hsn;obtain⟨x,ex⟩: ∃x,xs.getD (wh+j) 0=x:=⟨_,rfl⟩;obtain⟨y,ey⟩: ∃y,xs.getD (wh+j+1) 0=y:=⟨_,rfl⟩;obtain⟨es,ees⟩: ∃es,(low d Q (xs.drop wh)).take j=es:=⟨_,rfl⟩;have hel:es.length≤1000000:=by rw[←ees];simp[mA];omega
      rw[ex] at hx hxl hsn;rw[ey] at hy hyl hy0 hsn;rw[ees] at hsn own;have HS:Hid _:=hsn;have hbs:=bel.size;obtain⟨q1,hq1⟩: ∃q1,x/d=q1:=⟨_,rfl⟩;obtain⟨m1,hm1⟩: ∃m1,y % d=m1:=⟨_,rfl⟩;have hq1I:(x:Int)/(d:Int)=(q1:Int):=by rw[←hq1];exact(Int.natCast_ediv x d).symm
      have hm1I:(y:Int) % (d:Int)=(m1:Int):=by rw[←hm1];exact(Int.natCast_emod y d).symm
      have hq1l:q1≤65536:=by rw[←hq1];have:=Nat.div_le_self x d;omega
      have hm1l:m1<d:=by rw[←hm1];exact Nat.mod_lt _ hP0
      rw[hq1,hm1] at HS;have hmQ:m1*Q≤65536*65536:=Nat.mul_le_mul (by omega) hQl;have hmQI:(m1:Int)*(Q:Int)≤4294967296:=by rw[←Int.natCast_mul];omega
      have hmQ0:0≤(m1:Int)*(Q:Int):=by rw[←Int.natCast_mul];omega
      clear ex ey ees hcell hca hsn hq1 hm1 hmQ
      by_cases h2:wh+j+1<xs.length
      ·have hy1:=hy h2
       clear hy hy0;have own2:=fun m=>Own.l own (aL (Below.refl wr.heap.size wr) m)
       go_wp2
       go_quiet (fail)
       go_wp2_with (at_builtin;refine wpList_append_own _ rfl _ _ 33 rfl w.heap.size 3 i0 (yi 0) 1 8 underlying33 hi hz0 hz1 hz2 rfl (by decide) _ _ _ rfl (World.ownsRow.alloc (own2 _) _) ⟨wr.heap.size,0,none⟩ 1 1 [yi ((q1:Int)+(m1:Int)*(Q:Int))] rfl rfl ?c1 ?c2 ?c3 ?c4 ?c5 ?_)
       case c1=>exact cell_one_new _ _ _
       case c2=>intro u hu;simp at hu;subst hu;rfl
       case c3=>unfold maxLen;omega
       case c4=>omega
       case c5=>simp;omega
       intro v' w3 hown' hgrow _;have e0:((q1:Int)+(m1:Int)*(Q:Int))=((q1+m1*Q:Nat):Int):=by rw[Int.natCast_add,Int.natCast_mul]
       rw[e0] at hown' hgrow;have R:=iW (aL bel _) (own2 _) hown' hgrow;clear hown' hgrow own own2 e0
       go_wp2
       go_roundw
       case rel=>exact⟨j+1,by omega,by go_num,by rw[HS.out];exact R.1,R.2⟩
       case measure=>simp[intOf];omega
      ·have hy1:=hy0 h2
       subst hy1;have hm0:m1=0:=by
        have:(m1:Int)=0:=by rw[←hm1I];simp
        omega
       subst hm0;simp only[Nat.zero_mul,Nat.add_zero] at HS;clear hy hy0 hm1I hmQI hmQ0
       go_wp2_with (at_builtin;refine wpList_append_own _ rfl _ _ 33 rfl w.heap.size 3 i0 (yi 0) 1 8 underlying33 hi hz0 hz1 hz2 rfl (by decide) _ _ _ rfl (World.ownsRow.alloc own _) ⟨wr.heap.size,0,none⟩ 1 1 [yi ((q1:Int))] rfl rfl ?d1 ?d2 ?d3 ?d4 ?d5 ?_)
       case d1=>exact cell_one_new _ _ _
       case d2=>intro u hu;simp at hu;subst hu;rfl
       case d3=>unfold maxLen;omega
       case d4=>omega
       case d5=>simp;omega
       intro v' w3 hown' hgrow _;have R:=iW bel own hown' hgrow;clear hown' hgrow own
       go_wp2
       go_roundw
       case rel=>exact⟨j+1,by omega,by go_num,by rw[HS.out];exact R.1,R.2⟩
       case measure=>simp[intOf];omega
     ·have hje:wh+j=xs.length:=by omega
      rw[List.take_of_length_le (by rw[mA];simp;omega)] at own;have hsm:=Ug d Q (xs.drop wh) HPQ.out (fun i=>by rw[ui];exact sa _)
      have hv:Dg.vl 65536 (low d Q (xs.drop wh))=Dg.vl 65536 xs/2^n:=by
       have:=Y8 d Q hP0 (xs.drop wh);rw[HPQ.out] at this;rw[this,aa7 65536 (by omega) xs wh (by omega) sa,Nat.div_div_eq_div_mul,HPW.out]
      have hlw:(low d Q (xs.drop wh)).length≤1000000:=by rw[mA];simp;omega
      obtain⟨ls,hls⟩: ∃ls,low d Q (xs.drop wh)=ls:=⟨_,rfl⟩;rw[hls] at own hsm hv hlw;have HV:Hid _:=hv;clear hls hv;obtain⟨oo,oc,rfl⟩:=own.rd.shape;have hF:=JH own
      go_wp2_with fail
      refine(i9 _ _ _ _ _ own.rd).mono ?_;rintro e w' ⟨m,rfl,hm,rfl⟩;have hml:=hm.1;have HF:Hid (Far w.heap.size (.slice oo m m)):=LP hF m m;clear hF;have hr2:=uE (cap':=m) 65536 (by omega) own.rd hsm hm (Nat.le_refl _) (by unfold maxLen;omega);rw[HV.out] at hr2;clear hm
      go_wp2
      go_ret
      exact⟨_,rfl,hr2,HF.out,bel⟩
theorem Ft (va:Value)(xs:List Nat)(n wh pt P Q:Nat)(w:World)(ha:Rd w .i64 va xs)(sa:Dg.Small 65536 xs)(hla:xs.length≤1000000)(hn:n=16*wh+pt)(hpt:pt<16)(hnl:n≤100000000)(hP:P=2^pt)(hQ:Q=2^ (16-pt)):
  yC 34 #[va,yi n] w (cG w (Dg.vl 65536 xs/2^n)):=
 (MD va xs n wh pt P Q w ha sa hla hn hpt hnl hP hQ).mono fun _ _ ⟨v,h1,h2,_,h3⟩=>⟨v,h1,h2,h3⟩
def Tab (w:World):Prop:= ∀j,j<32→w.cell? ⟨1,j,none⟩=some (.int .u8 ((Lib.deBruijn32tab.getD j 0:Nat):Int))
theorem Tab.l {w w':World}(h:Tab w)(hb:yB w w'):Tab w':=fun j hj=>cell_later hb (h j hj)
theorem Vp (x k idx:Nat)(w:World)(hx0:((x:Int)==0)=false)
  (key:bits BinOp.and IntKind.u32 x (-(x:Int) % 4294967296)*125613361 % 4294967296/134217728=(idx:Int))
  (hi:idx<32) (hk:k<32) (hcell:w.cell? ⟨1,idx,none⟩=some (.int .u8 k)):
  yC 174 #[.int .u32 x] w fun e w'=>e= .returned (yi k)∧w'=w:=by
 go_enter func174,ntmps174
 go_wp2_with (simp only[key])
 go_ret
 exact⟨rfl,rfl⟩
theorem Zw (x:Nat)(w:World)(hx:x<4294967296)(hx0:x≠0)(hT:Tab w):
  yC 174 #[.int .u32 x] w fun e w'=> ∃k m:Nat,e= .returned (yi k)∧x=2^k*(2*m+1)∧k<32∧w'=w:=by
 obtain⟨hlow,hk⟩:=Lib.lowest_bit 32 x hx0 hx;obtain⟨hi,htab⟩:=Lib.deBruijn32_at _ hk;obtain⟨m,hm,_⟩:=Lib.ctzFrom_spec 32 x (by omega) hx;have e0:Lib.ctz 32 x=Lib.ctzFrom 32 x:=by simp[Lib.ctz,hx0]
 have hcell:=hT _ hi;rw[htab] at hcell;refine(Vp x _ _ w (by simp;omega) (tz32_key x _ hx hx0 hlow) hi hk hcell).mono ?_;rintro e w' ⟨rfl,rfl⟩;exact⟨_,m,rfl,by rw[e0];exact hm,hk,rfl⟩
theorem Zx (l:List Nat)(k t m:Nat)(hk:k<l.length)(h: ∀j,j<k→l.getD j 0=0)(hd:l.getD k 0=2^t*(2*m+1))(ht:t<32):tz (Dg.vl 4294967296 l)=32*k+t:=by
 have h1:=Dg.vl_split 4294967296 l k hk;have h0:Dg.vl 4294967296 (l.take k)=0:=Dg.vl_zeros 4294967296 (l.take k) (fun i=>by
  by_cases hi:i<k
  ·have:=h i hi
   simpa[List.getD_eq_getElem?_getD,List.getElem?_take,hi] using this
  ·simp[List.getD_eq_getElem?_getD,List.getElem?_take,hi])
 rw[h0,hd,Nat.zero_add] at h1;obtain⟨u,hu⟩: ∃u,Dg.vl 4294967296 (l.drop (k+1))=u:=⟨_,rfl⟩;rw[hu] at h1;have e32:(4294967296:Nat)=2^t*(2*2^ (31-t)):=by
  have:(4294967296:Nat)=2^ (t+(1+(31-t))):=by rw[show t+(1+(31-t))=32 from by omega]
  rw[this,Nat.pow_add,Nat.pow_add,Nat.pow_one]
 have e1:(2:Nat)^ (32*k)=4294967296^k:=by rw[Nat.pow_mul]
 refine F8 (m:=m+2^ (31-t)*u) ?_;rw[h1,Nat.pow_add,e1,Nat.mul_assoc]
 congr 1
 generalize 2^ (31-t)=c at*;have e2:4294967296*u=2^t*(2*(c*u)):=by rw[e32];simp only[Nat.mul_assoc]
 rw[e2,←Nat.mul_add]
 congr 1
 omega
theorem Gl (v:Value)(n:Nat)(w:World)(hv:Rd w .u32 v (Dg.dg 4294967296 n))(hL:(Dg.dg 4294967296 n).length≤1000000)(hT:Tab w):
  yC 166 #[v] w fun e w'=>e= .returned (yi ((if n=0 then 0 else tz n:Nat):Int))∧w'=w:=by
 have hs:=Dg.small_dg 4294967296 n (by omega);have hvl:=Dg.vl_dg 4294967296 n (by omega);have hz:(∀j,(Dg.dg 4294967296 n).getD j 0=0)→n=0:=fun h=>by rw[←hvl];exact Dg.vl_zeros _ _ h
 obtain⟨xs,hx⟩: ∃xs,Dg.dg 4294967296 n=xs:=⟨_,rfl⟩;rw[hx] at hv hs hvl hz hL;obtain⟨ao,ca,rfl⟩:=hv.shape;obtain⟨hlc,hm,hcb⟩:=iQ hv;have HZ:Hid (∀k,xs.length≤k→(∀j,j<k→xs.getD j 0=0)→n=0):=fun k hk h=>hz (fun j=>by
  by_cases hj:j<k
  ·exact h j hj
  ·simp[List.getD_eq_getElem?_getD,show xs.length≤j from by omega])
 have HN:Hid _:=hvl;clear hx hz hvl hv
 go_enter func166,ntmps166
 go_wp2
 go_loop [7] (fun iv=> ∃k:Nat,k≤xs.length∧iv=yi k∧Hid (∀j,j<k→xs.getD j 0=0)) (fun iv=>xs.length-(intOf iv).toNat)
 case atStart=>exact⟨0,Nat.zero_le _,rfl,fun j hj=>absurd hj (Nat.not_lt_zero j)⟩
 case round=>
  obtain⟨k,hk,rfl,hzk⟩:=hrel
  by_cases hlt:k<xs.length
  ·obtain⟨b,off,rfl,hcell⟩:=hcb (by omega)
   have hc:=hcell k hlt;have hl:=hs k;obtain⟨x,hx⟩: ∃x,xs.getD k 0=x:=⟨_,rfl⟩;rw[hx] at hc hl;have HX:Hid _:=hx;clear hx hcell hcb
   by_cases hx0:x=0
   ·subst hx0
    go_wp2
    go_round
    case rel=>exact⟨k+1,by omega,by go_num,fun j hj=>by
     by_cases e:j=k
     ·rw[e];exact HX.out
     ·exact hzk.out j (by omega)⟩
    case measure=>simp[intOf];omega
   ·have ht:=Zw x w hl hx0 hT
    have h0:((x:Int)==0)=false:=by simp;exact hx0
    go_wp2_with fail
    refine ht.mono ?_;rintro e w' ⟨t,m,rfl,hxm,htl,rfl⟩;have e1:=Zx xs k t m hlt hzk.out (by rw[HX.out];exact hxm) htl;rw[HN.out] at e1;have hn0:n≠0:=by
     intro e;have h2:=adl 4294967296 xs k (by omega) hs (by rw[HN.out];exact e);rw[HX.out] at h2;exact hx0 h2
    clear ht hxm
    go_wp2
    go_ret
    refine⟨?_,rfl⟩
    first|rfl| (rw[e1];rfl)| (simp only[e1];rfl)| (show Ending.returned (Value.int IntKind.i64 (32*(k:Int)+(t:Int)))=_;rw[e1];rfl)
  ·have hn0:=HZ.out k (by omega) hzk.out
   go_wp2
   go_ret
   subst hn0;exact⟨rfl,rfl⟩
def Dv (w:World)(v:Value)(t:ak):Prop:= ∃s,v=(ydV t.s s t.e)∧Rd w .u32 s (Dg.dg 4294967296 t.n)
def jN (w:World)(t:ak)(e:Ending)(w':World):Prop:= ∃s,e= .returned (ydV t.s s t.e)∧Own w' w.heap.size 108 .u32 s (Dg.dg 4294967296 t.n)∧yB w w'
theorem Dv.l {w w':World}{v:Value}{t:ak}(h:Dv w v t)(hb:yB w w'):Dv w' v t:=by
 obtain⟨s,hv,hr⟩:=h;exact⟨s,hv,hr.l hb⟩
def Loc (w:World)(b:Nat)(v0 v1 v2:Value):Prop:=
 b<w.heap.size∧(w.cell? ⟨b,0,none⟩=some v0∧w.cell? ⟨b,1,none⟩=some v1∧w.cell? ⟨b,2,none⟩=some v2)∧w.frozen? ⟨b,0,none⟩=false∧w.frozen? ⟨b,1,none⟩=false∧w.frozen? ⟨b,2,none⟩=false
theorem Loc.l {w w':World}{b:Nat}{v0 v1 v2:Value}(h:Loc w b v0 v1 v2)(hb:yB w w'):Loc w' b v0 v1 v2:=by
 obtain⟨hl,⟨c0,c1,c2⟩,f0,f1,f2⟩:=h;have hk:=hb.block b hl;refine⟨Nat.lt_of_lt_of_le hl hb.size,⟨cell_later hb c0,cell_later hb c1,cell_later hb c2⟩, ?_, ?_, ?_⟩
 ·rw[World.frozen?_of_block (w:=w) (a:=⟨b,0,none⟩) hk];exact f0
 ·rw[World.frozen?_of_block (w:=w) (a:=⟨b,1,none⟩) hk];exact f1
 ·rw[World.frozen?_of_block (w:=w) (a:=⟨b,2,none⟩) hk];exact f2
theorem aA (w:World)(v0 v1 v2:Value)(ty:TypeId):Loc (w.alloc (.cells #[v0,v1,v2] ty)) w.heap.size v0 v1 v2:=by
 refine⟨by simp[World.size_alloc],⟨?_, ?_, ?_⟩, ?_, ?_, ?_⟩
 ·rw[World.cell?_alloc_at _ _ _ _ rfl];rfl
 ·rw[World.cell?_alloc_at _ _ _ _ rfl];rfl
 ·rw[World.cell?_alloc_at _ _ _ _ rfl];rfl
 ·exact World.frozen?_alloc_at _ _ _ _ rfl
 ·exact World.frozen?_alloc_at _ _ _ _ rfl
 ·exact World.frozen?_alloc_at _ _ _ _ rfl
theorem aD {w:World}{b:Nat}{v0 v1 v2:Value}(h:Loc w b v0 v1 v2)(x0 x1 x2:Value):
  Loc (((w.setCell ⟨b,0,none⟩ x0).setCell ⟨b,1,none⟩ x1).setCell ⟨b,2,none⟩ x2) b x0 x1 x2:=by
 obtain⟨hl,⟨c0,c1,c2⟩,f0,f1,f2⟩:=h;refine⟨by simpa using hl,⟨?_, ?_, ?_⟩, ?_, ?_, ?_⟩
 ·rw[World.cell?_setCell_other (h:=by simp),World.cell?_setCell_other (h:=by simp)]
  exact World.cell?_setCell_same _ _ _ c0
 ·have k1:(w.setCell ⟨b,0,none⟩ x0).cell? ⟨b,1,none⟩=some v1:=by rw[World.cell?_setCell_other (h:=by simp)];exact c1
  rw[World.cell?_setCell_other (h:=by simp)];exact World.cell?_setCell_same _ _ _ k1
 ·have k2:((w.setCell ⟨b,0,none⟩ x0).setCell ⟨b,1,none⟩ x1).cell? ⟨b,2,none⟩=some v2:=by rw[World.cell?_setCell_other (h:=by simp),World.cell?_setCell_other (h:=by simp)];exact c2
  exact World.cell?_setCell_same _ _ _ k2
 ·simpa using f0
 ·simpa using f1
 ·simpa using f2
theorem Own.apart {w w':World}{base e b:Nat}{k:IntKind}{v:Value}{zs:List Nat}(h:Own w base e k v zs)(hg:w.grownBy w' (some b))(hb:b<base):Own w' base e k v zs:=by
 obtain⟨hl,h2⟩:=h;refine⟨hl, ?_⟩
 rcases h2 with h2| ⟨g',cap',cur,hv,hbg,hh,r⟩
 ·exact .inl h2
 ·refine .inr ⟨g',cap',cur,hv,hbg, ?_,r⟩
  have hlt:g'<w.heap.size:=by
   rw[Array.getElem?_eq_some_iff] at hh;exact hh.1
  rw[hg.block g' hlt (by intro e;cases e;omega)]
  exact hh
theorem Own.apart3 {w:World}{base e b:Nat}{k:IntKind}{v:Value}{zs:List Nat}(h:Own w base e k v zs)(hb:b<base)(x0 x1 x2:Value):
  Own (((w.setCell ⟨b,0,none⟩ x0).setCell ⟨b,1,none⟩ x1).setCell ⟨b,2,none⟩ x2) base e k v zs:=
 ((h.apart (bI w b 0 x0) hb).apart (bI _ b 1 x1) hb).apart (bI _ b 2 x2) hb
theorem aN (w:World)(k:IntKind):Rd w k yN []:=(aQ w 0 0 k).rd
theorem af (w:World)(o:Obj):yB w (w.alloc o):=(Below.refl _ _).alloc (Nat.le_refl _) _
theorem cN (b:Bool)(ao:Option Addr)(n ca:Nat)(e:Int)(w:World):yC 155 #[ydV b (.slice ao n ca) e] w (yR w (.slice ao n ca)):=by
 have b1:yB w (w.alloc (.cells (ydA b (.slice ao n ca) e) 205)):=(Below.refl _ _).alloc (Nat.le_refl _) _
 go_enter func155,ntmps155
 go_wp2
 go_ret
 exact⟨rfl,b1⟩
theorem l9 (b:Bool)(ao:Option Addr)(n ca:Nat)(e:Int)(w:World):yC 167 (ydA b (.slice ao n ca) e) w (yR w (ydV b (.slice ao n ca) e)):=by
 go_enter func167,ntmps167
 go_wp2
 go_returns
 exact⟨rfl,(Below.refl _ _).alloc (Nat.le_refl _) _⟩
theorem iK (b:Bool)(ao:Option Addr)(n ca:Nat)(e:Int)(w:World):yC 126 #[ydV b (.slice ao n ca) e] w (yR w (ydV b (.slice ao n ca) e)):=by
 go_enter func126,ntmps126
 go_wp2
 go_returns
 exact⟨rfl,((Below.refl _ _).alloc (Nat.le_refl _) _).alloc (by simp[World.size_alloc]) _⟩
theorem II (v:Value)(t:ak)(w:World)(hv:Dv w v t)(hL:(Dg.dg 4294967296 t.n).length≤500000)(he: -1000000≤t.e∧t.e≤1000000)(hT:Tab w)(htz:tz t.n≤1000000):
  Calls Tryz.prog 156 #[v] w (jN w (bare t)):=by
 obtain⟨s,rfl,hr⟩:=hv;obtain⟨ts,n,e⟩:=t;simp only at hr hL he htz⊢;obtain⟨ao,ca,rfl⟩:=hr.shape;obtain⟨e1,e2⟩:=he
 by_cases hn:n=0
 ·subst hn
  rw[show Dg.dg 4294967296 0=[] from rfl] at hr⊢
  go_enter func156,ntmps156
  rw[show bare ⟨ts,0,e⟩=⟨false,0,0⟩ from by unfold bare;rfl]
  go_wp2
  go_returns
  exact⟨_,rfl,aQ _ _ _ _,((Below.refl _ _).alloc (Nat.le_refl _) _).alloc (by simp[World.size_alloc]) _⟩
 ·have h0:(((Dg.dg 4294967296 n).length:Int)==0)=false:=by simp[Dg.dg_nil_iff 4294967296 n (by omega)];exact hn
  have HB:Hid (bare ⟨ts,n,e⟩=⟨ts,n/2^tz n,e+tz n⟩):=by show bare ⟨ts,n,e⟩=_;unfold bare;rw[if_neg hn]
  have hsm:=Dg.small_dg 4294967296 n (by omega);have hvl:=Dg.vl_dg 4294967296 n (by omega);have HTW:Hid (∀w1,Below w.heap.size w w1→Calls Tryz.prog 166 #[.slice ao (Dg.dg 4294967296 n).length ca] w1 fun e w'=>e= .returned (.int .i64 ((tz n:Nat):Int))∧w'=w1):=fun w1 b1=>by
   have:=Gl _ n w1 (hr.l b1) (by omega) (hT.l b1)
   rwa [if_neg hn] at this
  have HSH:Hid (∀w1,Below w.heap.size w w1→Calls Tryz.prog 118 #[.slice ao (Dg.dg 4294967296 n).length ca,.int .i64 (-((tz n:Nat):Int))] w1 (Num w1 (n/2^tz n))):=fun w1 b1=>by
   have:=eO _ _ (-((tz n:Nat):Int)) w1 (hr.l b1) hsm (by omega) (by omega) (by omega);rw[hvl] at this;have e:shN n (-((tz n:Nat):Int))=n/2^tz n:=by
    unfold shN
    by_cases hz: -((tz n:Nat):Int)<0
    ·rw[if_pos hz];congr 2;omega
    ·rw[if_neg hz]
     have h0:tz n=0:=by omega
     rw[h0];simp
   rwa [e] at this
  obtain⟨m,hm⟩: ∃m,(Dg.dg 4294967296 n).length=m:=⟨_,rfl⟩;obtain⟨k,hk⟩: ∃k,tz n=k:=⟨_,rfl⟩;obtain⟨q,hq⟩: ∃q,n/2^tz n=q:=⟨_,rfl⟩;rw[hq,hk] at HB;rw[hq,hk,hm] at HSH;rw[hk,hm] at HTW;rw[hm] at h0 hL⊢;rw[hk] at htz;rw[HB.out];clear hm hk hq hr hsm hvl HB hn hT;have l1:=(aA w (.bool ts) (.slice ao m ca) (.int .i64 e) 205).l (af _ (.cells #[.bool false,.slice none 0 0,.int .i64 0] 205));have l2:=aA (w.alloc (.cells #[.bool ts,.slice ao m ca,.int .i64 e] 205)) (.bool false) (.slice none 0 0) (.int .i64 0) 205;have bA:=aa (af w (.cells #[.bool ts,.slice ao m ca,.int .i64 e] 205)) (af _ (.cells #[.bool false,.slice none 0 0,.int .i64 0] 205));rw[World.size_alloc] at l2
  go_enter func156,ntmps156
  go_wp2_with fail
  refine(cN ts ao m ca e _).mono ?_;rintro x w1 ⟨rfl,b1⟩;have l1:=l1.l b1;have l2:=l2.l b1;have b01:=aa bA b1;clear bA b1
  go_wp2_with fail
  refine(HTW.out w1 b01).mono ?_;rintro x w2 ⟨rfl,rfl⟩;have bd:Below w2.heap.size w2 w2.drew:=(Below.refl _ _).drew;have l1:=l1.l bd;have l2:=l2.l bd;have b02:=aa b01 bd;obtain⟨-,⟨c0,c1,c2⟩,-⟩:=id l1;clear b01 bd;have e3:IntKind.i64.wrap (-(k:Int))= -(k:Int):=IntWalk.i64_in _ ⟨by omega,by omega⟩;have e4:IntKind.i64.wrap (e+(k:Int))=e+(k:Int):=IntWalk.i64_in _ ⟨by omega,by omega⟩
  go_wp2_with fail
  go_region_held3 (fun wq=>wq.cell? ⟨w.heap.size,0,none⟩=some (.bool ts)∧wq.cell? ⟨w.heap.size,1,none⟩=some (.slice ao m ca)∧wq.cell? ⟨w.heap.size,2,none⟩=some (.int .i64 e)) (go_keep) (first
   | (go_at_call 155;refine(cN ts ao m ca e _).mono ?_;rintro x w3 ⟨rfl,b3⟩;have l13:=l1.l b3;have l23:=l2.l b3;have b03:=aa b02 b3;obtain⟨-,⟨p0,p1,p2⟩,-⟩:=id l13)
   | (go_at_call 118;refine(HSH.out _ b03).mono ?_;rintro x w4 ⟨vs,rfl,own4,b4⟩;have l14:=l13.l b4;have l24:=l23.l b4;have b04:=aa b03 b4;obtain⟨so,sc,hvs⟩:=own4.rd.shape;subst hvs;obtain⟨-,⟨q0,q1,q2⟩,-⟩:=id l14)
   | (go_at_call 167;refine(l9 ts so _ sc _ _).mono ?_;rintro x w5 ⟨rfl,b5⟩;have l25:=l24.l b5;have l15:=l14.l b5;obtain⟨-,⟨r0,r1,r2⟩,-⟩:=id l15;have b05:=aa b04 b5;have rd5:=own4.rd.l b5;obtain⟨hl5,⟨d0,d1,d2⟩,f0,f1,f2⟩:=id l25))
  all_goals go_wp2
  have l5:=aD l25 (.bool ts) (.slice so (Dg.dg 4294967296 q).length sc) (.int .i64 (e+(k:Int)));have hbw:w.heap.size≤w.heap.size+1:=by omega
  have b5':=((b05.setCell (p:=⟨w.heap.size+1,0,none⟩) hbw (.bool ts)).setCell (p:=⟨w.heap.size+1,1,none⟩) hbw (.slice so (Dg.dg 4294967296 q).length sc)).setCell (p:=⟨w.heap.size+1,2,none⟩) hbw (.int .i64 (e+(k:Int)));have own5:=(own4.l b5).apart3 (b:=w.heap.size+1) l23.1 (.bool ts) (.slice so (Dg.dg 4294967296 q).length sc) (.int .i64 (e+(k:Int)));obtain⟨-,⟨g0,g1,g2⟩,-⟩:=l5;refine bodyPost_ret (v:= .agg #[.bool ts,.slice so (Dg.dg 4294967296 q).length sc,.int .i64 (e+(k:Int))]) (by simp[results,results156,go_sem,g0,g1,g2]) rfl ?_;exact⟨_,rfl,own5.lower b03.size,b5'⟩
end Go.Proofs.YtpainhklfoaniaaGreatDoor

/-
  Texts laid together: Ref4, Bits, Ref6, Dr1, Co9, Gr5, Gm1, Dy7, Gm2, Gh2, Gh5, Fro, Gq1, Gq7, Oq1, Eh1, Eh3.
-/
import Derived.Test.YtddkchlamdhgcaaGreatDoorSu05
import Derived.Test.YtddkchlamdhgcaaGreatDoorSu06
import Derived.Test.YtddkchlamdhgcaaGreatDoorSu08
import Derived.Test.YtddkchlamdhgcaaGreatDoorSu09
set_option maxRecDepth 100000
set_option maxHeartbeats 3200000
namespace Go.Proofs.YtddkchlamdhgcaaGreatDoor
open _root_.Go.Proofs.Tryz
open Go.RowKit
theorem ew (va vb:Value)(xs ys:List Nat)(w:World)(ha:Rd w .i64 va xs)(hb:Rd w .i64 vb ys)(sa:Dg.Small 65536 xs)(sb:Dg.Small 65536 ys)(na:Dg.Norm xs)(nb:Dg.Norm ys)(hla:xs.length≤2000000)(hlb:ys.length≤2000000):
  yC 40 #[va,vb] w (cG w (Dg.vl 65536 xs+Dg.vl 65536 ys)):=by
 obtain⟨ao,ca,rfl,-,-,hca⟩:=ha;obtain⟨bo,cb,rfl,-,-,hcb⟩:=hb;obtain⟨i0,hi,hz0,hz1,hz2⟩:=info_parts Tryz.infoI64
 go_enter func40,ntmps40
 go_wp2
 go_loopw [5,6,7] (fun ov cv iv wr=> ∃(k c:Nat) (ps:List Nat),k≤2000001∧(2000000<k→c=0)∧iv=yi k∧cv=yi c∧Own wr w.heap.size 3 .i64 ov ps∧abk xs ys ps k c∧yB w wr) (fun _ _ iv _=>2000002-(intOf iv).toNat)
 case atStart=>exact⟨0,0,[],by omega,fun _=>rfl,rfl,rfl,aQ _ _ _ _,⟨rfl,Dg.small_nil _ (by omega),by omega,by simp[Dg.vl],fun h=>by omega⟩,Below.refl _ _⟩
 case round=>
  obtain⟨k,c,ps,hk,hkc,rfl,rfl,own,hI,bel⟩:=hrel;have hcl:=hI.2.2.1;have hpl:=hI.1;have hbs:=bel.size
  by_cases hcond:k<xs.length∨k<ys.length∨0<c
  ·have hk2:k≤2000000:=by
    rcases Nat.lt_or_ge 2000000 k with h|h
    ·have:=hkc h;omega
    ·exact h
   have hxl:=sa k;have hyl:=sb k;have hx0: ¬k<xs.length→xs.getD k 0=0:=fun h=>Dg.getD_of_le _ _ (by omega)
   have hy0: ¬k<ys.length→ys.getD k 0=0:=fun h=>Dg.getD_of_le _ _ (by omega)
   have hst:=fun t ht=>UL hI na nb sa sb hcond t ht
   have hnc:2000000<k+1→(c+xs.getD k 0+ys.getD k 0)/65536=0:=fun h=>by
    rw[hx0 (by omega),hy0 (by omega)];omega
   have hcx:k<xs.length→ ∃b off,ao=some ⟨b,off,none⟩∧wr.cell? ⟨b,off+k,none⟩=some (yi ((xs.getD k 0:Nat):Int)):=fun h=>by
    obtain⟨b,off,e,hcell⟩:=hca (by omega);exact⟨b,off,e,cell_later bel (hcell k h)⟩
   have hcy:k<ys.length→ ∃b off,bo=some ⟨b,off,none⟩∧wr.cell? ⟨b,off+k,none⟩=some (yi ((ys.getD k 0:Nat):Int)):=fun h=>by
    obtain⟨b,off,e,hcell⟩:=hcb (by omega);exact⟨b,off,e,cell_later bel (hcell k h)⟩
   obtain⟨x,ex⟩: ∃x,xs.getD k 0=x:=⟨_,rfl⟩;obtain⟨y,ey⟩: ∃y,ys.getD k 0=y:=⟨_,rfl⟩;rw[ex] at hxl hx0 hst hnc hcx;rw[ey] at hyl hy0 hst hnc hcy;have hst:=hst _ rfl;have Hst:Hid _:=hst;have Hpl:Hid _:=hpl;have Hnc:Hid _:=hnc;have hpl2:ps.length≤2000000:=by omega
   clear ex ey hca hcb hI hst hkc hpl hnc;have fin: ∀(T:Int),T=((c+x+y:Nat):Int)→ ∀v' w3,w3.ownsRow w.heap.size 3 1 v' (ps.length+1) ((ps.map (fun n:Nat=>Value.int .i64 (n:Int)))++[yi (T % 65536)])→(wr.alloc (.cells #[yi (T % 65536)] 3)).grownBy w3 (Value.ownBlock u5)→
     Own w3 w.heap.size 3 .i64 v' (ps++[(c+x+y) % 65536])∧yB w w3:=by
    intro T hT v' w3 h1 h2;have e0:T % 65536=(((c+x+y) % 65536:Nat):Int):=by omega
    rw[e0] at h1 h2;exact iW bel own h1 h2
   by_cases h1:k<xs.length
   ·obtain⟨b,off,rfl,hcell⟩:=hcx h1
    by_cases h2:k<ys.length
    ·obtain⟨b2,off2,rfl,hcell2⟩:=hcy h2
     clear hcx hcy hx0 hy0 hcond
     go_wp2_with (at_builtin;refine wpList_append_own _ rfl _ _ 28 rfl w.heap.size 3 i0 (yi 0) 1 8 underlying28 hi hz0 hz1 hz2 rfl (by decide) _ _ _ rfl (World.ownsRow.alloc own _) ⟨wr.heap.size,0,none⟩ 1 1 [yi (((c:Int)+(x:Int)+(y:Int)) % 65536)] rfl rfl ?c1 ?c2 ?c3 ?c4 ?c5 ?_)
     case c1=>exact cell_one_new _ _ _
     case c2=>intro u hu;simp at hu;subst hu;rfl
     case c3=>unfold maxLen;omega
     case c4=>omega
     case c5=>simp;omega
     intro v' w3 hown' hgrow _;have R:=fin _ (by omega) v' w3 hown' hgrow;clear hown' hgrow own fin
     go_wp2
     go_roundw
     case rel=>exact⟨k+1,(c+x+y)/65536,_,by omega,fun h=>Hnc.out (by omega),by go_num,by go_num,R.1,Hst.out,R.2⟩
     case measure=>simp[intOf];omega
    ·have hy:=hy0 h2
     subst hy;clear hcx hcy hx0 hy0 hcond
     go_wp2_with (at_builtin;refine wpList_append_own _ rfl _ _ 28 rfl w.heap.size 3 i0 (yi 0) 1 8 underlying28 hi hz0 hz1 hz2 rfl (by decide) _ _ _ rfl (World.ownsRow.alloc own _) ⟨wr.heap.size,0,none⟩ 1 1 [yi (((c:Int)+(x:Int)) % 65536)] rfl rfl ?d1 ?d2 ?d3 ?d4 ?d5 ?_)
     case d1=>exact cell_one_new _ _ _
     case d2=>intro u hu;simp at hu;subst hu;rfl
     case d3=>unfold maxLen;omega
     case d4=>omega
     case d5=>simp;omega
     intro v' w3 hown' hgrow _;have R:=fin _ (by omega) v' w3 hown' hgrow;clear hown' hgrow own fin
     go_wp2
     go_roundw
     case rel=>exact⟨k+1,_,_,by omega,fun h=>Hnc.out (by omega),by go_num,by go_num,R.1,Hst.out,R.2⟩
     case measure=>simp[intOf];omega
   ·have hx:=hx0 h1
    subst hx
    by_cases h2:k<ys.length
    ·obtain⟨b2,off2,rfl,hcell2⟩:=hcy h2
     clear hcx hcy hx0 hy0 hcond
     go_wp2_with (at_builtin;refine wpList_append_own _ rfl _ _ 28 rfl w.heap.size 3 i0 (yi 0) 1 8 underlying28 hi hz0 hz1 hz2 rfl (by decide) _ _ _ rfl (World.ownsRow.alloc own _) ⟨wr.heap.size,0,none⟩ 1 1 [yi (((c:Int)+(y:Int)) % 65536)] rfl rfl ?e1 ?e2 ?e3 ?e4 ?e5 ?_)
     case e1=>exact cell_one_new _ _ _
     case e2=>intro u hu;simp at hu;subst hu;rfl
     case e3=>unfold maxLen;omega
     case e4=>omega
     case e5=>simp;omega
     intro v' w3 hown' hgrow _;have R:=fin _ (by omega) v' w3 hown' hgrow;clear hown' hgrow own fin
     go_wp2
     go_roundw
     case rel=>exact⟨k+1,_,_,by omega,fun h=>Hnc.out (by omega),by go_num,by go_num,R.1,Hst.out,R.2⟩
     case measure=>simp[intOf];omega
    ·have hy:=hy0 h2
     subst hy;have hc0:0<c:=by omega
     clear hcx hcy hx0 hy0 hcond
     go_wp2_with (at_builtin;refine wpList_append_own _ rfl _ _ 28 rfl w.heap.size 3 i0 (yi 0) 1 8 underlying28 hi hz0 hz1 hz2 rfl (by decide) _ _ _ rfl (World.ownsRow.alloc own _) ⟨wr.heap.size,0,none⟩ 1 1 [yi (((c:Int)) % 65536)] rfl rfl ?f1 ?f2 ?f3 ?f4 ?f5 ?_)
     case f1=>exact cell_one_new _ _ _
     case f2=>intro u hu;simp at hu;subst hu;rfl
     case f3=>unfold maxLen;omega
     case f4=>omega
     case f5=>simp;omega
     intro v' w3 hown' hgrow _;have R:=fin _ (by omega) v' w3 hown' hgrow;clear hown' hgrow own fin
     go_wp2
     go_roundw
     case rel=>exact⟨k+1,_,_,by omega,fun h=>Hnc.out (by omega),by go_num,by go_num,R.1,Hst.out,R.2⟩
     case measure=>simp[intOf];omega
  ·have he:=Yx hI hcond
   have h1: ¬k<xs.length:=by omega
   have h2: ¬k<ys.length:=by omega
   have h3: ¬0<c:=by omega
   rw[he] at own;clear he hcond
   go_wp2
   go_ret
   exact⟨_,rfl,own.rd,bel⟩
theorem kE (va:Value)(xs:List Nat)(w:World)(ha:Rd w .u32 va xs)(sa:Dg.Small 4294967296 xs)(na:Dg.Norm xs)(hla:xs.length≤1000000):
  yC 126 #[va] w fun e w'=>e= .returned (yi (bitLen (Dg.vl 4294967296 xs):Nat))∧w'=w:=by
 obtain⟨ao,ca,rfl,-,-,hca⟩:=ha
 by_cases h0:xs.length=0
 ·obtain rfl:xs=[]:=List.eq_nil_of_length_eq_zero h0
  go_enter func126,ntmps126
  go_wp2
  go_ret
  exact⟨rfl,rfl⟩
 ·have hne:xs≠[]:=by intro e;subst e;simp at h0
  obtain⟨b,off,rfl,hcell⟩:=hca (by omega);have hc:=hcell (xs.length-1) (by omega);have hs:=sa (xs.length-1);rw[IL 4294967296 32 (by decide) (by omega) xs sa na hne];obtain⟨x,ex⟩: ∃x,xs.getD (xs.length-1) 0=x:=⟨_,rfl⟩;rw[ex] at hc hs⊢;have hbl:=bF x 32 (by omega);have h3:=IK x w hs;obtain⟨l,hl⟩: ∃l,bitLen x=l:=⟨_,rfl⟩;rw[hl] at h3 hbl⊢;have h00:((xs.length:Int)==0)=false:=by simp;intro e;subst e;simp at h0
  clear ex hcell hca hne hl
  go_enter func126,ntmps126
  go_wp2_with fail
  refine h3.mono ?_;rintro e w' ⟨rfl,rfl⟩
  go_wp2
  go_ret
  exact⟨by go_num,rfl⟩
theorem MD (va:Value)(xs:List Nat)(n wh pt P Q:Nat)(w:World)(ha:Rd w .i64 va xs)(sa:Dg.Small 65536 xs)(hla:xs.length≤1000000)(hn:n=16*wh+pt)(hpt:pt<16)(hnl:n≤100000000)(hP:P=2^pt)(hQ:Q=2^ (16-pt)):
  yC 25 #[va,yi n] w (Si w (Dg.vl 65536 xs/2^n)):=by
 have hPQ:P*Q=65536:=by rw[hP,hQ,←Nat.pow_add,show pt+(16-pt)=16 from by omega]
 have hpw:65536^wh*P=2^n:=by rw[hn,hP,Nat.pow_add,Nat.pow_mul]
 have hP0:0<P:=by rw[hP];exact Nat.pow_pos (by omega)
 have hQ0:0<Q:=by rw[hQ];exact Nat.pow_pos (by omega)
 have hPl:P≤65536:=by rw[←hPQ];exact Nat.le_mul_of_pos_right _ hQ0
 have hQl:Q≤65536:=by rw[←hPQ];exact Nat.le_mul_of_pos_left _ hP0
 obtain⟨ao,ca,rfl,-,-,hca⟩:=ha;obtain⟨i0,hi,hz0,hz1,hz2⟩:=info_parts Tryz.infoI64;have hq:(n:Int)/16=(wh:Int):=by omega
 have hr:(n:Int) % 16=(pt:Int):=by omega
 have hwl:wh≤100000000:=by omega
 have HPQ:Hid _:=hPQ;have HPW:Hid _:=hpw;have HP:Hid _:=hP
 by_cases hge:xs.length≤wh
 ·have hz:Dg.vl 65536 xs/2^n=0:=by
   apply Nat.div_eq_of_lt;have h1:=Dg.vl_lt 65536 xs sa;have h2:65536^xs.length≤65536^wh:=Nat.pow_le_pow_right (by omega) hge;have h3:65536^wh≤65536^wh*P:=Nat.le_mul_of_pos_right _ hP0;omega
  rw[hz];clear hz hn hPQ hpw hP hQ
  go_enter func25,ntmps25
  go_wp2
  go_ret
  exact⟨_,rfl,(aQ _ 0 0 _).rd,(fun a n c h=>by cases h),Below.refl _ _⟩
 ·have hdQ:(65536:Int)/(P:Int)=(Q:Int):=by
   have:65536/P=Q:=by rw[←hPQ];exact Nat.mul_div_cancel_left _ hP0
   rw[←this];exact(Int.natCast_ediv 65536 P).symm
  clear hn hPQ hpw hP hQ
  go_enter func25,ntmps25
  go_wp2
  go_loop [5,6] (fun dv iv=> ∃k d:Nat,k≤pt∧iv=yi k∧dv=yi d∧Hid (d=2^k)) (fun _ iv=>pt-(intOf iv).toNat)
  case atStart=>exact⟨0,1,Nat.zero_le _,rfl,rfl,rfl⟩
  case round=>
   obtain⟨k,d,hk,rfl,rfl,hdk⟩:=hrel;have hdl:d≤65536:=by
    rw[hdk.out];have:2^k≤2^15:=Nat.pow_le_pow_right (by omega) (by omega);omega
   by_cases hlt:k<pt
   ·go_wp2
    go_round
    case rel=>exact⟨k+1,2*d,by omega,by go_num,by go_num,by rw[show d=2^k from hdk.out,Nat.pow_succ];exact Nat.mul_comm _ _⟩
    case measure=>simp[intOf];omega
   ·have hke:k=pt:=by omega
    subst hke;have hdP:d=P:=hdk.out.trans HP.out.symm;subst hdP;clear hdk hdl HP
    go_wp2
    go_loopw [7,8] (fun ov iv wr=> ∃j:Nat,wh+j≤xs.length∧iv=yi ((wh+j:Nat):Int)∧Own wr w.heap.size 3 .i64 ov ((low d Q (xs.drop wh)).take j)∧yB w wr) (fun _ iv _=>xs.length-(intOf iv).toNat)
    case atStart=>exact⟨0,by omega,by go_num,aQ _ _ _ _,Below.refl _ _⟩
    case round=>
     obtain⟨j,hj,rfl,own,bel⟩:=hrel
     by_cases hlt2:wh+j<xs.length
     ·obtain⟨b,off,rfl,hcell⟩:=hca (by omega)
      have hx:=cell_later bel (hcell (wh+j) hlt2);have hy:=fun h:wh+j+1<xs.length=>cell_later bel (hcell (wh+j+1) h)
      have hxl:=sa (wh+j);have hyl:=sa (wh+j+1);have hy0: ¬wh+j+1<xs.length→xs.getD (wh+j+1) 0=0:=fun h=>Dg.getD_of_le _ _ (by omega)
      have hsn:=XR d Q (xs.drop wh) j (by simp;omega);rw[ui,ui,←Nat.add_assoc] at hsn;obtain⟨x,ex⟩: ∃x,xs.getD (wh+j) 0=x:=⟨_,rfl⟩;obtain⟨y,ey⟩: ∃y,xs.getD (wh+j+1) 0=y:=⟨_,rfl⟩;obtain⟨es,ees⟩: ∃es,(low d Q (xs.drop wh)).take j=es:=⟨_,rfl⟩;have hel:es.length≤1000000:=by rw[←ees];simp[mA];omega
      rw[ex] at hx hxl hsn;rw[ey] at hy hyl hy0 hsn;rw[ees] at hsn own;have HS:Hid _:=hsn;have hbs:=bel.size;obtain⟨q1,hq1⟩: ∃q1,x/d=q1:=⟨_,rfl⟩;obtain⟨m1,hm1⟩: ∃m1,y % d=m1:=⟨_,rfl⟩;have hq1I:(x:Int)/(d:Int)=(q1:Int):=by rw[←hq1];exact(Int.natCast_ediv x d).symm
      have hm1I:(y:Int) % (d:Int)=(m1:Int):=by rw[←hm1];exact(Int.natCast_emod y d).symm
      have hq1l:q1≤65536:=by rw[←hq1];have:=Nat.div_le_self x d;omega
      have hm1l:m1<d:=by rw[←hm1];exact Nat.mod_lt _ hP0
      rw[hq1,hm1] at HS;have hmQ:m1*Q≤65536*65536:=Nat.mul_le_mul (by omega) hQl;have hmQI:(m1:Int)*(Q:Int)≤4294967296:=by rw[←Int.natCast_mul];omega
      have hmQ0:0≤(m1:Int)*(Q:Int):=by rw[←Int.natCast_mul];omega
      clear ex ey ees hcell hca hsn hq1 hm1 hmQ
      by_cases h2:wh+j+1<xs.length
      ·have hy1:=hy h2
       clear hy hy0;have own2:=fun m=>Own.l own (aL (Below.refl wr.heap.size wr) m)
       go_wp2
       go_quiet (fail)
       go_wp2_with (at_builtin;refine wpList_append_own _ rfl _ _ 28 rfl w.heap.size 3 i0 (yi 0) 1 8 underlying28 hi hz0 hz1 hz2 rfl (by decide) _ _ _ rfl (World.ownsRow.alloc (own2 _) _) ⟨wr.heap.size,0,none⟩ 1 1 [yi ((q1:Int)+(m1:Int)*(Q:Int))] rfl rfl ?c1 ?c2 ?c3 ?c4 ?c5 ?_)
       case c1=>exact cell_one_new _ _ _
       case c2=>intro u hu;simp at hu;subst hu;rfl
       case c3=>unfold maxLen;omega
       case c4=>omega
       case c5=>simp;omega
       intro v' w3 hown' hgrow _;have e0:((q1:Int)+(m1:Int)*(Q:Int))=((q1+m1*Q:Nat):Int):=by rw[Int.natCast_add,Int.natCast_mul]
       rw[e0] at hown' hgrow;have R:=iW (aL bel _) (own2 _) hown' hgrow;clear hown' hgrow own own2 e0
       go_wp2
       go_roundw
       case rel=>exact⟨j+1,by omega,by go_num,by rw[HS.out];exact R.1,R.2⟩
       case measure=>simp[intOf];omega
      ·have hy1:=hy0 h2
       subst hy1;have hm0:m1=0:=by
        have:(m1:Int)=0:=by rw[←hm1I];simp
        omega
       subst hm0;simp only[Nat.zero_mul,Nat.add_zero] at HS;clear hy hy0 hm1I hmQI hmQ0
       go_wp2_with (at_builtin;refine wpList_append_own _ rfl _ _ 28 rfl w.heap.size 3 i0 (yi 0) 1 8 underlying28 hi hz0 hz1 hz2 rfl (by decide) _ _ _ rfl (World.ownsRow.alloc own _) ⟨wr.heap.size,0,none⟩ 1 1 [yi ((q1:Int))] rfl rfl ?d1 ?d2 ?d3 ?d4 ?d5 ?_)
       case d1=>exact cell_one_new _ _ _
       case d2=>intro u hu;simp at hu;subst hu;rfl
       case d3=>unfold maxLen;omega
       case d4=>omega
       case d5=>simp;omega
       intro v' w3 hown' hgrow _;have R:=iW bel own hown' hgrow;clear hown' hgrow own
       go_wp2
       go_roundw
       case rel=>exact⟨j+1,by omega,by go_num,by rw[HS.out];exact R.1,R.2⟩
       case measure=>simp[intOf];omega
     ·have hje:wh+j=xs.length:=by omega
      rw[List.take_of_length_le (by rw[mA];simp;omega)] at own;have hsm:=Ug d Q (xs.drop wh) HPQ.out (fun i=>by rw[ui];exact sa _)
      have hv:Dg.vl 65536 (low d Q (xs.drop wh))=Dg.vl 65536 xs/2^n:=by
       have:=Y8 d Q hP0 (xs.drop wh);rw[HPQ.out] at this;rw[this,aa7 65536 (by omega) xs wh (by omega) sa,Nat.div_div_eq_div_mul,HPW.out]
      have hlw:(low d Q (xs.drop wh)).length≤1000000:=by rw[mA];simp;omega
      obtain⟨ls,hls⟩: ∃ls,low d Q (xs.drop wh)=ls:=⟨_,rfl⟩;rw[hls] at own hsm hv hlw;have HV:Hid _:=hv;clear hls hv;obtain⟨oo,oc,rfl⟩:=own.rd.shape;have hF:=JH own
      go_wp2_with fail
      refine(i9 _ _ _ _ _ own.rd).mono ?_;rintro e w' ⟨m,rfl,hm,rfl⟩;have hml:=hm.1;have HF:Hid (Far w.heap.size (.slice oo m m)):=LP hF m m;clear hF;have hr2:=uE (cap':=m) 65536 (by omega) own.rd hsm hm (Nat.le_refl _) (by unfold maxLen;omega);rw[HV.out] at hr2;clear hm
      go_wp2
      go_ret
      exact⟨_,rfl,hr2,HF.out,bel⟩
theorem di.near {w:World}{t:ak}{e:Ending}{w':World}(h:di w t e w'):dr w t e w':=by
 obtain⟨s,h1,h2,-,h3⟩:=h;exact⟨s,h1,h2,h3⟩
theorem tm (k:Nat)(hk:1≤k∧k≤8)(w:World):yC 115 #[.agg (tS k).toArray] w (yR w (yi ((frN k:Nat):Int))):=by
 have hsf:=cD
 rcases bO hk with rfl|rfl|rfl|rfl|rfl|rfl|rfl|rfl
 all_goals
  change Calls _ _ #[.agg #[_,_,_,_,_,_,_,_,_]] _ _
  go_enter func115,ntmps115
  go_wp2
  go_ret
  exact⟨rfl,af _ _⟩
theorem jy (k:Nat)(hk:1≤k∧k≤8)(w:World):yC 123 #[.agg (tS k).toArray] w (yR w (yi ((kp k:Nat):Int))):=by
 have hsf:=cD
 rcases bO hk with rfl|rfl|rfl|rfl|rfl|rfl|rfl|rfl
 all_goals
  change Calls _ _ #[.agg #[_,_,_,_,_,_,_,_,_]] _ _
  go_enter func123,ntmps123
  go_wp2
  go_ret
  exact⟨rfl,af _ _⟩
def dj (R D L:Int)(gr:Bool)(N M:Nat)(E:Int):Int:=
 if(decide (aT R D (dY N M E)<L)&&gr)=true then L else aT R D (dY N M E)
def shP (R D L:Int)(gr:Bool)(N M:Nat)(E:Int):Int:=E-(ai R:Int)*dj R D L gr N M E
def cH (R D L:Int)(gr:Bool)(N M:Nat)(E:Int):Nat:=eZ N (shP R D L gr N M E)/dX M (shP R D L gr N M E)
def gF (R D L:Int)(gr:Bool)(N M:Nat)(E:Int):Nat:=eZ N (shP R D L gr N M E) % dX M (shP R D L gr N M E)
theorem FJ (N M:Nat)(E:Int)(hla:(Dg.dg 4294967296 N).length≤10000)(hlb:(Dg.dg 4294967296 M).length≤10000)(e1: -20000≤E)(e2:E≤20000): -340001≤dY N M E∧dY N M E≤340001:=by
 have h1:bitLen N≤32*10000:=oP hla;have h2:bitLen M≤32*10000:=oP hlb;unfold dY
 split<;>omega
theorem Bp {R D t:Int}(h1:1≤D)(h2:D≤120)(t1: -340001≤t)(t2:t≤340001): -341000≤aT R D t∧aT R D t≤341000∧ -341000≤(ai R:Int)*aT R D t∧(ai R:Int)*aT R D t≤341000:=by
 unfold aT ai
 split<;>omega
theorem Qg {R D L G:Int}{gr:Bool}{N M:Nat}{E:Int}(hg:bk R D L G=0)(hla:(Dg.dg 4294967296 N).length≤10000)(hlb:(Dg.dg 4294967296 M).length≤10000)(e1: -20000≤E)(e2:E≤20000): -341000≤dj R D L gr N M E∧dj R D L gr N M E≤341000∧ -341000≤(ai R:Int)*dj R D L gr N M E∧(ai R:Int)*dj R D L gr N M E≤341000:=by
 obtain⟨hR,d1,d2,l1,l2,-,-,-,-⟩:=cB hg;obtain⟨t1,t2⟩:=FJ N M E hla hlb e1 e2;have hp:=Bp (R:=R) d1 d2 t1 t2;unfold dj
 split
 ·have hw:=eN R
  unfold ai
  split<;>omega
 ·exact hp
theorem BC (N M a b:Nat)(hN:N≠0)(hM:M≠0):M*2^b≤N*2^a↔(b:Int)≤dY N M 0+a:=by
 obtain⟨n1,n2,n3⟩:=uB N hN;obtain⟨m1,m2,m3⟩:=uB M hM;obtain⟨ln,hln⟩: ∃ln,bitLen N=ln:=⟨_,rfl⟩;obtain⟨lm,hlm⟩: ∃lm,bitLen M=lm:=⟨_,rfl⟩;have ht:dY N M 0=0+(((ln:Int)-(lm:Int))-(if eZ N (-((ln:Int)-(lm:Int)))/dX M (-((ln:Int)-(lm:Int)))=0 then 1 else 0)):=by
  unfold dY;rw[hln,hlm]
 rw[hln] at n1 n2 n3;rw[hlm] at m1 m2 m3;have low:M*2^ (ln-1)≤N*2^lm:=by
  rw[Nat.mul_comm];exact Nat.mul_le_mul n2 (Nat.le_of_lt m3)
 have high: ¬M*2^ln≤N*2^ (lm-1):=by
  have h1:N*2^ (lm-1)<2^ln*2^ (lm-1):=Nat.mul_lt_mul_of_pos_right n3 (bG _);have h2:2^ln*2^ (lm-1)≤M*2^ln:=by
   rw[Nat.mul_comm (2^ln)];exact Nat.mul_le_mul_right _ m2
  omega
 have hq:eZ N (-((ln:Int)-(lm:Int)))/dX M (-((ln:Int)-(lm:Int)))=0↔ ¬M*2^ (ln-lm)≤N*2^ (lm-ln):=by
  rw[fw,eM,show(-((ln:Int)-(lm:Int))).toNat=lm-ln by omega,show(-(-((ln:Int)-(lm:Int)))).toNat=ln-lm by omega,Nat.div_eq_zero_iff]
  have:=Nat.mul_pos (Nat.pos_of_ne_zero hM) (bG (ln-lm));omega
 by_cases hz:eZ N (-((ln:Int)-(lm:Int)))/dX M (-((ln:Int)-(lm:Int)))=0
 ·rw[if_pos hz] at ht
  have h0:=hq.1 hz
  constructor
  ·intro h
   refine Decidable.byContradiction fun c=>h0 (DS h ?_)
   omega
  ·intro h
   exact DS low (by omega)
 ·rw[if_neg hz] at ht
  have h0:M*2^ (ln-lm)≤N*2^ (lm-ln):=Decidable.byContradiction fun c=>hz (hq.2 c)
  constructor
  ·intro h
   refine Decidable.byContradiction fun c=>high (DS h ?_)
   omega
  ·intro h
   exact DS h0 (by omega)
theorem BD (N M:Nat)(n:Int)(j:Nat)(hN:N≠0)(hM:M≠0):2^j≤eZ N n/dX M n↔(j:Int)≤dY N M 0+n:=by
 rw[fw,eM,Nat.le_div_iff_mul_le (Nat.mul_pos (Nat.pos_of_ne_zero hM) (bG _)),←Nat.mul_assoc,Nat.mul_comm (2^j),Nat.mul_assoc,←Nat.pow_add,BC N M _ _ hN hM];omega
theorem Ve (R D:Int)(N M:Nat)(E:Int):
  aT R D (dY N M E)< ((bitLen N:Int)-(bitLen M:Int)+E)/(ai R:Int)-D+2:=by
 unfold aT dY ai
 split<;>split<;>simp<;>omega
theorem jw {w:World}{s:Bool}{ao:Option Addr}{ca:Nat}{xs:List Nat}{e:Int}(hr:Rd w .u32 (.slice ao xs.length ca) xs)(sa:Dg.Small 4294967296 xs)(hn:Dg.Norm xs):
  Dv w (ydV s (.slice ao xs.length ca) e) ⟨s,Dg.vl 4294967296 xs,e⟩:=by
 have h:=Dg.eq_dg 4294967296 (by omega) xs _ sa hn rfl;refine⟨_,rfl, ?_⟩;simp only;rw[←h];exact hr
def cP (R D L:Int)(gr:Bool)(n:Nat)(e:Int):Int:=
 if(decide (aT R D ((bitLen n:Int)-1+e)<L)&&gr)=true then L else aT R D ((bitLen n:Int)-1+e)
def dA (R D L G:Int)(gr:Bool)(n:Nat)(e:Int):Bool:=
 decide (n=0∨(L≤cP R D L gr n e∧cP R D L gr n e≤G∧(ai R:Int)*cP R D L gr n e≤e+(tz n:Int)))
def nm (R D L:Int)(gr:Bool)(n:Nat)(e:Int):Nat:=shN n (e-(ai R:Int)*cP R D L gr n e)
def fD (R D L G:Int)(gr:Bool)(n:Nat)(e:Int):Nat:=if n=0 then 0 else if dA R D L G gr n e=true then nm R D L gr n e else 0
def fK (R D L G:Int)(gr:Bool)(n:Nat)(e:Int):Int:=if n=0 then L else if dA R D L G gr n e=true then cP R D L gr n e else 0
theorem Og {R D L G:Int}{gr:Bool}{n:Nat}{e:Int}(hg:bk R D L G=0)(hb:bitLen n≤40000)(e1: -100000≤e)(e2:e≤100000):
  -341000≤cP R D L gr n e∧cP R D L gr n e≤341000∧ -341000≤(ai R:Int)*cP R D L gr n e∧(ai R:Int)*cP R D L gr n e≤341000:=by
 obtain⟨hR,d1,d2,l1,l2,-,-,-,-⟩:=cB hg;have hp:=Bp (R:=R) (D:=D) (t:=(bitLen n:Int)-1+e) d1 d2 (by omega) (by omega);unfold cP
 split
 ·unfold ai
  split<;>simp<;>omega
 ·exact hp
theorem GK {R D L G:Int}{gr:Bool}{n:Nat}{e:Int}(h0:n≠0):dA R D L G gr n e=true↔L≤cP R D L gr n e∧cP R D L gr n e≤G∧(ai R:Int)*cP R D L gr n e≤e+(tz n:Int):=by
 unfold dA;rw[decide_eq_true_iff]
 constructor
 ·rintro(h|h)
  ·exact absurd h h0
  ·exact h
 ·exact .inr
def um (xs:List Nat)(e R D L G:Int)(gr:Bool):Bool:=if onC (aS xs e) (bk R D L G)=0 then dA R D L G gr (Dg.vl 4294967296 xs) e else false
theorem Bj (d:Nat)(w:World)(hd:d<65536):yC 103 #[yi d] w (cG w d):=by
 obtain⟨i0,hi,hz0,hz1,hz2⟩:=info_parts Tryz.infoI64;have hone:=Cv d hd
 by_cases h:d=0
 ·subst h
  go_enter func103,ntmps103
  go_wp2
  refine wp_loop_rounds 1 ?_;rw[rounds_succ]
  go_wp2
  go_ret
  exact⟨_,rfl,(aQ _ 0 0 _).rd,Below.refl _ _⟩
 ·rw[if_neg h] at hone
  have HO:Hid (Dg.dg 65536 d=[d]):=hone;have e1:(d:Int) % 65536=(d:Int):=by omega
  have e2:(d:Int)/65536=0:=by omega
  have hpos:(0:Int)< (d:Int):=by omega
  clear hone
  go_enter func103,ntmps103
  go_wp2
  refine wp_loop_rounds 2 ?_;rw[rounds_succ]
  go_wp2_with (at_builtin;refine wpList_append_own _ rfl _ _ 28 rfl w.heap.size 3 i0 (yi 0) 1 8 underlying28 hi hz0 hz1 hz2 rfl (by decide) _ _ _ rfl (World.ownsRow.alloc (World.ownsRow_nil w w.heap.size 3 1) _) ⟨w.heap.size,0,none⟩ 1 1 [yi d] rfl rfl ?c1 ?c2 ?c3 ?c4 ?c5 ?_)
  case c1=>exact cell_one_new _ _ _
  case c2=>intro u hu;simp at hu;subst hu;rfl
  case c3=>unfold maxLen;omega
  case c4=>omega
  case c5=>simp
  intro v' w3 hown' hgrow _;have R:=iW (Below.refl w.heap.size w) (aQ w w.heap.size 3 .i64) hown' hgrow;clear hown' hgrow;rw[List.nil_append,←HO.out] at R
  go_wp2
  rw[rounds_succ]
  go_wp2
  go_ret
  exact⟨_,rfl,R.1.rd,R.2⟩
theorem GB {N:Nat}{n:Int}(h:(Dg.dg 65536 N).length≤100000)(hn:n≤900000):(Dg.dg 65536 (eZ N n)).length≤160000:=by
 rw[fw];exact Nat.le_trans (Jh N n.toNat 100000 56251 h (by omega)) (by omega)
theorem GC {M:Nat}{n:Int}(h:(Dg.dg 65536 M).length≤100000)(hn: -900000≤n):(Dg.dg 65536 (dX M n)).length≤160000:=by
 rw[eM];exact Nat.le_trans (Jh M (-n).toNat 100000 56251 h (by omega)) (by omega)
theorem N8 {M:Nat}(n:Int)(hM:0<M):0<dX M n:=by
 rw[eM];exact Nat.mul_pos hM (bG _)
theorem CJ {R D L:Int}{gr:Bool}{N M:Nat}{E:Int}(h:(decide (aT R D (dY N M E)<L)&&gr)=true):dj R D L gr N M E=L:=if_pos h
theorem Gu {R D L:Int}{gr:Bool}{N M:Nat}{E:Int}(h:(decide (aT R D (dY N M E)<L)&&gr)=false):dj R D L gr N M E=aT R D (dY N M E):=if_neg (by rw[h];decide)
def rfG (n:Int)(p:ByteArray):Bool:=zR n.toNat (aZ n.toNat p) (aR n.toNat p) (aU n.toNat p)
def rfC (n : Int) (p : ByteArray) (v : Value) : List Value := [.int .i64 ((bM n p : Nat) : Int), .bool (rfG n p), .bool (rfT n p).s, v, .int .i64 (rfT n p).e]
def tg (w:World)(n:Int)(g:Option Nat):List ByteArray→List Value→Prop
 | [],cs=>cs=[]
 |p::ps,cs=> ∃v rest,cs=rfC n p v++rest∧Gw w n g p v∧tg w n g ps rest
theorem tg.mono {w w':World}{n:Int}{g g':Option Nat}(h: ∀p v,Gw w n g p v→Gw w' n g' p v): ∀{ps:List ByteArray} {cs:List Value},tg w n g ps cs→tg w' n g' ps cs
 | [],_,hc=>hc
 |p::_,_,hc=>by
  obtain⟨v,rest,h1,h2,h3⟩:=hc;exact⟨v,rest,h1,h p v h2,tg.mono h h3⟩
def Vz (w:World)(n:Int)(ps:List ByteArray)(i:Nat)(lv:Value)(wr:World):Prop:=
 ∃cs,wr.ownsRow w.heap.size 32 5 lv i cs∧tg wr n lv.ownBlock (ps.take i) cs∧fT n ps=fT n (ps.drop i)
structure ab5 (w:World) (n:Int) (ps:List ByteArray) (g cap:Nat):Prop where
 fit:ps.length≤cap
 most:cap≤maxLen
 each: ∀(i:Nat) p,ps[i]? =some p→ ∃so sc,w.rangeAt g (i*5) (rfC n p (.slice so (Dg.dg 65536 (rfT n p).n).length sc))∧Rd w .i64 (.slice so (Dg.dg 65536 (rfT n p).n).length sc) (Dg.dg 65536 (rfT n p).n)
def DysAt (w:World)(g:Option Nat):List ak→List Value→Prop
 | [],cs=>cs=[]
 |t::ts,cs=> ∃so sc rest,cs=dyC t (yT so t.n sc)++rest∧RowAt w g (yT so t.n sc) (Dg.dg 4294967296 t.n)∧DysAt w g ts rest
theorem DysAt.mono {w w':World}{g g':Option Nat}(h: ∀v zs,RowAt w g v zs→RowAt w' g' v zs): ∀{ts:List ak} {cs:List Value},DysAt w g ts cs→DysAt w' g' ts cs
 | [],_,hc=>hc
 |_::_,_,hc=>by
  obtain⟨so,sc,rest,h1,h2,h3⟩:=hc;exact⟨so,sc,rest,h1,h _ _ h2,DysAt.mono h h3⟩
theorem DysAt.app {w:World}{g:Option Nat}{us:List ak}{ds:List Value}(hd:DysAt w g us ds): ∀{ts:List ak} {cs:List Value},DysAt w g ts cs→DysAt w g (ts++us) (cs++ds)
 | [],cs,hc=>by
  have:cs=[]:=hc;subst this;exact hd
 |_::_,_,hc=>by
  obtain⟨so,sc,rest,h1,h2,h3⟩:=hc;subst h1;exact⟨so,sc,rest++ds,by simp,h2,DysAt.app hd h3⟩
def HdI (base:Nat)(ts:List ak)(lv:Value)(w:World):Prop:= ∃cs,w.ownsRow base 76 3 lv ts.length cs∧DysAt w lv.ownBlock ts cs
theorem HdI.lt {base:Nat}{ts:List ak}{lv:Value}{w:World}(h:HdI base ts lv w)(b:Nat)(hb:lv.ownBlock=some b):base≤b∧b<w.heap.size:=by
 obtain⟨cs,h1,-⟩:=h;exact World.ownsRow.lt h1 b hb
theorem hd_nil (base:Nat)(w:World):HdI base [] yN w:=⟨[],World.ownsRow_nil _ _ _ 3,rfl⟩
theorem DysAt.len {w:World}{g:Option Nat}: ∀{ts:List ak} {cs:List Value},DysAt w g ts cs→cs.length=ts.length*3
 | [],cs,hc=>by
  have:cs=[]:=hc;subst this;rfl
 |t::ts,cs,hc=>by
  obtain⟨so,sc,rest,h1,h2,h3⟩:=hc;have:=DysAt.len h3;subst h1;simp[dyC];omega
def HdRes (w:World)(ts:List ak)(z:Ending)(w':World):Prop:= ∃v,z= .returned v∧HdI w.heap.size ts v w'∧yB w w'
structure DysV (w:World) (ts:List ak) (g cap:Nat):Prop where
 fit:ts.length≤cap
 most:cap≤maxLen
 each: ∀(i:Nat) t,ts[i]? =some t→ ∃so sc,w.rangeAt g (i*3) (dyC t (yT so t.n sc))∧Rd w .u32 (yT so t.n sc) (Dg.dg 4294967296 t.n)
def HdW (w:World)(lv one up:Value)(U:Nat)(cs:List Value)(ts:List ak)(wr:World):Prop:=
 yB w wr∧au wr w.heap.size 40 cs∧HdI (w.heap.size+1) ts lv wr∧RowAt wr lv.ownBlock one [1]∧RowAt wr lv.ownBlock up (Dg.dg 4294967296 U)
theorem hdW_mk {w wr:World}{lv one up:Value}{U:Nat}{cs:List Value}{ts:List ak}(h1:yB w wr)(h2:au wr w.heap.size 40 cs)(h3:HdI (w.heap.size+1) ts lv wr)(h4:RowAt wr lv.ownBlock one [1])(h5:RowAt wr lv.ownBlock up (Dg.dg 4294967296 U)):HdW w lv one up U cs ts wr:=⟨h1,h2,h3,h4,h5⟩
theorem HdW.lt {w wr:World}{lv one up:Value}{U:Nat}{cs:List Value}{ts:List ak}(h:HdW w lv one up U cs ts wr)(b:Nat)(hb:lv.ownBlock=some b):w.heap.size+1≤b∧b<wr.heap.size:=h.2.2.1.lt b hb
end Go.Proofs.YtddkchlamdhgcaaGreatDoor

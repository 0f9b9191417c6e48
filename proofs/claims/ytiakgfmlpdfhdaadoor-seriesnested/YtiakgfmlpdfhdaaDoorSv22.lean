/-
  Texts laid together: Cmp, Ref6, Dr1.
-/
import Derived.Test.YtiakgfmlpdfhdaaDoorSv08
import Derived.Test.YtiakgfmlpdfhdaaDoorSv10
import Derived.Test.YtiakgfmlpdfhdaaDoorSv12
import Derived.Test.YtiakgfmlpdfhdaaDoorSv13
set_option maxRecDepth 100000
set_option maxHeartbeats 1600000
namespace Go.Proofs.YtiakgfmlpdfhdaaDoor
open Go.RowKit
theorem jF (va vb:Value)(xs ys:List Nat)(w:World)(ha:Rd w .u32 va xs)(hb:Rd w .u32 vb ys)(sa:Dg.Small 4294967296 xs)(sb:Dg.Small 4294967296 ys)(na:Dg.Norm xs)(nb:Dg.Norm ys):
  yC 89 #[va,vb] w (yR w (yi (dm (Dg.vl 4294967296 xs) (Dg.vl 4294967296 ys)))):=by
 obtain⟨ao,ca,rfl,hla,hma,hca⟩:=ha;obtain⟨bo,cb,rfl,hlb,hmb,hcb⟩:=hb;unfold maxLen at hma hmb;obtain⟨r,hr⟩: ∃r,dm (Dg.vl 4294967296 xs) (Dg.vl 4294967296 ys)=r:=⟨_,rfl⟩;have hc0:=AM (xs.length:Int) (ys.length:Int) w
 by_cases h1:xs.length<ys.length
 ·have hv:=Dg.vl_lt_of_len 4294967296 (by omega) xs ys sa nb h1
  rw[gX (by omega)] at hr;subst hr;rw[gX (by omega)] at hc0;rw[gX (by omega)]
  go_enter Tryd.func89,Tryd.ntmps89
  go_wp2_with fail
  refine hc0.mono ?_;rintro e w' ⟨rfl,rfl⟩
  go_wp2
  go_ret
  exact⟨rfl,Below.refl _ _⟩
 ·by_cases h2:ys.length<xs.length
  ·have hv:=Dg.vl_lt_of_len 4294967296 (by omega) ys xs sb na h2
   rw[sO (by omega)] at hc0;rw[sO (by omega)];clear hr
   go_enter Tryd.func89,Tryd.ntmps89
   go_wp2_with fail
   refine hc0.mono ?_;rintro e w' ⟨rfl,rfl⟩
   go_wp2
   go_ret
   exact⟨rfl,Below.refl _ _⟩
  ·have hle:xs.length=ys.length:=by omega
   rw[hle,Bh] at hc0;rw[hr];have HR:Hid _:=hr;have HL:Hid _:=hle;rw[hle] at hla hca⊢;clear hr hle h1 h2
   go_enter Tryd.func89,Tryd.ntmps89
   go_wp2_with fail
   refine hc0.mono ?_;rintro e w' ⟨rfl,rfl⟩;clear hc0
   go_wp2
   go_loopw [6] (fun iv wr=> ∃k:Nat,k≤ys.length∧iv=yi ((k:Int)-1)∧Hid (∀j,k≤j→xs.getD j 0=ys.getD j 0)∧Below w'.heap.size w' wr) (fun iv _=>(intOf iv+1).toNat)
   case atStart=>exact⟨ys.length,Nat.le_refl _,rfl,fun j hj=>by rw[Dg.getD_of_le xs j (by rw[HL.out];exact hj),Dg.getD_of_le ys j hj],Below.refl _ _⟩
   case round=>
    obtain⟨k,hk,rfl,hall,bel⟩:=hrel
    by_cases hk0:k=0
    ·subst hk0
     have he:=Dg.eq_of_all xs ys HL.out (fun j=>hall j (by omega))
     have hr0:r=0:=by rw[←HR.out,he,Bh]
     subst hr0;clear he
     go_wp2
     go_ret
     exact⟨rfl,bel⟩
    ·obtain⟨m,rfl⟩: ∃m,k=m+1:=⟨k-1,by omega⟩
     obtain⟨b,off,rfl,hcell⟩:=hca (by omega);obtain⟨b2,off2,rfl,hcell2⟩:=hcb (by omega);have hx:=cell_later bel (hcell m (by omega));have hy:=cell_later bel (hcell2 m (by omega));have hst:xs.getD m 0<ys.getD m 0→dm (Dg.vl 4294967296 xs) (Dg.vl 4294967296 ys)= -1:=fun h=>
      gX (by have:=Dg.vl_lt_of_digit 4294967296 xs ys m HL.out (by rw[HL.out];omega) hall h sa;omega)
     have hst2:ys.getD m 0<xs.getD m 0→dm (Dg.vl 4294967296 xs) (Dg.vl 4294967296 ys)=1:=fun h=>
      sO (by have:=Dg.vl_lt_of_digit 4294967296 ys xs m HL.out.symm (by omega) (fun j hj=>(hall j hj).symm) h sb;omega)
     rw[HR.out] at hst hst2;obtain⟨x,ex⟩: ∃x,xs.getD m 0=x:=⟨_,rfl⟩;obtain⟨y,ey⟩: ∃y,ys.getD m 0=y:=⟨_,rfl⟩;have HX:Hid _:=ex;have HY:Hid _:=ey;rw[ex] at hx hst hst2;rw[ey] at hy hst hst2;clear ex ey hcell hcell2 hca hcb;have hcm:=fun wx=>RF (x:Int) (y:Int) wx
     have hmI:((m+1:Nat):Int)-1=(m:Int):=by omega
     by_cases hxy:x<y
     ·have hr1:=hst hxy
      subst hr1;rw[gX (by omega)] at hcm;clear hst hst2
      go_wp2
      go_quiet ((go_at_call 101;exact Calls.quiet_of_same (hcm _)))
      go_wp2
      go_ret
      exact⟨rfl,aL bel _⟩
     ·by_cases hyx:y<x
      ·have hr1:=hst2 hyx
       subst hr1;rw[sO (by omega)] at hcm;clear hst hst2
       go_wp2
       go_quiet ((go_at_call 101;exact Calls.quiet_of_same (hcm _)))
       go_wp2
       go_ret
       exact⟨rfl,aL bel _⟩
      ·have hxe:x=y:=by omega
       subst hxe;rw[Bh] at hcm;clear hst hst2
       go_wp2
       go_quiet ((go_at_call 101;exact Calls.quiet_of_same (hcm _)))
       go_wp2
       go_roundw
       case rel=>exact⟨m,by omega,by go_num,fun j hj=>by
        by_cases e:j=m
        ·rw[e];exact HX.out.trans HY.out.symm
        ·exact hall j (by omega),aL bel _⟩
       case measure=>simp[intOf]
theorem MD (va:Value)(xs:List Nat)(n wh pt P Q:Nat)(w:World)(ha:Rd w .i64 va xs)(sa:Dg.Small 65536 xs)(hla:xs.length≤1000000)(hn:n=16*wh+pt)(hpt:pt<16)(hnl:n≤100000000)(hP:P=2^pt)(hQ:Q=2^ (16-pt)):
  yC 53 #[va,yi n] w (Si w (Dg.vl 65536 xs/2^n)):=by
 have hPQ:P*Q=65536:=by rw[hP,hQ,←Nat.pow_add,show pt+(16-pt)=16 from by omega]
 have hpw:65536^wh*P=2^n:=by rw[hn,hP,Nat.pow_add,Nat.pow_mul]
 have hP0:0<P:=by rw[hP];exact Nat.pow_pos (by omega)
 have hQ0:0<Q:=by rw[hQ];exact Nat.pow_pos (by omega)
 have hPl:P≤65536:=by rw[←hPQ];exact Nat.le_mul_of_pos_right _ hQ0
 have hQl:Q≤65536:=by rw[←hPQ];exact Nat.le_mul_of_pos_left _ hP0
 obtain⟨ao,ca,rfl,-,-,hca⟩:=ha;obtain⟨i0,hi,hz0,hz1,hz2⟩:=info_parts Tryd.infoI64;have hq:(n:Int)/16=(wh:Int):=by omega
 have hr:(n:Int) % 16=(pt:Int):=by omega
 have hwl:wh≤100000000:=by omega
 have HPQ:Hid _:=hPQ;have HPW:Hid _:=hpw;have HP:Hid _:=hP
 by_cases hge:xs.length≤wh
 ·have hz:Dg.vl 65536 xs/2^n=0:=by
   apply Nat.div_eq_of_lt;have h1:=Dg.vl_lt 65536 xs sa;have h2:65536^xs.length≤65536^wh:=Nat.pow_le_pow_right (by omega) hge;have h3:65536^wh≤65536^wh*P:=Nat.le_mul_of_pos_right _ hP0;omega
  rw[hz];clear hz hn hPQ hpw hP hQ
  go_enter Tryd.func53,Tryd.ntmps53
  go_wp2
  go_ret
  exact⟨_,rfl,(aQ _ 0 0 _).rd,(fun a n c h=>by cases h),Below.refl _ _⟩
 ·have hdQ:(65536:Int)/(P:Int)=(Q:Int):=by
   have:65536/P=Q:=by rw[←hPQ];exact Nat.mul_div_cancel_left _ hP0
   rw[←this];exact(Int.natCast_ediv 65536 P).symm
  clear hn hPQ hpw hP hQ
  go_enter Tryd.func53,Tryd.ntmps53
  go_wp2
  go_loop [5,6] (fun dv iv=> ∃k d:Nat,k≤pt∧iv=yi k∧dv=yi d∧Hid (d=2^k)) (fun _ iv=>pt-(intOf iv).toNat)
  case atStart=>exact⟨0,1,Nat.zero_le _,rfl,rfl,rfl⟩
  case round=>
   obtain⟨k,d,hk,rfl,rfl,hdk⟩:=hrel;have hdl:d≤65536:=by
    rw[hdk.out];have:2^k≤2^15:=Nat.pow_le_pow_right (by omega) (by omega);omega
   by_cases hlt:k<pt
   ·go_wp2
    go_round
    case rel=>exact⟨k+1,2*d,by omega,by go_num,by go_num,by rw[show d=2^k from hdk.out,Nat.pow_succ];exact Nat.mul_comm _ _⟩
    case measure=>simp[intOf];omega
   ·have hke:k=pt:=by omega
    subst hke;have hdP:d=P:=hdk.out.trans HP.out.symm;subst hdP;clear hdk hdl HP
    go_wp2
    go_loopw [7,8] (fun ov iv wr=> ∃j:Nat,wh+j≤xs.length∧iv=yi ((wh+j:Nat):Int)∧Own wr w.heap.size 3 .i64 ov ((low d Q (xs.drop wh)).take j)∧yB w wr) (fun _ iv _=>xs.length-(intOf iv).toNat)
    case atStart=>exact⟨0,by omega,by go_num,aQ _ _ _ _,Below.refl _ _⟩
    case round=>
     obtain⟨j,hj,rfl,own,bel⟩:=hrel
     by_cases hlt2:wh+j<xs.length
     ·obtain⟨b,off,rfl,hcell⟩:=hca (by omega)
      have hx:=cell_later bel (hcell (wh+j) hlt2);have hy:=fun h:wh+j+1<xs.length=>cell_later bel (hcell (wh+j+1) h)
      have hxl:=sa (wh+j);have hyl:=sa (wh+j+1);have hy0: ¬wh+j+1<xs.length→xs.getD (wh+j+1) 0=0:=fun h=>Dg.getD_of_le _ _ (by omega)
      have hsn:=XR d Q (xs.drop wh) j (by simp;omega);rw[ui,ui,←Nat.add_assoc] at hsn;obtain⟨x,ex⟩: ∃x,xs.getD (wh+j) 0=x:=⟨_,rfl⟩;obtain⟨y,ey⟩: ∃y,xs.getD (wh+j+1) 0=y:=⟨_,rfl⟩;obtain⟨es,ees⟩: ∃es,(low d Q (xs.drop wh)).take j=es:=⟨_,rfl⟩;have hel:es.length≤1000000:=by rw[←ees];simp[mA];omega
      rw[ex] at hx hxl hsn;rw[ey] at hy hyl hy0 hsn;rw[ees] at hsn own;have HS:Hid _:=hsn;have hbs:=bel.size;obtain⟨q1,hq1⟩: ∃q1,x/d=q1:=⟨_,rfl⟩;obtain⟨m1,hm1⟩: ∃m1,y % d=m1:=⟨_,rfl⟩;have hq1I:(x:Int)/(d:Int)=(q1:Int):=by rw[←hq1];exact(Int.natCast_ediv x d).symm
      have hm1I:(y:Int) % (d:Int)=(m1:Int):=by rw[←hm1];exact(Int.natCast_emod y d).symm
      have hq1l:q1≤65536:=by rw[←hq1];have:=Nat.div_le_self x d;omega
      have hm1l:m1<d:=by rw[←hm1];exact Nat.mod_lt _ hP0
      rw[hq1,hm1] at HS;have hmQ:m1*Q≤65536*65536:=Nat.mul_le_mul (by omega) hQl;have hmQI:(m1:Int)*(Q:Int)≤4294967296:=by rw[←Int.natCast_mul];omega
      have hmQ0:0≤(m1:Int)*(Q:Int):=by rw[←Int.natCast_mul];omega
      clear ex ey ees hcell hca hsn hq1 hm1 hmQ
      by_cases h2:wh+j+1<xs.length
      ·have hy1:=hy h2
       clear hy hy0;have own2:=fun m=>Own.l own (aL (Below.refl wr.heap.size wr) m)
       go_wp2
       go_quiet (fail)
       go_wp2_with (at_builtin;refine wpList_append_own _ rfl _ _ 34 rfl w.heap.size 3 i0 (yi 0) 1 8 Tryd.underlying34 hi hz0 hz1 hz2 rfl (by decide) _ _ _ rfl (World.ownsRow.alloc (own2 _) _) ⟨wr.heap.size,0,none⟩ 1 1 [yi ((q1:Int)+(m1:Int)*(Q:Int))] rfl rfl ?c1 ?c2 ?c3 ?c4 ?c5 ?_)
       case c1=>exact cell_one_new _ _ _
       case c2=>intro u hu;simp at hu;subst hu;rfl
       case c3=>unfold maxLen;omega
       case c4=>omega
       case c5=>simp;omega
       intro v' w3 hown' hgrow _;have e0:((q1:Int)+(m1:Int)*(Q:Int))=((q1+m1*Q:Nat):Int):=by rw[Int.natCast_add,Int.natCast_mul]
       rw[e0] at hown' hgrow;have R:=iW (aL bel _) (own2 _) hown' hgrow;clear hown' hgrow own own2 e0
       go_wp2
       go_roundw
       case rel=>exact⟨j+1,by omega,by go_num,by rw[HS.out];exact R.1,R.2⟩
       case measure=>simp[intOf];omega
      ·have hy1:=hy0 h2
       subst hy1;have hm0:m1=0:=by
        have:(m1:Int)=0:=by rw[←hm1I];simp
        omega
       subst hm0;simp only[Nat.zero_mul,Nat.add_zero] at HS;clear hy hy0 hm1I hmQI hmQ0
       go_wp2_with (at_builtin;refine wpList_append_own _ rfl _ _ 34 rfl w.heap.size 3 i0 (yi 0) 1 8 Tryd.underlying34 hi hz0 hz1 hz2 rfl (by decide) _ _ _ rfl (World.ownsRow.alloc own _) ⟨wr.heap.size,0,none⟩ 1 1 [yi ((q1:Int))] rfl rfl ?d1 ?d2 ?d3 ?d4 ?d5 ?_)
       case d1=>exact cell_one_new _ _ _
       case d2=>intro u hu;simp at hu;subst hu;rfl
       case d3=>unfold maxLen;omega
       case d4=>omega
       case d5=>simp;omega
       intro v' w3 hown' hgrow _;have R:=iW bel own hown' hgrow;clear hown' hgrow own
       go_wp2
       go_roundw
       case rel=>exact⟨j+1,by omega,by go_num,by rw[HS.out];exact R.1,R.2⟩
       case measure=>simp[intOf];omega
     ·have hje:wh+j=xs.length:=by omega
      rw[List.take_of_length_le (by rw[mA];simp;omega)] at own;have hsm:=Ug d Q (xs.drop wh) HPQ.out (fun i=>by rw[ui];exact sa _)
      have hv:Dg.vl 65536 (low d Q (xs.drop wh))=Dg.vl 65536 xs/2^n:=by
       have:=Y8 d Q hP0 (xs.drop wh);rw[HPQ.out] at this;rw[this,aa7 65536 (by omega) xs wh (by omega) sa,Nat.div_div_eq_div_mul,HPW.out]
      have hlw:(low d Q (xs.drop wh)).length≤1000000:=by rw[mA];simp;omega
      obtain⟨ls,hls⟩: ∃ls,low d Q (xs.drop wh)=ls:=⟨_,rfl⟩;rw[hls] at own hsm hv hlw;have HV:Hid _:=hv;clear hls hv;obtain⟨oo,oc,rfl⟩:=own.rd.shape;have hF:=JH own
      go_wp2_with fail
      refine(i9 _ _ _ _ _ own.rd).mono ?_;rintro e w' ⟨m,rfl,hm,rfl⟩;have hml:=hm.1;have HF:Hid (Far w.heap.size (.slice oo m m)):=LP hF m m;clear hF;have hr2:=uE (cap':=m) 65536 (by omega) own.rd hsm hm (Nat.le_refl _) (by unfold maxLen;omega);rw[HV.out] at hr2;clear hm
      go_wp2
      go_ret
      exact⟨_,rfl,hr2,HF.out,bel⟩
theorem lA (v:Value)(t:ak)(w:World)(hv:Rv w v t)(hL:(Dg.dg 65536 t.n).length≤100000)(he1: -1000000≤t.e)(he2:t.e≤1000000):
  yC 29 #[v] w (di w (bare t)):=by
 obtain⟨s0,rfl,hr⟩:=hv;obtain⟨ao,ca,rfl⟩:=hr.shape;obtain⟨ts,n,e⟩:=t;simp only at hr hL he1 he2⊢
 by_cases hn:n=0
 ·subst hn
  rw[show Dg.dg 65536 0=[] from rfl] at hr⊢
  rw[show bare ⟨ts,0,e⟩=⟨false,0,0⟩ from by unfold bare;rfl]
  go_enter Tryd.func29,Tryd.ntmps29
  go_wp2
  go_returns
  exact⟨_,rfl,aN _ _,(fun a n c h=>by cases h),((Below.refl _ _).alloc (Nat.le_refl _) _).alloc (by simp[World.size_alloc]) _⟩
 ·have h0:(((Dg.dg 65536 n).length:Int)==0)=false:=by simp[Dg.dg_nil_iff 65536 n (by omega)];exact hn
  have hsm:=Dg.small_dg 65536 n (by omega);have hnm:=Dg.norm_dg 65536 n (by omega);have hvl:=Dg.vl_dg 65536 n (by omega);have hne:Dg.dg 65536 n≠[]:=by rw[Ne,Dg.dg_nil_iff 65536 n (by omega)];exact hn
  obtain⟨xs,hx⟩: ∃xs,Dg.dg 65536 n=xs:=⟨_,rfl⟩;rw[hx] at hr hL h0 hsm hnm hvl hne⊢;have hlp:0<xs.length:=List.length_pos_iff.2 hne;have HNM:Hid (xs.getD (xs.length-1) 0≠0):=hnm hne;obtain⟨-,-,hcb⟩:=iQ hr;obtain⟨b,off,hao,hcell⟩:=hcb hlp;subst hao;have bA:=aa (af w (.cells (ydA ts (.slice (some ⟨b,off,none⟩) xs.length ca) e) 36)) (af _ (.cells (ydA false yN 0) 36))
  go_enter Tryd.func29,Tryd.ntmps29
  go_wp2
  go_loop [3] (fun nv=> ∃k:Nat,k<xs.length∧nv=yi ((16*k:Nat):Int)∧Hid (∀j,j<k→xs.getD j 0=0)) (fun nv=>xs.length-(intOf nv).toNat/16)
  case atStart=>exact⟨0,hlp,rfl,fun j hj=>absurd hj (Nat.not_lt_zero j)⟩
  case round=>
   obtain⟨k,hk,rfl,hzk⟩:=hrel;have hq:((16*k:Nat):Int)/16=(k:Int):=by omega
   have hc:=cell_later bA (hcell k hk);have hl:=hsm k;obtain⟨x,hxx⟩: ∃x,xs.getD k 0=x:=⟨_,rfl⟩;rw[hxx] at hc hl;have HX:Hid (xs.getD k 0=x):=hxx;clear hxx
   by_cases hx0:x=0
   ·subst hx0
    have hk1:k+1<xs.length:=by
     rcases Nat.lt_or_ge (k+1) xs.length with h|h
     ·exact h
     ·exfalso
      have:k=xs.length-1:=by omega
      exact HNM.out (by rw[←this];exact HX.out)
    go_wp2
    go_round
    case rel=>exact⟨k+1,hk1,by go_num,fun j hj=>by
     by_cases e:j=k
     ·rw[e];exact HX.out
     ·exact hzk.out j (by omega)⟩
    case measure=>simp[intOf];omega
   ·have h1:((x:Int)==0)=false:=by simp;exact hx0
    go_wp2
    have bd:Below (((w.alloc (.cells (ydA ts (.slice (some ⟨b,off,none⟩) xs.length ca) e) 36)).alloc (.cells (ydA false yN 0) 36))).heap.size ((w.alloc (.cells (ydA ts (.slice (some ⟨b,off,none⟩) xs.length ca) e) 36)).alloc (.cells (ydA false yN 0) 36)) ((w.alloc (.cells (ydA ts (.slice (some ⟨b,off,none⟩) xs.length ca) e) 36)).alloc (.cells (ydA false yN 0) 36)).drew:=(Below.refl _ _).drew;have l1:=((aA w (.bool ts) (.slice (some ⟨b,off,none⟩) xs.length ca) (yi e) 36).l (af _ (.cells (ydA false yN 0) 36))).l bd;have l2:=(aA (w.alloc (.cells (ydA ts (.slice (some ⟨b,off,none⟩) xs.length ca) e) 36)) (.bool false) yN (yi 0) 36).l bd;have z2:=(dI (w.alloc (.cells (ydA ts (.slice (some ⟨b,off,none⟩) xs.length ca) e) 36)) 36).l bd;rw[World.size_alloc] at l2 z2;have b02:=aa bA bd;clear bd
    go_loop [3,4] (fun nv dv=> ∃j d:Nat,nv=yi (16*(k:Int)+(j:Int))∧dv=yi (d:Int)∧0<d∧d≤x∧Hid (x=2^j*d)∧j≤16) (fun _ dv=>(intOf dv).toNat)
    case atStart=>exact⟨0,x,by simp,rfl,by omega,Nat.le_refl _,by show x=2^0*x;simp,by omega⟩
    case round=>
     obtain⟨j,d,rfl,rfl,hd0,hdx,hxd,hj⟩:=hrel
     by_cases hev:d % 2=0
     ·have e1:((d:Int) % 2==0)=true:=by simp;omega
      have hj2:j+1≤16:=by
       rcases Nat.lt_or_ge j 16 with h|h
       ·exact h
       ·exfalso
        have h2:2^16≤2^j:=Nat.pow_le_pow_right (by omega) h;have h3:2^j*1≤2^j*d:=Nat.mul_le_mul_left _ (by omega);rw[←hxd.out] at h3;omega
      go_wp2
      go_round
      case rel=>exact⟨j+1,d/2,by go_num,by go_num,by omega,by omega,by
       show x=2^ (j+1)*(d/2)
       rw[Nat.pow_succ,Nat.mul_assoc,show 2*(d/2)=d from by omega]
       exact hxd.out,hj2⟩
      case measure=>simp[intOf];omega
     ·have e1:((d:Int) % 2==0)=false:=by simp;omega
      obtain⟨m,hm⟩: ∃m,d=2*m+1:=⟨d/2,by omega⟩;have hj15:j<16:=by
       rcases Nat.lt_or_ge j 16 with h|h
       ·exact h
       ·exfalso
        have h2:2^16≤2^j:=Nat.pow_le_pow_right (by omega) h;have h3:2^j*1≤2^j*d:=Nat.mul_le_mul_left _ (by omega);rw[←hxd.out] at h3;omega
      have htz:=QY xs k j m hk hzk.out (by rw[HX.out,←hm];exact hxd.out) hj15;rw[hvl] at htz;have HB:Hid (bare ⟨ts,n,e⟩=⟨ts,n/2^ (16*k+j),e+(16*(k:Int)+(j:Int))⟩):=by
       show bare ⟨ts,n,e⟩=_
       unfold bare;rw[if_neg hn];simp only[htz];rw[show((16*k+j:Nat):Int)=16*(k:Int)+(j:Int) from by omega]
      have HD:Hid (∀w1,yB w w1→yC 53 #[.slice (some ⟨b,off,none⟩) xs.length ca,yi (16*(k:Int)+(j:Int))] w1 (Si w1 (n/2^ (16*k+j)))):=fun w1 b1=>by
       have:=MD _ xs (16*k+j) k j _ _ w1 (hr.l b1) hsm (by omega) rfl hj15 (by omega) rfl rfl
       rwa [hvl,show((16*k+j:Nat):Int)=16*(k:Int)+(j:Int) from by omega] at this
      obtain⟨q,hqq⟩: ∃q,n/2^ (16*k+j)=q:=⟨_,rfl⟩;rw[hqq] at HB HD;have e5:IntKind.i64.wrap (e+(16*(k:Int)+(j:Int)))=e+(16*(k:Int)+(j:Int)):=IntWalk.i64_in _ ⟨by omega,by omega⟩;obtain⟨-,⟨c0,c1,c2⟩,-⟩:=id l1;have ne3:w.heap.size+1≠w.heap.size:=by omega
      clear hqq htz hm hxd hev
      go_wp2
      go_region_held3 (fun wq=>wq.cell? ⟨w.heap.size,0,none⟩=some (.bool ts)∧wq.cell? ⟨w.heap.size,1,none⟩=some (.slice (some ⟨b,off,none⟩) xs.length ca)∧wq.cell? ⟨w.heap.size,2,none⟩=some (yi e)) (go_keep) (first
       | (go_at_call 53;refine(HD.out _ b02).mono ?_;rintro z w3 ⟨vs,rfl,r3,hF3,b3⟩;have l13:=l1.l b3;have l23:=l2.l b3;have z23:=z2.l b3;have b03:=aa b02 b3;obtain⟨so,sc,hvs⟩:=r3.shape;subst hvs;have HF:Hid (Far w.heap.size (yS so q sc)):=hF3.mono b02.size;clear hF3;obtain⟨-,⟨p0,p1,p2⟩,-⟩:=id l13;obtain⟨hl3,⟨d0,d1,d2⟩,f0,f1,f2⟩:=id l23))
      all_goals go_wp2
      obtain⟨-,⟨g0,g1,g2⟩,-⟩:=aD l23 (.bool ts) (yS so q sc) (yi (e+(16*(k:Int)+(j:Int))));have r7:=z23.rd r3 (Dg.norm_dg _ _ (by omega)) (.bool ts) (yS so q sc) (yi (e+(16*(k:Int)+(j:Int))));have b8:=am b03 (show w.heap.size≤w.heap.size+1 by omega) (.bool ts) (yS so q sc) (yi (e+(16*(k:Int)+(j:Int))))
      refine bodyPost_ret (v:=(ydV ts (yS so q sc) (e+(16*(k:Int)+(j:Int))))) (by simp[results,Tryd.results29,go_sem,g0,g1,g2]) rfl ?_
      show di w (bare ⟨ts,n,e⟩) _ _
      rw[HB.out];exact⟨_,rfl,r7,HF.out,b8⟩
end Go.Proofs.YtiakgfmlpdfhdaaDoor

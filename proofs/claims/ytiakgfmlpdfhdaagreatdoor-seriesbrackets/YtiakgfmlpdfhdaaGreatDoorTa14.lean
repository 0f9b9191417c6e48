/-
  Texts laid together: Plus, Minus, Ref6, Dy2.
-/
import Derived.Test.YtiakgfmlpdfhdaaGreatDoorTa05
import Derived.Test.YtiakgfmlpdfhdaaGreatDoorTa06
import Derived.Test.YtiakgfmlpdfhdaaGreatDoorTa07
set_option maxRecDepth 100000
set_option maxHeartbeats 3200000
namespace Go.Proofs.YtiakgfmlpdfhdaaGreatDoor
open _root_.Go.Proofs.Tryz
open Go.RowKit
theorem abc (va vb:Value)(xs ys:List Nat)(w:World)(ha:Rd w .u32 va xs)(hb:Rd w .u32 vb ys)(sa:Dg.Small 4294967296 xs)(sb:Dg.Small 4294967296 ys)(hla:xs.length≤1000000)(hlb:ys.length≤xs.length):
  yC 70 #[va,vb] w (Num w (Dg.vl 4294967296 xs+Dg.vl 4294967296 ys)):=by
 obtain⟨i0,hi,hz0,hz1,hz2⟩:=info_parts Tryz.infoU32;obtain⟨ao,ca,rfl,-,-,hca⟩:=ha;obtain⟨bo,cb,rfl,-,-,hcb⟩:=hb
 go_enter func70,ntmps70
 go_wp2_with (at_make;refine wpList_make_full _ rfl _ _ 92 rfl w.heap.size 49 i0 (.int .u32 0) 1 underlying92 hi hz0 hz1 _ _ _ _ (xs.length+1) rfl rfl (by omega) (by omega) ?b2 ?b3 (Nat.le_refl _) ?_)
 case b2=>rw[hz2];omega
 case b3=>unfold maxLen;omega
 intro w0 hown0 hgrow0;have own0:=gL hown0;have bel0:yB w w0:=(Below.refl _ _).grown hgrow0 (Nat.le_refl _) (fun k h=>by cases h)
 clear hown0 hgrow0
 go_wp2
 go_loopw [6,23] (fun cv kv wr=> ∃(k c:Nat) (ps:List Nat),k≤ys.length∧kv=yi k∧cv= .int .u32 c∧Own wr w.heap.size 49 .u32 (.slice (some ⟨w.heap.size,0,none⟩) (xs.length+1) (xs.length+1)) ps∧Qv xs ys ps k c∧yB w wr)
  (fun _ kv _=>ys.length-(intOf kv).toNat)
 case atStart=>exact⟨0,0,_,Nat.zero_le _,rfl,rfl,own0,⟨by simp,Dg.small_replicate _ _ (by omega),by omega,by simp[Dg.vl]⟩,bel0⟩
 case round=>
  clear own0 bel0;obtain⟨k,c,ps,hkl,rfl,rfl,own,hI,bel⟩:=hrel;have hpl:=hI.1;have hcl:=hI.2.2.1
  by_cases hlt:k<ys.length
  ·obtain⟨b,off,rfl,hcell⟩:=hca (by omega)
   obtain⟨b2,off2,rfl,hcell2⟩:=hcb (by omega);have hx:=cell_later bel (hcell k (by omega));have hy:=cell_later bel (hcell2 k (by omega));have hp:=own.c k (by omega);have hf:=own.f k;have hxl:=sa k;have hyl:=sb k;obtain⟨x,ex⟩: ∃x,xs.getD k 0=x:=⟨_,rfl⟩;obtain⟨y,ey⟩: ∃y,ys.getD k 0=y:=⟨_,rfl⟩;have hst:=zq hI (by omega) ex ey (by omega) (by omega);rw[ex] at hx hxl;rw[ey] at hy hyl;clear ex ey hcell hcell2 hca hcb
   go_wp2_with fail
   refine(ur x y c _ hxl hyl hcl).mono ?_;rintro e w' ⟨rfl,rfl⟩
   go_wp2
   go_roundw
   case rel=>exact⟨k+1,_,_,by omega,by go_num,rfl,own.store k _,hst,bel.setCell (by exact Nat.le_refl _) _⟩
   case measure=>simp[intOf];omega
  ·have hk:k=ys.length:=by omega
   subst hk
   go_wp2
   go_loopw [6,9] (fun cv kv wr=> ∃(k c:Nat) (ps:List Nat),ys.length≤k∧k≤xs.length∧kv=yi k∧cv= .int .u32 c∧Own wr w.heap.size 49 .u32 (.slice (some ⟨w.heap.size,0,none⟩) (xs.length+1) (xs.length+1)) ps∧Qv xs ys ps k c∧yB w wr)
    (fun _ kv _=>xs.length-(intOf kv).toNat)
   case atStart=>exact⟨ys.length,c,ps,Nat.le_refl _,by omega,rfl,rfl,own,hI,bel⟩
   case round=>
    clear own hI bel hpl hcl;obtain⟨k,c,ps,hky,hkl,rfl,rfl,own,hI,bel⟩:=hrel;have hpl:=hI.1;have hcl:=hI.2.2.1
    by_cases hlt:k<xs.length
    ·obtain⟨b,off,rfl,hcell⟩:=hca (by omega)
     have hx:=cell_later bel (hcell k (by omega));have hp:=own.c k (by omega);have hf:=own.f k;have hxl:=sa k;obtain⟨x,ex⟩: ∃x,xs.getD k 0=x:=⟨_,rfl⟩;have hst:=zq hI (by omega) ex (Dg.getD_of_le ys k hky) (by omega) (by omega);rw[ex] at hx hxl;clear ex hcell hca hcb
     go_wp2_with fail
     refine(ur x 0 c _ hxl (by omega) hcl).mono ?_;rintro e w' ⟨rfl,rfl⟩
     go_wp2
     go_roundw
     case rel=>exact⟨k+1,_,_,by omega,by omega,by go_num,rfl,own.store k _,hst,bel.setCell (by exact Nat.le_refl _) _⟩
     case measure=>simp[intOf];omega
    ·have hk:k=xs.length:=by omega
     subst hk;have hp:=own.c xs.length (by omega);have hf:=own.f xs.length;have hen:=Nc hI (by omega);have own2:=own.store xs.length c;have bel2:=bel.setCell (p:=⟨w.heap.size,xs.length,none⟩) (by exact Nat.le_refl _) (.int .u32 c);have rd:=own2.rd
     go_wp2_with fail
     refine(jD _ _ _ _ _ rd).mono ?_;rintro e w' ⟨m,rfl,hm,rfl⟩;have ht:=jW 4294967296 (by omega) own2 hen.2.1 hm;rw[hen.2.2] at ht;clear rd own2 hen hp hf own
     go_wp2
     go_ret
     exact⟨_,rfl,ht,bel2⟩
theorem abd (va vb:Value)(xs ys:List Nat)(w:World)(ha:Rd w .u32 va xs)(hb:Rd w .u32 vb ys)(sa:Dg.Small 4294967296 xs)(sb:Dg.Small 4294967296 ys)(hla:xs.length≤1000000)(hlb:ys.length<xs.length):
  yC 70 #[vb,va] w (Num w (Dg.vl 4294967296 xs+Dg.vl 4294967296 ys)):=by
 obtain⟨i0,hi,hz0,hz1,hz2⟩:=info_parts Tryz.infoU32;obtain⟨ao,ca,rfl,-,-,hca⟩:=ha;obtain⟨bo,cb,rfl,-,-,hcb⟩:=hb
 go_enter func70,ntmps70
 go_wp2_with (at_make;refine wpList_make_full _ rfl _ _ 92 rfl w.heap.size 49 i0 (.int .u32 0) 1 underlying92 hi hz0 hz1 _ _ _ _ (xs.length+1) rfl rfl (by omega) (by omega) ?b2 ?b3 (Nat.le_refl _) ?_)
 case b2=>rw[hz2];omega
 case b3=>unfold maxLen;omega
 intro w0 hown0 hgrow0;have own0:=gL hown0;have bel0:yB w w0:=(Below.refl _ _).grown hgrow0 (Nat.le_refl _) (fun k h=>by cases h)
 clear hown0 hgrow0
 go_wp2
 go_loopw [6,23] (fun cv kv wr=> ∃(k c:Nat) (ps:List Nat),k≤ys.length∧kv=yi k∧cv= .int .u32 c∧Own wr w.heap.size 49 .u32 (.slice (some ⟨w.heap.size,0,none⟩) (xs.length+1) (xs.length+1)) ps∧Qv xs ys ps k c∧yB w wr)
  (fun _ kv _=>ys.length-(intOf kv).toNat)
 case atStart=>exact⟨0,0,_,Nat.zero_le _,rfl,rfl,own0,⟨by simp,Dg.small_replicate _ _ (by omega),by omega,by simp[Dg.vl]⟩,bel0⟩
 case round=>
  clear own0 bel0;obtain⟨k,c,ps,hkl,rfl,rfl,own,hI,bel⟩:=hrel;have hpl:=hI.1;have hcl:=hI.2.2.1
  by_cases hlt:k<ys.length
  ·obtain⟨b,off,rfl,hcell⟩:=hca (by omega)
   obtain⟨b2,off2,rfl,hcell2⟩:=hcb (by omega);have hx:=cell_later bel (hcell k (by omega));have hy:=cell_later bel (hcell2 k (by omega));have hp:=own.c k (by omega);have hf:=own.f k;have hxl:=sa k;have hyl:=sb k;obtain⟨x,ex⟩: ∃x,xs.getD k 0=x:=⟨_,rfl⟩;obtain⟨y,ey⟩: ∃y,ys.getD k 0=y:=⟨_,rfl⟩;have hst:=zq hI (by omega) ex ey (by omega) (by omega);rw[ex] at hx hxl;rw[ey] at hy hyl;clear ex ey hcell hcell2 hca hcb
   go_wp2_with fail
   refine(ur x y c _ hxl hyl hcl).mono ?_;rintro e w' ⟨rfl,rfl⟩
   go_wp2
   go_roundw
   case rel=>exact⟨k+1,_,_,by omega,by go_num,rfl,own.store k _,hst,bel.setCell (by exact Nat.le_refl _) _⟩
   case measure=>simp[intOf];omega
  ·have hk:k=ys.length:=by omega
   subst hk
   go_wp2
   go_loopw [6,9] (fun cv kv wr=> ∃(k c:Nat) (ps:List Nat),ys.length≤k∧k≤xs.length∧kv=yi k∧cv= .int .u32 c∧Own wr w.heap.size 49 .u32 (.slice (some ⟨w.heap.size,0,none⟩) (xs.length+1) (xs.length+1)) ps∧Qv xs ys ps k c∧yB w wr)
    (fun _ kv _=>xs.length-(intOf kv).toNat)
   case atStart=>exact⟨ys.length,c,ps,Nat.le_refl _,by omega,rfl,rfl,own,hI,bel⟩
   case round=>
    clear own hI bel hpl hcl;obtain⟨k,c,ps,hky,hkl,rfl,rfl,own,hI,bel⟩:=hrel;have hpl:=hI.1;have hcl:=hI.2.2.1
    by_cases hlt:k<xs.length
    ·obtain⟨b,off,rfl,hcell⟩:=hca (by omega)
     have hx:=cell_later bel (hcell k (by omega));have hp:=own.c k (by omega);have hf:=own.f k;have hxl:=sa k;obtain⟨x,ex⟩: ∃x,xs.getD k 0=x:=⟨_,rfl⟩;have hst:=zq hI (by omega) ex (Dg.getD_of_le ys k hky) (by omega) (by omega);rw[ex] at hx hxl;clear ex hcell hca hcb
     go_wp2_with fail
     refine(ur x 0 c _ hxl (by omega) hcl).mono ?_;rintro e w' ⟨rfl,rfl⟩
     go_wp2
     go_roundw
     case rel=>exact⟨k+1,_,_,by omega,by omega,by go_num,rfl,own.store k _,hst,bel.setCell (by exact Nat.le_refl _) _⟩
     case measure=>simp[intOf];omega
    ·have hk:k=xs.length:=by omega
     subst hk;have hp:=own.c xs.length (by omega);have hf:=own.f xs.length;have hen:=Nc hI (by omega);have own2:=own.store xs.length c;have bel2:=bel.setCell (p:=⟨w.heap.size,xs.length,none⟩) (by exact Nat.le_refl _) (.int .u32 c);have rd:=own2.rd
     go_wp2_with fail
     refine(jD _ _ _ _ _ rd).mono ?_;rintro e w' ⟨m,rfl,hm,rfl⟩;have ht:=jW 4294967296 (by omega) own2 hen.2.1 hm;rw[hen.2.2] at ht;clear rd own2 hen hp hf own
     go_wp2
     go_ret
     exact⟨_,rfl,ht,bel2⟩
theorem rj (va vb:Value)(xs ys:List Nat)(w:World)(ha:Rd w .u32 va xs)(hb:Rd w .u32 vb ys)(sa:Dg.Small 4294967296 xs)(sb:Dg.Small 4294967296 ys)(hla:xs.length≤1000000)(hlb:ys.length≤1000000):
  yC 70 #[va,vb] w (Num w (Dg.vl 4294967296 xs+Dg.vl 4294967296 ys)):=by
 by_cases h:ys.length≤xs.length
 ·exact abc va vb xs ys w ha hb sa sb hla h
 ·rw[Nat.add_comm]
  exact abd vb va ys xs w hb ha sb sa hlb (by omega)
theorem zL (va vb:Value)(xs ys:List Nat)(w:World)(ha:Rd w .u32 va xs)(hb:Rd w .u32 vb ys)(sa:Dg.Small 4294967296 xs)(sb:Dg.Small 4294967296 ys)(hla:xs.length≤1000000)(hlb:ys.length≤xs.length)(hv:Dg.vl 4294967296 ys≤Dg.vl 4294967296 xs):
  yC 72 #[va,vb] w (Num w (Dg.vl 4294967296 xs-Dg.vl 4294967296 ys)):=by
 obtain⟨i0,hi,hz0,hz1,hz2⟩:=info_parts Tryz.infoU32;obtain⟨ao,ca,rfl,-,-,hca⟩:=ha;obtain⟨bo,cb,rfl,-,-,hcb⟩:=hb;have HV:Hid _:=hv;clear hv
 go_enter func72,ntmps72
 go_wp2_with (at_make;refine wpList_make_full _ rfl _ _ 92 rfl w.heap.size 49 i0 (.int .u32 0) 1 underlying92 hi hz0 hz1 _ _ _ _ xs.length rfl rfl (by omega) (by omega) ?b2 ?b3 (Nat.le_refl _) ?_)
 case b2=>rw[hz2];omega
 case b3=>unfold maxLen;omega
 intro w0 hown0 hgrow0;have own0:=gL hown0;have bel0:yB w w0:=(Below.refl _ _).grown hgrow0 (Nat.le_refl _) (fun k h=>by cases h)
 clear hown0 hgrow0
 go_wp2
 go_loopw [6,15] (fun cv kv wr=> ∃(k c:Nat) (ps:List Nat),k≤ys.length∧kv=yi k∧cv= .int .u32 c∧Own wr w.heap.size 49 .u32 (.slice (some ⟨w.heap.size,0,none⟩) xs.length xs.length) ps∧Z7 xs ys ps k c∧yB w wr)
  (fun _ kv _=>ys.length-(intOf kv).toNat)
 case atStart=>exact⟨0,0,_,Nat.zero_le _,rfl,rfl,own0,⟨by simp,Dg.small_replicate _ _ (by omega),by omega,by simp[Dg.vl]⟩,bel0⟩
 case round=>
  clear own0 bel0;obtain⟨k,c,ps,hkl,rfl,rfl,own,hI,bel⟩:=hrel;have hpl:=hI.1;have hcl:=hI.2.2.1
  by_cases hlt:k<ys.length
  ·obtain⟨b,off,rfl,hcell⟩:=hca (by omega)
   obtain⟨b2,off2,rfl,hcell2⟩:=hcb (by omega);have hx:=cell_later bel (hcell k (by omega));have hy:=cell_later bel (hcell2 k (by omega));have hp:=own.c k (by omega);have hf:=own.f k;have hxl:=sa k;have hyl:=sb k;obtain⟨x,ex⟩: ∃x,xs.getD k 0=x:=⟨_,rfl⟩;obtain⟨y,ey⟩: ∃y,ys.getD k 0=y:=⟨_,rfl⟩;have hst:=Jq hI (by omega) ex ey (by omega) (by omega);rw[ex] at hx hxl;rw[ey] at hy hyl;clear ex ey hcell hcell2 hca hcb
   go_wp2_with fail
   refine(zA x y c _ hxl hyl hcl).mono ?_;rintro e w' ⟨rfl,rfl⟩
   go_wp2
   go_roundw
   case rel=>exact⟨k+1,_,_,by omega,by go_num,rfl,own.store k _,hst,bel.setCell (by exact Nat.le_refl _) _⟩
   case measure=>simp[intOf];omega
  ·have hk:k=ys.length:=by omega
   subst hk
   go_wp2
   go_loopw [6,9] (fun cv kv wr=> ∃(k c:Nat) (ps:List Nat),ys.length≤k∧k≤xs.length∧kv=yi k∧cv= .int .u32 c∧Own wr w.heap.size 49 .u32 (.slice (some ⟨w.heap.size,0,none⟩) xs.length xs.length) ps∧Z7 xs ys ps k c∧yB w wr)
    (fun _ kv _=>xs.length-(intOf kv).toNat)
   case atStart=>exact⟨ys.length,c,ps,Nat.le_refl _,by omega,rfl,rfl,own,hI,bel⟩
   case round=>
    clear own hI bel hpl hcl;obtain⟨k,c,ps,hky,hkl,rfl,rfl,own,hI,bel⟩:=hrel;have hpl:=hI.1;have hcl:=hI.2.2.1
    by_cases hlt:k<xs.length
    ·obtain⟨b,off,rfl,hcell⟩:=hca (by omega)
     have hx:=cell_later bel (hcell k (by omega));have hp:=own.c k (by omega);have hf:=own.f k;have hxl:=sa k;obtain⟨x,ex⟩: ∃x,xs.getD k 0=x:=⟨_,rfl⟩;have hst:=Jq hI (by omega) ex (Dg.getD_of_le ys k hky) (by omega) (by omega);rw[ex] at hx hxl;clear ex hcell hca hcb
     go_wp2_with fail
     refine(zA x 0 c _ hxl (by omega) hcl).mono ?_;rintro e w' ⟨rfl,rfl⟩
     go_wp2
     go_roundw
     case rel=>exact⟨k+1,_,_,by omega,by omega,by go_num,rfl,own.store k _,hst,bel.setCell (by exact Nat.le_refl _) _⟩
     case measure=>simp[intOf];omega
    ·have hk:k=xs.length:=by omega
     subst hk;have hen:=Z8 hI (by omega) HV.out;have rd:=own.rd
     go_wp2_with fail
     refine(jD _ _ _ _ _ rd).mono ?_;rintro e w' ⟨m,rfl,hm,rfl⟩;have ht:=jW 4294967296 (by omega) own hI.2.1 hm;rw[hen] at ht;clear rd hen own
     go_wp2
     go_ret
     exact⟨_,rfl,ht,bel⟩
theorem MD (va:Value)(xs:List Nat)(n wh pt P Q:Nat)(w:World)(ha:Rd w .i64 va xs)(sa:Dg.Small 65536 xs)(hla:xs.length≤1000000)(hn:n=16*wh+pt)(hpt:pt<16)(hnl:n≤100000000)(hP:P=2^pt)(hQ:Q=2^ (16-pt)):
  yC 55 #[va,yi n] w (Si w (Dg.vl 65536 xs/2^n)):=by
 have hPQ:P*Q=65536:=by rw[hP,hQ,←Nat.pow_add,show pt+(16-pt)=16 from by omega]
 have hpw:65536^wh*P=2^n:=by rw[hn,hP,Nat.pow_add,Nat.pow_mul]
 have hP0:0<P:=by rw[hP];exact Nat.pow_pos (by omega)
 have hQ0:0<Q:=by rw[hQ];exact Nat.pow_pos (by omega)
 have hPl:P≤65536:=by rw[←hPQ];exact Nat.le_mul_of_pos_right _ hQ0
 have hQl:Q≤65536:=by rw[←hPQ];exact Nat.le_mul_of_pos_left _ hP0
 obtain⟨ao,ca,rfl,-,-,hca⟩:=ha;obtain⟨i0,hi,hz0,hz1,hz2⟩:=info_parts Tryz.infoI64;have hq:(n:Int)/16=(wh:Int):=by omega
 have hr:(n:Int) % 16=(pt:Int):=by omega
 have hwl:wh≤100000000:=by omega
 have HPQ:Hid _:=hPQ;have HPW:Hid _:=hpw;have HP:Hid _:=hP
 by_cases hge:xs.length≤wh
 ·have hz:Dg.vl 65536 xs/2^n=0:=by
   apply Nat.div_eq_of_lt;have h1:=Dg.vl_lt 65536 xs sa;have h2:65536^xs.length≤65536^wh:=Nat.pow_le_pow_right (by omega) hge;have h3:65536^wh≤65536^wh*P:=Nat.le_mul_of_pos_right _ hP0;omega
  rw[hz];clear hz hn hPQ hpw hP hQ
  go_enter func55,ntmps55
  go_wp2
  go_ret
  exact⟨_,rfl,(aQ _ 0 0 _).rd,(fun a n c h=>by cases h),Below.refl _ _⟩
 ·have hdQ:(65536:Int)/(P:Int)=(Q:Int):=by
   have:65536/P=Q:=by rw[←hPQ];exact Nat.mul_div_cancel_left _ hP0
   rw[←this];exact(Int.natCast_ediv 65536 P).symm
  clear hn hPQ hpw hP hQ
  go_enter func55,ntmps55
  go_wp2
  go_loop [5,6] (fun dv iv=> ∃k d:Nat,k≤pt∧iv=yi k∧dv=yi d∧Hid (d=2^k)) (fun _ iv=>pt-(intOf iv).toNat)
  case atStart=>exact⟨0,1,Nat.zero_le _,rfl,rfl,rfl⟩
  case round=>
   obtain⟨k,d,hk,rfl,rfl,hdk⟩:=hrel;have hdl:d≤65536:=by
    rw[hdk.out];have:2^k≤2^15:=Nat.pow_le_pow_right (by omega) (by omega);omega
   by_cases hlt:k<pt
   ·go_wp2
    go_round
    case rel=>exact⟨k+1,2*d,by omega,by go_num,by go_num,by rw[show d=2^k from hdk.out,Nat.pow_succ];exact Nat.mul_comm _ _⟩
    case measure=>simp[intOf];omega
   ·have hke:k=pt:=by omega
    subst hke;have hdP:d=P:=hdk.out.trans HP.out.symm;subst hdP;clear hdk hdl HP
    go_wp2
    go_loopw [7,8] (fun ov iv wr=> ∃j:Nat,wh+j≤xs.length∧iv=yi ((wh+j:Nat):Int)∧Own wr w.heap.size 3 .i64 ov ((low d Q (xs.drop wh)).take j)∧yB w wr) (fun _ iv _=>xs.length-(intOf iv).toNat)
    case atStart=>exact⟨0,by omega,by go_num,aQ _ _ _ _,Below.refl _ _⟩
    case round=>
     obtain⟨j,hj,rfl,own,bel⟩:=hrel
     by_cases hlt2:wh+j<xs.length
     ·obtain⟨b,off,rfl,hcell⟩:=hca (by omega)
      have hx:=cell_later bel (hcell (wh+j) hlt2);have hy:=fun h:wh+j+1<xs.length=>cell_later bel (hcell (wh+j+1) h)
      have hxl:=sa (wh+j);have hyl:=sa (wh+j+1);have hy0: ¬wh+j+1<xs.length→xs.getD (wh+j+1) 0=0:=fun h=>Dg.getD_of_le _ _ (by omega)
      have hsn:=XR d Q (xs.drop wh) j (by simp;omega);rw[ui,ui,←Nat.add_assoc] at hsn;obtain⟨x,ex⟩: ∃x,xs.getD (wh+j) 0=x:=⟨_,rfl⟩;obtain⟨y,ey⟩: ∃y,xs.getD (wh+j+1) 0=y:=⟨_,rfl⟩;obtain⟨es,ees⟩: ∃es,(low d Q (xs.drop wh)).take j=es:=⟨_,rfl⟩;have hel:es.length≤1000000:=by rw[←ees];simp[mA];omega
      rw[ex] at hx hxl hsn;rw[ey] at hy hyl hy0 hsn;rw[ees] at hsn own;have HS:Hid _:=hsn;have hbs:=bel.size;obtain⟨q1,hq1⟩: ∃q1,x/d=q1:=⟨_,rfl⟩;obtain⟨m1,hm1⟩: ∃m1,y % d=m1:=⟨_,rfl⟩;have hq1I:(x:Int)/(d:Int)=(q1:Int):=by rw[←hq1];exact(Int.natCast_ediv x d).symm
      have hm1I:(y:Int) % (d:Int)=(m1:Int):=by rw[←hm1];exact(Int.natCast_emod y d).symm
      have hq1l:q1≤65536:=by rw[←hq1];have:=Nat.div_le_self x d;omega
      have hm1l:m1<d:=by rw[←hm1];exact Nat.mod_lt _ hP0
      rw[hq1,hm1] at HS;have hmQ:m1*Q≤65536*65536:=Nat.mul_le_mul (by omega) hQl;have hmQI:(m1:Int)*(Q:Int)≤4294967296:=by rw[←Int.natCast_mul];omega
      have hmQ0:0≤(m1:Int)*(Q:Int):=by rw[←Int.natCast_mul];omega
      clear ex ey ees hcell hca hsn hq1 hm1 hmQ
      by_cases h2:wh+j+1<xs.length
      ·have hy1:=hy h2
       clear hy hy0;have own2:=fun m=>Own.l own (aL (Below.refl wr.heap.size wr) m)
       go_wp2
       go_quiet (fail)
       go_wp2_with (at_builtin;refine wpList_append_own _ rfl _ _ 33 rfl w.heap.size 3 i0 (yi 0) 1 8 underlying33 hi hz0 hz1 hz2 rfl (by decide) _ _ _ rfl (World.ownsRow.alloc (own2 _) _) ⟨wr.heap.size,0,none⟩ 1 1 [yi ((q1:Int)+(m1:Int)*(Q:Int))] rfl rfl ?c1 ?c2 ?c3 ?c4 ?c5 ?_)
       case c1=>exact cell_one_new _ _ _
       case c2=>intro u hu;simp at hu;subst hu;rfl
       case c3=>unfold maxLen;omega
       case c4=>omega
       case c5=>simp;omega
       intro v' w3 hown' hgrow _;have e0:((q1:Int)+(m1:Int)*(Q:Int))=((q1+m1*Q:Nat):Int):=by rw[Int.natCast_add,Int.natCast_mul]
       rw[e0] at hown' hgrow;have R:=iW (aL bel _) (own2 _) hown' hgrow;clear hown' hgrow own own2 e0
       go_wp2
       go_roundw
       case rel=>exact⟨j+1,by omega,by go_num,by rw[HS.out];exact R.1,R.2⟩
       case measure=>simp[intOf];omega
      ·have hy1:=hy0 h2
       subst hy1;have hm0:m1=0:=by
        have:(m1:Int)=0:=by rw[←hm1I];simp
        omega
       subst hm0;simp only[Nat.zero_mul,Nat.add_zero] at HS;clear hy hy0 hm1I hmQI hmQ0
       go_wp2_with (at_builtin;refine wpList_append_own _ rfl _ _ 33 rfl w.heap.size 3 i0 (yi 0) 1 8 underlying33 hi hz0 hz1 hz2 rfl (by decide) _ _ _ rfl (World.ownsRow.alloc own _) ⟨wr.heap.size,0,none⟩ 1 1 [yi ((q1:Int))] rfl rfl ?d1 ?d2 ?d3 ?d4 ?d5 ?_)
       case d1=>exact cell_one_new _ _ _
       case d2=>intro u hu;simp at hu;subst hu;rfl
       case d3=>unfold maxLen;omega
       case d4=>omega
       case d5=>simp;omega
       intro v' w3 hown' hgrow _;have R:=iW bel own hown' hgrow;clear hown' hgrow own
       go_wp2
       go_roundw
       case rel=>exact⟨j+1,by omega,by go_num,by rw[HS.out];exact R.1,R.2⟩
       case measure=>simp[intOf];omega
     ·have hje:wh+j=xs.length:=by omega
      rw[List.take_of_length_le (by rw[mA];simp;omega)] at own;have hsm:=Ug d Q (xs.drop wh) HPQ.out (fun i=>by rw[ui];exact sa _)
      have hv:Dg.vl 65536 (low d Q (xs.drop wh))=Dg.vl 65536 xs/2^n:=by
       have:=Y8 d Q hP0 (xs.drop wh);rw[HPQ.out] at this;rw[this,aa7 65536 (by omega) xs wh (by omega) sa,Nat.div_div_eq_div_mul,HPW.out]
      have hlw:(low d Q (xs.drop wh)).length≤1000000:=by rw[mA];simp;omega
      obtain⟨ls,hls⟩: ∃ls,low d Q (xs.drop wh)=ls:=⟨_,rfl⟩;rw[hls] at own hsm hv hlw;have HV:Hid _:=hv;clear hls hv;obtain⟨oo,oc,rfl⟩:=own.rd.shape;have hF:=JH own
      go_wp2_with fail
      refine(i9 _ _ _ _ _ own.rd).mono ?_;rintro e w' ⟨m,rfl,hm,rfl⟩;have hml:=hm.1;have HF:Hid (Far w.heap.size (.slice oo m m)):=LP hF m m;clear hF;have hr2:=uE (cap':=m) 65536 (by omega) own.rd hsm hm (Nat.le_refl _) (by unfold maxLen;omega);rw[HV.out] at hr2;clear hm
      go_wp2
      go_ret
      exact⟨_,rfl,hr2,HF.out,bel⟩
theorem aA (w:World)(v0 v1 v2:Value)(ty:TypeId):Loc (w.alloc (.cells #[v0,v1,v2] ty)) w.heap.size v0 v1 v2:=by
 refine⟨by simp[World.size_alloc],⟨?_, ?_, ?_⟩, ?_, ?_, ?_⟩
 ·rw[World.cell?_alloc_at _ _ _ _ rfl];rfl
 ·rw[World.cell?_alloc_at _ _ _ _ rfl];rfl
 ·rw[World.cell?_alloc_at _ _ _ _ rfl];rfl
 ·exact World.frozen?_alloc_at _ _ _ _ rfl
 ·exact World.frozen?_alloc_at _ _ _ _ rfl
 ·exact World.frozen?_alloc_at _ _ _ _ rfl
theorem aD {w:World}{b:Nat}{v0 v1 v2:Value}(h:Loc w b v0 v1 v2)(x0 x1 x2:Value):
  Loc (((w.setCell ⟨b,0,none⟩ x0).setCell ⟨b,1,none⟩ x1).setCell ⟨b,2,none⟩ x2) b x0 x1 x2:=by
 obtain⟨hl,⟨c0,c1,c2⟩,f0,f1,f2⟩:=h;refine⟨by simpa using hl,⟨?_, ?_, ?_⟩, ?_, ?_, ?_⟩
 ·rw[World.cell?_setCell_other (h:=by simp),World.cell?_setCell_other (h:=by simp)]
  exact World.cell?_setCell_same _ _ _ c0
 ·have k1:(w.setCell ⟨b,0,none⟩ x0).cell? ⟨b,1,none⟩=some v1:=by rw[World.cell?_setCell_other (h:=by simp)];exact c1
  rw[World.cell?_setCell_other (h:=by simp)];exact World.cell?_setCell_same _ _ _ k1
 ·have k2:((w.setCell ⟨b,0,none⟩ x0).setCell ⟨b,1,none⟩ x1).cell? ⟨b,2,none⟩=some v2:=by rw[World.cell?_setCell_other (h:=by simp),World.cell?_setCell_other (h:=by simp)];exact c2
  exact World.cell?_setCell_same _ _ _ k2
 ·simpa using f0
 ·simpa using f1
 ·simpa using f2
end Go.Proofs.YtiakgfmlpdfhdaaGreatDoor

/-
  Texts laid together: Add, Plus, Minus, Cmp, Ref1, Ref2.
-/
import Derived.Deep.RegionLaw
import Derived.WalkSmall
import Derived.Test.YtpainhklfoaniaaGreatDoorSc02
set_option maxRecDepth 100000
set_option maxHeartbeats 3200000
namespace Go.Proofs.YtpainhklfoaniaaGreatDoor
open _root_.Go.Proofs.Tryz
open Go.RowKit
theorem ur (x y c:Nat)(w:World)(hx:x<4294967296)(hy:y<4294967296)(hc:c≤1):
  yC 123 #[.int .u32 x,.int .u32 y,.int .u32 c] w fun e w'=>e= .returned (.tuple #[.int .u32 ((x+y+c) % 4294967296:Nat),.int .u32 ((x+y+c)/4294967296:Nat)])∧w'=w:=by
 go_enter func123,ntmps123
 go_wp2
 go_ret2
 exact⟨by go_num,rfl⟩
def brw (x y c:Nat):Nat:=if x<y+c then 1 else 0
theorem DT (v:Nat)(h:v<4294967296):v.testBit 31=decide (2147483648≤v):=by
 rw[Nat.testBit_eq_decide_div_mod_eq]
 by_cases e:2147483648≤v
 ·rw[decide_eq_true e,decide_eq_true (by omega)]
 ·rw[decide_eq_false e,decide_eq_false (by omega)]
theorem abU (v:Nat)(h:v<4294967296):v/2147483648=(v.testBit 31).toNat:=by
 rw[DT v h]
 by_cases e:2147483648≤v
 ·rw[decide_eq_true e,Bool.toNat_true];omega
 ·rw[decide_eq_false e,Bool.toNat_false];omega
theorem QS (x y c d:Nat)(hx:x<4294967296)(hy:y<4294967296)(hc:c≤1)(hd:d=(x+4294967296-y-c) % 4294967296):
  (((4294967295^^^x)&&& y)||| ((4294967295^^^ (x^^^y))&&& d))/2147483648=brw x y c:=by
 have hdl:d<4294967296:=by omega
 have h1:(4294967295^^^x)<2^32:=Nat.xor_lt_two_pow (by omega) (by omega);have h2:(x^^^y)<2^32:=Nat.xor_lt_two_pow (by omega) (by omega);have h3:(4294967295^^^ (x^^^y))<2^32:=Nat.xor_lt_two_pow (by omega) h2;have h4:((4294967295^^^x)&&& y)<2^32:=Nat.and_lt_two_pow _ (by omega);have h5:((4294967295^^^ (x^^^y))&&& d)<2^32:=Nat.and_lt_two_pow _ (by omega);have h6:=Nat.or_lt_two_pow h4 h5;rw[abU _ (by omega)];have hM:Nat.testBit 4294967295 31=true:=by decide
 simp only[Nat.testBit_or,Nat.testBit_and,Nat.testBit_xor,hM,DT x hx,DT y hy,DT d hdl];unfold brw
 by_cases a1:2147483648≤x<;>by_cases a2:2147483648≤y<;>by_cases a3:2147483648≤d<;>by_cases a4:x<y+c<;>simp[a1,a2,a3,a4]<;>omega
theorem NE (x y c:Nat)(hx:x<4294967296)(hy:y<4294967296)(hc:c≤1):
  bits .or .u32 (bits .and .u32 (bits .xor .u32 IntKind.u32.max x) y) (bits .and .u32 (bits .xor .u32 IntKind.u32.max (bits .xor .u32 x y)) (((x:Int)-(y:Int)-(c:Int)) % 4294967296))/2147483648=((brw x y c:Nat):Int):=by
 have hM:IntKind.u32.max=((4294967295:Nat):Int):=by decide
 have hd:((x:Int)-(y:Int)-(c:Int)) % 4294967296=(((x+4294967296-y-c) % 4294967296:Nat):Int):=by omega
 have hdl:(x+4294967296-y-c) % 4294967296<4294967296:=Nat.mod_lt _ (by omega);have h1:(4294967295^^^x)<2^32:=Nat.xor_lt_two_pow (by omega) (by omega);have h2:(x^^^y)<2^32:=Nat.xor_lt_two_pow (by omega) (by omega);have h3:(4294967295^^^ (x^^^y))<2^32:=Nat.xor_lt_two_pow (by omega) h2;have h4:((4294967295^^^x)&&& y)<2^32:=Nat.and_lt_two_pow _ (by omega);have h5:((4294967295^^^ (x^^^y))&&& ((x+4294967296-y-c) % 4294967296))<2^32:=Nat.and_lt_two_pow _ (by omega);rw[hM,hd,u32_xor_nat _ _ (by omega) (by omega),u32_xor_nat _ _ (by omega) (by omega),u32_xor_nat _ _ (by omega) (by omega),u32_and_nat _ _ (by omega) (by omega),u32_and_nat _ _ (by omega) (by omega),u32_or_nat _ _ (by omega) (by omega)];rw[←QS x y c _ hx hy hc rfl];exact(Int.natCast_ediv _ _).symm
theorem zA (x y c:Nat)(w:World)(hx:x<4294967296)(hy:y<4294967296)(hc:c≤1):
  yC 168 #[.int .u32 x,.int .u32 y,.int .u32 c] w fun e w'=>e= .returned (.tuple #[.int .u32 ((x+4294967296-y-c) % 4294967296:Nat),.int .u32 ((brw x y c:Nat):Int)])∧w'=w:=by
 have hb:=NE x y c hx hy hc;have hsg: ¬IntKind.u32.signed=true:=by decide
 have hd:(((x:Int)-(y:Int)) % 4294967296-(c:Int)) % 4294967296=(((x+4294967296-y-c) % 4294967296:Nat):Int):=by omega
 obtain⟨d,ed⟩: ∃d,(x+4294967296-y-c) % 4294967296=d:=⟨_,rfl⟩;rw[ed] at hd⊢;have Hd:Hid _:=hd;clear hd ed
 go_enter func168,ntmps168
 go_wp2
 go_ret2
 exact⟨by rw[←Hd.out];rfl,rfl⟩
def Qv (xs ys ps:List Nat)(k c:Nat):Prop:=
 ps.length=xs.length+1∧Dg.Small 4294967296 ps∧c≤1∧Dg.vl 4294967296 (ps.take k)+4294967296^k*c=Dg.vl 4294967296 (xs.take k)+Dg.vl 4294967296 (ys.take k)
theorem sQ (l:List Nat)(k x:Nat)(h:k<l.length):Dg.vl 4294967296 ((l.set k x).take (k+1))=Dg.vl 4294967296 (l.take k)+4294967296^k*x:=by
 rw[Dg.vl_take_succ _ _ _ (by simpa using h),Dg.getD_set _ _ _ _ h,if_pos rfl,List.take_set_of_le (Nat.le_refl _)]
theorem pO (l:List Nat)(k:Nat):Dg.vl 4294967296 (l.take (k+1))=Dg.vl 4294967296 (l.take k)+4294967296^k*l.getD k 0:=by
 by_cases h:k<l.length
 ·exact Dg.vl_take_succ _ _ _ h
 ·rw[List.take_of_length_le (by omega),List.take_of_length_le (by omega),Dg.getD_of_le _ _ (by omega)];omega
theorem zq {xs ys ps:List Nat}{k c x y:Nat}(h:Qv xs ys ps k c)(hk:k<xs.length)(hx:xs.getD k 0=x)(hy:ys.getD k 0=y)(hxl:x<4294967296)(hyl:y<4294967296):
  Qv xs ys (ps.set k ((x+y+c) % 4294967296)) (k+1) ((x+y+c)/4294967296):=by
 obtain⟨h1,h2,h3,h4⟩:=h;refine⟨by simpa using h1,Dg.small_set h2 _ _ (Nat.mod_lt _ (by omega)),by omega, ?_⟩;rw[sQ _ _ _ (by omega),pO xs,pO ys,hx,hy];have e:4294967296^ (k+1)*((x+y+c)/4294967296)=4294967296^k*(4294967296*((x+y+c)/4294967296)):=by rw[Nat.pow_succ,Nat.mul_assoc]
 have e2:4294967296^k*(x+y+c)=4294967296^k*((x+y+c) % 4294967296)+4294967296^k*(4294967296*((x+y+c)/4294967296)):=by
  rw[←Nat.mul_add,Nat.mod_add_div]
 have e3:4294967296^k*(x+y+c)=4294967296^k*x+4294967296^k*y+4294967296^k*c:=by rw[Nat.mul_add,Nat.mul_add]
 rw[e];omega
theorem Nc {xs ys ps:List Nat}{c:Nat}(h:Qv xs ys ps xs.length c)(hl:ys.length≤xs.length):(ps.set xs.length c).length=xs.length+1∧Dg.Small 4294967296 (ps.set xs.length c)∧Dg.vl 4294967296 (ps.set xs.length c)=Dg.vl 4294967296 xs+Dg.vl 4294967296 ys:=by
 obtain⟨h1,h2,h3,h4⟩:=h;refine⟨by simpa using h1,Dg.small_set h2 _ _ (by omega), ?_⟩;have:=sQ ps xs.length c (by omega);rw[List.take_of_length_le (by simp;omega)] at this;rw[this];rw[List.take_of_length_le (Nat.le_refl xs.length),List.take_of_length_le hl] at h4;omega
theorem abc (va vb:Value)(xs ys:List Nat)(w:World)(ha:Rd w .u32 va xs)(hb:Rd w .u32 vb ys)(sa:Dg.Small 4294967296 xs)(sb:Dg.Small 4294967296 ys)(hla:xs.length≤1000000)(hlb:ys.length≤xs.length):
  yC 92 #[va,vb] w (Num w (Dg.vl 4294967296 xs+Dg.vl 4294967296 ys)):=by
 obtain⟨i0,hi,hz0,hz1,hz2⟩:=info_parts Tryz.infoU32;obtain⟨ao,ca,rfl,-,-,hca⟩:=ha;obtain⟨bo,cb,rfl,-,-,hcb⟩:=hb
 go_enter func92,ntmps92
 go_wp2_with (at_make;refine wpList_make_full _ rfl _ _ 106 rfl w.heap.size 108 i0 (.int .u32 0) 1 underlying106 hi hz0 hz1 _ _ _ _ (xs.length+1) rfl rfl (by omega) (by omega) ?b2 ?b3 (Nat.le_refl _) ?_)
 case b2=>rw[hz2];omega
 case b3=>unfold maxLen;omega
 intro w0 hown0 hgrow0;have own0:=gL hown0;have bel0:yB w w0:=(Below.refl _ _).grown hgrow0 (Nat.le_refl _) (fun k h=>by cases h)
 clear hown0 hgrow0
 go_wp2
 go_loopw [6,23] (fun cv kv wr=> ∃(k c:Nat) (ps:List Nat),k≤ys.length∧kv=yi k∧cv= .int .u32 c∧Own wr w.heap.size 108 .u32 (.slice (some ⟨w.heap.size,0,none⟩) (xs.length+1) (xs.length+1)) ps∧Qv xs ys ps k c∧yB w wr)
  (fun _ kv _=>ys.length-(intOf kv).toNat)
 case atStart=>exact⟨0,0,_,Nat.zero_le _,rfl,rfl,own0,⟨by simp,Dg.small_replicate _ _ (by omega),by omega,by simp[Dg.vl]⟩,bel0⟩
 case round=>
  clear own0 bel0;obtain⟨k,c,ps,hkl,rfl,rfl,own,hI,bel⟩:=hrel;have hpl:=hI.1;have hcl:=hI.2.2.1
  by_cases hlt:k<ys.length
  ·obtain⟨b,off,rfl,hcell⟩:=hca (by omega)
   obtain⟨b2,off2,rfl,hcell2⟩:=hcb (by omega);have hx:=cell_later bel (hcell k (by omega));have hy:=cell_later bel (hcell2 k (by omega));have hp:=own.c k (by omega);have hf:=own.f k;have hxl:=sa k;have hyl:=sb k;obtain⟨x,ex⟩: ∃x,xs.getD k 0=x:=⟨_,rfl⟩;obtain⟨y,ey⟩: ∃y,ys.getD k 0=y:=⟨_,rfl⟩;have hst:=zq hI (by omega) ex ey (by omega) (by omega);rw[ex] at hx hxl;rw[ey] at hy hyl;clear ex ey hcell hcell2 hca hcb
   go_wp2_with fail
   refine(ur x y c _ hxl hyl hcl).mono ?_;rintro e w' ⟨rfl,rfl⟩
   go_wp2
   go_roundw
   case rel=>exact⟨k+1,_,_,by omega,by go_num,rfl,own.store k _,hst,bel.setCell (by exact Nat.le_refl _) _⟩
   case measure=>simp[intOf];omega
  ·have hk:k=ys.length:=by omega
   subst hk
   go_wp2
   go_loopw [6,9] (fun cv kv wr=> ∃(k c:Nat) (ps:List Nat),ys.length≤k∧k≤xs.length∧kv=yi k∧cv= .int .u32 c∧Own wr w.heap.size 108 .u32 (.slice (some ⟨w.heap.size,0,none⟩) (xs.length+1) (xs.length+1)) ps∧Qv xs ys ps k c∧yB w wr)
    (fun _ kv _=>xs.length-(intOf kv).toNat)
   case atStart=>exact⟨ys.length,c,ps,Nat.le_refl _,by omega,rfl,rfl,own,hI,bel⟩
   case round=>
    clear own hI bel hpl hcl;obtain⟨k,c,ps,hky,hkl,rfl,rfl,own,hI,bel⟩:=hrel;have hpl:=hI.1;have hcl:=hI.2.2.1
    by_cases hlt:k<xs.length
    ·obtain⟨b,off,rfl,hcell⟩:=hca (by omega)
     have hx:=cell_later bel (hcell k (by omega));have hp:=own.c k (by omega);have hf:=own.f k;have hxl:=sa k;obtain⟨x,ex⟩: ∃x,xs.getD k 0=x:=⟨_,rfl⟩;have hst:=zq hI (by omega) ex (Dg.getD_of_le ys k hky) (by omega) (by omega);rw[ex] at hx hxl;clear ex hcell hca hcb
     go_wp2_with fail
     refine(ur x 0 c _ hxl (by omega) hcl).mono ?_;rintro e w' ⟨rfl,rfl⟩
     go_wp2
     go_roundw
     case rel=>exact⟨k+1,_,_,by omega,by omega,by go_num,rfl,own.store k _,hst,bel.setCell (by exact Nat.le_refl _) _⟩
     case measure=>simp[intOf];omega
    ·have hk:k=xs.length:=by omega
     subst hk;have hp:=own.c xs.length (by omega);have hf:=own.f xs.length;have hen:=Nc hI (by omega);have own2:=own.store xs.length c;have bel2:=bel.setCell (p:=⟨w.heap.size,xs.length,none⟩) (by exact Nat.le_refl _) (.int .u32 c);have rd:=own2.rd
     go_wp2_with fail
     refine(jD _ _ _ _ _ rd).mono ?_;rintro e w' ⟨m,rfl,hm,rfl⟩;have ht:=jW 4294967296 (by omega) own2 hen.2.1 hm;rw[hen.2.2] at ht;clear rd own2 hen hp hf own
     go_wp2
     go_ret
     exact⟨_,rfl,ht,bel2⟩
theorem abd (va vb:Value)(xs ys:List Nat)(w:World)(ha:Rd w .u32 va xs)(hb:Rd w .u32 vb ys)(sa:Dg.Small 4294967296 xs)(sb:Dg.Small 4294967296 ys)(hla:xs.length≤1000000)(hlb:ys.length<xs.length):
  yC 92 #[vb,va] w (Num w (Dg.vl 4294967296 xs+Dg.vl 4294967296 ys)):=by
 obtain⟨i0,hi,hz0,hz1,hz2⟩:=info_parts Tryz.infoU32;obtain⟨ao,ca,rfl,-,-,hca⟩:=ha;obtain⟨bo,cb,rfl,-,-,hcb⟩:=hb
 go_enter func92,ntmps92
 go_wp2_with (at_make;refine wpList_make_full _ rfl _ _ 106 rfl w.heap.size 108 i0 (.int .u32 0) 1 underlying106 hi hz0 hz1 _ _ _ _ (xs.length+1) rfl rfl (by omega) (by omega) ?b2 ?b3 (Nat.le_refl _) ?_)
 case b2=>rw[hz2];omega
 case b3=>unfold maxLen;omega
 intro w0 hown0 hgrow0;have own0:=gL hown0;have bel0:yB w w0:=(Below.refl _ _).grown hgrow0 (Nat.le_refl _) (fun k h=>by cases h)
 clear hown0 hgrow0
 go_wp2
 go_loopw [6,23] (fun cv kv wr=> ∃(k c:Nat) (ps:List Nat),k≤ys.length∧kv=yi k∧cv= .int .u32 c∧Own wr w.heap.size 108 .u32 (.slice (some ⟨w.heap.size,0,none⟩) (xs.length+1) (xs.length+1)) ps∧Qv xs ys ps k c∧yB w wr)
  (fun _ kv _=>ys.length-(intOf kv).toNat)
 case atStart=>exact⟨0,0,_,Nat.zero_le _,rfl,rfl,own0,⟨by simp,Dg.small_replicate _ _ (by omega),by omega,by simp[Dg.vl]⟩,bel0⟩
 case round=>
  clear own0 bel0;obtain⟨k,c,ps,hkl,rfl,rfl,own,hI,bel⟩:=hrel;have hpl:=hI.1;have hcl:=hI.2.2.1
  by_cases hlt:k<ys.length
  ·obtain⟨b,off,rfl,hcell⟩:=hca (by omega)
   obtain⟨b2,off2,rfl,hcell2⟩:=hcb (by omega);have hx:=cell_later bel (hcell k (by omega));have hy:=cell_later bel (hcell2 k (by omega));have hp:=own.c k (by omega);have hf:=own.f k;have hxl:=sa k;have hyl:=sb k;obtain⟨x,ex⟩: ∃x,xs.getD k 0=x:=⟨_,rfl⟩;obtain⟨y,ey⟩: ∃y,ys.getD k 0=y:=⟨_,rfl⟩;have hst:=zq hI (by omega) ex ey (by omega) (by omega);rw[ex] at hx hxl;rw[ey] at hy hyl;clear ex ey hcell hcell2 hca hcb
   go_wp2_with fail
   refine(ur x y c _ hxl hyl hcl).mono ?_;rintro e w' ⟨rfl,rfl⟩
   go_wp2
   go_roundw
   case rel=>exact⟨k+1,_,_,by omega,by go_num,rfl,own.store k _,hst,bel.setCell (by exact Nat.le_refl _) _⟩
   case measure=>simp[intOf];omega
  ·have hk:k=ys.length:=by omega
   subst hk
   go_wp2
   go_loopw [6,9] (fun cv kv wr=> ∃(k c:Nat) (ps:List Nat),ys.length≤k∧k≤xs.length∧kv=yi k∧cv= .int .u32 c∧Own wr w.heap.size 108 .u32 (.slice (some ⟨w.heap.size,0,none⟩) (xs.length+1) (xs.length+1)) ps∧Qv xs ys ps k c∧yB w wr)
    (fun _ kv _=>xs.length-(intOf kv).toNat)
   case atStart=>exact⟨ys.length,c,ps,Nat.le_refl _,by omega,rfl,rfl,own,hI,bel⟩
   case round=>
    clear own hI bel hpl hcl;obtain⟨k,c,ps,hky,hkl,rfl,rfl,own,hI,bel⟩:=hrel;have hpl:=hI.1;have hcl:=hI.2.2.1
    by_cases hlt:k<xs.length
    ·obtain⟨b,off,rfl,hcell⟩:=hca (by omega)
     have hx:=cell_later bel (hcell k (by omega));have hp:=own.c k (by omega);have hf:=own.f k;have hxl:=sa k;obtain⟨x,ex⟩: ∃x,xs.getD k 0=x:=⟨_,rfl⟩;have hst:=zq hI (by omega) ex (Dg.getD_of_le ys k hky) (by omega) (by omega);rw[ex] at hx hxl;clear ex hcell hca hcb
     go_wp2_with fail
     refine(ur x 0 c _ hxl (by omega) hcl).mono ?_;rintro e w' ⟨rfl,rfl⟩
     go_wp2
     go_roundw
     case rel=>exact⟨k+1,_,_,by omega,by omega,by go_num,rfl,own.store k _,hst,bel.setCell (by exact Nat.le_refl _) _⟩
     case measure=>simp[intOf];omega
    ·have hk:k=xs.length:=by omega
     subst hk;have hp:=own.c xs.length (by omega);have hf:=own.f xs.length;have hen:=Nc hI (by omega);have own2:=own.store xs.length c;have bel2:=bel.setCell (p:=⟨w.heap.size,xs.length,none⟩) (by exact Nat.le_refl _) (.int .u32 c);have rd:=own2.rd
     go_wp2_with fail
     refine(jD _ _ _ _ _ rd).mono ?_;rintro e w' ⟨m,rfl,hm,rfl⟩;have ht:=jW 4294967296 (by omega) own2 hen.2.1 hm;rw[hen.2.2] at ht;clear rd own2 hen hp hf own
     go_wp2
     go_ret
     exact⟨_,rfl,ht,bel2⟩
theorem rj (va vb:Value)(xs ys:List Nat)(w:World)(ha:Rd w .u32 va xs)(hb:Rd w .u32 vb ys)(sa:Dg.Small 4294967296 xs)(sb:Dg.Small 4294967296 ys)(hla:xs.length≤1000000)(hlb:ys.length≤1000000):
  yC 92 #[va,vb] w (Num w (Dg.vl 4294967296 xs+Dg.vl 4294967296 ys)):=by
 by_cases h:ys.length≤xs.length
 ·exact abc va vb xs ys w ha hb sa sb hla h
 ·rw[Nat.add_comm]
  exact abd vb va ys xs w hb ha sb sa hlb (by omega)
def Z7 (xs ys ps:List Nat)(k c:Nat):Prop:=
 ps.length=xs.length∧Dg.Small 4294967296 ps∧c≤1∧Dg.vl 4294967296 (xs.take k)+4294967296^k*c=Dg.vl 4294967296 (ps.take k)+Dg.vl 4294967296 (ys.take k)
theorem RN (x y c:Nat):brw x y c≤1:=by unfold brw;split<;>omega
theorem Jq {xs ys ps:List Nat}{k c x y:Nat}(h:Z7 xs ys ps k c)(hk:k<xs.length)(hx:xs.getD k 0=x)(hy:ys.getD k 0=y)(hxl:x<4294967296)(hyl:y<4294967296):
  Z7 xs ys (ps.set k ((x+4294967296-y-c) % 4294967296)) (k+1) (brw x y c):=by
 obtain⟨h1,h2,h3,h4⟩:=h;refine⟨by simpa using h1,Dg.small_set h2 _ _ (Nat.mod_lt _ (by omega)),RN _ _ _, ?_⟩;rw[sQ _ _ _ (by omega),pO xs,pO ys,hx,hy];have e:x+4294967296*brw x y c=(x+4294967296-y-c) % 4294967296+y+c:=by unfold brw;split<;>omega
 have e2:4294967296^k*(x+4294967296*brw x y c)=4294967296^k*((x+4294967296-y-c) % 4294967296+y+c):=by rw[e]
 have e3:4294967296^ (k+1)*brw x y c=4294967296^k*(4294967296*brw x y c):=by rw[Nat.pow_succ,Nat.mul_assoc]
 rw[Nat.mul_add,Nat.mul_add,Nat.mul_add] at e2;rw[e3];omega
theorem Z8 {xs ys ps:List Nat}{c:Nat}(h:Z7 xs ys ps xs.length c)(hl:ys.length≤xs.length)(hv:Dg.vl 4294967296 ys≤Dg.vl 4294967296 xs):Dg.vl 4294967296 ps=Dg.vl 4294967296 xs-Dg.vl 4294967296 ys:=by
 obtain⟨h1,h2,h3,h4⟩:=h;rw[List.take_of_length_le (Nat.le_refl xs.length),List.take_of_length_le hl,List.take_of_length_le (by omega)] at h4;have hlt:=Dg.vl_lt 4294967296 ps h2;rw[h1] at hlt;have hc:c=0:=by
  rcases Nat.eq_zero_or_pos c with e|e
  ·exact e
  ·have:c=1:=by omega
   subst this;omega
 subst hc;omega
theorem zL (va vb:Value)(xs ys:List Nat)(w:World)(ha:Rd w .u32 va xs)(hb:Rd w .u32 vb ys)(sa:Dg.Small 4294967296 xs)(sb:Dg.Small 4294967296 ys)(hla:xs.length≤1000000)(hlb:ys.length≤xs.length)(hv:Dg.vl 4294967296 ys≤Dg.vl 4294967296 xs):
  yC 159 #[va,vb] w (Num w (Dg.vl 4294967296 xs-Dg.vl 4294967296 ys)):=by
 obtain⟨i0,hi,hz0,hz1,hz2⟩:=info_parts Tryz.infoU32;obtain⟨ao,ca,rfl,-,-,hca⟩:=ha;obtain⟨bo,cb,rfl,-,-,hcb⟩:=hb;have HV:Hid _:=hv;clear hv
 go_enter func159,ntmps159
 go_wp2_with (at_make;refine wpList_make_full _ rfl _ _ 106 rfl w.heap.size 108 i0 (.int .u32 0) 1 underlying106 hi hz0 hz1 _ _ _ _ xs.length rfl rfl (by omega) (by omega) ?b2 ?b3 (Nat.le_refl _) ?_)
 case b2=>rw[hz2];omega
 case b3=>unfold maxLen;omega
 intro w0 hown0 hgrow0;have own0:=gL hown0;have bel0:yB w w0:=(Below.refl _ _).grown hgrow0 (Nat.le_refl _) (fun k h=>by cases h)
 clear hown0 hgrow0
 go_wp2
 go_loopw [6,15] (fun cv kv wr=> ∃(k c:Nat) (ps:List Nat),k≤ys.length∧kv=yi k∧cv= .int .u32 c∧Own wr w.heap.size 108 .u32 (.slice (some ⟨w.heap.size,0,none⟩) xs.length xs.length) ps∧Z7 xs ys ps k c∧yB w wr)
  (fun _ kv _=>ys.length-(intOf kv).toNat)
 case atStart=>exact⟨0,0,_,Nat.zero_le _,rfl,rfl,own0,⟨by simp,Dg.small_replicate _ _ (by omega),by omega,by simp[Dg.vl]⟩,bel0⟩
 case round=>
  clear own0 bel0;obtain⟨k,c,ps,hkl,rfl,rfl,own,hI,bel⟩:=hrel;have hpl:=hI.1;have hcl:=hI.2.2.1
  by_cases hlt:k<ys.length
  ·obtain⟨b,off,rfl,hcell⟩:=hca (by omega)
   obtain⟨b2,off2,rfl,hcell2⟩:=hcb (by omega);have hx:=cell_later bel (hcell k (by omega));have hy:=cell_later bel (hcell2 k (by omega));have hp:=own.c k (by omega);have hf:=own.f k;have hxl:=sa k;have hyl:=sb k;obtain⟨x,ex⟩: ∃x,xs.getD k 0=x:=⟨_,rfl⟩;obtain⟨y,ey⟩: ∃y,ys.getD k 0=y:=⟨_,rfl⟩;have hst:=Jq hI (by omega) ex ey (by omega) (by omega);rw[ex] at hx hxl;rw[ey] at hy hyl;clear ex ey hcell hcell2 hca hcb
   go_wp2_with fail
   refine(zA x y c _ hxl hyl hcl).mono ?_;rintro e w' ⟨rfl,rfl⟩
   go_wp2
   go_roundw
   case rel=>exact⟨k+1,_,_,by omega,by go_num,rfl,own.store k _,hst,bel.setCell (by exact Nat.le_refl _) _⟩
   case measure=>simp[intOf];omega
  ·have hk:k=ys.length:=by omega
   subst hk
   go_wp2
   go_loopw [6,9] (fun cv kv wr=> ∃(k c:Nat) (ps:List Nat),ys.length≤k∧k≤xs.length∧kv=yi k∧cv= .int .u32 c∧Own wr w.heap.size 108 .u32 (.slice (some ⟨w.heap.size,0,none⟩) xs.length xs.length) ps∧Z7 xs ys ps k c∧yB w wr)
    (fun _ kv _=>xs.length-(intOf kv).toNat)
   case atStart=>exact⟨ys.length,c,ps,Nat.le_refl _,by omega,rfl,rfl,own,hI,bel⟩
   case round=>
    clear own hI bel hpl hcl;obtain⟨k,c,ps,hky,hkl,rfl,rfl,own,hI,bel⟩:=hrel;have hpl:=hI.1;have hcl:=hI.2.2.1
    by_cases hlt:k<xs.length
    ·obtain⟨b,off,rfl,hcell⟩:=hca (by omega)
     have hx:=cell_later bel (hcell k (by omega));have hp:=own.c k (by omega);have hf:=own.f k;have hxl:=sa k;obtain⟨x,ex⟩: ∃x,xs.getD k 0=x:=⟨_,rfl⟩;have hst:=Jq hI (by omega) ex (Dg.getD_of_le ys k hky) (by omega) (by omega);rw[ex] at hx hxl;clear ex hcell hca hcb
     go_wp2_with fail
     refine(zA x 0 c _ hxl (by omega) hcl).mono ?_;rintro e w' ⟨rfl,rfl⟩
     go_wp2
     go_roundw
     case rel=>exact⟨k+1,_,_,by omega,by omega,by go_num,rfl,own.store k _,hst,bel.setCell (by exact Nat.le_refl _) _⟩
     case measure=>simp[intOf];omega
    ·have hk:k=xs.length:=by omega
     subst hk;have hen:=Z8 hI (by omega) HV.out;have rd:=own.rd
     go_wp2_with fail
     refine(jD _ _ _ _ _ rd).mono ?_;rintro e w' ⟨m,rfl,hm,rfl⟩;have ht:=jW 4294967296 (by omega) own hI.2.1 hm;rw[hen] at ht;clear rd hen own
     go_wp2
     go_ret
     exact⟨_,rfl,ht,bel⟩
theorem gX {a b:Int}(h:a<b):dm a b= -1:=by unfold dm;rw[if_pos h]
theorem sO {a b:Int}(h:b<a):dm a b=1:=by unfold dm;rw[if_neg (by omega),if_pos h]
theorem Bh (a:Int):dm a a=0:=by unfold dm;rw[if_neg (by omega),if_neg (by omega)]
theorem jF (va vb:Value)(xs ys:List Nat)(w:World)(ha:Rd w .u32 va xs)(hb:Rd w .u32 vb ys)(sa:Dg.Small 4294967296 xs)(sb:Dg.Small 4294967296 ys)(na:Dg.Norm xs)(nb:Dg.Norm ys):
  yC 119 #[va,vb] w (yR w (yi (dm (Dg.vl 4294967296 xs) (Dg.vl 4294967296 ys)))):=by
 obtain⟨ao,ca,rfl,hla,hma,hca⟩:=ha;obtain⟨bo,cb,rfl,hlb,hmb,hcb⟩:=hb;unfold maxLen at hma hmb;obtain⟨r,hr⟩: ∃r,dm (Dg.vl 4294967296 xs) (Dg.vl 4294967296 ys)=r:=⟨_,rfl⟩;have hc0:=AM (xs.length:Int) (ys.length:Int) w
 by_cases h1:xs.length<ys.length
 ·have hv:=Dg.vl_lt_of_len 4294967296 (by omega) xs ys sa nb h1
  rw[gX (by omega)] at hr;subst hr;rw[gX (by omega)] at hc0;rw[gX (by omega)]
  go_enter func119,ntmps119
  go_wp2_with fail
  refine hc0.mono ?_;rintro e w' ⟨rfl,rfl⟩
  go_wp2
  go_ret
  exact⟨rfl,Below.refl _ _⟩
 ·by_cases h2:ys.length<xs.length
  ·have hv:=Dg.vl_lt_of_len 4294967296 (by omega) ys xs sb na h2
   rw[sO (by omega)] at hc0;rw[sO (by omega)];clear hr
   go_enter func119,ntmps119
   go_wp2_with fail
   refine hc0.mono ?_;rintro e w' ⟨rfl,rfl⟩
   go_wp2
   go_ret
   exact⟨rfl,Below.refl _ _⟩
  ·have hle:xs.length=ys.length:=by omega
   rw[hle,Bh] at hc0;rw[hr];have HR:Hid _:=hr;have HL:Hid _:=hle;rw[hle] at hla hca⊢;clear hr hle h1 h2
   go_enter func119,ntmps119
   go_wp2_with fail
   refine hc0.mono ?_;rintro e w' ⟨rfl,rfl⟩;clear hc0
   go_wp2
   go_loopw [6] (fun iv wr=> ∃k:Nat,k≤ys.length∧iv=yi ((k:Int)-1)∧Hid (∀j,k≤j→xs.getD j 0=ys.getD j 0)∧Below w'.heap.size w' wr) (fun iv _=>(intOf iv+1).toNat)
   case atStart=>exact⟨ys.length,Nat.le_refl _,rfl,fun j hj=>by rw[Dg.getD_of_le xs j (by rw[HL.out];exact hj),Dg.getD_of_le ys j hj],Below.refl _ _⟩
   case round=>
    obtain⟨k,hk,rfl,hall,bel⟩:=hrel
    by_cases hk0:k=0
    ·subst hk0
     have he:=Dg.eq_of_all xs ys HL.out (fun j=>hall j (by omega))
     have hr0:r=0:=by rw[←HR.out,he,Bh]
     subst hr0;clear he
     go_wp2
     go_ret
     exact⟨rfl,bel⟩
    ·obtain⟨m,rfl⟩: ∃m,k=m+1:=⟨k-1,by omega⟩
     obtain⟨b,off,rfl,hcell⟩:=hca (by omega);obtain⟨b2,off2,rfl,hcell2⟩:=hcb (by omega);have hx:=cell_later bel (hcell m (by omega));have hy:=cell_later bel (hcell2 m (by omega));have hst:xs.getD m 0<ys.getD m 0→dm (Dg.vl 4294967296 xs) (Dg.vl 4294967296 ys)= -1:=fun h=>
      gX (by have:=Dg.vl_lt_of_digit 4294967296 xs ys m HL.out (by rw[HL.out];omega) hall h sa;omega)
     have hst2:ys.getD m 0<xs.getD m 0→dm (Dg.vl 4294967296 xs) (Dg.vl 4294967296 ys)=1:=fun h=>
      sO (by have:=Dg.vl_lt_of_digit 4294967296 ys xs m HL.out.symm (by omega) (fun j hj=>(hall j hj).symm) h sb;omega)
     rw[HR.out] at hst hst2;obtain⟨x,ex⟩: ∃x,xs.getD m 0=x:=⟨_,rfl⟩;obtain⟨y,ey⟩: ∃y,ys.getD m 0=y:=⟨_,rfl⟩;have HX:Hid _:=ex;have HY:Hid _:=ey;rw[ex] at hx hst hst2;rw[ey] at hy hst hst2;clear ex ey hcell hcell2 hca hcb;have hcm:=fun wx=>RF (x:Int) (y:Int) wx
     have hmI:((m+1:Nat):Int)-1=(m:Int):=by omega
     by_cases hxy:x<y
     ·have hr1:=hst hxy
      subst hr1;rw[gX (by omega)] at hcm;clear hst hst2
      go_wp2
      go_quiet ((go_at_call 148;exact Calls.quiet_of_same (hcm _)))
      go_wp2
      go_ret
      exact⟨rfl,aL bel _⟩
     ·by_cases hyx:y<x
      ·have hr1:=hst2 hyx
       subst hr1;rw[sO (by omega)] at hcm;clear hst hst2
       go_wp2
       go_quiet ((go_at_call 148;exact Calls.quiet_of_same (hcm _)))
       go_wp2
       go_ret
       exact⟨rfl,aL bel _⟩
      ·have hxe:x=y:=by omega
       subst hxe;rw[Bh] at hcm;clear hst hst2
       go_wp2
       go_quiet ((go_at_call 148;exact Calls.quiet_of_same (hcm _)))
       go_wp2
       go_roundw
       case rel=>exact⟨m,by omega,by go_num,fun j hj=>by
        by_cases e:j=m
        ·rw[e];exact HX.out.trans HY.out.symm
        ·exact hall j (by omega),aL bel _⟩
       case measure=>simp[intOf]
theorem Tryz.infoI64:(Tryz.prog.info? 3).map (fun i=>(i.zero,i.size,i.bytes))=some (some (.int .i64 0),1,8):=by kernel_rfl
def cG (w:World)(n:Nat)(e:Ending)(w':World):Prop:=
 ∃v,e= .returned v∧Rd w' .i64 v (Dg.dg 65536 n)∧yB w w'
def Far (B:Nat)(v:Value):Prop:= ∀a n c,v= .slice (some a) n c→B≤a.block
theorem JH {w:World}{base e:Nat}{k:IntKind}{v:Value}{zs:List Nat}(h:Own w base e k v zs):Far base v:=fun a n c hv=>by
 rcases h.2 with⟨e1,_⟩| ⟨g,cap,cur,e1,hg,_⟩
 ·rw[e1] at hv;cases hv
 ·rw[e1] at hv
  cases hv
  exact hg
theorem LP {B:Nat}{oo:Option Addr}{n c:Nat}(h:Far B (.slice oo n c))(n' c':Nat):Far B (.slice oo n' c'):=fun a m d hv=>by
 cases hv
 exact h a n c rfl
theorem Rd.set_far {w:World}{k:IntKind}{v:Value}{zs:List Nat}{B g j:Nat}(h:Rd w k v zs)(hf:Far B v)(hg:g<B)(x:Value):Rd (w.setCell ⟨g,j,none⟩ x) k v zs:=by
 obtain⟨ao,cap,rfl,h1,h2,h3⟩:=h;refine⟨ao,cap,rfl,h1,h2,fun h0=> ?_⟩
 obtain⟨b,off,rfl,hc⟩:=h3 h0;have:=hf _ _ _ rfl;refine⟨b,off,rfl,fun i hi=> ?_⟩
 rw[World.cell?_setCell_other (h:=by simp;intro e;simp at this;omega)];exact hc i hi
def Si (w:World)(n:Nat)(e:Ending)(w':World):Prop:=
 ∃v,e= .returned v∧Rd w' .i64 v (Dg.dg 65536 n)∧Far w.heap.size v∧yB w w'
theorem Far.mono {B B':Nat}{v:Value}(h:Far B v)(hb:B'≤B):Far B' v:=fun a n c hv=>Nat.le_trans hb (h a n c hv)
theorem uE {w:World}{k:IntKind}{ao:Option Addr}{len cap n cap':Nat}{zs:List Nat}(B:Nat)(hB:2≤B)(h:Rd w k (.slice ao len cap) zs)(hs:Dg.Small B zs)(ht:Ou zs n)(hc:n≤cap')(hc2:cap'≤maxLen):
  Rd w k (.slice ao n cap') (Dg.dg B (Dg.vl B zs)):=by
 have hl:=wn h;subst hl;obtain⟨h1,h2,h3⟩:=iQ h;rw[←Dg.trim_eq B hB zs n hs ht.1 ht.2.1 ht.2.2];have hn:=ht.1;have hl:(zs.take n).length=n:=by simp;omega
 refine⟨ao,cap',by rw[hl],by rw[hl];exact hc,hc2,fun hp=> ?_⟩
 rw[hl] at hp;obtain⟨b,off,ha,hcell⟩:=h3 (by omega);refine⟨b,off,ha,fun i hi=> ?_⟩
 rw[hl] at hi;rw[hcell i (by omega),Dg.getD_take _ _ _ hi]
theorem iV (B:Nat)(l:List Nat)(k:Nat):Dg.vl B (l.take (k+1))=Dg.vl B (l.take k)+B^k*l.getD k 0:=by
 by_cases h:k<l.length
 ·exact Dg.vl_take_succ _ _ _ h
 ·rw[List.take_of_length_le (by omega),List.take_of_length_le (by omega),Dg.getD_of_le _ _ (by omega)];omega
theorem JJ (k:Nat):(65536:Nat)^ (2*k)=4294967296^k:=by rw[Nat.pow_mul]
theorem iW {w wr w3:World}{e x:Nat}{k:IntKind}{es:List Nat}{lv v':Value}(bel:yB w wr)(ownL:Own wr w.heap.size e k lv es)
  (hown':w3.ownsRow w.heap.size e 1 v' (es.length+1) ((es.map (fun n:Nat=>Value.int k (n:Int)))++[.int k x]))
  (hgrow:(wr.alloc (.cells #[.int k x] e)).grownBy w3 lv.ownBlock):
  Own w3 w.heap.size e k v' (es++[x])∧yB w w3:=by
 have b1:yB wr (wr.alloc (.cells #[.int k x] e)):=(Below.refl _ _).alloc (Nat.le_refl _) _;refine⟨?_, ?_⟩
 ·unfold Own
  simpa using hown'
 ·refine(aa bel b1).grown hgrow (Nat.le_trans bel.size b1.size) (fun k hk=> ?_)
  exact(World.ownsRow.lt ownL k hk).1
end Go.Proofs.YtpainhklfoaniaaGreatDoor

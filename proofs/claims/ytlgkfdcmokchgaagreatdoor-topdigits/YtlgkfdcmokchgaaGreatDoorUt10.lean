/-
  Texts laid together: Dz, Plus, Minus, Ref2, Ref5, Ref6, Dy2, Read2, Co1, Co6, Co3, Co14, Co19, Co11, Co20, Co21, Gm2, Co17, Co18, Ref7, Cr1, Gn2, Gk3, Ce3, Ce4, Em1, Ef2, Cr11, Eg2, Eb2, Eb3, Nx2, Rk1, Pa1, Tx6, Ty4, Ty6, Ty9, Ty10, Laws6, Tx27, Ty11, Eh1, Cv10.
-/
import Derived.Test.YtlgkfdcmokchgaaGreatDoorUt02
import Derived.Test.YtlgkfdcmokchgaaGreatDoorUt03
import Derived.Test.YtlgkfdcmokchgaaGreatDoorUt05
import Derived.Test.YtlgkfdcmokchgaaGreatDoorUt06
set_option maxRecDepth 100000
set_option maxHeartbeats 3200000
namespace Go.Proofs.YtlgkfdcmokchgaaGreatDoor
open _root_.Go.Proofs.Tryz
open Go.RowKit
theorem Y6 (s t:Bool)(x y:Nat):sz s x+sz t y=if s=t then sz s (x+y) else if x<y then sz t (y-x) else sz s (x-y):=by
 unfold sz
 cases s<;>cases t<;>simp<;>(try split)<;>omega
theorem abc (va vb:Value)(xs ys:List Nat)(w:World)(ha:Rd w .u32 va xs)(hb:Rd w .u32 vb ys)(sa:Dg.Small 4294967296 xs)(sb:Dg.Small 4294967296 ys)(hla:xs.length≤1000000)(hlb:ys.length≤xs.length):
  yC 82 #[va,vb] w (Num w (Dg.vl 4294967296 xs+Dg.vl 4294967296 ys)):=by
 obtain⟨i0,hi,hz0,hz1,hz2⟩:=info_parts Tryz.infoU32;obtain⟨ao,ca,rfl,-,-,hca⟩:=ha;obtain⟨bo,cb,rfl,-,-,hcb⟩:=hb
 go_enter func82,ntmps82
 go_wp2_with (at_make;refine wpList_make_full _ rfl _ _ 57 rfl w.heap.size 54 i0 (.int .u32 0) 1 underlying57 hi hz0 hz1 _ _ _ _ (xs.length+1) rfl rfl (by omega) (by omega) ?b2 ?b3 (Nat.le_refl _) ?_)
 case b2=>rw[hz2];omega
 case b3=>unfold maxLen;omega
 intro w0 hown0 hgrow0;have own0:=gL hown0;have bel0:yB w w0:=(Below.refl _ _).grown hgrow0 (Nat.le_refl _) (fun k h=>by cases h)
 clear hown0 hgrow0
 go_wp2
 go_loopw [6,23] (fun cv kv wr=> ∃(k c:Nat) (ps:List Nat),k≤ys.length∧kv=yi k∧cv= .int .u32 c∧Own wr w.heap.size 54 .u32 (.slice (some ⟨w.heap.size,0,none⟩) (xs.length+1) (xs.length+1)) ps∧Qv xs ys ps k c∧yB w wr)
  (fun _ kv _=>ys.length-(intOf kv).toNat)
 case atStart=>exact⟨0,0,_,Nat.zero_le _,rfl,rfl,own0,⟨by simp,Dg.small_replicate _ _ (by omega),by omega,by simp[Dg.vl]⟩,bel0⟩
 case round=>
  clear own0 bel0;obtain⟨k,c,ps,hkl,rfl,rfl,own,hI,bel⟩:=hrel;have hpl:=hI.1;have hcl:=hI.2.2.1
  by_cases hlt:k<ys.length
  ·obtain⟨b,off,rfl,hcell⟩:=hca (by omega)
   obtain⟨b2,off2,rfl,hcell2⟩:=hcb (by omega);have hx:=cell_later bel (hcell k (by omega));have hy:=cell_later bel (hcell2 k (by omega));have hp:=own.c k (by omega);have hf:=own.f k;have hxl:=sa k;have hyl:=sb k;obtain⟨x,ex⟩: ∃x,xs.getD k 0=x:=⟨_,rfl⟩;obtain⟨y,ey⟩: ∃y,ys.getD k 0=y:=⟨_,rfl⟩;have hst:=zq hI (by omega) ex ey (by omega) (by omega);rw[ex] at hx hxl;rw[ey] at hy hyl;clear ex ey hcell hcell2 hca hcb
   go_wp2_with fail
   refine(ur x y c _ hxl hyl hcl).mono ?_;rintro e w' ⟨rfl,rfl⟩
   go_wp2
   go_roundw
   case rel=>exact⟨k+1,_,_,by omega,by go_num,rfl,own.store k _,hst,bel.setCell (by exact Nat.le_refl _) _⟩
   case measure=>simp[intOf];omega
  ·have hk:k=ys.length:=by omega
   subst hk
   go_wp2
   go_loopw [6,9] (fun cv kv wr=> ∃(k c:Nat) (ps:List Nat),ys.length≤k∧k≤xs.length∧kv=yi k∧cv= .int .u32 c∧Own wr w.heap.size 54 .u32 (.slice (some ⟨w.heap.size,0,none⟩) (xs.length+1) (xs.length+1)) ps∧Qv xs ys ps k c∧yB w wr)
    (fun _ kv _=>xs.length-(intOf kv).toNat)
   case atStart=>exact⟨ys.length,c,ps,Nat.le_refl _,by omega,rfl,rfl,own,hI,bel⟩
   case round=>
    clear own hI bel hpl hcl;obtain⟨k,c,ps,hky,hkl,rfl,rfl,own,hI,bel⟩:=hrel;have hpl:=hI.1;have hcl:=hI.2.2.1
    by_cases hlt:k<xs.length
    ·obtain⟨b,off,rfl,hcell⟩:=hca (by omega)
     have hx:=cell_later bel (hcell k (by omega));have hp:=own.c k (by omega);have hf:=own.f k;have hxl:=sa k;obtain⟨x,ex⟩: ∃x,xs.getD k 0=x:=⟨_,rfl⟩;have hst:=zq hI (by omega) ex (Dg.getD_of_le ys k hky) (by omega) (by omega);rw[ex] at hx hxl;clear ex hcell hca hcb
     go_wp2_with fail
     refine(ur x 0 c _ hxl (by omega) hcl).mono ?_;rintro e w' ⟨rfl,rfl⟩
     go_wp2
     go_roundw
     case rel=>exact⟨k+1,_,_,by omega,by omega,by go_num,rfl,own.store k _,hst,bel.setCell (by exact Nat.le_refl _) _⟩
     case measure=>simp[intOf];omega
    ·have hk:k=xs.length:=by omega
     subst hk;have hp:=own.c xs.length (by omega);have hf:=own.f xs.length;have hen:=Nc hI (by omega);have own2:=own.store xs.length c;have bel2:=bel.setCell (p:=⟨w.heap.size,xs.length,none⟩) (by exact Nat.le_refl _) (.int .u32 c);have rd:=own2.rd
     go_wp2_with fail
     refine(jD _ _ _ _ _ rd).mono ?_;rintro e w' ⟨m,rfl,hm,rfl⟩;have ht:=jW 4294967296 (by omega) own2 hen.2.1 hm;rw[hen.2.2] at ht;clear rd own2 hen hp hf own
     go_wp2
     go_ret
     exact⟨_,rfl,ht,bel2⟩
theorem abd (va vb:Value)(xs ys:List Nat)(w:World)(ha:Rd w .u32 va xs)(hb:Rd w .u32 vb ys)(sa:Dg.Small 4294967296 xs)(sb:Dg.Small 4294967296 ys)(hla:xs.length≤1000000)(hlb:ys.length<xs.length):
  yC 82 #[vb,va] w (Num w (Dg.vl 4294967296 xs+Dg.vl 4294967296 ys)):=by
 obtain⟨i0,hi,hz0,hz1,hz2⟩:=info_parts Tryz.infoU32;obtain⟨ao,ca,rfl,-,-,hca⟩:=ha;obtain⟨bo,cb,rfl,-,-,hcb⟩:=hb
 go_enter func82,ntmps82
 go_wp2_with (at_make;refine wpList_make_full _ rfl _ _ 57 rfl w.heap.size 54 i0 (.int .u32 0) 1 underlying57 hi hz0 hz1 _ _ _ _ (xs.length+1) rfl rfl (by omega) (by omega) ?b2 ?b3 (Nat.le_refl _) ?_)
 case b2=>rw[hz2];omega
 case b3=>unfold maxLen;omega
 intro w0 hown0 hgrow0;have own0:=gL hown0;have bel0:yB w w0:=(Below.refl _ _).grown hgrow0 (Nat.le_refl _) (fun k h=>by cases h)
 clear hown0 hgrow0
 go_wp2
 go_loopw [6,23] (fun cv kv wr=> ∃(k c:Nat) (ps:List Nat),k≤ys.length∧kv=yi k∧cv= .int .u32 c∧Own wr w.heap.size 54 .u32 (.slice (some ⟨w.heap.size,0,none⟩) (xs.length+1) (xs.length+1)) ps∧Qv xs ys ps k c∧yB w wr)
  (fun _ kv _=>ys.length-(intOf kv).toNat)
 case atStart=>exact⟨0,0,_,Nat.zero_le _,rfl,rfl,own0,⟨by simp,Dg.small_replicate _ _ (by omega),by omega,by simp[Dg.vl]⟩,bel0⟩
 case round=>
  clear own0 bel0;obtain⟨k,c,ps,hkl,rfl,rfl,own,hI,bel⟩:=hrel;have hpl:=hI.1;have hcl:=hI.2.2.1
  by_cases hlt:k<ys.length
  ·obtain⟨b,off,rfl,hcell⟩:=hca (by omega)
   obtain⟨b2,off2,rfl,hcell2⟩:=hcb (by omega);have hx:=cell_later bel (hcell k (by omega));have hy:=cell_later bel (hcell2 k (by omega));have hp:=own.c k (by omega);have hf:=own.f k;have hxl:=sa k;have hyl:=sb k;obtain⟨x,ex⟩: ∃x,xs.getD k 0=x:=⟨_,rfl⟩;obtain⟨y,ey⟩: ∃y,ys.getD k 0=y:=⟨_,rfl⟩;have hst:=zq hI (by omega) ex ey (by omega) (by omega);rw[ex] at hx hxl;rw[ey] at hy hyl;clear ex ey hcell hcell2 hca hcb
   go_wp2_with fail
   refine(ur x y c _ hxl hyl hcl).mono ?_;rintro e w' ⟨rfl,rfl⟩
   go_wp2
   go_roundw
   case rel=>exact⟨k+1,_,_,by omega,by go_num,rfl,own.store k _,hst,bel.setCell (by exact Nat.le_refl _) _⟩
   case measure=>simp[intOf];omega
  ·have hk:k=ys.length:=by omega
   subst hk
   go_wp2
   go_loopw [6,9] (fun cv kv wr=> ∃(k c:Nat) (ps:List Nat),ys.length≤k∧k≤xs.length∧kv=yi k∧cv= .int .u32 c∧Own wr w.heap.size 54 .u32 (.slice (some ⟨w.heap.size,0,none⟩) (xs.length+1) (xs.length+1)) ps∧Qv xs ys ps k c∧yB w wr)
    (fun _ kv _=>xs.length-(intOf kv).toNat)
   case atStart=>exact⟨ys.length,c,ps,Nat.le_refl _,by omega,rfl,rfl,own,hI,bel⟩
   case round=>
    clear own hI bel hpl hcl;obtain⟨k,c,ps,hky,hkl,rfl,rfl,own,hI,bel⟩:=hrel;have hpl:=hI.1;have hcl:=hI.2.2.1
    by_cases hlt:k<xs.length
    ·obtain⟨b,off,rfl,hcell⟩:=hca (by omega)
     have hx:=cell_later bel (hcell k (by omega));have hp:=own.c k (by omega);have hf:=own.f k;have hxl:=sa k;obtain⟨x,ex⟩: ∃x,xs.getD k 0=x:=⟨_,rfl⟩;have hst:=zq hI (by omega) ex (Dg.getD_of_le ys k hky) (by omega) (by omega);rw[ex] at hx hxl;clear ex hcell hca hcb
     go_wp2_with fail
     refine(ur x 0 c _ hxl (by omega) hcl).mono ?_;rintro e w' ⟨rfl,rfl⟩
     go_wp2
     go_roundw
     case rel=>exact⟨k+1,_,_,by omega,by omega,by go_num,rfl,own.store k _,hst,bel.setCell (by exact Nat.le_refl _) _⟩
     case measure=>simp[intOf];omega
    ·have hk:k=xs.length:=by omega
     subst hk;have hp:=own.c xs.length (by omega);have hf:=own.f xs.length;have hen:=Nc hI (by omega);have own2:=own.store xs.length c;have bel2:=bel.setCell (p:=⟨w.heap.size,xs.length,none⟩) (by exact Nat.le_refl _) (.int .u32 c);have rd:=own2.rd
     go_wp2_with fail
     refine(jD _ _ _ _ _ rd).mono ?_;rintro e w' ⟨m,rfl,hm,rfl⟩;have ht:=jW 4294967296 (by omega) own2 hen.2.1 hm;rw[hen.2.2] at ht;clear rd own2 hen hp hf own
     go_wp2
     go_ret
     exact⟨_,rfl,ht,bel2⟩
theorem rj (va vb:Value)(xs ys:List Nat)(w:World)(ha:Rd w .u32 va xs)(hb:Rd w .u32 vb ys)(sa:Dg.Small 4294967296 xs)(sb:Dg.Small 4294967296 ys)(hla:xs.length≤1000000)(hlb:ys.length≤1000000):
  yC 82 #[va,vb] w (Num w (Dg.vl 4294967296 xs+Dg.vl 4294967296 ys)):=by
 by_cases h:ys.length≤xs.length
 ·exact abc va vb xs ys w ha hb sa sb hla h
 ·rw[Nat.add_comm]
  exact abd vb va ys xs w hb ha sb sa hlb (by omega)
theorem Jq {xs ys ps:List Nat}{k c x y:Nat}(h:Z7 xs ys ps k c)(hk:k<xs.length)(hx:xs.getD k 0=x)(hy:ys.getD k 0=y)(hxl:x<4294967296)(hyl:y<4294967296):
  Z7 xs ys (ps.set k ((x+4294967296-y-c) % 4294967296)) (k+1) (brw x y c):=by
 obtain⟨h1,h2,h3,h4⟩:=h;refine⟨by simpa using h1,Dg.small_set h2 _ _ (Nat.mod_lt _ (by omega)),RN _ _ _, ?_⟩;rw[sQ _ _ _ (by omega),pO xs,pO ys,hx,hy];have e:x+4294967296*brw x y c=(x+4294967296-y-c) % 4294967296+y+c:=by unfold brw;split<;>omega
 have e2:4294967296^k*(x+4294967296*brw x y c)=4294967296^k*((x+4294967296-y-c) % 4294967296+y+c):=by rw[e]
 have e3:4294967296^ (k+1)*brw x y c=4294967296^k*(4294967296*brw x y c):=by rw[Nat.pow_succ,Nat.mul_assoc]
 rw[Nat.mul_add,Nat.mul_add,Nat.mul_add] at e2;rw[e3];omega
theorem gM (va vb:Value)(xs ys:List Nat)(w:World)(ha:Rd w .u32 va xs)(hb:Rd w .u32 vb ys):
  yC 55 #[va,vb] w (yR w (.bool (decide (xs=ys)))):=by
 obtain⟨ao,ca,rfl,hla,hma,hca⟩:=ha;obtain⟨bo,cb,rfl,hlb,hmb,hcb⟩:=hb;unfold maxLen at hma hmb;obtain⟨r,hr⟩: ∃r,decide (xs=ys)=r:=⟨_,rfl⟩;rw[hr]
 by_cases hle:xs.length=ys.length
 ·have HR:Hid _:=hr
  have HL:Hid _:=hle;rw[hle] at hla hca⊢;clear hr hle
  go_enter func55,ntmps55
  go_wp2
  go_loopw [5] (fun iv wr=> ∃k:Nat,k≤ys.length∧iv=yi k∧Hid (∀j,j<k→xs.getD j 0=ys.getD j 0)∧yB w wr) (fun iv _=>ys.length-(intOf iv).toNat)
  case atStart=>exact⟨0,Nat.zero_le _,rfl,fun j hj=>by omega,Below.refl _ _⟩
  case round=>
   obtain⟨k,hk,rfl,hall,bel⟩:=hrel
   by_cases hlt:k<ys.length
   ·obtain⟨b,off,rfl,hcell⟩:=hca (by omega)
    obtain⟨b2,off2,rfl,hcell2⟩:=hcb (by omega);have hx:=cell_later bel (hcell k hlt);have hy:=cell_later bel (hcell2 k hlt);have hst:xs.getD k 0≠ys.getD k 0→decide (xs=ys)=false:=fun h=>by
     rw[decide_eq_false];intro e;rw[e] at h;exact h rfl
    rw[HR.out] at hst;obtain⟨x,ex⟩: ∃x,xs.getD k 0=x:=⟨_,rfl⟩;obtain⟨y,ey⟩: ∃y,ys.getD k 0=y:=⟨_,rfl⟩;have HX:Hid _:=ex;have HY:Hid _:=ey;rw[ex] at hx hst;rw[ey] at hy hst;clear ex ey hcell hcell2 hca hcb
    by_cases hxy:x=y
    ·subst hxy
     clear hst
     go_wp2
     go_quiet (fail)
     go_wp2
     go_roundw
     case rel=>exact⟨k+1,by omega,by go_num,fun j hj=>by
      by_cases e:j=k
      ·rw[e];exact HX.out.trans HY.out.symm
      ·exact hall j (by omega),aL bel _⟩
     case measure=>simp[intOf];omega
    ·have hrf:=hst hxy
     subst hrf;have hne:((x:Int) != (y:Int))=true:=by rw[bne_iff_ne];omega
     go_wp2
     go_quiet (fail)
     go_wp2
     go_ret
     exact⟨rfl,aL bel _⟩
   ·have he:xs=ys:=Dg.eq_of_all xs ys HL.out (fun j=>by
     by_cases hj:j<k
     ·exact hall j hj
     ·rw[Dg.getD_of_le xs j (by rw[HL.out];omega),Dg.getD_of_le ys j (by omega)])
    have hrt:r=true:=by rw[←HR.out];exact decide_eq_true he
    subst hrt;clear he
    go_wp2
    go_ret
    exact⟨rfl,bel⟩
 ·have hrf:r=false:=by rw[←hr];apply decide_eq_false;intro e;rw[e] at hle;exact hle rfl
  subst hrf;clear hr;have hne:((xs.length:Int) != (ys.length:Int))=true:=by rw[bne_iff_ne];omega
  go_enter func55,ntmps55
  go_wp2
  go_ret
  exact⟨rfl,Below.refl _ _⟩
theorem Qj {xs ys ps:List Nat}{i k c:Nat}(h:M5 xs ys ps i k c)(sa:Dg.Small 65536 xs)(sb:Dg.Small 65536 ys)(hi:i<xs.length)(hk:k<ys.length∨0<c)(t:Nat)(ht:t=ps.getD (i+k) 0+c+xs.getD i 0*ys.getD k 0):
  M5 xs ys (ps.set (i+k) (t % 65536)) i (k+1) (t/65536):=by
 obtain⟨h1,h2,h3,h4,h5,h6,h7,h8⟩:=h;have hkl:k≤ys.length:=by
  rcases Nat.lt_or_ge ys.length k with e|e
  ·have:=h6 e;omega
  ·exact e
 have hl:i+k<ps.length:=by omega
 have hp:=h2 (i+k);have hxy:=C8 (sa i) (sb k);refine⟨by simpa using h1,Dg.small_set h2 _ _ (Nat.mod_lt _ (by omega)),by omega,fun j hj=> ?_,fun hk2=> ?_,fun hk2=> ?_,by omega, ?_⟩
 ·rw[Dg.getD_set _ _ _ _ hl,if_neg (by omega)];exact h4 j hj
 ·rw[Dg.getD_set _ _ _ _ hl,if_neg (by omega)];exact h5 (by omega)
 ·have hke:k=ys.length:=by omega
  subst hke;rw[h5 (Nat.le_refl _),Dg.getD_of_le ys _ (Nat.le_refl _)] at ht;omega
 ·have hs:=Dg.vl_set 65536 ps (i+k) (t % 65536) hl
  rw[iV];have hpw:65536^ (i+(k+1))*(t/65536)=65536^ (i+k)*(65536*(t/65536)):=by
   rw[show i+(k+1)=(i+k)+1 from by omega,Nat.pow_succ,Nat.mul_assoc]
  have hm:65536^ (i+k)*t=65536^ (i+k)*(t % 65536)+65536^ (i+k)*(65536*(t/65536)):=by
   rw[←Nat.mul_add,Nat.mod_add_div]
  have he:65536^ (i+k)*t=65536^ (i+k)*ps.getD (i+k) 0+65536^ (i+k)*c+65536^ (i+k)*(xs.getD i 0*ys.getD k 0):=by
   rw[ht,Nat.mul_add,Nat.mul_add]
  have hd:65536^i*(xs.getD i 0*(Dg.vl 65536 (ys.take k)+65536^k*ys.getD k 0))=65536^i*(xs.getD i 0*Dg.vl 65536 (ys.take k))+65536^ (i+k)*(xs.getD i 0*ys.getD k 0):=by
   rw[Nat.mul_add,Nat.mul_add,Nat.pow_add]
   congr 1
   rw[Nat.mul_assoc,Nat.mul_left_comm (xs.getD i 0)]
  rw[hpw,hd];omega
theorem fN (va vb:Value)(xs ys:List Nat)(w:World)(ha:Rd w .i64 va xs)(hb:Rd w .i64 vb ys)(sa:Dg.Small 65536 xs)(sb:Dg.Small 65536 ys)(hla:xs.length≤1000000)(hlb:ys.length≤1000000):
  yC 64 #[va,vb] w (cG w (Dg.vl 65536 xs*Dg.vl 65536 ys)):=by
 obtain⟨i0,hi,hz0,hz1,hz2⟩:=info_parts Tryz.infoI64;obtain⟨ao,ca,rfl,-,-,hca⟩:=ha;obtain⟨bo,cb,rfl,-,-,hcb⟩:=hb
 go_enter func64,ntmps64
 go_wp2_with (at_make;refine wpList_make_full _ rfl _ _ 27 rfl w.heap.size 3 i0 (yi 0) 1 underlying27 hi hz0 hz1 _ _ _ _ (xs.length+ys.length) rfl rfl (by omega) (by omega) ?b2 ?b3 (Nat.le_refl _) ?_)
 case b2=>rw[hz2];omega
 case b3=>unfold maxLen;omega
 intro w0 hown0 hgrow0;have own0:=gL hown0;have bel0:yB w w0:=(Below.refl _ _).grown hgrow0 (Nat.le_refl _) (fun k h=>by cases h)
 clear hown0 hgrow0
 go_wp2
 go_loopw [6] (fun iv wr=> ∃(i:Nat) (ps:List Nat),i≤xs.length∧iv=yi i∧Own wr w.heap.size 3 .i64 (.slice (some ⟨w.heap.size,0,none⟩) (xs.length+ys.length) (xs.length+ys.length)) ps∧Sv xs ys ps i∧yB w wr)
  (fun iv _=>xs.length-(intOf iv).toNat)
 case atStart=>exact⟨0,_,Nat.zero_le _,rfl,own0,M6 xs ys,bel0⟩
 case round=>
  obtain⟨i,ps,hil,rfl,own,hO,bel⟩:=hrel
  by_cases hlt:i<xs.length
  ·obtain⟨b,off,rfl,hcella⟩:=hca (by omega)
   have hcell:=hcella i hlt;have hxs:=sa i;obtain⟨x,ex⟩: ∃x,xs.getD i 0=x:=⟨_,rfl⟩;rw[ex] at hcell hxs;have Hx:Hid _:=ex;clear ex hcella hca own0 bel0
   go_wp2
   go_loopw [7,8] (fun cv kv wr=> ∃(k c:Nat) (ps:List Nat),kv=yi k∧cv=yi c∧Own wr w.heap.size 3 .i64 (.slice (some ⟨w.heap.size,0,none⟩) (xs.length+ys.length) (xs.length+ys.length)) ps∧M5 xs ys ps i k c∧yB w wr)
    (fun _ kv _=>ys.length+2-(intOf kv).toNat)
   case atStart=>exact⟨0,0,ps,rfl,rfl,own,M7 hO,bel⟩
   case round=>
    clear own hO bel ps;obtain⟨k,c,ps,rfl,rfl,own,hI,bel⟩:=hrel;have hpl:=hI.1;have hcl:=hI.2.2.1;have hk6:=hI.2.2.2.2.2.1;have hk7:=hI.2.2.2.2.2.2.1
    by_cases hcond:k<ys.length∨0<c
    ·have hkl:k≤ys.length:=by
      rcases Nat.lt_or_ge ys.length k with e|e
      ·have:=hk6 e;omega
      ·exact e
     have hp:=own.c (i+k) (by omega);have hps:=hI.2.1 (i+k);have hfr:=own.f (i+k);have hst:=Qj hI sa sb hlt hcond _ rfl;have hys:=sb k;have hy0: ¬k<ys.length→ys.getD k 0=0:=fun h=>Dg.getD_of_le _ _ (by omega)
     have hxw:=cell_later bel hcell;have hcy:k<ys.length→ ∃b off,bo=some ⟨b,off,none⟩∧wr.cell? ⟨b,off+k,none⟩=some (yi ((ys.getD k 0:Nat):Int)):=fun h=>by
      obtain⟨b,off,e,hc2⟩:=hcb (by omega);exact⟨b,off,e,cell_later bel (hc2 k h)⟩
     rw[Hx.out] at hst;obtain⟨y,ey⟩: ∃y,ys.getD k 0=y:=⟨_,rfl⟩;obtain⟨p,ep⟩: ∃p,ps.getD (i+k) 0=p:=⟨_,rfl⟩;rw[ey] at hys hy0 hcy hst;rw[ep] at hp hps hst;clear ey ep hk6 hcb
     by_cases h2:k<ys.length
     ·obtain⟨b2,off2,rfl,hcell2⟩:=hcy h2
      have hxy:=C8 hxs hys;have hxyI:(x:Int)*(y:Int)≤4294836225:=by rw[←Int.natCast_mul];omega
      have hxy0:0≤(x:Int)*(y:Int):=by rw[←Int.natCast_mul];omega
      clear hcy hy0 hcond
      go_wp2
      go_quiet (fail)
      go_wp2
      go_roundw
      case rel=>
       rw[Ql,Qm];exact⟨k+1,_,_,by go_num,rfl,Own.store (Own.l own (aL (Below.refl _ _) _)) (i+k) _,hst,(aL bel _).setCell (by exact Nat.le_refl _) _⟩
      case measure=>simp[intOf];omega
     ·have hy:=hy0 h2
      subst hy;have hc0:0<c:=by omega
      simp only[Nat.mul_zero,Nat.add_zero] at hst;clear hcy hy0 hcond
      go_wp2
      go_roundw
      case rel=>
       have e1:((p:Int)+(c:Int)) % 65536=(((p+c) % 65536:Nat):Int):=by omega
       have e2:((p:Int)+(c:Int))/65536=(((p+c)/65536:Nat):Int):=by omega
       rw[e1,e2];exact⟨k+1,_,_,by go_num,rfl,own.store (i+k) _,hst,bel.setCell (by exact Nat.le_refl _) _⟩
      case measure=>simp[intOf];omega
    ·have h1: ¬k<ys.length:=by omega
     have h2: ¬0<c:=by omega
     have hst:=Qk hI hlt hcond;clear hcond
     go_wp2
     go_roundw
     case rel=>exact⟨i+1,ps,by omega,by go_num,own,hst,bel⟩
     case measure=>simp[intOf];omega
  ·have hie:i=xs.length:=by omega
   subst hie;have hpl:=hO.1;have hps:=hO.2.1;have hv:=hO.2.2.2;rw[List.take_of_length_le (Nat.le_refl _)] at hv;have HV:Hid _:=hv;have hl:ps.length≤3000000:=by omega
   clear hpl hv
   go_wp2_with fail
   refine(i9 _ _ _ ps _ own.rd).mono ?_;rintro e w' ⟨m,rfl,hm,rfl⟩;have hr:=xh own hps hm hl;rw[HV.out] at hr;clear hm
   go_wp2
   go_ret
   exact⟨_,rfl,hr,bel⟩
theorem pf (n wh pt:Nat)(w:World)(hn:n=16*wh+pt)(hpt:pt<16)(hnl:n≤1000000):
  yC 66 #[yi n] w (cG w (2^n)):=by
 have hd:=C6 wh pt hpt;rw[←hn] at hd;obtain⟨i0,hi,hz0,hz1,hz2⟩:=info_parts Tryz.infoI64;have hq:(n:Int)/16=(wh:Int):=by omega
 have hr:(n:Int) % 16=(pt:Int):=by omega
 have hwl:wh≤1000000:=by omega
 have HD:Hid _:=hd;clear hd hn
 go_enter func66,ntmps66
 go_wp2_with (at_make;refine wpList_make_full _ rfl _ _ 27 rfl w.heap.size 3 i0 (yi 0) 1 underlying27 hi hz0 hz1 _ _ _ _ (wh+1) rfl rfl (by omega) (by omega) ?b2 ?b3 (Nat.le_refl _) ?_)
 case b2=>rw[hz2];omega
 case b3=>unfold maxLen;omega
 intro w0 hown0 hgrow0;have own0:=gL hown0;have bel0:yB w w0:=(Below.refl _ _).grown hgrow0 (Nat.le_refl _) (fun k h=>by cases h)
 clear hown0 hgrow0
 go_wp2
 go_loop [4,5] (fun dv iv=> ∃k d:Nat,k≤pt∧iv=yi k∧dv=yi d∧Hid (d=2^k)) (fun _ iv=>pt-(intOf iv).toNat)
 case atStart=>exact⟨0,1,Nat.zero_le _,rfl,rfl,rfl⟩
 case round=>
  obtain⟨k,d,hk,rfl,rfl,hdk⟩:=hrel;have hdl:d≤65536:=by
   rw[hdk.out];have:2^k≤2^15:=Nat.pow_le_pow_right (by omega) (by omega);omega
  by_cases hlt:k<pt
  ·go_wp2
   go_round
   case rel=>exact⟨k+1,2*d,by omega,by go_num,by go_num,by rw[show d=2^k from hdk.out,Nat.pow_succ];exact Nat.mul_comm _ _⟩
   case measure=>simp[intOf];omega
  ·have hke:k=pt:=by omega
   subst hke;have hc:=own0.c wh (by simp);have hf:=own0.f wh;have own2:=own0.store wh d;have bel2:=bel0.setCell (p:=⟨w.heap.size,wh,none⟩) (by exact Nat.le_refl _) (yi (d:Int));have hdd:=hdk.out;rw[show(List.replicate (wh+1) 0).set wh d=Dg.dg 65536 (2^n) from by rw[hdd];exact HD.out] at own2
   have rd2:=own2.rd;clear hdd own2
   go_wp2
   go_ret
   exact⟨_,rfl,rd2,bel2⟩
theorem Own.apart3 {w:World}{base e b:Nat}{k:IntKind}{v:Value}{zs:List Nat}(h:Own w base e k v zs)(hb:b<base)(x0 x1 x2:Value):
  Own (((w.setCell ⟨b,0,none⟩ x0).setCell ⟨b,1,none⟩ x1).setCell ⟨b,2,none⟩ x2) base e k v zs:=
 ((h.apart (bI w b 0 x0) hb).apart (bI _ b 1 x1) hb).apart (bI _ b 2 x2) hb
theorem Tr {zs cur:List Nat}{sc mo k c x:Nat}(h:LI zs cur sc mo k c)(hk:k<zs.length)(hx:zs.getD k 0=x)(hxl:x<4294967296)(hsc:sc<4294967296):
  LI zs (cur.set k ((c+x*sc) % 4294967296)) sc mo (k+1) ((c+x*sc)/4294967296):=by
 obtain⟨h1,h2,h3,h4,h5⟩:=h;have hb:=uf hxl hsc;refine⟨by simpa using h1,Dg.small_set h2 _ _ (Nat.mod_lt _ (by omega)),by omega,fun j hj=> ?_, ?_⟩
 ·rw[Dg.getD_set _ _ _ _ (by omega),if_neg (by omega)];exact h4 j (by omega)
 ·rw[sQ _ _ _ (by omega),Dg.vl_take_succ _ _ _ hk,hx,Nat.add_mul]
  generalize ht:c+x*sc=t;have e:4294967296^ (k+1)*(t/4294967296)=4294967296^k*(4294967296*(t/4294967296)):=by rw[Nat.pow_succ,Nat.mul_assoc]
  have e2:4294967296^k*t=4294967296^k*(t % 4294967296)+4294967296^k*(4294967296*(t/4294967296)):=by rw[←Nat.mul_add,Nat.mod_add_div]
  have e3:4294967296^k*t=4294967296^k*c+4294967296^k*x*sc:=by rw[←ht,Nat.mul_add,Nat.mul_assoc]
  rw[e];omega
theorem jk (n:Int)(w:World):yC 36 #[yi n] w fun z w'=>z= .returned (yi (dK n))∧w'=w:=by
 unfold dK
 by_cases h1:n<1
 ·rw[if_pos (.inl h1)]
  go_enter func36,ntmps36
  go_wp2
  go_ret
  exact⟨rfl,rfl⟩
 ·by_cases h2:8<n
  ·rw[if_pos (.inr h2)]
   go_enter func36,ntmps36
   go_wp2
   go_ret
   exact⟨rfl,rfl⟩
  ·rw[if_neg (by omega)]
   by_cases h3:n≤3
   ·rw[if_pos h3]
    go_enter func36,ntmps36
    go_wp2
    go_ret
    exact⟨rfl,rfl⟩
   ·rw[if_neg h3]
    by_cases h4:n≤5
    ·rw[if_pos h4]
     go_enter func36,ntmps36
     go_wp2
     go_ret
     exact⟨rfl,rfl⟩
    ·rw[if_neg h4]
     go_enter func36,ntmps36
     go_wp2
     go_ret
     exact⟨rfl,rfl⟩
theorem zU (s:ByteArray):Dg.Small 256 (jr s):=by
 intro i;unfold jr;simp only[List.getD_eq_getElem?_getD,List.getElem?_map]
 cases h:s.data.toList[i]? with
 |none=>simp
 |some b=>simpa using b.toNat_lt
def tC (w:World)(n:Nat)(c:Int)(e:Ending)(w':World):Prop:=
 e= .returned (.tuple #[.agg (tS n).toArray,yi c])∧yB w w'
theorem fZ {k:Nat}(hk:1≤k∧k≤8):1+exN k+frN k=8*szN k∧exN k≤15∧szN k≤10∧frN k≤64∧(∃m,szN k=2*m)∧7≤exN k:=by
 rcases bO hk with rfl|rfl|rfl|rfl|rfl|rfl|rfl|rfl
 ·exact⟨by decide,by decide,by decide,by decide,⟨2,rfl⟩,by decide⟩
 ·exact⟨by decide,by decide,by decide,by decide,⟨4,rfl⟩,by decide⟩
 ·exact⟨by decide,by decide,by decide,by decide,⟨5,rfl⟩,by decide⟩
 ·exact⟨by decide,by decide,by decide,by decide,⟨2,rfl⟩,by decide⟩
 ·exact⟨by decide,by decide,by decide,by decide,⟨4,rfl⟩,by decide⟩
 ·exact⟨by decide,by decide,by decide,by decide,⟨2,rfl⟩,by decide⟩
 ·exact⟨by decide,by decide,by decide,by decide,⟨4,rfl⟩,by decide⟩
 ·exact⟨by decide,by decide,by decide,by decide,⟨4,rfl⟩,by decide⟩
theorem mj (f:Nat): ∀(c x:Nat) (zs:List Nat),Dg.Small 256 zs→Dg.Small 256 (iS f c x zs)
 |0,_,_,h=>h
 |c+1,x,zs,h=>by
  rw[iS];exact mj f c _ _ (Io h _ _ (Nat.or_lt_two_pow (n:=8) (h _) (Cf _ _)))
theorem ab0 (f:Nat)(h:f<18446744073709551616):bits .and .u64 f 9223372036854775808=if f<9223372036854775808 then 0 else 9223372036854775808:=by
 have e1:=u64_and_nat f 9223372036854775808 h (by omega);rw[show 9223372036854775808=((9223372036854775808:Nat):Int) from rfl,e1]
 have e2:=SK f 63;rw[Nat.testBit_eq_decide_div_mod_eq,show(2:Nat)^63=9223372036854775808 from rfl] at e2
 rw[e2]
 by_cases c:f<9223372036854775808
 ·rw[if_pos c,show f/9223372036854775808=0 from by omega]
  rfl
 ·rw[if_neg c,show f/9223372036854775808=1 from by omega]
  rfl
def pg (k c:Nat):Nat:=if(c=3∨c=4)∧k≤3 then kp k else 0
theorem Fw {k:Nat}(c:Nat)(hk:1≤k∧k≤8):pg k c<65536:=by
 have h:kp k<65536:=by rcases bO hk with rfl|rfl|rfl|rfl|rfl|rfl|rfl|rfl<;>decide
 unfold pg
 split<;>omega
def inR (R D L G:Int)(gr:Bool)(m:Nat)(e:Int):Bool:=
 decide (m=0∨((ai R:Int)*L≤e∧e+(bitLen m:Int)≤(ai R:Int)*(G+D)∧(gr=true∨L≤aT R D (e+(bitLen m:Int)-1))∧(ai R:Int)*max L (aT R D (e+(bitLen m:Int)-1))≤e))
theorem DV (k:Nat)(ng:Bool)(e f:Nat):dh k ng e f=1∨dh k ng e f=2∨dh k ng e f=3∨dh k ng e f=4∨dh k ng e f=5:=by
 unfold dh
 repeat' split
 all_goals decide
theorem fF {n:Int}(h:dK n≠0):1≤n.toNat∧n.toNat≤8∧((n.toNat:Nat):Int)=n:=by
 unfold dK at h
 by_cases c:n<1∨8<n
 ·rw[if_pos c] at h
  exact absurd rfl h
 ·omega
theorem Qp {xs cur:List Nat}{d k r t:Nat}(h:X9 xs cur d (k+1) r)(hk:k<xs.length)(ht:t=65536*r+xs.getD k 0)(hd:0<d)(hq:t/d<65536):
  X9 xs (cur.set k (t/d)) d k (t % d):=by
 obtain⟨h1,h2,h3,h5⟩:=h;refine⟨by simpa using h1,Dg.small_set h2 _ _ hq,Nat.mod_lt _ hd, ?_⟩;rw[AU xs k hk,AU (cur.set k (t/d)) k (by simpa using(by omega:k<cur.length)),Dg.getD_set _ _ _ _ (by omega),if_pos rfl,List.drop_set_of_lt (by omega)];simp only[Dg.vl];rw[h5];have:=Nat.div_add_mod t d;rw[Nat.add_mul,Nat.mul_comm (t/d) d,Nat.mul_assoc,Nat.mul_add];omega
def plN (k i:Nat):Nat:=if k=3 then szN k-1-i else if 6≤k then i+1-2*(i % 2) else i
theorem Co {k i:Nat}(hk:1≤k∧k≤8)(hi:i<szN k):plN k i<szN k:=by
 obtain⟨m,hm⟩:=(fZ hk).2.2.2.2.1;unfold plN
 split
 ·omega
 ·split<;>omega
def ix (xs:List Nat)(p R D L G:Int):Int:=
 if chk xs=0 then(if bk R D L G=0 then(if eJ 20000 p=true then 3 else 0) else bk R D L G) else chk xs
theorem A8 {m n:Int}(h:eJ m n=false): -m≤n∧n≤m:=by
 unfold eJ at h;simp at h;omega
theorem kA {xs:List Nat}{p R D L G:Int}(h1:chk xs=0)(h2:bk R D L G=0)(h3:eJ 20000 p=false):ix xs p R D L G=0:=by
 unfold ix;rw[if_pos h1,if_pos h2,if_neg (by rw[h3];decide)]
theorem wS {R p:Int}(h: -20000≤p∧p≤20000): -80000≤(ai R:Int)*p∧(ai R:Int)*p≤80000:=by
 unfold ai
 split<;>simp<;>omega
def ia (R D L G:Int)(gr:Bool)(d:Nat)(p:Int):Prop:=
 (d=0∧p=0)∨(d≠0∧L≤p∧p≤G∧d<2^ (ai R*D.toNat)∧(2^ (ai R*(D-1).toNat)≤d∨(gr=true∧p=L)))
theorem xU {k i:Nat}(hk:1≤k∧k≤8)(hi:i<szN k):plN k (plN k i)=i:=by
 obtain⟨m,hm⟩:=(fZ hk).2.2.2.2.1;unfold plN
 by_cases h3:k=3
 ·rw[if_pos h3,if_pos h3]
  omega
 ·rw[if_neg h3,if_neg h3]
  by_cases h6:6≤k
  ·rw[if_pos h6,if_pos h6]
   omega
  ·rw[if_neg h6,if_neg h6]
theorem Ea (n i:Nat):fU (List.replicate n 0) i=0:=by
 unfold fU;have:(List.replicate n 0).getD (i/8) 0=0:=by
  by_cases h:i/8<n
  ·simp[List.getD_eq_getElem?_getD,h]
  ·simp[List.getD_eq_getElem?_getD,h]
 rw[this];simp
theorem Jv (n:Nat)(x:Int):eZ n x/dX 1 x=shN n x:=by
 unfold eZ dX shN
 by_cases h:x<0
 ·rw[if_pos h,if_pos h,if_pos h,Nat.one_mul]
 ·rw[if_neg h,if_neg h,if_neg h,Nat.div_one]
theorem zr (R:Int):wdI R=(ai R:Int):=by
 unfold wdI ai
 split<;>rfl
theorem eR {k:Nat}(hk:1≤k∧k≤8):1≤exN k∧1≤frN k∧1≤dgN k∧dgN k≤64∧ -16445≤lsI k∧lsI k≤0∧lsI k≤gsI k∧gsI k≤16320∧ai (rdN k)*dgN k≤64∧ai (rdN k)≤4∧1≤ai (rdN k)∧bk (rdN k) (dgN k) (lsI k) (gsI k)=0:=by
 rcases bO hk with rfl|rfl|rfl|rfl|rfl|rfl|rfl|rfl<;>exact⟨by decide,by decide,by decide,by decide,by decide,by decide,by decide,by decide,by decide,by decide,by decide,by decide⟩
theorem FZ (r:Nat)(hr:2≤r): ∀(j n q:Nat) (p:Int),q % r≠0→r^j*q<2^n→lJ r n (r^j*q) p=(q,p+(j:Int))
 |0,n,q,p,hq,hn=>by
  rw[Nat.pow_zero,Nat.one_mul] at hn⊢
  cases n with
  |zero=>
   have:q=0:=by simpa using hn
   subst this;simp at hq
  |succ n=>
   rw[lJ,if_neg hq];simp
 |j+1,n,q,p,hq,hn=>by
  have e1:r^ (j+1)*q=r*(r^j*q):=by rw[Nat.pow_succ,Nat.mul_comm (r^j) r,Nat.mul_assoc]
  rw[e1] at hn⊢
  cases n with
  |zero=>
   exfalso
   have h0:r*(r^j*q)=0:=by simpa using hn
   have hq0:q≠0:=fun h=>hq (by rw[h];simp)
   have h1:0<r^j*q:=Nat.mul_pos (Nat.pow_pos (by omega)) (Nat.pos_of_ne_zero hq0);have h2:0<r*(r^j*q):=Nat.mul_pos (by omega) h1;omega
  |succ n=>
   rw[lJ,if_pos (Nat.mul_mod_right _ _),Nat.mul_div_cancel_left _ (by omega)];have hlt:r^j*q<2^n:=by
    have h2:2*(r^j*q)≤r*(r^j*q):=Nat.mul_le_mul_right _ hr;rw[Nat.pow_succ] at hn;omega
   rw[FZ r hr j n q (p+1) hq hlt]
   congr 1
   push_cast
   omega
theorem Gm {k:Nat}(hk:1≤k∧k≤8): -16445≤(ai (rdN k):Int)*lsI k∧(ai (rdN k):Int)*(gsI k+(dgN k:Int))≤16384:=by
 rcases bO hk with rfl|rfl|rfl|rfl|rfl|rfl|rfl|rfl<;>decide
theorem mZ {k:Nat}(hk:1≤k∧k≤8){f:Nat}(h:f<2^frN k):f<2^64:=
 Nat.lt_of_lt_of_le h (Nat.pow_le_pow_right (by omega) (fZ hk).2.2.2.1)
theorem GI (r:Nat): ∀(n d:Nat) (p:Int),(lJ r n d p).1≤d
 |0,d,p=>Nat.le_refl _
 |n+1,d,p=>by
  unfold lJ
  split
  ·exact Nat.le_trans (GI r n _ _) (Nat.div_le_self _ _)
  ·exact Nat.le_refl _
theorem wQ {k:Nat}(hk:1≤k∧k≤8):wdI (rdN k)=(ai (rdN k):Int):=by
 rcases bO hk with rfl|rfl|rfl|rfl|rfl|rfl|rfl|rfl<;>decide
theorem NH (N M:Nat)(n:Int):eZ N (n+1)*dX M n=2*eZ N n*dX M (n+1):=by
 rw[fw,fw,eM,eM]
 by_cases h:0≤n
 ·rw[show(-n).toNat=0 from by omega,show(-(n+1)).toNat=0 from by omega,show(n+1).toNat=n.toNat+1 from by omega,Nat.pow_succ]
  simp only[Nat.pow_zero,Nat.mul_one];rw[←Nat.mul_assoc N,Nat.mul_comm _ 2,←Nat.mul_assoc 2,Nat.mul_assoc 2]
 ·rw[show n.toNat=0 from by omega,show(n+1).toNat=0 from by omega,show(-n).toNat=(-(n+1)).toNat+1 from by omega,Nat.pow_succ]
  simp only[Nat.pow_zero,Nat.mul_one];rw[←Nat.mul_assoc M,←Nat.mul_assoc N,Nat.mul_comm _ 2,←Nat.mul_assoc 2]
abbrev dsk (k:Nat)(wy:Int):Value:=(ykV k wy (dK k) (rdN k) (dgN k) (lsI k) (gsI k) (decide (k≤3)))
theorem qt {k:Nat}(hk:1≤k∧k≤8):dK k=1∨dK k=2∨dK k=3:=by
 rcases bO hk with rfl|rfl|rfl|rfl|rfl|rfl|rfl|rfl<;>decide
theorem shN_down (m t:Nat):shN m (-(t:Int))=m/2^t:=by
 unfold shN
 by_cases h:t=0
 ·subst h
  rw[if_neg (by decide)];simp
 ·rw[if_pos (by omega)]
  congr 2
  omega
def nrV (r:Bool×ByteArray×Int):Bool×Nat×Nat×Int:=
 if pv r.2.1 r.2.1.size=0 then(false,0,1,0) else
  (r.1,(nrM (pv r.2.1 r.2.1.size) r.2.2).1/2^tz (nrM (pv r.2.1 r.2.1.size) r.2.2).1,(nrM (pv r.2.1 r.2.1.size) r.2.2).2,r.2.2+(tz (nrM (pv r.2.1 r.2.1.size) r.2.2).1:Int))
theorem nrM_in {N a:Nat}{p:Int}(h0:N≠0)(hN:N<2^a)(p2:p≤6000):(nrM N p).1≠0∧(nrM N p).1<2^ (a+18000):=by
 unfold nrM
 by_cases hp:0<p
 ·rw[if_pos hp]
  refine⟨Nat.mul_ne_zero h0 (Nat.ne_of_gt (Nat.pow_pos (by omega))), ?_⟩;obtain⟨c,hc⟩: ∃c,c=18000:=⟨_,rfl⟩;rw[←hc];have h5:5^p.toNat≤2^c:=Nat.le_trans (pow5_two _) (Nat.pow_le_pow_right (by omega) (by omega));rw[Nat.pow_add];exact Nat.mul_lt_mul_of_lt_of_le hN h5 (Nat.pow_pos (by omega))
 ·rw[if_neg hp]
  exact⟨redF_pos _ _ h0,Nat.lt_of_le_of_lt (redF_le _ _).1 (Nat.lt_of_lt_of_le hN (Nat.pow_le_pow_right (by omega) (by omega)))⟩
def raV (t:ByteArray):Bool×Nat×Nat×Int:=nrV (nmV t).1
theorem dg_cross (xn:Nat)(e n:Int):scA xn e n*2^ (-e).toNat*10^ (-n).toNat=xn*2^e.toNat*scB e n*10^n.toNat:=by
 unfold scA scB;obtain⟨np,h1⟩: ∃k,n.toNat=k:=⟨_,rfl⟩;obtain⟨nm,h2⟩: ∃k,(-n).toNat=k:=⟨_,rfl⟩;obtain⟨ep,h3⟩: ∃k,e.toNat=k:=⟨_,rfl⟩;obtain⟨em,h4⟩: ∃k,(-e).toNat=k:=⟨_,rfl⟩;obtain⟨tp,h5⟩: ∃k,(e+n).toNat=k:=⟨_,rfl⟩;obtain⟨tm,h6⟩: ∃k,(-(e+n)).toNat=k:=⟨_,rfl⟩;rw[h1,h2,h3,h4,h5,h6];have a1:tp+em+nm=ep+tm+np:=by omega
 clear h1 h2 h3 h4 h5 h6;rw[ten_parts nm,ten_parts np];have l:xn*5^np*2^tp*2^em*(2^nm*5^nm)=xn*2^ (tp+em+nm)*5^ (np+nm):=by
  simp only[Nat.pow_add]
  ac_rfl
 have r:xn*2^ep*(5^nm*2^tm)*(2^np*5^np)=xn*2^ (ep+tm+np)*5^ (np+nm):=by
  simp only[Nat.pow_add]
  ac_rfl
 rw[l,r,a1]
theorem tpT_size {T:ByteArray}{k:Nat}(h:k≤T.size):(tpT T k).size=k:=by
 unfold tpT
 split
 ·rw[ByteArray.size_extract]
  omega
 ·omega
theorem tpP_nuP {T:ByteArray}{k:Nat}(h:k≤T.size)(hk:1≤k):tpP T k=nuP (tpT T k):=by
 unfold tpP nuP;rw[tpT_size h]
 by_cases c:1<k
 ·rw[if_pos c,if_pos c]
  rw[ByteArray.append_assoc]
 ·rw[if_neg c,if_neg c]
  have e:=tpT_size h;obtain rfl:k=1:=by omega
  generalize tpT T 1=S at e;apply ByteArray.ext;rw[ByteArray.data_extract];have:S.data.size=1:=e;rw[←this,Array.extract_size]
theorem powerR_less {R D t k:Int}(h2:t< (ai R:Int)*(D-1)+(ai R:Int)*k):aT R D t<k:=by
 unfold aT;have hw:=(eN R).1;have e2:t< (D-1+k)*(ai R:Int):=by rw[Int.mul_comm,Int.mul_add];omega
 have a2:t/(ai R:Int)<D-1+k:=(Int.ediv_lt_iff_lt_mul (by omega)).2 e2;omega
theorem near_cross {N0 M0 m tz Q' Q d xn δ : Nat} {p up wk e : Int} (h1 : m * 5 ^ (-p).toNat = Q' * M0 * 5 ^ p.toNat) (h2 : N0 * 2 ^ tz = m)
  (h3 : xn * 2 ^ e.toNat * 2 ^ (-wk).toNat = d * 2 ^ wk.toNat * 2 ^ (-e).toNat) (h4 : Q' * 10 ^ δ = Q) (h5 : p + up = (δ : Int)) :
  N0 * 2 ^ (p + (tz : Int) - wk).toNat * (xn * 2 ^ e.toNat * 10 ^ up.toNat) = d * (M0 * 2 ^ (-(p + (tz : Int) - wk)).toNat) * (Q * (2 ^ (-e).toNat * 10 ^ (-up).toNat)) := by
 obtain ⟨pp, i1⟩ : ∃ k, p.toNat = k := ⟨_, rfl⟩
 obtain ⟨pm, i2⟩ : ∃ k, (-p).toNat = k := ⟨_, rfl⟩
 obtain ⟨wp, i3⟩ : ∃ k, wk.toNat = k := ⟨_, rfl⟩
 obtain ⟨wm, i4⟩ : ∃ k, (-wk).toNat = k := ⟨_, rfl⟩
 obtain ⟨ep, i5⟩ : ∃ k, e.toNat = k := ⟨_, rfl⟩
 obtain ⟨em, i6⟩ : ∃ k, (-e).toNat = k := ⟨_, rfl⟩
 obtain ⟨u, i7⟩ : ∃ k, up.toNat = k := ⟨_, rfl⟩
 obtain ⟨v, i8⟩ : ∃ k, (-up).toNat = k := ⟨_, rfl⟩
 obtain ⟨np, i9⟩ : ∃ k, (p + (tz : Int) - wk).toNat = k := ⟨_, rfl⟩
 obtain ⟨nm, i10⟩ : ∃ k, (-(p + (tz : Int) - wk)).toNat = k := ⟨_, rfl⟩
 rw [i1, i2] at h1
 rw [i3, i4, i5, i6] at h3
 rw [i5, i6, i7, i8, i9, i10]
 have a1 : pp + u = δ + pm + v := by omega
 have a2 : np + wp + pm = nm + tz + wm + pp := by omega
 clear i1 i2 i3 i4 i5 i6 i7 i8 i9 i10 h5
 subst h4
 have hc : 0 < 2 ^ tz * 5 ^ pm * 2 ^ wm * 2 ^ pp := by
  have := fun k : Nat => Nat.pow_pos (n := k) (show 0 < 2 by omega)
  have := fun k : Nat => Nat.pow_pos (n := k) (show 0 < 5 by omega)
  simp [Nat.mul_pos_iff_of_pos_left, *]
 refine Nat.eq_of_mul_eq_mul_right hc ?_
 have l : N0 * 2 ^ np * (xn * 2 ^ ep * 10 ^ u) * (2 ^ tz * 5 ^ pm * 2 ^ wm * 2 ^ pp) = (N0 * 2 ^ tz) * 5 ^ pm * (xn * 2 ^ ep * 2 ^ wm) * (2 ^ np * 10 ^ u * 2 ^ pp) := by ac_rfl
 rw [l, h2, h1, h3]
 have l2 : Q' * M0 * 5 ^ pp * (d * 2 ^ wp * 2 ^ em) * (2 ^ np * 10 ^ u * 2 ^ pp) = Q' * M0 * d * 2 ^ em * (2 ^ wp * 2 ^ np) * ((2 ^ pp * 5 ^ pp) * 10 ^ u) := by ac_rfl
 have r : d * (M0 * 2 ^ nm) * (Q' * 10 ^ δ * (2 ^ em * 10 ^ v)) * (2 ^ tz * 5 ^ pm * 2 ^ wm * 2 ^ pp) = Q' * M0 * d * 2 ^ em * (2 ^ nm * 2 ^ tz * 2 ^ wm * 2 ^ pp * 5 ^ pm) * (10 ^ δ * 10 ^ v) := by ac_rfl
 rw [l2, r, ← ten_parts, ← Nat.pow_add, ← Nat.pow_add, a1, Nat.pow_add 10 (δ + pm), Nat.pow_add 10 δ, ten_parts pm, ← Nat.pow_add 2 nm tz, ← Nat.pow_add, ← Nat.pow_add, ← a2, Nat.pow_add 2 (np + wp), Nat.add_comm np wp]
 ac_rfl
theorem Ua (ds:List Nat)(h:Dg.Small 10 ds): ∀j,(txt ds).getD j 0<256:=fun j=>by
 by_cases hj:j<ds.length
 ·rw[tQ ds j hj];have:=h (ds.length-1-j);omega
 ·rw[Dg.getD_of_le _ _ (by rw[jL];omega)];omega
theorem odd_two {m t:Nat}(h:m % 2=1):tz (m*2^t)=t∧m*2^t/2^tz (m*2^t)=m:=by
 have e:tz (m*2^t)=t:=F8 (m:=m/2) (by rw[Nat.mul_comm];congr 1;omega);refine⟨e, ?_⟩;rw[e,Nat.mul_div_cancel _ (Nat.pow_pos (by omega))]
theorem odd_of {N:Nat}(h:N≠0):N/2^tz N % 2=1∧N=N/2^tz N*2^tz N:=by
 obtain⟨m,hm⟩:=fO h;have hp:0<2^tz N:=Nat.pow_pos (by omega);have e:N/2^tz N=2*m+1:=by
  conv=>lhs;lhs;rw[hm]
  exact Nat.mul_div_cancel_left _ hp
 rw[e];exact⟨by omega,by rw[Nat.mul_comm];exact hm⟩
theorem tz_five {n:Nat}(h:n≠0)(k:Nat):tz (n*5^k)=tz n:=by
 obtain⟨h1,h2⟩:=odd_of h;have h3:=five_odd _ h1 k;have h4:=(odd_two (t:=tz n) h3).1;rw[show n/2^tz n*5^k*2^tz n=n/2^tz n*2^tz n*5^k by ac_rfl,←h2] at h4
 exact h4
theorem dys_get {w:World}{g:Option Nat}: ∀{ts:List ak} {cs:List Value} {i:Nat} {t:ak},DysAt w g ts cs→ts[i]? =some t→ ∃so sc,RowAt w g (yT so t.n sc) (Dg.dg 4294967296 t.n)∧ ∀j u,(dyC t (yT so t.n sc))[j]? =some u→cs[3*i+j]? =some u
 | [],_,_,_,_,hp=>by simp at hp
 |q::ts,cs,0,t,hc,hp=>by
  obtain⟨so,sc,rest,h1,h2,h3⟩:=hc;have:q=t:=by simpa using hp
  subst this;refine⟨so,sc,h2,fun j u hj=> ?_⟩
  subst h1;rw[List.getElem?_append_left]
  ·simpa using hj
  ·have:=(List.getElem?_eq_some_iff.1 hj).1
   omega
 |q::ts,cs,i+1,t,hc,hp=>by
  obtain⟨so,sc,rest,h1,h2,h3⟩:=hc;obtain⟨so',sc',h4,h5⟩:=dys_get h3 (by simpa using hp);refine⟨so',sc',h4,fun j x hj=> ?_⟩
  subst h1;rw[List.getElem?_append_right (by simp[dyC];omega)];have:=h5 j x hj;rw[show 3*(i+1)+j-(dyC q (yT so q.n sc)).length=3*i+j from by simp[dyC];omega]
  exact this
theorem dysV_of {w:World}{base:Nat}{ts:List ak}{v:Value}(h0:ts≠[])(h:HdI base ts v w): ∃g cap,v= .slice (some ⟨g,0,none⟩) ts.length cap∧DysV w ts g cap:=by
 obtain⟨cs,ho,hat⟩:=h
 rcases ho.2 with⟨-,h⟩| ⟨g,cap,cur,hv,-,-,h1,h2,-,-⟩
 ·exact absurd (List.eq_nil_of_length_eq_zero h) h0
 ·refine⟨g,cap,hv,h1,h2,fun i t ht=> ?_⟩
  obtain⟨so,sc,⟨k2,-⟩,k4⟩:=dys_get hat ht;refine⟨so,sc,fun j x hj=> ?_,k2⟩
  have:=ho.cells (g:=g) (by rw[hv];rfl) (3*i+j) x (k4 j x hj);rw[Addr.add_mid,Nat.zero_add] at this;rw[Nat.mul_comm i 3];exact this
def unQ (N M:Nat)(E:Int):Nat:=eZ N E/dX M E
def unL (N M:Nat)(E:Int):Nat:=eZ N E % dX M E
theorem unit_cut {D:Int}{N M:Nat}{E:Int}(h:dY N M E≤D-1):dj 2 D 0 true N M E=0:=by
 unfold dj aT;rw[show ai 2=1 from rfl]
 simp;omega
end Go.Proofs.YtlgkfdcmokchgaaGreatDoor

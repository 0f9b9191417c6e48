/-
  Texts laid together: Shift, Dy4.
-/
import Derived.Test.YtiakgfmlpdfhdaaDoorSv08
import Derived.Test.YtiakgfmlpdfhdaaDoorSv12
set_option maxRecDepth 100000
set_option maxHeartbeats 1600000
namespace Go.Proofs.YtiakgfmlpdfhdaaDoor
open Go.RowKit
theorem vO (va:Value)(xs:List Nat)(n wh pt P:Nat)(w:World)(ha:Rd w .u32 va xs)(sa:Dg.Small 4294967296 xs)(hla:xs.length≤1000000)(hn:n=32*wh+pt)(hpt:pt<32)(hP:P=2^pt)(hnl:n≤1000000)(hne:xs≠[]):
  yC 91 #[va,yi n] w (Num w (Dg.vl 4294967296 xs*2^n)):=by
 obtain⟨ao,ca,rfl,-,-,hca⟩:=ha;obtain⟨i0,hi,hz0,hz1,hz2⟩:=info_parts Tryd.infoU32;have hl0:0<xs.length:=List.length_pos_iff.2 hne;have h00:((xs.length:Int)==0)=false:=by simp;exact hne
 have hq:(n:Int)/32=(wh:Int):=by omega
 have hr:(n:Int) % 32=(pt:Int):=by omega
 have HN:Hid _:=hn;have HP:Hid _:=hP;clear hn hP
 go_enter Tryd.func91,Tryd.ntmps91
 go_wp2_with (at_make;refine wpList_make_full _ rfl _ _ 92 rfl w.heap.size 87 i0 (.int .u32 0) 1 Tryd.underlying92 hi hz0 hz1 _ _ _ _ (xs.length+wh+1) rfl rfl (by omega) (by omega) ?b2 ?b3 (Nat.le_refl _) ?_)
 case b2=>rw[hz2];have:=HN.out;omega
 case b3=>unfold maxLen;have:=HN.out;omega
 intro w0 hown0 hgrow0;have own0:=gL hown0;have bel0:yB w w0:=(Below.refl _ _).grown hgrow0 (Nat.le_refl _) (fun k h=>by cases h)
 have hwl:wh≤1000000:=by have:=HN.out;omega
 clear hown0 hgrow0
 go_wp2
 go_loopw [25] (fun kv wr=> ∃(k:Nat) (ups:List Nat),k≤xs.length∧kv=yi k∧Own wr w.heap.size 87 .u32 (.slice (some ⟨w.heap.size,0,none⟩) (xs.length+wh+1) (xs.length+wh+1)) ups∧KM xs ups wh P k∧yB w wr) (fun kv _=>xs.length-(intOf kv).toNat)
 case atStart=>exact⟨0,_,Nat.zero_le _,rfl,own0,Nz xs wh P (by rw[HP.out];exact Nat.pow_pos (by omega)),bel0⟩
 case round=>
  clear own0 bel0;obtain⟨k,ups,hk,rfl,own,hI,bel⟩:=hrel;have hul:=hI.1
  by_cases hlt:k<xs.length
  ·obtain⟨b,off,rfl,hcell⟩:=hca (by omega)
   have hx:=cell_later bel (hcell k hlt);have hxl:=sa k;have hu:=own.c (wh+k) (by omega);have hf:=own.f (wh+k);have hf2:=own.f (wh+k+1);have hu2:=own.c (wh+k+1) (by omega);have huP:=hI.2.2.2.1;obtain⟨x,ex⟩: ∃x,xs.getD k 0=x:=⟨_,rfl⟩;rw[ex] at hx hxl;obtain⟨u,eu⟩: ∃u,ups.getD (wh+k) 0=u:=⟨_,rfl⟩;rw[eu] at hu huP;have Hul:Hid _:=hul;have HX:Hid _:=ex;have HU:Hid _:=eu;clear ex eu hcell hca hul
   go_wp2
   go_region
   all_goals go_wp2
   all_goals go_roundw
   case rel=>
    have e1:=Y7 u x pt hpt (by rw[←HP.out];exact huP);have e2:=Vg x pt hpt;rw[e1,e2,←HP.out];have hst:=QJ hI hlt HX.out hxl ⟨2^ (32-pt),by rw[HP.out,←Nat.pow_add,show pt+(32-pt)=32 from by omega]⟩ (by omega)
    rw[HU.out] at hst;exact⟨k+1,_,by omega,by go_num,Own.l ((own.store (wh+k) _).store (wh+k+1) _) (Below.drew (Below.refl _ _)),hst,((bel.setCell (by exact Nat.le_refl _) _).setCell (by exact Nat.le_refl _) _).drew⟩
   case measure=>simp[intOf];omega
  ·have hke:k=xs.length:=by omega
   subst hke;have hps:=hI.2.1;have hv:=hI.2.2.2.2;rw[List.take_of_length_le (Nat.le_refl _)] at hv;have hv2:Dg.vl 4294967296 ups=Dg.vl 4294967296 xs*2^n:=by
    rw[hv,HP.out,HN.out,Nat.pow_add,Nat.pow_mul,Nat.mul_left_comm]
   have HV:Hid _:=hv2;clear hul hv hv2
   go_wp2_with fail
   refine(jD _ _ _ ups _ own.rd).mono ?_;rintro e w' ⟨m,rfl,hm,rfl⟩;have ht:=jW 4294967296 (by omega) own hps hm;rw[HV.out] at ht;clear hm
   go_wp2
   go_ret
   exact⟨_,rfl,ht,bel⟩
theorem Dj (va:Value)(xs:List Nat)(n wh pt:Nat)(w:World)(ha:Rd w .u32 va xs)(sa:Dg.Small 4294967296 xs)(hla:xs.length≤1000000)(hn:n=32*wh+pt)(hpt:pt<32)(hnl:n≤100000000):
  yC 90 #[va,yi n] w (Num w (Dg.vl 4294967296 xs/2^n)):=by
 have hPQ:2^pt*2^ (32-pt)=4294967296:=by rw[←Nat.pow_add,show pt+(32-pt)=32 from by omega]
 have hpw:4294967296^wh*2^pt=2^n:=by rw[hn,Nat.pow_add,Nat.pow_mul]
 obtain⟨ao,ca,rfl,-,-,hca⟩:=ha;obtain⟨i0,hi,hz0,hz1,hz2⟩:=info_parts Tryd.infoU32;have hq:(n:Int)/32=(wh:Int):=by omega
 have hr:(n:Int) % 32=(pt:Int):=by omega
 have hwl:wh≤100000000:=by omega
 have HPQ:Hid _:=hPQ;have HPW:Hid _:=hpw
 by_cases hge:xs.length≤wh
 ·have hz:Dg.vl 4294967296 xs/2^n=0:=by
   apply Nat.div_eq_of_lt;have h1:=Dg.vl_lt 4294967296 xs sa;have h2:4294967296^xs.length≤4294967296^wh:=Nat.pow_le_pow_right (by omega) hge;have h3:4294967296^wh≤4294967296^wh*2^pt:=Nat.le_mul_of_pos_right _ (Nat.pow_pos (by omega));omega
  rw[hz];clear hz hn hPQ hpw
  go_enter Tryd.func90,Tryd.ntmps90
  go_wp2
  go_ret
  exact⟨_,rfl,aQ _ _ _ _,Below.refl _ _⟩
 ·clear hn hPQ hpw
  obtain⟨L,hL⟩: ∃L,xs.length-wh=L:=⟨_,rfl⟩
  go_enter Tryd.func90,Tryd.ntmps90
  go_wp2_with (at_make;refine wpList_make_full _ rfl _ _ 92 rfl w.heap.size 87 i0 (.int .u32 0) 1 Tryd.underlying92 hi hz0 hz1 _ _ _ _ (xs.length-wh) rfl rfl (by omega) (by omega) ?b2 ?b3 (Nat.le_refl _) ?_)
  case b2=>rw[hz2];omega
  case b3=>unfold maxLen;omega
  intro w0 hown0 hgrow0;have own0:=gL hown0;have bel0:yB w w0:=(Below.refl _ _).grown hgrow0 (Nat.le_refl _) (fun k h=>by cases h)
  have HL:Hid _:=hL;have hLx:wh+L=xs.length:=by omega
  have HLX:Hid _:=hLx;have hLl:L≤1000000:=by omega
  clear hown0 hgrow0 hL hLx
  go_wp2
  go_loopw [24] (fun kv wr=> ∃(k:Nat) (ds:List Nat),k≤L∧kv=yi k∧Own wr w.heap.size 87 .u32 (.slice (some ⟨w.heap.size,0,none⟩) L L) ds∧abK xs ds wh (2^pt) (2^ (32-pt)) k∧yB w wr) (fun kv _=>L-(intOf kv).toNat)
  case atStart=>
   refine⟨0,_,Nat.zero_le _,rfl,own0,⟨by have:=HL.out;simp;omega,fun j=> ?_⟩,bel0⟩
   rw[if_neg (by omega)]
   by_cases h:j<L<;>simp[List.getD_eq_getElem?_getD,h]
  case round=>
   clear own0 bel0;obtain⟨k,ds,hk,rfl,own,hI,bel⟩:=hrel;have hul:ds.length=L:=hI.1.trans HL.out
   by_cases hlt:k<L
   ·have hwk:wh+k<xs.length:=by have:=HLX.out;omega
    obtain⟨b,off,rfl,hcell⟩:=hca (by omega);have hx:=cell_later bel (hcell (wh+k) hwk);have hy:=fun h:wh+k+1<xs.length=>cell_later bel (hcell (wh+k+1) h)
    have hxl:=sa (wh+k);have hu:=own.c k (by omega);have hf:=own.f k;have hy0: ¬wh+k+1<xs.length→xs.getD (wh+k+1) 0=0:=fun h=>Dg.getD_of_le _ _ (by omega)
    have hst:=Y9 hI (by have:=HL.out;omega) rfl;obtain⟨x,ex⟩: ∃x,xs.getD (wh+k) 0=x:=⟨_,rfl⟩;obtain⟨y,ey⟩: ∃y,xs.getD (wh+k+1) 0=y:=⟨_,rfl⟩;rw[ex] at hx hxl hst;rw[ey] at hy hy0 hst;clear ex ey hcell hca hul
    by_cases h2:wh+k+1<xs.length
    ·have hy1:=hy h2
     have hor:=adm x y pt hpt hxl;have HO:Hid _:=hor;clear hy hy0 hor
     go_wp2
     go_region
     all_goals go_wp2
     all_goals go_roundw
     case rel=>
      have e1:(x:Int)/2^pt=((x/2^pt:Nat):Int):=by rw[Int.natCast_ediv,Int.natCast_pow];rfl
      rw[HO.out,e1];have o2:=(own.store k (x/2^pt)).store k (x/2^pt+y % 2^pt*2^ (32-pt));rw[List.set_set] at o2;exact⟨k+1,_,by omega,by go_num,Own.l o2 (Below.drew (Below.refl _ _)),hst,((bel.setCell (by exact Nat.le_refl _) _).setCell (by exact Nat.le_refl _) _).drew⟩
     case measure=>simp[intOf];omega
    ·have hy1:=hy0 h2
     subst hy1;simp only[Nat.zero_mod,Nat.zero_mul,Nat.add_zero] at hst;clear hy hy0
     go_wp2
     go_roundw
     case rel=>
      have e1:(x:Int)/2^pt=((x/2^pt:Nat):Int):=by rw[Int.natCast_ediv,Int.natCast_pow];rfl
      rw[e1];exact⟨k+1,_,by omega,by go_num,own.store k _,hst,bel.setCell (by exact Nat.le_refl _) _⟩
     case measure=>simp[intOf];omega
   ·have hke:k=L:=by omega
    subst hke;have hen:=abL (by rw[HL.out];exact hI) (by have:=HLX.out;omega) HPQ.out sa;have hv:=hen.2;rw[HPW.out] at hv;have HV:Hid _:=hv;have hps:=hen.1;clear hul hv hen
    go_wp2_with fail
    refine(jD _ _ _ ds _ own.rd).mono ?_;rintro e w' ⟨m,rfl,hm,rfl⟩;have ht:=jW 4294967296 (by omega) own hps hm;rw[HV.out] at ht;clear hm
    go_wp2
    go_ret
    exact⟨_,rfl,ht,bel⟩
theorem eO (va:Value)(xs:List Nat)(n:Int)(w:World)(ha:Rd w .u32 va xs)(sa:Dg.Small 4294967296 xs)(hla:xs.length≤1000000)(h1: -1000000≤n)(h2:n≤1000000):
  yC 73 #[va,yi n] w (Num w (shN (Dg.vl 4294967296 xs) n)):=by
 unfold shN
 by_cases hn:n<0
 ·rw[if_pos hn]
  obtain⟨m,hm⟩: ∃m:Nat,-n=(m:Int):=⟨(-n).toNat,by omega⟩;have hl:=Dj va xs m (m/32) (m % 32) w ha sa hla (by omega) (by omega) (by omega);rw[hm,Int.toNat_natCast]
  go_enter Tryd.func73,Tryd.ntmps73
  go_wp2_with fail
  refine hl.mono ?_;rintro e w1 ⟨v,rfl,own,bel⟩
  go_wp2
  go_ret
  exact⟨_,rfl,own,bel⟩
 ·rw[if_neg hn]
  obtain⟨m,rfl⟩: ∃m:Nat,n=(m:Int):=⟨n.toNat,by omega⟩;rw[Int.toNat_natCast]
  by_cases hne:xs=[]
  ·subst hne
   obtain⟨ao,ca,rfl⟩:=ha.shape;have hz:Dg.vl 4294967296 []*2^m=0:=by simp[Dg.vl]
   rw[hz]
   go_enter Tryd.func73,Tryd.ntmps73
   go_wp2
   go_ret
   exact⟨_,rfl,aQ _ _ _ _,Below.refl _ _⟩
  ·have hl:=vO va xs m (m/32) (m % 32) (2^ (m % 32)) w ha sa hla (by omega) (by omega) rfl (by omega) hne
   go_enter Tryd.func73,Tryd.ntmps73
   go_wp2_with fail
   refine hl.mono ?_;rintro e w1 ⟨v,rfl,own,bel⟩
   go_wp2
   go_ret
   exact⟨_,rfl,own,bel⟩
theorem Zm (ts:Bool)(ao:Option Addr)(ca n:Nat)(e x:Int)(w:World)(hr:Rd w .u32 (.slice ao (Dg.dg 4294967296 n).length ca) (Dg.dg 4294967296 n))(hL:(Dg.dg 4294967296 n).length≤500000)
  (_h1: -1000000≤e) (_h2:e≤1000000) (_h3: -1000000≤x) (h4:x≤e) (h5:e-x≤1000000):
  Calls Tryd.prog 88 #[.agg #[.bool ts,.slice ao (Dg.dg 4294967296 n).length ca,.int .i64 e],.int .i64 x] w (Num w (n*2^ (e-x).toNat)):=by
 have HSH:Hid (∀w1,Below w.heap.size w w1→Calls Tryd.prog 73 #[.slice ao (Dg.dg 4294967296 n).length ca,.int .i64 (e-x)] w1 (Num w1 (n*2^ (e-x).toNat))):=fun w1 b1=>by
  have:=eO _ _ (e-x) w1 (hr.l b1) (Dg.small_dg _ _ (by omega)) (by omega) (by omega) (by omega)
  rwa [Dg.vl_dg _ _ (by omega),CE n _ (by omega)] at this
 obtain⟨m,hm⟩: ∃m,(Dg.dg 4294967296 n).length=m:=⟨_,rfl⟩;obtain⟨q,hq⟩: ∃q,n*2^ (e-x).toNat=q:=⟨_,rfl⟩;rw[hm,hq] at HSH⊢;clear hm hr hL hq;have l1:=aA w (.bool ts) (.slice ao m ca) (.int .i64 e) 66;have bA:=af w (.cells #[.bool ts,.slice ao m ca,.int .i64 e] 66);have bd:Below (w.alloc (.cells #[.bool ts,.slice ao m ca,.int .i64 e] 66)).heap.size (w.alloc (.cells #[.bool ts,.slice ao m ca,.int .i64 e] 66)) (w.alloc (.cells #[.bool ts,.slice ao m ca,.int .i64 e] 66)).drew:=(Below.refl _ _).drew;have l1:=l1.l bd;have b02:=aa bA bd;clear bA bd;have e3:IntKind.i64.wrap (e-x)=e-x:=IntWalk.i64_in _ ⟨by omega,by omega⟩;obtain⟨-,⟨c0,c1,c2⟩,-⟩:=id l1
 go_enter Tryd.func88,Tryd.ntmps88
 go_wp2_with fail
 go_region_held3 (fun wq=>wq.cell? ⟨w.heap.size,0,none⟩=some (.bool ts)∧wq.cell? ⟨w.heap.size,1,none⟩=some (.slice ao m ca)∧wq.cell? ⟨w.heap.size,2,none⟩=some (.int .i64 e)) (go_keep) (first
  | (go_at_call 81;refine(cN ts ao m ca e _).mono ?_;rintro x w3 ⟨rfl,b3⟩;have l13:=l1.l b3;have b03:=aa b02 b3;obtain⟨-,⟨p0,p1,p2⟩,-⟩:=id l13)
  | (go_at_call 73;refine(HSH.out _ b03).mono ?_;rintro x w4 ⟨vs,rfl,own4,b4⟩;have l14:=l13.l b4;have b04:=aa b03 b4;obtain⟨-,⟨q0,q1,q2⟩,-⟩:=id l14))
 all_goals go_wp2
 go_ret
 exact⟨_,rfl,own4.lower b03.size,b04⟩
end Go.Proofs.YtiakgfmlpdfhdaaDoor

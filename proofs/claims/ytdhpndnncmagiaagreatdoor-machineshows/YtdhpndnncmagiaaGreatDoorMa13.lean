/-
  Texts laid together: Minus, Shift, Take, Co14, Co5, Eg2, Gb7, Gb8, Pa3, As9, Pa4, As10, Oq5, Bm1, Bs1, BlM, Tx6.
-/
import Derived.Test.YtdhpndnncmagiaaGreatDoorMa05
import Derived.Test.YtdhpndnncmagiaaGreatDoorMa06
import Derived.Test.YtdhpndnncmagiaaGreatDoorMa07
import Derived.Test.YtdhpndnncmagiaaGreatDoorMa08
import Derived.Test.YtdhpndnncmagiaaGreatDoorMa09
set_option maxRecDepth 100000
set_option maxHeartbeats 3200000
namespace Go.Proofs.YtdhpndnncmagiaaGreatDoor
open _root_.Go.Proofs.Tryz
open Go.RowKit
theorem zL (va vb:Value)(xs ys:List Nat)(w:World)(ha:Rd w .u32 va xs)(hb:Rd w .u32 vb ys)(sa:Dg.Small 4294967296 xs)(sb:Dg.Small 4294967296 ys)(hla:xs.length≤1000000)(hlb:ys.length≤xs.length)(hv:Dg.vl 4294967296 ys≤Dg.vl 4294967296 xs):
  yC 138 #[va,vb] w (Num w (Dg.vl 4294967296 xs-Dg.vl 4294967296 ys)):=by
 obtain⟨i0,hi,hz0,hz1,hz2⟩:=info_parts Tryz.infoU32;obtain⟨ao,ca,rfl,-,-,hca⟩:=ha;obtain⟨bo,cb,rfl,-,-,hcb⟩:=hb;have HV:Hid _:=hv;clear hv
 go_enter func138,ntmps138
 go_wp2_with (at_make;refine wpList_make_full _ rfl _ _ 64 rfl w.heap.size 116 i0 (.int .u32 0) 1 underlying64 hi hz0 hz1 _ _ _ _ xs.length rfl rfl (by omega) (by omega) ?b2 ?b3 (Nat.le_refl _) ?_)
 case b2=>rw[hz2];omega
 case b3=>unfold maxLen;omega
 intro w0 hown0 hgrow0;have own0:=gL hown0;have bel0:yB w w0:=(Below.refl _ _).grown hgrow0 (Nat.le_refl _) (fun k h=>by cases h)
 clear hown0 hgrow0
 go_wp2
 go_loopw [6,15] (fun cv kv wr=> ∃(k c:Nat) (ps:List Nat),k≤ys.length∧kv=yi k∧cv= .int .u32 c∧Own wr w.heap.size 116 .u32 (.slice (some ⟨w.heap.size,0,none⟩) xs.length xs.length) ps∧Z7 xs ys ps k c∧yB w wr)
  (fun _ kv _=>ys.length-(intOf kv).toNat)
 case atStart=>exact⟨0,0,_,Nat.zero_le _,rfl,rfl,own0,⟨by simp,Dg.small_replicate _ _ (by omega),by omega,by simp[Dg.vl]⟩,bel0⟩
 case round=>
  clear own0 bel0;obtain⟨k,c,ps,hkl,rfl,rfl,own,hI,bel⟩:=hrel;have hpl:=hI.1;have hcl:=hI.2.2.1
  by_cases hlt:k<ys.length
  ·obtain⟨b,off,rfl,hcell⟩:=hca (by omega)
   obtain⟨b2,off2,rfl,hcell2⟩:=hcb (by omega);have hx:=cell_later bel (hcell k (by omega));have hy:=cell_later bel (hcell2 k (by omega));have hp:=own.c k (by omega);have hf:=own.f k;have hxl:=sa k;have hyl:=sb k;obtain⟨x,ex⟩: ∃x,xs.getD k 0=x:=⟨_,rfl⟩;obtain⟨y,ey⟩: ∃y,ys.getD k 0=y:=⟨_,rfl⟩;have hst:=Jq hI (by omega) ex ey (by omega) (by omega);rw[ex] at hx hxl;rw[ey] at hy hyl;clear ex ey hcell hcell2 hca hcb
   go_wp2_with fail
   refine(zA x y c _ hxl hyl hcl).mono ?_;rintro e w' ⟨rfl,rfl⟩
   go_wp2
   go_roundw
   case rel=>exact⟨k+1,_,_,by omega,by go_num,rfl,own.store k _,hst,bel.setCell (by exact Nat.le_refl _) _⟩
   case measure=>simp[intOf];omega
  ·have hk:k=ys.length:=by omega
   subst hk
   go_wp2
   go_loopw [6,9] (fun cv kv wr=> ∃(k c:Nat) (ps:List Nat),ys.length≤k∧k≤xs.length∧kv=yi k∧cv= .int .u32 c∧Own wr w.heap.size 116 .u32 (.slice (some ⟨w.heap.size,0,none⟩) xs.length xs.length) ps∧Z7 xs ys ps k c∧yB w wr)
    (fun _ kv _=>xs.length-(intOf kv).toNat)
   case atStart=>exact⟨ys.length,c,ps,Nat.le_refl _,by omega,rfl,rfl,own,hI,bel⟩
   case round=>
    clear own hI bel hpl hcl;obtain⟨k,c,ps,hky,hkl,rfl,rfl,own,hI,bel⟩:=hrel;have hpl:=hI.1;have hcl:=hI.2.2.1
    by_cases hlt:k<xs.length
    ·obtain⟨b,off,rfl,hcell⟩:=hca (by omega)
     have hx:=cell_later bel (hcell k (by omega));have hp:=own.c k (by omega);have hf:=own.f k;have hxl:=sa k;obtain⟨x,ex⟩: ∃x,xs.getD k 0=x:=⟨_,rfl⟩;have hst:=Jq hI (by omega) ex (Dg.getD_of_le ys k hky) (by omega) (by omega);rw[ex] at hx hxl;clear ex hcell hca hcb
     go_wp2_with fail
     refine(zA x 0 c _ hxl (by omega) hcl).mono ?_;rintro e w' ⟨rfl,rfl⟩
     go_wp2
     go_roundw
     case rel=>exact⟨k+1,_,_,by omega,by omega,by go_num,rfl,own.store k _,hst,bel.setCell (by exact Nat.le_refl _) _⟩
     case measure=>simp[intOf];omega
    ·have hk:k=xs.length:=by omega
     subst hk;have hen:=Z8 hI (by omega) HV.out;have rd:=own.rd
     go_wp2_with fail
     refine(jD _ _ _ _ _ rd).mono ?_;rintro e w' ⟨m,rfl,hm,rfl⟩;have ht:=jW 4294967296 (by omega) own hI.2.1 hm;rw[hen] at ht;clear rd hen own
     go_wp2
     go_ret
     exact⟨_,rfl,ht,bel⟩
theorem Dj (va:Value)(xs:List Nat)(n wh pt:Nat)(w:World)(ha:Rd w .u32 va xs)(sa:Dg.Small 4294967296 xs)(hla:xs.length≤1000000)(hn:n=32*wh+pt)(hpt:pt<32)(hnl:n≤100000000):
  yC 82 #[va,yi n] w (Num w (Dg.vl 4294967296 xs/2^n)):=by
 have hPQ:2^pt*2^ (32-pt)=4294967296:=by rw[←Nat.pow_add,show pt+(32-pt)=32 from by omega]
 have hpw:4294967296^wh*2^pt=2^n:=by rw[hn,Nat.pow_add,Nat.pow_mul]
 obtain⟨ao,ca,rfl,-,-,hca⟩:=ha;obtain⟨i0,hi,hz0,hz1,hz2⟩:=info_parts Tryz.infoU32;have hq:(n:Int)/32=(wh:Int):=by omega
 have hr:(n:Int) % 32=(pt:Int):=by omega
 have hwl:wh≤100000000:=by omega
 have HPQ:Hid _:=hPQ;have HPW:Hid _:=hpw
 by_cases hge:xs.length≤wh
 ·have hz:Dg.vl 4294967296 xs/2^n=0:=by
   apply Nat.div_eq_of_lt;have h1:=Dg.vl_lt 4294967296 xs sa;have h2:4294967296^xs.length≤4294967296^wh:=Nat.pow_le_pow_right (by omega) hge;have h3:4294967296^wh≤4294967296^wh*2^pt:=Nat.le_mul_of_pos_right _ (Nat.pow_pos (by omega));omega
  rw[hz];clear hz hn hPQ hpw
  go_enter func82,ntmps82
  go_wp2
  go_ret
  exact⟨_,rfl,aQ _ _ _ _,Below.refl _ _⟩
 ·clear hn hPQ hpw
  obtain⟨L,hL⟩: ∃L,xs.length-wh=L:=⟨_,rfl⟩
  go_enter func82,ntmps82
  go_wp2_with (at_make;refine wpList_make_full _ rfl _ _ 64 rfl w.heap.size 116 i0 (.int .u32 0) 1 underlying64 hi hz0 hz1 _ _ _ _ (xs.length-wh) rfl rfl (by omega) (by omega) ?b2 ?b3 (Nat.le_refl _) ?_)
  case b2=>rw[hz2];omega
  case b3=>unfold maxLen;omega
  intro w0 hown0 hgrow0;have own0:=gL hown0;have bel0:yB w w0:=(Below.refl _ _).grown hgrow0 (Nat.le_refl _) (fun k h=>by cases h)
  have HL:Hid _:=hL;have hLx:wh+L=xs.length:=by omega
  have HLX:Hid _:=hLx;have hLl:L≤1000000:=by omega
  clear hown0 hgrow0 hL hLx
  go_wp2
  go_loopw [24] (fun kv wr=> ∃(k:Nat) (ds:List Nat),k≤L∧kv=yi k∧Own wr w.heap.size 116 .u32 (.slice (some ⟨w.heap.size,0,none⟩) L L) ds∧abK xs ds wh (2^pt) (2^ (32-pt)) k∧yB w wr) (fun kv _=>L-(intOf kv).toNat)
  case atStart=>
   refine⟨0,_,Nat.zero_le _,rfl,own0,⟨by have:=HL.out;simp;omega,fun j=> ?_⟩,bel0⟩
   rw[if_neg (by omega)]
   by_cases h:j<L<;>simp[List.getD_eq_getElem?_getD,h]
  case round=>
   clear own0 bel0;obtain⟨k,ds,hk,rfl,own,hI,bel⟩:=hrel;have hul:ds.length=L:=hI.1.trans HL.out
   by_cases hlt:k<L
   ·have hwk:wh+k<xs.length:=by have:=HLX.out;omega
    obtain⟨b,off,rfl,hcell⟩:=hca (by omega);have hx:=cell_later bel (hcell (wh+k) hwk);have hy:=fun h:wh+k+1<xs.length=>cell_later bel (hcell (wh+k+1) h)
    have hxl:=sa (wh+k);have hu:=own.c k (by omega);have hf:=own.f k;have hy0: ¬wh+k+1<xs.length→xs.getD (wh+k+1) 0=0:=fun h=>Dg.getD_of_le _ _ (by omega)
    have hst:=Y9 hI (by have:=HL.out;omega) rfl;obtain⟨x,ex⟩: ∃x,xs.getD (wh+k) 0=x:=⟨_,rfl⟩;obtain⟨y,ey⟩: ∃y,xs.getD (wh+k+1) 0=y:=⟨_,rfl⟩;rw[ex] at hx hxl hst;rw[ey] at hy hy0 hst;clear ex ey hcell hca hul
    by_cases h2:wh+k+1<xs.length
    ·have hy1:=hy h2
     have hor:=adm x y pt hpt hxl;have HO:Hid _:=hor;clear hy hy0 hor
     go_wp2
     go_region
     all_goals go_wp2
     all_goals go_roundw
     case rel=>
      have e1:(x:Int)/2^pt=((x/2^pt:Nat):Int):=by rw[Int.natCast_ediv,Int.natCast_pow];rfl
      rw[HO.out,e1];have o2:=(own.store k (x/2^pt)).store k (x/2^pt+y % 2^pt*2^ (32-pt));rw[List.set_set] at o2;exact⟨k+1,_,by omega,by go_num,Own.l o2 (Below.drew (Below.refl _ _)),hst,((bel.setCell (by exact Nat.le_refl _) _).setCell (by exact Nat.le_refl _) _).drew⟩
     case measure=>simp[intOf];omega
    ·have hy1:=hy0 h2
     subst hy1;simp only[Nat.zero_mod,Nat.zero_mul,Nat.add_zero] at hst;clear hy hy0
     go_wp2
     go_roundw
     case rel=>
      have e1:(x:Int)/2^pt=((x/2^pt:Nat):Int):=by rw[Int.natCast_ediv,Int.natCast_pow];rfl
      rw[e1];exact⟨k+1,_,by omega,by go_num,own.store k _,hst,bel.setCell (by exact Nat.le_refl _) _⟩
     case measure=>simp[intOf];omega
   ·have hke:k=L:=by omega
    subst hke;have hen:=abL (by rw[HL.out];exact hI) (by have:=HLX.out;omega) HPQ.out sa;have hv:=hen.2;rw[HPW.out] at hv;have HV:Hid _:=hv;have hps:=hen.1;clear hul hv hen
    go_wp2_with fail
    refine(jD _ _ _ ds _ own.rd).mono ?_;rintro e w' ⟨m,rfl,hm,rfl⟩;have ht:=jW 4294967296 (by omega) own hps hm;rw[HV.out] at ht;clear hm
    go_wp2
    go_ret
    exact⟨_,rfl,ht,bel⟩
theorem eO (va:Value)(xs:List Nat)(n:Int)(w:World)(ha:Rd w .u32 va xs)(sa:Dg.Small 4294967296 xs)(hla:xs.length≤1000000)(h1: -1000000≤n)(h2:n≤1000000):
  yC 47 #[va,yi n] w (Num w (shN (Dg.vl 4294967296 xs) n)):=by
 unfold shN
 by_cases hn:n<0
 ·rw[if_pos hn]
  obtain⟨m,hm⟩: ∃m:Nat,-n=(m:Int):=⟨(-n).toNat,by omega⟩;have hl:=Dj va xs m (m/32) (m % 32) w ha sa hla (by omega) (by omega) (by omega);rw[hm,Int.toNat_natCast]
  go_enter func47,ntmps47
  go_wp2_with fail
  refine hl.mono ?_;rintro e w1 ⟨v,rfl,own,bel⟩
  go_wp2
  go_ret
  exact⟨_,rfl,own,bel⟩
 ·rw[if_neg hn]
  obtain⟨m,rfl⟩: ∃m:Nat,n=(m:Int):=⟨n.toNat,by omega⟩;rw[Int.toNat_natCast]
  by_cases hne:xs=[]
  ·subst hne
   obtain⟨ao,ca,rfl⟩:=ha.shape;have hz:Dg.vl 4294967296 []*2^m=0:=by simp[Dg.vl]
   rw[hz]
   go_enter func47,ntmps47
   go_wp2
   go_ret
   exact⟨_,rfl,aQ _ _ _ _,Below.refl _ _⟩
  ·have hl:=vO va xs m (m/32) (m % 32) (2^ (m % 32)) w ha sa hla (by omega) (by omega) rfl (by omega) hne
   go_enter func47,ntmps47
   go_wp2_with fail
   refine hl.mono ?_;rintro e w1 ⟨v,rfl,own,bel⟩
   go_wp2
   go_ret
   exact⟨_,rfl,own,bel⟩
theorem H7 (g N i pc base t:Nat)(R ys:List Nat)(vb:Value)(w:World)(ho:Own w base 116 .u32 (.slice (some ⟨g,0,none⟩) N N) R)(sR:Dg.Small 4294967296 R)(sb:Dg.Small 4294967296 ys)
  (hby: ∀w',w.grownBy w' (some g)→Rd w' .u32 vb ys) (hl:i+ys.length<R.length) (ht:t<4294967296) (hRl:R.length≤2000000):
  yC 154 #[.slice (some ⟨g,i,none⟩) (ys.length+1) pc,vb,.int .u32 t] w fun e w'=>
   ∃(b:Nat) (cur:List Nat),e= .returned (.bool (decide (b=1)))∧acc R cur ys i t b∧Own w' base 116 .u32 (.slice (some ⟨g,0,none⟩) N N) cur∧w.grownBy w' (some g):=by
 obtain⟨bo,cb,rfl⟩:=(hby w (ib _ _)).shape;have HBY:Hid _:=hby
 clear hby
 go_enter func154,ntmps154
 go_wp2
 go_loopw [7,8,14] (fun cv bv kv wr=> ∃(k c b:Nat) (cur:List Nat),k≤ys.length∧kv=yi k∧cv= .int .u64 c∧bv= .int .u32 b∧Own wr base 116 .u32 (.slice (some ⟨g,0,none⟩) N N) cur∧SX R cur ys i t k c b∧w.grownBy wr (some g)) (fun _ _ kv _=>ys.length-(intOf kv).toNat)
 case atStart=>exact⟨0,0,0,R,Nat.zero_le _,rfl,rfl,rfl,ho,⟨rfl,sR,by omega,by omega,fun _ _=>rfl,by simp[Dg.vl]⟩,ib _ _⟩
 case round=>
  clear ho;obtain⟨k,c,b,cur,hk,rfl,rfl,rfl,own,hI,gr⟩:=hrel;have hcl:=hI.1;have hc32:=hI.2.2.1;have hb1:=hI.2.2.2.1
  by_cases hlt:k<ys.length
  ·obtain⟨-,-,hcb⟩:=iQ (HBY.out wr gr)
   obtain⟨b2,off2,rfl,hcell2⟩:=hcb (by omega);have hy:=hcell2 k hlt;have hyl:=sb k;have hp:=own.c (i+k) (by omega);have hf:=own.f (i+k);rw[hI.2.2.2.2.1 _ (Nat.le_refl _)] at hp;have hpl:=sR (i+k);obtain⟨y,ey⟩: ∃y,ys.getD k 0=y:=⟨_,rfl⟩;obtain⟨p,ep⟩: ∃p,R.getD (i+k) 0=p:=⟨_,rfl⟩;rw[ey] at hy hyl;rw[ep] at hp hpl;have hxy:=uf hyl ht;have hxyI:(y:Int)*(t:Int)≤18446744065119617025:=by rw[←Int.natCast_mul];omega
   have hxy0:0≤(y:Int)*(t:Int):=by rw[←Int.natCast_mul];omega
   have hst:=VS hI hlt (by omega) ey ep hpl rfl (by omega);have hlo:(c+y*t) % 4294967296<4294967296:=Nat.mod_lt _ (by omega);have hs32:=zA p ((c+y*t) % 4294967296) b wr hpl hlo hb1;rw[←Sd] at hs32;have HST:Hid _:=hst;obtain⟨nw,hnw⟩: ∃nw,(p+4294967296-(c+y*t) % 4294967296-b) % 4294967296=nw:=⟨_,rfl⟩;obtain⟨nb,hnb⟩: ∃nb,brw p ((c+y*t) % 4294967296) b=nb:=⟨_,rfl⟩;rw[hnw,hnb] at hs32 HST;clear ey ep hcell2 hcb hst hlo hcl hnw hnb
   go_wp2_with fail
   refine hs32.mono ?_;rintro e w' ⟨rfl,rfl⟩;clear hs32
   go_wp2
   go_roundw
   case rel=>
    rw[Se];exact⟨k+1,_,nb,_,by omega,by go_num,rfl,rfl,own.store (i+k) _,HST.out,eF gr (bI _ _ _ _)⟩
   case measure=>simp[intOf];omega
  ·have hke:k=ys.length:=by omega
   subst hke;have hp:=own.c (i+ys.length) (by omega);have hf:=own.f (i+ys.length);rw[hI.2.2.2.2.1 _ (Nat.le_refl _)] at hp;have hpl:=sR (i+ys.length);obtain⟨p,ep⟩: ∃p,R.getD (i+ys.length) 0=p:=⟨_,rfl⟩;rw[ep] at hp hpl;have hst:=VT hI hl ep hpl;have hs32:=zA p c b wr hpl hc32 hb1;have hbl:=RN p c b;obtain⟨nw,hnw⟩: ∃nw,(p+4294967296-c-b) % 4294967296=nw:=⟨_,rfl⟩;obtain⟨nb,hnb⟩: ∃nb,brw p c b=nb:=⟨_,rfl⟩;rw[hnw,hnb] at hs32 hst;rw[hnb] at hbl;have HST:Hid (acc R (cur.set (i+ys.length) nw) ys i t nb):=⟨hst.1,hst.2.1,hst.2.2.1,hbl,hst.2.2.2⟩;have own2:=own.store (i+ys.length) nw;have gr2:=eF gr (bI wr g (i+ys.length) (.int .u32 (nw:Int)));clear ep hst hcl hnw hnb
   go_wp2_with fail
   refine hs32.mono ?_;rintro e w' ⟨rfl,rfl⟩;clear hs32
   by_cases hz:nb=0
   ·subst hz
    go_wp2
    go_ret
    exact⟨0,_,rfl,HST,own2,gr2⟩
   ·have hz1:nb=1:=by omega
    subst hz1
    go_wp2
    go_ret
    exact⟨1,_,rfl,HST,own2,gr2⟩
theorem S5 {k:Nat}(s:ByteArray):aR k s<2^exN k:=gh _ _ _
theorem GM {k:Nat}(hk:1≤k∧k≤8)(s:ByteArray):aR k s<65536:=by
 have h1:=S5 (k:=k) s;have h2:(2:Nat)^exN k≤2^15:=Nat.pow_le_pow_right (by omega) (fZ hk).2.1;omega
theorem S6 {k:Nat}(s:ByteArray):aU k s<2^frN k:=gh _ _ _
theorem vW {k:Nat}(hk:1≤k∧k≤8)(s:ByteArray):aU k s<18446744073709551616:=by
 have h1:=S6 (k:=k) s;have h2:(2:Nat)^frN k≤2^64:=Nat.pow_le_pow_right (by omega) (fZ hk).2.2.2.1;omega
theorem oT (n:Int)(w:World)(h:dK n=0):yC 21 #[yi n] w (yR w (.tuple #[yhV 0 0 0 0 0 0 0 false 0,.bool false])):=by
 have hn:n<1∨8<n:=by
  unfold dK at h
  by_cases c:n<1∨8<n
  ·exact c
  ·rw[if_neg c] at h
   split at h
   ·omega
   ·split at h<;>omega
 clear h;have e1:(n==1)=false:=by simp;omega
 have e2:(n==2)=false:=by simp;omega
 have e3:(n==3)=false:=by simp;omega
 have e4:(n==4)=false:=by simp;omega
 have e5:(n==5)=false:=by simp;omega
 have e6:(n==6)=false:=by simp;omega
 have e7:(n==7)=false:=by simp;omega
 have e8:(n==8)=false:=by simp;omega
 have l0:=ah w (yhL 0 0 0 0 0 0 0 false 0) 51;have b0:=af w (.cells (yhA 0 0 0 0 0 0 0 false 0) 51);have hl:=run_loadVar_mid (P:=Tryz.prog) _ w.heap.size 0 51 (yhL 0 0 0 0 0 0 0 false 0) _ l0.range underlying51 rfl (by kernel_rfl);have HH:Hid (_∧_):=⟨hl,b0⟩;clear hl b0 l0
 go_enter func21,ntmps21
 go_wp2
 obtain⟨hl,bR⟩:=HH.out;exact bodyPost_ret (aj results21 rfl rfl hl) rfl ⟨rfl,bR⟩
theorem LC (w:World):yC 21 #[yi 4] w (yR w (.tuple #[yhV 4 7 24 16 6 (-70) 57 false 2,.bool true])):=by
 have l0:=ah w (yhL 4 7 24 16 6 (-70) 57 false 2) 51;have b0:=af w (.cells (yhA 4 7 24 16 6 (-70) 57 false 2) 51);have hl:=run_loadVar_mid (P:=Tryz.prog) _ w.heap.size 0 51 (yhL 4 7 24 16 6 (-70) 57 false 2) _ l0.range underlying51 rfl (by kernel_rfl);have HH:Hid (_∧_):=⟨hl,b0⟩;clear hl b0 l0
 go_enter func21,ntmps21
 go_wp2
 obtain⟨hl,bR⟩:=HH.out;exact bodyPost_ret (aj results21 rfl rfl hl) rfl ⟨rfl,bR⟩
theorem LD (w:World):yC 21 #[yi 5] w (yR w (.tuple #[yhV 8 7 56 16 14 (-78) 49 false 2,.bool true])):=by
 have l0:=ah w (yhL 8 7 56 16 14 (-78) 49 false 2) 51;have b0:=af w (.cells (yhA 8 7 56 16 14 (-78) 49 false 2) 51);have hl:=run_loadVar_mid (P:=Tryz.prog) _ w.heap.size 0 51 (yhL 8 7 56 16 14 (-78) 49 false 2) _ l0.range underlying51 rfl (by kernel_rfl);have HH:Hid (_∧_):=⟨hl,b0⟩;clear hl b0 l0
 go_enter func21,ntmps21
 go_wp2
 obtain⟨hl,bR⟩:=HH.out;exact bodyPost_ret (aj results21 rfl rfl hl) rfl ⟨rfl,bR⟩
theorem AE {t:ak}(h0:t.n≠0):(Dg.dg 65536 (bare t).n).length≤(Dg.dg 65536 t.n).length∧t.e≤(bare t).e∧(bare t).e≤t.e+(bitLen t.n:Int):=by
 obtain⟨-,h2,h3⟩:=gN h0;refine⟨IZ (kR t),by omega,by omega⟩
theorem aeR (n way f1 e1:Int)(a b st:ByteArray)(w:World)
  (HR: ∀pb w1,yB w w1→au w1 pb 9 [.string a,.string b]→yC 33 #[yi n,yi way,.func (.func 169) #[] #[],.slice (some ⟨pb,0,none⟩) 2 2] w1 (yR w1 (.tuple #[.string st,yi f1,yi e1]))):
  yC 98 #[yi n,.string a,.string b,yi way] w (yR w (.tuple #[.string st,yi f1,yi e1])):=by
 replace HR:Hid _:=HR
 go_enter func98,ntmps98
 have b0:=Below.refl w.heap.size w;have al1:=af w (.cells #[.string a,.string b] 9);have q2:=ah w [.string a,.string b] 9;have b3:=aa b0 al1
 go_wp2_with fail
 refine(HR.out _ _ b3 q2).mono ?_;rintro zz w4 ⟨rfl,bb5⟩;have b6:=aa b3 bb5;clear q2 b3 bb5 b0 al1
 go_wp2
 go_ret3
 exact⟨rfl,b6⟩
theorem Rk (n way er:Int)(F m:Nat)(pb:Nat)(w:World)(he:(er==0)=false)
  (HD:yJ 60 #[yi n] (.tuple #[ykV 0 0 0 0 0 0 0 false,yi er])):
  yC 33 #[yi n,yi way,.func (.func F) #[] #[],.slice (some ⟨pb,0,none⟩) m m] w (yR w (.tuple #[.string ⟨#[]⟩,yi 0,yi er])):=by
 replace HD:Hid _:=HD
 go_enter func33,ntmps33
 have b0:=Below.refl w.heap.size w
 go_wp2_with fail
 refine(HD.out _).mono ?_;rintro zz w1 ⟨rfl,bb2⟩;have b3:=aa b0 bb2;clear b0 bb2 HD;obtain⟨W7,hW6,q5,al4⟩:=cA w1 (ykL 0 0 0 0 0 0 0 false) 83;replace hW6:Hid _:=hW6;have hl8:w.heap.size≤w1.heap.size:=b3.size;have b9:=aa b3 al4;clear b3 al4 q5
 go_upto_region 2 with fail
 rw[hW6.out];clear hW6
 go_wp2
 go_ret3
 exact⟨rfl,b9⟩
theorem Rl (er:Int)(n R D L G fam way:Int)(gr:Bool)(F m:Nat)(pb:Nat)(w:World)(he:(er==0)=false)
  (HD:yJ 60 #[yi n] (.tuple #[ykV n 0 fam R D L G gr,yi 0]))
  (HO:yH w 64 #[ykV n 0 fam R D L G gr,.slice (some ⟨pb,0,none⟩) m m] (.tuple #[yN,yi er])):
  yC 33 #[yi n,yi way,.func (.func F) #[] #[],.slice (some ⟨pb,0,none⟩) m m] w (yR w (.tuple #[.string ⟨#[]⟩,yi 0,yi er])):=by
 replace HD:Hid _:=HD;replace HO:Hid _:=HO
 go_enter func33,ntmps33
 have b0:=Below.refl w.heap.size w
 go_wp2_with fail
 refine(HD.out _).mono ?_;rintro zz w1 ⟨rfl,bb2⟩;have b3:=aa b0 bb2;clear b0 bb2 HD;obtain⟨W7,hW6,q5,al4⟩:=cA w1 (ykL n 0 fam R D L G gr) 83;replace hW6:Hid _:=hW6;have hl8:w.heap.size≤w1.heap.size:=b3.size;have b9:=aa b3 al4;clear b3 al4
 go_upto_region 2 with fail
 rw[hW6.out];clear hW6;obtain⟨c10,c11,c12,c13,c14,c15,c16,c17⟩:=q5.cs8
 go_wp2_with fail
 refine(HO.out _ b9).mono ?_;rintro zz w18 ⟨rfl,bb19⟩;have b20:=aa b9 bb19;clear q5 b9 bb19 HO c10 c11 c12 c13 c14 c15 c16 c17
 go_wp2
 go_ret3
 exact⟨rfl,b20⟩
theorem NX (n R D L G fam way:Int)(gr:Bool)(F m:Nat)(ps:List ByteArray)(pb:Nat)(w:World)(hw:way<1)
  (HD:yJ 60 #[yi n] (.tuple #[ykV n 0 fam R D L G gr,yi 0]))
  (HO: ∀w1,yB w w1→yC 64 #[ykV n 0 fam R D L G gr,.slice (some ⟨pb,0,none⟩) m m] w1 fun z w'=> ∃g cap,z= .returned (.tuple #[.slice (some ⟨g,0,none⟩) m cap,yi 0])∧sF w' n ps g cap∧w1.heap.size≤g∧yB w1 w'):
  yC 33 #[yi n,yi way,.func (.func F) #[] #[],.slice (some ⟨pb,0,none⟩) m m] w (yR w (.tuple #[.string ⟨#[]⟩,yi 0,yi 6])):=by
 replace HD:Hid _:=HD;replace HO:Hid _:=HO
 go_enter func33,ntmps33
 have b0:=Below.refl w.heap.size w
 go_wp2_with fail
 refine(HD.out _).mono ?_;rintro zz w1 ⟨rfl,bb2⟩;have b3:=aa b0 bb2;clear b0 bb2 HD;obtain⟨W7,hW6,q5,al4⟩:=cA w1 (ykL n 0 fam R D L G gr) 83;replace hW6:Hid _:=hW6;have hl8:w.heap.size≤w1.heap.size:=b3.size;have b9:=aa b3 al4;clear b3 al4
 go_upto_region 2 with fail
 rw[hW6.out];clear hW6;obtain⟨c10,c11,c12,c13,c14,c15,c16,c17⟩:=q5.cs8;have hq:=q5.lt
 go_wp2_with fail
 refine(HO.out _ b9).mono ?_;rintro zz w18 ⟨g,cap,rfl,r120,hgw,bb19⟩;have b21:=aa b9 bb19;clear q5 b9 bb19 HO c10 c11 c12 c13 c14 c15 c16 c17
 go_wp2
 go_ret3
 exact⟨rfl,b21⟩
theorem NY (n R D L G fam way:Int)(gr:Bool)(F m:Nat)(ps:List ByteArray)(pb:Nat)(w:World)(hw: ¬way<1)(hv:5<way)
  (HD:yJ 60 #[yi n] (.tuple #[ykV n 0 fam R D L G gr,yi 0]))
  (HO: ∀w1,yB w w1→yC 64 #[ykV n 0 fam R D L G gr,.slice (some ⟨pb,0,none⟩) m m] w1 fun z w'=> ∃g cap,z= .returned (.tuple #[.slice (some ⟨g,0,none⟩) m cap,yi 0])∧sF w' n ps g cap∧w1.heap.size≤g∧yB w1 w'):
  yC 33 #[yi n,yi way,.func (.func F) #[] #[],.slice (some ⟨pb,0,none⟩) m m] w (yR w (.tuple #[.string ⟨#[]⟩,yi 0,yi 6])):=by
 replace HD:Hid _:=HD;replace HO:Hid _:=HO
 go_enter func33,ntmps33
 have b0:=Below.refl w.heap.size w
 go_wp2_with fail
 refine(HD.out _).mono ?_;rintro zz w1 ⟨rfl,bb2⟩;have b3:=aa b0 bb2;clear b0 bb2 HD;obtain⟨W7,hW6,q5,al4⟩:=cA w1 (ykL n 0 fam R D L G gr) 83;replace hW6:Hid _:=hW6;have hl8:w.heap.size≤w1.heap.size:=b3.size;have b9:=aa b3 al4;clear b3 al4
 go_upto_region 2 with fail
 rw[hW6.out];clear hW6;obtain⟨c10,c11,c12,c13,c14,c15,c16,c17⟩:=q5.cs8;have hq:=q5.lt
 go_wp2_with fail
 refine(HO.out _ b9).mono ?_;rintro zz w18 ⟨g,cap,rfl,r120,hgw,bb19⟩;have b21:=aa b9 bb19;clear q5 b9 bb19 HO c10 c11 c12 c13 c14 c15 c16 c17
 go_wp2
 go_ret3
 exact⟨rfl,b21⟩
abbrev opV (c:Int)(g:Bool)(t:ak)(o:Option Addr)(k:Nat):Value:=(yOV c g t o k)
theorem acw (n way f1 e1:Int)(a b st:ByteArray)(w:World)
  (HR: ∀pb w1,yB w w1→au w1 pb 9 [.string a,.string b]→yC 33 #[yi n,yi way,.func (.func 34) #[] #[],.slice (some ⟨pb,0,none⟩) 2 2] w1 (yR w1 (.tuple #[.string st,yi f1,yi e1]))):
  yC 15 #[yi n,.string a,.string b,yi way] w (yR w (.tuple #[.string st,yi f1,yi e1])):=by
 replace HR:Hid _:=HR;have al:=af w (.cells #[.string a,.string b] 9);have ln:=ah w [.string a,.string b] 9
 go_enter func15,ntmps15
 go_wp2_with fail
 refine(HR.out _ _ al ln).mono ?_;rintro z w1 ⟨rfl,b1⟩;have b2:=aa al b1
 go_wp2
 go_ret3
 exact⟨rfl,b2⟩
def jA:ByteArray:=cF [63,128,0,0]
def tE:ByteArray:=cF [64,0,0,0]
theorem IQ:dF 1 jA=0∧bM 1 jA=2∧dz 1 jA=false∧opT 1 jA=⟨false,1,0⟩:=by
 refine⟨?_, ?_, ?_, ?_⟩<;>kernel_rfl
theorem I3 {a b:ak}{A B:Nat}{H:Int}(ha:a.n<2^A)(hb:b.n<2^B)(h1:a.e+A≤H)(h2:b.e+B≤H):(aG a b).e=min a.e b.e∧(aG a b).e+(bitLen (aG a b).n:Int)≤H+1:=by
 obtain⟨e,he⟩: ∃e,min a.e b.e=e:=⟨_,rfl⟩;have x1:a.n*2^ (a.e-e).toNat<2^ (H-e).toNat:=by
  refine zw (a:=A+(a.e-e).toNat) ?_ (by omega);rw[Nat.pow_add];exact Nat.mul_lt_mul_of_pos_right ha (bG _)
 have y1:b.n*2^ (b.e-e).toNat<2^ (H-e).toNat:=by
  refine zw (a:=B+(b.e-e).toNat) ?_ (by omega);rw[Nat.pow_add];exact Nat.mul_lt_mul_of_pos_right hb (bG _)
 have key:(aG a b).e=e∧(aG a b).n<2^ ((H-e).toNat+1):=by
  unfold aG;simp only;rw[he,Nat.pow_succ]
  split
  ·exact⟨rfl,by show _+_<_;omega⟩
  ·split
   ·exact⟨rfl,by show _-_<_;omega⟩
   ·exact⟨rfl,by show _-_<_;omega⟩
 have:=bF _ _ key.2;refine⟨key.1.trans he.symm, ?_⟩;rw[key.1];omega
theorem xt {t:ak}{sg:Bool}(hn:sH t)(h:(nu t sg).1=2):(nu t sg).2.2.1.n≠0∧sH (nu t sg).2.2.1:=by
 have h0:t.n≠0:=fun c=>by
  have:vI t=2:=h;unfold vI at this;rw[if_pos c] at this;omega
 have e:(nu t sg).2.2.1=t:=if_neg h0;rw[e];exact⟨h0,hn⟩
theorem jB {t:ak}(h:iZ t):Mid t:=⟨jq h.1 (by omega),by have:=h.2;omega,by have:=h.2;omega⟩
theorem rJ {x y:ak}(hx:iZ x)(hy:iZ y):sH (aG x y)∧sH (aK x y)∧(aK x y).n<2^128∧ -33000≤(aK x y).e∧(aK x y).e≤33000:=by
 obtain⟨x1,x2,x3⟩:=hx;obtain⟨y1,y2,y3⟩:=hy;have hp:=I3 (H:=16564) x1 y1 (by omega) (by omega);have ht:(aK x y).n<2^128:=by
  show x.n*y.n<_
  rw[show(128:Nat)=64+64 from rfl,Nat.pow_add]
  exact Nat.mul_lt_mul'' x1 y1
 have hb:=bF _ _ ht;have he:(aK x y).e=x.e+y.e:=rfl;refine⟨⟨by omega,by omega⟩,⟨by omega,by omega⟩,ht,by omega,by omega⟩
theorem Ig {P:Program}(W:World)(e src dst:TypeId)(zs:List Nat)(hs:P.underlying src=some (.slice e))(he:P.underlying e=some (.int .u8))(hd:P.underlying dst=some .string)(hm:zs.length≤maxLen):
  (convert src dst (.slice (some ⟨W.heap.size,0,none⟩) zs.length zs.length)).run P (W.alloc (.cells (zs.map (fun n:Nat=>Value.int .u8 (n:Int))).toArray e))= .ok (.string (cF zs)) (W.alloc (.cells (zs.map (fun n:Nat=>Value.int .u8 (n:Int))).toArray e)):=
 lQ src dst hs he hd (pr (base:=W.heap.size) (heap_alloc_new _ _) (Nat.le_refl _) hm)
theorem zl {n:Int}{p:ByteArray}(h:dF n p=0):1≤bM n p∧bM n p≤5:=by
 unfold bM;rw[if_pos h];have:=DV n.toNat (aZ n.toNat p) (aR n.toNat p) (aU n.toNat p);omega
def bJ (a b:ak):Int:=dJ (aG a (dV b))
def hiI (x:Nat→ak):Nat→Nat
 |0=>0
 |i+1=>if 0<bJ (x (i+1)) (x (hiI x i)) then i+1 else hiI x i
theorem mL.apart3 {w:World}{b c:Nat}{v0 v1 v2 v3 v4 v5:Value}(h:mL w b v0 v1 v2 v3 v4 v5)(hne:c≠b)(x0 x1 x2:Value):
  mL (((w.setCell ⟨c,0,none⟩ x0).setCell ⟨c,1,none⟩ x1).setCell ⟨c,2,none⟩ x2) b v0 v1 v2 v3 v4 v5:=by
 obtain⟨hl,⟨c0,c1,c2,c3,c4,c5⟩,f0,f1,f2,f3,f4,f5⟩:=h;refine⟨by simpa using hl,⟨?_, ?_, ?_, ?_, ?_, ?_⟩,by simpa using f0,by simpa using f1,by simpa using f2,by simpa using f3,by simpa using f4,by simpa using f5⟩
 all_goals (rw[World.cell?_setCell_other (h:=by simp),World.cell?_setCell_other (h:=by simp),World.cell?_setCell_other (h:=by simp)];assumption)
def BT (W:World)(base:Nat)(v:Value):Prop:= ∃p,v= .pointer (some ⟨p,0,none⟩)∧base≤p∧mL W p (.bool false) yN (yi 0) (.bool false) yN (yi 0)∧ZB6 W p
theorem ZB.off {w w':World}{q b:Nat}(h:ZB w q)(hg:w.grownBy w' (some b))(hne:q≠b):ZB w' q:=by
 obtain⟨hl,ty,hh⟩:=h;exact⟨Nat.lt_of_lt_of_le hl hg.size,ty,(hg.block q hl (by intro e;cases e;exact hne rfl)).trans hh⟩
theorem ZB6.off {w w':World}{q b:Nat}(h:ZB6 w q)(hg:w.grownBy w' (some b))(hne:q≠b):ZB6 w' q:=by
 obtain⟨hl,ty,hh⟩:=h;exact⟨Nat.lt_of_lt_of_le hl hg.size,ty,(hg.block q hl (by intro e;cases e;exact hne rfl)).trans hh⟩
def raV (t:ByteArray):Bool×Nat×Nat×Int:=nrV (nmV t).1
end Go.Proofs.YtdhpndnncmagiaaGreatDoor

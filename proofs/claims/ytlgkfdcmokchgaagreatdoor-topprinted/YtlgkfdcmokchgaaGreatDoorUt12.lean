/-
  Texts laid together: Dz, DivBy, DecW, Shift, Co9, Co11, Co12, Gr1, Gm2, Gk2, Gr7, Co17, Gh2, Gh5, Ce4, Ce11, Cr11, Nx2, Tx5, Tx6, Ty4, Tx20, Tx26, Ty10.
-/
import Derived.Test.YtlgkfdcmokchgaaGreatDoorUt06
import Derived.Test.YtlgkfdcmokchgaaGreatDoorUt07
import Derived.Test.YtlgkfdcmokchgaaGreatDoorUt08
import Derived.Test.YtlgkfdcmokchgaaGreatDoorUt09
set_option maxRecDepth 100000
set_option maxHeartbeats 3200000
namespace Go.Proofs.YtlgkfdcmokchgaaGreatDoor
open _root_.Go.Proofs.Tryz
open Go.RowKit
theorem fH {K:Nat}{a b:ak}(ha: -(K:Int)≤a.e)(hb: -(K:Int)≤b.e)(h:V K a=V K b):bare a=bare b:=by
 rw[eV,eV] at h;have p1:0<2^ (a.e+K).toNat:=Nat.pow_pos (by omega);have p2:0<2^ (b.e+K).toNat:=Nat.pow_pos (by omega);unfold bare
 by_cases h0:a.n=0
 ·have:b.n=0:=by
   rw[h0,Nat.zero_mul] at h
   by_cases hb0:b.n=0
   ·exact hb0
   ·have hne:b.n*2^ (b.e+K).toNat≠0:=Nat.ne_of_gt (Nat.mul_pos (by omega) p2)
    have:=(QI h.symm hne).2;omega
  rw[if_pos h0,if_pos this]
 ·have hne:a.n*2^ (a.e+K).toNat≠0:=Nat.ne_of_gt (Nat.mul_pos (by omega) p1)
  obtain⟨hs,hm⟩:=QI h hne;have hb0:b.n≠0:=by
   intro e;rw[e,Nat.zero_mul] at hm;exact hne hm
  rw[if_neg h0,if_neg hb0];obtain⟨m,h1⟩:=fO h0;obtain⟨k,h2⟩:=fO hb0;have e1:=lI h1;have e2:=lI h2;have h3:2^ (tz a.n+(a.e+K).toNat)*(2*m+1)=2^ (tz b.n+(b.e+K).toNat)*(2*k+1):=by
   rw[Nat.pow_add,Nat.pow_add,Nat.mul_assoc,Nat.mul_comm (2^ (a.e+K).toNat),←Nat.mul_assoc,←h1,Nat.mul_assoc,Nat.mul_comm (2^ (b.e+K).toNat),←Nat.mul_assoc,←h2];exact hm
  obtain⟨h4,h5⟩:=Dh h3;rw[e1,e2,hs,h5];have:a.e+(tz a.n:Int)=b.e+(tz b.n:Int):=by omega
  rw[this]
theorem dw {K:Nat}{a:ak}(ha: -(K:Int)≤a.e):V K (bare a)=V K a:=by
 rw[eV,eV];unfold bare
 by_cases h:a.n=0
 ·rw[if_pos h,h];simp[sz]
 ·rw[if_neg h]
  obtain⟨m,h1⟩:=fO h;simp only;rw[lI h1];have:(a.e+(tz a.n:Int)+K).toNat=tz a.n+(a.e+K).toNat:=by omega
  rw[this,Nat.pow_add,←Nat.mul_assoc,Nat.mul_comm _ (2^tz a.n),←h1]
theorem adk {K:Nat}{a:ak}{e:Int}(h1: -(K:Int)≤e)(h2:e≤a.e):V K a=sz a.s (a.n*2^ (a.e-e).toNat)*((2^ (e+K).toNat:Nat):Int):=by
 rw[eV,Y5,Nat.mul_assoc,←Nat.pow_add];have:(a.e+K).toNat=(a.e-e).toNat+(e+K).toNat:=by omega
 rw[this]
theorem acz {K:Nat}{a:ak}{e:Int}(h1: -(K:Int)≤e)(h2:a.n=0∨e≤a.e):V K a=sz a.s (a.n*2^ (max 0 (a.e-e)).toNat)*((2^ (e+K).toNat:Nat):Int):=by
 rcases h2 with h2|h2
 ·rw[eV,h2,Nat.zero_mul,Nat.zero_mul];simp[sz]
 ·rw[adk h1 h2]
  have:max 0 (a.e-e)=a.e-e:=by omega
  rw[this]
theorem uG (g n cap base:Nat)(zs:List Nat)(d:Nat)(w:World)(ho:Own w base 54 .u32 (.slice (some ⟨g,0,none⟩) n cap) zs)(hs:Dg.Small 4294967296 zs)(hd:0<d)(hd2:d<4294967296)(hl:zs.length≤1000000):
  yC 71 #[.slice (some ⟨g,0,none⟩) n cap,.int .u32 d] w fun e w'=>
   ∃qs,e= .returned (.int .u32 ((Dg.vl 4294967296 zs % d:Nat):Int))∧Own w' base 54 .u32 (.slice (some ⟨g,0,none⟩) n cap) qs∧qs.length=zs.length∧Dg.Small 4294967296 qs∧Dg.vl 4294967296 qs=Dg.vl 4294967296 zs/d∧w.grownBy w' (some g):=by
 have hn:=ho.len;subst hn
 go_enter func71,ntmps71
 go_wp2
 go_loopw [5,6] (fun rv iv wr=> ∃(k r:Nat) (cur:List Nat),k≤zs.length∧iv=yi ((k:Int)-1)∧rv= .int .u32 r∧Own wr base 54 .u32 (.slice (some ⟨g,0,none⟩) zs.length cap) cur∧acQ zs cur d k r∧w.grownBy wr (some g))
  (fun _ iv _=>(intOf iv+1).toNat)
 case atStart=>exact⟨zs.length,0,zs,Nat.le_refl _,rfl,rfl,ho,⟨rfl,hs,hd,fun _ _=>rfl,by simp[Dg.vl]⟩,ib _ _⟩
 case round=>
  obtain⟨k,r,cur,hk,rfl,rfl,own,hI,gr⟩:=hrel
  by_cases hk0:k=0
  ·subst hk0
   go_wp2
   go_ret
   obtain⟨h1,h2,h3,h4,h5⟩:=hI;simp only[List.drop_zero] at h5;have e1:Dg.vl 4294967296 zs/d=Dg.vl 4294967296 cur:=by
    rw[h5,Nat.mul_comm,Nat.mul_add_div hd,Nat.div_eq_of_lt h3];omega
   have e2:Dg.vl 4294967296 zs % d=r:=by
    rw[h5,Nat.mul_comm,Nat.mul_add_mod,Nat.mod_eq_of_lt h3]
   exact⟨cur,by rw[e2];rfl,own,h1,h2,e1.symm,gr⟩
  ·obtain⟨m,rfl⟩: ∃m,k=m+1:=⟨k-1,by omega⟩
   have hlen:=hI.1;have hz:=own.c m (by omega);have hf:=own.f m;have hr:=hI.2.2.1;have hzs:=hs m;rw[hI.2.2.2.1 m (by omega)] at hz;obtain⟨z,ez⟩: ∃z,zs.getD m 0=z:=⟨_,rfl⟩;rw[ez] at hz hzs;have Hz:Hid _:=ez;clear ez;have hq:=I6 (t:=r*4294967296+z) hr hzs rfl
   go_wp2_with fail
   refine(Vb r z d wr hr hzs hd2).mono ?_;rintro e w1 ⟨rfl,bel⟩;have own1:=own.l bel;have hz1:=own1.c m (by omega);have hf1:=own1.f m;have gr1:=eF gr (Ew (some g) bel)
   go_wp2
   go_roundw
   case rel=>exact⟨m,_,_,by omega,by go_num,rfl,own1.store m _,Tx hI (by omega) (by rw[Hz.out]) hd hq,eF gr1 (bI _ _ _ _)⟩
   case measure=>simp[intOf]
theorem Kv (g n cap base m:Nat)(w:World)(ho:Own w base 54 .u32 (.slice (some ⟨g,0,none⟩) n cap) (Dg.dg 4294967296 m))(hl:(Dg.dg 4294967296 m).length≤1000000):
  yC 71 #[.slice (some ⟨g,0,none⟩) n cap,.int .u32 1000000000] w fun e w'=>
   ∃qs,e= .returned (.int .u32 ((m % 1000000000:Nat):Int))∧Own w' base 54 .u32 (.slice (some ⟨g,0,none⟩) n cap) qs∧Dg.Small 4294967296 qs∧Dg.vl 4294967296 qs=m/1000000000∧w.grownBy w' (some g):=by
 have:=uG g n cap base (Dg.dg 4294967296 m) 1000000000 w ho (Dg.small_dg _ _ (by omega)) (by omega) (by omega) hl;rw[Dg.vl_dg _ _ (by omega)] at this;refine Calls.mono this ?_;rintro e w' ⟨qs,h1,h2,h3,h4,h5,h6⟩;exact⟨qs,h1,h2,h4,h5,h6⟩
theorem Dj (va:Value)(xs:List Nat)(n wh pt:Nat)(w:World)(ha:Rd w .u32 va xs)(sa:Dg.Small 4294967296 xs)(hla:xs.length≤1000000)(hn:n=32*wh+pt)(hpt:pt<32)(hnl:n≤100000000):
  yC 134 #[va,yi n] w (Num w (Dg.vl 4294967296 xs/2^n)):=by
 have hPQ:2^pt*2^ (32-pt)=4294967296:=by rw[←Nat.pow_add,show pt+(32-pt)=32 from by omega]
 have hpw:4294967296^wh*2^pt=2^n:=by rw[hn,Nat.pow_add,Nat.pow_mul]
 obtain⟨ao,ca,rfl,-,-,hca⟩:=ha;obtain⟨i0,hi,hz0,hz1,hz2⟩:=info_parts Tryz.infoU32;have hq:(n:Int)/32=(wh:Int):=by omega
 have hr:(n:Int) % 32=(pt:Int):=by omega
 have hwl:wh≤100000000:=by omega
 have HPQ:Hid _:=hPQ;have HPW:Hid _:=hpw
 by_cases hge:xs.length≤wh
 ·have hz:Dg.vl 4294967296 xs/2^n=0:=by
   apply Nat.div_eq_of_lt;have h1:=Dg.vl_lt 4294967296 xs sa;have h2:4294967296^xs.length≤4294967296^wh:=Nat.pow_le_pow_right (by omega) hge;have h3:4294967296^wh≤4294967296^wh*2^pt:=Nat.le_mul_of_pos_right _ (Nat.pow_pos (by omega));omega
  rw[hz];clear hz hn hPQ hpw
  go_enter func134,ntmps134
  go_wp2
  go_ret
  exact⟨_,rfl,aQ _ _ _ _,Below.refl _ _⟩
 ·clear hn hPQ hpw
  obtain⟨L,hL⟩: ∃L,xs.length-wh=L:=⟨_,rfl⟩
  go_enter func134,ntmps134
  go_wp2_with (at_make;refine wpList_make_full _ rfl _ _ 57 rfl w.heap.size 54 i0 (.int .u32 0) 1 underlying57 hi hz0 hz1 _ _ _ _ (xs.length-wh) rfl rfl (by omega) (by omega) ?b2 ?b3 (Nat.le_refl _) ?_)
  case b2=>rw[hz2];omega
  case b3=>unfold maxLen;omega
  intro w0 hown0 hgrow0;have own0:=gL hown0;have bel0:yB w w0:=(Below.refl _ _).grown hgrow0 (Nat.le_refl _) (fun k h=>by cases h)
  have HL:Hid _:=hL;have hLx:wh+L=xs.length:=by omega
  have HLX:Hid _:=hLx;have hLl:L≤1000000:=by omega
  clear hown0 hgrow0 hL hLx
  go_wp2
  go_loopw [24] (fun kv wr=> ∃(k:Nat) (ds:List Nat),k≤L∧kv=yi k∧Own wr w.heap.size 54 .u32 (.slice (some ⟨w.heap.size,0,none⟩) L L) ds∧abK xs ds wh (2^pt) (2^ (32-pt)) k∧yB w wr) (fun kv _=>L-(intOf kv).toNat)
  case atStart=>
   refine⟨0,_,Nat.zero_le _,rfl,own0,⟨by have:=HL.out;simp;omega,fun j=> ?_⟩,bel0⟩
   rw[if_neg (by omega)]
   by_cases h:j<L<;>simp[List.getD_eq_getElem?_getD,h]
  case round=>
   clear own0 bel0;obtain⟨k,ds,hk,rfl,own,hI,bel⟩:=hrel;have hul:ds.length=L:=hI.1.trans HL.out
   by_cases hlt:k<L
   ·have hwk:wh+k<xs.length:=by have:=HLX.out;omega
    obtain⟨b,off,rfl,hcell⟩:=hca (by omega);have hx:=cell_later bel (hcell (wh+k) hwk);have hy:=fun h:wh+k+1<xs.length=>cell_later bel (hcell (wh+k+1) h)
    have hxl:=sa (wh+k);have hu:=own.c k (by omega);have hf:=own.f k;have hy0: ¬wh+k+1<xs.length→xs.getD (wh+k+1) 0=0:=fun h=>Dg.getD_of_le _ _ (by omega)
    have hst:=Y9 hI (by have:=HL.out;omega) rfl;obtain⟨x,ex⟩: ∃x,xs.getD (wh+k) 0=x:=⟨_,rfl⟩;obtain⟨y,ey⟩: ∃y,xs.getD (wh+k+1) 0=y:=⟨_,rfl⟩;rw[ex] at hx hxl hst;rw[ey] at hy hy0 hst;clear ex ey hcell hca hul
    by_cases h2:wh+k+1<xs.length
    ·have hy1:=hy h2
     have hor:=adm x y pt hpt hxl;have HO:Hid _:=hor;clear hy hy0 hor
     go_wp2
     go_region
     all_goals go_wp2
     all_goals go_roundw
     case rel=>
      have e1:(x:Int)/2^pt=((x/2^pt:Nat):Int):=by rw[Int.natCast_ediv,Int.natCast_pow];rfl
      rw[HO.out,e1];have o2:=(own.store k (x/2^pt)).store k (x/2^pt+y % 2^pt*2^ (32-pt));rw[List.set_set] at o2;exact⟨k+1,_,by omega,by go_num,Own.l o2 (Below.drew (Below.refl _ _)),hst,((bel.setCell (by exact Nat.le_refl _) _).setCell (by exact Nat.le_refl _) _).drew⟩
     case measure=>simp[intOf];omega
    ·have hy1:=hy0 h2
     subst hy1;simp only[Nat.zero_mod,Nat.zero_mul,Nat.add_zero] at hst;clear hy hy0
     go_wp2
     go_roundw
     case rel=>
      have e1:(x:Int)/2^pt=((x/2^pt:Nat):Int):=by rw[Int.natCast_ediv,Int.natCast_pow];rfl
      rw[e1];exact⟨k+1,_,by omega,by go_num,own.store k _,hst,bel.setCell (by exact Nat.le_refl _) _⟩
     case measure=>simp[intOf];omega
   ·have hke:k=L:=by omega
    subst hke;have hen:=abL (by rw[HL.out];exact hI) (by have:=HLX.out;omega) HPQ.out sa;have hv:=hen.2;rw[HPW.out] at hv;have HV:Hid _:=hv;have hps:=hen.1;clear hul hv hen
    go_wp2_with fail
    refine(jD _ _ _ ds _ own.rd).mono ?_;rintro e w' ⟨m,rfl,hm,rfl⟩;have ht:=jW 4294967296 (by omega) own hps hm;rw[HV.out] at ht;clear hm
    go_wp2
    go_ret
    exact⟨_,rfl,ht,bel⟩
theorem tm (k:Nat)(hk:1≤k∧k≤8)(w:World):yC 144 #[.agg (tS k).toArray] w (yR w (yi ((frN k:Nat):Int))):=by
 have hsf:=cD
 rcases bO hk with rfl|rfl|rfl|rfl|rfl|rfl|rfl|rfl
 all_goals
  change Calls _ _ #[.agg #[_,_,_,_,_,_,_,_,_]] _ _
  go_enter func144,ntmps144
  go_wp2
  go_ret
  exact⟨rfl,af _ _⟩
theorem jy (k:Nat)(hk:1≤k∧k≤8)(w:World):yC 165 #[.agg (tS k).toArray] w (yR w (yi ((kp k:Nat):Int))):=by
 have hsf:=cD
 rcases bO hk with rfl|rfl|rfl|rfl|rfl|rfl|rfl|rfl
 all_goals
  change Calls _ _ #[.agg #[_,_,_,_,_,_,_,_,_]] _ _
  go_enter func165,ntmps165
  go_wp2
  go_ret
  exact⟨rfl,af _ _⟩
theorem xX (k:Nat)(hk:1≤k∧k≤8)(w:World):yC 145 #[.agg (tS k).toArray] w (yR w (.int .u64 ((gW k:Nat):Int))):=by
 have hsf:=cD
 rcases bO hk with rfl|rfl|rfl|rfl|rfl|rfl|rfl|rfl
 all_goals
  change Calls _ _ #[.agg #[_,_,_,_,_,_,_,_,_]] _ _
  go_enter func145,ntmps145
  go_wp2
  go_ret
  exact⟨rfl,af _ _⟩
theorem zD (R D L G fam sz ex:Int)(gr ng:Bool)(F:Nat)(e f:Int)(w:World)(c:Int)(h0:e=0)(hc:(if f=0 then 1 else 2)=c):yC 140 #[ylV R D L G gr sz ex fam F,yfV ng e f] w (yR w (yi c)):=by
 have hsf:=cD;have l0:=(ah w (ylL R D L G gr sz ex fam F) 110).l (af _ (.cells (yfA ng e f) 112));have m0:=ah (w.alloc (.cells (ylA R D L G gr sz ex fam F) 110)) (yfL ng e f) 112;have b0:=aa (af w (.cells (ylA R D L G gr sz ex fam F) 110)) (af _ (.cells (yfA ng e f) 112));rw[World.size_alloc] at m0;subst h0 hc;have hz:=fun b=>Aj b
 by_cases hf:f=0
 ·subst hf
  have HZ:Hid (∀w1,yC 141 #[.bool true] w1 fun z w'=>z= .returned (yi 1)∧w'=w1):=hz true
  clear hz
  go_enter func140,ntmps140
  go_wp2_with fail
  refine(HZ.out _).mono ?_;rintro z w1 ⟨rfl,rfl⟩
  go_wp2
  go_ret
  exact⟨rfl,b0⟩
 ·have hfb:(f==0)=false:=by simpa using hf
  have HZ:Hid (∀w1,yC 141 #[.bool false] w1 fun z w'=>z= .returned (yi 2)∧w'=w1):=hz false
  rw[if_neg hf];clear hz hf
  go_enter func140,ntmps140
  go_wp2_with fail
  refine(HZ.out _).mono ?_;rintro z w1 ⟨rfl,rfl⟩
  go_wp2
  go_ret
  exact⟨rfl,b0⟩
theorem Za (R D L G sz ex:Int)(gr ng:Bool)(F e f:Nat)(w:World):yC 96 #[ylV R D L G gr sz ex 2 F,yfV ng e f] w (yR w (yi (((if f=0 then 1 else 2:Nat):Nat):Int))):=by
 have hsf:=cD;have l0:=(ah w (ylL R D L G gr sz ex 2 F) 110).l (af _ (.cells (yfA ng e f) 112));have m0:=ah (w.alloc (.cells (ylA R D L G gr sz ex 2 F) 110)) (yfL ng e f) 112;have b0:=aa (af w (.cells (ylA R D L G gr sz ex 2 F) 110)) (af _ (.cells (yfA ng e f) 112));rw[World.size_alloc] at m0;have HZ:Hid (∀b w1,yC 141 #[.bool b] w1 fun z w'=>z= .returned (yi (if b then 1 else 2))∧w'=w1):=fun b w1=>Aj b w1
 by_cases h:f=0
 ·subst h
  go_enter func96,ntmps96
  go_wp2_with fail
  refine(HZ.out true _).mono ?_;rintro z w1 ⟨rfl,rfl⟩
  go_wp2
  go_ret
  exact⟨rfl,b0⟩
 ·have h1:((f:Int)==0)=false:=by simp;omega
  rw[if_neg h];clear h
  go_enter func96,ntmps96
  go_wp2_with fail
  refine(HZ.out false _).mono ?_;rintro z w1 ⟨rfl,rfl⟩
  go_wp2
  go_ret
  exact⟨rfl,b0⟩
theorem Zb (R D L G sz ex:Int)(gr ng:Bool)(F e f:Nat)(w:World):yC 96 #[ylV R D L G gr sz ex 3 F,yfV ng e f] w (yR w (yi (((if e=0 then(if ng then 5 else 1) else 2:Nat):Nat):Int))):=by
 have hsf:=cD;have l0:=(ah w (ylL R D L G gr sz ex 3 F) 110).l (af _ (.cells (yfA ng e f) 112));have m0:=ah (w.alloc (.cells (ylA R D L G gr sz ex 3 F) 110)) (yfL ng e f) 112;have b0:=aa (af w (.cells (ylA R D L G gr sz ex 3 F) 110)) (af _ (.cells (yfA ng e f) 112));rw[World.size_alloc] at m0;have HZ:Hid (∀b w1,yC 141 #[.bool b] w1 fun z w'=>z= .returned (yi (if b then 1 else 2))∧w'=w1):=fun b w1=>Aj b w1
 by_cases h:e=0
 ·subst h
  rw[if_pos rfl]
  cases ng
  ·go_enter func96,ntmps96
   go_wp2_with fail
   refine(HZ.out true _).mono ?_;rintro z w1 ⟨rfl,rfl⟩
   go_wp2
   go_ret
   exact⟨rfl,b0⟩
  ·go_enter func96,ntmps96
   go_wp2
   go_ret
   exact⟨rfl,b0⟩
 ·have h1:((e:Int)==0)=false:=by simp;omega
  rw[if_neg h];clear h
  cases ng
  all_goals
   go_enter func96,ntmps96
   go_wp2_with fail
   refine(HZ.out false _).mono ?_;rintro z w1 ⟨rfl,rfl⟩
   go_wp2
   go_ret
   exact⟨rfl,b0⟩
theorem Vi (D L G sz ex fam:Int)(gr ng:Bool)(F e f:Nat)(w:World)(hw1:IntKind.i64.wrap (L+(e:Int))=L+(e:Int)):yC 99 #[ylV 16 D L G gr sz ex fam F,yfV ng e f] w (yR w (.tuple #[.int .u64 f,yi (L+(e:Int))])):=by
 have hsf:=cD;have l0:=(ah w (ylL 16 D L G gr sz ex fam F) 110).l (af _ (.cells (yfA ng e f) 112));have m0:=ah (w.alloc (.cells (ylA 16 D L G gr sz ex fam F) 110)) (yfL ng e f) 112;have b0:=aa (af w (.cells (ylA 16 D L G gr sz ex fam F) 110)) (af _ (.cells (yfA ng e f) 112));rw[World.size_alloc] at m0
 go_enter func99,ntmps99
 go_wp2
 go_quiet (fail)
 go_wp2
 go_ret2
 exact⟨by first|rfl| (rw[hw1];rfl)|simp[hw1,Act.put],aL b0 _⟩
theorem Zc (D L G sz ex fam:Int)(gr ng:Bool)(F f:Nat)(w:World):yC 99 #[ylV 2 D L G gr sz ex fam F,yfV ng 0 f] w (yR w (.tuple #[.int .u64 f,yi L])):=by
 have hsf:=cD;have l0:=(ah w (ylL 2 D L G gr sz ex fam F) 110).l (af _ (.cells (yfA ng 0 f) 112));have m0:=ah (w.alloc (.cells (ylA 2 D L G gr sz ex fam F) 110)) (yfL ng 0 f) 112;have b0:=aa (af w (.cells (ylA 2 D L G gr sz ex fam F) 110)) (af _ (.cells (yfA ng 0 f) 112));rw[World.size_alloc] at m0
 go_enter func99,ntmps99
 go_wp2
 go_quiet (fail)
 go_wp2
 go_ret2
 exact⟨rfl,aL b0 _⟩
theorem vE (R D L G:Int)(gr:Bool)(w:World):
  yC 110 #[ygV R D L G gr] w (yR w (yi (bk R D L G))):=by
 by_cases h2:R=2
 ·subst h2
  exact MW D L G gr w
 ·by_cases h16:R=16
  ·subst h16
   exact Ky D L G gr w
  ·rw[FD h2 h16]
   have bA:=af w (.cells (ygA R D L G gr) 82);have e1:(R != 2)=true:=by simp;exact h2
   have e2:(R != 16)=true:=by simp;exact h16
   go_enter func110,ntmps110
   go_wp2
   go_ret
   exact⟨rfl,bA⟩
theorem Qe (qs:Bool)(ao:Option Addr)(ca:Nat)(xs:List Nat)(bo:Option Addr)(cb:Nat)(ys:List Nat)(E R D L G:Int)(gr:Bool)(w:World)(ha:Rd w .u32 (.slice ao xs.length ca) xs)(hb:Rd w .u32 (.slice bo ys.length cb) ys):
  yC 75 #[yrV qs (.slice ao xs.length ca) (.slice bo ys.length cb) E,ygV R D L G gr] w (yR w (yi (jg (eA xs ys E) (bk R D L G)))):=by
 rw[Uu];exact MY qs ao ca xs.length bo cb ys.length E R D L G gr _ _ _ _ w (fun w1 b1=>jC _ _ w1 (ha.l b1)) (fun w1 b1=>jC _ _ w1 (hb.l b1)) (fun w1=>nK E 20000 w1 (by omega) (by omega)) (fun w1=>vE R D L G gr w1)
def dA (R D L G:Int)(gr:Bool)(n:Nat)(e:Int):Bool:=
 decide (n=0∨(L≤cP R D L gr n e∧cP R D L gr n e≤G∧(ai R:Int)*cP R D L gr n e≤e+(tz n:Int)))
theorem lU {n:Nat}(h:n≠0)(E:Int):dY n 1 E=(bitLen n:Int)-1+E:=by
 obtain⟨b1,b2,b3⟩:=uB n h;have t1:=(BC n 1 0 (bitLen n-1) h (by omega)).1 (by simpa using b2);have t2: ¬((bitLen n:Nat):Int)≤dY n 1 0+((0:Nat):Int):=fun c=>by
  have:=(BC n 1 0 (bitLen n) h (by omega)).2 c;simp at this;omega
 rw[qD];omega
theorem nV (s:Bool)(n:Nat)(e k:Int)(hk:k≤e+(tz n:Int)):eZ n (e-k) % dX 1 (e-k)=0∧bare ⟨s,eZ n (e-k)/dX 1 (e-k),k⟩=bare ⟨s,n,e⟩:=by
 by_cases h0:n=0
 ·subst h0
  have e1:eZ 0 (e-k)=0:=by rw[fw];simp
  rw[e1];simp[bare]
 ·by_cases hle:k≤e
  ·have e1:dX 1 (e-k)=1:=by rw[eM,show(-(e-k)).toNat=0 by omega]
   rw[e1,fw,Nat.mod_one,Nat.div_one];refine⟨rfl, ?_⟩;refine fH (K:=(max (-k) 0).toNat) (by simp only;omega) (by simp only;omega) ?_;rw[eV,eV];simp only;rw[Nat.mul_assoc,←Nat.pow_add,show(e-k).toNat+(k+((max (-k) 0).toNat:Int)).toNat=(e+((max (-k) 0).toNat:Int)).toNat by omega]
  ·obtain⟨m,hm⟩:=fO h0
   obtain⟨q,hq⟩: ∃q,n=q*2^ (k-e).toNat:=by
    refine⟨2^ (tz n-(k-e).toNat)*(2*m+1), ?_⟩;rw[Nat.mul_right_comm,←Nat.pow_add,show tz n-(k-e).toNat+(k-e).toNat=tz n by omega]
    exact hm
   have e1:eZ n (e-k)=n:=by rw[fw,show(e-k).toNat=0 by omega,Nat.pow_zero,Nat.mul_one]
   have e2:dX 1 (e-k)=2^ (k-e).toNat:=by rw[eM,Nat.one_mul,show-(e-k)=k-e by omega]
   rw[e1,e2,hq,Nat.mul_mod_left,Nat.mul_div_cancel _ (bG _)];refine⟨rfl, ?_⟩;refine fH (K:=(max (-e) 0).toNat) (by simp only;omega) (by simp only;omega) ?_;rw[eV,eV];simp only;rw[Nat.mul_assoc,←Nat.pow_add,show(k-e).toNat+(e+((max (-e) 0).toNat:Int)).toNat=(k+((max (-e) 0).toNat:Int)).toNat by omega]
def eE (xs ys:List Nat)(E R D L G way:Int):Int:=
 if jg (eA xs ys E) (bk R D L G)=0 then(if iC way=true then 0 else 6) else jg (eA xs ys E) (bk R D L G)
theorem gO {xs ys:List Nat}{E:Int}(h:eA xs ys E=0):chk xs=0∧chk ys=0∧0<ys.length∧ -20000≤E∧E≤20000:=by
 unfold eA at h
 by_cases h1:chk xs=0
 ·rw[if_pos h1] at h
  by_cases h2:chk ys=0
  ·rw[if_pos h2] at h
   by_cases h3:ys.length=0∨eJ 20000 E=true
   ·rw[if_pos h3] at h
    cases h
   ·have h4: ¬eJ 20000 E=true:=fun c=>h3 (Or.inr c)
    unfold eJ at h4;simp at h4;refine⟨h1,h2, ?_,by omega,by omega⟩;have: ¬ys.length=0:=fun c=>h3 (Or.inl c)
    omega
  ·rw[if_neg h2] at h
   exact absurd h h2
 ·rw[if_neg h1] at h
  exact absurd h h1
def ge (k:Nat)(ng:Bool)(e f:Nat):Nat:=if dh k ng e f=2 then(lJ (rdN k) 64 (iI k e f) (ii k e)).1 else 0
def gw (k:Nat)(ng:Bool)(e f:Nat):Int:=if dh k ng e f=2 then(lJ (rdN k) 64 (iI k e f) (ii k e)).2 else 0
theorem VL (k:Nat):0<gW k:=Nat.pow_pos (by omega)
theorem ZM {k:Nat}(hk:1≤k∧k≤8):gW k<2^64:=by
 rcases bO hk with rfl|rfl|rfl|rfl|rfl|rfl|rfl|rfl<;>decide
theorem jX {k:Nat}{ng:Bool}{e f:Nat}(h:dh k ng e f=2):0<iI k e f:=by
 unfold iI
 by_cases h0:e=0
 ·subst h0
  rw[if_pos rfl,ite_self]
  rcases Nat.eq_zero_or_pos f with hf|hf
  ·subst hf
   unfold dh at h;simp only[if_true] at h
   split at h
   ·omega
   ·split at h
    ·omega
    ·split at h<;>omega
  ·exact hf
 ·rw[if_neg h0]
  by_cases hr:rdN k=16
  ·rw[if_pos hr]
   have h45:k=4∨k=5:=by
    unfold rdN at hr
    split at hr
    ·exact .inl rfl
    ·exact .inr rfl
    ·omega
   unfold dh at h;rw[if_neg (by omega),if_pos (by omega)] at h
   rcases Nat.eq_zero_or_pos f with hf|hf
   ·rw[if_pos hf] at h
    omega
   ·exact hf
  ·rw[if_neg hr]
   exact adB (VL k)
theorem vS {k:Nat}(hk:1≤k∧k≤8)(e:Nat){f:Nat}(hf:f<2^64):iI k e f<2^64:=by
 unfold iI
 split
 ·exact hf
 ·split
  ·exact hf
  ·exact Nat.or_lt_two_pow hf (ZM hk)
def nm (R D L:Int)(gr:Bool)(n:Nat)(e:Int):Nat:=shN n (e-(ai R:Int)*cP R D L gr n e)
def fD (R D L G:Int)(gr:Bool)(n:Nat)(e:Int):Nat:=if n=0 then 0 else if dA R D L G gr n e=true then nm R D L gr n e else 0
def fK (R D L G:Int)(gr:Bool)(n:Nat)(e:Int):Int:=if n=0 then L else if dA R D L G gr n e=true then cP R D L gr n e else 0
theorem GK {R D L G:Int}{gr:Bool}{n:Nat}{e:Int}(h0:n≠0):dA R D L G gr n e=true↔L≤cP R D L gr n e∧cP R D L gr n e≤G∧(ai R:Int)*cP R D L gr n e≤e+(tz n:Int):=by
 unfold dA;rw[decide_eq_true_iff]
 constructor
 ·rintro(h|h)
  ·exact absurd h h0
  ·exact h
 ·exact .inr
def um (xs:List Nat)(e R D L G:Int)(gr:Bool):Bool:=if onC (aS xs e) (bk R D L G)=0 then dA R D L G gr (Dg.vl 4294967296 xs) e else false
theorem xO (f:Nat): ∀(c x:Nat) (zs:List Nat) (i:Nat),f+c≤8*zs.length→fU (iS f c x zs) i=if f≤i∧i<f+c then(if x/2^ (f+c-1-i) % 2=1 then 1 else fU zs i) else fU zs i
 |0,x,zs,i,_=>by
  rw[iS,if_neg (by omega)]
 |c+1,x,zs,i,h=>by
  rw[iS,xO f c (x/2) _ i (by rw[List.length_set];omega),Wp _ _ _ _ (Nat.mod_lt _ (by omega)) (by omega)]
  by_cases h1:f≤i∧i<f+c
  ·rw[if_pos h1,if_pos (show f≤i∧i<f+(c+1) by omega),if_neg (show¬i=f+c by omega),Nat.div_div_eq_div_mul,←Nat.pow_succ',show(f+c-1-i).succ=f+(c+1)-1-i from by omega]
  ·rw[if_neg h1]
   by_cases h2:i=f+c
   ·rw[if_pos h2,if_pos (show f≤i∧i<f+(c+1) by omega),show f+(c+1)-1-i=0 from by omega,Nat.pow_zero,Nat.div_one]
   ·rw[if_neg h2,if_neg (show¬(f≤i∧i<f+(c+1)) by omega)]
def enH (k:Nat)(t:ak):Bool:=um (Dg.dg 4294967296 t.n) t.e (rdN k) (dgN k) (lsI k) (gsI k) (decide (k≤3))
theorem iq {k:Nat}(hk:1≤k∧k≤8){ng:Bool}{E F:Nat}(hE:E<2^exN k)(hF:F<2^frN k)(hc:dh k ng E F=2):ji k ng E F=bare ⟨ng,iI k E F,wdI (rdN k)*ii k E⟩:=by
 unfold ji
 by_cases h3:k=3
 ·subst h3
  rw[if_pos rfl];unfold dh at hc;rw[if_pos (show 3≤3 by omega),show kp 3=2^exN 3-1 from rfl] at hc
  have hp:2≤2^exN 3:=by decide
  have hF':F<2^64:=hF;have hlead:gW 3=2^63:=rfl;unfold iI ii;rw[if_neg (show¬rdN 3=16 by decide),if_neg (show¬rdN 3=16 by decide),hlead]
  generalize(2:Nat)^exN 3=px at*
  by_cases e0:E=0
  ·rw[if_neg (show¬(E+1=px∨0<E∧F<2^ (dgN 3-1)) by omega),if_pos e0,if_pos e0]
   subst e0;simp
  ·rw[if_neg e0] at hc
   by_cases e1:E=px-1
   ·rw[if_pos e1] at hc
    by_cases hz:F=(if 3=3 then 2^63 else 0)
    ·rw[if_pos hz] at hc
     omega
    ·rw[if_neg hz] at hc
     omega
   ·rw[if_neg e1] at hc
    have hf: ¬F<2^63:=fun hf=>by
     rw[if_pos ⟨rfl,hf⟩] at hc;omega
    rw[if_neg (show¬(E+1=px∨0<E∧F<2^ (dgN 3-1)) from fun h=>by
     rcases h with h|h
     ·omega
     ·exact hf h.2),if_neg e0,if_neg e0,adg (by omega) hF',show lsI 3+(((E-1:Nat):Nat):Int)=lsI 3+(E:Int)-1 from by omega]
 ·rw[if_neg h3]
  by_cases h2:k≤2
  ·rw[if_pos h2]
   have hfd:frN k=dgN k-1∧rdN k=2∧2≤2^exN k:=by rcases(show k=1∨k=2 by omega) with rfl|rfl<;>decide
   unfold dh at hc;rw[if_pos (show k≤3 by omega),show kp k=2^exN k-1 from rfl,if_neg h3] at hc
   rw[hfd.1] at hF;unfold iI ii;rw[if_neg (show¬rdN k=16 by omega),if_neg (show¬rdN k=16 by omega)]
   have hp:=hfd.2.2;have hL:gW k=2^ (dgN k-1):=rfl;rw[hL]
   by_cases e0:E=0
   ·rw[if_neg (show¬E+1=2^exN k by omega),if_pos e0,if_pos e0,if_neg (show¬0<E by omega)]
    subst e0;simp
   ·rw[if_neg e0] at hc
    by_cases e1:E=2^exN k-1
    ·rw[if_pos e1] at hc
     split at hc<;>omega
    ·rw[if_neg (show¬E+1=2^exN k by omega),if_neg e0,if_neg e0,if_pos (show 0<E by omega),YZ hF,show lsI k+(((E-1:Nat):Nat):Int)=lsI k+(E:Int)-1 from by omega]
  ·rw[if_neg h2]
   by_cases h5:k≤5
   ·rw[if_pos h5]
    have hr:rdN k=16:=by rcases(show k=4∨k=5 by omega) with rfl|rfl<;>rfl
    unfold iI ii;rw[if_pos hr,if_pos hr]
   ·rw[if_neg h5]
    have hfd:frN k=dgN k-1∧rdN k=2:=by rcases(show k=6∨k=7∨k=8 by omega) with rfl|rfl|rfl<;>decide
    rw[hfd.1] at hF;unfold dh at hc;rw[if_neg (show¬k≤3 by omega),if_neg h5] at hc
    have e0:E≠0:=fun e0=>by
     rw[if_pos e0] at hc
     split at hc<;>omega
    unfold iI ii;rw[if_neg (show¬rdN k=16 by omega),if_neg (show¬rdN k=16 by omega),if_neg e0,if_neg e0,if_neg e0,show gW k=2^ (dgN k-1) from rfl,YZ hF]
theorem TS {k:Nat}(hk:1≤k∧k≤8){E:Nat}(hE:E<2^exN k): -16445≤(ai (rdN k):Int)*ii k E∧(ai (rdN k):Int)*ii k E≤16400∧ -16445≤ii k E∧ii k E≤16400:=by
 have hf:(rdN k=16∧ai (rdN k)=4∧ -78≤lsI k∧lsI k≤0∧2^exN k=128)∨(rdN k≠16∧ai (rdN k)=1∧ -16445≤lsI k∧lsI k+((2^exN k:Nat):Int)≤16400):=by
  rcases bO hk with rfl|rfl|rfl|rfl|rfl|rfl|rfl|rfl<;>decide
 unfold ii
 rcases hf with⟨h1,h2,h3,h4,h5⟩| ⟨h1,h2,h3,h4⟩
 ·rw[if_pos h1,h2]
  omega
 ·rw[if_neg h1,h2]
  split<;>omega
theorem size_list (s:ByteArray):s.size=s.data.toList.length:=Array.length_toList.symm
theorem undash_size (a:ByteArray):(undash a).size≤a.size:=by
 unfold undash;rw[mk_size,size_list a];unfold Lib.trimPrefix
 split
 ·rw[List.length_drop]
  omega
 ·exact Nat.le_refl _
theorem cutS_size (c:UInt8)(s:ByteArray):(cutS c s).1.size+(cutS c s).2.1.size≤s.size:=by
 have e1:(cutS c s).1.size=(Lib.cut s.data.toList [c]).1.length:=mk_size _;have e2:(cutS c s).2.1.size=(Lib.cut s.data.toList [c]).2.1.length:=mk_size _;rw[e1,e2,size_list s];unfold Lib.cut
 split
 ·show(List.take _ _).length+(List.drop _ _).length≤_
  rw[List.length_take,List.length_drop]
  show _+(_-(_+1))≤_
  omega
 ·exact Nat.le_refl _
theorem nmV_zero {t:ByteArray}(h:(nmV t).2=0):(nmV t).1.2.1.size≤400∧digB (nmV t).1.2.1=true∧ -6000≤(nmV t).1.2.2∧(nmV t).1.2.2≤6000:=by
 unfold nmV at h⊢
 by_cases h4:400<t.size
 ·rw[if_pos h4] at h
  exact absurd h (by decide)
 rw[if_neg h4] at h⊢
 split at h
 ·exact absurd h (by decide)
 rename_i h1
 rw[if_neg h1]
 split at h
 ·exact absurd h (by decide)
 rename_i h2
 rw[if_neg h2];have hu:=undash_size t;have hc:=cutS_size 101 (undash t);have hd:=cutS_size 46 (nmC t).1;have hc1:(nmC t).1.size+(nmC t).2.1.size≤400:=by unfold nmC;omega
 have hd1:(nmD t).1.size+(nmD t).2.1.size≤400:=by unfold nmD;omega
 refine⟨?_, ?_, ?_, ?_⟩
 ·show((nmD t).1++(nmD t).2.1).size≤400
  rw[ByteArray.size_append];exact hd1
 ·show digB ((nmD t).1++(nmD t).2.1)=true
  cases hg:digB ((nmD t).1++(nmD t).2.1)
  ·exact absurd (.inr (.inl hg)) h1
  ·rfl
 ·show-6000≤nmQ t
  omega
 ·show nmQ t≤6000
  omega
theorem rt_same {n d a B:Nat}(hd:0<d)(hB:0<B)(h:n*B=a*d):n/d=a/B∧n % d*B=a % B*d:=by
 have e1:a=B*(a/B)+a % B:=(Nat.div_add_mod a B).symm;have e2:a % B<B:=Nat.mod_lt _ hB;generalize a/B=q at e1⊢;generalize a % B=r at e1 e2⊢;have h2:n*B=d*q*B+r*d:=by rw[h,e1,Nat.add_mul];congr 1;ac_rfl
 have h3:d*q≤n:=Nat.le_of_mul_le_mul_right (c:=B) (by omega) hB;obtain⟨s,rfl⟩: ∃s,n=d*q+s:=⟨n-d*q,by omega⟩;have h4:s*B=r*d:=by rw[Nat.add_mul] at h2;omega
 have h5:s<d:=by
  refine Nat.lt_of_mul_lt_mul_right (a:=B) ?_;rw[h4,Nat.mul_comm d];exact Nat.mul_lt_mul_of_pos_right e2 hd
 refine⟨?_, ?_⟩
 ·rw[Nat.mul_add_div hd,Nat.div_eq_of_lt h5,Nat.add_zero]
 ·rw[Nat.mul_add_mod,Nat.mod_eq_of_lt h5,h4]
theorem dg_less {N D a b C:Nat}{n p:Int}(hb:0<b)(hc:a*D*10^ (-n).toNat=N*b*10^n.toNat)(hW:a/b<10^C)(hW1:10^ (C-1)≤a/b)(hC:1≤C)(hD:0<D):
  N*10^ (-p).toNat<D*10^p.toNat↔(C:Int)-n≤p:=by
 have hT: ∀k,0<10^k:=fun k=>Nat.pow_pos (by omega)
 have key:N*10^ (-p).toNat<D*10^p.toNat↔a*10^ (-(n+p)).toNat<b*10^ (n+p).toNat:=by
  obtain⟨np,h1⟩: ∃k,n.toNat=k:=⟨_,rfl⟩;obtain⟨nm,h2⟩: ∃k,(-n).toNat=k:=⟨_,rfl⟩;obtain⟨pp,h3⟩: ∃k,p.toNat=k:=⟨_,rfl⟩;obtain⟨pm,h4⟩: ∃k,(-p).toNat=k:=⟨_,rfl⟩;obtain⟨tp,h5⟩: ∃k,(n+p).toNat=k:=⟨_,rfl⟩;obtain⟨tm,h6⟩: ∃k,(-(n+p)).toNat=k:=⟨_,rfl⟩;rw[h1,h2] at hc;rw[h3,h4,h5,h6];have a1:nm+pm+tp=np+pp+tm:=by omega
  clear h1 h2 h3 h4 h5 h6;have s1:N*10^pm<D*10^pp↔N*10^pm*(b*10^np*10^tp)<D*10^pp*(b*10^np*10^tp):=
   (Nat.mul_lt_mul_right (Nat.mul_pos (Nat.mul_pos hb (hT _)) (hT _))).symm
  have s2:a*10^tm<b*10^tp↔a*10^tm*(D*10^pp*10^np)<b*10^tp*(D*10^pp*10^np):=
   (Nat.mul_lt_mul_right (Nat.mul_pos (Nat.mul_pos hD (hT _)) (hT _))).symm
  rw[s1,s2];have e1:N*10^pm*(b*10^np*10^tp)=a*10^tm*(D*10^pp*10^np):=by
   have:N*10^pm*(b*10^np*10^tp)=(N*b*10^np)*(10^pm*10^tp):=by ac_rfl
   rw[this,←hc];have:a*D*10^nm*(10^pm*10^tp)=a*D*10^ (nm+pm+tp):=by
    rw[Nat.pow_add,Nat.pow_add];ac_rfl
   rw[this,a1,Nat.pow_add,Nat.pow_add]
   ac_rfl
  have e2:D*10^pp*(b*10^np*10^tp)=b*10^tp*(D*10^pp*10^np):=by ac_rfl
  rw[e1,e2]
 rw[key]
 by_cases hq:0≤n+p
 ·obtain⟨q,hq⟩: ∃q:Nat,n+p=q:=⟨(n+p).toNat,by omega⟩
  rw[hq,show(-(q:Int)).toNat=0 by omega,Int.toNat_natCast,Nat.pow_zero,Nat.mul_one,Nat.mul_comm,←Nat.div_lt_iff_lt_mul hb]
  constructor
  ·intro h
   have:10^ (C-1)<10^q:=Nat.lt_of_le_of_lt hW1 h;have:=(Nat.pow_lt_pow_iff_right (by omega:1<10)).1 this;omega
  ·intro h
   exact Nat.lt_of_lt_of_le hW (Nat.pow_le_pow_right (by omega) (by omega))
 ·rw[show(n+p).toNat=0 by omega,Nat.pow_zero,Nat.mul_one]
  constructor
  ·intro h
   have h2:a<b:=Nat.lt_of_le_of_lt (Nat.le_mul_of_pos_right _ (hT _)) h;rw[Nat.div_eq_of_lt h2] at hW1;exact absurd hW1 (by have:=hT (C-1);omega)
  ·intro h
   omega
theorem cutc_spec (c:UInt8): ∀l,((cutc c l).2.2=true→l=(cutc c l).1++c::(cutc c l).2.1∧Lib.index l [c]=((cutc c l).1.length:Int))∧((cutc c l).2.2=false→l=(cutc c l).1∧(cutc c l).2.1=[]∧c∉l∧Lib.index l [c]= -1)∧c∉(cutc c l).1:=by
 intro l
 induction l with
 |nil=>exact⟨fun h=>(by cases h),fun _=>⟨rfl,rfl,List.not_mem_nil,rfl⟩,List.not_mem_nil⟩
 |cons b r ih=>
  obtain⟨i1,i2,i3⟩:=ih
  by_cases hb:b=c
  ·subst hb
   have e:cutc b (b::r)=([],r,true):=if_pos rfl;rw[e];exact⟨fun _=>⟨rfl,by simp[Lib.index]⟩,fun h=>(by cases h),List.not_mem_nil⟩
  ·have e:cutc c (b::r)=(b::(cutc c r).1,(cutc c r).2.1,(cutc c r).2.2):=if_neg hb
   have hx:Lib.index (b::r) [c]=if Lib.index r [c]== -1 then-1 else Lib.index r [c]+1:=by
    show(if[c].isPrefixOf (b::r) then _ else _)=_
    rw[if_neg (by simp[List.isPrefixOf];exact fun h=>hb h.symm)]
   rw[e];refine⟨fun h=> ?_,fun h=> ?_, ?_⟩
   ·obtain⟨j1,j2⟩:=i1 h
    refine⟨by rw[List.cons_append,←j1], ?_⟩;rw[hx,j2,if_neg (by simp)]
    show _=(((cutc c r).1.length+1:Nat):Int)
    omega
   ·obtain⟨j1,j2,j3,j4⟩:=i2 h
    refine⟨by rw[←j1],j2, ?_, ?_⟩
    ·intro hm
     rcases List.mem_cons.1 hm with q|q
     ·exact hb q.symm
     ·exact j3 q
    ·rw[hx,j4]
     rfl
   ·intro hm
    rcases List.mem_cons.1 hm with q|q
    ·exact hb q.symm
    ·exact i3 q
theorem cut_is (c:UInt8)(l:List UInt8):Lib.cut l [c]=cutc c l:=by
 obtain⟨h1,h2,-⟩:=cutc_spec c l;unfold Lib.cut
 cases h:(cutc c l).2.2
 ·obtain⟨j1,j2,-,j4⟩:=h2 h
  rw[j4,if_neg (by decide)];exact Prod.ext j1 (Prod.ext j2.symm h.symm)
 ·obtain⟨j1,j2⟩:=h1 h
  rw[j2,if_pos (by omega),Int.toNat_natCast];generalize cutc c l=q at h j1⊢;obtain⟨x,y,f⟩:=q;simp only at h j1⊢;subst h;subst j1;refine Prod.ext List.take_left (Prod.ext ?_ rfl)
  show List.drop (x.length+1) (x++c::y)=y
  rw[←List.drop_drop,List.drop_left];rfl
theorem dash_list (x:List UInt8):dash ⟨x.toArray⟩=decide (x.head? =some 45)∧(undash ⟨x.toArray⟩).data.toList=if decide (x.head? =some 45)=true then x.tail else x:=by
 have e1:dash ⟨x.toArray⟩=Lib.hasPrefix x [45]:=rfl;have e2:(undash ⟨x.toArray⟩).data.toList=Lib.trimPrefix x [45]:=rfl;rw[e1,e2]
 cases x with
 |nil=>exact⟨rfl,rfl⟩
 |cons b r=>
  have hp:Lib.hasPrefix (b::r) [45]=decide ((b::r).head? =some 45):=by
   rw[List.head?_cons]
   by_cases hb:b=45
   ·subst hb
    rfl
   ·rw[decide_eq_false (fun h=>hb (by injection h))]
    show([45].isPrefixOf (b::r))=false
    simp only[List.isPrefixOf];rw[show((45:UInt8)==b)=false from beq_eq_false_iff_ne.2 fun e=>hb e.symm]
    rfl
  refine⟨hp, ?_⟩;unfold Lib.trimPrefix;rw[hp]
  split
  ·rfl
  ·rfl
theorem rp_list (y:List UInt8):rpV ⟨y.toArray⟩=match rpL y with|some p=>(p,true)|none=>(0,false):=by
 obtain⟨d1,d2⟩:=dash_list y;obtain⟨m,hm⟩: ∃m,decide (y.head? =some 45)=m:=⟨_,rfl⟩;rw[hm] at d1 d2;obtain⟨x,hx⟩: ∃x,(if m=true then y.tail else y)=x:=⟨_,rfl⟩
 rw[hx] at d2;have hu:undash ⟨y.toArray⟩=⟨x.toArray⟩:=by rw[←d2,mk_list]
 unfold rpV rpL;simp only;rw[hm,hx,hu,d1,mk_size,pv_all]
 by_cases h:x.length≤5∧x≠[]∧(∀b∈x,isDg b=true)
 ·rw[if_pos h,if_pos ⟨h.1,(digB_list x).2 h.2⟩]
 ·rw[if_neg h,if_neg (fun c=>h ⟨c.1,(digB_list x).1 c.2⟩)]
theorem nm_list (t:ByteArray)(ht:t.size≤400):
  nmV t=match nmL (undash t).data.toList with
   |none=>(nmZ,1)
   |some (d,p)=>if p< -6000∨6000<p then(nmZ,3) else((dash t,⟨d.toArray⟩,p),0):=by
 obtain⟨l,hl⟩: ∃l,(undash t).data.toList=l:=⟨_,rfl⟩;have hC:nmC t=(⟨(cutc 101 l).1.toArray⟩,⟨(cutc 101 l).2.1.toArray⟩,(cutc 101 l).2.2):=by
  unfold nmC cutS;rw[hl,cut_is]
 have hD:nmD t=(⟨(cutc 46 (cutc 101 l).1).1.toArray⟩,⟨(cutc 46 (cutc 101 l).1).2.1.toArray⟩,(cutc 46 (cutc 101 l).1).2.2):=by
  unfold nmD cutS;rw[hC];simp only;rw[cut_is]
 have hP:nmP t=if(cutc 101 l).2.2=true then rpV ⟨(cutc 101 l).2.1.toArray⟩ else(0,true):=by
  unfold nmP;rw[hC]
 rw[hl];unfold nmV nmQ;rw[if_neg (by omega),hP,hD,rp_list];unfold nmL;simp only;generalize cutc 101 l=c;generalize cutc 46 c.1=d;obtain⟨c1,c2,c3⟩:=c;obtain⟨d1,d2,d3⟩:=d;simp only;have hcat:(⟨d1.toArray⟩:ByteArray)++⟨d2.toArray⟩=⟨(d1++d2).toArray⟩:=by
  apply ByteArray.ext;rw[ByteArray.data_append];simp
 rw[hcat,mk_size];have hdg:=digB_list (d1++d2);have hz:d2.length=0↔d2=[]:=List.length_eq_zero_iff
 by_cases hbad:d1++d2=[]∨ ¬(∀b∈d1++d2,isDg b=true)∨(d3=true∧d2=[])
 ·rw[if_pos hbad,if_pos]
  rcases hbad with h|h|h
  ·refine .inr (.inl ?_)
   cases hb:digB ⟨(d1++d2).toArray⟩
   ·rfl
   ·exact absurd h (hdg.1 hb).1
  ·refine .inr (.inl ?_)
   cases hb:digB ⟨(d1++d2).toArray⟩
   ·rfl
   ·exact absurd (hdg.1 hb).2 h
  ·exact .inr (.inr ⟨h.1,hz.2 h.2⟩)
 ·have g:digB ⟨(d1++d2).toArray⟩=true:=hdg.2 ⟨fun e=>hbad (.inl e),Classical.byContradiction fun e=>hbad (.inr (.inl e))⟩
  have g3: ¬(d3=true∧d2.length=0):=fun e=>hbad (.inr (.inr ⟨e.1,hz.1 e.2⟩))
  rw[if_neg hbad]
  cases c3 with
  |false=>
   simp only[Bool.false_eq_true,if_false];rw[if_neg (fun h=>by
    rcases h with h|h|h
    ·cases h
    ·rw[g] at h;cases h
    ·exact g3 h),Int.zero_sub]
  |true=>
   rw[if_pos rfl,if_pos rfl]
   cases rpL c2 with
   |none=>
    simp only[Option.map_none];rw[if_pos (.inl trivial)]
   |some q=>
    simp only[Option.map_some];rw[if_neg (fun h=>by
     rcases h with h|h|h
     ·cases h
     ·rw[g] at h;cases h
     ·exact g3 h)]
theorem nuS_list (g:Bool)(S:ByteArray)(ia:List UInt8)(h0:S.size≠0):
  (nuS g S ⟨ia.toArray⟩).data.toList=(if g=true then[45] else[])++((if 1<S.data.toList.length then S.data.toList.take 1++46::S.data.toList.drop 1 else S.data.toList)++101::ia):=by
 have hP:(nuP S).data.toList=(if 1<S.data.toList.length then S.data.toList.take 1++46::S.data.toList.drop 1 else S.data.toList):=by
  unfold nuP;rw[←size_list];have hs:S.data.size=S.size:=rfl
  by_cases c:1<S.size
  ·rw[if_pos c,if_pos c]
   simp[ByteArray.data_append,ByteArray.data_extract,List.extract];rw[List.take_of_length_le];rw[List.length_tail,Array.length_toList,hs];omega
  ·rw[if_neg c,if_neg c]
   have:S.size=1:=by omega
   simp[ByteArray.data_extract,List.extract];rw[List.take_of_length_le];rw[Array.length_toList,hs];omega
 unfold nuS nuG
 cases g
 ·rw[if_neg (by decide),if_neg (by decide)]
  simp[ByteArray.data_append,hP]
 ·rw[if_pos rfl,if_pos rfl]
  simp[ByteArray.data_append,hP]
theorem nuS_nm (g:Bool)(S:ByteArray)(N:Int)(hS: ∀b∈S.data.toList,isDg b=true)(h0:1≤S.size)(h60:S.size≤60)(h1: -5900<N)(h2:N<5900):
  nmV (nuS g S ⟨(Lib.itoa N).toArray⟩)=((g,S,N-((S.size-1:Nat):Int)),0):=by
 have hl:=nuS_list g S (Lib.itoa N) (by omega);obtain⟨t,ht⟩: ∃t,nuS g S ⟨(Lib.itoa N).toArray⟩=t:=⟨_,rfl⟩;rw[ht] at hl⊢;obtain⟨L,hL⟩: ∃L,S.data.toList=L:=⟨_,rfl⟩;rw[hL] at hl hS;have hLn:L.length=S.size:=by rw[←hL,←size_list]
 have hL0:L≠[]:=fun c=>by rw[c] at hLn;simp at hLn;omega
 obtain⟨R,hR⟩: ∃R,(if 1<L.length then L.take 1++46::L.drop 1 else L)++101::Lib.itoa N=R:=⟨_,rfl⟩
 have hn:=nmL_print hS hL0 (N:=N) (by omega) (by omega);rw[hR] at hl hn;have hRh:R.head? ≠some 45:=by
  rw[←hR]
  split
  ·rw[List.append_assoc]
   refine head_dig (fun b hb=>hS b (List.mem_of_mem_take hb)) _ (fun c=> ?_)
   have:=congrArg List.length c;rw[List.length_take,List.length_nil] at this;omega
  ·exact head_dig hS _ hL0
 have ht2:t=⟨((if g=true then[45] else[])++R).toArray⟩:=by rw[←hl,mk_list]
 have hil:=Lib.itoa_length_le N (by omega) (by omega);have hsz:t.size≤400:=by
  rw[size_list,hl,List.length_append,←hR,List.length_append,List.length_cons];have:(if 1<L.length then L.take 1++46::L.drop 1 else L).length≤62:=by
   split
   ·rw[List.length_append,List.length_cons,List.length_take,List.length_drop];omega
   ·omega
  have:(if g=true then[(45:UInt8)] else[]).length≤1:=by split<;>simp
  omega
 obtain⟨d1,d2⟩:=dash_list ((if g=true then[45] else[])++R)
 rw[←ht2] at d1 d2;have hg:decide (((if g=true then[(45:UInt8)] else[])++R).head? =some 45)=g:=by
  cases g
  ·exact decide_eq_false hRh
  ·rfl
 have hu:(undash t).data.toList=R:=by
  rw[d2,hg]
  cases g<;>rfl
 rw[nm_list t hsz,hu,hn];simp only;rw[if_neg (by omega),d1,hg,hLn,←hL,mk_list]
end Go.Proofs.YtlgkfdcmokchgaaGreatDoor

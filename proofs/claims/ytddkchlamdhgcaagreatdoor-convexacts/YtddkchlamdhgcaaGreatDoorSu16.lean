/-
  Texts laid together: Shift, Ref5, Take, Back, Long2.
-/
import Derived.Test.YtddkchlamdhgcaaGreatDoorSu06
import Derived.Test.YtddkchlamdhgcaaGreatDoorSu09
import Derived.Test.YtddkchlamdhgcaaGreatDoorSu10
import Derived.Test.YtddkchlamdhgcaaGreatDoorSu11
set_option maxRecDepth 100000
set_option maxHeartbeats 3200000
namespace Go.Proofs.YtddkchlamdhgcaaGreatDoor
open _root_.Go.Proofs.Tryz
open Go.RowKit
theorem Dj (va:Value)(xs:List Nat)(n wh pt:Nat)(w:World)(ha:Rd w .u32 va xs)(sa:Dg.Small 4294967296 xs)(hla:xs.length≤1000000)(hn:n=32*wh+pt)(hpt:pt<32)(hnl:n≤100000000):
  yC 128 #[va,yi n] w (Num w (Dg.vl 4294967296 xs/2^n)):=by
 have hPQ:2^pt*2^ (32-pt)=4294967296:=by rw[←Nat.pow_add,show pt+(32-pt)=32 from by omega]
 have hpw:4294967296^wh*2^pt=2^n:=by rw[hn,Nat.pow_add,Nat.pow_mul]
 obtain⟨ao,ca,rfl,-,-,hca⟩:=ha;obtain⟨i0,hi,hz0,hz1,hz2⟩:=info_parts Tryz.infoU32;have hq:(n:Int)/32=(wh:Int):=by omega
 have hr:(n:Int) % 32=(pt:Int):=by omega
 have hwl:wh≤100000000:=by omega
 have HPQ:Hid _:=hPQ;have HPW:Hid _:=hpw
 by_cases hge:xs.length≤wh
 ·have hz:Dg.vl 4294967296 xs/2^n=0:=by
   apply Nat.div_eq_of_lt;have h1:=Dg.vl_lt 4294967296 xs sa;have h2:4294967296^xs.length≤4294967296^wh:=Nat.pow_le_pow_right (by omega) hge;have h3:4294967296^wh≤4294967296^wh*2^pt:=Nat.le_mul_of_pos_right _ (Nat.pow_pos (by omega));omega
  rw[hz];clear hz hn hPQ hpw
  go_enter func128,ntmps128
  go_wp2
  go_ret
  exact⟨_,rfl,aQ _ _ _ _,Below.refl _ _⟩
 ·clear hn hPQ hpw
  obtain⟨L,hL⟩: ∃L,xs.length-wh=L:=⟨_,rfl⟩
  go_enter func128,ntmps128
  go_wp2_with (at_make;refine wpList_make_full _ rfl _ _ 136 rfl w.heap.size 135 i0 (.int .u32 0) 1 underlying136 hi hz0 hz1 _ _ _ _ (xs.length-wh) rfl rfl (by omega) (by omega) ?b2 ?b3 (Nat.le_refl _) ?_)
  case b2=>rw[hz2];omega
  case b3=>unfold maxLen;omega
  intro w0 hown0 hgrow0;have own0:=gL hown0;have bel0:yB w w0:=(Below.refl _ _).grown hgrow0 (Nat.le_refl _) (fun k h=>by cases h)
  have HL:Hid _:=hL;have hLx:wh+L=xs.length:=by omega
  have HLX:Hid _:=hLx;have hLl:L≤1000000:=by omega
  clear hown0 hgrow0 hL hLx
  go_wp2
  go_loopw [24] (fun kv wr=> ∃(k:Nat) (ds:List Nat),k≤L∧kv=yi k∧Own wr w.heap.size 135 .u32 (.slice (some ⟨w.heap.size,0,none⟩) L L) ds∧abK xs ds wh (2^pt) (2^ (32-pt)) k∧yB w wr) (fun kv _=>L-(intOf kv).toNat)
  case atStart=>
   refine⟨0,_,Nat.zero_le _,rfl,own0,⟨by have:=HL.out;simp;omega,fun j=> ?_⟩,bel0⟩
   rw[if_neg (by omega)]
   by_cases h:j<L<;>simp[List.getD_eq_getElem?_getD,h]
  case round=>
   clear own0 bel0;obtain⟨k,ds,hk,rfl,own,hI,bel⟩:=hrel;have hul:ds.length=L:=hI.1.trans HL.out
   by_cases hlt:k<L
   ·have hwk:wh+k<xs.length:=by have:=HLX.out;omega
    obtain⟨b,off,rfl,hcell⟩:=hca (by omega);have hx:=cell_later bel (hcell (wh+k) hwk);have hy:=fun h:wh+k+1<xs.length=>cell_later bel (hcell (wh+k+1) h)
    have hxl:=sa (wh+k);have hu:=own.c k (by omega);have hf:=own.f k;have hy0: ¬wh+k+1<xs.length→xs.getD (wh+k+1) 0=0:=fun h=>Dg.getD_of_le _ _ (by omega)
    have hst:=Y9 hI (by have:=HL.out;omega) rfl;obtain⟨x,ex⟩: ∃x,xs.getD (wh+k) 0=x:=⟨_,rfl⟩;obtain⟨y,ey⟩: ∃y,xs.getD (wh+k+1) 0=y:=⟨_,rfl⟩;rw[ex] at hx hxl hst;rw[ey] at hy hy0 hst;clear ex ey hcell hca hul
    by_cases h2:wh+k+1<xs.length
    ·have hy1:=hy h2
     have hor:=adm x y pt hpt hxl;have HO:Hid _:=hor;clear hy hy0 hor
     go_wp2
     go_region
     all_goals go_wp2
     all_goals go_roundw
     case rel=>
      have e1:(x:Int)/2^pt=((x/2^pt:Nat):Int):=by rw[Int.natCast_ediv,Int.natCast_pow];rfl
      rw[HO.out,e1];have o2:=(own.store k (x/2^pt)).store k (x/2^pt+y % 2^pt*2^ (32-pt));rw[List.set_set] at o2;exact⟨k+1,_,by omega,by go_num,Own.l o2 (Below.drew (Below.refl _ _)),hst,((bel.setCell (by exact Nat.le_refl _) _).setCell (by exact Nat.le_refl _) _).drew⟩
     case measure=>simp[intOf];omega
    ·have hy1:=hy0 h2
     subst hy1;simp only[Nat.zero_mod,Nat.zero_mul,Nat.add_zero] at hst;clear hy hy0
     go_wp2
     go_roundw
     case rel=>
      have e1:(x:Int)/2^pt=((x/2^pt:Nat):Int):=by rw[Int.natCast_ediv,Int.natCast_pow];rfl
      rw[e1];exact⟨k+1,_,by omega,by go_num,own.store k _,hst,bel.setCell (by exact Nat.le_refl _) _⟩
     case measure=>simp[intOf];omega
   ·have hke:k=L:=by omega
    subst hke;have hen:=abL (by rw[HL.out];exact hI) (by have:=HLX.out;omega) HPQ.out sa;have hv:=hen.2;rw[HPW.out] at hv;have HV:Hid _:=hv;have hps:=hen.1;clear hul hv hen
    go_wp2_with fail
    refine(jD _ _ _ ds _ own.rd).mono ?_;rintro e w' ⟨m,rfl,hm,rfl⟩;have ht:=jW 4294967296 (by omega) own hps hm;rw[HV.out] at ht;clear hm
    go_wp2
    go_ret
    exact⟨_,rfl,ht,bel⟩
theorem fN (va vb:Value)(xs ys:List Nat)(w:World)(ha:Rd w .i64 va xs)(hb:Rd w .i64 vb ys)(sa:Dg.Small 65536 xs)(sb:Dg.Small 65536 ys)(hla:xs.length≤1000000)(hlb:ys.length≤1000000):
  yC 39 #[va,vb] w (cG w (Dg.vl 65536 xs*Dg.vl 65536 ys)):=by
 obtain⟨i0,hi,hz0,hz1,hz2⟩:=info_parts Tryz.infoI64;obtain⟨ao,ca,rfl,-,-,hca⟩:=ha;obtain⟨bo,cb,rfl,-,-,hcb⟩:=hb
 go_enter func39,ntmps39
 go_wp2_with (at_make;refine wpList_make_full _ rfl _ _ 28 rfl w.heap.size 3 i0 (yi 0) 1 underlying28 hi hz0 hz1 _ _ _ _ (xs.length+ys.length) rfl rfl (by omega) (by omega) ?b2 ?b3 (Nat.le_refl _) ?_)
 case b2=>rw[hz2];omega
 case b3=>unfold maxLen;omega
 intro w0 hown0 hgrow0;have own0:=gL hown0;have bel0:yB w w0:=(Below.refl _ _).grown hgrow0 (Nat.le_refl _) (fun k h=>by cases h)
 clear hown0 hgrow0
 go_wp2
 go_loopw [6] (fun iv wr=> ∃(i:Nat) (ps:List Nat),i≤xs.length∧iv=yi i∧Own wr w.heap.size 3 .i64 (.slice (some ⟨w.heap.size,0,none⟩) (xs.length+ys.length) (xs.length+ys.length)) ps∧Sv xs ys ps i∧yB w wr)
  (fun iv _=>xs.length-(intOf iv).toNat)
 case atStart=>exact⟨0,_,Nat.zero_le _,rfl,own0,M6 xs ys,bel0⟩
 case round=>
  obtain⟨i,ps,hil,rfl,own,hO,bel⟩:=hrel
  by_cases hlt:i<xs.length
  ·obtain⟨b,off,rfl,hcella⟩:=hca (by omega)
   have hcell:=hcella i hlt;have hxs:=sa i;obtain⟨x,ex⟩: ∃x,xs.getD i 0=x:=⟨_,rfl⟩;rw[ex] at hcell hxs;have Hx:Hid _:=ex;clear ex hcella hca own0 bel0
   go_wp2
   go_loopw [7,8] (fun cv kv wr=> ∃(k c:Nat) (ps:List Nat),kv=yi k∧cv=yi c∧Own wr w.heap.size 3 .i64 (.slice (some ⟨w.heap.size,0,none⟩) (xs.length+ys.length) (xs.length+ys.length)) ps∧M5 xs ys ps i k c∧yB w wr)
    (fun _ kv _=>ys.length+2-(intOf kv).toNat)
   case atStart=>exact⟨0,0,ps,rfl,rfl,own,M7 hO,bel⟩
   case round=>
    clear own hO bel ps;obtain⟨k,c,ps,rfl,rfl,own,hI,bel⟩:=hrel;have hpl:=hI.1;have hcl:=hI.2.2.1;have hk6:=hI.2.2.2.2.2.1;have hk7:=hI.2.2.2.2.2.2.1
    by_cases hcond:k<ys.length∨0<c
    ·have hkl:k≤ys.length:=by
      rcases Nat.lt_or_ge ys.length k with e|e
      ·have:=hk6 e;omega
      ·exact e
     have hp:=own.c (i+k) (by omega);have hps:=hI.2.1 (i+k);have hfr:=own.f (i+k);have hst:=Qj hI sa sb hlt hcond _ rfl;have hys:=sb k;have hy0: ¬k<ys.length→ys.getD k 0=0:=fun h=>Dg.getD_of_le _ _ (by omega)
     have hxw:=cell_later bel hcell;have hcy:k<ys.length→ ∃b off,bo=some ⟨b,off,none⟩∧wr.cell? ⟨b,off+k,none⟩=some (yi ((ys.getD k 0:Nat):Int)):=fun h=>by
      obtain⟨b,off,e,hc2⟩:=hcb (by omega);exact⟨b,off,e,cell_later bel (hc2 k h)⟩
     rw[Hx.out] at hst;obtain⟨y,ey⟩: ∃y,ys.getD k 0=y:=⟨_,rfl⟩;obtain⟨p,ep⟩: ∃p,ps.getD (i+k) 0=p:=⟨_,rfl⟩;rw[ey] at hys hy0 hcy hst;rw[ep] at hp hps hst;clear ey ep hk6 hcb
     by_cases h2:k<ys.length
     ·obtain⟨b2,off2,rfl,hcell2⟩:=hcy h2
      have hxy:=C8 hxs hys;have hxyI:(x:Int)*(y:Int)≤4294836225:=by rw[←Int.natCast_mul];omega
      have hxy0:0≤(x:Int)*(y:Int):=by rw[←Int.natCast_mul];omega
      clear hcy hy0 hcond
      go_wp2
      go_quiet (fail)
      go_wp2
      go_roundw
      case rel=>
       rw[Ql,Qm];exact⟨k+1,_,_,by go_num,rfl,Own.store (Own.l own (aL (Below.refl _ _) _)) (i+k) _,hst,(aL bel _).setCell (by exact Nat.le_refl _) _⟩
      case measure=>simp[intOf];omega
     ·have hy:=hy0 h2
      subst hy;have hc0:0<c:=by omega
      simp only[Nat.mul_zero,Nat.add_zero] at hst;clear hcy hy0 hcond
      go_wp2
      go_roundw
      case rel=>
       have e1:((p:Int)+(c:Int)) % 65536=(((p+c) % 65536:Nat):Int):=by omega
       have e2:((p:Int)+(c:Int))/65536=(((p+c)/65536:Nat):Int):=by omega
       rw[e1,e2];exact⟨k+1,_,_,by go_num,rfl,own.store (i+k) _,hst,bel.setCell (by exact Nat.le_refl _) _⟩
      case measure=>simp[intOf];omega
    ·have h1: ¬k<ys.length:=by omega
     have h2: ¬0<c:=by omega
     have hst:=Qk hI hlt hcond;clear hcond
     go_wp2
     go_roundw
     case rel=>exact⟨i+1,ps,by omega,by go_num,own,hst,bel⟩
     case measure=>simp[intOf];omega
  ·have hie:i=xs.length:=by omega
   subst hie;have hpl:=hO.1;have hps:=hO.2.1;have hv:=hO.2.2.2;rw[List.take_of_length_le (Nat.le_refl _)] at hv;have HV:Hid _:=hv;have hl:ps.length≤3000000:=by omega
   clear hpl hv
   go_wp2_with fail
   refine(i9 _ _ _ ps _ own.rd).mono ?_;rintro e w' ⟨m,rfl,hm,rfl⟩;have hr:=xh own hps hm hl;rw[HV.out] at hr;clear hm
   go_wp2
   go_ret
   exact⟨_,rfl,hr,bel⟩
theorem H7 (g N i pc base t:Nat)(R ys:List Nat)(vb:Value)(w:World)(ho:Own w base 135 .u32 (.slice (some ⟨g,0,none⟩) N N) R)(sR:Dg.Small 4294967296 R)(sb:Dg.Small 4294967296 ys)
  (hby: ∀w',w.grownBy w' (some g)→Rd w' .u32 vb ys) (hl:i+ys.length<R.length) (ht:t<4294967296) (hRl:R.length≤2000000):
  yC 156 #[.slice (some ⟨g,i,none⟩) (ys.length+1) pc,vb,.int .u32 t] w fun e w'=>
   ∃(b:Nat) (cur:List Nat),e= .returned (.bool (decide (b=1)))∧acc R cur ys i t b∧Own w' base 135 .u32 (.slice (some ⟨g,0,none⟩) N N) cur∧w.grownBy w' (some g):=by
 obtain⟨bo,cb,rfl⟩:=(hby w (ib _ _)).shape;have HBY:Hid _:=hby
 clear hby
 go_enter func156,ntmps156
 go_wp2
 go_loopw [7,8,14] (fun cv bv kv wr=> ∃(k c b:Nat) (cur:List Nat),k≤ys.length∧kv=yi k∧cv= .int .u64 c∧bv= .int .u32 b∧Own wr base 135 .u32 (.slice (some ⟨g,0,none⟩) N N) cur∧SX R cur ys i t k c b∧w.grownBy wr (some g)) (fun _ _ kv _=>ys.length-(intOf kv).toNat)
 case atStart=>exact⟨0,0,0,R,Nat.zero_le _,rfl,rfl,rfl,ho,⟨rfl,sR,by omega,by omega,fun _ _=>rfl,by simp[Dg.vl]⟩,ib _ _⟩
 case round=>
  clear ho;obtain⟨k,c,b,cur,hk,rfl,rfl,rfl,own,hI,gr⟩:=hrel;have hcl:=hI.1;have hc32:=hI.2.2.1;have hb1:=hI.2.2.2.1
  by_cases hlt:k<ys.length
  ·obtain⟨-,-,hcb⟩:=iQ (HBY.out wr gr)
   obtain⟨b2,off2,rfl,hcell2⟩:=hcb (by omega);have hy:=hcell2 k hlt;have hyl:=sb k;have hp:=own.c (i+k) (by omega);have hf:=own.f (i+k);rw[hI.2.2.2.2.1 _ (Nat.le_refl _)] at hp;have hpl:=sR (i+k);obtain⟨y,ey⟩: ∃y,ys.getD k 0=y:=⟨_,rfl⟩;obtain⟨p,ep⟩: ∃p,R.getD (i+k) 0=p:=⟨_,rfl⟩;rw[ey] at hy hyl;rw[ep] at hp hpl;have hxy:=uf hyl ht;have hxyI:(y:Int)*(t:Int)≤18446744065119617025:=by rw[←Int.natCast_mul];omega
   have hxy0:0≤(y:Int)*(t:Int):=by rw[←Int.natCast_mul];omega
   have hst:=VS hI hlt (by omega) ey ep hpl rfl (by omega);have hlo:(c+y*t) % 4294967296<4294967296:=Nat.mod_lt _ (by omega);have hs32:=zA p ((c+y*t) % 4294967296) b wr hpl hlo hb1;rw[←Sd] at hs32;have HST:Hid _:=hst;obtain⟨nw,hnw⟩: ∃nw,(p+4294967296-(c+y*t) % 4294967296-b) % 4294967296=nw:=⟨_,rfl⟩;obtain⟨nb,hnb⟩: ∃nb,brw p ((c+y*t) % 4294967296) b=nb:=⟨_,rfl⟩;rw[hnw,hnb] at hs32 HST;clear ey ep hcell2 hcb hst hlo hcl hnw hnb
   go_wp2_with fail
   refine hs32.mono ?_;rintro e w' ⟨rfl,rfl⟩;clear hs32
   go_wp2
   go_roundw
   case rel=>
    rw[Se];exact⟨k+1,_,nb,_,by omega,by go_num,rfl,rfl,own.store (i+k) _,HST.out,eF gr (bI _ _ _ _)⟩
   case measure=>simp[intOf];omega
  ·have hke:k=ys.length:=by omega
   subst hke;have hp:=own.c (i+ys.length) (by omega);have hf:=own.f (i+ys.length);rw[hI.2.2.2.2.1 _ (Nat.le_refl _)] at hp;have hpl:=sR (i+ys.length);obtain⟨p,ep⟩: ∃p,R.getD (i+ys.length) 0=p:=⟨_,rfl⟩;rw[ep] at hp hpl;have hst:=VT hI hl ep hpl;have hs32:=zA p c b wr hpl hc32 hb1;have hbl:=RN p c b;obtain⟨nw,hnw⟩: ∃nw,(p+4294967296-c-b) % 4294967296=nw:=⟨_,rfl⟩;obtain⟨nb,hnb⟩: ∃nb,brw p c b=nb:=⟨_,rfl⟩;rw[hnw,hnb] at hs32 hst;rw[hnb] at hbl;have HST:Hid (acc R (cur.set (i+ys.length) nw) ys i t nb):=⟨hst.1,hst.2.1,hst.2.2.1,hbl,hst.2.2.2⟩;have own2:=own.store (i+ys.length) nw;have gr2:=eF gr (bI wr g (i+ys.length) (.int .u32 (nw:Int)));clear ep hst hcl hnw hnb
   go_wp2_with fail
   refine hs32.mono ?_;rintro e w' ⟨rfl,rfl⟩;clear hs32
   by_cases hz:nb=0
   ·subst hz
    go_wp2
    go_ret
    exact⟨0,_,rfl,HST,own2,gr2⟩
   ·have hz1:nb=1:=by omega
    subst hz1
    go_wp2
    go_ret
    exact⟨1,_,rfl,HST,own2,gr2⟩
theorem TX (g i n pc:Nat)(bb boff cb:Nat)(p2 p1 p0 d1 d0:Nat)(w:World)(hn:2≤n)(hnl:n≤2000000)(_hil:i≤2000000)
  (c2:w.cell? ⟨g,i+n,none⟩=some (.int .u32 p2)) (c1:w.cell? ⟨g,i+(n-1),none⟩=some (.int .u32 p1)) (c0:w.cell? ⟨g,i+(n-2),none⟩=some (.int .u32 p0))
  (e1:w.cell? ⟨bb,boff+(n-1),none⟩=some (.int .u32 d1)) (e0:w.cell? ⟨bb,boff+(n-2),none⟩=some (.int .u32 d0))
  (hp2:p2<4294967296) (hp1:p1<4294967296) (hp0:p0<4294967296) (hd1:d1<4294967296) (hd0:d0<4294967296) (hd:2147483648≤d1) (hle:p2≤d1):
  yC 155 #[.slice (some ⟨g,i,none⟩) (n+1) pc,.slice (some ⟨bb,boff,none⟩) n cb] w fun e w'=>
   ∃q:Nat,e= .returned (.int .u32 q)∧q<4294967296∧(∀k,k*(d1*4294967296+d0)≤(p2*4294967296+p1)*4294967296+p0→k<4294967296→k≤q)∧q*(d1*4294967296+d0)≤(p2*4294967296+p1)*4294967296+p0∧yB w w':=by
 have hor:=KJ p2 p1 hp2 hp1;obtain⟨top,ht⟩: ∃top,p2*4294967296+p1=top:=⟨_,rfl⟩;rw[ht] at hor⊢;have htl:top<18446744073709551616:=by omega
 have hst:=Z1 top d1 d0 p0 (by omega) hp0;obtain⟨q0,hq0⟩: ∃q,top/d1=q:=⟨_,rfl⟩;obtain⟨r0,hr0⟩: ∃r,top % d1=r:=⟨_,rfl⟩;have hr0l:r0<d1:=by rw[←hr0];exact Nat.mod_lt _ (by omega)
 have hq0l:q0≤4294967297:=by
  rw[←hq0];have:top/d1<4294967298:=by rw[Nat.div_lt_iff_lt_mul (by omega)];omega
  omega
 have f1:(top:Int)/(d1:Int)=(q0:Int):=by rw[←hq0];exact(Int.natCast_ediv top d1).symm
 have f2:(top:Int) % (d1:Int)=(r0:Int):=by rw[←hr0];exact(Int.natCast_emod top d1).symm
 have g1:IntKind.u64.wrap d1=(d1:Int):=IntWalk.u64_in _ ⟨by omega,by omega⟩;rw[hq0,hr0] at hst;have HTop:Hid _:=ht;clear hq0 hr0 ht;have n1:((n:Int)-1)=((n-1:Nat):Int):=by omega
 have n2:((n:Int)-2)=((n-2:Nat):Int):=by omega
 go_enter func155,ntmps155
 go_wp2
 go_quiet (fail)
 go_wp2
 go_quiet (fail)
 go_wp2
 go_quiet (fail)
 go_wp2
 go_loopw [9,10] (fun gv rv wr=>GsR w g (i+(n-2)) top d1 d0 p0 gv rv wr) (fun gv _ _=>msr gv)
 case atStart=>exact⟨q0,r0,rfl,by rw[f2],hst,by omega,hq0l,c0,aL (aL (aL (Below.refl _ _) _) _) _⟩
 case round=>
  clear c0 hst c1 c2 e0 e1 f1 f2 hr0l hq0l hor;obtain⟨t,r,rfl,rfl,HI,hr,ht1,hc0,bel⟩:=hrel;have hI:=HI.out;have hor:=KJ r p0 hr hp0
  by_cases hbig:4294967296≤t
  ·have hst:=S9 hI (by omega) (.inl hbig)
   have hbI:(4294967296:Int)≤(t:Int):=by omega
   have m1:((t:Int)-1)=((t-1:Nat):Int):=by omega
   have HS:Hid _:=hst
   by_cases hbr:4294967296≤r+d1
   ·have hfin:=Mk hst hbr (by omega) HTop.out hle hp1 hd0
    have HF:Hid _:=hfin;have hbrI:(4294967296:Int)≤(r:Int)+(d1:Int):=by omega
    clear hfin hst hI hbr
    go_wp2
    go_ret
    exact⟨t-1,by first|rfl| (rw[Ap HF.out.1];rfl),HF.out.1,HS.out.2,HF.out.2,bel⟩
   ·obtain⟨rd,hrd⟩: ∃rd,r+d1=rd:=⟨_,rfl⟩
    rw[hrd] at HS hbr;have hrdI:(r:Int)+(d1:Int)=(rd:Int):=by omega
    have hbrN:rd<4294967296:=by omega
    have hrdJ:(rd:Int)<4294967296:=by omega
    have hrdD:decide ((4294967296:Int)≤(rd:Int))=false:=by rw[decide_eq_false_iff_not];omega
    clear hst hI hbr hrd
    go_wp2
    go_roundw
    case rel=>exact⟨t-1,rd,rfl,rfl,HS.out,hbrN,by omega,hc0,bel⟩
    case measure=>simp[msr,intOf];omega
  ·have hbI:(t:Int)<4294967296:=by omega
   have hbN:t<4294967296:=by omega
   have hbd:decide ((4294967296:Int)≤(t:Int))=false:=by rw[decide_eq_false_iff_not];omega
   have hxy:=uf hbN hd0;have hxyI:(t:Int)*(d0:Int)≤18446744065119617025:=by rw[←Int.natCast_mul];omega
   have hxy0:0≤(t:Int)*(d0:Int):=by rw[←Int.natCast_mul];omega
   have hsum:r*4294967296+p0<18446744073709551616:=by omega
   obtain⟨sm,hsm⟩: ∃sm,r*4294967296+p0=sm:=⟨_,rfl⟩;rw[hsm] at hor hsum
   by_cases hgt:sm<t*d0
   ·have hpos:0<t:=by
     rcases Nat.eq_zero_or_pos t with e|e
     ·rw[e,Nat.zero_mul] at hgt;omega
     ·exact e
    have hgtI:(sm:Int)< (t:Int)*(d0:Int):=by rw[←Int.natCast_mul];omega
    have hst:=S9 hI hpos (.inr (by rw[hsm];exact hgt));clear hbig hsm hgt;have m1:((t:Int)-1)=((t-1:Nat):Int):=by omega
    have HS:Hid _:=hst
    by_cases hbr:4294967296≤r+d1
    ·have hfin:=Mk hst hbr (by omega) HTop.out hle hp1 hd0
     have HF:Hid _:=hfin;have hbrI:(4294967296:Int)≤(r:Int)+(d1:Int):=by omega
     clear hfin hst hI hbr
     go_wp2
     go_ret
     exact⟨t-1,by first|rfl| (rw[Ap HF.out.1];rfl),HF.out.1,HS.out.2,HF.out.2,bel⟩
    ·obtain⟨rd,hrd⟩: ∃rd,r+d1=rd:=⟨_,rfl⟩
     rw[hrd] at HS hbr;have hrdI:(r:Int)+(d1:Int)=(rd:Int):=by omega
     have hbrN:rd<4294967296:=by omega
     have hrdJ:(rd:Int)<4294967296:=by omega
     have hrdD:decide ((4294967296:Int)≤(rd:Int))=false:=by rw[decide_eq_false_iff_not];omega
     clear hst hI hbr hrd
     go_wp2
     go_roundw
     case rel=>exact⟨t-1,rd,rfl,rfl,HS.out,hbrN,by omega,hc0,bel⟩
     case measure=>simp[msr,intOf];omega
   ·have hgtI:(t:Int)*(d0:Int)≤(sm:Int):=by rw[←Int.natCast_mul];omega
    have hfin:=Z2 hI (by rw[hsm];omega);have HF:Hid _:=hfin;have hgd:decide ((sm:Int)< (t:Int)*(d0:Int))=false:=by rw[decide_eq_false_iff_not];omega
    clear hbig hsm hgt hfin hI
    go_wp2
    go_ret
    exact⟨t,by first|rfl| (rw[Ap hbN];rfl),hbN,HI.out.2,HF.out,bel⟩
theorem JS (va vb:Value)(xs ys:List Nat)(w:World)(ha:Rd w .u32 va xs)(hb:Rd w .u32 vb ys)(sa:Dg.Small 4294967296 xs)(sb:Dg.Small 4294967296 ys)(nb:Dg.Norm ys)(hn:2≤ys.length)(hle:ys.length≤xs.length)(hla:xs.length≤900000):
  yC 146 #[va,vb] w (Two w (Dg.vl 4294967296 xs/Dg.vl 4294967296 ys) (Dg.vl 4294967296 xs % Dg.vl 4294967296 ys)):=by
 obtain⟨i0,hi,hz0,hz1,hz2⟩:=info_parts Tryz.infoU32;have hsz:(Tryz.prog.info? 135).map (·.size)=some 1:=by rw[hi];simp[hz1]
 obtain⟨s,hs⟩: ∃s,32-bitLen (ys.getD (ys.length-1) 0)=s:=⟨_,rfl⟩;obtain⟨hs32,hD1,hD2⟩:=V7 ys s sb nb hn hs.symm;have hlz:=XC (ys.getD (ys.length-1) 0) w (sb _);rw[hs] at hlz;have hrb:=vO vb ys s 0 s (2^s) w hb sb (by omega) (by omega) hs32 rfl (by omega) (by intro e;rw[e] at hn;simp at hn);have HRA:Hid (∀w1,yB w w1→yC 129 #[va,yi s] w1 (Num w1 (Dg.vl 4294967296 xs*2^s))):=fun w1 b1=>
  vO va xs s 0 s (2^s) w1 (ha.l b1) sa (by omega) (by omega) hs32 rfl (by omega) (by intro e;rw[e] at hle;have h0:ys.length≤0:=hle;omega)
 obtain⟨ao,ca,rfl⟩:=ha.shape;obtain⟨bo,cb,rfl⟩:=hb.shape;obtain⟨-,-,hcb⟩:=iQ hb;obtain⟨bb,boff,rfl,hcell⟩:=hcb (by omega);have hy:=hcell (ys.length-1) (by omega);have hyl:=sb (ys.length-1);have n1:((ys.length:Int)-1)=((ys.length-1:Nat):Int):=by omega
 have hvx:=Dg.vl_lt 4294967296 xs sa;obtain⟨X,hX⟩: ∃X,Dg.vl 4294967296 xs=X:=⟨_,rfl⟩;obtain⟨Y,hY⟩: ∃Y,Dg.vl 4294967296 ys=Y:=⟨_,rfl⟩;rw[hX] at HRA hvx⊢;rw[hY] at hrb hD1 hD2⊢;obtain⟨nn,hnn⟩: ∃nn,ys.length=nn:=⟨_,rfl⟩;obtain⟨na,hna⟩: ∃na,xs.length=na:=⟨_,rfl⟩;obtain⟨y,hyy⟩: ∃y,ys.getD (ys.length-1) 0=y:=⟨_,rfl⟩;rw[hyy] at hlz hy hyl;rw[hnn] at hD1 hD2 hrb hy n1 hn hle⊢;rw[hna] at HRA hle hla hvx⊢;have HD1:Hid (2147483648*4294967296^ (nn-1)≤Y*2^s):=hD1;have HD2:Hid (Y*2^s<4294967296^nn):=hD2;have HVX:Hid (X<4294967296^na):=hvx;clear ha hb sa sb nb hs hcb hcell hX hY hnn hna hyy hD1 hD2 hvx
 go_enter func146,ntmps146
 go_wp2_with fail
 refine hlz.mono ?_;rintro e w' ⟨rfl,rfl⟩;clear hlz
 go_wp2_with fail
 refine hrb.mono ?_;rintro e w1 ⟨vby,rfl,ownb,bel1⟩;clear hrb;have hDl:(Dg.dg 4294967296 (Y*2^s)).length=nn:=V8 nn _ (by omega) (by have:=HD1.out;omega) HD2.out;obtain⟨gb,cby,rfl,hgb1,hgb2,hcby⟩:=ownb.form (by omega);rw[hDl] at ownb hcby⊢;obtain⟨bs,hbs⟩: ∃bs,Dg.dg 4294967296 (Y*2^s)=bs:=⟨_,rfl⟩;rw[hbs] at ownb hDl
 go_wp2_with (at_make;refine wpList_make_full _ rfl _ _ 136 rfl w1.heap.size 135 i0 (.int .u32 0) 1 underlying136 hi hz0 hz1 _ _ _ _ (na+1) rfl rfl (by omega) (by omega) ?b2 ?b3 (Nat.le_refl _) ?_)
 case b2=>rw[hz2];omega
 case b3=>unfold maxLen;omega
 intro w2 hown2 hgrow2;have own2:=gL hown2;have bel2:yB w1 w2:=(Below.refl _ _).grown hgrow2 (Nat.le_refl _) (fun k h=>by cases h)
 clear hown2 hgrow2
 go_wp2_with fail
 refine(HRA.out w2 (aa bel1 bel2)).mono ?_;rintro e w3 ⟨vra,rfl,owna,bel3⟩;obtain⟨az,haz⟩: ∃az,Dg.dg 4294967296 (X*2^s)=az:=⟨_,rfl⟩;rw[haz] at owna;have hal:az.length≤na+1:=by rw[←haz];exact RI X na s HVX.out hs32
 have rda:=owna.rd;obtain⟨ara,cra,rfl⟩:=rda.shape;have own3:=own2.l bel3;obtain⟨w4,hrun,own4,gr4⟩:=Nw 136 136 3 underlying136 hsz own3 rda (by simpa using hal);have b12:=aa bel1 bel2;have b13:=aa b12 bel3;have bel4:Below w'.heap.size w' w4:=b13.grown gr4 b13.size (fun k hk=>by cases hk;exact bel1.size)
 have ownb4:=((ownb.l bel2).l bel3).other gr4 (by omega);have own4:=own4.lower bel1.size;clear own3 rda owna HRA own2 ownb hsz
 go_wp2_with (at_make;refine wpList_make_full _ rfl _ _ 136 rfl w4.heap.size 135 i0 (.int .u32 0) 1 underlying136 hi hz0 hz1 _ _ _ _ (na+1-nn) rfl rfl ?b0 ?b1 ?b2 ?b3 (Nat.le_refl _) ?_)
 case b0=>omega
 case b1=>omega
 case b2=>rw[hz2];omega
 case b3=>unfold maxLen;omega
 intro w5 hown5 hgrow5;have own5:=gL hown5;have bel5:yB w4 w5:=(Below.refl _ _).grown hgrow5 (Nat.le_refl _) (fun k h=>by cases h)
 have ownr5:=own4.l bel5;have ownb5:=ownb4.l bel5;have belw:=aa bel4 bel5;have hb14:w1.heap.size<w4.heap.size:=own4.block.2;have hbw1:w'.heap.size≤w1.heap.size:=bel1.size;clear hown5 hgrow5 own4 ownb4 bel4 bel5 bel1 bel2 bel3 b12 b13 gr4 hrun hy hyl n1;have hst:=Pj (nn:=nn) haz hal HVX.out hs32 (by omega) (by omega) HD1.out;have hsb:Dg.Small 4294967296 bs:=by rw[←hbs];exact Dg.small_dg _ _ (by omega)
 have hvb:Dg.vl 4294967296 bs=Y*2^s:=by rw[←hbs];exact Dg.vl_dg _ _ (by omega)
 have hY0:0<Y:=by
  rcases Nat.eq_zero_or_pos Y with e|e
  ·have:=HD1.out
   rw[e,Nat.zero_mul] at this;have h2:=Nat.pow_pos (n:=nn-1) (show 0<4294967296 by omega)
   omega
  ·exact e
 obtain⟨M,hM⟩: ∃M,na+1=M+nn:=⟨na+1-nn,by omega⟩;rw[hM,Nat.add_sub_cancel] at own5 hst;rw[hM] at ownr5;rw[hM,Nat.add_sub_cancel];obtain⟨g4,hg4⟩: ∃g4,w4.heap.size=g4:=⟨_,rfl⟩;obtain⟨g1,hg1⟩: ∃g1,w1.heap.size=g1:=⟨_,rfl⟩;rw[hg4] at own5 hb14⊢;rw[hg1] at ownr5 hb14 hbw1 hgb2⊢;have own5:=own5.lower (show w'.heap.size≤g4 by omega)
 have ne1:gb≠g1:=by omega
 have ne2:g1≠g4:=by omega
 have ne3:gb≠g4:=by omega
 have hbw4:w'.heap.size≤g4:=by omega
 have hMN:M+nn≤900001:=by omega
 clear haz hal HVX hbs hM hle hla hg4 hg1
 go_wp2
 go_loopw [10] (fun iv wr=>ae2 w' (X*2^s) (Y*2^s) M (M+nn) g1 g4 gb cby bs iv wr) (fun iv _=>(intOf iv+1).toNat)
 case atStart=>exact⟨M,_,_,Nat.le_refl _,rfl,hst,ownr5,own5,by rw[hDl];exact ownb5,belw⟩
 case round=>
  clear hst own5 ownr5 ownb5 belw hgb1 hgb2 hcby hb14 hi hz0 hz1 hz2;obtain⟨k,R,os,hk,rfl,hI,ownR,ownO,ownB,bel⟩:=hrel
  by_cases hk0:k=0
  ·subst hk0
   have hen:=Xs hY0 hI;have ro:=ownO.rd;have rr:=ownR.rd;clear ownB
   go_wp2_with fail
   refine(jD _ _ _ _ _ ro).mono ?_;rintro e w6 ⟨m,rfl,hm,rfl⟩;have to0:=jW 4294967296 (by omega) ownO hI.2.2.2.1 hm;rw[hen.1] at to0
   go_wp2_with fail
   refine(jD _ _ _ _ _ rr).mono ?_;rintro e w6 ⟨m2,rfl,hm2,rfl⟩;have tr:=jW 4294967296 (by omega) ownR hI.2.2.1 hm2;have hlow:=Dj _ _ s 0 s w6 tr.rd (Dg.small_dg _ _ (by omega)) (by have h1:=hm2.1;have h2:=hI.1;have h3:=tr.len;omega) (by omega) hs32 (by omega);rw[Dg.vl_dg _ _ (by omega),hen.2] at hlow;clear ro rr hm hm2 hen ownO ownR tr hI
   go_wp2_with fail
   refine hlow.mono ?_;rintro e w7 ⟨vr,rfl,ownr7,bel7⟩;have to7:=to0.l bel7;have b7:=aa bel bel7;have or7:=ownr7.lower bel.size;clear hlow
   go_wp2
   go_ret2
   exact⟨_,_,rfl,to7,or7,b7⟩
  ·obtain⟨i,rfl⟩: ∃i,k=i+1:=⟨k-1,by omega⟩
   have n2:((i+1:Nat):Int)-1=(i:Int):=by omega
   rw[n2];have hRl:=hI.1;rw[hDl] at ownB;have c2:=ownR.c (i+nn) (by omega);have c1:=ownR.c (i+(nn-1)) (by omega);have c0:=ownR.c (i+(nn-2)) (by omega);have e1:=ownB.c (nn-1) (by omega);have e0:=ownB.c (nn-2) (by omega);have lg:=Pi hI hsb hvb hn HD1.out HD2.out;have hgs:=TX g1 i nn (M+nn-i) gb 0 cby _ _ _ _ _ wr hn (by omega) (by omega) c2 c1 c0 (by rw[Nat.zero_add];exact e1) (by rw[Nat.zero_add];exact e0) (hI.2.2.1 _) (hI.2.2.1 _) (hI.2.2.1 _) (hsb _) (hsb _) lg.1 lg.2.1;have LG:=lg.2.2;have HLG:Hid _:=LG;clear c2 c1 c0 e1 e0 lg LG
   go_wp2_with fail
   rw[show i+nn+1-i=nn+1 from by omega]
   refine hgs.mono ?_;rintro e w6 ⟨g,rfl,hgl,hlow,hup,bel6⟩;clear hgs;have hq:=HLG.out g hgl hlow hup;clear HLG hlow hup;have ownR6:=ownR.l bel6;have ownO6:=ownO.l bel6;have ownB6:=ownB.l bel6;have b6:=aa bel bel6;clear ownR ownO ownB bel6 bel;have htk:=H7 g1 (M+nn) i (M+nn-i) w'.heap.size g R bs _ w6 ownR6 hI.2.2.1 hsb (fun w'' hg=>(ownB6.other hg ne1).rd) (by omega) hgl (by omega)
   rw[hDl] at htk;obtain⟨q,hqq⟩: ∃q,Dg.vl 4294967296 R/4294967296^i/(Y*2^s)=q:=⟨_,rfl⟩;rw[hqq] at hq;have HRE:Hid (∀cur b,acc R cur bs i g b→_):=fun cur b hT=>QR hT hI.2.2.1 rfl hvb (Nat.mul_pos hY0 (Nat.pow_pos (by omega))) (by rw[hDl];exact HD2.out) hI.2.2.2.2.2.2 hqq hq.2
   go_wp2_with fail
   refine htk.mono ?_;rintro e w7 ⟨b,cur,rfl,hT,ownC,gr7⟩;have hre:=HRE.out cur b hT;have hb1:=hT.2.2.2.1;have hTl:=hT.1;have hTs:=hT.2.1;have ownO7:=ownO6.other gr7 ne2.symm;have ownB7:=ownB6.other gr7 ne1;have b7:=b6.grown gr7 b6.size (fun k hk=>by cases hk;exact hbw1)
   have hql:=hq.1;have hil:i<M:=by omega
   clear HRE hT htk hq hqq ownR6 ownO6 ownB6 b6 gr7
   by_cases hb:b=0
   ·subst hb
    obtain⟨rfl,hv,hlt⟩:=hre.1 rfl;have hnx:=Iv hI hil hgl hTl hTs hv hlt;have ed:decide ((0:Nat)=1)=false:=rfl;rw[ed];have hf:=ownO7.f i;have hcO:=ownO7.c i (by have:=hI.2.1;omega);clear hre hv hlt hI hTs
    go_wp2
    go_roundw
    case rel=>exact⟨i,cur,_,by omega,by go_num,hnx,ownC.other (bI _ _ _ _) ne2,ownO7.store i _,by rw[hDl];exact ownB7.other (bI _ _ _ _) ne3,b7.setCell (by exact hbw4) _⟩
    case measure=>simp[intOf]
   ·have hb:b=1:=by omega
    subst hb;obtain⟨rfl,hbk⟩:=hre.2 rfl;have hpb:=Mj g1 (M+nn) i (M+nn-i) w'.heap.size cur bs _ w7 ownC hTs hsb (fun w'' hg=>(ownB7.other hg ne1).rd) (by omega) (by omega)
    rw[hDl] at hpb;have ed:decide ((1:Nat)=1)=true:=rfl;rw[ed];have n3:((q+1:Nat):Int)-1=(q:Int):=by omega
    have HBK:Hid _:=hbk;clear hre hbk
    go_wp2_with fail
    refine hpb.mono ?_;rintro e w8 ⟨o,cur',rfl,hB,ownC8,gr8⟩;obtain⟨hv,hlt⟩:=HBK.out cur' o hB;have hnx:=Iv hI hil hql (hB.1.trans hTl) hB.2.1 hv hlt;have ownO8:=ownO7.other gr8 ne2.symm;have ownB8:=ownB7.other gr8 ne1;have b8:=b7.grown gr8 b7.size (fun k hk=>by cases hk;exact hbw1)
    have hf:=ownO8.f i;have hcO:=ownO8.c i (by have:=hI.2.1;omega);clear hpb HBK hv hlt hB gr8 hI hTs ownC ownO7 ownB7 b7
    go_wp2
    go_roundw
    case rel=>exact⟨i,cur',_,by omega,by go_num,hnx,ownC8.other (bI _ _ _ _) ne2,ownO8.store i _,by rw[hDl];exact ownB8.other (bI _ _ _ _) ne3,b8.setCell (by exact hbw4) _⟩
    case measure=>simp[intOf]
end Go.Proofs.YtddkchlamdhgcaaGreatDoor

/-
  Texts laid together: Plus, Ref5, Ref6, Cr4, Back, LessF.
-/
import Derived.Test.YtiakgfmlpdfhdaaDoorSv13
import Derived.Test.YtiakgfmlpdfhdaaDoorSv16
import Derived.Test.YtiakgfmlpdfhdaaDoorSv21
set_option maxRecDepth 100000
set_option maxHeartbeats 3200000
namespace Go.Proofs.YtiakgfmlpdfhdaaDoor
open Go.RowKit
theorem rj (va vb:Value)(xs ys:List Nat)(w:World)(ha:Rd w .u32 va xs)(hb:Rd w .u32 vb ys)(sa:Dg.Small 4294967296 xs)(sb:Dg.Small 4294967296 ys)(hla:xs.length≤1000000)(hlb:ys.length≤1000000):
  yC 75 #[va,vb] w (Num w (Dg.vl 4294967296 xs+Dg.vl 4294967296 ys)):=by
 by_cases h:ys.length≤xs.length
 ·exact abc va vb xs ys w ha hb sa sb hla h
 ·rw[Nat.add_comm]
  exact abd vb va ys xs w hb ha sb sa hlb (by omega)
theorem fN (va vb:Value)(xs ys:List Nat)(w:World)(ha:Rd w .i64 va xs)(hb:Rd w .i64 vb ys)(sa:Dg.Small 65536 xs)(sb:Dg.Small 65536 ys)(hla:xs.length≤1000000)(hlb:ys.length≤1000000):
  yC 30 #[va,vb] w (cG w (Dg.vl 65536 xs*Dg.vl 65536 ys)):=by
 obtain⟨i0,hi,hz0,hz1,hz2⟩:=info_parts Tryd.infoI64;obtain⟨ao,ca,rfl,-,-,hca⟩:=ha;obtain⟨bo,cb,rfl,-,-,hcb⟩:=hb
 go_enter Tryd.func30,Tryd.ntmps30
 go_wp2_with (at_make;refine wpList_make_full _ rfl _ _ 34 rfl w.heap.size 3 i0 (yi 0) 1 Tryd.underlying34 hi hz0 hz1 _ _ _ _ (xs.length+ys.length) rfl rfl (by omega) (by omega) ?b2 ?b3 (Nat.le_refl _) ?_)
 case b2=>rw[hz2];omega
 case b3=>unfold maxLen;omega
 intro w0 hown0 hgrow0;have own0:=gL hown0;have bel0:yB w w0:=(Below.refl _ _).grown hgrow0 (Nat.le_refl _) (fun k h=>by cases h)
 clear hown0 hgrow0
 go_wp2
 go_loopw [6] (fun iv wr=> ∃(i:Nat) (ps:List Nat),i≤xs.length∧iv=yi i∧Own wr w.heap.size 3 .i64 (.slice (some ⟨w.heap.size,0,none⟩) (xs.length+ys.length) (xs.length+ys.length)) ps∧Sv xs ys ps i∧yB w wr)
  (fun iv _=>xs.length-(intOf iv).toNat)
 case atStart=>exact⟨0,_,Nat.zero_le _,rfl,own0,M6 xs ys,bel0⟩
 case round=>
  obtain⟨i,ps,hil,rfl,own,hO,bel⟩:=hrel
  by_cases hlt:i<xs.length
  ·obtain⟨b,off,rfl,hcella⟩:=hca (by omega)
   have hcell:=hcella i hlt;have hxs:=sa i;obtain⟨x,ex⟩: ∃x,xs.getD i 0=x:=⟨_,rfl⟩;rw[ex] at hcell hxs;have Hx:Hid _:=ex;clear ex hcella hca own0 bel0
   go_wp2
   go_loopw [7,8] (fun cv kv wr=> ∃(k c:Nat) (ps:List Nat),kv=yi k∧cv=yi c∧Own wr w.heap.size 3 .i64 (.slice (some ⟨w.heap.size,0,none⟩) (xs.length+ys.length) (xs.length+ys.length)) ps∧M5 xs ys ps i k c∧yB w wr)
    (fun _ kv _=>ys.length+2-(intOf kv).toNat)
   case atStart=>exact⟨0,0,ps,rfl,rfl,own,M7 hO,bel⟩
   case round=>
    clear own hO bel ps;obtain⟨k,c,ps,rfl,rfl,own,hI,bel⟩:=hrel;have hpl:=hI.1;have hcl:=hI.2.2.1;have hk6:=hI.2.2.2.2.2.1;have hk7:=hI.2.2.2.2.2.2.1
    by_cases hcond:k<ys.length∨0<c
    ·have hkl:k≤ys.length:=by
      rcases Nat.lt_or_ge ys.length k with e|e
      ·have:=hk6 e;omega
      ·exact e
     have hp:=own.c (i+k) (by omega);have hps:=hI.2.1 (i+k);have hfr:=own.f (i+k);have hst:=Qj hI sa sb hlt hcond _ rfl;have hys:=sb k;have hy0: ¬k<ys.length→ys.getD k 0=0:=fun h=>Dg.getD_of_le _ _ (by omega)
     have hxw:=cell_later bel hcell;have hcy:k<ys.length→ ∃b off,bo=some ⟨b,off,none⟩∧wr.cell? ⟨b,off+k,none⟩=some (yi ((ys.getD k 0:Nat):Int)):=fun h=>by
      obtain⟨b,off,e,hc2⟩:=hcb (by omega);exact⟨b,off,e,cell_later bel (hc2 k h)⟩
     rw[Hx.out] at hst;obtain⟨y,ey⟩: ∃y,ys.getD k 0=y:=⟨_,rfl⟩;obtain⟨p,ep⟩: ∃p,ps.getD (i+k) 0=p:=⟨_,rfl⟩;rw[ey] at hys hy0 hcy hst;rw[ep] at hp hps hst;clear ey ep hk6 hcb
     by_cases h2:k<ys.length
     ·obtain⟨b2,off2,rfl,hcell2⟩:=hcy h2
      have hxy:=C8 hxs hys;have hxyI:(x:Int)*(y:Int)≤4294836225:=by rw[←Int.natCast_mul];omega
      have hxy0:0≤(x:Int)*(y:Int):=by rw[←Int.natCast_mul];omega
      clear hcy hy0 hcond
      go_wp2
      go_quiet (fail)
      go_wp2
      go_roundw
      case rel=>
       rw[Ql,Qm];exact⟨k+1,_,_,by go_num,rfl,Own.store (Own.l own (aL (Below.refl _ _) _)) (i+k) _,hst,(aL bel _).setCell (by exact Nat.le_refl _) _⟩
      case measure=>simp[intOf];omega
     ·have hy:=hy0 h2
      subst hy;have hc0:0<c:=by omega
      simp only[Nat.mul_zero,Nat.add_zero] at hst;clear hcy hy0 hcond
      go_wp2
      go_roundw
      case rel=>
       have e1:((p:Int)+(c:Int)) % 65536=(((p+c) % 65536:Nat):Int):=by omega
       have e2:((p:Int)+(c:Int))/65536=(((p+c)/65536:Nat):Int):=by omega
       rw[e1,e2];exact⟨k+1,_,_,by go_num,rfl,own.store (i+k) _,hst,bel.setCell (by exact Nat.le_refl _) _⟩
      case measure=>simp[intOf];omega
    ·have h1: ¬k<ys.length:=by omega
     have h2: ¬0<c:=by omega
     have hst:=Qk hI hlt hcond;clear hcond
     go_wp2
     go_roundw
     case rel=>exact⟨i+1,ps,by omega,by go_num,own,hst,bel⟩
     case measure=>simp[intOf];omega
  ·have hie:i=xs.length:=by omega
   subst hie;have hpl:=hO.1;have hps:=hO.2.1;have hv:=hO.2.2.2;rw[List.take_of_length_le (Nat.le_refl _)] at hv;have HV:Hid _:=hv;have hl:ps.length≤3000000:=by omega
   clear hpl hv
   go_wp2_with fail
   refine(i9 _ _ _ ps _ own.rd).mono ?_;rintro e w' ⟨m,rfl,hm,rfl⟩;have hr:=xh own hps hm hl;rw[HV.out] at hr;clear hm
   go_wp2
   go_ret
   exact⟨_,rfl,hr,bel⟩
theorem kD (va:Value)(xs:List Nat)(n:Nat)(w:World)(ha:Rd w .i64 va xs)(sa:Dg.Small 65536 xs)(hla:xs.length≤1000000)(hnl:n≤1000000):
  yC 51 #[va,yi n] w (cG w (Dg.vl 65536 xs*2^n)):=by
 obtain⟨ao,ca,rfl⟩:=ha.shape
 by_cases hne:xs=[]
 ·subst hne
  have hz:Dg.vl 65536 []*2^n=0:=by simp[Dg.vl]
  rw[hz]
  go_enter Tryd.func51,Tryd.ntmps51
  go_wp2
  go_ret
  exact⟨_,rfl,(aQ _ 0 0 _).rd,Below.refl _ _⟩
 ·have h00:((xs.length:Int)==0)=false:=by simp;exact hne
  have hp:=pf n (n/16) (n % 16) w (by omega) (by omega) hnl;have hl:=Fr n
  go_enter Tryd.func51,Tryd.ntmps51
  go_wp2_with fail
  refine hp.mono ?_;rintro e w1 ⟨v1,rfl,r1,b1⟩;have ht:=fN _ v1 xs _ w1 (ha.l b1) r1 sa (Dg.small_dg _ _ (by omega)) hla (by omega);rw[Dg.vl_dg _ _ (by omega)] at ht
  go_wp2_with fail
  refine ht.mono ?_;rintro e w2 ⟨v2,rfl,r2,b2⟩;have b12:=aa b1 b2;clear ht hp
  go_wp2
  go_ret
  exact⟨_,rfl,r2,b12⟩
theorem di.hid {B:Nat}{w:World}{t:ak}{e:Ending}{w':World}(hb:B≤w.heap.size)(h:di w t e w'):Xi B w t e w':=by
 obtain⟨s,h1,h2,h3,h4⟩:=h;exact⟨s,h1,h2,h4,(fun a n c h=>Nat.le_trans hb (h3 a n c h):Far B s)⟩
theorem TX (g i n pc:Nat)(bb boff cb:Nat)(p2 p1 p0 d1 d0:Nat)(w:World)(hn:2≤n)(hnl:n≤2000000)(_hil:i≤2000000)
  (c2:w.cell? ⟨g,i+n,none⟩=some (.int .u32 p2)) (c1:w.cell? ⟨g,i+(n-1),none⟩=some (.int .u32 p1)) (c0:w.cell? ⟨g,i+(n-2),none⟩=some (.int .u32 p0))
  (e1:w.cell? ⟨bb,boff+(n-1),none⟩=some (.int .u32 d1)) (e0:w.cell? ⟨bb,boff+(n-2),none⟩=some (.int .u32 d0))
  (hp2:p2<4294967296) (hp1:p1<4294967296) (hp0:p0<4294967296) (hd1:d1<4294967296) (hd0:d0<4294967296) (hd:2147483648≤d1) (hle:p2≤d1):
  yC 104 #[.slice (some ⟨g,i,none⟩) (n+1) pc,.slice (some ⟨bb,boff,none⟩) n cb] w fun e w'=>
   ∃q:Nat,e= .returned (.int .u32 q)∧q<4294967296∧(∀k,k*(d1*4294967296+d0)≤(p2*4294967296+p1)*4294967296+p0→k<4294967296→k≤q)∧q*(d1*4294967296+d0)≤(p2*4294967296+p1)*4294967296+p0∧yB w w':=by
 have hor:=KJ p2 p1 hp2 hp1;obtain⟨top,ht⟩: ∃top,p2*4294967296+p1=top:=⟨_,rfl⟩;rw[ht] at hor⊢;have htl:top<18446744073709551616:=by omega
 have hst:=Z1 top d1 d0 p0 (by omega) hp0;obtain⟨q0,hq0⟩: ∃q,top/d1=q:=⟨_,rfl⟩;obtain⟨r0,hr0⟩: ∃r,top % d1=r:=⟨_,rfl⟩;have hr0l:r0<d1:=by rw[←hr0];exact Nat.mod_lt _ (by omega)
 have hq0l:q0≤4294967297:=by
  rw[←hq0];have:top/d1<4294967298:=by rw[Nat.div_lt_iff_lt_mul (by omega)];omega
  omega
 have f1:(top:Int)/(d1:Int)=(q0:Int):=by rw[←hq0];exact(Int.natCast_ediv top d1).symm
 have f2:(top:Int) % (d1:Int)=(r0:Int):=by rw[←hr0];exact(Int.natCast_emod top d1).symm
 have g1:IntKind.u64.wrap d1=(d1:Int):=IntWalk.u64_in _ ⟨by omega,by omega⟩;rw[hq0,hr0] at hst;have HTop:Hid _:=ht;clear hq0 hr0 ht;have n1:((n:Int)-1)=((n-1:Nat):Int):=by omega
 have n2:((n:Int)-2)=((n-2:Nat):Int):=by omega
 go_enter Tryd.func104,Tryd.ntmps104
 go_wp2
 go_quiet (fail)
 go_wp2
 go_quiet (fail)
 go_wp2
 go_quiet (fail)
 go_wp2
 go_loopw [9,10] (fun gv rv wr=>GsR w g (i+(n-2)) top d1 d0 p0 gv rv wr) (fun gv _ _=>msr gv)
 case atStart=>exact⟨q0,r0,rfl,by rw[f2],hst,by omega,hq0l,c0,aL (aL (aL (Below.refl _ _) _) _) _⟩
 case round=>
  clear c0 hst c1 c2 e0 e1 f1 f2 hr0l hq0l hor;obtain⟨t,r,rfl,rfl,HI,hr,ht1,hc0,bel⟩:=hrel;have hI:=HI.out;have hor:=KJ r p0 hr hp0
  by_cases hbig:4294967296≤t
  ·have hst:=S9 hI (by omega) (.inl hbig)
   have hbI:(4294967296:Int)≤(t:Int):=by omega
   have m1:((t:Int)-1)=((t-1:Nat):Int):=by omega
   have HS:Hid _:=hst
   by_cases hbr:4294967296≤r+d1
   ·have hfin:=Mk hst hbr (by omega) HTop.out hle hp1 hd0
    have HF:Hid _:=hfin;have hbrI:(4294967296:Int)≤(r:Int)+(d1:Int):=by omega
    clear hfin hst hI hbr
    go_wp2
    go_ret
    exact⟨t-1,by first|rfl| (rw[Ap HF.out.1];rfl),HF.out.1,HS.out.2,HF.out.2,bel⟩
   ·obtain⟨rd,hrd⟩: ∃rd,r+d1=rd:=⟨_,rfl⟩
    rw[hrd] at HS hbr;have hrdI:(r:Int)+(d1:Int)=(rd:Int):=by omega
    have hbrN:rd<4294967296:=by omega
    have hrdJ:(rd:Int)<4294967296:=by omega
    have hrdD:decide ((4294967296:Int)≤(rd:Int))=false:=by rw[decide_eq_false_iff_not];omega
    clear hst hI hbr hrd
    go_wp2
    go_roundw
    case rel=>exact⟨t-1,rd,rfl,rfl,HS.out,hbrN,by omega,hc0,bel⟩
    case measure=>simp[msr,intOf];omega
  ·have hbI:(t:Int)<4294967296:=by omega
   have hbN:t<4294967296:=by omega
   have hbd:decide ((4294967296:Int)≤(t:Int))=false:=by rw[decide_eq_false_iff_not];omega
   have hxy:=uf hbN hd0;have hxyI:(t:Int)*(d0:Int)≤18446744065119617025:=by rw[←Int.natCast_mul];omega
   have hxy0:0≤(t:Int)*(d0:Int):=by rw[←Int.natCast_mul];omega
   have hsum:r*4294967296+p0<18446744073709551616:=by omega
   obtain⟨sm,hsm⟩: ∃sm,r*4294967296+p0=sm:=⟨_,rfl⟩;rw[hsm] at hor hsum
   by_cases hgt:sm<t*d0
   ·have hpos:0<t:=by
     rcases Nat.eq_zero_or_pos t with e|e
     ·rw[e,Nat.zero_mul] at hgt;omega
     ·exact e
    have hgtI:(sm:Int)< (t:Int)*(d0:Int):=by rw[←Int.natCast_mul];omega
    have hst:=S9 hI hpos (.inr (by rw[hsm];exact hgt));clear hbig hsm hgt;have m1:((t:Int)-1)=((t-1:Nat):Int):=by omega
    have HS:Hid _:=hst
    by_cases hbr:4294967296≤r+d1
    ·have hfin:=Mk hst hbr (by omega) HTop.out hle hp1 hd0
     have HF:Hid _:=hfin;have hbrI:(4294967296:Int)≤(r:Int)+(d1:Int):=by omega
     clear hfin hst hI hbr
     go_wp2
     go_ret
     exact⟨t-1,by first|rfl| (rw[Ap HF.out.1];rfl),HF.out.1,HS.out.2,HF.out.2,bel⟩
    ·obtain⟨rd,hrd⟩: ∃rd,r+d1=rd:=⟨_,rfl⟩
     rw[hrd] at HS hbr;have hrdI:(r:Int)+(d1:Int)=(rd:Int):=by omega
     have hbrN:rd<4294967296:=by omega
     have hrdJ:(rd:Int)<4294967296:=by omega
     have hrdD:decide ((4294967296:Int)≤(rd:Int))=false:=by rw[decide_eq_false_iff_not];omega
     clear hst hI hbr hrd
     go_wp2
     go_roundw
     case rel=>exact⟨t-1,rd,rfl,rfl,HS.out,hbrN,by omega,hc0,bel⟩
     case measure=>simp[msr,intOf];omega
   ·have hgtI:(t:Int)*(d0:Int)≤(sm:Int):=by rw[←Int.natCast_mul];omega
    have hfin:=Z2 hI (by rw[hsm];omega);have HF:Hid _:=hfin;have hgd:decide ((sm:Int)< (t:Int)*(d0:Int))=false:=by rw[decide_eq_false_iff_not];omega
    clear hbig hsm hgt hfin hI
    go_wp2
    go_ret
    exact⟨t,by first|rfl| (rw[Ap hbN];rfl),hbN,HI.out.2,HF.out,bel⟩
theorem Lt (va vb:Value)(xs ys:List Nat)(w:World)(ha:Rd w .i64 va xs)(hb:Rd w .i64 vb ys)(sa:Dg.Small 65536 xs)(sb:Dg.Small 65536 ys)(hla:xs.length≤2000000)(hlb:ys.length≤xs.length)(hv:Dg.vl 65536 ys≤Dg.vl 65536 xs):
  yC 33 #[va,vb] w (Si w (Dg.vl 65536 xs-Dg.vl 65536 ys)):=by
 obtain⟨ao,ca,rfl,-,-,hca⟩:=ha;obtain⟨bo,cb,rfl,-,-,hcb⟩:=hb;obtain⟨i0,hi,hz0,hz1,hz2⟩:=info_parts Tryd.infoI64;have HV:Hid (Dg.vl 65536 ys≤Dg.vl 65536 xs):=hv;clear hv
 go_enter Tryd.func33,Tryd.ntmps33
 go_wp2
 go_loopw [5,6,7] (fun ov cv iv wr=> ∃(k c:Nat) (ps:List Nat),k≤xs.length∧iv=yi k∧cv=yi c∧Own wr w.heap.size 3 .i64 ov ps∧QA xs ys ps k c∧yB w wr) (fun _ _ iv _=>xs.length-(intOf iv).toNat)
 case atStart=>exact⟨0,0,[],by omega,rfl,rfl,aQ _ _ _ _,⟨rfl,Dg.small_nil _ (by omega),by omega,by simp[Dg.vl]⟩,Below.refl _ _⟩
 case round=>
  obtain⟨k,c,ps,hk,rfl,rfl,own,hI,bel⟩:=hrel;have hcl:=hI.2.2.1;have hpl:=hI.1;have hbs:=bel.size
  by_cases hlt:k<xs.length
  ·obtain⟨b,off,rfl,hcella⟩:=hca (by omega)
   have hcell:=cell_later bel (hcella k hlt);have hxl:=sa k;have hyl:=sb k;have hy0: ¬k<ys.length→ys.getD k 0=0:=fun h=>Dg.getD_of_le _ _ (by omega)
   have hst: ∀d c',d<65536→c'≤1→xs.getD k 0+65536*c'=d+ys.getD k 0+c→QA xs ys (ps++[d]) (k+1) c':=fun d c' h1 h2 h3=>I1 hI h1 h2 h3
   have hcy:k<ys.length→ ∃b off,bo=some ⟨b,off,none⟩∧wr.cell? ⟨b,off+k,none⟩=some (yi ((ys.getD k 0:Nat):Int)):=fun h=>by
    obtain⟨b,off,e,hcell⟩:=hcb (by omega);exact⟨b,off,e,cell_later bel (hcell k h)⟩
   obtain⟨x,ex⟩: ∃x,xs.getD k 0=x:=⟨_,rfl⟩;obtain⟨y,ey⟩: ∃y,ys.getD k 0=y:=⟨_,rfl⟩;rw[ex] at hxl hst hcell;rw[ey] at hyl hy0 hst hcy;have Hst:Hid _:=hst;have Hpl:Hid (ps.length=k):=hpl;have hpl2:ps.length≤2000000:=by omega
   clear ex ey hca hcb hI hst hpl hcella;have fin: ∀(T:Int) (d:Nat),T=((d:Nat):Int)→ ∀v' w3,w3.ownsRow w.heap.size 3 1 v' (ps.length+1) ((ps.map (fun n:Nat=>Value.int .i64 (n:Int)))++[yi T])→(wr.alloc (.cells #[yi T] 3)).grownBy w3 (Value.ownBlock u5)→
     Own w3 w.heap.size 3 .i64 v' (ps++[d])∧yB w w3:=by
    intro T d hT v' w3 h1 h2;rw[hT] at h1 h2;exact iW bel own h1 h2
   by_cases h2:k<ys.length
   ·obtain⟨b2,off2,rfl,hcell2⟩:=hcy h2
    clear hcy hy0
    by_cases hneg:x<y+c
    ·have hneg2:((x:Int)-(c:Int)-(y:Int))<0:=by omega
     go_wp2_with (at_builtin;refine wpList_append_own _ rfl _ _ 34 rfl w.heap.size 3 i0 (yi 0) 1 8 Tryd.underlying34 hi hz0 hz1 hz2 rfl (by decide) _ _ _ rfl (World.ownsRow.alloc own _) ⟨wr.heap.size,0,none⟩ 1 1 [yi ((x:Int)-(c:Int)-(y:Int)+65536)] rfl rfl ?c1 ?c2 ?c3 ?c4 ?c5 ?_)
     try (case c1=>exact cell_one_new _ _ _)
     case c2=>first|rfl| (intro u hu;simp at hu;subst hu;rfl)| (simp;done)| (simp[Value.oneCell'];done)| (trace_state;fail)
     case c3=>unfold maxLen;omega
     case c4=>omega
     case c5=>first|omega| (simp;omega)
     intro v' w3 hown' hgrow _;have R:=fin _ (x+65536-y-c) (by omega) v' w3 hown' hgrow;clear hown' hgrow own fin
     go_wp2
     go_roundw
     case rel=>exact⟨k+1,1,_,by omega,by go_num,by go_num,R.1,Hst.out _ _ (by omega) (by omega) (by omega),R.2⟩
     case measure=>simp[intOf];omega
    ·have hneg2: ¬((x:Int)-(c:Int)-(y:Int))<0:=by omega
     go_wp2_with (at_builtin;refine wpList_append_own _ rfl _ _ 34 rfl w.heap.size 3 i0 (yi 0) 1 8 Tryd.underlying34 hi hz0 hz1 hz2 rfl (by decide) _ _ _ rfl (World.ownsRow.alloc own _) ⟨wr.heap.size,0,none⟩ 1 1 [yi ((x:Int)-(c:Int)-(y:Int))] rfl rfl ?d1 ?d2 ?d3 ?d4 ?d5 ?_)
     try (case d1=>exact cell_one_new _ _ _)
     case d2=>first|rfl| (intro u hu;simp at hu;subst hu;rfl)| (simp;done)| (simp[Value.oneCell'];done)| (trace_state;fail)
     case d3=>unfold maxLen;omega
     case d4=>omega
     case d5=>first|omega| (simp;omega)
     intro v' w3 hown' hgrow _;have R:=fin _ (x-y-c) (by omega) v' w3 hown' hgrow;clear hown' hgrow own fin
     go_wp2
     go_roundw
     case rel=>exact⟨k+1,0,_,by omega,by go_num,by go_num,R.1,Hst.out _ _ (by omega) (by omega) (by omega),R.2⟩
     case measure=>simp[intOf];omega
   ·have hy:=hy0 h2
    subst hy;clear hcy hy0
    by_cases hneg:x<c
    ·have hneg2:((x:Int)-(c:Int))<0:=by omega
     go_wp2_with (at_builtin;refine wpList_append_own _ rfl _ _ 34 rfl w.heap.size 3 i0 (yi 0) 1 8 Tryd.underlying34 hi hz0 hz1 hz2 rfl (by decide) _ _ _ rfl (World.ownsRow.alloc own _) ⟨wr.heap.size,0,none⟩ 1 1 [yi ((x:Int)-(c:Int)+65536)] rfl rfl ?e1 ?e2 ?e3 ?e4 ?e5 ?_)
     try (case e1=>exact cell_one_new _ _ _)
     case e2=>first|rfl| (intro u hu;simp at hu;subst hu;rfl)| (simp;done)| (simp[Value.oneCell'];done)| (trace_state;fail)
     case e3=>unfold maxLen;omega
     case e4=>omega
     case e5=>first|omega| (simp;omega)
     intro v' w3 hown' hgrow _;have R:=fin _ (x+65536-c) (by omega) v' w3 hown' hgrow;clear hown' hgrow own fin
     go_wp2
     go_roundw
     case rel=>exact⟨k+1,1,_,by omega,by go_num,by go_num,R.1,Hst.out _ _ (by omega) (by omega) (by omega),R.2⟩
     case measure=>simp[intOf];omega
    ·have hneg2: ¬((x:Int)-(c:Int))<0:=by omega
     go_wp2_with (at_builtin;refine wpList_append_own _ rfl _ _ 34 rfl w.heap.size 3 i0 (yi 0) 1 8 Tryd.underlying34 hi hz0 hz1 hz2 rfl (by decide) _ _ _ rfl (World.ownsRow.alloc own _) ⟨wr.heap.size,0,none⟩ 1 1 [yi ((x:Int)-(c:Int))] rfl rfl ?f1 ?f2 ?f3 ?f4 ?f5 ?_)
     try (case f1=>exact cell_one_new _ _ _)
     case f2=>first|rfl| (intro u hu;simp at hu;subst hu;rfl)| (simp;done)| (simp[Value.oneCell'];done)| (trace_state;fail)
     case f3=>unfold maxLen;omega
     case f4=>omega
     case f5=>first|omega| (simp;omega)
     intro v' w3 hown' hgrow _;have R:=fin _ (x-c) (by omega) v' w3 hown' hgrow;clear hown' hgrow own fin
     go_wp2
     go_roundw
     case rel=>exact⟨k+1,0,_,by omega,by go_num,by go_num,R.1,Hst.out _ _ (by omega) (by omega) (by omega),R.2⟩
     case measure=>simp[intOf];omega
  ·have hke:k=xs.length:=by omega
   subst hke;have hen:=Nl hI hlb HV.out;have hps:=hI.2.1;have hpl2:ps.length≤2000000:=by omega
   clear hpl;obtain⟨oo,oc,rfl⟩:=own.rd.shape
   go_wp2_with fail
   refine(i9 _ _ _ _ _ own.rd).mono ?_;rintro e w' ⟨n,rfl,hn,rfl⟩;have hnl:=hn.1;have hr:=uE (cap':=n) 65536 (by omega) own.rd hps hn (Nat.le_refl _) (by unfold maxLen;omega);rw[hen] at hr;clear hn hen
   go_wp2
   go_ret
   exact⟨_,rfl,hr,LP (JH own) n n,bel⟩
end Go.Proofs.YtiakgfmlpdfhdaaDoor

/-
  Texts laid together: Div1, DivBy, Lk2, Dr1, Take, Back, Long, Long2, Co6, Co20, Tx3.
-/
import Derived.Test.YtpgijbdgljkeeaaGreatDoorUx06
import Derived.Test.YtpgijbdgljkeeaaGreatDoorUx07
set_option maxRecDepth 100000
set_option maxHeartbeats 3200000
namespace Go.Proofs.YtpgijbdgljkeeaaGreatDoor
open _root_.Go.Proofs.Tryz
open Go.RowKit
theorem pr {w:World}{base e:Nat}{k:IntKind}{g:Nat}{zs:List Nat}(h:w.heap[g]? =some (.cells (zs.map (fun n:Nat=>Value.int k (n:Int))).toArray e (0,0)))(hb:base≤g)(hm:zs.length≤maxLen):
  Own w base e k (.slice (some ⟨g,0,none⟩) zs.length zs.length) zs:=by
 refine⟨by simp,.inr ⟨g,_,_,rfl,hb,h,Nat.le_refl _,hm,by simp, ?_⟩⟩;simp only[Nat.mul_one];exact List.take_of_length_le (by simp)
theorem Nv (w:World)(g:Nat)(old cs:Array Value)(t:TypeId)(hg:w.heap[g]? =some (.cells old t (0,0))):(w.setRow g cs).heap[g]? =some (.cells cs t (0,0)):=by
 simp[World.setRow,Array.getElem?_modify,hg]
theorem Nw {P:Program}{w:World}{base e:Nat}{k:IntKind}{g n m cap:Nat}{ao:Option Addr}{ds zs:List Nat}(dT sT ty:Nat)(hu:P.underlying dT=some (.slice e))(hsz:(P.info? e).map (·.size)=some 1)
  (ho:Own w base e k (.slice (some ⟨g,0,none⟩) n n) ds) (hr:Rd w k (.slice ao m cap) zs) (hle:zs.length≤ds.length):
  ∃w1,(Builtin.copy_ #[dT,sT] ty #[.slice (some ⟨g,0,none⟩) n n,.slice ao m cap]).run P w= .ok (yi m) w1∧Own w1 base e k (.slice (some ⟨g,0,none⟩) n n) (zs++ds.drop zs.length)∧w.grownBy w1 (some g):=by
 have hn:=ho.len;have hm:=wn hr;subst hn hm;have hh:=ho.heap;have hbl:=ho.block;have hml:ds.length≤maxLen:=by
  rcases ho.2 with⟨hv,_⟩| ⟨g',cap',cur,hv,hb,hh,hnc,hcm,hcs,htake⟩
  ·simp at hv
  ·omega
 by_cases h0:zs.length=0
 ·obtain rfl:zs=[]:=List.eq_nil_of_length_eq_zero h0
  refine⟨w,run_copy_none (P:=P) w dT sT ty e _ _ _ _ _ _ hu hsz (by simp),by simpa using ho,⟨rfl,rfl,rfl,Nat.le_refl _,fun _ _ _=>rfl⟩⟩
 ·obtain⟨-,-,hc⟩:=iQ hr
  obtain⟨b,off,rfl,hcell⟩:=hc (by omega);have hrun:=run_copy_row (P:=P) w dT sT ty e g 0 ds.length ds.length ⟨b,off,none⟩ zs.length cap _ e (zs.map (fun n:Nat=>Value.int k n)) hu hsz hh (by rw[List.length_map];exact(Nat.min_eq_left hle).symm)
   (by
    intro j u hj;have hjl:j<zs.length:=by have:=(List.getElem?_eq_some_iff.1 hj).1;simpa using this
    rw[j9 k zs j hjl] at hj;rw[rO,hcell j hjl];exact hj)
   (by simpa using hle) (by intro u hu;simp at hu;obtain⟨a,_,rfl⟩:=hu;rfl)
  refine⟨w.setRow g (zs.map (fun n:Nat=>Value.int k n)++(ds.map (fun n:Nat=>Value.int k n)).drop zs.length).toArray,by rw[hrun];simp[goInt], ?_,⟨rfl,rfl,rfl,by simp[World.setRow],fun j _ hj=>setRow_other w g j _ (fun e=>hj (by rw[e]))⟩⟩
  have hlen:(zs++ds.drop zs.length).length=ds.length:=by simp;omega
  have:=pr (w:=w.setRow g (zs.map (fun n:Nat=>Value.int k n)++(ds.map (fun n:Nat=>Value.int k n)).drop zs.length).toArray) (base:=base) (e:=e) (k:=k) (g:=g) (zs:=zs++ds.drop zs.length)
   (by rw[Nv w g _ _ e hh];simp[List.map_drop]) hbl.1 (by omega)
  rw[hlen] at this
  simpa using this
theorem eF {w w1 w2:World}{g:Option Nat}(h:w.grownBy w1 g)(k:w1.grownBy w2 g):w.grownBy w2 g:=
 ⟨k.os.trans h.os,k.tape.trans h.tape,k.output.trans h.output,Nat.le_trans h.size k.size,fun i hi hne=>(k.block i (Nat.lt_of_lt_of_le hi h.size) hne).trans (h.block i hi hne)⟩
structure But (b:Nat) (w w':World):Prop where
 os:w'.os=w.os
 tape:w'.tape=w.tape
 output:w'.output=w.output
 size:w'.heap.size=w.heap.size
 block: ∀k,k≠b→w'.heap[k]? =w.heap[k]?
theorem But.trans {b:Nat}{w w1 w2:World}(h:But b w w1)(k:But b w1 w2):But b w w2:=
 ⟨k.os.trans h.os,k.tape.trans h.tape,k.output.trans h.output,k.size.trans h.size,fun i hi=>(k.block i hi).trans (h.block i hi)⟩
theorem Rv.l {w w':World}{v:Value}{t:ak}(h:Rv w v t)(hb:yB w w'):Rv w' v t:=by
 obtain⟨s,hv,hr⟩:=h;exact⟨s,hv,hr.l hb⟩
def ZB (w:World)(b:Nat):Prop:=b<w.heap.size∧ ∃ty,w.heap[b]? =some (.cells (ydA false yN 0) ty (0,0))
theorem ZB.l {w w':World}{b:Nat}(h:ZB w b)(hb:yB w w'):ZB w' b:=by
 obtain⟨hl,ty,hh⟩:=h;exact⟨Nat.lt_of_lt_of_le hl hb.size,ty,(hb.block b hl).trans hh⟩
theorem H7 (g N i pc base t:Nat)(R ys:List Nat)(vb:Value)(w:World)(ho:Own w base 138 .u32 (.slice (some ⟨g,0,none⟩) N N) R)(sR:Dg.Small 4294967296 R)(sb:Dg.Small 4294967296 ys)
  (hby: ∀w',w.grownBy w' (some g)→Rd w' .u32 vb ys) (hl:i+ys.length<R.length) (ht:t<4294967296) (hRl:R.length≤2000000):
  yC 181 #[.slice (some ⟨g,i,none⟩) (ys.length+1) pc,vb,.int .u32 t] w fun e w'=>
   ∃(b:Nat) (cur:List Nat),e= .returned (.bool (decide (b=1)))∧acc R cur ys i t b∧Own w' base 138 .u32 (.slice (some ⟨g,0,none⟩) N N) cur∧w.grownBy w' (some g):=by
 obtain⟨bo,cb,rfl⟩:=(hby w (ib _ _)).shape;have HBY:Hid _:=hby
 clear hby
 go_enter func181,ntmps181
 go_wp2
 go_loopw [7,8,14] (fun cv bv kv wr=> ∃(k c b:Nat) (cur:List Nat),k≤ys.length∧kv=yi k∧cv= .int .u64 c∧bv= .int .u32 b∧Own wr base 138 .u32 (.slice (some ⟨g,0,none⟩) N N) cur∧SX R cur ys i t k c b∧w.grownBy wr (some g)) (fun _ _ kv _=>ys.length-(intOf kv).toNat)
 case atStart=>exact⟨0,0,0,R,Nat.zero_le _,rfl,rfl,rfl,ho,⟨rfl,sR,by omega,by omega,fun _ _=>rfl,by simp[Dg.vl]⟩,ib _ _⟩
 case round=>
  clear ho;obtain⟨k,c,b,cur,hk,rfl,rfl,rfl,own,hI,gr⟩:=hrel;have hcl:=hI.1;have hc32:=hI.2.2.1;have hb1:=hI.2.2.2.1
  by_cases hlt:k<ys.length
  ·obtain⟨-,-,hcb⟩:=iQ (HBY.out wr gr)
   obtain⟨b2,off2,rfl,hcell2⟩:=hcb (by omega);have hy:=hcell2 k hlt;have hyl:=sb k;have hp:=own.c (i+k) (by omega);have hf:=own.f (i+k);rw[hI.2.2.2.2.1 _ (Nat.le_refl _)] at hp;have hpl:=sR (i+k);obtain⟨y,ey⟩: ∃y,ys.getD k 0=y:=⟨_,rfl⟩;obtain⟨p,ep⟩: ∃p,R.getD (i+k) 0=p:=⟨_,rfl⟩;rw[ey] at hy hyl;rw[ep] at hp hpl;have hxy:=uf hyl ht;have hxyI:(y:Int)*(t:Int)≤18446744065119617025:=by rw[←Int.natCast_mul];omega
   have hxy0:0≤(y:Int)*(t:Int):=by rw[←Int.natCast_mul];omega
   have hst:=VS hI hlt (by omega) ey ep hpl rfl (by omega);have hlo:(c+y*t) % 4294967296<4294967296:=Nat.mod_lt _ (by omega);have hs32:=zA p ((c+y*t) % 4294967296) b wr hpl hlo hb1;rw[←Sd] at hs32;have HST:Hid _:=hst;obtain⟨nw,hnw⟩: ∃nw,(p+4294967296-(c+y*t) % 4294967296-b) % 4294967296=nw:=⟨_,rfl⟩;obtain⟨nb,hnb⟩: ∃nb,brw p ((c+y*t) % 4294967296) b=nb:=⟨_,rfl⟩;rw[hnw,hnb] at hs32 HST;clear ey ep hcell2 hcb hst hlo hcl hnw hnb
   go_wp2_with fail
   refine hs32.mono ?_;rintro e w' ⟨rfl,rfl⟩;clear hs32
   go_wp2
   go_roundw
   case rel=>
    rw[Se];exact⟨k+1,_,nb,_,by omega,by go_num,rfl,rfl,own.store (i+k) _,HST.out,eF gr (bI _ _ _ _)⟩
   case measure=>simp[intOf];omega
  ·have hke:k=ys.length:=by omega
   subst hke;have hp:=own.c (i+ys.length) (by omega);have hf:=own.f (i+ys.length);rw[hI.2.2.2.2.1 _ (Nat.le_refl _)] at hp;have hpl:=sR (i+ys.length);obtain⟨p,ep⟩: ∃p,R.getD (i+ys.length) 0=p:=⟨_,rfl⟩;rw[ep] at hp hpl;have hst:=VT hI hl ep hpl;have hs32:=zA p c b wr hpl hc32 hb1;have hbl:=RN p c b;obtain⟨nw,hnw⟩: ∃nw,(p+4294967296-c-b) % 4294967296=nw:=⟨_,rfl⟩;obtain⟨nb,hnb⟩: ∃nb,brw p c b=nb:=⟨_,rfl⟩;rw[hnw,hnb] at hs32 hst;rw[hnb] at hbl;have HST:Hid (acc R (cur.set (i+ys.length) nw) ys i t nb):=⟨hst.1,hst.2.1,hst.2.2.1,hbl,hst.2.2.2⟩;have own2:=own.store (i+ys.length) nw;have gr2:=eF gr (bI wr g (i+ys.length) (.int .u32 (nw:Int)));clear ep hst hcl hnw hnb
   go_wp2_with fail
   refine hs32.mono ?_;rintro e w' ⟨rfl,rfl⟩;clear hs32
   by_cases hz:nb=0
   ·subst hz
    go_wp2
    go_ret
    exact⟨0,_,rfl,HST,own2,gr2⟩
   ·have hz1:nb=1:=by omega
    subst hz1
    go_wp2
    go_ret
    exact⟨1,_,rfl,HST,own2,gr2⟩
theorem Mj (g N i pc base:Nat)(R ys:List Nat)(vb:Value)(w:World)(ho:Own w base 138 .u32 (.slice (some ⟨g,0,none⟩) N N) R)(sR:Dg.Small 4294967296 R)(sb:Dg.Small 4294967296 ys)
  (hby: ∀w',w.grownBy w' (some g)→Rd w' .u32 vb ys) (hl:i+ys.length<R.length) (hRl:R.length≤2000000):
  yC 182 #[.slice (some ⟨g,i,none⟩) (ys.length+1) pc,vb] w fun e w'=>
   ∃(o:Nat) (cur:List Nat),e= .returned (.tuple #[])∧Py R cur ys i o∧Own w' base 138 .u32 (.slice (some ⟨g,0,none⟩) N N) cur∧w.grownBy w' (some g):=by
 obtain⟨bo,cb,rfl⟩:=(hby w (ib _ _)).shape;have HBY:Hid _:=hby
 clear hby
 go_enter func182,ntmps182
 go_wp2
 go_loopw [4,9] (fun cv kv wr=> ∃(k c:Nat) (cur:List Nat),k≤ys.length∧kv=yi k∧cv= .int .u32 c∧Own wr base 138 .u32 (.slice (some ⟨g,0,none⟩) N N) cur∧Sp R cur ys i k c∧w.grownBy wr (some g)) (fun _ kv _=>ys.length-(intOf kv).toNat)
 case atStart=>exact⟨0,0,R,Nat.zero_le _,rfl,rfl,ho,⟨rfl,sR,by omega,fun _ _=>rfl,by simp[Dg.vl]⟩,ib _ _⟩
 case round=>
  clear ho;obtain⟨k,c,cur,hk,rfl,rfl,own,hI,gr⟩:=hrel;have hcl:=hI.1;have hc1:=hI.2.2.1
  by_cases hlt:k<ys.length
  ·obtain⟨-,-,hcb⟩:=iQ (HBY.out wr gr)
   obtain⟨b2,off2,rfl,hcell2⟩:=hcb (by omega);have hy:=hcell2 k hlt;have hyl:=sb k;have hp:=own.c (i+k) (by omega);have hf:=own.f (i+k);rw[hI.2.2.2.1 _ (Nat.le_refl _)] at hp;have hpl:=sR (i+k);obtain⟨y,ey⟩: ∃y,ys.getD k 0=y:=⟨_,rfl⟩;obtain⟨p,ep⟩: ∃p,R.getD (i+k) 0=p:=⟨_,rfl⟩;rw[ey] at hy hyl;rw[ep] at hp hpl;have hst:=TV hI (by omega) ey ep hpl hyl;have ha32:=ur p y c wr hpl hyl hc1;clear ey ep hcell2 hcb hcl
   go_wp2_with fail
   refine ha32.mono ?_;rintro e w' ⟨rfl,rfl⟩;clear ha32
   go_wp2
   go_roundw
   case rel=>exact⟨k+1,_,_,by omega,by go_num,rfl,own.store (i+k) _,hst,eF gr (bI _ _ _ _)⟩
   case measure=>simp[intOf];omega
  ·have hke:k=ys.length:=by omega
   subst hke;have hp:=own.c (i+ys.length) (by omega);have hf:=own.f (i+ys.length);rw[hI.2.2.2.1 _ (Nat.le_refl _)] at hp;have hpl:=sR (i+ys.length);obtain⟨p,ep⟩: ∃p,R.getD (i+ys.length) 0=p:=⟨_,rfl⟩;rw[ep] at hp hpl;have hst:=TW hI hl ep hpl;have e0:((p:Int)+(c:Int)) % 4294967296=(((p+c) % 4294967296:Nat):Int):=by omega
   have own2:=own.store (i+ys.length) ((p+c) % 4294967296);have gr2:=eF gr (bI wr g (i+ys.length) (.int .u32 (((p+c) % 4294967296:Nat):Int)));rw[←e0] at own2 gr2;have HST:Hid _:=hst;clear ep hst hcl e0
   go_wp2
   go_end0
   exact⟨_,_,rfl,HST,own2,gr2⟩
theorem XC (x:Nat)(w:World)(h:x<4294967296):yC 179 #[.int .u32 x] w fun e w'=>e= .returned (yi ((32-bitLen x:Nat):Int))∧w'=w:=by
 have hl:=IK x w h;have hb:=bF x 32 (by omega);obtain⟨l,hl2⟩: ∃l,bitLen x=l:=⟨_,rfl⟩;rw[hl2] at hl hb⊢;clear hl2
 go_enter func179,ntmps179
 go_wp2_with fail
 refine hl.mono ?_;rintro e w' ⟨rfl,rfl⟩
 go_wp2
 go_ret
 exact⟨by go_num,rfl⟩
def GsR (w:World)(g at0 top d1 d0 p0:Nat)(gv rv:Value)(wr:World):Prop:=
 ∃(t r:Nat),gv= .int .u64 t∧rv= .int .u64 r∧Hid (GsI top d1 d0 p0 t r)∧r<4294967296∧t≤4294967297∧wr.cell? ⟨g,at0,none⟩=some (.int .u32 p0)∧yB w wr
theorem TX (g i n pc:Nat)(bb boff cb:Nat)(p2 p1 p0 d1 d0:Nat)(w:World)(hn:2≤n)(hnl:n≤2000000)(_hil:i≤2000000)
  (c2:w.cell? ⟨g,i+n,none⟩=some (.int .u32 p2)) (c1:w.cell? ⟨g,i+(n-1),none⟩=some (.int .u32 p1)) (c0:w.cell? ⟨g,i+(n-2),none⟩=some (.int .u32 p0))
  (e1:w.cell? ⟨bb,boff+(n-1),none⟩=some (.int .u32 d1)) (e0:w.cell? ⟨bb,boff+(n-2),none⟩=some (.int .u32 d0))
  (hp2:p2<4294967296) (hp1:p1<4294967296) (hp0:p0<4294967296) (hd1:d1<4294967296) (hd0:d0<4294967296) (hd:2147483648≤d1) (hle:p2≤d1):
  yC 180 #[.slice (some ⟨g,i,none⟩) (n+1) pc,.slice (some ⟨bb,boff,none⟩) n cb] w fun e w'=>
   ∃q:Nat,e= .returned (.int .u32 q)∧q<4294967296∧(∀k,k*(d1*4294967296+d0)≤(p2*4294967296+p1)*4294967296+p0→k<4294967296→k≤q)∧q*(d1*4294967296+d0)≤(p2*4294967296+p1)*4294967296+p0∧yB w w':=by
 have hor:=KJ p2 p1 hp2 hp1;obtain⟨top,ht⟩: ∃top,p2*4294967296+p1=top:=⟨_,rfl⟩;rw[ht] at hor⊢;have htl:top<18446744073709551616:=by omega
 have hst:=Z1 top d1 d0 p0 (by omega) hp0;obtain⟨q0,hq0⟩: ∃q,top/d1=q:=⟨_,rfl⟩;obtain⟨r0,hr0⟩: ∃r,top % d1=r:=⟨_,rfl⟩;have hr0l:r0<d1:=by rw[←hr0];exact Nat.mod_lt _ (by omega)
 have hq0l:q0≤4294967297:=by
  rw[←hq0];have:top/d1<4294967298:=by rw[Nat.div_lt_iff_lt_mul (by omega)];omega
  omega
 have f1:(top:Int)/(d1:Int)=(q0:Int):=by rw[←hq0];exact(Int.natCast_ediv top d1).symm
 have f2:(top:Int) % (d1:Int)=(r0:Int):=by rw[←hr0];exact(Int.natCast_emod top d1).symm
 have g1:IntKind.u64.wrap d1=(d1:Int):=IntWalk.u64_in _ ⟨by omega,by omega⟩;rw[hq0,hr0] at hst;have HTop:Hid _:=ht;clear hq0 hr0 ht;have n1:((n:Int)-1)=((n-1:Nat):Int):=by omega
 have n2:((n:Int)-2)=((n-2:Nat):Int):=by omega
 go_enter func180,ntmps180
 go_wp2
 go_quiet (fail)
 go_wp2
 go_quiet (fail)
 go_wp2
 go_quiet (fail)
 go_wp2
 go_loopw [9,10] (fun gv rv wr=>GsR w g (i+(n-2)) top d1 d0 p0 gv rv wr) (fun gv _ _=>msr gv)
 case atStart=>exact⟨q0,r0,rfl,by rw[f2],hst,by omega,hq0l,c0,aL (aL (aL (Below.refl _ _) _) _) _⟩
 case round=>
  clear c0 hst c1 c2 e0 e1 f1 f2 hr0l hq0l hor;obtain⟨t,r,rfl,rfl,HI,hr,ht1,hc0,bel⟩:=hrel;have hI:=HI.out;have hor:=KJ r p0 hr hp0
  by_cases hbig:4294967296≤t
  ·have hst:=S9 hI (by omega) (.inl hbig)
   have hbI:(4294967296:Int)≤(t:Int):=by omega
   have m1:((t:Int)-1)=((t-1:Nat):Int):=by omega
   have HS:Hid _:=hst
   by_cases hbr:4294967296≤r+d1
   ·have hfin:=Mk hst hbr (by omega) HTop.out hle hp1 hd0
    have HF:Hid _:=hfin;have hbrI:(4294967296:Int)≤(r:Int)+(d1:Int):=by omega
    clear hfin hst hI hbr
    go_wp2
    go_ret
    exact⟨t-1,by first|rfl| (rw[Ap HF.out.1];rfl),HF.out.1,HS.out.2,HF.out.2,bel⟩
   ·obtain⟨rd,hrd⟩: ∃rd,r+d1=rd:=⟨_,rfl⟩
    rw[hrd] at HS hbr;have hrdI:(r:Int)+(d1:Int)=(rd:Int):=by omega
    have hbrN:rd<4294967296:=by omega
    have hrdJ:(rd:Int)<4294967296:=by omega
    have hrdD:decide ((4294967296:Int)≤(rd:Int))=false:=by rw[decide_eq_false_iff_not];omega
    clear hst hI hbr hrd
    go_wp2
    go_roundw
    case rel=>exact⟨t-1,rd,rfl,rfl,HS.out,hbrN,by omega,hc0,bel⟩
    case measure=>simp[msr,intOf];omega
  ·have hbI:(t:Int)<4294967296:=by omega
   have hbN:t<4294967296:=by omega
   have hbd:decide ((4294967296:Int)≤(t:Int))=false:=by rw[decide_eq_false_iff_not];omega
   have hxy:=uf hbN hd0;have hxyI:(t:Int)*(d0:Int)≤18446744065119617025:=by rw[←Int.natCast_mul];omega
   have hxy0:0≤(t:Int)*(d0:Int):=by rw[←Int.natCast_mul];omega
   have hsum:r*4294967296+p0<18446744073709551616:=by omega
   obtain⟨sm,hsm⟩: ∃sm,r*4294967296+p0=sm:=⟨_,rfl⟩;rw[hsm] at hor hsum
   by_cases hgt:sm<t*d0
   ·have hpos:0<t:=by
     rcases Nat.eq_zero_or_pos t with e|e
     ·rw[e,Nat.zero_mul] at hgt;omega
     ·exact e
    have hgtI:(sm:Int)< (t:Int)*(d0:Int):=by rw[←Int.natCast_mul];omega
    have hst:=S9 hI hpos (.inr (by rw[hsm];exact hgt));clear hbig hsm hgt;have m1:((t:Int)-1)=((t-1:Nat):Int):=by omega
    have HS:Hid _:=hst
    by_cases hbr:4294967296≤r+d1
    ·have hfin:=Mk hst hbr (by omega) HTop.out hle hp1 hd0
     have HF:Hid _:=hfin;have hbrI:(4294967296:Int)≤(r:Int)+(d1:Int):=by omega
     clear hfin hst hI hbr
     go_wp2
     go_ret
     exact⟨t-1,by first|rfl| (rw[Ap HF.out.1];rfl),HF.out.1,HS.out.2,HF.out.2,bel⟩
    ·obtain⟨rd,hrd⟩: ∃rd,r+d1=rd:=⟨_,rfl⟩
     rw[hrd] at HS hbr;have hrdI:(r:Int)+(d1:Int)=(rd:Int):=by omega
     have hbrN:rd<4294967296:=by omega
     have hrdJ:(rd:Int)<4294967296:=by omega
     have hrdD:decide ((4294967296:Int)≤(rd:Int))=false:=by rw[decide_eq_false_iff_not];omega
     clear hst hI hbr hrd
     go_wp2
     go_roundw
     case rel=>exact⟨t-1,rd,rfl,rfl,HS.out,hbrN,by omega,hc0,bel⟩
     case measure=>simp[msr,intOf];omega
   ·have hgtI:(t:Int)*(d0:Int)≤(sm:Int):=by rw[←Int.natCast_mul];omega
    have hfin:=Z2 hI (by rw[hsm];omega);have HF:Hid _:=hfin;have hgd:decide ((sm:Int)< (t:Int)*(d0:Int))=false:=by rw[decide_eq_false_iff_not];omega
    clear hbig hsm hgt hfin hI
    go_wp2
    go_ret
    exact⟨t,by first|rfl| (rw[Ap hbN];rfl),hbN,HI.out.2,HF.out,bel⟩
theorem Own.other {w w':World}{base e:Nat}{k:IntKind}{b g n cap:Nat}{zs:List Nat}(h:Own w base e k (.slice (some ⟨b,0,none⟩) n cap) zs)(hg:w.grownBy w' (some g))(hne:b≠g):Own w' base e k (.slice (some ⟨b,0,none⟩) n cap) zs:=by
 have hb:=h.block;obtain⟨hl,h2⟩:=h;refine⟨hl, ?_⟩
 rcases h2 with h2| ⟨g',cap',cur,hv,hbg,hh,r⟩
 ·exact .inl h2
 ·refine .inr ⟨g',cap',cur,hv,hbg, ?_,r⟩
  simp at hv;rw[hg.block g' (by omega) (by intro e;cases e;omega)]
  exact hh
theorem Own.form {w:World}{base e:Nat}{k:IntKind}{v:Value}{zs:List Nat}(h:Own w base e k v zs)(hp:0<zs.length): ∃g cap,v= .slice (some ⟨g,0,none⟩) zs.length cap∧base≤g∧g<w.heap.size∧zs.length≤cap:=by
 have h0:=h;obtain⟨hl,h2⟩:=h
 rcases h2 with⟨_,h2⟩| ⟨g',cap',cur,rfl,hbg,hh,r⟩
 ·omega
 ·exact⟨g',cap',rfl,hbg,h0.block.2,r.1⟩
def ae2 (w:World)(A D M N gr go gb cb:Nat)(bs:List Nat)(iv:Value)(wr:World):Prop:=
 ∃(k:Nat) (R os:List Nat),k≤M∧iv=yi ((k:Int)-1)∧Jm A D M R os N k∧Own wr w.heap.size 138 .u32 (.slice (some ⟨gr,0,none⟩) N N) R∧Own wr w.heap.size 138 .u32 (.slice (some ⟨go,0,none⟩) M M) os∧
  Own wr w.heap.size 138 .u32 (.slice (some ⟨gb,0,none⟩) bs.length cb) bs∧yB w wr
def Two (w:World)(q r:Nat)(e:Ending)(w':World):Prop:=
 ∃v1 v2,e= .returned (.tuple #[v1,v2])∧Own w' w.heap.size 138 .u32 v1 (Dg.dg 4294967296 q)∧Own w' w.heap.size 138 .u32 v2 (Dg.dg 4294967296 r)∧yB w w'
theorem JS (va vb:Value)(xs ys:List Nat)(w:World)(ha:Rd w .u32 va xs)(hb:Rd w .u32 vb ys)(sa:Dg.Small 4294967296 xs)(sb:Dg.Small 4294967296 ys)(nb:Dg.Norm ys)(hn:2≤ys.length)(hle:ys.length≤xs.length)(hla:xs.length≤900000):
  yC 140 #[va,vb] w (Two w (Dg.vl 4294967296 xs/Dg.vl 4294967296 ys) (Dg.vl 4294967296 xs % Dg.vl 4294967296 ys)):=by
 obtain⟨i0,hi,hz0,hz1,hz2⟩:=info_parts Tryz.infoU32;have hsz:(Tryz.prog.info? 138).map (·.size)=some 1:=by rw[hi];simp[hz1]
 obtain⟨s,hs⟩: ∃s,32-bitLen (ys.getD (ys.length-1) 0)=s:=⟨_,rfl⟩;obtain⟨hs32,hD1,hD2⟩:=V7 ys s sb nb hn hs.symm;have hlz:=XC (ys.getD (ys.length-1) 0) w (sb _);rw[hs] at hlz;have hrb:=vO vb ys s 0 s (2^s) w hb sb (by omega) (by omega) hs32 rfl (by omega) (by intro e;rw[e] at hn;simp at hn);have HRA:Hid (∀w1,yB w w1→yC 128 #[va,yi s] w1 (Num w1 (Dg.vl 4294967296 xs*2^s))):=fun w1 b1=>
  vO va xs s 0 s (2^s) w1 (ha.l b1) sa (by omega) (by omega) hs32 rfl (by omega) (by intro e;rw[e] at hle;have h0:ys.length≤0:=hle;omega)
 obtain⟨ao,ca,rfl⟩:=ha.shape;obtain⟨bo,cb,rfl⟩:=hb.shape;obtain⟨-,-,hcb⟩:=iQ hb;obtain⟨bb,boff,rfl,hcell⟩:=hcb (by omega);have hy:=hcell (ys.length-1) (by omega);have hyl:=sb (ys.length-1);have n1:((ys.length:Int)-1)=((ys.length-1:Nat):Int):=by omega
 have hvx:=Dg.vl_lt 4294967296 xs sa;obtain⟨X,hX⟩: ∃X,Dg.vl 4294967296 xs=X:=⟨_,rfl⟩;obtain⟨Y,hY⟩: ∃Y,Dg.vl 4294967296 ys=Y:=⟨_,rfl⟩;rw[hX] at HRA hvx⊢;rw[hY] at hrb hD1 hD2⊢;obtain⟨nn,hnn⟩: ∃nn,ys.length=nn:=⟨_,rfl⟩;obtain⟨na,hna⟩: ∃na,xs.length=na:=⟨_,rfl⟩;obtain⟨y,hyy⟩: ∃y,ys.getD (ys.length-1) 0=y:=⟨_,rfl⟩;rw[hyy] at hlz hy hyl;rw[hnn] at hD1 hD2 hrb hy n1 hn hle⊢;rw[hna] at HRA hle hla hvx⊢;have HD1:Hid (2147483648*4294967296^ (nn-1)≤Y*2^s):=hD1;have HD2:Hid (Y*2^s<4294967296^nn):=hD2;have HVX:Hid (X<4294967296^na):=hvx;clear ha hb sa sb nb hs hcb hcell hX hY hnn hna hyy hD1 hD2 hvx
 go_enter func140,ntmps140
 go_wp2_with fail
 refine hlz.mono ?_;rintro e w' ⟨rfl,rfl⟩;clear hlz
 go_wp2_with fail
 refine hrb.mono ?_;rintro e w1 ⟨vby,rfl,ownb,bel1⟩;clear hrb;have hDl:(Dg.dg 4294967296 (Y*2^s)).length=nn:=V8 nn _ (by omega) (by have:=HD1.out;omega) HD2.out;obtain⟨gb,cby,rfl,hgb1,hgb2,hcby⟩:=ownb.form (by omega);rw[hDl] at ownb hcby⊢;obtain⟨bs,hbs⟩: ∃bs,Dg.dg 4294967296 (Y*2^s)=bs:=⟨_,rfl⟩;rw[hbs] at ownb hDl
 go_wp2_with (at_make;refine wpList_make_full _ rfl _ _ 100 rfl w1.heap.size 138 i0 (.int .u32 0) 1 underlying100 hi hz0 hz1 _ _ _ _ (na+1) rfl rfl (by omega) (by omega) ?b2 ?b3 (Nat.le_refl _) ?_)
 case b2=>rw[hz2];omega
 case b3=>unfold maxLen;omega
 intro w2 hown2 hgrow2;have own2:=gL hown2;have bel2:yB w1 w2:=(Below.refl _ _).grown hgrow2 (Nat.le_refl _) (fun k h=>by cases h)
 clear hown2 hgrow2
 go_wp2_with fail
 refine(HRA.out w2 (aa bel1 bel2)).mono ?_;rintro e w3 ⟨vra,rfl,owna,bel3⟩;obtain⟨az,haz⟩: ∃az,Dg.dg 4294967296 (X*2^s)=az:=⟨_,rfl⟩;rw[haz] at owna;have hal:az.length≤na+1:=by rw[←haz];exact RI X na s HVX.out hs32
 have rda:=owna.rd;obtain⟨ara,cra,rfl⟩:=rda.shape;have own3:=own2.l bel3;obtain⟨w4,hrun,own4,gr4⟩:=Nw 100 100 3 underlying100 hsz own3 rda (by simpa using hal);have b12:=aa bel1 bel2;have b13:=aa b12 bel3;have bel4:Below w'.heap.size w' w4:=b13.grown gr4 b13.size (fun k hk=>by cases hk;exact bel1.size)
 have ownb4:=((ownb.l bel2).l bel3).other gr4 (by omega);have own4:=own4.lower bel1.size;clear own3 rda owna HRA own2 ownb hsz
 go_wp2_with (at_make;refine wpList_make_full _ rfl _ _ 100 rfl w4.heap.size 138 i0 (.int .u32 0) 1 underlying100 hi hz0 hz1 _ _ _ _ (na+1-nn) rfl rfl ?b0 ?b1 ?b2 ?b3 (Nat.le_refl _) ?_)
 case b0=>omega
 case b1=>omega
 case b2=>rw[hz2];omega
 case b3=>unfold maxLen;omega
 intro w5 hown5 hgrow5;have own5:=gL hown5;have bel5:yB w4 w5:=(Below.refl _ _).grown hgrow5 (Nat.le_refl _) (fun k h=>by cases h)
 have ownr5:=own4.l bel5;have ownb5:=ownb4.l bel5;have belw:=aa bel4 bel5;have hb14:w1.heap.size<w4.heap.size:=own4.block.2;have hbw1:w'.heap.size≤w1.heap.size:=bel1.size;clear hown5 hgrow5 own4 ownb4 bel4 bel5 bel1 bel2 bel3 b12 b13 gr4 hrun hy hyl n1;have hst:=Pj (nn:=nn) haz hal HVX.out hs32 (by omega) (by omega) HD1.out;have hsb:Dg.Small 4294967296 bs:=by rw[←hbs];exact Dg.small_dg _ _ (by omega)
 have hvb:Dg.vl 4294967296 bs=Y*2^s:=by rw[←hbs];exact Dg.vl_dg _ _ (by omega)
 have hY0:0<Y:=by
  rcases Nat.eq_zero_or_pos Y with e|e
  ·have:=HD1.out
   rw[e,Nat.zero_mul] at this;have h2:=Nat.pow_pos (n:=nn-1) (show 0<4294967296 by omega)
   omega
  ·exact e
 obtain⟨M,hM⟩: ∃M,na+1=M+nn:=⟨na+1-nn,by omega⟩;rw[hM,Nat.add_sub_cancel] at own5 hst;rw[hM] at ownr5;rw[hM,Nat.add_sub_cancel];obtain⟨g4,hg4⟩: ∃g4,w4.heap.size=g4:=⟨_,rfl⟩;obtain⟨g1,hg1⟩: ∃g1,w1.heap.size=g1:=⟨_,rfl⟩;rw[hg4] at own5 hb14⊢;rw[hg1] at ownr5 hb14 hbw1 hgb2⊢;have own5:=own5.lower (show w'.heap.size≤g4 by omega)
 have ne1:gb≠g1:=by omega
 have ne2:g1≠g4:=by omega
 have ne3:gb≠g4:=by omega
 have hbw4:w'.heap.size≤g4:=by omega
 have hMN:M+nn≤900001:=by omega
 clear haz hal HVX hbs hM hle hla hg4 hg1
 go_wp2
 go_loopw [10] (fun iv wr=>ae2 w' (X*2^s) (Y*2^s) M (M+nn) g1 g4 gb cby bs iv wr) (fun iv _=>(intOf iv+1).toNat)
 case atStart=>exact⟨M,_,_,Nat.le_refl _,rfl,hst,ownr5,own5,by rw[hDl];exact ownb5,belw⟩
 case round=>
  clear hst own5 ownr5 ownb5 belw hgb1 hgb2 hcby hb14 hi hz0 hz1 hz2;obtain⟨k,R,os,hk,rfl,hI,ownR,ownO,ownB,bel⟩:=hrel
  by_cases hk0:k=0
  ·subst hk0
   have hen:=Xs hY0 hI;have ro:=ownO.rd;have rr:=ownR.rd;clear ownB
   go_wp2_with fail
   refine(jD _ _ _ _ _ ro).mono ?_;rintro e w6 ⟨m,rfl,hm,rfl⟩;have to0:=jW 4294967296 (by omega) ownO hI.2.2.2.1 hm;rw[hen.1] at to0
   go_wp2_with fail
   refine(jD _ _ _ _ _ rr).mono ?_;rintro e w6 ⟨m2,rfl,hm2,rfl⟩;have tr:=jW 4294967296 (by omega) ownR hI.2.2.1 hm2;have hlow:=Dj _ _ s 0 s w6 tr.rd (Dg.small_dg _ _ (by omega)) (by have h1:=hm2.1;have h2:=hI.1;have h3:=tr.len;omega) (by omega) hs32 (by omega);rw[Dg.vl_dg _ _ (by omega),hen.2] at hlow;clear ro rr hm hm2 hen ownO ownR tr hI
   go_wp2_with fail
   refine hlow.mono ?_;rintro e w7 ⟨vr,rfl,ownr7,bel7⟩;have to7:=to0.l bel7;have b7:=aa bel bel7;have or7:=ownr7.lower bel.size;clear hlow
   go_wp2
   go_ret2
   exact⟨_,_,rfl,to7,or7,b7⟩
  ·obtain⟨i,rfl⟩: ∃i,k=i+1:=⟨k-1,by omega⟩
   have n2:((i+1:Nat):Int)-1=(i:Int):=by omega
   rw[n2];have hRl:=hI.1;rw[hDl] at ownB;have c2:=ownR.c (i+nn) (by omega);have c1:=ownR.c (i+(nn-1)) (by omega);have c0:=ownR.c (i+(nn-2)) (by omega);have e1:=ownB.c (nn-1) (by omega);have e0:=ownB.c (nn-2) (by omega);have lg:=Pi hI hsb hvb hn HD1.out HD2.out;have hgs:=TX g1 i nn (M+nn-i) gb 0 cby _ _ _ _ _ wr hn (by omega) (by omega) c2 c1 c0 (by rw[Nat.zero_add];exact e1) (by rw[Nat.zero_add];exact e0) (hI.2.2.1 _) (hI.2.2.1 _) (hI.2.2.1 _) (hsb _) (hsb _) lg.1 lg.2.1;have LG:=lg.2.2;have HLG:Hid _:=LG;clear c2 c1 c0 e1 e0 lg LG
   go_wp2_with fail
   rw[show i+nn+1-i=nn+1 from by omega]
   refine hgs.mono ?_;rintro e w6 ⟨g,rfl,hgl,hlow,hup,bel6⟩;clear hgs;have hq:=HLG.out g hgl hlow hup;clear HLG hlow hup;have ownR6:=ownR.l bel6;have ownO6:=ownO.l bel6;have ownB6:=ownB.l bel6;have b6:=aa bel bel6;clear ownR ownO ownB bel6 bel;have htk:=H7 g1 (M+nn) i (M+nn-i) w'.heap.size g R bs _ w6 ownR6 hI.2.2.1 hsb (fun w'' hg=>(ownB6.other hg ne1).rd) (by omega) hgl (by omega)
   rw[hDl] at htk;obtain⟨q,hqq⟩: ∃q,Dg.vl 4294967296 R/4294967296^i/(Y*2^s)=q:=⟨_,rfl⟩;rw[hqq] at hq;have HRE:Hid (∀cur b,acc R cur bs i g b→_):=fun cur b hT=>QR hT hI.2.2.1 rfl hvb (Nat.mul_pos hY0 (Nat.pow_pos (by omega))) (by rw[hDl];exact HD2.out) hI.2.2.2.2.2.2 hqq hq.2
   go_wp2_with fail
   refine htk.mono ?_;rintro e w7 ⟨b,cur,rfl,hT,ownC,gr7⟩;have hre:=HRE.out cur b hT;have hb1:=hT.2.2.2.1;have hTl:=hT.1;have hTs:=hT.2.1;have ownO7:=ownO6.other gr7 ne2.symm;have ownB7:=ownB6.other gr7 ne1;have b7:=b6.grown gr7 b6.size (fun k hk=>by cases hk;exact hbw1)
   have hql:=hq.1;have hil:i<M:=by omega
   clear HRE hT htk hq hqq ownR6 ownO6 ownB6 b6 gr7
   by_cases hb:b=0
   ·subst hb
    obtain⟨rfl,hv,hlt⟩:=hre.1 rfl;have hnx:=Iv hI hil hgl hTl hTs hv hlt;have ed:decide ((0:Nat)=1)=false:=rfl;rw[ed];have hf:=ownO7.f i;have hcO:=ownO7.c i (by have:=hI.2.1;omega);clear hre hv hlt hI hTs
    go_wp2
    go_roundw
    case rel=>exact⟨i,cur,_,by omega,by go_num,hnx,ownC.other (bI _ _ _ _) ne2,ownO7.store i _,by rw[hDl];exact ownB7.other (bI _ _ _ _) ne3,b7.setCell (by exact hbw4) _⟩
    case measure=>simp[intOf]
   ·have hb:b=1:=by omega
    subst hb;obtain⟨rfl,hbk⟩:=hre.2 rfl;have hpb:=Mj g1 (M+nn) i (M+nn-i) w'.heap.size cur bs _ w7 ownC hTs hsb (fun w'' hg=>(ownB7.other hg ne1).rd) (by omega) (by omega)
    rw[hDl] at hpb;have ed:decide ((1:Nat)=1)=true:=rfl;rw[ed];have n3:((q+1:Nat):Int)-1=(q:Int):=by omega
    have HBK:Hid _:=hbk;clear hre hbk
    go_wp2_with fail
    refine hpb.mono ?_;rintro e w8 ⟨o,cur',rfl,hB,ownC8,gr8⟩;obtain⟨hv,hlt⟩:=HBK.out cur' o hB;have hnx:=Iv hI hil hql (hB.1.trans hTl) hB.2.1 hv hlt;have ownO8:=ownO7.other gr8 ne2.symm;have ownB8:=ownB7.other gr8 ne1;have b8:=b7.grown gr8 b7.size (fun k hk=>by cases hk;exact hbw1)
    have hf:=ownO8.f i;have hcO:=ownO8.c i (by have:=hI.2.1;omega);clear hpb HBK hv hlt hB gr8 hI hTs ownC ownO7 ownB7 b7
    go_wp2
    go_roundw
    case rel=>exact⟨i,cur',_,by omega,by go_num,hnx,ownC8.other (bI _ _ _ _) ne2,ownO8.store i _,by rw[hDl];exact ownB8.other (bI _ _ _ _) ne3,b8.setCell (by exact hbw4) _⟩
    case measure=>simp[intOf]
theorem Eu {w w':World}{g i:Nat}(h:w'.heap[g]? =w.heap[g]?):w'.frozen? ⟨g,i,none⟩=w.frozen? ⟨g,i,none⟩:=by
 unfold World.frozen?;simp only[h]
structure XU (w:World) (lv:List Value) (w':World):Prop where
 ly:au w' w.heap.size 124 lv
 m:au w' (w.heap.size+1) 127 (yfL false 0 0)
 b:yB w w'
theorem XU.l {w w1 w2:World}{lv:List Value}(h:XU w lv w1)(b:yB w1 w2):XU w lv w2:=⟨h.ly.l b,h.m.l b,aa h.b b⟩
def NmR (w:World)(n:Nat)(z:Ending)(w':World):Prop:= ∃v,z= .returned v∧Rd w' .u32 v (Dg.dg 4294967296 n)∧yB w w'
def TwR (w:World)(a b:Nat)(z:Ending)(w':World):Prop:= ∃v u,z= .returned (.tuple #[v,u])∧Rd w' .u32 v (Dg.dg 4294967296 a)∧Rd w' .u32 u (Dg.dg 4294967296 b)∧yB w w'
end Go.Proofs.YtpgijbdgljkeeaaGreatDoor

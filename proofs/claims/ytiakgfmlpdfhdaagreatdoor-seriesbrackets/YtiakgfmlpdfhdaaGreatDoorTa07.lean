/-
  Texts laid together: Begun, Ref3, Ref4, Bits, Ref5, Ref6, Dy2, Dr1, Bl6, Dk1, Bs2, Se2, Se3, Back, Ref7, IntoM, Into0, Into1.
-/
import Derived.Test.YtiakgfmlpdfhdaaGreatDoorTa01
import Derived.Test.YtiakgfmlpdfhdaaGreatDoorTa02
import Derived.Test.YtiakgfmlpdfhdaaGreatDoorTa03
set_option maxRecDepth 100000
set_option maxHeartbeats 1600000
namespace Go.Proofs.YtiakgfmlpdfhdaaGreatDoor
open _root_.Go.Proofs.Tryz
open Go.RowKit
theorem cE {w:World}{k:IntKind}{e:Nat}(zs:List Nat)(cs:Array Value)(hcs:cs=(zs.map (fun n:Nat=>Value.int k (n:Int))).toArray)(hl:zs.length≤maxLen):
  Rd (w.alloc (.cells cs e)) k (.slice (some ⟨w.heap.size,0,none⟩) zs.length zs.length) zs:=by
 refine⟨_,zs.length,rfl,Nat.le_refl _,hl,fun _=>⟨w.heap.size,0,rfl,fun i hi=> ?_⟩⟩
 rw[World.cell?_alloc_at _ _ _ _ rfl,hcs,Nat.zero_add];simp only[List.getElem?_toArray];exact j9 k zs i hi
theorem fm (va vb:Value)(xs ys:List Nat)(w:World)(ha:Rd w .i64 va xs)(hb:Rd w .i64 vb ys)(sa:Dg.Small 65536 xs)(sb:Dg.Small 65536 ys)(na:Dg.Norm xs)(nb:Dg.Norm ys):
  yC 50 #[va,vb] w (yR w (yi (dm (Dg.vl 65536 xs) (Dg.vl 65536 ys)))):=by
 obtain⟨ao,ca,rfl,hla,hma,hca⟩:=ha;obtain⟨bo,cb,rfl,hlb,hmb,hcb⟩:=hb;unfold maxLen at hma hmb
 by_cases h1:xs.length<ys.length
 ·have hv:=Dg.vl_lt_of_len 65536 (by omega) xs ys sa nb h1
  rw[gX (by omega)];have hne:((xs.length:Int) != (ys.length:Int))=true:=by rw[bne_iff_ne];omega
  go_enter func50,ntmps50
  go_wp2
  go_ret
  exact⟨rfl,Below.refl _ _⟩
 ·by_cases h2:ys.length<xs.length
  ·have hv:=Dg.vl_lt_of_len 65536 (by omega) ys xs sb na h2
   rw[sO (by omega)];have hne:((xs.length:Int) != (ys.length:Int))=true:=by rw[bne_iff_ne];omega
   go_enter func50,ntmps50
   go_wp2
   go_ret
   exact⟨rfl,Below.refl _ _⟩
  ·have hle:xs.length=ys.length:=by omega
   obtain⟨r,hr⟩: ∃r,dm (Dg.vl 65536 xs) (Dg.vl 65536 ys)=r:=⟨_,rfl⟩;rw[hr];have HR:Hid _:=hr;have HL:Hid _:=hle;rw[hle] at hla hca⊢;clear hr hle h1 h2
   go_enter func50,ntmps50
   go_wp2
   go_loopw [5] (fun iv wr=> ∃k:Nat,k≤ys.length∧iv=yi ((k:Int)-1)∧Hid (∀j,k≤j→xs.getD j 0=ys.getD j 0)∧yB w wr) (fun iv _=>(intOf iv+1).toNat)
   case atStart=>exact⟨ys.length,Nat.le_refl _,rfl,fun j hj=>by rw[Dg.getD_of_le xs j (by rw[HL.out];exact hj),Dg.getD_of_le ys j hj],Below.refl _ _⟩
   case round=>
    obtain⟨k,hk,rfl,hall,bel⟩:=hrel
    by_cases hk0:k=0
    ·subst hk0
     have he:=Dg.eq_of_all xs ys HL.out (fun j=>hall j (by omega))
     have hr0:r=0:=by rw[←HR.out,he,Bh]
     subst hr0;clear he
     go_wp2
     go_ret
     exact⟨rfl,bel⟩
    ·obtain⟨m,rfl⟩: ∃m,k=m+1:=⟨k-1,by omega⟩
     obtain⟨b,off,rfl,hcell⟩:=hca (by omega);obtain⟨b2,off2,rfl,hcell2⟩:=hcb (by omega);have hx:=cell_later bel (hcell m (by omega));have hy:=cell_later bel (hcell2 m (by omega));have hst:xs.getD m 0<ys.getD m 0→dm (Dg.vl 65536 xs) (Dg.vl 65536 ys)= -1:=fun h=>
      gX (by have:=Dg.vl_lt_of_digit 65536 xs ys m HL.out (by rw[HL.out];omega) hall h sa;omega)
     have hst2:ys.getD m 0<xs.getD m 0→dm (Dg.vl 65536 xs) (Dg.vl 65536 ys)=1:=fun h=>
      sO (by have:=Dg.vl_lt_of_digit 65536 ys xs m HL.out.symm (by omega) (fun j hj=>(hall j hj).symm) h sb;omega)
     rw[HR.out] at hst hst2;obtain⟨x,ex⟩: ∃x,xs.getD m 0=x:=⟨_,rfl⟩;obtain⟨y,ey⟩: ∃y,ys.getD m 0=y:=⟨_,rfl⟩;have HX:Hid _:=ex;have HY:Hid _:=ey;rw[ex] at hx hst hst2;rw[ey] at hy hst hst2;clear ex ey hcell hcell2 hca hcb;have hmI:((m+1:Nat):Int)-1=(m:Int):=by omega
     rw[hmI];clear hmI
     by_cases hxy:x<y
     ·have hr1:=hst hxy
      subst hr1;clear hst hst2
      go_wp2
      go_quiet (fail)
      go_wp2
      go_ret
      exact⟨rfl,aL bel _⟩
     ·by_cases hyx:y<x
      ·have hr1:=hst2 hyx
       subst hr1;clear hst hst2
       go_wp2
       go_quiet (fail)
       go_wp2
       go_quiet (fail)
       go_wp2
       go_ret
       exact⟨rfl,aL (aL bel _) _⟩
      ·have hxe:x=y:=by omega
       subst hxe;clear hst hst2
       go_wp2
       go_quiet (fail)
       go_wp2
       go_quiet (fail)
       go_wp2
       go_roundw
       case rel=>exact⟨m,by omega,by go_num,fun j hj=>by
        by_cases e:j=m
        ·rw[e];exact HX.out.trans HY.out.symm
        ·exact hall j (by omega),aL bel _⟩
       case measure=>simp[intOf]
theorem I0 (B:Nat)(l:List Nat)(hn:Dg.Norm l)(k:Nat)(h:k<l.length)(hB:0<B):B^k≤Dg.vl B l:=by
 have h1:=Dg.vl_ge B l (by intro e;subst e;simp at h) hn;exact Nat.le_trans (Nat.pow_le_pow_right hB (by omega)) h1
def abk (xs ys ps:List Nat)(k c:Nat):Prop:=
 ps.length=k∧Dg.Small 65536 ps∧c≤1∧Dg.vl 65536 ps+65536^k*c=Dg.vl 65536 (xs.take k)+Dg.vl 65536 (ys.take k)∧(0<k→65536^ (k-1)≤Dg.vl 65536 xs+Dg.vl 65536 ys)
theorem Yx {xs ys ps:List Nat}{k c:Nat}(h:abk xs ys ps k c)(hk: ¬(k<xs.length∨k<ys.length∨0<c)):ps=Dg.dg 65536 (Dg.vl 65536 xs+Dg.vl 65536 ys):=by
 obtain⟨h1,h2,h3,h4,h5⟩:=h;have hc:c=0:=by omega
 subst hc;rw[List.take_of_length_le (by omega),List.take_of_length_le (by omega)] at h4;refine Dg.eq_dg 65536 (by omega) _ _ h2 (Dg.norm_of_ge 65536 ps h2 (fun hne=> ?_)) (by omega)
 have:=h5 (by rw[←h1];exact List.length_pos_iff.2 hne);rw[h1];omega
theorem IL (B:Nat)(b:Nat)(hb:B=2^b)(h1:1<B)(zs:List Nat)(hs:Dg.Small B zs)(hn:Dg.Norm zs)(hne:zs≠[]):bitLen (Dg.vl B zs)=b*(zs.length-1)+bitLen (zs.getD (zs.length-1) 0):=by
 have hl:0<zs.length:=List.length_pos_iff.2 hne;have hsp:=Dg.vl_split B zs (zs.length-1) (by omega);rw[show zs.length-1+1=zs.length from by omega,List.drop_of_length_le (Nat.le_refl _)] at hsp
 simp only[Dg.vl,Nat.mul_zero,Nat.add_zero] at hsp;have hlt:=Dg.vl_lt B (zs.take (zs.length-1)) (Dg.small_take hs _ (by omega));rw[List.length_take,Nat.min_eq_left (by omega)] at hlt;have hpw:B^ (zs.length-1)=2^ (b*(zs.length-1)):=by rw[hb,Nat.pow_mul]
 have hdiv:Dg.vl B zs/2^ (b*(zs.length-1))=zs.getD (zs.length-1) 0:=by
  rw[←hpw,hsp,Nat.add_comm,Nat.mul_add_div (Nat.pow_pos (by omega)),Nat.div_eq_of_lt hlt,Nat.add_zero]
 have hnz:=hn hne;rw[bitLen_shift _ (b*(zs.length-1)) (by rw[hdiv];exact hnz),hdiv]
theorem kF (va:Value)(xs:List Nat)(w:World)(ha:Rd w .i64 va xs)(sa:Dg.Small 65536 xs)(na:Dg.Norm xs)(hla:xs.length≤3000000):
  yC 30 #[va] w fun e w'=>e= .returned (yi (bitLen (Dg.vl 65536 xs):Nat))∧w'=w:=by
 obtain⟨ao,ca,rfl,-,-,hca⟩:=ha
 by_cases h0:xs.length=0
 ·obtain rfl:xs=[]:=List.eq_nil_of_length_eq_zero h0
  go_enter func30,ntmps30
  go_wp2
  go_ret
  exact⟨rfl,rfl⟩
 ·have hne:xs≠[]:=by intro e;subst e;simp at h0
  obtain⟨b,off,rfl,hcell⟩:=hca (by omega);have hc:=hcell (xs.length-1) (by omega);have hs:=sa (xs.length-1);rw[IL 65536 16 (by decide) (by omega) xs sa na hne];obtain⟨x,ex⟩: ∃x,xs.getD (xs.length-1) 0=x:=⟨_,rfl⟩;rw[ex] at hc hs⊢;have hbl:=bF x 16 (by omega);have h00:((xs.length:Int)==0)=false:=by simp;intro e;subst e;simp at h0
  clear ex hcell hca hne;obtain⟨T,hT⟩: ∃T,16*(xs.length-1)+bitLen x=T:=⟨_,rfl⟩;rw[hT];have HT:Hid _:=hT;clear hT
  go_enter func30,ntmps30
  go_wp2
  go_loop [3,4] (fun nv dv=> ∃m d:Nat,nv=yi m∧dv=yi d∧d<65536∧m≤100000000∧Hid (m+bitLen d=T)) (fun _ dv=>(intOf dv).toNat)
  case atStart=>exact⟨16*(xs.length-1),x,by go_num,rfl,hs,by omega,HT⟩
  case round=>
   obtain⟨m,d,rfl,rfl,hd,hm,hmd⟩:=hrel
   by_cases hd0:d=0
   ·subst hd0
    have he:m=T:=by have:=hmd.out;rw[gP] at this;omega
    subst he
    go_wp2
    go_ret
    exact⟨rfl,rfl⟩
   ·have hb2:=vC d hd0
    have hmT:m+1+bitLen (d/2)=T:=by have:=hmd.out;omega
    have hT2:T≤60000000:=by have:=HT.out;omega
    have HM:Hid _:=hmT;have hm2:m<60000000:=by omega
    clear hb2 hmT
    go_wp2
    go_round
    case rel=>exact⟨m+1,d/2,by go_num,by go_num,by omega,by omega,HM⟩
    case measure=>simp[intOf];omega
def Sv (xs ys ps:List Nat)(i:Nat):Prop:=
 ps.length=xs.length+ys.length∧Dg.Small 65536 ps∧(∀j,i+ys.length≤j→ps.getD j 0=0)∧Dg.vl 65536 ps=Dg.vl 65536 (xs.take i)*Dg.vl 65536 ys
def M5 (xs ys ps:List Nat)(i k c:Nat):Prop:=
 ps.length=xs.length+ys.length∧Dg.Small 65536 ps∧c<65536∧(∀j,i+ys.length+1≤j→ps.getD j 0=0)∧(k≤ys.length→ps.getD (i+ys.length) 0=0)∧(ys.length<k→c=0)∧k≤ys.length+1∧
  Dg.vl 65536 ps+65536^ (i+k)*c=Dg.vl 65536 (xs.take i)*Dg.vl 65536 ys+65536^i*(xs.getD i 0*Dg.vl 65536 (ys.take k))
theorem M6 (xs ys:List Nat):Sv xs ys (List.replicate (xs.length+ys.length) 0) 0:=by
 refine⟨by simp,Dg.small_replicate _ _ (by omega),fun j _=> ?_, ?_⟩
 ·by_cases h:j<xs.length+ys.length<;>simp[List.getD_eq_getElem?_getD,h]
 ·simp[Dg.vl_replicate_zero,Dg.vl]
theorem M7 {xs ys ps:List Nat}{i:Nat}(h:Sv xs ys ps i):M5 xs ys ps i 0 0:=
 ⟨h.1,h.2.1,by omega,fun j hj=>h.2.2.1 j (by omega),fun _=>h.2.2.1 _ (by omega),fun _=>rfl,by omega,by rw[h.2.2.2];simp[Dg.vl]⟩
theorem Qk {xs ys ps:List Nat}{i k c:Nat}(h:M5 xs ys ps i k c)(hi:i<xs.length)(hk: ¬(k<ys.length∨0<c)):Sv xs ys ps (i+1):=by
 obtain⟨h1,h2,h3,h4,h5,h6,h7,h8⟩:=h;have hc:c=0:=by omega
 subst hc;refine⟨h1,h2,fun j hj=>h4 j (by omega), ?_⟩
 rw[Dg.vl_take_succ _ _ _ hi,Nat.add_mul,Nat.mul_assoc];have e:ys.take k=ys:=List.take_of_length_le (by omega);rw[e] at h8;omega
theorem xh {w:World}{base e:Nat}{g n cap m:Nat}{zs:List Nat}(h:Own w base e .i64 (.slice (some ⟨g,0,none⟩) n cap) zs)(hs:Dg.Small 65536 zs)(ht:Ou zs m)(hl:zs.length≤3000000):Rd w .i64 (.slice (some ⟨g,0,none⟩) m m) (Dg.dg 65536 (Dg.vl 65536 zs)):=
 uE 65536 (by omega) h.rd hs ht (Nat.le_refl _) (by have:=ht.1;unfold maxLen;omega)
theorem C6 (wh pt:Nat)(hpt:pt<16):(List.replicate (wh+1) 0).set wh (2^pt)=Dg.dg 65536 (2^ (16*wh+pt)):=by
 have hp:2^pt<65536:=by
  have:2^pt≤2^15:=Nat.pow_le_pow_right (by omega) (by omega);omega
 have hp0:0<2^pt:=Nat.pow_pos (by omega);refine Dg.eq_dg 65536 (by omega) _ _ (Dg.small_set (Dg.small_replicate _ _ (by omega)) _ _ hp) (fun _=> ?_) ?_
 ·simp only[List.length_set,List.length_replicate,Nat.add_sub_cancel]
  rw[Dg.getD_set _ _ _ _ (by simp),if_pos rfl];omega
 ·have:=Dg.vl_set 65536 (List.replicate (wh+1) 0) wh (2^pt) (by simp)
  have hz:(List.replicate (wh+1) 0).getD wh 0=0:=by simp[List.getD_eq_getElem?_getD]
  rw[hz,Dg.vl_replicate_zero] at this;rw[Nat.pow_add,Nat.pow_mul,show(2:Nat)^16=65536 from by decide]
  omega
theorem XR (P Q:Nat)(l:List Nat)(k:Nat)(h:k<l.length):(low P Q l).take (k+1)=(low P Q l).take k++[l.getD k 0/P+l.getD (k+1) 0 % P*Q]:=by
 rw[Dg.take_succ' _ k (by rw[mA];exact h),Gb P Q l k h]
theorem Ug (P Q:Nat)(l:List Nat)(hPQ:P*Q=65536)(hs:Dg.Small 65536 l):Dg.Small 65536 (low P Q l):=by
 intro j
 by_cases hj:j<l.length
 ·rw[Gb P Q l j hj]
  have hP:0<P:=by
   rcases Nat.eq_zero_or_pos P with e|e
   ·subst e;simp at hPQ
   ·exact e
  have h1:l.getD j 0/P<Q:=by rw[Nat.div_lt_iff_lt_mul hP,Nat.mul_comm,hPQ];exact hs j
  have h2:(l.getD (j+1) 0 % P+1)*Q≤P*Q:=Nat.mul_le_mul_right _ (Nat.mod_lt _ hP);rw[Nat.add_mul,hPQ] at h2;omega
 ·rw[Dg.getD_of_le _ _ (by rw[mA];omega)];omega
theorem aa7 (B:Nat)(hB:0<B)(xs:List Nat)(wh:Nat)(hw:wh≤xs.length)(sa:Dg.Small B xs):Dg.vl B (xs.drop wh)=Dg.vl B xs/B^wh:=by
 have hsp:=Dg.vl_take_drop B xs wh hw;have hlt:=Dg.vl_lt B (xs.take wh) (Dg.small_take sa _ hB);rw[List.length_take,Nat.min_eq_left hw] at hlt;rw[hsp,Nat.add_comm,Nat.mul_add_div (Nat.pow_pos hB),Nat.div_eq_of_lt hlt,Nat.add_zero]
theorem aN (w:World)(k:IntKind):Rd w k yN []:=(aQ w 0 0 k).rd
theorem QY (l:List Nat)(k t m:Nat)(hk:k<l.length)(h: ∀j,j<k→l.getD j 0=0)(hd:l.getD k 0=2^t*(2*m+1))(ht:t<16):tz (Dg.vl 65536 l)=16*k+t:=by
 have h1:=Dg.vl_split 65536 l k hk;have h0:Dg.vl 65536 (l.take k)=0:=Dg.vl_zeros 65536 (l.take k) (fun i=>by
  by_cases hi:i<k
  ·have:=h i hi
   simpa[List.getD_eq_getElem?_getD,List.getElem?_take,hi] using this
  ·simp[List.getD_eq_getElem?_getD,List.getElem?_take,hi])
 rw[h0,hd,Nat.zero_add] at h1;obtain⟨u,hu⟩: ∃u,Dg.vl 65536 (l.drop (k+1))=u:=⟨_,rfl⟩;rw[hu] at h1;have e32:(65536:Nat)=2^t*(2*2^ (15-t)):=by
  have:(65536:Nat)=2^ (t+(1+(15-t))):=by rw[show t+(1+(15-t))=16 from by omega]
  rw[this,Nat.pow_add,Nat.pow_add,Nat.pow_one]
 have e1:(2:Nat)^ (16*k)=65536^k:=by rw[Nat.pow_mul]
 refine F8 (m:=m+2^ (15-t)*u) ?_;rw[h1,Nat.pow_add,e1,Nat.mul_assoc]
 congr 1
 generalize 2^ (15-t)=c at*;have e2:65536*u=2^t*(2*(c*u)):=by rw[e32];simp only[Nat.mul_assoc]
 rw[e2,←Nat.mul_add]
 congr 1
 omega
def tR (w:World)(t u:ak)(e:Ending)(w':World):Prop:=
 ∃p q,e= .returned (.agg #[.bool t.s,p,yi t.e,.bool u.s,q,yi u.e])∧Rd w' .i64 p (Dg.dg 65536 t.n)∧Rd w' .i64 q (Dg.dg 65536 u.n)∧yB w w'
def Lx (w:World)(t:ak)(e:Ending)(w':World):Prop:= ∃s,e= .returned (ydV t.s s t.e)∧Rd w' .u32 s (Dg.dg 4294967296 t.n)∧yB w w'
def aeT (w:World)(l h:ak)(z:Ending)(w':World):Prop:=
 ∃p q,z= .returned (.agg #[.bool l.s,p,yi l.e,.bool h.s,q,yi h.e])∧Rd w' .u32 p (Dg.dg 4294967296 l.n)∧Rd w' .u32 q (Dg.dg 4294967296 h.n)∧yB w w'
def BRd (w:World)(l h:ak)(er:Int)(z:Ending)(w':World):Prop:=
 ∃p q,z= .returned (.tuple #[.agg #[.bool l.s,p,yi l.e,.bool h.s,q,yi h.e],yi er])∧Rd w' .u32 p (Dg.dg 4294967296 l.n)∧Rd w' .u32 q (Dg.dg 4294967296 h.n)∧yB w w'
def NmS (w:World)(n:Nat)(z:Ending)(w':World):Prop:= ∃v,z= .returned v∧Rd w' .u32 v (Dg.dg 4294967296 n)∧yB w w'
def TwS (w:World)(a b:Nat)(z:Ending)(w':World):Prop:= ∃v u,z= .returned (.tuple #[v,u])∧Rd w' .u32 v (Dg.dg 4294967296 a)∧Rd w' .u32 u (Dg.dg 4294967296 b)∧yB w w'
def GsR (w:World)(g at0 top d1 d0 p0:Nat)(gv rv:Value)(wr:World):Prop:=
 ∃(t r:Nat),gv= .int .u64 t∧rv= .int .u64 r∧Hid (GsI top d1 d0 p0 t r)∧r<4294967296∧t≤4294967297∧wr.cell? ⟨g,at0,none⟩=some (.int .u32 p0)∧yB w wr
def X9 (xs cur:List Nat)(d k r:Nat):Prop:=
 cur.length=xs.length∧Dg.Small 65536 cur∧r<d∧Dg.vl 65536 (xs.drop k)=Dg.vl 65536 (cur.drop k)*d+r
theorem Qp {xs cur:List Nat}{d k r t:Nat}(h:X9 xs cur d (k+1) r)(hk:k<xs.length)(ht:t=65536*r+xs.getD k 0)(hd:0<d)(hq:t/d<65536):
  X9 xs (cur.set k (t/d)) d k (t % d):=by
 obtain⟨h1,h2,h3,h5⟩:=h;refine⟨by simpa using h1,Dg.small_set h2 _ _ hq,Nat.mod_lt _ hd, ?_⟩;rw[AU xs k hk,AU (cur.set k (t/d)) k (by simpa using(by omega:k<cur.length)),Dg.getD_set _ _ _ _ (by omega),if_pos rfl,List.drop_set_of_lt (by omega)];simp only[Dg.vl];rw[h5];have:=Nat.div_add_mod t d;rw[Nat.add_mul,Nat.mul_comm (t/d) d,Nat.mul_assoc,Nat.mul_add];omega
theorem Cv (d:Nat)(h:d<65536):Dg.dg 65536 d=if d=0 then[] else[d]:=by
 by_cases e:d=0
 ·subst e;rfl
 ·rw[if_neg e]
  exact(Dg.eq_dg 65536 (by omega) [d] d (Dg.small_cons.2 ⟨h,Dg.small_nil _ (by omega)⟩) (by intro _;simpa using e) (by simp[Dg.vl])).symm
theorem abW (B:Nat)(l:List Nat):Dg.vl B l=l.getD 0 0+B*Dg.vl B (l.drop 1):=by
 cases l with
 |nil=>simp[Dg.vl]
 |cons d l=>simp[Dg.vl]
theorem iy (B:Nat)(l:List Nat)(k:Nat):Dg.vl B (l.drop k)=l.getD k 0+B*Dg.vl B (l.drop (k+1)):=by
 rw[abW B (l.drop k),Vm,List.drop_drop]
theorem Zs (B:Nat)(l:List Nat)(k:Nat)(h:l.length≤k+3):Dg.vl B (l.drop k)=l.getD k 0+B*(l.getD (k+1) 0+B*l.getD (k+2) 0):=by
 rw[iy,iy,iy,List.drop_of_length_le (by omega)];simp[Dg.vl]
theorem Zt (B:Nat)(l:List Nat)(k:Nat)(h:l.length≤k+2):Dg.vl B (l.drop k)=l.getD k 0+B*l.getD (k+1) 0:=by
 rw[iy,iy,List.drop_of_length_le (by omega)];simp[Dg.vl]
theorem BH (B:Nat)(l:List Nat)(k:Nat):Dg.vl B l=Dg.vl B (l.take k)+B^k*Dg.vl B (l.drop k):=by
 by_cases h:k≤l.length
 ·exact Dg.vl_take_drop B l k h
 ·rw[List.take_of_length_le (by omega),List.drop_of_length_le (by omega)]
  simp[Dg.vl]
theorem Zu (rs bs:List Nat)(n R b top under:Nat)(hn:2≤n)(hbl:bs.length=n)(sr:Dg.Small 65536 rs)(nb:Dg.Norm bs)
  (hR:Dg.vl 65536 rs=R) (hb:Dg.vl 65536 bs=b) (hrl:rs.length≤n+1) (hlt:R<65536*b)
  (ht:top=65536*(65536*rs.getD n 0+rs.getD (n-1) 0)+rs.getD (n-2) 0) (hu:under=bs.getD (n-1) 0*65536+bs.getD (n-2) 0):
  R/b≤65535∧R/b≤top/(under+1)+1:=by
 obtain⟨k,rfl⟩: ∃k,n=k+2:=⟨n-2,by omega⟩;have e1:k+2-1=k+1:=by omega
 have e2:k+2-2=k:=by omega
 rw[e1,e2] at ht hu;have r1:=BH 65536 rs k;rw[Zs 65536 rs k (by omega),hR] at r1;have b1:=BH 65536 bs k;rw[Zt 65536 bs k (by omega),hb] at b1;have et:rs.getD k 0+65536*(rs.getD (k+1) 0+65536*rs.getD (k+2) 0)=top:=by omega
 have eu:bs.getD k 0+65536*bs.getD (k+1) 0=under:=by omega
 rw[et] at r1;rw[eu] at b1;have rl:Dg.vl 65536 (rs.take k)<65536^k:=Nat.lt_of_lt_of_le (Dg.vl_lt 65536 _ (Dg.small_take sr k (by omega))) (Nat.pow_le_pow_right (by omega) (List.length_take_le _ _));have hu1:65536≤under:=by
  have h0:=nb (by intro e;rw[e] at hbl;simp at hbl);rw[hbl,e1] at h0;omega
 obtain⟨P,hP⟩: ∃P,65536^k=P:=⟨_,rfl⟩;rw[hP] at r1 b1 rl;have hb0:0<b:=by
  rcases Nat.eq_zero_or_pos b with h|h
  ·rw[h] at hlt;omega
  ·exact h
 obtain⟨Q,hQ⟩: ∃Q,R/b=Q:=⟨_,rfl⟩;have q1:Q≤65535:=by
  rw[←hQ];have:R/b<65536:=by rw[Nat.div_lt_iff_lt_mul hb0];exact hlt
  omega
 have q2:Q*b≤R:=by rw[←hQ];exact Nat.div_mul_le_self R b
 rw[hQ];refine⟨q1, ?_⟩;have q3:Q*(P*under)≤Q*b:=Nat.mul_le_mul_left _ (by omega);have q4:P*(Q*under)<P*(top+1):=by
  have:P*(Q*under)=Q*(P*under):=by rw[←Nat.mul_assoc,Nat.mul_comm P Q,Nat.mul_assoc]
  rw[this,Nat.mul_add];omega
 have q5:Q*under<top+1:=Nat.lt_of_mul_lt_mul_left q4
 rcases Nat.eq_zero_or_pos Q with h|h
 ·rw[h];exact Nat.zero_le _
 ·obtain⟨q,rfl⟩: ∃q,Q=q+1:=⟨Q-1,by omega⟩
  have q6:q*(under+1)≤top:=by
   rw[Nat.add_mul] at q5;rw[Nat.mul_add];omega
  have:=(Nat.le_div_iff_mul_le (by omega)).2 q6;omega
def BI (xs cur:List Nat)(b k R:Nat):Prop:=
 cur.length=xs.length∧Dg.Small 65536 cur∧(∀j,j<k→cur.getD j 0=0)∧R<b∧Dg.vl 65536 (xs.drop k)=Dg.vl 65536 (cur.drop k)*b+R
theorem NF (xs:List Nat)(b:Nat)(hb:0<b):BI xs (List.replicate xs.length 0) b xs.length 0:=by
 refine⟨by simp,Dg.small_replicate _ _ (by omega),fun j hj=>by simp[List.getD_eq_getElem?_getD,hj],hb, ?_⟩
 simp[Dg.vl]
theorem Vn {xs cur:List Nat}{b k R N:Nat}(h:BI xs cur b (k+1) R)(hk:k<xs.length)(hN:N=xs.getD k 0+65536*R)(hb:0<b)(hx:xs.getD k 0<65536):
  N<65536*b∧BI xs (cur.set k (N/b)) b k (N % b):=by
 obtain⟨h1,h2,h3,h4,h5⟩:=h;have hlt:N<65536*b:=by
  have:65536*(R+1)≤65536*b:=Nat.mul_le_mul_left _ h4;omega
 have hq:N/b<65536:=by rw[Nat.div_lt_iff_lt_mul hb];exact hlt
 refine⟨hlt,by simpa using h1,Dg.small_set h2 _ _ hq,fun j hj=> ?_,Nat.mod_lt _ hb, ?_⟩
 ·rw[Dg.getD_set _ _ _ _ (by omega),if_neg (by omega)]
  exact h3 j (by omega)
 ·rw[iy 65536 xs k,iy 65536 (cur.set k (N/b)) k,Dg.getD_set _ _ _ _ (by omega),if_pos rfl,List.drop_set_of_lt (by omega),h5]
  have:=Nat.div_add_mod N b;rw[Nat.add_mul,Nat.mul_comm (N/b) b,Nat.mul_assoc,Nat.mul_add];omega
theorem QV {xs cur:List Nat}{b k R N:Nat}(h:BI xs cur b (k+1) R)(_hk:k<xs.length)(hN:N=xs.getD k 0+65536*R)(hlt:N<b):BI xs cur b k N:=by
 obtain⟨h1,h2,h3,h4,h5⟩:=h;refine⟨h1,h2,fun j hj=>h3 j (by omega),hlt, ?_⟩
 rw[iy 65536 xs k,iy 65536 cur k,h3 k (by omega),h5,Nat.zero_add,Nat.mul_add,Nat.mul_assoc];omega
theorem Vo {xs cur:List Nat}{b R:Nat}(h:BI xs cur b 0 R):Dg.vl 65536 xs/b=Dg.vl 65536 cur∧Dg.vl 65536 xs % b=R:=by
 obtain⟨h1,h2,h3,h4,h5⟩:=h;simp only[List.drop_zero] at h5;rw[h5,Nat.mul_comm];exact⟨by rw[Nat.mul_add_div (by omega),Nat.div_eq_of_lt h4];omega,by rw[Nat.mul_add_mod,Nat.mod_eq_of_lt h4]⟩
theorem Ho {P:Program}{w:World}{base e:Nat}{k:IntKind}{v u:Value}{xs ys:List Nat}(t ty:Nat)(i:TypeInfo)(bytes:Nat)(ht:P.underlying t=some (.slice e))(hi:P.info? e=some i)
  (hz:i.zero=some (.int k 0)) (hsize:i.size=1) (hby:i.bytes=bytes) (hb8:bytes≤8)
  (ho:Own w base e k v xs) (hr:Rd w k u ys) (hl:xs.length+ys.length≤3000000) (hbase:base≤w.heap.size):
  ∃v' w',(Builtin.append_ #[t,t] ty #[v,u]).run P w= .ok v' w'∧Own w' base e k v' (xs++ys)∧w.grownBy w' v.ownBlock:=by
 obtain⟨ao,cap,rfl,h1,h2,h3⟩:=hr
 cases ao with
 |none=>
  have hy:ys.length=0:=by
   rcases Nat.eq_zero_or_pos ys.length with e|e
   ·exact e
   ·obtain⟨b,off,e2,_⟩:=h3 e;cases e2
  have hyn:ys=[]:=List.length_eq_zero_iff.1 hy;subst hyn;refine⟨v,w, ?_,by rw[List.append_nil];exact ho,ib _ _⟩
  rcases ho.2 with⟨rfl,_⟩| ⟨g,cap',cur,rfl,_,_,hnc,_⟩
  ·simp[Builtin.append_,run_underlying ht,sizeOf,typeInfo,hi,Builtin.lenOf,Builtin.firstCells]
  ·simp[Builtin.append_,run_underlying ht,sizeOf,typeInfo,hi,Builtin.lenOf,Builtin.firstCells,hnc,storeCells]
 |some ad=>
  obtain⟨v',w',r1,r2,r3,_⟩:=run_append_own (P:=P) (w:=w) base t ty e i (.int k 0) 1 bytes ht hi hz hsize hby rfl (by omega) v xs.length _ ho ad ys.length cap (ys.map (fun n:Nat=>Value.int k (n:Int))) (by simp) (fun j u hj=>by
    have hjl:j<ys.length:=by
     have:=(List.getElem?_eq_some_iff.1 hj).1
     simpa using this
    obtain⟨b,off,e2,hc⟩:=h3 (by omega)
    cases e2
    rw[rO,hc j hjl];rw[←hj,j9 k ys j hjl]) (fun u hu=>by
    obtain⟨n,_,rfl⟩:=List.mem_map.1 hu;rfl) (by unfold maxLen;omega) (Nat.le_trans (Nat.mul_le_mul (show xs.length+ys.length≤3000000 from hl) hb8) (by omega)) hbase
  exact⟨v',w',r1,by unfold Own;rw[List.map_append,List.length_append];exact r2,r3⟩
def aeu (w:World)(xs:List Nat)(b k R:Nat)(cur:List Nat)(rv:Value)(wr:World):Prop:=
 Own wr w.heap.size 3 .i64 (.slice (some ⟨w.heap.size,0,none⟩) xs.length xs.length) cur∧Rd wr .i64 rv (Dg.dg 65536 R)∧BI xs cur b k R∧yB w wr
def aev (W5:World)(g1 n1 Q:Nat)(rv dv:Value)(wq:World):Prop:=
 rv= .slice (some ⟨g1,0,none⟩) n1 n1∧ ∃d:Nat,Q≤d∧d≤65535∧dv=yi d∧yB W5 wq
theorem Wm {rs:List Nat}(h:Dg.Small 65536 rs)(n j:Nat):sJ rs n j<65536^j:=by
 induction j with
 |zero=>simp[sJ]
 |succ j ih=>
  have:=h (n-j);simp only[sJ,Nat.pow_succ];omega
theorem aaD (w:World)(base e d:Nat)(hb:base≤w.heap.size):Own (w.alloc (.cells #[yi d] e)) base e .i64 (.slice (some ⟨w.heap.size,0,none⟩) 1 1) [d]:=
 World.ownsRow_lit (e:=e) (size:=1) (base:=base) w #[yi d] 1 hb (by unfold maxLen;omega) rfl
theorem Wo {w:World}{k:IntKind}{g n c:Nat}{zs:List Nat}(h:Rd w k (.slice (some ⟨g,0,none⟩) n c) zs)(i:Nat)(hi:i<zs.length):w.cell? ⟨g,i,none⟩=some (.int k ((zs.getD i 0:Nat):Int)):=by
 have hn:=wn h;subst hn;obtain⟨_,_,h3⟩:=iQ h;obtain⟨b,off,e,hc⟩:=h3 (by omega)
 cases e
 have:=hc i hi
 rwa [Nat.zero_add] at this
end Go.Proofs.YtiakgfmlpdfhdaaGreatDoor

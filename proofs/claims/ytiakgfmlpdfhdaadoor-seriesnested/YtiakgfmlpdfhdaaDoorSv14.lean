/-
  Texts laid together: Div1, DivBy, Minus, Ref2, Ref5, Dy3, Dy8, Dy9, Aw0, Bs1, Bs2, Into2, BlN, BlM, Fi6, Rk1.
-/
import Derived.Test.YtiakgfmlpdfhdaaDoorSv03
import Derived.Test.YtiakgfmlpdfhdaaDoorSv05
import Derived.Test.YtiakgfmlpdfhdaaDoorSv07
import Derived.Test.YtiakgfmlpdfhdaaDoorSv08
set_option maxRecDepth 100000
set_option maxHeartbeats 1600000
namespace Go.Proofs.YtiakgfmlpdfhdaaDoor
open Go.RowKit
theorem Vb (hi lo y:Nat)(w:World)(h1:hi<y)(h2:lo<4294967296)(h3:y<4294967296):
  yC 102 #[.int .u32 hi,.int .u32 lo,.int .u32 y] w (yR w (.tuple #[.int .u32 ((hi*4294967296+lo)/y:Nat),.int .u32 ((hi*4294967296+lo) % y:Nat)])):=by
 have hor:=KJ hi lo (by omega) h2;obtain⟨t,ht⟩: ∃t,hi*4294967296+lo=t:=⟨_,rfl⟩;have hq1:=I6 h1 h2 ht.symm;have htb:t<18446744073709551616:=by omega
 rw[ht] at hor⊢;have hr1:t % y<y:=Nat.mod_lt _ (by omega);obtain⟨q,hq⟩: ∃q,t/y=q:=⟨_,rfl⟩;obtain⟨r,hr⟩: ∃r,t % y=r:=⟨_,rfl⟩;have hqI:(t:Int)/(y:Int)=(q:Int):=by rw[←hq];exact(Int.natCast_ediv t y).symm
 have hrI:(t:Int) % (y:Int)=(r:Int):=by rw[←hr];exact(Int.natCast_emod t y).symm
 rw[hq] at hq1⊢;rw[hr] at hr1⊢;clear hq hr ht;have hd:decide (y≤hi)=false:=by simp;omega
 have hy:((y:Int) != 0)=true:=by rw[bne_iff_ne];omega
 go_enter Tryd.func102,Tryd.ntmps102
 go_wp2
 go_quiet (fail)
 go_wp2
 go_ret2
 exact⟨rfl,aL (Below.refl _ _) _⟩
theorem Ew {w w':World}(g:Option Nat)(h:yB w w'):w.grownBy w' g:=⟨h.os,h.tape,h.output,h.size,fun k hk _=>h.block k hk⟩
theorem Jq {xs ys ps:List Nat}{k c x y:Nat}(h:Z7 xs ys ps k c)(hk:k<xs.length)(hx:xs.getD k 0=x)(hy:ys.getD k 0=y)(hxl:x<4294967296)(hyl:y<4294967296):
  Z7 xs ys (ps.set k ((x+4294967296-y-c) % 4294967296)) (k+1) (brw x y c):=by
 obtain⟨h1,h2,h3,h4⟩:=h;refine⟨by simpa using h1,Dg.small_set h2 _ _ (Nat.mod_lt _ (by omega)),RN _ _ _, ?_⟩;rw[sQ _ _ _ (by omega),pO xs,pO ys,hx,hy];have e:x+4294967296*brw x y c=(x+4294967296-y-c) % 4294967296+y+c:=by unfold brw;split<;>omega
 have e2:4294967296^k*(x+4294967296*brw x y c)=4294967296^k*((x+4294967296-y-c) % 4294967296+y+c):=by rw[e]
 have e3:4294967296^ (k+1)*brw x y c=4294967296^k*(4294967296*brw x y c):=by rw[Nat.pow_succ,Nat.mul_assoc]
 rw[Nat.mul_add,Nat.mul_add,Nat.mul_add] at e2;rw[e3];omega
theorem gM (va vb:Value)(xs ys:List Nat)(w:World)(ha:Rd w .u32 va xs)(hb:Rd w .u32 vb ys):
  yC 49 #[va,vb] w (yR w (.bool (decide (xs=ys)))):=by
 obtain⟨ao,ca,rfl,hla,hma,hca⟩:=ha;obtain⟨bo,cb,rfl,hlb,hmb,hcb⟩:=hb;unfold maxLen at hma hmb;obtain⟨r,hr⟩: ∃r,decide (xs=ys)=r:=⟨_,rfl⟩;rw[hr]
 by_cases hle:xs.length=ys.length
 ·have HR:Hid _:=hr
  have HL:Hid _:=hle;rw[hle] at hla hca⊢;clear hr hle
  go_enter Tryd.func49,Tryd.ntmps49
  go_wp2
  go_loopw [5] (fun iv wr=> ∃k:Nat,k≤ys.length∧iv=yi k∧Hid (∀j,j<k→xs.getD j 0=ys.getD j 0)∧yB w wr) (fun iv _=>ys.length-(intOf iv).toNat)
  case atStart=>exact⟨0,Nat.zero_le _,rfl,fun j hj=>by omega,Below.refl _ _⟩
  case round=>
   obtain⟨k,hk,rfl,hall,bel⟩:=hrel
   by_cases hlt:k<ys.length
   ·obtain⟨b,off,rfl,hcell⟩:=hca (by omega)
    obtain⟨b2,off2,rfl,hcell2⟩:=hcb (by omega);have hx:=cell_later bel (hcell k hlt);have hy:=cell_later bel (hcell2 k hlt);have hst:xs.getD k 0≠ys.getD k 0→decide (xs=ys)=false:=fun h=>by
     rw[decide_eq_false];intro e;rw[e] at h;exact h rfl
    rw[HR.out] at hst;obtain⟨x,ex⟩: ∃x,xs.getD k 0=x:=⟨_,rfl⟩;obtain⟨y,ey⟩: ∃y,ys.getD k 0=y:=⟨_,rfl⟩;have HX:Hid _:=ex;have HY:Hid _:=ey;rw[ex] at hx hst;rw[ey] at hy hst;clear ex ey hcell hcell2 hca hcb
    by_cases hxy:x=y
    ·subst hxy
     clear hst
     go_wp2
     go_quiet (fail)
     go_wp2
     go_roundw
     case rel=>exact⟨k+1,by omega,by go_num,fun j hj=>by
      by_cases e:j=k
      ·rw[e];exact HX.out.trans HY.out.symm
      ·exact hall j (by omega),aL bel _⟩
     case measure=>simp[intOf];omega
    ·have hrf:=hst hxy
     subst hrf;have hne:((x:Int) != (y:Int))=true:=by rw[bne_iff_ne];omega
     go_wp2
     go_quiet (fail)
     go_wp2
     go_ret
     exact⟨rfl,aL bel _⟩
   ·have he:xs=ys:=Dg.eq_of_all xs ys HL.out (fun j=>by
     by_cases hj:j<k
     ·exact hall j hj
     ·rw[Dg.getD_of_le xs j (by rw[HL.out];omega),Dg.getD_of_le ys j (by omega)])
    have hrt:r=true:=by rw[←HR.out];exact decide_eq_true he
    subst hrt;clear he
    go_wp2
    go_ret
    exact⟨rfl,bel⟩
 ·have hrf:r=false:=by rw[←hr];apply decide_eq_false;intro e;rw[e] at hle;exact hle rfl
  subst hrf;clear hr;have hne:((xs.length:Int) != (ys.length:Int))=true:=by rw[bne_iff_ne];omega
  go_enter Tryd.func49,Tryd.ntmps49
  go_wp2
  go_ret
  exact⟨rfl,Below.refl _ _⟩
theorem Qj {xs ys ps:List Nat}{i k c:Nat}(h:M5 xs ys ps i k c)(sa:Dg.Small 65536 xs)(sb:Dg.Small 65536 ys)(hi:i<xs.length)(hk:k<ys.length∨0<c)(t:Nat)(ht:t=ps.getD (i+k) 0+c+xs.getD i 0*ys.getD k 0):
  M5 xs ys (ps.set (i+k) (t % 65536)) i (k+1) (t/65536):=by
 obtain⟨h1,h2,h3,h4,h5,h6,h7,h8⟩:=h;have hkl:k≤ys.length:=by
  rcases Nat.lt_or_ge ys.length k with e|e
  ·have:=h6 e;omega
  ·exact e
 have hl:i+k<ps.length:=by omega
 have hp:=h2 (i+k);have hxy:=C8 (sa i) (sb k);refine⟨by simpa using h1,Dg.small_set h2 _ _ (Nat.mod_lt _ (by omega)),by omega,fun j hj=> ?_,fun hk2=> ?_,fun hk2=> ?_,by omega, ?_⟩
 ·rw[Dg.getD_set _ _ _ _ hl,if_neg (by omega)];exact h4 j hj
 ·rw[Dg.getD_set _ _ _ _ hl,if_neg (by omega)];exact h5 (by omega)
 ·have hke:k=ys.length:=by omega
  subst hke;rw[h5 (Nat.le_refl _),Dg.getD_of_le ys _ (Nat.le_refl _)] at ht;omega
 ·have hs:=Dg.vl_set 65536 ps (i+k) (t % 65536) hl
  rw[iV];have hpw:65536^ (i+(k+1))*(t/65536)=65536^ (i+k)*(65536*(t/65536)):=by
   rw[show i+(k+1)=(i+k)+1 from by omega,Nat.pow_succ,Nat.mul_assoc]
  have hm:65536^ (i+k)*t=65536^ (i+k)*(t % 65536)+65536^ (i+k)*(65536*(t/65536)):=by
   rw[←Nat.mul_add,Nat.mod_add_div]
  have he:65536^ (i+k)*t=65536^ (i+k)*ps.getD (i+k) 0+65536^ (i+k)*c+65536^ (i+k)*(xs.getD i 0*ys.getD k 0):=by
   rw[ht,Nat.mul_add,Nat.mul_add]
  have hd:65536^i*(xs.getD i 0*(Dg.vl 65536 (ys.take k)+65536^k*ys.getD k 0))=65536^i*(xs.getD i 0*Dg.vl 65536 (ys.take k))+65536^ (i+k)*(xs.getD i 0*ys.getD k 0):=by
   rw[Nat.mul_add,Nat.mul_add,Nat.pow_add]
   congr 1
   rw[Nat.mul_assoc,Nat.mul_left_comm (xs.getD i 0)]
  rw[hpw,hd];omega
def gR (w:World)(r:ak×Int)(e:Ending)(w':World):Prop:=
 ∃s,e= .returned (.tuple #[ydV r.1.s s r.1.e,yi r.2])∧Own w' w.heap.size 87 .u32 s (Dg.dg 4294967296 r.1.n)∧yB w w'
theorem ig (s:Bool)(ao:Option Addr)(ca:Nat)(xs:List Nat)(e:Int)(t:Bool)(bo:Option Addr)(cb:Nat)(ys:List Nat)(f:Int)(w:World)
  (hr:Rd w .u32 (.slice ao xs.length ca) xs) (hq:Rd w .u32 (.slice bo ys.length cb) ys):
  yC 24 #[ydV s (.slice ao xs.length ca) e,ydV t (.slice bo ys.length cb) f] w (yR w (.bool (decide (s=t∧e=f∧xs=ys)))):=by
 have bA:=af w (.cells (ydA s (.slice ao xs.length ca) e) 25);have bB:=aa bA (af _ (.cells (ydA t (.slice bo ys.length cb) f) 25))
 by_cases h1:s=t
 ·by_cases h2:e=f
  ·subst h1 h2
   have hs:=gM _ _ xs ys _ (hr.l bB) (hq.l bB);rw[show decide (s=s∧e=e∧xs=ys)=decide (xs=ys) from by simp]
   obtain⟨b,hb⟩: ∃b,decide (xs=ys)=b:=⟨_,rfl⟩;rw[hb] at hs⊢;clear hb hr hq
   go_enter Tryd.func24,Tryd.ntmps24
   go_wp2_with fail
   refine hs.mono ?_;rintro z w1 ⟨rfl,b1⟩;have b2:=aa bB b1
   go_wp2
   go_ret
   exact⟨rfl,b2⟩
  ·rw[show decide (s=t∧e=f∧xs=ys)=false from by simp[h2]]
   have h3:(e==f)=false:=by simp[h2]
   subst h1;clear hr hq
   go_enter Tryd.func24,Tryd.ntmps24
   go_wp2
   go_ret
   exact⟨rfl,bB⟩
 ·rw[show decide (s=t∧e=f∧xs=ys)=false from by simp[h1]]
  have h3:(s==t)=false:=by simp[h1]
  clear hr hq
  go_enter Tryd.func24,Tryd.ntmps24
  go_wp2
  go_ret
  exact⟨rfl,bB⟩
theorem qB (v:Value)(t:ak)(w:World)(hv:Dv w v t):yC 80 #[v] w (yR w (yi (dJ t))):=by
 obtain⟨s0,rfl,hr⟩:=hv;obtain⟨ao,ca,rfl⟩:=hr.shape;obtain⟨ts,n,e⟩:=t;have hnl:=Dg.dg_nil_iff 4294967296 n (by omega);simp only at hr⊢;unfold dJ;simp only;obtain⟨m,hm⟩: ∃m,(Dg.dg 4294967296 n).length=m:=⟨_,rfl⟩;have hz:m=0↔n=0:=by rw[←hm,List.length_eq_zero_iff];exact hnl
 rw[hm];have bA:=af w (.cells (ydA ts (.slice ao m ca) e) 66);clear hm hr hnl
 by_cases h:n=0
 ·rw[if_pos h]
  have hm0:=hz.2 h;subst hm0;clear hz h
  go_enter Tryd.func80,Tryd.ntmps80
  go_wp2
  go_ret
  exact⟨rfl,bA⟩
 ·rw[if_neg h]
  have hm0:((m:Int)==0)=false:=by
   have: ¬m=0:=fun e=>h (hz.1 e)
   simp;exact this
  clear hz h
  cases ts
  ·go_enter Tryd.func80,Tryd.ntmps80
   go_wp2
   go_ret
   exact⟨rfl,bA⟩
  ·go_enter Tryd.func80,Tryd.ntmps80
   go_wp2
   go_ret
   exact⟨rfl,bA⟩
def RVF (w:World)(c:Int)(g:Bool)(t:ak)(fl:Int)(z:Ending)(w':World):Prop:=
 ∃s,z= .returned (.tuple #[yoV c g t.s s t.e,yi fl])∧Rd w' .i64 s (Dg.dg 65536 t.n)∧yB w w'
theorem mu {w:World}{b n:Nat}{ty:TypeId}{v:Value}(h:Rd w .i64 v (Dg.dg 65536 n))(hl:au w b ty (yoL 0 false false yN 0)):wF b v (Dg.dg 65536 n):=
 cq h (Dg.norm_dg _ _ (by omega)) hl (fun x hx n hn=>by simp at hx;rcases hx with rfl|rfl|rfl|rfl|rfl<;>simp;all_goals omega)
theorem Qy (s:Bool)(ao:Option Addr)(la ca:Nat)(e:Int)(w:World):
  yC 70 #[ydV s (.slice ao la ca) e] w (yR w (.agg #[.bool s,.slice ao la ca,yi e,.bool s,.slice ao la ca,yi e])):=by
 go_enter Tryd.func70,Tryd.ntmps70
 go_wp2
 go_returns
 exact⟨rfl,((Below.refl _ _).alloc (Nat.le_refl _) _).alloc (by simp[World.size_alloc]) _⟩
def ac8 (w:World)(x:Nat→ak)(ao:Nat→Option Addr)(ca:Nat→Nat)(l h:Nat)(z:Ending)(w':World):Prop:=
 z= .returned (.agg #[.bool (x l).s,.slice (ao l) (Dg.dg 4294967296 (x l).n).length (ca l),yi (x l).e,.bool (x h).s,.slice (ao h) (Dg.dg 4294967296 (x h).n).length (ca h),yi (x h).e])∧yB w w'
def aeT (w:World)(l h:ak)(z:Ending)(w':World):Prop:=
 ∃p q,z= .returned (.agg #[.bool l.s,p,yi l.e,.bool h.s,q,yi h.e])∧Rd w' .u32 p (Dg.dg 4294967296 l.n)∧Rd w' .u32 q (Dg.dg 4294967296 h.n)∧yB w w'
def jE (w:World)(r:ak×ak×Int)(e:Ending)(w':World):Prop:=
 ∃p q,e= .returned (.tuple #[.agg #[.bool r.1.s,p,yi r.1.e,.bool r.2.1.s,q,yi r.2.1.e],yi r.2.2])∧Own w' w.heap.size 87 .u32 p (Dg.dg 4294967296 r.1.n)∧Own w' w.heap.size 87 .u32 q (Dg.dg 4294967296 r.2.1.n)∧yB w w'
def JI (w:World)(q r:Nat)(e:Ending)(w':World):Prop:=
 ∃vq vr,e= .returned (.tuple #[vq,vr])∧Rd w' .i64 vq (Dg.dg 65536 q)∧Rd w' .i64 vr (Dg.dg 65536 r)∧yB w w'
def Ag (W:World)(base:Nat)(v:Value):Prop:= ∃p,v= .pointer (some ⟨p,0,none⟩)∧base≤p∧Loc W p (.bool false) yN (yi 0)
def V4 (W:World)(base:Nat)(v:Value):Prop:= ∃p,v= .pointer (some ⟨p,0,none⟩)∧base≤p∧Loc W p (.bool false) yN (yi 0)∧ZB W p
theorem ZB.off {w w':World}{q b:Nat}(h:ZB w q)(hg:w.grownBy w' (some b))(hne:q≠b):ZB w' q:=by
 obtain⟨hl,ty,hh⟩:=h;exact⟨Nat.lt_of_lt_of_le hl hg.size,ty,(hg.block q hl (by intro e;cases e;exact hne rfl)).trans hh⟩
def RVG (w:World)(c:Int)(g:Bool)(t:ak)(fl:Int)(z:Ending)(w':World):Prop:=
 ∃s,z= .returned (.tuple #[yoV c g t.s s t.e,yi fl])∧Rd w' .i64 s (Dg.dg 65536 t.n)∧Far w.heap.size s∧yB w w'
theorem ut.mono {J K:Int}{N1 M1 N2 M2:Nat}{E1 E2:Int}(h:ut J N1 M1 E1 N2 M2 E2)(hk:J≤K):ut K N1 M1 E1 N2 M2 E2:=fun j hj=>h j (by omega)
end Go.Proofs.YtiakgfmlpdfhdaaDoor

/-
  Texts laid together: Ref3, Ref4, Laws1, Laws2, Bits.
-/
import Derived.OpenShut
import Derived.Laws.MathBits
import Derived.Lib.BitFns
import Derived.Lib.Walk
import Derived.Lib.Small
import Derived.Test.YtpainhklfoaniaaGreatDoorSc03
set_option maxRecDepth 100000
set_option maxHeartbeats 4000000
namespace Go.Proofs.YtpainhklfoaniaaGreatDoor
open _root_.Go.Proofs.Tryz
open Go.RowKit
theorem fm (va vb:Value)(xs ys:List Nat)(w:World)(ha:Rd w .i64 va xs)(hb:Rd w .i64 vb ys)(sa:Dg.Small 65536 xs)(sb:Dg.Small 65536 ys)(na:Dg.Norm xs)(nb:Dg.Norm ys):
  yC 48 #[va,vb] w (yR w (yi (dm (Dg.vl 65536 xs) (Dg.vl 65536 ys)))):=by
 obtain⟨ao,ca,rfl,hla,hma,hca⟩:=ha;obtain⟨bo,cb,rfl,hlb,hmb,hcb⟩:=hb;unfold maxLen at hma hmb
 by_cases h1:xs.length<ys.length
 ·have hv:=Dg.vl_lt_of_len 65536 (by omega) xs ys sa nb h1
  rw[gX (by omega)];have hne:((xs.length:Int) != (ys.length:Int))=true:=by rw[bne_iff_ne];omega
  go_enter func48,ntmps48
  go_wp2
  go_ret
  exact⟨rfl,Below.refl _ _⟩
 ·by_cases h2:ys.length<xs.length
  ·have hv:=Dg.vl_lt_of_len 65536 (by omega) ys xs sb na h2
   rw[sO (by omega)];have hne:((xs.length:Int) != (ys.length:Int))=true:=by rw[bne_iff_ne];omega
   go_enter func48,ntmps48
   go_wp2
   go_ret
   exact⟨rfl,Below.refl _ _⟩
  ·have hle:xs.length=ys.length:=by omega
   obtain⟨r,hr⟩: ∃r,dm (Dg.vl 65536 xs) (Dg.vl 65536 ys)=r:=⟨_,rfl⟩;rw[hr];have HR:Hid _:=hr;have HL:Hid _:=hle;rw[hle] at hla hca⊢;clear hr hle h1 h2
   go_enter func48,ntmps48
   go_wp2
   go_loopw [5] (fun iv wr=> ∃k:Nat,k≤ys.length∧iv=yi ((k:Int)-1)∧Hid (∀j,k≤j→xs.getD j 0=ys.getD j 0)∧yB w wr) (fun iv _=>(intOf iv+1).toNat)
   case atStart=>exact⟨ys.length,Nat.le_refl _,rfl,fun j hj=>by rw[Dg.getD_of_le xs j (by rw[HL.out];exact hj),Dg.getD_of_le ys j hj],Below.refl _ _⟩
   case round=>
    obtain⟨k,hk,rfl,hall,bel⟩:=hrel
    by_cases hk0:k=0
    ·subst hk0
     have he:=Dg.eq_of_all xs ys HL.out (fun j=>hall j (by omega))
     have hr0:r=0:=by rw[←HR.out,he,Bh]
     subst hr0;clear he
     go_wp2
     go_ret
     exact⟨rfl,bel⟩
    ·obtain⟨m,rfl⟩: ∃m,k=m+1:=⟨k-1,by omega⟩
     obtain⟨b,off,rfl,hcell⟩:=hca (by omega);obtain⟨b2,off2,rfl,hcell2⟩:=hcb (by omega);have hx:=cell_later bel (hcell m (by omega));have hy:=cell_later bel (hcell2 m (by omega));have hst:xs.getD m 0<ys.getD m 0→dm (Dg.vl 65536 xs) (Dg.vl 65536 ys)= -1:=fun h=>
      gX (by have:=Dg.vl_lt_of_digit 65536 xs ys m HL.out (by rw[HL.out];omega) hall h sa;omega)
     have hst2:ys.getD m 0<xs.getD m 0→dm (Dg.vl 65536 xs) (Dg.vl 65536 ys)=1:=fun h=>
      sO (by have:=Dg.vl_lt_of_digit 65536 ys xs m HL.out.symm (by omega) (fun j hj=>(hall j hj).symm) h sb;omega)
     rw[HR.out] at hst hst2;obtain⟨x,ex⟩: ∃x,xs.getD m 0=x:=⟨_,rfl⟩;obtain⟨y,ey⟩: ∃y,ys.getD m 0=y:=⟨_,rfl⟩;have HX:Hid _:=ex;have HY:Hid _:=ey;rw[ex] at hx hst hst2;rw[ey] at hy hst hst2;clear ex ey hcell hcell2 hca hcb;have hmI:((m+1:Nat):Int)-1=(m:Int):=by omega
     rw[hmI];clear hmI
     by_cases hxy:x<y
     ·have hr1:=hst hxy
      subst hr1;clear hst hst2
      go_wp2
      go_quiet (fail)
      go_wp2
      go_ret
      exact⟨rfl,aL bel _⟩
     ·by_cases hyx:y<x
      ·have hr1:=hst2 hyx
       subst hr1;clear hst hst2
       go_wp2
       go_quiet (fail)
       go_wp2
       go_quiet (fail)
       go_wp2
       go_ret
       exact⟨rfl,aL (aL bel _) _⟩
      ·have hxe:x=y:=by omega
       subst hxe;clear hst hst2
       go_wp2
       go_quiet (fail)
       go_wp2
       go_quiet (fail)
       go_wp2
       go_roundw
       case rel=>exact⟨m,by omega,by go_num,fun j hj=>by
        by_cases e:j=m
        ·rw[e];exact HX.out.trans HY.out.symm
        ·exact hall j (by omega),aL bel _⟩
       case measure=>simp[intOf]
theorem I0 (B:Nat)(l:List Nat)(hn:Dg.Norm l)(k:Nat)(h:k<l.length)(hB:0<B):B^k≤Dg.vl B l:=by
 have h1:=Dg.vl_ge B l (by intro e;subst e;simp at h) hn;exact Nat.le_trans (Nat.pow_le_pow_right hB (by omega)) h1
def abk (xs ys ps:List Nat)(k c:Nat):Prop:=
 ps.length=k∧Dg.Small 65536 ps∧c≤1∧Dg.vl 65536 ps+65536^k*c=Dg.vl 65536 (xs.take k)+Dg.vl 65536 (ys.take k)∧(0<k→65536^ (k-1)≤Dg.vl 65536 xs+Dg.vl 65536 ys)
theorem UL {xs ys ps:List Nat}{k c:Nat}(h:abk xs ys ps k c)(na:Dg.Norm xs)(nb:Dg.Norm ys)(sa:Dg.Small 65536 xs)(sb:Dg.Small 65536 ys)(hk:k<xs.length∨k<ys.length∨0<c)(t:Nat)(ht:t=c+xs.getD k 0+ys.getD k 0):
  abk xs ys (ps++[t % 65536]) (k+1) (t/65536):=by
 obtain⟨h1,h2,h3,h4,h5⟩:=h;have hx:=sa k;have hy:=sb k;refine⟨by simp[h1],qP h2 (Nat.mod_lt _ (by omega)),by omega, ?_,fun _=> ?_⟩
 ·rw[Dg.vl_append,iV,iV,h1]
  simp only[Dg.vl,Nat.mul_zero,Nat.add_zero];have e:65536^ (k+1)*(t/65536)=65536^k*(65536*(t/65536)):=by rw[Nat.pow_succ,Nat.mul_assoc]
  have e2:65536^k*t=65536^k*(t % 65536)+65536^k*(65536*(t/65536)):=by rw[←Nat.mul_add,Nat.mod_add_div]
  have e3:65536^k*t=65536^k*c+65536^k*xs.getD k 0+65536^k*ys.getD k 0:=by rw[ht,Nat.mul_add,Nat.mul_add]
  rw[e];omega
 ·rw[Nat.add_sub_cancel]
  by_cases a:k<xs.length
  ·have:=I0 65536 xs na k a (by omega);omega
  ·by_cases b:k<ys.length
   ·have:=I0 65536 ys nb k b (by omega);omega
   ·rw[List.take_of_length_le (by omega),List.take_of_length_le (by omega)] at h4
    have:65536^k≤65536^k*c:=Nat.le_mul_of_pos_right _ (by omega);omega
theorem Yx {xs ys ps:List Nat}{k c:Nat}(h:abk xs ys ps k c)(hk: ¬(k<xs.length∨k<ys.length∨0<c)):ps=Dg.dg 65536 (Dg.vl 65536 xs+Dg.vl 65536 ys):=by
 obtain⟨h1,h2,h3,h4,h5⟩:=h;have hc:c=0:=by omega
 subst hc;rw[List.take_of_length_le (by omega),List.take_of_length_le (by omega)] at h4;refine Dg.eq_dg 65536 (by omega) _ _ h2 (Dg.norm_of_ge 65536 ps h2 (fun hne=> ?_)) (by omega)
 have:=h5 (by rw[←h1];exact List.length_pos_iff.2 hne);rw[h1];omega
def QA (xs ys ps:List Nat)(k c:Nat):Prop:=
 ps.length=k∧Dg.Small 65536 ps∧c≤1∧Dg.vl 65536 (xs.take k)+65536^k*c=Dg.vl 65536 ps+Dg.vl 65536 (ys.take k)
theorem I1 {xs ys ps:List Nat}{k c d c':Nat}(h:QA xs ys ps k c)(hd:d<65536)(hc:c'≤1)(e:xs.getD k 0+65536*c'=d+ys.getD k 0+c):QA xs ys (ps++[d]) (k+1) c':=by
 obtain⟨h1,h2,h3,h4⟩:=h;refine⟨by simp[h1],qP h2 hd,hc, ?_⟩;rw[Dg.vl_append,iV,iV,h1];simp only[Dg.vl,Nat.mul_zero,Nat.add_zero];have e2:65536^k*(xs.getD k 0+65536*c')=65536^k*(d+ys.getD k 0+c):=by rw[e]
 have e3:65536^ (k+1)*c'=65536^k*(65536*c'):=by rw[Nat.pow_succ,Nat.mul_assoc]
 rw[Nat.mul_add,Nat.mul_add,Nat.mul_add] at e2;rw[e3];omega
theorem Nl {xs ys ps:List Nat}{c:Nat}(h:QA xs ys ps xs.length c)(hl:ys.length≤xs.length)(hv:Dg.vl 65536 ys≤Dg.vl 65536 xs):Dg.vl 65536 ps=Dg.vl 65536 xs-Dg.vl 65536 ys:=by
 obtain⟨h1,h2,h3,h4⟩:=h;rw[List.take_of_length_le (Nat.le_refl xs.length),List.take_of_length_le hl] at h4;have hlt:=Dg.vl_lt 65536 ps h2;rw[h1] at hlt;have hc:c=0:=by
  rcases Nat.eq_zero_or_pos c with e|e
  ·exact e
  ·have:c=1:=by omega
   subst this;omega
 subst hc;omega
theorem ew (va vb:Value)(xs ys:List Nat)(w:World)(ha:Rd w .i64 va xs)(hb:Rd w .i64 vb ys)(sa:Dg.Small 65536 xs)(sb:Dg.Small 65536 ys)(na:Dg.Norm xs)(nb:Dg.Norm ys)(hla:xs.length≤2000000)(hlb:ys.length≤2000000):
  yC 47 #[va,vb] w (cG w (Dg.vl 65536 xs+Dg.vl 65536 ys)):=by
 obtain⟨ao,ca,rfl,-,-,hca⟩:=ha;obtain⟨bo,cb,rfl,-,-,hcb⟩:=hb;obtain⟨i0,hi,hz0,hz1,hz2⟩:=info_parts Tryz.infoI64
 go_enter func47,ntmps47
 go_wp2
 go_loopw [5,6,7] (fun ov cv iv wr=> ∃(k c:Nat) (ps:List Nat),k≤2000001∧(2000000<k→c=0)∧iv=yi k∧cv=yi c∧Own wr w.heap.size 3 .i64 ov ps∧abk xs ys ps k c∧yB w wr) (fun _ _ iv _=>2000002-(intOf iv).toNat)
 case atStart=>exact⟨0,0,[],by omega,fun _=>rfl,rfl,rfl,aQ _ _ _ _,⟨rfl,Dg.small_nil _ (by omega),by omega,by simp[Dg.vl],fun h=>by omega⟩,Below.refl _ _⟩
 case round=>
  obtain⟨k,c,ps,hk,hkc,rfl,rfl,own,hI,bel⟩:=hrel;have hcl:=hI.2.2.1;have hpl:=hI.1;have hbs:=bel.size
  by_cases hcond:k<xs.length∨k<ys.length∨0<c
  ·have hk2:k≤2000000:=by
    rcases Nat.lt_or_ge 2000000 k with h|h
    ·have:=hkc h;omega
    ·exact h
   have hxl:=sa k;have hyl:=sb k;have hx0: ¬k<xs.length→xs.getD k 0=0:=fun h=>Dg.getD_of_le _ _ (by omega)
   have hy0: ¬k<ys.length→ys.getD k 0=0:=fun h=>Dg.getD_of_le _ _ (by omega)
   have hst:=fun t ht=>UL hI na nb sa sb hcond t ht
   have hnc:2000000<k+1→(c+xs.getD k 0+ys.getD k 0)/65536=0:=fun h=>by
    rw[hx0 (by omega),hy0 (by omega)];omega
   have hcx:k<xs.length→ ∃b off,ao=some ⟨b,off,none⟩∧wr.cell? ⟨b,off+k,none⟩=some (yi ((xs.getD k 0:Nat):Int)):=fun h=>by
    obtain⟨b,off,e,hcell⟩:=hca (by omega);exact⟨b,off,e,cell_later bel (hcell k h)⟩
   have hcy:k<ys.length→ ∃b off,bo=some ⟨b,off,none⟩∧wr.cell? ⟨b,off+k,none⟩=some (yi ((ys.getD k 0:Nat):Int)):=fun h=>by
    obtain⟨b,off,e,hcell⟩:=hcb (by omega);exact⟨b,off,e,cell_later bel (hcell k h)⟩
   obtain⟨x,ex⟩: ∃x,xs.getD k 0=x:=⟨_,rfl⟩;obtain⟨y,ey⟩: ∃y,ys.getD k 0=y:=⟨_,rfl⟩;rw[ex] at hxl hx0 hst hnc hcx;rw[ey] at hyl hy0 hst hnc hcy;have hst:=hst _ rfl;have Hst:Hid _:=hst;have Hpl:Hid _:=hpl;have Hnc:Hid _:=hnc;have hpl2:ps.length≤2000000:=by omega
   clear ex ey hca hcb hI hst hkc hpl hnc;have fin: ∀(T:Int),T=((c+x+y:Nat):Int)→ ∀v' w3,w3.ownsRow w.heap.size 3 1 v' (ps.length+1) ((ps.map (fun n:Nat=>Value.int .i64 (n:Int)))++[yi (T % 65536)])→(wr.alloc (.cells #[yi (T % 65536)] 3)).grownBy w3 (Value.ownBlock u5)→
     Own w3 w.heap.size 3 .i64 v' (ps++[(c+x+y) % 65536])∧yB w w3:=by
    intro T hT v' w3 h1 h2;have e0:T % 65536=(((c+x+y) % 65536:Nat):Int):=by omega
    rw[e0] at h1 h2;exact iW bel own h1 h2
   by_cases h1:k<xs.length
   ·obtain⟨b,off,rfl,hcell⟩:=hcx h1
    by_cases h2:k<ys.length
    ·obtain⟨b2,off2,rfl,hcell2⟩:=hcy h2
     clear hcx hcy hx0 hy0 hcond
     go_wp2_with (at_builtin;refine wpList_append_own _ rfl _ _ 33 rfl w.heap.size 3 i0 (yi 0) 1 8 underlying33 hi hz0 hz1 hz2 rfl (by decide) _ _ _ rfl (World.ownsRow.alloc own _) ⟨wr.heap.size,0,none⟩ 1 1 [yi (((c:Int)+(x:Int)+(y:Int)) % 65536)] rfl rfl ?c1 ?c2 ?c3 ?c4 ?c5 ?_)
     case c1=>exact cell_one_new _ _ _
     case c2=>intro u hu;simp at hu;subst hu;rfl
     case c3=>unfold maxLen;omega
     case c4=>omega
     case c5=>simp;omega
     intro v' w3 hown' hgrow _;have R:=fin _ (by omega) v' w3 hown' hgrow;clear hown' hgrow own fin
     go_wp2
     go_roundw
     case rel=>exact⟨k+1,(c+x+y)/65536,_,by omega,fun h=>Hnc.out (by omega),by go_num,by go_num,R.1,Hst.out,R.2⟩
     case measure=>simp[intOf];omega
    ·have hy:=hy0 h2
     subst hy;clear hcx hcy hx0 hy0 hcond
     go_wp2_with (at_builtin;refine wpList_append_own _ rfl _ _ 33 rfl w.heap.size 3 i0 (yi 0) 1 8 underlying33 hi hz0 hz1 hz2 rfl (by decide) _ _ _ rfl (World.ownsRow.alloc own _) ⟨wr.heap.size,0,none⟩ 1 1 [yi (((c:Int)+(x:Int)) % 65536)] rfl rfl ?d1 ?d2 ?d3 ?d4 ?d5 ?_)
     case d1=>exact cell_one_new _ _ _
     case d2=>intro u hu;simp at hu;subst hu;rfl
     case d3=>unfold maxLen;omega
     case d4=>omega
     case d5=>simp;omega
     intro v' w3 hown' hgrow _;have R:=fin _ (by omega) v' w3 hown' hgrow;clear hown' hgrow own fin
     go_wp2
     go_roundw
     case rel=>exact⟨k+1,_,_,by omega,fun h=>Hnc.out (by omega),by go_num,by go_num,R.1,Hst.out,R.2⟩
     case measure=>simp[intOf];omega
   ·have hx:=hx0 h1
    subst hx
    by_cases h2:k<ys.length
    ·obtain⟨b2,off2,rfl,hcell2⟩:=hcy h2
     clear hcx hcy hx0 hy0 hcond
     go_wp2_with (at_builtin;refine wpList_append_own _ rfl _ _ 33 rfl w.heap.size 3 i0 (yi 0) 1 8 underlying33 hi hz0 hz1 hz2 rfl (by decide) _ _ _ rfl (World.ownsRow.alloc own _) ⟨wr.heap.size,0,none⟩ 1 1 [yi (((c:Int)+(y:Int)) % 65536)] rfl rfl ?e1 ?e2 ?e3 ?e4 ?e5 ?_)
     case e1=>exact cell_one_new _ _ _
     case e2=>intro u hu;simp at hu;subst hu;rfl
     case e3=>unfold maxLen;omega
     case e4=>omega
     case e5=>simp;omega
     intro v' w3 hown' hgrow _;have R:=fin _ (by omega) v' w3 hown' hgrow;clear hown' hgrow own fin
     go_wp2
     go_roundw
     case rel=>exact⟨k+1,_,_,by omega,fun h=>Hnc.out (by omega),by go_num,by go_num,R.1,Hst.out,R.2⟩
     case measure=>simp[intOf];omega
    ·have hy:=hy0 h2
     subst hy;have hc0:0<c:=by omega
     clear hcx hcy hx0 hy0 hcond
     go_wp2_with (at_builtin;refine wpList_append_own _ rfl _ _ 33 rfl w.heap.size 3 i0 (yi 0) 1 8 underlying33 hi hz0 hz1 hz2 rfl (by decide) _ _ _ rfl (World.ownsRow.alloc own _) ⟨wr.heap.size,0,none⟩ 1 1 [yi (((c:Int)) % 65536)] rfl rfl ?f1 ?f2 ?f3 ?f4 ?f5 ?_)
     case f1=>exact cell_one_new _ _ _
     case f2=>intro u hu;simp at hu;subst hu;rfl
     case f3=>unfold maxLen;omega
     case f4=>omega
     case f5=>simp;omega
     intro v' w3 hown' hgrow _;have R:=fin _ (by omega) v' w3 hown' hgrow;clear hown' hgrow own fin
     go_wp2
     go_roundw
     case rel=>exact⟨k+1,_,_,by omega,fun h=>Hnc.out (by omega),by go_num,by go_num,R.1,Hst.out,R.2⟩
     case measure=>simp[intOf];omega
  ·have he:=Yx hI hcond
   have h1: ¬k<xs.length:=by omega
   have h2: ¬k<ys.length:=by omega
   have h3: ¬0<c:=by omega
   rw[he] at own;clear he hcond
   go_wp2
   go_ret
   exact⟨_,rfl,own.rd,bel⟩
theorem kI (va vb:Value)(xs ys:List Nat)(w:World)(ha:Rd w .i64 va xs)(hb:Rd w .i64 vb ys)(sa:Dg.Small 65536 xs)(sb:Dg.Small 65536 ys)(hla:xs.length≤2000000)(hlb:ys.length≤xs.length)(hv:Dg.vl 65536 ys≤Dg.vl 65536 xs):
  yC 32 #[va,vb] w (cG w (Dg.vl 65536 xs-Dg.vl 65536 ys)):=by
 obtain⟨ao,ca,rfl,-,-,hca⟩:=ha;obtain⟨bo,cb,rfl,-,-,hcb⟩:=hb;obtain⟨i0,hi,hz0,hz1,hz2⟩:=info_parts Tryz.infoI64;have HV:Hid _:=hv;clear hv
 go_enter func32,ntmps32
 go_wp2
 go_loopw [5,6,7] (fun ov cv iv wr=> ∃(k c:Nat) (ps:List Nat),k≤xs.length∧iv=yi k∧cv=yi c∧Own wr w.heap.size 3 .i64 ov ps∧QA xs ys ps k c∧yB w wr) (fun _ _ iv _=>xs.length-(intOf iv).toNat)
 case atStart=>exact⟨0,0,[],by omega,rfl,rfl,aQ _ _ _ _,⟨rfl,Dg.small_nil _ (by omega),by omega,by simp[Dg.vl]⟩,Below.refl _ _⟩
 case round=>
  obtain⟨k,c,ps,hk,rfl,rfl,own,hI,bel⟩:=hrel;have hcl:=hI.2.2.1;have hpl:=hI.1;have hbs:=bel.size
  by_cases hlt:k<xs.length
  ·obtain⟨b,off,rfl,hcella⟩:=hca (by omega)
   have hcell:=cell_later bel (hcella k hlt);have hxl:=sa k;have hyl:=sb k;have hy0: ¬k<ys.length→ys.getD k 0=0:=fun h=>Dg.getD_of_le _ _ (by omega)
   have hst: ∀d c',d<65536→c'≤1→xs.getD k 0+65536*c'=d+ys.getD k 0+c→QA xs ys (ps++[d]) (k+1) c':=fun d c' h1 h2 h3=>I1 hI h1 h2 h3
   have hcy:k<ys.length→ ∃b off,bo=some ⟨b,off,none⟩∧wr.cell? ⟨b,off+k,none⟩=some (yi ((ys.getD k 0:Nat):Int)):=fun h=>by
    obtain⟨b,off,e,hcell⟩:=hcb (by omega);exact⟨b,off,e,cell_later bel (hcell k h)⟩
   obtain⟨x,ex⟩: ∃x,xs.getD k 0=x:=⟨_,rfl⟩;obtain⟨y,ey⟩: ∃y,ys.getD k 0=y:=⟨_,rfl⟩;rw[ex] at hxl hst hcell;rw[ey] at hyl hy0 hst hcy;have Hst:Hid _:=hst;have Hpl:Hid _:=hpl;have hpl2:ps.length≤2000000:=by omega
   clear ex ey hca hcb hI hst hpl hcella;have fin: ∀(T:Int) (d:Nat),T=((d:Nat):Int)→ ∀v' w3,w3.ownsRow w.heap.size 3 1 v' (ps.length+1) ((ps.map (fun n:Nat=>Value.int .i64 (n:Int)))++[yi T])→(wr.alloc (.cells #[yi T] 3)).grownBy w3 (Value.ownBlock u5)→
     Own w3 w.heap.size 3 .i64 v' (ps++[d])∧yB w w3:=by
    intro T d hT v' w3 h1 h2;rw[hT] at h1 h2;exact iW bel own h1 h2
   by_cases h2:k<ys.length
   ·obtain⟨b2,off2,rfl,hcell2⟩:=hcy h2
    clear hcy hy0
    by_cases hneg:x<y+c
    ·have hneg2:((x:Int)-(c:Int)-(y:Int))<0:=by omega
     go_wp2_with (at_builtin;refine wpList_append_own _ rfl _ _ 33 rfl w.heap.size 3 i0 (yi 0) 1 8 underlying33 hi hz0 hz1 hz2 rfl (by decide) _ _ _ rfl (World.ownsRow.alloc own _) ⟨wr.heap.size,0,none⟩ 1 1 [yi ((x:Int)-(c:Int)-(y:Int)+65536)] rfl rfl ?c1 ?c2 ?c3 ?c4 ?c5 ?_)
     try (case c1=>exact cell_one_new _ _ _)
     case c2=>first|rfl| (intro u hu;simp at hu;subst hu;rfl)| (simp;done)| (simp[Value.oneCell'];done)| (trace_state;fail)
     case c3=>unfold maxLen;omega
     case c4=>omega
     case c5=>first|omega| (simp;omega)
     intro v' w3 hown' hgrow _;have R:=fin _ (x+65536-y-c) (by omega) v' w3 hown' hgrow;clear hown' hgrow own fin
     go_wp2
     go_roundw
     case rel=>exact⟨k+1,1,_,by omega,by go_num,by go_num,R.1,Hst.out _ _ (by omega) (by omega) (by omega),R.2⟩
     case measure=>simp[intOf];omega
    ·have hneg2: ¬((x:Int)-(c:Int)-(y:Int))<0:=by omega
     go_wp2_with (at_builtin;refine wpList_append_own _ rfl _ _ 33 rfl w.heap.size 3 i0 (yi 0) 1 8 underlying33 hi hz0 hz1 hz2 rfl (by decide) _ _ _ rfl (World.ownsRow.alloc own _) ⟨wr.heap.size,0,none⟩ 1 1 [yi ((x:Int)-(c:Int)-(y:Int))] rfl rfl ?d1 ?d2 ?d3 ?d4 ?d5 ?_)
     try (case d1=>exact cell_one_new _ _ _)
     case d2=>first|rfl| (intro u hu;simp at hu;subst hu;rfl)| (simp;done)| (simp[Value.oneCell'];done)| (trace_state;fail)
     case d3=>unfold maxLen;omega
     case d4=>omega
     case d5=>first|omega| (simp;omega)
     intro v' w3 hown' hgrow _;have R:=fin _ (x-y-c) (by omega) v' w3 hown' hgrow;clear hown' hgrow own fin
     go_wp2
     go_roundw
     case rel=>exact⟨k+1,0,_,by omega,by go_num,by go_num,R.1,Hst.out _ _ (by omega) (by omega) (by omega),R.2⟩
     case measure=>simp[intOf];omega
   ·have hy:=hy0 h2
    subst hy;clear hcy hy0
    by_cases hneg:x<c
    ·have hneg2:((x:Int)-(c:Int))<0:=by omega
     go_wp2_with (at_builtin;refine wpList_append_own _ rfl _ _ 33 rfl w.heap.size 3 i0 (yi 0) 1 8 underlying33 hi hz0 hz1 hz2 rfl (by decide) _ _ _ rfl (World.ownsRow.alloc own _) ⟨wr.heap.size,0,none⟩ 1 1 [yi ((x:Int)-(c:Int)+65536)] rfl rfl ?e1 ?e2 ?e3 ?e4 ?e5 ?_)
     try (case e1=>exact cell_one_new _ _ _)
     case e2=>first|rfl| (intro u hu;simp at hu;subst hu;rfl)| (simp;done)| (simp[Value.oneCell'];done)| (trace_state;fail)
     case e3=>unfold maxLen;omega
     case e4=>omega
     case e5=>first|omega| (simp;omega)
     intro v' w3 hown' hgrow _;have R:=fin _ (x+65536-c) (by omega) v' w3 hown' hgrow;clear hown' hgrow own fin
     go_wp2
     go_roundw
     case rel=>exact⟨k+1,1,_,by omega,by go_num,by go_num,R.1,Hst.out _ _ (by omega) (by omega) (by omega),R.2⟩
     case measure=>simp[intOf];omega
    ·have hneg2: ¬((x:Int)-(c:Int))<0:=by omega
     go_wp2_with (at_builtin;refine wpList_append_own _ rfl _ _ 33 rfl w.heap.size 3 i0 (yi 0) 1 8 underlying33 hi hz0 hz1 hz2 rfl (by decide) _ _ _ rfl (World.ownsRow.alloc own _) ⟨wr.heap.size,0,none⟩ 1 1 [yi ((x:Int)-(c:Int))] rfl rfl ?f1 ?f2 ?f3 ?f4 ?f5 ?_)
     try (case f1=>exact cell_one_new _ _ _)
     case f2=>first|rfl| (intro u hu;simp at hu;subst hu;rfl)| (simp;done)| (simp[Value.oneCell'];done)| (trace_state;fail)
     case f3=>unfold maxLen;omega
     case f4=>omega
     case f5=>first|omega| (simp;omega)
     intro v' w3 hown' hgrow _;have R:=fin _ (x-c) (by omega) v' w3 hown' hgrow;clear hown' hgrow own fin
     go_wp2
     go_roundw
     case rel=>exact⟨k+1,0,_,by omega,by go_num,by go_num,R.1,Hst.out _ _ (by omega) (by omega) (by omega),R.2⟩
     case measure=>simp[intOf];omega
  ·have hke:k=xs.length:=by omega
   subst hke;have hen:=Nl hI hlb HV.out;have hps:=hI.2.1;have hpl2:ps.length≤2000000:=by omega
   clear hpl;obtain⟨oo,oc,rfl⟩:=own.rd.shape
   go_wp2_with fail
   refine(i9 _ _ _ _ _ own.rd).mono ?_;rintro e w' ⟨n,rfl,hn,rfl⟩;have hnl:=hn.1;have hr:=uE (cap':=n) 65536 (by omega) own.rd hps hn (Nat.le_refl _) (by unfold maxLen;omega);rw[hen] at hr;clear hn hen
   go_wp2
   go_ret
   exact⟨_,rfl,hr,bel⟩
theorem oZ {xs:List Nat}(sa:Dg.Small 4294967296 xs):Dg.vl 4294967296 xs<65536^ (2*xs.length):=by
 rw[JJ];exact Dg.vl_lt _ _ sa
theorem zX {xs:List Nat}(sa:Dg.Small 4294967296 xs):(Dg.dg 65536 (Dg.vl 4294967296 xs)).length≤2*xs.length:=
 Dg.dg_len_le _ _ _ (by omega) (oZ sa)
theorem aH (B n m:Nat)(hB:2≤B)(h:n≤m):(Dg.dg B n).length≤(Dg.dg B m).length:=by
 refine Dg.dg_len_le B n _ hB ?_;have:=Dg.vl_lt B (Dg.dg B m) (Dg.small_dg B m hB);rw[Dg.vl_dg B m hB] at this;omega
theorem gP:bitLen 0=0:=rfl
theorem vC (x:Nat)(h:x≠0):bitLen x=1+bitLen (x/2):=by
 by_cases h1:x/2=0
 ·have:x=1:=by omega
  subst this;rfl
 ·exact bitLen_shift x 1 h1
theorem ac5 (x:Nat)(h:x<18446744073709551616):Lib.bitLen x=bitLen x:=by
 induction x using Nat.strongRecOn with
 |_ x ih=>
  by_cases h0:x=0
  ·subst h0;rfl
  ·rw[Lib.bitLen_half x h0 h,vC x h0,ih (x/2) (by omega) (by omega)]
theorem X4 (i:Nat)(h:i<Lib.len8tab.size):(Lib.len8tab[i]'h).toNat=bitLen i:=by
 have hs:=Lib.len8tab_size;have:=Lib.len8_eq ⟨i,by omega⟩;simp only[Lib.len8,Int.toNat_natCast] at this;rw[getElem?_pos Lib.len8tab i h] at this;simp only[Option.getD_some] at this;rw[ac5 i (by omega)] at this;omega
theorem qz (k q x:Nat)(h:bitLen x=k+bitLen q)(hq:q<256∧k≤24):RowKit.wrap64 ((k:Int)+RowKit.wrap64 ((bitLen q:Nat):Int))=((bitLen x:Nat):Int):=by
 have hb:=bitLen_le8 q hq.1;have e1:=IntWalk.wrap64_in ((bitLen q:Nat):Int) ⟨by omega,by omega⟩;rw[e1,IntWalk.wrap64_in _ ⟨by omega,by omega⟩,h];omega
theorem Un (x:Int)(w:World)(h0:0≤x)(h1:x≤4294967295):
  yC 151 #[.int .u32 x] w fun e w'=>e= .returned (yi (bitLen x.toNat:Nat))∧w'=w:=by
 go_enter func151,ntmps151
 go_wp2
 all_goals try (exfalso;have hz:=Lib.len8tab_size;omega)
 all_goals (go_ret;refine⟨congrArg Ending.returned (congrArg (Value.int IntKind.i64) ?_),rfl⟩)
 all_goals simp only[X4]
 ·exact qz 24 _ x.toNat (by have:=bitLen_shift x.toNat 24 (by omega);rw[this];congr 2;omega) (by omega)
 ·exact qz 16 _ x.toNat (by have:=bitLen_shift x.toNat 16 (by omega);rw[this];congr 2;omega) (by omega)
 ·exact qz 8 _ x.toNat (by have:=bitLen_shift x.toNat 8 (by omega);rw[this];congr 2;omega) (by omega)
 ·have hb:=bitLen_le8 x.toNat (by omega)
  have e1:=IntWalk.wrap64_in ((bitLen x.toNat:Nat):Int) ⟨by omega,by omega⟩;rw[e1,e1]
theorem IK (x:Nat)(w:World)(h:x<4294967296):
  yC 151 #[.int .u32 x] w fun e w'=>e= .returned (yi (bitLen x:Nat))∧w'=w:=by
 have:=Un x w (by omega) (by omega);rw[Int.toNat_natCast] at this;exact this
theorem IL (B:Nat)(b:Nat)(hb:B=2^b)(h1:1<B)(zs:List Nat)(hs:Dg.Small B zs)(hn:Dg.Norm zs)(hne:zs≠[]):bitLen (Dg.vl B zs)=b*(zs.length-1)+bitLen (zs.getD (zs.length-1) 0):=by
 have hl:0<zs.length:=List.length_pos_iff.2 hne;have hsp:=Dg.vl_split B zs (zs.length-1) (by omega);rw[show zs.length-1+1=zs.length from by omega,List.drop_of_length_le (Nat.le_refl _)] at hsp
 simp only[Dg.vl,Nat.mul_zero,Nat.add_zero] at hsp;have hlt:=Dg.vl_lt B (zs.take (zs.length-1)) (Dg.small_take hs _ (by omega));rw[List.length_take,Nat.min_eq_left (by omega)] at hlt;have hpw:B^ (zs.length-1)=2^ (b*(zs.length-1)):=by rw[hb,Nat.pow_mul]
 have hdiv:Dg.vl B zs/2^ (b*(zs.length-1))=zs.getD (zs.length-1) 0:=by
  rw[←hpw,hsp,Nat.add_comm,Nat.mul_add_div (Nat.pow_pos (by omega)),Nat.div_eq_of_lt hlt,Nat.add_zero]
 have hnz:=hn hne;rw[bitLen_shift _ (b*(zs.length-1)) (by rw[hdiv];exact hnz),hdiv]
theorem bF (x k:Nat)(h:x<2^k):bitLen x≤k:=by
 by_cases h0:x=0
 ·subst h0;rw[gP];omega
 ·have:=(bitLen_spec x).2 h0
  have:=(Nat.pow_lt_pow_iff_right (by omega:1<2)).1 (Nat.lt_of_le_of_lt this h);omega
theorem kE (va:Value)(xs:List Nat)(w:World)(ha:Rd w .u32 va xs)(sa:Dg.Small 4294967296 xs)(na:Dg.Norm xs)(hla:xs.length≤1000000):
  yC 143 #[va] w fun e w'=>e= .returned (yi (bitLen (Dg.vl 4294967296 xs):Nat))∧w'=w:=by
 obtain⟨ao,ca,rfl,-,-,hca⟩:=ha
 by_cases h0:xs.length=0
 ·obtain rfl:xs=[]:=List.eq_nil_of_length_eq_zero h0
  go_enter func143,ntmps143
  go_wp2
  go_ret
  exact⟨rfl,rfl⟩
 ·have hne:xs≠[]:=by intro e;subst e;simp at h0
  obtain⟨b,off,rfl,hcell⟩:=hca (by omega);have hc:=hcell (xs.length-1) (by omega);have hs:=sa (xs.length-1);rw[IL 4294967296 32 (by decide) (by omega) xs sa na hne];obtain⟨x,ex⟩: ∃x,xs.getD (xs.length-1) 0=x:=⟨_,rfl⟩;rw[ex] at hc hs⊢;have hbl:=bF x 32 (by omega);have h3:=IK x w hs;obtain⟨l,hl⟩: ∃l,bitLen x=l:=⟨_,rfl⟩;rw[hl] at h3 hbl⊢;have h00:((xs.length:Int)==0)=false:=by simp;intro e;subst e;simp at h0
  clear ex hcell hca hne hl
  go_enter func143,ntmps143
  go_wp2_with fail
  refine h3.mono ?_;rintro e w' ⟨rfl,rfl⟩
  go_wp2
  go_ret
  exact⟨by go_num,rfl⟩
theorem kF (va:Value)(xs:List Nat)(w:World)(ha:Rd w .i64 va xs)(sa:Dg.Small 65536 xs)(na:Dg.Norm xs)(hla:xs.length≤3000000):
  yC 58 #[va] w fun e w'=>e= .returned (yi (bitLen (Dg.vl 65536 xs):Nat))∧w'=w:=by
 obtain⟨ao,ca,rfl,-,-,hca⟩:=ha
 by_cases h0:xs.length=0
 ·obtain rfl:xs=[]:=List.eq_nil_of_length_eq_zero h0
  go_enter func58,ntmps58
  go_wp2
  go_ret
  exact⟨rfl,rfl⟩
 ·have hne:xs≠[]:=by intro e;subst e;simp at h0
  obtain⟨b,off,rfl,hcell⟩:=hca (by omega);have hc:=hcell (xs.length-1) (by omega);have hs:=sa (xs.length-1);rw[IL 65536 16 (by decide) (by omega) xs sa na hne];obtain⟨x,ex⟩: ∃x,xs.getD (xs.length-1) 0=x:=⟨_,rfl⟩;rw[ex] at hc hs⊢;have hbl:=bF x 16 (by omega);have h00:((xs.length:Int)==0)=false:=by simp;intro e;subst e;simp at h0
  clear ex hcell hca hne;obtain⟨T,hT⟩: ∃T,16*(xs.length-1)+bitLen x=T:=⟨_,rfl⟩;rw[hT];have HT:Hid _:=hT;clear hT
  go_enter func58,ntmps58
  go_wp2
  go_loop [3,4] (fun nv dv=> ∃m d:Nat,nv=yi m∧dv=yi d∧d<65536∧m≤100000000∧Hid (m+bitLen d=T)) (fun _ dv=>(intOf dv).toNat)
  case atStart=>exact⟨16*(xs.length-1),x,by go_num,rfl,hs,by omega,HT⟩
  case round=>
   obtain⟨m,d,rfl,rfl,hd,hm,hmd⟩:=hrel
   by_cases hd0:d=0
   ·subst hd0
    have he:m=T:=by have:=hmd.out;rw[gP] at this;omega
    subst he
    go_wp2
    go_ret
    exact⟨rfl,rfl⟩
   ·have hb2:=vC d hd0
    have hmT:m+1+bitLen (d/2)=T:=by have:=hmd.out;omega
    have hT2:T≤60000000:=by have:=HT.out;omega
    have HM:Hid _:=hmT;have hm2:m<60000000:=by omega
    clear hb2 hmT
    go_wp2
    go_round
    case rel=>exact⟨m+1,d/2,by go_num,by go_num,by omega,by omega,HM⟩
    case measure=>simp[intOf];omega
end Go.Proofs.YtpainhklfoaniaaGreatDoor

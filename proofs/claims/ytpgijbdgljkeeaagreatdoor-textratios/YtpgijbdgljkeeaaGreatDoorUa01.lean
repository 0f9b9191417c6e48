/-
  Texts laid together: Ab3, Leaf, Ref1, Ref2, Ref3, Ref4, Ref5, Ref6, Dr1, Aw0, Tx18, Tx19.
-/
import Derived.Test.YtpgijbdgljkeeaaGreatDoorChecked
import Derived.Test.YtpgijbdgljkeeaaGreatDoorUx41
import Derived.Test.YtpgijbdgljkeeaaGreatDoorDyTx
set_option maxRecDepth 100000
set_option maxHeartbeats 3200000
namespace Go.Proofs.YtpgijbdgljkeeaaGreatDoor
open _root_.Go.Proofs.Tryz
open Go.RowKit
abbrev yEL (c:Int)(g:Bool)(t:ak)(o:Option Addr)(k:Nat):List Value:=[.int .i64 c,.bool g,.bool t.s,.slice o (Dg.dg 65536 t.n).length k,.int .i64 t.e]
abbrev yEV (c:Int)(g:Bool)(t:ak)(o:Option Addr)(k:Nat):Value:= .agg #[.int .i64 c,.bool g,.bool t.s,.slice o (Dg.dg 65536 t.n).length k,.int .i64 t.e]
abbrev yEA (c:Int)(g:Bool)(t:ak)(o:Option Addr)(k:Nat):Array Value:= #[.int .i64 c,.bool g,.bool t.s,.slice o (Dg.dg 65536 t.n).length k,.int .i64 t.e]
abbrev yML (t:ak)(o:Option Addr)(k:Nat):List Value:=[.bool t.s,.slice o (Dg.dg 65536 t.n).length k,.int .i64 t.e]
abbrev yMV (t:ak)(o:Option Addr)(k:Nat):Value:= .agg #[.bool t.s,.slice o (Dg.dg 65536 t.n).length k,.int .i64 t.e]
abbrev yMA (t:ak)(o:Option Addr)(k:Nat):Array Value:= #[.bool t.s,.slice o (Dg.dg 65536 t.n).length k,.int .i64 t.e]
abbrev yXL (c:Int)(g:Bool)(t:ak)(o:Option Addr)(k:Nat)(d:Int)(h:Bool)(s:ak)(p:Option Addr)(m:Nat):List Value:=[.int .i64 c,.bool g,.bool t.s,.slice o (Dg.dg 65536 t.n).length k,.int .i64 t.e,.int .i64 d,.bool h,.bool s.s,.slice p (Dg.dg 65536 s.n).length m,.int .i64 s.e]
theorem i9 (ao:Option Addr)(len cap:Nat)(zs:List Nat)(w:World)(h:Rd w .i64 (.slice ao len cap) zs):
  yC 78 #[.slice ao len cap] w fun e w'=> ∃n,e= .returned (.slice ao n n)∧Ou zs n∧w'=w:=by
 obtain rfl:=wn h;obtain⟨hlc,hm,hc⟩:=iQ h
 go_enter func78,ntmps78
 go_wp2
 go_loop [3] (fun i=> ∃k:Nat,k≤zs.length∧i=yi k∧Hid (∀i,k≤i→zs.getD i 0=0)) (fun i=>(intOf i).toNat)
 case atStart=>exact⟨zs.length,Nat.le_refl _,rfl,fun i hi=>Dg.getD_of_le _ _ hi⟩
 case round=>
  obtain⟨k,hk,rfl,hz⟩:=hrel
  by_cases hk0:k=0
  ·subst hk0
   go_wp2
   go_ret
   exact⟨0,rfl,⟨Nat.zero_le _,hz,fun h=>absurd h (by omega)⟩,rfl⟩
  ·obtain⟨b,off,rfl,hcell⟩:=hc (by omega)
   have h1:=hcell (k-1) (by omega);obtain⟨d,hd⟩: ∃d,zs.getD (k-1) 0=d:=⟨_,rfl⟩;rw[hd] at h1;have Hd:Hid _:=hd;clear hd hcell hc h
   by_cases hd0:d=0
   ·subst hd0
    go_wp2
    go_round
    case rel=>exact⟨k-1,by omega,by go_num,fun i hi=>by
     by_cases e:i=k-1
     ·rw[e];exact Hd.out
     ·exact hz i (by omega)⟩
    case measure=>simp[intOf];omega
   ·go_wp2
    go_ret
    exact⟨k,rfl,⟨hk,hz,fun _=>by rw[Hd.out];exact hd0⟩,rfl⟩
def cG (w:World)(n:Nat)(e:Ending)(w':World):Prop:=
 ∃v,e= .returned v∧Rd w' .i64 v (Dg.dg 65536 n)∧yB w w'
theorem LP {B:Nat}{oo:Option Addr}{n c:Nat}(h:Far B (.slice oo n c))(n' c':Nat):Far B (.slice oo n' c'):=fun a m d hv=>by
 cases hv
 exact h a n c rfl
theorem Rd.set_far {w:World}{k:IntKind}{v:Value}{zs:List Nat}{B g j:Nat}(h:Rd w k v zs)(hf:Far B v)(hg:g<B)(x:Value):Rd (w.setCell ⟨g,j,none⟩ x) k v zs:=by
 obtain⟨ao,cap,rfl,h1,h2,h3⟩:=h;refine⟨ao,cap,rfl,h1,h2,fun h0=> ?_⟩
 obtain⟨b,off,rfl,hc⟩:=h3 h0;have:=hf _ _ _ rfl;refine⟨b,off,rfl,fun i hi=> ?_⟩
 rw[World.cell?_setCell_other (h:=by simp;intro e;simp at this;omega)];exact hc i hi
def Si (w:World)(n:Nat)(e:Ending)(w':World):Prop:=
 ∃v,e= .returned v∧Rd w' .i64 v (Dg.dg 65536 n)∧Far w.heap.size v∧yB w w'
theorem uE {w:World}{k:IntKind}{ao:Option Addr}{len cap n cap':Nat}{zs:List Nat}(B:Nat)(hB:2≤B)(h:Rd w k (.slice ao len cap) zs)(hs:Dg.Small B zs)(ht:Ou zs n)(hc:n≤cap')(hc2:cap'≤maxLen):
  Rd w k (.slice ao n cap') (Dg.dg B (Dg.vl B zs)):=by
 have hl:=wn h;subst hl;obtain⟨h1,h2,h3⟩:=iQ h;rw[←Dg.trim_eq B hB zs n hs ht.1 ht.2.1 ht.2.2];have hn:=ht.1;have hl:(zs.take n).length=n:=by simp;omega
 refine⟨ao,cap',by rw[hl],by rw[hl];exact hc,hc2,fun hp=> ?_⟩
 rw[hl] at hp;obtain⟨b,off,ha,hcell⟩:=h3 (by omega);refine⟨b,off,ha,fun i hi=> ?_⟩
 rw[hl] at hi;rw[hcell i (by omega),Dg.getD_take _ _ _ hi]
def uF (ds:List Nat)(j:Nat):Nat:=ds.getD (2*j) 0+65536*ds.getD (2*j+1) 0
def mO (ds:List Nat)(k:Nat):List Nat:=(List.range k).map (uF ds)
theorem AQ (ds:List Nat)(k:Nat):mO ds (k+1)=mO ds k++[uF ds k]:=by simp[mO,List.range_succ]
theorem mP (ds:List Nat)(k:Nat):(mO ds k).length=k:=by simp[mO]
theorem JJ (k:Nat):(65536:Nat)^ (2*k)=4294967296^k:=by rw[Nat.pow_mul]
theorem O5 (ds:List Nat)(k:Nat):Dg.vl 4294967296 (mO ds k)=Dg.vl 65536 (ds.take (2*k)):=by
 induction k with
 |zero=>rfl
 |succ k ih=>
  rw[AQ,Dg.vl_append,ih,mP,show 2*(k+1)=2*k+1+1 from by omega,iV,iV]
  simp only[Dg.vl,uF,Nat.pow_succ,JJ,Nat.mul_zero,Nat.add_zero];rw[Nat.mul_add,Nat.mul_assoc];omega
theorem Tw (ds:List Nat)(h:Dg.Small 65536 ds)(j:Nat):uF ds j<4294967296:=by
 have h1:=h (2*j);have h2:=h (2*j+1);unfold uF;omega
theorem AR (ds:List Nat)(k i:Nat)(h:i<k):(mO ds k).getD i 0=uF ds i:=by
 simp[mO,List.getD_eq_getElem?_getD,h]
theorem O6 (ds:List Nat)(hs:Dg.Small 65536 ds)(hn:Dg.Norm ds)(k:Nat)(h1:ds.length≤2*k)(h2:2*k≤ds.length+1):mO ds k=Dg.dg 4294967296 (Dg.vl 65536 ds):=by
 refine Dg.eq_dg 4294967296 (by omega) _ _ (fun i=> ?_) (fun hne=> ?_) ?_
 ·by_cases hi:i<k
  ·rw[AR ds k i hi];exact Tw ds hs i
  ·rw[Dg.getD_of_le _ _ (by rw[mP];omega)];omega
 ·have hk:0<k:=by
   rcases Nat.eq_zero_or_pos k with e|e
   ·subst e;exact absurd rfl hne
   ·exact e
  rw[mP,AR ds k _ (by omega)];have hdn:ds≠[]:=by intro e;subst e;simp at h2;omega
  have:=hn hdn;unfold uF
  by_cases he:ds.length=2*k
  ·rw[he,show 2*k-1=2*(k-1)+1 from by omega] at this;omega
  ·rw[show ds.length-1=2*(k-1) from by omega] at this;omega
 ·rw[O5,List.take_of_length_le h1]
theorem Et (va:Value)(ds:List Nat)(w:World)(ha:Rd w .i64 va ds)(sa:Dg.Small 65536 ds)(na:Dg.Norm ds)(hla:ds.length≤3000000):
  yC 37 #[va] w (Num w (Dg.vl 65536 ds)):=by
 obtain⟨ao,ca,rfl,-,-,hca⟩:=ha;obtain⟨i0,hi,hz0,hz1,hz2⟩:=info_parts Tryz.infoU32
 go_enter func37,ntmps37
 go_wp2
 go_loopw [3,4] (fun ov iv wr=> ∃k:Nat,2*k≤ds.length+1∧iv=yi ((2*k:Nat):Int)∧Own wr w.heap.size 138 .u32 ov (mO ds k)∧yB w wr) (fun _ iv _=>ds.length+1-(intOf iv).toNat)
 case atStart=>exact⟨0,by omega,rfl,aQ _ _ _ _,Below.refl _ _⟩
 case round=>
  obtain⟨k,hk,rfl,own,bel⟩:=hrel;obtain⟨i,hi2⟩: ∃i,2*k=i:=⟨_,rfl⟩;rw[hi2]
  by_cases hlt:i<ds.length
  ·obtain⟨b,off,rfl,hcell⟩:=hca (by omega)
   have hx:=cell_later bel (hcell i hlt);have hx2:=fun h:i+1<ds.length=>cell_later bel (hcell (i+1) h)
   have hxl:=sa i;have hyl:=sa (i+1);have hpl:=mP ds k;have hsu:=AQ ds k;have hpa:uF ds k=ds.getD i 0+65536*ds.getD (i+1) 0:=by unfold uF;rw[hi2]
   have hno: ¬i+1<ds.length→ds.getD (i+1) 0=0:=fun h=>Dg.getD_of_le _ _ (by omega)
   have hbs:=bel.size;obtain⟨x,ex⟩: ∃x,ds.getD i 0=x:=⟨_,rfl⟩;obtain⟨y,ey⟩: ∃y,ds.getD (i+1) 0=y:=⟨_,rfl⟩;obtain⟨es,ees⟩: ∃es,mO ds k=es:=⟨_,rfl⟩;rw[ex] at hx hxl hpa;rw[ey] at hx2 hyl hpa hno;rw[hpa,ees] at hsu;rw[ees] at own hpl;have HS:Hid _:=hsu;have HI:Hid _:=hi2;have hil:es.length≤3000000:=by omega
   clear ex ey ees hcell hca hsu hpa hpl hi2
   by_cases hlt2:i+1<ds.length
   ·have hx3:=hx2 hlt2
    clear hx2 hno
    go_wp2_with (at_builtin;refine wpList_append_own _ rfl _ _ 23 rfl w.heap.size 138 i0 (.int .u32 0) 1 4 underlying23 hi hz0 hz1 hz2 rfl (by decide) _ _ _ rfl (World.ownsRow.alloc own _) ⟨wr.heap.size,0,none⟩ 1 1 [.int .u32 ((x:Int)+65536*(y:Int))] rfl rfl ?c1 ?c2 ?c3 ?c4 ?c5 ?_)
    case c1=>exact cell_one_new _ _ _
    case c2=>intro u hu;simp at hu;subst hu;rfl
    case c3=>unfold maxLen;omega
    case c4=>omega
    case c5=>simp;omega
    intro v' w3 hown' hgrow _;have e0:((x:Int)+65536*(y:Int))=((x+65536*y:Nat):Int):=by omega
    rw[e0] at hown' hgrow;have R:=iW bel own hown' hgrow;clear hown' hgrow own e0
    go_wp2
    go_roundw
    case rel=>exact⟨k+1,by have:=HI.out;omega,by have:=HI.out;go_num,by rw[HS.out];exact R.1,R.2⟩
    case measure=>simp[intOf];omega
   ·have hy0:=hno hlt2
    subst hy0;clear hx2 hno
    go_wp2_with (at_builtin;refine wpList_append_own _ rfl _ _ 23 rfl w.heap.size 138 i0 (.int .u32 0) 1 4 underlying23 hi hz0 hz1 hz2 rfl (by decide) _ _ _ rfl (World.ownsRow.alloc own _) ⟨wr.heap.size,0,none⟩ 1 1 [.int .u32 (x:Int)] rfl rfl ?d1 ?d2 ?d3 ?d4 ?d5 ?_)
    case d1=>exact cell_one_new _ _ _
    case d2=>intro u hu;simp at hu;subst hu;rfl
    case d3=>unfold maxLen;omega
    case d4=>omega
    case d5=>simp;omega
    intro v' w3 hown' hgrow _;have R:=iW bel own hown' hgrow;clear hown' hgrow own
    go_wp2
    go_roundw
    case rel=>exact⟨k+1,by have:=HI.out;omega,by have:=HI.out;go_num,by rw[HS.out];exact R.1,R.2⟩
    case measure=>simp[intOf];omega
  ·have he:=O6 ds sa na k (by omega) hk
   rw[he] at own;clear he
   go_wp2
   go_ret
   exact⟨_,rfl,own,bel⟩
theorem gM (va vb:Value)(xs ys:List Nat)(w:World)(ha:Rd w .u32 va xs)(hb:Rd w .u32 vb ys):
  yC 36 #[va,vb] w (yR w (.bool (decide (xs=ys)))):=by
 obtain⟨ao,ca,rfl,hla,hma,hca⟩:=ha;obtain⟨bo,cb,rfl,hlb,hmb,hcb⟩:=hb;unfold maxLen at hma hmb;obtain⟨r,hr⟩: ∃r,decide (xs=ys)=r:=⟨_,rfl⟩;rw[hr]
 by_cases hle:xs.length=ys.length
 ·have HR:Hid _:=hr
  have HL:Hid _:=hle;rw[hle] at hla hca⊢;clear hr hle
  go_enter func36,ntmps36
  go_wp2
  go_loopw [5] (fun iv wr=> ∃k:Nat,k≤ys.length∧iv=yi k∧Hid (∀j,j<k→xs.getD j 0=ys.getD j 0)∧yB w wr) (fun iv _=>ys.length-(intOf iv).toNat)
  case atStart=>exact⟨0,Nat.zero_le _,rfl,fun j hj=>by omega,Below.refl _ _⟩
  case round=>
   obtain⟨k,hk,rfl,hall,bel⟩:=hrel
   by_cases hlt:k<ys.length
   ·obtain⟨b,off,rfl,hcell⟩:=hca (by omega)
    obtain⟨b2,off2,rfl,hcell2⟩:=hcb (by omega);have hx:=cell_later bel (hcell k hlt);have hy:=cell_later bel (hcell2 k hlt);have hst:xs.getD k 0≠ys.getD k 0→decide (xs=ys)=false:=fun h=>by
     rw[decide_eq_false];intro e;rw[e] at h;exact h rfl
    rw[HR.out] at hst;obtain⟨x,ex⟩: ∃x,xs.getD k 0=x:=⟨_,rfl⟩;obtain⟨y,ey⟩: ∃y,ys.getD k 0=y:=⟨_,rfl⟩;have HX:Hid _:=ex;have HY:Hid _:=ey;rw[ex] at hx hst;rw[ey] at hy hst;clear ex ey hcell hcell2 hca hcb
    by_cases hxy:x=y
    ·subst hxy
     clear hst
     go_wp2
     go_quiet (fail)
     go_wp2
     go_roundw
     case rel=>exact⟨k+1,by omega,by go_num,fun j hj=>by
      by_cases e:j=k
      ·rw[e];exact HX.out.trans HY.out.symm
      ·exact hall j (by omega),aL bel _⟩
     case measure=>simp[intOf];omega
    ·have hrf:=hst hxy
     subst hrf;have hne:((x:Int) != (y:Int))=true:=by rw[bne_iff_ne];omega
     go_wp2
     go_quiet (fail)
     go_wp2
     go_ret
     exact⟨rfl,aL bel _⟩
   ·have he:xs=ys:=Dg.eq_of_all xs ys HL.out (fun j=>by
     by_cases hj:j<k
     ·exact hall j hj
     ·rw[Dg.getD_of_le xs j (by rw[HL.out];omega),Dg.getD_of_le ys j (by omega)])
    have hrt:r=true:=by rw[←HR.out];exact decide_eq_true he
    subst hrt;clear he
    go_wp2
    go_ret
    exact⟨rfl,bel⟩
 ·have hrf:r=false:=by rw[←hr];apply decide_eq_false;intro e;rw[e] at hle;exact hle rfl
  subst hrf;clear hr;have hne:((xs.length:Int) != (ys.length:Int))=true:=by rw[bne_iff_ne];omega
  go_enter func36,ntmps36
  go_wp2
  go_ret
  exact⟨rfl,Below.refl _ _⟩
theorem xM (vw:Value)(n:Nat)(w:World)(hw:Rd w .i64 vw (Dg.dg 65536 n))(hn:(Dg.dg 65536 n).length≤3000000):
  yC 37 #[vw] w (Num w n):=by
 have:=Et vw (Dg.dg 65536 n) w hw (Dg.small_dg _ _ (by omega)) (Dg.norm_dg _ _ (by omega)) hn
 rwa [Dg.vl_dg _ _ (by omega)] at this
theorem fm (va vb:Value)(xs ys:List Nat)(w:World)(ha:Rd w .i64 va xs)(hb:Rd w .i64 vb ys)(sa:Dg.Small 65536 xs)(sb:Dg.Small 65536 ys)(na:Dg.Norm xs)(nb:Dg.Norm ys):
  yC 54 #[va,vb] w (yR w (yi (dm (Dg.vl 65536 xs) (Dg.vl 65536 ys)))):=by
 obtain⟨ao,ca,rfl,hla,hma,hca⟩:=ha;obtain⟨bo,cb,rfl,hlb,hmb,hcb⟩:=hb;unfold maxLen at hma hmb
 by_cases h1:xs.length<ys.length
 ·have hv:=Dg.vl_lt_of_len 65536 (by omega) xs ys sa nb h1
  rw[gX (by omega)];have hne:((xs.length:Int) != (ys.length:Int))=true:=by rw[bne_iff_ne];omega
  go_enter func54,ntmps54
  go_wp2
  go_ret
  exact⟨rfl,Below.refl _ _⟩
 ·by_cases h2:ys.length<xs.length
  ·have hv:=Dg.vl_lt_of_len 65536 (by omega) ys xs sb na h2
   rw[sO (by omega)];have hne:((xs.length:Int) != (ys.length:Int))=true:=by rw[bne_iff_ne];omega
   go_enter func54,ntmps54
   go_wp2
   go_ret
   exact⟨rfl,Below.refl _ _⟩
  ·have hle:xs.length=ys.length:=by omega
   obtain⟨r,hr⟩: ∃r,dm (Dg.vl 65536 xs) (Dg.vl 65536 ys)=r:=⟨_,rfl⟩;rw[hr];have HR:Hid _:=hr;have HL:Hid _:=hle;rw[hle] at hla hca⊢;clear hr hle h1 h2
   go_enter func54,ntmps54
   go_wp2
   go_loopw [5] (fun iv wr=> ∃k:Nat,k≤ys.length∧iv=yi ((k:Int)-1)∧Hid (∀j,k≤j→xs.getD j 0=ys.getD j 0)∧yB w wr) (fun iv _=>(intOf iv+1).toNat)
   case atStart=>exact⟨ys.length,Nat.le_refl _,rfl,fun j hj=>by rw[Dg.getD_of_le xs j (by rw[HL.out];exact hj),Dg.getD_of_le ys j hj],Below.refl _ _⟩
   case round=>
    obtain⟨k,hk,rfl,hall,bel⟩:=hrel
    by_cases hk0:k=0
    ·subst hk0
     have he:=Dg.eq_of_all xs ys HL.out (fun j=>hall j (by omega))
     have hr0:r=0:=by rw[←HR.out,he,Bh]
     subst hr0;clear he
     go_wp2
     go_ret
     exact⟨rfl,bel⟩
    ·obtain⟨m,rfl⟩: ∃m,k=m+1:=⟨k-1,by omega⟩
     obtain⟨b,off,rfl,hcell⟩:=hca (by omega);obtain⟨b2,off2,rfl,hcell2⟩:=hcb (by omega);have hx:=cell_later bel (hcell m (by omega));have hy:=cell_later bel (hcell2 m (by omega));have hst:xs.getD m 0<ys.getD m 0→dm (Dg.vl 65536 xs) (Dg.vl 65536 ys)= -1:=fun h=>
      gX (by have:=Dg.vl_lt_of_digit 65536 xs ys m HL.out (by rw[HL.out];omega) hall h sa;omega)
     have hst2:ys.getD m 0<xs.getD m 0→dm (Dg.vl 65536 xs) (Dg.vl 65536 ys)=1:=fun h=>
      sO (by have:=Dg.vl_lt_of_digit 65536 ys xs m HL.out.symm (by omega) (fun j hj=>(hall j hj).symm) h sb;omega)
     rw[HR.out] at hst hst2;obtain⟨x,ex⟩: ∃x,xs.getD m 0=x:=⟨_,rfl⟩;obtain⟨y,ey⟩: ∃y,ys.getD m 0=y:=⟨_,rfl⟩;have HX:Hid _:=ex;have HY:Hid _:=ey;rw[ex] at hx hst hst2;rw[ey] at hy hst hst2;clear ex ey hcell hcell2 hca hcb;have hmI:((m+1:Nat):Int)-1=(m:Int):=by omega
     rw[hmI];clear hmI
     by_cases hxy:x<y
     ·have hr1:=hst hxy
      subst hr1;clear hst hst2
      go_wp2
      go_quiet (fail)
      go_wp2
      go_ret
      exact⟨rfl,aL bel _⟩
     ·by_cases hyx:y<x
      ·have hr1:=hst2 hyx
       subst hr1;clear hst hst2
       go_wp2
       go_quiet (fail)
       go_wp2
       go_quiet (fail)
       go_wp2
       go_ret
       exact⟨rfl,aL (aL bel _) _⟩
      ·have hxe:x=y:=by omega
       subst hxe;clear hst hst2
       go_wp2
       go_quiet (fail)
       go_wp2
       go_quiet (fail)
       go_wp2
       go_roundw
       case rel=>exact⟨m,by omega,by go_num,fun j hj=>by
        by_cases e:j=m
        ·rw[e];exact HX.out.trans HY.out.symm
        ·exact hall j (by omega),aL bel _⟩
       case measure=>simp[intOf]
theorem I0 (B:Nat)(l:List Nat)(hn:Dg.Norm l)(k:Nat)(h:k<l.length)(hB:0<B):B^k≤Dg.vl B l:=by
 have h1:=Dg.vl_ge B l (by intro e;subst e;simp at h) hn;exact Nat.le_trans (Nat.pow_le_pow_right hB (by omega)) h1
def abk (xs ys ps:List Nat)(k c:Nat):Prop:=
 ps.length=k∧Dg.Small 65536 ps∧c≤1∧Dg.vl 65536 ps+65536^k*c=Dg.vl 65536 (xs.take k)+Dg.vl 65536 (ys.take k)∧(0<k→65536^ (k-1)≤Dg.vl 65536 xs+Dg.vl 65536 ys)
theorem UL {xs ys ps:List Nat}{k c:Nat}(h:abk xs ys ps k c)(na:Dg.Norm xs)(nb:Dg.Norm ys)(sa:Dg.Small 65536 xs)(sb:Dg.Small 65536 ys)(hk:k<xs.length∨k<ys.length∨0<c)(t:Nat)(ht:t=c+xs.getD k 0+ys.getD k 0):
  abk xs ys (ps++[t % 65536]) (k+1) (t/65536):=by
 obtain⟨h1,h2,h3,h4,h5⟩:=h;have hx:=sa k;have hy:=sb k;refine⟨by simp[h1],qP h2 (Nat.mod_lt _ (by omega)),by omega, ?_,fun _=> ?_⟩
 ·rw[Dg.vl_append,iV,iV,h1]
  simp only[Dg.vl,Nat.mul_zero,Nat.add_zero];have e:65536^ (k+1)*(t/65536)=65536^k*(65536*(t/65536)):=by rw[Nat.pow_succ,Nat.mul_assoc]
  have e2:65536^k*t=65536^k*(t % 65536)+65536^k*(65536*(t/65536)):=by rw[←Nat.mul_add,Nat.mod_add_div]
  have e3:65536^k*t=65536^k*c+65536^k*xs.getD k 0+65536^k*ys.getD k 0:=by rw[ht,Nat.mul_add,Nat.mul_add]
  rw[e];omega
 ·rw[Nat.add_sub_cancel]
  by_cases a:k<xs.length
  ·have:=I0 65536 xs na k a (by omega);omega
  ·by_cases b:k<ys.length
   ·have:=I0 65536 ys nb k b (by omega);omega
   ·rw[List.take_of_length_le (by omega),List.take_of_length_le (by omega)] at h4
    have:65536^k≤65536^k*c:=Nat.le_mul_of_pos_right _ (by omega);omega
theorem Yx {xs ys ps:List Nat}{k c:Nat}(h:abk xs ys ps k c)(hk: ¬(k<xs.length∨k<ys.length∨0<c)):ps=Dg.dg 65536 (Dg.vl 65536 xs+Dg.vl 65536 ys):=by
 obtain⟨h1,h2,h3,h4,h5⟩:=h;have hc:c=0:=by omega
 subst hc;rw[List.take_of_length_le (by omega),List.take_of_length_le (by omega)] at h4;refine Dg.eq_dg 65536 (by omega) _ _ h2 (Dg.norm_of_ge 65536 ps h2 (fun hne=> ?_)) (by omega)
 have:=h5 (by rw[←h1];exact List.length_pos_iff.2 hne);rw[h1];omega
def QA (xs ys ps:List Nat)(k c:Nat):Prop:=
 ps.length=k∧Dg.Small 65536 ps∧c≤1∧Dg.vl 65536 (xs.take k)+65536^k*c=Dg.vl 65536 ps+Dg.vl 65536 (ys.take k)
theorem I1 {xs ys ps:List Nat}{k c d c':Nat}(h:QA xs ys ps k c)(hd:d<65536)(hc:c'≤1)(e:xs.getD k 0+65536*c'=d+ys.getD k 0+c):QA xs ys (ps++[d]) (k+1) c':=by
 obtain⟨h1,h2,h3,h4⟩:=h;refine⟨by simp[h1],qP h2 hd,hc, ?_⟩;rw[Dg.vl_append,iV,iV,h1];simp only[Dg.vl,Nat.mul_zero,Nat.add_zero];have e2:65536^k*(xs.getD k 0+65536*c')=65536^k*(d+ys.getD k 0+c):=by rw[e]
 have e3:65536^ (k+1)*c'=65536^k*(65536*c'):=by rw[Nat.pow_succ,Nat.mul_assoc]
 rw[Nat.mul_add,Nat.mul_add,Nat.mul_add] at e2;rw[e3];omega
theorem Nl {xs ys ps:List Nat}{c:Nat}(h:QA xs ys ps xs.length c)(hl:ys.length≤xs.length)(hv:Dg.vl 65536 ys≤Dg.vl 65536 xs):Dg.vl 65536 ps=Dg.vl 65536 xs-Dg.vl 65536 ys:=by
 obtain⟨h1,h2,h3,h4⟩:=h;rw[List.take_of_length_le (Nat.le_refl xs.length),List.take_of_length_le hl] at h4;have hlt:=Dg.vl_lt 65536 ps h2;rw[h1] at hlt;have hc:c=0:=by
  rcases Nat.eq_zero_or_pos c with e|e
  ·exact e
  ·have:c=1:=by omega
   subst this;omega
 subst hc;omega
theorem ew (va vb:Value)(xs ys:List Nat)(w:World)(ha:Rd w .i64 va xs)(hb:Rd w .i64 vb ys)(sa:Dg.Small 65536 xs)(sb:Dg.Small 65536 ys)(na:Dg.Norm xs)(nb:Dg.Norm ys)(hla:xs.length≤2000000)(hlb:ys.length≤2000000):
  yC 53 #[va,vb] w (cG w (Dg.vl 65536 xs+Dg.vl 65536 ys)):=by
 obtain⟨ao,ca,rfl,-,-,hca⟩:=ha;obtain⟨bo,cb,rfl,-,-,hcb⟩:=hb;obtain⟨i0,hi,hz0,hz1,hz2⟩:=info_parts Tryz.infoI64
 go_enter func53,ntmps53
 go_wp2
 go_loopw [5,6,7] (fun ov cv iv wr=> ∃(k c:Nat) (ps:List Nat),k≤2000001∧(2000000<k→c=0)∧iv=yi k∧cv=yi c∧Own wr w.heap.size 3 .i64 ov ps∧abk xs ys ps k c∧yB w wr) (fun _ _ iv _=>2000002-(intOf iv).toNat)
 case atStart=>exact⟨0,0,[],by omega,fun _=>rfl,rfl,rfl,aQ _ _ _ _,⟨rfl,Dg.small_nil _ (by omega),by omega,by simp[Dg.vl],fun h=>by omega⟩,Below.refl _ _⟩
 case round=>
  obtain⟨k,c,ps,hk,hkc,rfl,rfl,own,hI,bel⟩:=hrel;have hcl:=hI.2.2.1;have hpl:=hI.1;have hbs:=bel.size
  by_cases hcond:k<xs.length∨k<ys.length∨0<c
  ·have hk2:k≤2000000:=by
    rcases Nat.lt_or_ge 2000000 k with h|h
    ·have:=hkc h;omega
    ·exact h
   have hxl:=sa k;have hyl:=sb k;have hx0: ¬k<xs.length→xs.getD k 0=0:=fun h=>Dg.getD_of_le _ _ (by omega)
   have hy0: ¬k<ys.length→ys.getD k 0=0:=fun h=>Dg.getD_of_le _ _ (by omega)
   have hst:=fun t ht=>UL hI na nb sa sb hcond t ht
   have hnc:2000000<k+1→(c+xs.getD k 0+ys.getD k 0)/65536=0:=fun h=>by
    rw[hx0 (by omega),hy0 (by omega)];omega
   have hcx:k<xs.length→ ∃b off,ao=some ⟨b,off,none⟩∧wr.cell? ⟨b,off+k,none⟩=some (yi ((xs.getD k 0:Nat):Int)):=fun h=>by
    obtain⟨b,off,e,hcell⟩:=hca (by omega);exact⟨b,off,e,cell_later bel (hcell k h)⟩
   have hcy:k<ys.length→ ∃b off,bo=some ⟨b,off,none⟩∧wr.cell? ⟨b,off+k,none⟩=some (yi ((ys.getD k 0:Nat):Int)):=fun h=>by
    obtain⟨b,off,e,hcell⟩:=hcb (by omega);exact⟨b,off,e,cell_later bel (hcell k h)⟩
   obtain⟨x,ex⟩: ∃x,xs.getD k 0=x:=⟨_,rfl⟩;obtain⟨y,ey⟩: ∃y,ys.getD k 0=y:=⟨_,rfl⟩;rw[ex] at hxl hx0 hst hnc hcx;rw[ey] at hyl hy0 hst hnc hcy;have hst:=hst _ rfl;have Hst:Hid _:=hst;have Hpl:Hid _:=hpl;have Hnc:Hid _:=hnc;have hpl2:ps.length≤2000000:=by omega
   clear ex ey hca hcb hI hst hkc hpl hnc;have fin: ∀(T:Int),T=((c+x+y:Nat):Int)→ ∀v' w3,w3.ownsRow w.heap.size 3 1 v' (ps.length+1) ((ps.map (fun n:Nat=>Value.int .i64 (n:Int)))++[yi (T % 65536)])→(wr.alloc (.cells #[yi (T % 65536)] 3)).grownBy w3 (Value.ownBlock u5)→
     Own w3 w.heap.size 3 .i64 v' (ps++[(c+x+y) % 65536])∧yB w w3:=by
    intro T hT v' w3 h1 h2;have e0:T % 65536=(((c+x+y) % 65536:Nat):Int):=by omega
    rw[e0] at h1 h2;exact iW bel own h1 h2
   by_cases h1:k<xs.length
   ·obtain⟨b,off,rfl,hcell⟩:=hcx h1
    by_cases h2:k<ys.length
    ·obtain⟨b2,off2,rfl,hcell2⟩:=hcy h2
     clear hcx hcy hx0 hy0 hcond
     go_wp2_with (at_builtin;refine wpList_append_own _ rfl _ _ 29 rfl w.heap.size 3 i0 (yi 0) 1 8 underlying29 hi hz0 hz1 hz2 rfl (by decide) _ _ _ rfl (World.ownsRow.alloc own _) ⟨wr.heap.size,0,none⟩ 1 1 [yi (((c:Int)+(x:Int)+(y:Int)) % 65536)] rfl rfl ?c1 ?c2 ?c3 ?c4 ?c5 ?_)
     case c1=>exact cell_one_new _ _ _
     case c2=>intro u hu;simp at hu;subst hu;rfl
     case c3=>unfold maxLen;omega
     case c4=>omega
     case c5=>simp;omega
     intro v' w3 hown' hgrow _;have R:=fin _ (by omega) v' w3 hown' hgrow;clear hown' hgrow own fin
     go_wp2
     go_roundw
     case rel=>exact⟨k+1,(c+x+y)/65536,_,by omega,fun h=>Hnc.out (by omega),by go_num,by go_num,R.1,Hst.out,R.2⟩
     case measure=>simp[intOf];omega
    ·have hy:=hy0 h2
     subst hy;clear hcx hcy hx0 hy0 hcond
     go_wp2_with (at_builtin;refine wpList_append_own _ rfl _ _ 29 rfl w.heap.size 3 i0 (yi 0) 1 8 underlying29 hi hz0 hz1 hz2 rfl (by decide) _ _ _ rfl (World.ownsRow.alloc own _) ⟨wr.heap.size,0,none⟩ 1 1 [yi (((c:Int)+(x:Int)) % 65536)] rfl rfl ?d1 ?d2 ?d3 ?d4 ?d5 ?_)
     case d1=>exact cell_one_new _ _ _
     case d2=>intro u hu;simp at hu;subst hu;rfl
     case d3=>unfold maxLen;omega
     case d4=>omega
     case d5=>simp;omega
     intro v' w3 hown' hgrow _;have R:=fin _ (by omega) v' w3 hown' hgrow;clear hown' hgrow own fin
     go_wp2
     go_roundw
     case rel=>exact⟨k+1,_,_,by omega,fun h=>Hnc.out (by omega),by go_num,by go_num,R.1,Hst.out,R.2⟩
     case measure=>simp[intOf];omega
   ·have hx:=hx0 h1
    subst hx
    by_cases h2:k<ys.length
    ·obtain⟨b2,off2,rfl,hcell2⟩:=hcy h2
     clear hcx hcy hx0 hy0 hcond
     go_wp2_with (at_builtin;refine wpList_append_own _ rfl _ _ 29 rfl w.heap.size 3 i0 (yi 0) 1 8 underlying29 hi hz0 hz1 hz2 rfl (by decide) _ _ _ rfl (World.ownsRow.alloc own _) ⟨wr.heap.size,0,none⟩ 1 1 [yi (((c:Int)+(y:Int)) % 65536)] rfl rfl ?e1 ?e2 ?e3 ?e4 ?e5 ?_)
     case e1=>exact cell_one_new _ _ _
     case e2=>intro u hu;simp at hu;subst hu;rfl
     case e3=>unfold maxLen;omega
     case e4=>omega
     case e5=>simp;omega
     intro v' w3 hown' hgrow _;have R:=fin _ (by omega) v' w3 hown' hgrow;clear hown' hgrow own fin
     go_wp2
     go_roundw
     case rel=>exact⟨k+1,_,_,by omega,fun h=>Hnc.out (by omega),by go_num,by go_num,R.1,Hst.out,R.2⟩
     case measure=>simp[intOf];omega
    ·have hy:=hy0 h2
     subst hy;have hc0:0<c:=by omega
     clear hcx hcy hx0 hy0 hcond
     go_wp2_with (at_builtin;refine wpList_append_own _ rfl _ _ 29 rfl w.heap.size 3 i0 (yi 0) 1 8 underlying29 hi hz0 hz1 hz2 rfl (by decide) _ _ _ rfl (World.ownsRow.alloc own _) ⟨wr.heap.size,0,none⟩ 1 1 [yi (((c:Int)) % 65536)] rfl rfl ?f1 ?f2 ?f3 ?f4 ?f5 ?_)
     case f1=>exact cell_one_new _ _ _
     case f2=>intro u hu;simp at hu;subst hu;rfl
     case f3=>unfold maxLen;omega
     case f4=>omega
     case f5=>simp;omega
     intro v' w3 hown' hgrow _;have R:=fin _ (by omega) v' w3 hown' hgrow;clear hown' hgrow own fin
     go_wp2
     go_roundw
     case rel=>exact⟨k+1,_,_,by omega,fun h=>Hnc.out (by omega),by go_num,by go_num,R.1,Hst.out,R.2⟩
     case measure=>simp[intOf];omega
  ·have he:=Yx hI hcond
   have h1: ¬k<xs.length:=by omega
   have h2: ¬k<ys.length:=by omega
   have h3: ¬0<c:=by omega
   rw[he] at own;clear he hcond
   go_wp2
   go_ret
   exact⟨_,rfl,own.rd,bel⟩
def Sv (xs ys ps:List Nat)(i:Nat):Prop:=
 ps.length=xs.length+ys.length∧Dg.Small 65536 ps∧(∀j,i+ys.length≤j→ps.getD j 0=0)∧Dg.vl 65536 ps=Dg.vl 65536 (xs.take i)*Dg.vl 65536 ys
def M5 (xs ys ps:List Nat)(i k c:Nat):Prop:=
 ps.length=xs.length+ys.length∧Dg.Small 65536 ps∧c<65536∧(∀j,i+ys.length+1≤j→ps.getD j 0=0)∧(k≤ys.length→ps.getD (i+ys.length) 0=0)∧(ys.length<k→c=0)∧k≤ys.length+1∧
  Dg.vl 65536 ps+65536^ (i+k)*c=Dg.vl 65536 (xs.take i)*Dg.vl 65536 ys+65536^i*(xs.getD i 0*Dg.vl 65536 (ys.take k))
theorem M6 (xs ys:List Nat):Sv xs ys (List.replicate (xs.length+ys.length) 0) 0:=by
 refine⟨by simp,Dg.small_replicate _ _ (by omega),fun j _=> ?_, ?_⟩
 ·by_cases h:j<xs.length+ys.length<;>simp[List.getD_eq_getElem?_getD,h]
 ·simp[Dg.vl_replicate_zero,Dg.vl]
theorem M7 {xs ys ps:List Nat}{i:Nat}(h:Sv xs ys ps i):M5 xs ys ps i 0 0:=
 ⟨h.1,h.2.1,by omega,fun j hj=>h.2.2.1 j (by omega),fun _=>h.2.2.1 _ (by omega),fun _=>rfl,by omega,by rw[h.2.2.2];simp[Dg.vl]⟩
theorem C8 {x y:Nat}(hx:x<65536)(hy:y<65536):x*y≤4294836225:=by
 have:=Nat.mul_le_mul (Nat.le_sub_one_of_lt hx) (Nat.le_sub_one_of_lt hy)
 simpa using this
theorem Qj {xs ys ps:List Nat}{i k c:Nat}(h:M5 xs ys ps i k c)(sa:Dg.Small 65536 xs)(sb:Dg.Small 65536 ys)(hi:i<xs.length)(hk:k<ys.length∨0<c)(t:Nat)(ht:t=ps.getD (i+k) 0+c+xs.getD i 0*ys.getD k 0):
  M5 xs ys (ps.set (i+k) (t % 65536)) i (k+1) (t/65536):=by
 obtain⟨h1,h2,h3,h4,h5,h6,h7,h8⟩:=h;have hkl:k≤ys.length:=by
  rcases Nat.lt_or_ge ys.length k with e|e
  ·have:=h6 e;omega
  ·exact e
 have hl:i+k<ps.length:=by omega
 have hp:=h2 (i+k);have hxy:=C8 (sa i) (sb k);refine⟨by simpa using h1,Dg.small_set h2 _ _ (Nat.mod_lt _ (by omega)),by omega,fun j hj=> ?_,fun hk2=> ?_,fun hk2=> ?_,by omega, ?_⟩
 ·rw[Dg.getD_set _ _ _ _ hl,if_neg (by omega)];exact h4 j hj
 ·rw[Dg.getD_set _ _ _ _ hl,if_neg (by omega)];exact h5 (by omega)
 ·have hke:k=ys.length:=by omega
  subst hke;rw[h5 (Nat.le_refl _),Dg.getD_of_le ys _ (Nat.le_refl _)] at ht;omega
 ·have hs:=Dg.vl_set 65536 ps (i+k) (t % 65536) hl
  rw[iV];have hpw:65536^ (i+(k+1))*(t/65536)=65536^ (i+k)*(65536*(t/65536)):=by
   rw[show i+(k+1)=(i+k)+1 from by omega,Nat.pow_succ,Nat.mul_assoc]
  have hm:65536^ (i+k)*t=65536^ (i+k)*(t % 65536)+65536^ (i+k)*(65536*(t/65536)):=by
   rw[←Nat.mul_add,Nat.mod_add_div]
  have he:65536^ (i+k)*t=65536^ (i+k)*ps.getD (i+k) 0+65536^ (i+k)*c+65536^ (i+k)*(xs.getD i 0*ys.getD k 0):=by
   rw[ht,Nat.mul_add,Nat.mul_add]
  have hd:65536^i*(xs.getD i 0*(Dg.vl 65536 (ys.take k)+65536^k*ys.getD k 0))=65536^i*(xs.getD i 0*Dg.vl 65536 (ys.take k))+65536^ (i+k)*(xs.getD i 0*ys.getD k 0):=by
   rw[Nat.mul_add,Nat.mul_add,Nat.pow_add]
   congr 1
   rw[Nat.mul_assoc,Nat.mul_left_comm (xs.getD i 0)]
  rw[hpw,hd];omega
theorem Qk {xs ys ps:List Nat}{i k c:Nat}(h:M5 xs ys ps i k c)(hi:i<xs.length)(hk: ¬(k<ys.length∨0<c)):Sv xs ys ps (i+1):=by
 obtain⟨h1,h2,h3,h4,h5,h6,h7,h8⟩:=h;have hc:c=0:=by omega
 subst hc;refine⟨h1,h2,fun j hj=>h4 j (by omega), ?_⟩
 rw[Dg.vl_take_succ _ _ _ hi,Nat.add_mul,Nat.mul_assoc];have e:ys.take k=ys:=List.take_of_length_le (by omega);rw[e] at h8;omega
theorem Ql (p c x y:Nat):((p:Int)+(c:Int)+(x:Int)*(y:Int)) % 65536=(((p+c+x*y) % 65536:Nat):Int):=by
 rw[←Int.natCast_mul];omega
theorem Qm (p c x y:Nat):((p:Int)+(c:Int)+(x:Int)*(y:Int))/65536=(((p+c+x*y)/65536:Nat):Int):=by
 rw[←Int.natCast_mul];omega
theorem xh {w:World}{base e:Nat}{g n cap m:Nat}{zs:List Nat}(h:Own w base e .i64 (.slice (some ⟨g,0,none⟩) n cap) zs)(hs:Dg.Small 65536 zs)(ht:Ou zs m)(hl:zs.length≤3000000):Rd w .i64 (.slice (some ⟨g,0,none⟩) m m) (Dg.dg 65536 (Dg.vl 65536 zs)):=
 uE 65536 (by omega) h.rd hs ht (Nat.le_refl _) (by have:=ht.1;unfold maxLen;omega)
theorem fN (va vb:Value)(xs ys:List Nat)(w:World)(ha:Rd w .i64 va xs)(hb:Rd w .i64 vb ys)(sa:Dg.Small 65536 xs)(sb:Dg.Small 65536 ys)(hla:xs.length≤1000000)(hlb:ys.length≤1000000):
  yC 34 #[va,vb] w (cG w (Dg.vl 65536 xs*Dg.vl 65536 ys)):=by
 obtain⟨i0,hi,hz0,hz1,hz2⟩:=info_parts Tryz.infoI64;obtain⟨ao,ca,rfl,-,-,hca⟩:=ha;obtain⟨bo,cb,rfl,-,-,hcb⟩:=hb
 go_enter func34,ntmps34
 go_wp2_with (at_make;refine wpList_make_full _ rfl _ _ 29 rfl w.heap.size 3 i0 (yi 0) 1 underlying29 hi hz0 hz1 _ _ _ _ (xs.length+ys.length) rfl rfl (by omega) (by omega) ?b2 ?b3 (Nat.le_refl _) ?_)
 case b2=>rw[hz2];omega
 case b3=>unfold maxLen;omega
 intro w0 hown0 hgrow0;have own0:=gL hown0;have bel0:yB w w0:=(Below.refl _ _).grown hgrow0 (Nat.le_refl _) (fun k h=>by cases h)
 clear hown0 hgrow0
 go_wp2
 go_loopw [6] (fun iv wr=> ∃(i:Nat) (ps:List Nat),i≤xs.length∧iv=yi i∧Own wr w.heap.size 3 .i64 (.slice (some ⟨w.heap.size,0,none⟩) (xs.length+ys.length) (xs.length+ys.length)) ps∧Sv xs ys ps i∧yB w wr)
  (fun iv _=>xs.length-(intOf iv).toNat)
 case atStart=>exact⟨0,_,Nat.zero_le _,rfl,own0,M6 xs ys,bel0⟩
 case round=>
  obtain⟨i,ps,hil,rfl,own,hO,bel⟩:=hrel
  by_cases hlt:i<xs.length
  ·obtain⟨b,off,rfl,hcella⟩:=hca (by omega)
   have hcell:=hcella i hlt;have hxs:=sa i;obtain⟨x,ex⟩: ∃x,xs.getD i 0=x:=⟨_,rfl⟩;rw[ex] at hcell hxs;have Hx:Hid _:=ex;clear ex hcella hca own0 bel0
   go_wp2
   go_loopw [7,8] (fun cv kv wr=> ∃(k c:Nat) (ps:List Nat),kv=yi k∧cv=yi c∧Own wr w.heap.size 3 .i64 (.slice (some ⟨w.heap.size,0,none⟩) (xs.length+ys.length) (xs.length+ys.length)) ps∧M5 xs ys ps i k c∧yB w wr)
    (fun _ kv _=>ys.length+2-(intOf kv).toNat)
   case atStart=>exact⟨0,0,ps,rfl,rfl,own,M7 hO,bel⟩
   case round=>
    clear own hO bel ps;obtain⟨k,c,ps,rfl,rfl,own,hI,bel⟩:=hrel;have hpl:=hI.1;have hcl:=hI.2.2.1;have hk6:=hI.2.2.2.2.2.1;have hk7:=hI.2.2.2.2.2.2.1
    by_cases hcond:k<ys.length∨0<c
    ·have hkl:k≤ys.length:=by
      rcases Nat.lt_or_ge ys.length k with e|e
      ·have:=hk6 e;omega
      ·exact e
     have hp:=own.c (i+k) (by omega);have hps:=hI.2.1 (i+k);have hfr:=own.f (i+k);have hst:=Qj hI sa sb hlt hcond _ rfl;have hys:=sb k;have hy0: ¬k<ys.length→ys.getD k 0=0:=fun h=>Dg.getD_of_le _ _ (by omega)
     have hxw:=cell_later bel hcell;have hcy:k<ys.length→ ∃b off,bo=some ⟨b,off,none⟩∧wr.cell? ⟨b,off+k,none⟩=some (yi ((ys.getD k 0:Nat):Int)):=fun h=>by
      obtain⟨b,off,e,hc2⟩:=hcb (by omega);exact⟨b,off,e,cell_later bel (hc2 k h)⟩
     rw[Hx.out] at hst;obtain⟨y,ey⟩: ∃y,ys.getD k 0=y:=⟨_,rfl⟩;obtain⟨p,ep⟩: ∃p,ps.getD (i+k) 0=p:=⟨_,rfl⟩;rw[ey] at hys hy0 hcy hst;rw[ep] at hp hps hst;clear ey ep hk6 hcb
     by_cases h2:k<ys.length
     ·obtain⟨b2,off2,rfl,hcell2⟩:=hcy h2
      have hxy:=C8 hxs hys;have hxyI:(x:Int)*(y:Int)≤4294836225:=by rw[←Int.natCast_mul];omega
      have hxy0:0≤(x:Int)*(y:Int):=by rw[←Int.natCast_mul];omega
      clear hcy hy0 hcond
      go_wp2
      go_quiet (fail)
      go_wp2
      go_roundw
      case rel=>
       rw[Ql,Qm];exact⟨k+1,_,_,by go_num,rfl,Own.store (Own.l own (aL (Below.refl _ _) _)) (i+k) _,hst,(aL bel _).setCell (by exact Nat.le_refl _) _⟩
      case measure=>simp[intOf];omega
     ·have hy:=hy0 h2
      subst hy;have hc0:0<c:=by omega
      simp only[Nat.mul_zero,Nat.add_zero] at hst;clear hcy hy0 hcond
      go_wp2
      go_roundw
      case rel=>
       have e1:((p:Int)+(c:Int)) % 65536=(((p+c) % 65536:Nat):Int):=by omega
       have e2:((p:Int)+(c:Int))/65536=(((p+c)/65536:Nat):Int):=by omega
       rw[e1,e2];exact⟨k+1,_,_,by go_num,rfl,own.store (i+k) _,hst,bel.setCell (by exact Nat.le_refl _) _⟩
      case measure=>simp[intOf];omega
    ·have h1: ¬k<ys.length:=by omega
     have h2: ¬0<c:=by omega
     have hst:=Qk hI hlt hcond;clear hcond
     go_wp2
     go_roundw
     case rel=>exact⟨i+1,ps,by omega,by go_num,own,hst,bel⟩
     case measure=>simp[intOf];omega
  ·have hie:i=xs.length:=by omega
   subst hie;have hpl:=hO.1;have hps:=hO.2.1;have hv:=hO.2.2.2;rw[List.take_of_length_le (Nat.le_refl _)] at hv;have HV:Hid _:=hv;have hl:ps.length≤3000000:=by omega
   clear hpl hv
   go_wp2_with fail
   refine(i9 _ _ _ ps _ own.rd).mono ?_;rintro e w' ⟨m,rfl,hm,rfl⟩;have hr:=xh own hps hm hl;rw[HV.out] at hr;clear hm
   go_wp2
   go_ret
   exact⟨_,rfl,hr,bel⟩
theorem XR (P Q:Nat)(l:List Nat)(k:Nat)(h:k<l.length):(low P Q l).take (k+1)=(low P Q l).take k++[l.getD k 0/P+l.getD (k+1) 0 % P*Q]:=by
 rw[Dg.take_succ' _ k (by rw[mA];exact h),Gb P Q l k h]
theorem Ug (P Q:Nat)(l:List Nat)(hPQ:P*Q=65536)(hs:Dg.Small 65536 l):Dg.Small 65536 (low P Q l):=by
 intro j
 by_cases hj:j<l.length
 ·rw[Gb P Q l j hj]
  have hP:0<P:=by
   rcases Nat.eq_zero_or_pos P with e|e
   ·subst e;simp at hPQ
   ·exact e
  have h1:l.getD j 0/P<Q:=by rw[Nat.div_lt_iff_lt_mul hP,Nat.mul_comm,hPQ];exact hs j
  have h2:(l.getD (j+1) 0 % P+1)*Q≤P*Q:=Nat.mul_le_mul_right _ (Nat.mod_lt _ hP);rw[Nat.add_mul,hPQ] at h2;omega
 ·rw[Dg.getD_of_le _ _ (by rw[mA];omega)];omega
theorem aa7 (B:Nat)(hB:0<B)(xs:List Nat)(wh:Nat)(hw:wh≤xs.length)(sa:Dg.Small B xs):Dg.vl B (xs.drop wh)=Dg.vl B xs/B^wh:=by
 have hsp:=Dg.vl_take_drop B xs wh hw;have hlt:=Dg.vl_lt B (xs.take wh) (Dg.small_take sa _ hB);rw[List.length_take,Nat.min_eq_left hw] at hlt;rw[hsp,Nat.add_comm,Nat.mul_add_div (Nat.pow_pos hB),Nat.div_eq_of_lt hlt,Nat.add_zero]
theorem MD (va:Value)(xs:List Nat)(n wh pt P Q:Nat)(w:World)(ha:Rd w .i64 va xs)(sa:Dg.Small 65536 xs)(hla:xs.length≤1000000)(hn:n=16*wh+pt)(hpt:pt<16)(hnl:n≤100000000)(hP:P=2^pt)(hQ:Q=2^ (16-pt)):
  yC 76 #[va,yi n] w (Si w (Dg.vl 65536 xs/2^n)):=by
 have hPQ:P*Q=65536:=by rw[hP,hQ,←Nat.pow_add,show pt+(16-pt)=16 from by omega]
 have hpw:65536^wh*P=2^n:=by rw[hn,hP,Nat.pow_add,Nat.pow_mul]
 have hP0:0<P:=by rw[hP];exact Nat.pow_pos (by omega)
 have hQ0:0<Q:=by rw[hQ];exact Nat.pow_pos (by omega)
 have hPl:P≤65536:=by rw[←hPQ];exact Nat.le_mul_of_pos_right _ hQ0
 have hQl:Q≤65536:=by rw[←hPQ];exact Nat.le_mul_of_pos_left _ hP0
 obtain⟨ao,ca,rfl,-,-,hca⟩:=ha;obtain⟨i0,hi,hz0,hz1,hz2⟩:=info_parts Tryz.infoI64;have hq:(n:Int)/16=(wh:Int):=by omega
 have hr:(n:Int) % 16=(pt:Int):=by omega
 have hwl:wh≤100000000:=by omega
 have HPQ:Hid _:=hPQ;have HPW:Hid _:=hpw;have HP:Hid _:=hP
 by_cases hge:xs.length≤wh
 ·have hz:Dg.vl 65536 xs/2^n=0:=by
   apply Nat.div_eq_of_lt;have h1:=Dg.vl_lt 65536 xs sa;have h2:65536^xs.length≤65536^wh:=Nat.pow_le_pow_right (by omega) hge;have h3:65536^wh≤65536^wh*P:=Nat.le_mul_of_pos_right _ hP0;omega
  rw[hz];clear hz hn hPQ hpw hP hQ
  go_enter func76,ntmps76
  go_wp2
  go_ret
  exact⟨_,rfl,(aQ _ 0 0 _).rd,(fun a n c h=>by cases h),Below.refl _ _⟩
 ·have hdQ:(65536:Int)/(P:Int)=(Q:Int):=by
   have:65536/P=Q:=by rw[←hPQ];exact Nat.mul_div_cancel_left _ hP0
   rw[←this];exact(Int.natCast_ediv 65536 P).symm
  clear hn hPQ hpw hP hQ
  go_enter func76,ntmps76
  go_wp2
  go_loop [5,6] (fun dv iv=> ∃k d:Nat,k≤pt∧iv=yi k∧dv=yi d∧Hid (d=2^k)) (fun _ iv=>pt-(intOf iv).toNat)
  case atStart=>exact⟨0,1,Nat.zero_le _,rfl,rfl,rfl⟩
  case round=>
   obtain⟨k,d,hk,rfl,rfl,hdk⟩:=hrel;have hdl:d≤65536:=by
    rw[hdk.out];have:2^k≤2^15:=Nat.pow_le_pow_right (by omega) (by omega);omega
   by_cases hlt:k<pt
   ·go_wp2
    go_round
    case rel=>exact⟨k+1,2*d,by omega,by go_num,by go_num,by rw[show d=2^k from hdk.out,Nat.pow_succ];exact Nat.mul_comm _ _⟩
    case measure=>simp[intOf];omega
   ·have hke:k=pt:=by omega
    subst hke;have hdP:d=P:=hdk.out.trans HP.out.symm;subst hdP;clear hdk hdl HP
    go_wp2
    go_loopw [7,8] (fun ov iv wr=> ∃j:Nat,wh+j≤xs.length∧iv=yi ((wh+j:Nat):Int)∧Own wr w.heap.size 3 .i64 ov ((low d Q (xs.drop wh)).take j)∧yB w wr) (fun _ iv _=>xs.length-(intOf iv).toNat)
    case atStart=>exact⟨0,by omega,by go_num,aQ _ _ _ _,Below.refl _ _⟩
    case round=>
     obtain⟨j,hj,rfl,own,bel⟩:=hrel
     by_cases hlt2:wh+j<xs.length
     ·obtain⟨b,off,rfl,hcell⟩:=hca (by omega)
      have hx:=cell_later bel (hcell (wh+j) hlt2);have hy:=fun h:wh+j+1<xs.length=>cell_later bel (hcell (wh+j+1) h)
      have hxl:=sa (wh+j);have hyl:=sa (wh+j+1);have hy0: ¬wh+j+1<xs.length→xs.getD (wh+j+1) 0=0:=fun h=>Dg.getD_of_le _ _ (by omega)
      have hsn:=XR d Q (xs.drop wh) j (by simp;omega);rw[ui,ui,←Nat.add_assoc] at hsn;obtain⟨x,ex⟩: ∃x,xs.getD (wh+j) 0=x:=⟨_,rfl⟩;obtain⟨y,ey⟩: ∃y,xs.getD (wh+j+1) 0=y:=⟨_,rfl⟩;obtain⟨es,ees⟩: ∃es,(low d Q (xs.drop wh)).take j=es:=⟨_,rfl⟩;have hel:es.length≤1000000:=by rw[←ees];simp[mA];omega
      rw[ex] at hx hxl hsn;rw[ey] at hy hyl hy0 hsn;rw[ees] at hsn own;have HS:Hid _:=hsn;have hbs:=bel.size;obtain⟨q1,hq1⟩: ∃q1,x/d=q1:=⟨_,rfl⟩;obtain⟨m1,hm1⟩: ∃m1,y % d=m1:=⟨_,rfl⟩;have hq1I:(x:Int)/(d:Int)=(q1:Int):=by rw[←hq1];exact(Int.natCast_ediv x d).symm
      have hm1I:(y:Int) % (d:Int)=(m1:Int):=by rw[←hm1];exact(Int.natCast_emod y d).symm
      have hq1l:q1≤65536:=by rw[←hq1];have:=Nat.div_le_self x d;omega
      have hm1l:m1<d:=by rw[←hm1];exact Nat.mod_lt _ hP0
      rw[hq1,hm1] at HS;have hmQ:m1*Q≤65536*65536:=Nat.mul_le_mul (by omega) hQl;have hmQI:(m1:Int)*(Q:Int)≤4294967296:=by rw[←Int.natCast_mul];omega
      have hmQ0:0≤(m1:Int)*(Q:Int):=by rw[←Int.natCast_mul];omega
      clear ex ey ees hcell hca hsn hq1 hm1 hmQ
      by_cases h2:wh+j+1<xs.length
      ·have hy1:=hy h2
       clear hy hy0;have own2:=fun m=>Own.l own (aL (Below.refl wr.heap.size wr) m)
       go_wp2
       go_quiet (fail)
       go_wp2_with (at_builtin;refine wpList_append_own _ rfl _ _ 29 rfl w.heap.size 3 i0 (yi 0) 1 8 underlying29 hi hz0 hz1 hz2 rfl (by decide) _ _ _ rfl (World.ownsRow.alloc (own2 _) _) ⟨wr.heap.size,0,none⟩ 1 1 [yi ((q1:Int)+(m1:Int)*(Q:Int))] rfl rfl ?c1 ?c2 ?c3 ?c4 ?c5 ?_)
       case c1=>exact cell_one_new _ _ _
       case c2=>intro u hu;simp at hu;subst hu;rfl
       case c3=>unfold maxLen;omega
       case c4=>omega
       case c5=>simp;omega
       intro v' w3 hown' hgrow _;have e0:((q1:Int)+(m1:Int)*(Q:Int))=((q1+m1*Q:Nat):Int):=by rw[Int.natCast_add,Int.natCast_mul]
       rw[e0] at hown' hgrow;have R:=iW (aL bel _) (own2 _) hown' hgrow;clear hown' hgrow own own2 e0
       go_wp2
       go_roundw
       case rel=>exact⟨j+1,by omega,by go_num,by rw[HS.out];exact R.1,R.2⟩
       case measure=>simp[intOf];omega
      ·have hy1:=hy0 h2
       subst hy1;have hm0:m1=0:=by
        have:(m1:Int)=0:=by rw[←hm1I];simp
        omega
       subst hm0;simp only[Nat.zero_mul,Nat.add_zero] at HS;clear hy hy0 hm1I hmQI hmQ0
       go_wp2_with (at_builtin;refine wpList_append_own _ rfl _ _ 29 rfl w.heap.size 3 i0 (yi 0) 1 8 underlying29 hi hz0 hz1 hz2 rfl (by decide) _ _ _ rfl (World.ownsRow.alloc own _) ⟨wr.heap.size,0,none⟩ 1 1 [yi ((q1:Int))] rfl rfl ?d1 ?d2 ?d3 ?d4 ?d5 ?_)
       case d1=>exact cell_one_new _ _ _
       case d2=>intro u hu;simp at hu;subst hu;rfl
       case d3=>unfold maxLen;omega
       case d4=>omega
       case d5=>simp;omega
       intro v' w3 hown' hgrow _;have R:=iW bel own hown' hgrow;clear hown' hgrow own
       go_wp2
       go_roundw
       case rel=>exact⟨j+1,by omega,by go_num,by rw[HS.out];exact R.1,R.2⟩
       case measure=>simp[intOf];omega
     ·have hje:wh+j=xs.length:=by omega
      rw[List.take_of_length_le (by rw[mA];simp;omega)] at own;have hsm:=Ug d Q (xs.drop wh) HPQ.out (fun i=>by rw[ui];exact sa _)
      have hv:Dg.vl 65536 (low d Q (xs.drop wh))=Dg.vl 65536 xs/2^n:=by
       have:=Y8 d Q hP0 (xs.drop wh);rw[HPQ.out] at this;rw[this,aa7 65536 (by omega) xs wh (by omega) sa,Nat.div_div_eq_div_mul,HPW.out]
      have hlw:(low d Q (xs.drop wh)).length≤1000000:=by rw[mA];simp;omega
      obtain⟨ls,hls⟩: ∃ls,low d Q (xs.drop wh)=ls:=⟨_,rfl⟩;rw[hls] at own hsm hv hlw;have HV:Hid _:=hv;clear hls hv;obtain⟨oo,oc,rfl⟩:=own.rd.shape;have hF:=JH own
      go_wp2_with fail
      refine(i9 _ _ _ _ _ own.rd).mono ?_;rintro e w' ⟨m,rfl,hm,rfl⟩;have hml:=hm.1;have HF:Hid (Far w.heap.size (.slice oo m m)):=LP hF m m;clear hF;have hr2:=uE (cap':=m) 65536 (by omega) own.rd hsm hm (Nat.le_refl _) (by unfold maxLen;omega);rw[HV.out] at hr2;clear hm
      go_wp2
      go_ret
      exact⟨_,rfl,hr2,HF.out,bel⟩
def dr (w:World)(t:ak)(e:Ending)(w':World):Prop:= ∃s,e= .returned (ydV t.s s t.e)∧Rd w' .i64 s (Dg.dg 65536 t.n)∧yB w w'
def di (w:World)(t:ak)(e:Ending)(w':World):Prop:= ∃s,e= .returned (ydV t.s s t.e)∧Rd w' .i64 s (Dg.dg 65536 t.n)∧Far w.heap.size s∧yB w w'
theorem di.near {w:World}{t:ak}{e:Ending}{w':World}(h:di w t e w'):dr w t e w':=by
 obtain⟨s,h1,h2,-,h3⟩:=h;exact⟨s,h1,h2,h3⟩
theorem dI (w:World)(ty:TypeId):ZB (w.alloc (.cells (ydA false yN 0) ty)) w.heap.size:=
 ⟨by simp[World.size_alloc],ty,heap_alloc_new _ _⟩
theorem QY (l:List Nat)(k t m:Nat)(hk:k<l.length)(h: ∀j,j<k→l.getD j 0=0)(hd:l.getD k 0=2^t*(2*m+1))(ht:t<16):tz (Dg.vl 65536 l)=16*k+t:=by
 have h1:=Dg.vl_split 65536 l k hk;have h0:Dg.vl 65536 (l.take k)=0:=Dg.vl_zeros 65536 (l.take k) (fun i=>by
  by_cases hi:i<k
  ·have:=h i hi
   simpa[List.getD_eq_getElem?_getD,List.getElem?_take,hi] using this
  ·simp[List.getD_eq_getElem?_getD,List.getElem?_take,hi])
 rw[h0,hd,Nat.zero_add] at h1;obtain⟨u,hu⟩: ∃u,Dg.vl 65536 (l.drop (k+1))=u:=⟨_,rfl⟩;rw[hu] at h1;have e32:(65536:Nat)=2^t*(2*2^ (15-t)):=by
  have:(65536:Nat)=2^ (t+(1+(15-t))):=by rw[show t+(1+(15-t))=16 from by omega]
  rw[this,Nat.pow_add,Nat.pow_add,Nat.pow_one]
 have e1:(2:Nat)^ (16*k)=65536^k:=by rw[Nat.pow_mul]
 refine F8 (m:=m+2^ (15-t)*u) ?_;rw[h1,Nat.pow_add,e1,Nat.mul_assoc]
 congr 1
 generalize 2^ (15-t)=c at*;have e2:65536*u=2^t*(2*(c*u)):=by rw[e32];simp only[Nat.mul_assoc]
 rw[e2,←Nat.mul_add]
 congr 1
 omega
theorem lA (v:Value)(t:ak)(w:World)(hv:Rv w v t)(hL:(Dg.dg 65536 t.n).length≤100000)(he1: -1000000≤t.e)(he2:t.e≤1000000):
  yC 32 #[v] w (di w (bare t)):=by
 obtain⟨s0,rfl,hr⟩:=hv;obtain⟨ao,ca,rfl⟩:=hr.shape;obtain⟨ts,n,e⟩:=t;simp only at hr hL he1 he2⊢
 by_cases hn:n=0
 ·subst hn
  rw[show Dg.dg 65536 0=[] from rfl] at hr⊢
  rw[show bare ⟨ts,0,e⟩=⟨false,0,0⟩ from by unfold bare;rfl]
  go_enter func32,ntmps32
  go_wp2
  go_returns
  exact⟨_,rfl,aN _ _,(fun a n c h=>by cases h),((Below.refl _ _).alloc (Nat.le_refl _) _).alloc (by simp[World.size_alloc]) _⟩
 ·have h0:(((Dg.dg 65536 n).length:Int)==0)=false:=by simp[Dg.dg_nil_iff 65536 n (by omega)];exact hn
  have hsm:=Dg.small_dg 65536 n (by omega);have hnm:=Dg.norm_dg 65536 n (by omega);have hvl:=Dg.vl_dg 65536 n (by omega);have hne:Dg.dg 65536 n≠[]:=by rw[Ne,Dg.dg_nil_iff 65536 n (by omega)];exact hn
  obtain⟨xs,hx⟩: ∃xs,Dg.dg 65536 n=xs:=⟨_,rfl⟩;rw[hx] at hr hL h0 hsm hnm hvl hne⊢;have hlp:0<xs.length:=List.length_pos_iff.2 hne;have HNM:Hid (xs.getD (xs.length-1) 0≠0):=hnm hne;obtain⟨-,-,hcb⟩:=iQ hr;obtain⟨b,off,hao,hcell⟩:=hcb hlp;subst hao;have bA:=aa (af w (.cells (ydA ts (.slice (some ⟨b,off,none⟩) xs.length ca) e) 47)) (af _ (.cells (ydA false yN 0) 47))
  go_enter func32,ntmps32
  go_wp2
  go_loop [3] (fun nv=> ∃k:Nat,k<xs.length∧nv=yi ((16*k:Nat):Int)∧Hid (∀j,j<k→xs.getD j 0=0)) (fun nv=>xs.length-(intOf nv).toNat/16)
  case atStart=>exact⟨0,hlp,rfl,fun j hj=>absurd hj (Nat.not_lt_zero j)⟩
  case round=>
   obtain⟨k,hk,rfl,hzk⟩:=hrel;have hq:((16*k:Nat):Int)/16=(k:Int):=by omega
   have hc:=cell_later bA (hcell k hk);have hl:=hsm k;obtain⟨x,hxx⟩: ∃x,xs.getD k 0=x:=⟨_,rfl⟩;rw[hxx] at hc hl;have HX:Hid (xs.getD k 0=x):=hxx;clear hxx
   by_cases hx0:x=0
   ·subst hx0
    have hk1:k+1<xs.length:=by
     rcases Nat.lt_or_ge (k+1) xs.length with h|h
     ·exact h
     ·exfalso
      have:k=xs.length-1:=by omega
      exact HNM.out (by rw[←this];exact HX.out)
    go_wp2
    go_round
    case rel=>exact⟨k+1,hk1,by go_num,fun j hj=>by
     by_cases e:j=k
     ·rw[e];exact HX.out
     ·exact hzk.out j (by omega)⟩
    case measure=>simp[intOf];omega
   ·have h1:((x:Int)==0)=false:=by simp;exact hx0
    go_wp2
    have bd:Below (((w.alloc (.cells (ydA ts (.slice (some ⟨b,off,none⟩) xs.length ca) e) 47)).alloc (.cells (ydA false yN 0) 47))).heap.size ((w.alloc (.cells (ydA ts (.slice (some ⟨b,off,none⟩) xs.length ca) e) 47)).alloc (.cells (ydA false yN 0) 47)) ((w.alloc (.cells (ydA ts (.slice (some ⟨b,off,none⟩) xs.length ca) e) 47)).alloc (.cells (ydA false yN 0) 47)).drew:=(Below.refl _ _).drew;have l1:=((aA w (.bool ts) (.slice (some ⟨b,off,none⟩) xs.length ca) (yi e) 47).l (af _ (.cells (ydA false yN 0) 47))).l bd;have l2:=(aA (w.alloc (.cells (ydA ts (.slice (some ⟨b,off,none⟩) xs.length ca) e) 47)) (.bool false) yN (yi 0) 47).l bd;have z2:=(dI (w.alloc (.cells (ydA ts (.slice (some ⟨b,off,none⟩) xs.length ca) e) 47)) 47).l bd;rw[World.size_alloc] at l2 z2;have b02:=aa bA bd;clear bd
    go_loop [3,4] (fun nv dv=> ∃j d:Nat,nv=yi (16*(k:Int)+(j:Int))∧dv=yi (d:Int)∧0<d∧d≤x∧Hid (x=2^j*d)∧j≤16) (fun _ dv=>(intOf dv).toNat)
    case atStart=>exact⟨0,x,by simp,rfl,by omega,Nat.le_refl _,by show x=2^0*x;simp,by omega⟩
    case round=>
     obtain⟨j,d,rfl,rfl,hd0,hdx,hxd,hj⟩:=hrel
     by_cases hev:d % 2=0
     ·have e1:((d:Int) % 2==0)=true:=by simp;omega
      have hj2:j+1≤16:=by
       rcases Nat.lt_or_ge j 16 with h|h
       ·exact h
       ·exfalso
        have h2:2^16≤2^j:=Nat.pow_le_pow_right (by omega) h;have h3:2^j*1≤2^j*d:=Nat.mul_le_mul_left _ (by omega);rw[←hxd.out] at h3;omega
      go_wp2
      go_round
      case rel=>exact⟨j+1,d/2,by go_num,by go_num,by omega,by omega,by
       show x=2^ (j+1)*(d/2)
       rw[Nat.pow_succ,Nat.mul_assoc,show 2*(d/2)=d from by omega]
       exact hxd.out,hj2⟩
      case measure=>simp[intOf];omega
     ·have e1:((d:Int) % 2==0)=false:=by simp;omega
      obtain⟨m,hm⟩: ∃m,d=2*m+1:=⟨d/2,by omega⟩;have hj15:j<16:=by
       rcases Nat.lt_or_ge j 16 with h|h
       ·exact h
       ·exfalso
        have h2:2^16≤2^j:=Nat.pow_le_pow_right (by omega) h;have h3:2^j*1≤2^j*d:=Nat.mul_le_mul_left _ (by omega);rw[←hxd.out] at h3;omega
      have htz:=QY xs k j m hk hzk.out (by rw[HX.out,←hm];exact hxd.out) hj15;rw[hvl] at htz;have HB:Hid (bare ⟨ts,n,e⟩=⟨ts,n/2^ (16*k+j),e+(16*(k:Int)+(j:Int))⟩):=by
       show bare ⟨ts,n,e⟩=_
       unfold bare;rw[if_neg hn];simp only[htz];rw[show((16*k+j:Nat):Int)=16*(k:Int)+(j:Int) from by omega]
      have HD:Hid (∀w1,yB w w1→yC 76 #[.slice (some ⟨b,off,none⟩) xs.length ca,yi (16*(k:Int)+(j:Int))] w1 (Si w1 (n/2^ (16*k+j)))):=fun w1 b1=>by
       have:=MD _ xs (16*k+j) k j _ _ w1 (hr.l b1) hsm (by omega) rfl hj15 (by omega) rfl rfl
       rwa [hvl,show((16*k+j:Nat):Int)=16*(k:Int)+(j:Int) from by omega] at this
      obtain⟨q,hqq⟩: ∃q,n/2^ (16*k+j)=q:=⟨_,rfl⟩;rw[hqq] at HB HD;have e5:IntKind.i64.wrap (e+(16*(k:Int)+(j:Int)))=e+(16*(k:Int)+(j:Int)):=IntWalk.i64_in _ ⟨by omega,by omega⟩;obtain⟨-,⟨c0,c1,c2⟩,-⟩:=id l1;have ne3:w.heap.size+1≠w.heap.size:=by omega
      clear hqq htz hm hxd hev
      go_wp2
      go_region_held3 (fun wq=>wq.cell? ⟨w.heap.size,0,none⟩=some (.bool ts)∧wq.cell? ⟨w.heap.size,1,none⟩=some (.slice (some ⟨b,off,none⟩) xs.length ca)∧wq.cell? ⟨w.heap.size,2,none⟩=some (yi e)) (go_keep) (first
       | (go_at_call 76;refine(HD.out _ b02).mono ?_;rintro z w3 ⟨vs,rfl,r3,hF3,b3⟩;have l13:=l1.l b3;have l23:=l2.l b3;have z23:=z2.l b3;have b03:=aa b02 b3;obtain⟨so,sc,hvs⟩:=r3.shape;subst hvs;have HF:Hid (Far w.heap.size (yS so q sc)):=hF3.mono b02.size;clear hF3;obtain⟨-,⟨p0,p1,p2⟩,-⟩:=id l13;obtain⟨hl3,⟨d0,d1,d2⟩,f0,f1,f2⟩:=id l23))
      all_goals go_wp2
      obtain⟨-,⟨g0,g1,g2⟩,-⟩:=aD l23 (.bool ts) (yS so q sc) (yi (e+(16*(k:Int)+(j:Int))));have r7:=z23.rd r3 (Dg.norm_dg _ _ (by omega)) (.bool ts) (yS so q sc) (yi (e+(16*(k:Int)+(j:Int))));have b8:=am b03 (show w.heap.size≤w.heap.size+1 by omega) (.bool ts) (yS so q sc) (yi (e+(16*(k:Int)+(j:Int))))
      refine bodyPost_ret (v:=(ydV ts (yS so q sc) (e+(16*(k:Int)+(j:Int))))) (by simp[results,results32,go_sem,g0,g1,g2]) rfl ?_
      show di w (bare ⟨ts,n,e⟩) _ _
      rw[HB.out];exact⟨_,rfl,r7,HF.out,b8⟩
theorem iJ (v:Value)(t:ak)(w:World)(hv:Rv w v t)(hL:(Dg.dg 65536 t.n).length≤100000)(he1: -1000000≤t.e)(he2:t.e≤1000000):
  yC 32 #[v] w (dr w (bare t)):=
 (lA v t w hv hL he1 he2).mono fun _ _ h=>h.near
def RVF (w:World)(c:Int)(g:Bool)(t:ak)(fl:Int)(z:Ending)(w':World):Prop:=
 ∃s,z= .returned (.tuple #[yoV c g t.s s t.e,yi fl])∧Rd w' .i64 s (Dg.dg 65536 t.n)∧yB w w'
theorem sameRatio_W (g:Bool)(N D:Nat)(e:Int)(ao bo xo yo:Option Addr)(ac bc xc yc:Nat)(w:World)(ra:Rd w .u32 (yT ao N ac) (Dg.dg 4294967296 N))(rb:Rd w .u32 (yT bo D bc) (Dg.dg 4294967296 D))(rx:Rd w .i64 (yS xo N xc) (Dg.dg 65536 N))(ry:Rd w .i64 (yS yo D yc) (Dg.dg 65536 D))
  (HT: ∀(m:Nat) o c w1,m=N∨m=D→Rd w1 .i64 (yS o m c) (Dg.dg 65536 m)→yC 37 #[yS o m c] w1 (NmR w1 m))
  (HS: ∀(m:Nat) o c o2 c2 w1,Rd w1 .u32 (yT o m c) (Dg.dg 4294967296 m)→Rd w1 .u32 (yT o2 m c2) (Dg.dg 4294967296 m)→yC 36 #[yT o m c,yT o2 m c2] w1 (yR w1 (.bool true))):
  yC 12 #[yrV g (yT ao N ac) (yT bo D bc) e,yrV g (yS xo N xc) (yS yo D yc) e] w (yR w (.bool true)):=by
 replace HT:Hid _:=HT;replace HS:Hid _:=HS;obtain⟨W4,hW5,q1,q2,b3⟩:=iG w (yrL g (yT ao N ac) (yT bo D bc) e) 25 (yrL g (yS xo N xc) (yS yo D yc) e) 31;replace hW5:Hid _:=hW5;have r6:=ra.l b3;have r7:=rb.l b3;have r8:=rx.l b3;have r9:=ry.l b3;clear ra rb rx ry
 go_enter func12,ntmps12
 go_upto_region 1 with fail
 rw[hW5.out];clear hW5
 go_upto_region 1 with fail
 have bW10:yB W4 W4.drew:=(Below.refl _ _).drew;have q11:=q1.l bW10;have q12:=q2.l bW10;have r13:=r6.l bW10;have r14:=r7.l bW10;have r15:=r8.l bW10;have r16:=r9.l bW10;have b17:=aa b3 bW10;clear q1 q2 r6 r7 r8 r9 b3 bW10;refine wp_region_held_drew (S:=fun wq=>au wq w.heap.size 25 (yrL g (yT ao N ac) (yT bo D bc) e)∧au wq (w.heap.size+1) 31 (yrL g (yS xo N xc) (yS yo D yc) e)) (by kernel_rfl) ⟨q11,q12⟩ (fun hS0=> ?_)
 generalize W4.drew=WD18 at q11 q12 r13 r14 r15 r16 b17 hS0⊢;refine tq 0 (.pointer (some ⟨w.heap.size,0,none⟩)) rfl (fun _ _=>by kernel_rfl) hS0 ?_
 refine tq 1 (.bool g) rfl (fun _ hw0=>gU 4 (.tmp 5) rfl w.heap.size 0 (by kernel_rfl) _ _ underlying4 rfl (hw0.1.c 0 rfl)) hS0 ?_
 refine tq 2 (.pointer (some ⟨w.heap.size+1,0,none⟩)) rfl (fun _ _=>by kernel_rfl) hS0 ?_
 refine tq 3 (.bool g) rfl (fun _ hw0=>gU 4 (.tmp 7) rfl (w.heap.size+1) 0 (by kernel_rfl) _ _ underlying4 rfl (hw0.2.c 0 rfl)) hS0 ?_
 refine tq 4 (.bool true) rfl (fun _ _=>by go_simp) hS0 ?_
 refine tq 5 (.bool true) rfl (fun _ _=>by kernel_rfl) hS0 ?_
 refine tq 6 (.pointer (some ⟨w.heap.size,1,none⟩)) rfl (fun _ _=>by kernel_rfl) hS0 ?_
 refine tq 7 (yT ao N ac) rfl (fun _ hw0=>gU 23 (.tmp 11) rfl w.heap.size 1 (by kernel_rfl) _ _ underlying23 rfl (hw0.1.c 1 rfl)) hS0 ?_
 refine tq 8 (.pointer (some ⟨w.heap.size+1,1,none⟩)) rfl (fun _ _=>by kernel_rfl) hS0 ?_
 refine tq 9 (yS xo N xc) rfl (fun _ hw0=>gU 29 (.tmp 13) rfl (w.heap.size+1) 1 (by kernel_rfl) _ _ underlying29 rfl (hw0.2.c 1 rfl)) hS0 ?_
 refine wpAnyH_ready (rs:=[10]) (by kernel_rfl) (by simp) ?_;refine AllReadyH.cons rfl (fun K hK=> ?_) AllReadyH.nil
 go_simp
 refine(HT.out N _ _ _ (.inl rfl) r15).mono ?_;rintro zz w19 ⟨v1x21,rfl,r1x22,bb20⟩;have q23:=q11.l bb20;have q24:=q12.l bb20;have r25:=r13.l bb20;have r26:=r14.l bb20;have r27:=r16.l bb20;have b28:=aa b17 bb20;obtain⟨po,pc,hv⟩:=r1x22.shape;subst hv;clear q11 q12 r13 r14 r15 r16 b17 bb20;refine hK.out _ _ ⟨q23,q24⟩ (fun hS29=> ?_)
 clear hK K;refine wpAnyH_ready (rs:=[11]) (by kernel_rfl) (by simp) ?_;refine AllReadyH.cons rfl (fun K hK=> ?_) AllReadyH.nil
 go_simp
 refine(HS.out N _ _ _ _ _ r25 r1x22).mono ?_;rintro zz w30 ⟨rfl,bb31⟩;have q32:=q23.l bb31;have q33:=q24.l bb31;have r34:=r26.l bb31;have r35:=r27.l bb31;have b36:=aa b28 bb31;clear q23 q24 r25 r26 r27 r1x22 b28 bb31;refine hK.out _ _ ⟨q32,q33⟩ (fun hS37=> ?_)
 clear hK K;refine tq 12 (.bool true) rfl (fun _ _=>by kernel_rfl) hS37 ?_
 refine tq 13 (.bool true) rfl (fun _ _=>by kernel_rfl) hS37 ?_
 refine tq 14 (.pointer (some ⟨w.heap.size,2,none⟩)) rfl (fun _ _=>by kernel_rfl) hS37 ?_
 refine tq 15 (yT bo D bc) rfl (fun _ hw0=>gU 23 (.tmp 19) rfl w.heap.size 2 (by kernel_rfl) _ _ underlying23 rfl (hw0.1.c 2 rfl)) hS37 ?_
 refine tq 16 (.pointer (some ⟨w.heap.size+1,2,none⟩)) rfl (fun _ _=>by kernel_rfl) hS37 ?_
 refine tq 17 (yS yo D yc) rfl (fun _ hw0=>gU 29 (.tmp 21) rfl (w.heap.size+1) 2 (by kernel_rfl) _ _ underlying29 rfl (hw0.2.c 2 rfl)) hS37 ?_
 refine wpAnyH_ready (rs:=[18]) (by kernel_rfl) (by simp) ?_;refine AllReadyH.cons rfl (fun K hK=> ?_) AllReadyH.nil
 go_simp
 refine(HT.out D _ _ _ (.inr rfl) r35).mono ?_;rintro zz w38 ⟨v1x40,rfl,r1x41,bb39⟩;have q42:=q32.l bb39;have q43:=q33.l bb39;have r44:=r34.l bb39;have b45:=aa b36 bb39;obtain⟨qo,qc,hv⟩:=r1x41.shape;subst hv;clear q32 q33 r34 r35 b36 bb39;refine hK.out _ _ ⟨q42,q43⟩ (fun hS46=> ?_)
 clear hK K;refine wpAnyH_ready (rs:=[19]) (by kernel_rfl) (by simp) ?_;refine AllReadyH.cons rfl (fun K hK=> ?_) AllReadyH.nil
 go_simp
 refine(HS.out D _ _ _ _ _ r44 r1x41).mono ?_;rintro zz w47 ⟨rfl,bb48⟩;have q49:=q42.l bb48;have q50:=q43.l bb48;have b51:=aa b45 bb48;clear q42 q43 r44 r1x41 b45 bb48 HS HT;refine hK.out _ _ ⟨q49,q50⟩ (fun hS52=> ?_)
 clear hK K;refine tq 20 (.bool true) rfl (fun _ _=>by kernel_rfl) hS52 ?_
 refine tq 21 (.bool true) rfl (fun _ _=>by kernel_rfl) hS52 ?_
 refine tq 22 (.pointer (some ⟨w.heap.size,3,none⟩)) rfl (fun _ _=>by kernel_rfl) hS52 ?_
 refine tq 23 (yi e) rfl (fun _ hw0=>gU 3 (.tmp 27) rfl w.heap.size 3 (by kernel_rfl) _ _ underlying3 rfl (hw0.1.c 3 rfl)) hS52 ?_
 refine tq 24 (.pointer (some ⟨w.heap.size+1,3,none⟩)) rfl (fun _ _=>by kernel_rfl) hS52 ?_
 refine tq 25 (yi e) rfl (fun _ hw0=>gU 3 (.tmp 29) rfl (w.heap.size+1) 3 (by kernel_rfl) _ _ underlying3 rfl (hw0.2.c 3 rfl)) hS52 ?_
 refine tq 26 (.bool true) rfl (fun _ _=>by go_simp) hS52 ?_
 refine tq 27 (.bool true) rfl (fun _ _=>by kernel_rfl) hS52 ?_
 refine tq 28 (.bool true) rfl (fun _ _=>by kernel_rfl) hS52 ?_
 refine wpAnyH_done (by kernel_rfl) ?_ _;clear hS0 hS29 hS37 hS46 hS52;simp only[Act.put,List.getElem_toArray,List.getElem_cons_succ,List.getElem_cons_zero,List.setIfInBounds_toArray,List.set_cons_zero,List.set_cons_succ]
 go_wp2
 go_ret
 exact⟨by simp,b51⟩
theorem ratios_err (er:Int)(tx:ByteArray)(w:World)
  (HR:yH w 9 #[.string tx] (.tuple #[yrV false yN yN 0,yi er]))
  (HQ:yH w 10 #[.string tx] (.tuple #[yrV false yN yN 0,yi er]))
  (HB:yH w 11 #[] (.bool true))
  (HS:yH w 12 #[yrV false yN yN 0,yrV false yN yN 0] (.bool true)):
  yC 3 #[.string tx] w (yR w (.bool true)):=by
 replace HR:Hid _:=HR;replace HQ:Hid _:=HQ;replace HB:Hid _:=HB;replace HS:Hid _:=HS
 go_enter func3,ntmps3
 have b0:=Below.refl w.heap.size w
 go_wp2_with fail
 refine(HR.out _ b0).mono ?_;rintro zz w1 ⟨rfl,bb2⟩;have b3:=aa b0 bb2;clear b0 bb2 HR;obtain⟨W6,hW5,q7,al4⟩:=cA w1 (yrL false yN yN 0) 25;replace hW5:Hid _:=hW5;have hl8:w.heap.size≤w1.heap.size:=b3.size;have b9:=aa b3 al4;clear b3 al4
 go_upto_region 2 with fail
 rw[hW5.out];clear hW5
 go_wp2_with fail
 refine(HQ.out _ b9).mono ?_;rintro zz w10 ⟨rfl,bb11⟩;have q12:=q7.l bb11;have b13:=aa b9 bb11;clear q7 b9 bb11 HQ;obtain⟨W16,hW15,q17,al14⟩:=cA w10 (yrL false yN yN 0) 31;replace hW15:Hid _:=hW15;have hl18:w.heap.size≤w10.heap.size:=b13.size;have hl19:=q12.lt;have q20:=q12.l al14;have b21:=aa b13 al14;clear q12 b13 al14
 go_upto_region 3 with fail
 rw[hW15.out];clear hW15
 go_wp2_with fail
 refine(HB.out _ b21).mono ?_;rintro zz w22 ⟨rfl,bb23⟩;have q24:=q20.l bb23;have q25:=q17.l bb23;have b26:=aa b21 bb23;clear q20 q17 b21 bb23 HB;obtain⟨c27,c28,c29,c30⟩:=q24.cs4;obtain⟨c31,c32,c33,c34⟩:=q25.cs4
 go_wp2_with fail
 refine(HS.out _ b26).mono ?_;rintro zz w35 ⟨rfl,bb36⟩;have b37:=aa b26 bb36;clear q24 q25 b26 bb36 HS c27 c28 c29 c30 c31 c32 c33 c34
 go_wp2
 go_ret
 exact⟨by simp,b37⟩
def RqE (w:World)(ng:Bool)(a b:Nat)(e er:Int)(z:Ending)(w':World):Prop:=
 ∃v u,z= .returned (.tuple #[yrV ng v u e,yi er])∧Rd w' .i64 v (Dg.dg 65536 a)∧Rd w' .i64 u (Dg.dg 65536 b)∧yB w w'
theorem ratios_ok (g:Bool)(N D:Nat)(e:Int)(tx:ByteArray)(w:World)
  (HR: ∀w1,yB w w1→yC 9 #[.string tx] w1 (RtE w1 g N D e 0))
  (HQ: ∀w1,yB w w1→yC 10 #[.string tx] w1 (RqE w1 g N D e 0))
  (HB:yH w 11 #[] (.bool true))
  (HS: ∀ao ac bo bc xo xc yo yc w1,yB w w1→Rd w1 .u32 (yT ao N ac) (Dg.dg 4294967296 N)→Rd w1 .u32 (yT bo D bc) (Dg.dg 4294967296 D)→Rd w1 .i64 (yS xo N xc) (Dg.dg 65536 N)→Rd w1 .i64 (yS yo D yc) (Dg.dg 65536 D)→yC 12 #[yrV g (yT ao N ac) (yT bo D bc) e,yrV g (yS xo N xc) (yS yo D yc) e] w1 (yR w1 (.bool true))):
  yC 3 #[.string tx] w (yR w (.bool true)):=by
 replace HR:Hid _:=HR;replace HQ:Hid _:=HQ;replace HB:Hid _:=HB;replace HS:Hid _:=HS
 go_enter func3,ntmps3
 have b0:=Below.refl w.heap.size w
 go_wp2_with fail
 refine(HR.out _ b0).mono ?_;rintro zz w1 ⟨v1x3,v2x4,rfl,r1x5,r2x6,bb2⟩;have b7:=aa b0 bb2;obtain⟨ao,ac,hv⟩:=r1x5.shape;subst hv;obtain⟨bo,bc,hv⟩:=r2x6.shape;subst hv;clear b0 bb2 HR;obtain⟨W10,hW9,q11,al8⟩:=cA w1 (yrL g (yT ao N ac) (yT bo D bc) e) 25;replace hW9:Hid _:=hW9;have hl12:w.heap.size≤w1.heap.size:=b7.size;have r13:=r1x5.l al8;have r14:=r2x6.l al8;have b15:=aa b7 al8;clear r1x5 r2x6 b7 al8
 go_upto_region 2 with fail
 rw[hW9.out];clear hW9
 go_wp2_with fail
 refine(HQ.out _ b15).mono ?_;rintro zz w16 ⟨v1x18,v2x19,rfl,r1x20,r2x21,bb17⟩;have q22:=q11.l bb17;have r23:=r13.l bb17;have r24:=r14.l bb17;have b25:=aa b15 bb17;obtain⟨xo,xc,hv⟩:=r1x20.shape;subst hv;obtain⟨yo,yc,hv⟩:=r2x21.shape;subst hv;clear q11 r13 r14 b15 bb17 HQ;obtain⟨W28,hW27,q29,al26⟩:=cA w16 (yrL g (yS xo N xc) (yS yo D yc) e) 31;replace hW27:Hid _:=hW27;have hl30:w.heap.size≤w16.heap.size:=b25.size;have hl31:=q22.lt;have q32:=q22.l al26;have r33:=r23.l al26;have r34:=r24.l al26;have r35:=r1x20.l al26;have r36:=r2x21.l al26;have b37:=aa b25 al26;clear q22 r23 r24 r1x20 r2x21 b25 al26
 go_upto_region 3 with fail
 rw[hW27.out];clear hW27
 go_wp2_with fail
 refine(HB.out _ b37).mono ?_;rintro zz w38 ⟨rfl,bb39⟩;have q40:=q32.l bb39;have q41:=q29.l bb39;have r42:=r33.l bb39;have r43:=r34.l bb39;have r44:=r35.l bb39;have r45:=r36.l bb39;have b46:=aa b37 bb39;clear q32 q29 r33 r34 r35 r36 b37 bb39 HB;obtain⟨c47,c48,c49,c50⟩:=q40.cs4;obtain⟨c51,c52,c53,c54⟩:=q41.cs4
 go_wp2_with fail
 refine(HS.out _ _ _ _ _ _ _ _ _ b46 r42 r43 r44 r45).mono ?_;rintro zz w55 ⟨rfl,bb56⟩;have b57:=aa b46 bb56;clear q40 q41 r42 r43 r44 r45 b46 bb56 HS c47 c48 c49 c50 c51 c52 c53 c54
 go_wp2
 go_ret
 exact⟨by simp,b57⟩
theorem ratioOf_many (tx:ByteArray)(w:World)(h:400<tx.size):
  yC 10 #[.string tx] w (yR w (.tuple #[yrV false yN yN 0,yi 2])):=by
 obtain⟨W3,hW4,q1,b2⟩:=cA w (yrL false yN yN 0) 31;replace hW4:Hid _:=hW4
 go_enter func10,ntmps10
 go_upto_region 1 with fail
 rw[hW4.out];clear hW4;have hf:=afz (P:=Tryz.prog) q1 b2 (by omega) underlying31 rfl (by kernel_rfl) (.bool false) yN yN (yi 0);have HH:Hid (_∧_):=⟨hf.1,hf.2.1⟩;obtain⟨⟨z0,z1,z2,z3⟩,y0,y1,y2,y3⟩:=afB q1;clear hf q1 b2
 go_wp2
 obtain⟨hl,bR⟩:=HH.out;exact bodyPost_ret (aj results10 rfl rfl hl) rfl ⟨rfl,bR⟩
theorem ratioOf_low (ng:Bool)(ds tx:ByteArray)(p:Int)(w:World)(h4:tx.size≤400)(h1:p< -6000)
  (HN:yH w 29 #[.string tx] (.tuple #[.bool ng,.string ds,yi p,.bool true])):
  yC 10 #[.string tx] w (yR w (.tuple #[yrV false yN yN 0,yi 3])):=by
 replace HN:Hid _:=HN;obtain⟨W3,hW4,q1,b2⟩:=cA w (yrL false yN yN 0) 31;replace hW4:Hid _:=hW4
 go_enter func10,ntmps10
 go_upto_region 1 with fail
 rw[hW4.out];clear hW4
 go_wp2_with fail
 refine(HN.out _ b2).mono ?_;rintro zz w5 ⟨rfl,bb6⟩;have q7:=q1.l bb6;have b8:=aa b2 bb6;clear q1 b2 bb6 HN;have hf:=afz (P:=Tryz.prog) q7 b8 (by omega) underlying31 rfl (by kernel_rfl) (.bool false) yN yN (yi 0);have HH:Hid (_∧_):=⟨hf.1,hf.2.1⟩;obtain⟨⟨z0,z1,z2,z3⟩,y0,y1,y2,y3⟩:=afB q7;clear hf q7 b8
 go_wp2
 obtain⟨hl,bR⟩:=HH.out;exact bodyPost_ret (aj results10 rfl rfl hl) rfl ⟨rfl,bR⟩
theorem ratioOf_high (ng:Bool)(ds tx:ByteArray)(p:Int)(w:World)(h4:tx.size≤400)(h1: ¬p< -6000)(h2:6000<p)
  (HN:yH w 29 #[.string tx] (.tuple #[.bool ng,.string ds,yi p,.bool true])):
  yC 10 #[.string tx] w (yR w (.tuple #[yrV false yN yN 0,yi 3])):=by
 replace HN:Hid _:=HN;obtain⟨W3,hW4,q1,b2⟩:=cA w (yrL false yN yN 0) 31;replace hW4:Hid _:=hW4
 go_enter func10,ntmps10
 go_upto_region 1 with fail
 rw[hW4.out];clear hW4
 go_wp2_with fail
 refine(HN.out _ b2).mono ?_;rintro zz w5 ⟨rfl,bb6⟩;have q7:=q1.l bb6;have b8:=aa b2 bb6;clear q1 b2 bb6 HN;have hf:=afz (P:=Tryz.prog) q7 b8 (by omega) underlying31 rfl (by kernel_rfl) (.bool false) yN yN (yi 0);have HH:Hid (_∧_):=⟨hf.1,hf.2.1⟩;obtain⟨⟨z0,z1,z2,z3⟩,y0,y1,y2,y3⟩:=afB q7;clear hf q7 b8
 go_wp2
 obtain⟨hl,bR⟩:=HH.out;exact bodyPost_ret (aj results10 rfl rfl hl) rfl ⟨rfl,bR⟩
end Go.Proofs.YtpgijbdgljkeeaaGreatDoor

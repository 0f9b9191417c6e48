/-
  Texts laid together: Dz, Wrong, Rev, Begun, Ref4, Bits, Dy3, Aw0, Read2, Back, Dy6, Gm2, Ce10, Fi6, Dl3, Gn2, Dn2, Ce11, Ce9, Eg2, Eg3, Eb2, Eb3, Nx2, Gg1, Rk1, Ar8, Bm1, BlM, Ra8, Tx6, Tx12, Tx13, Tx14, Tx15, Ref8, Ty4, Ty6, Laws6, Ty13.
-/
import Derived.Test.YtlgkfdcmokchgaaGreatDoorUt05
import Derived.Test.YtlgkfdcmokchgaaGreatDoorUt06
import Derived.Test.YtlgkfdcmokchgaaGreatDoorUt07
import Derived.Test.YtlgkfdcmokchgaaGreatDoorUt08
set_option maxRecDepth 100000
set_option maxHeartbeats 3200000
namespace Go.Proofs.YtlgkfdcmokchgaaGreatDoor
open _root_.Go.Proofs.Tryz
open Go.RowKit
theorem eL {K:Nat}{a:ak}(ha: -(K:Int)≤a.e): -(K:Int)≤(bare a).e:=by
 unfold bare
 by_cases h:a.n=0
 ·rw[if_pos h];simp
 ·rw[if_neg h];simp only;omega
def dV (a:ak):ak:=⟨!a.s,a.n,a.e⟩
theorem tZ (v:Value)(n:Nat)(w0 w:World)(h:Own w w0.heap.size 54 .u32 v (Dg.dg 4294967296 n))(hb:yB w0 w):
  yC 32 #[v] w fun e w'=>w'=w∧Ans w0 (lH n) e w':=by
 unfold lH
 by_cases hl:(Dg.dg 4294967296 n).length≤1200
 ·refine(IW v _ w h.rd hl).mono ?_
  rintro e w' ⟨rfl,rfl⟩;rw[if_pos hl];exact⟨rfl,v,rfl,h,hb⟩
 ·refine(Yb v _ w h.rd (by omega)).mono ?_
  rintro e w' ⟨rfl,rfl⟩;rw[if_neg hl];exact⟨rfl,_,rfl,aQ _ _ _ _,hb⟩
theorem MH (g n cap base:Nat)(zs:List Nat)(w:World)(ho:Own w base 5 .u8 (.slice (some ⟨g,0,none⟩) n cap) zs)(hl:zs.length≤1000000000):
  yC 72 #[.slice (some ⟨g,0,none⟩) n cap] w fun e w'=>
   e= .returned (.tuple #[])∧Own w' base 5 .u8 (.slice (some ⟨g,0,none⟩) n cap) zs.reverse∧w.grownBy w' (some g):=by
 have hn:=ho.len;subst hn
 go_enter func72,ntmps72
 go_wp2
 go_loopw [2,3] (fun iv jv wr=> ∃(i:Nat) (cur:List Nat),iv=yi i∧jv=yi ((zs.length:Int)-1-i)∧Own wr base 5 .u8 (.slice (some ⟨g,0,none⟩) zs.length cap) cur∧XT zs cur i∧w.grownBy wr (some g))
  (fun iv jv _=>(intOf jv+1-intOf iv).toNat)
 case atStart=>exact⟨0,zs,rfl,by go_num,ho,⟨rfl,by omega,fun k hk=>by rw[if_neg (by omega)]⟩,ib _ _⟩
 case round=>
  obtain⟨i,cur,rfl,rfl,own,hI,gr⟩:=hrel;have h1:=hI.1;have h2:=hI.2.1
  by_cases hij:i<zs.length-1-i
  ·obtain⟨j,hj⟩: ∃j,zs.length-1-i=j:=⟨_,rfl⟩
   have hjI:(zs.length:Int)-1-i=(j:Int):=by omega
   have ci:=own.c i (by omega);have cj:=own.c j (by omega);have fi:=own.f i;have fj:=own.f j;have hst:=IJ hI hij;rw[hj] at hst hij;rw[hjI];have hjl:j<zs.length:=by omega
   have Hj:Hid _:=hjI;obtain⟨x,ex⟩: ∃x,cur.getD i 0=x:=⟨_,rfl⟩;obtain⟨y,ey⟩: ∃y,cur.getD j 0=y:=⟨_,rfl⟩;rw[ex] at ci hst;rw[ey] at cj hst;clear hj hjI ex ey hI
   go_wp2
   go_region
   all_goals go_wp2
   all_goals go_roundw
   case rel=>exact⟨i+1,_,by go_num,by have:=Hj.out;go_num,(own.store i y).store j x,hst,eF (eF gr (bI _ _ _ _)) ((eF (bI _ _ _ _) (vm _ _)))⟩
   case measure=>have:=Hj.out;simp[intOf];omega
  ·have hd: ¬((i:Int)< (zs.length:Int)-1-i):=by omega
   go_wp2
   go_end0
   rw[←MG hI hij];exact⟨rfl,own,gr⟩
def prS (zs:List Nat):ByteArray:=if chk zs=0 then oW (Dg.vl 4294967296 zs) else⟨#[]⟩
theorem Qq:prS (Dg.dg 4294967296 12884901888)=⟨#[49,50,56,56,52,57,48,49,56,56,56]⟩:=by
 unfold prS;rw[pJ (Dg.norm_dg _ _ (by omega)) (by rw[vG];decide),if_pos rfl,Dg.vl_dg _ _ (by omega)];unfold oW;rw[if_neg (by omega),Uw];rfl
theorem UL {xs ys ps:List Nat}{k c:Nat}(h:abk xs ys ps k c)(na:Dg.Norm xs)(nb:Dg.Norm ys)(sa:Dg.Small 65536 xs)(sb:Dg.Small 65536 ys)(hk:k<xs.length∨k<ys.length∨0<c)(t:Nat)(ht:t=c+xs.getD k 0+ys.getD k 0):
  abk xs ys (ps++[t % 65536]) (k+1) (t/65536):=by
 obtain⟨h1,h2,h3,h4,h5⟩:=h;have hx:=sa k;have hy:=sb k;refine⟨by simp[h1],qP h2 (Nat.mod_lt _ (by omega)),by omega, ?_,fun _=> ?_⟩
 ·rw[Dg.vl_append,iV,iV,h1]
  simp only[Dg.vl,Nat.mul_zero,Nat.add_zero];have e:65536^ (k+1)*(t/65536)=65536^k*(65536*(t/65536)):=by rw[Nat.pow_succ,Nat.mul_assoc]
  have e2:65536^k*t=65536^k*(t % 65536)+65536^k*(65536*(t/65536)):=by rw[←Nat.mul_add,Nat.mod_add_div]
  have e3:65536^k*t=65536^k*c+65536^k*xs.getD k 0+65536^k*ys.getD k 0:=by rw[ht,Nat.mul_add,Nat.mul_add]
  rw[e];omega
 ·rw[Nat.add_sub_cancel]
  by_cases a:k<xs.length
  ·have:=I0 65536 xs na k a (by omega);omega
  ·by_cases b:k<ys.length
   ·have:=I0 65536 ys nb k b (by omega);omega
   ·rw[List.take_of_length_le (by omega),List.take_of_length_le (by omega)] at h4
    have:65536^k≤65536^k*c:=Nat.le_mul_of_pos_right _ (by omega);omega
theorem I1 {xs ys ps:List Nat}{k c d c':Nat}(h:QA xs ys ps k c)(hd:d<65536)(hc:c'≤1)(e:xs.getD k 0+65536*c'=d+ys.getD k 0+c):QA xs ys (ps++[d]) (k+1) c':=by
 obtain⟨h1,h2,h3,h4⟩:=h;refine⟨by simp[h1],qP h2 hd,hc, ?_⟩;rw[Dg.vl_append,iV,iV,h1];simp only[Dg.vl,Nat.mul_zero,Nat.add_zero];have e2:65536^k*(xs.getD k 0+65536*c')=65536^k*(d+ys.getD k 0+c):=by rw[e]
 have e3:65536^ (k+1)*c'=65536^k*(65536*c'):=by rw[Nat.pow_succ,Nat.mul_assoc]
 rw[Nat.mul_add,Nat.mul_add,Nat.mul_add] at e2;rw[e3];omega
theorem ew (va vb:Value)(xs ys:List Nat)(w:World)(ha:Rd w .i64 va xs)(hb:Rd w .i64 vb ys)(sa:Dg.Small 65536 xs)(sb:Dg.Small 65536 ys)(na:Dg.Norm xs)(nb:Dg.Norm ys)(hla:xs.length≤2000000)(hlb:ys.length≤2000000):
  yC 67 #[va,vb] w (cG w (Dg.vl 65536 xs+Dg.vl 65536 ys)):=by
 obtain⟨ao,ca,rfl,-,-,hca⟩:=ha;obtain⟨bo,cb,rfl,-,-,hcb⟩:=hb;obtain⟨i0,hi,hz0,hz1,hz2⟩:=info_parts Tryz.infoI64
 go_enter func67,ntmps67
 go_wp2
 go_loopw [5,6,7] (fun ov cv iv wr=> ∃(k c:Nat) (ps:List Nat),k≤2000001∧(2000000<k→c=0)∧iv=yi k∧cv=yi c∧Own wr w.heap.size 3 .i64 ov ps∧abk xs ys ps k c∧yB w wr) (fun _ _ iv _=>2000002-(intOf iv).toNat)
 case atStart=>exact⟨0,0,[],by omega,fun _=>rfl,rfl,rfl,aQ _ _ _ _,⟨rfl,Dg.small_nil _ (by omega),by omega,by simp[Dg.vl],fun h=>by omega⟩,Below.refl _ _⟩
 case round=>
  obtain⟨k,c,ps,hk,hkc,rfl,rfl,own,hI,bel⟩:=hrel;have hcl:=hI.2.2.1;have hpl:=hI.1;have hbs:=bel.size
  by_cases hcond:k<xs.length∨k<ys.length∨0<c
  ·have hk2:k≤2000000:=by
    rcases Nat.lt_or_ge 2000000 k with h|h
    ·have:=hkc h;omega
    ·exact h
   have hxl:=sa k;have hyl:=sb k;have hx0: ¬k<xs.length→xs.getD k 0=0:=fun h=>Dg.getD_of_le _ _ (by omega)
   have hy0: ¬k<ys.length→ys.getD k 0=0:=fun h=>Dg.getD_of_le _ _ (by omega)
   have hst:=fun t ht=>UL hI na nb sa sb hcond t ht
   have hnc:2000000<k+1→(c+xs.getD k 0+ys.getD k 0)/65536=0:=fun h=>by
    rw[hx0 (by omega),hy0 (by omega)];omega
   have hcx:k<xs.length→ ∃b off,ao=some ⟨b,off,none⟩∧wr.cell? ⟨b,off+k,none⟩=some (yi ((xs.getD k 0:Nat):Int)):=fun h=>by
    obtain⟨b,off,e,hcell⟩:=hca (by omega);exact⟨b,off,e,cell_later bel (hcell k h)⟩
   have hcy:k<ys.length→ ∃b off,bo=some ⟨b,off,none⟩∧wr.cell? ⟨b,off+k,none⟩=some (yi ((ys.getD k 0:Nat):Int)):=fun h=>by
    obtain⟨b,off,e,hcell⟩:=hcb (by omega);exact⟨b,off,e,cell_later bel (hcell k h)⟩
   obtain⟨x,ex⟩: ∃x,xs.getD k 0=x:=⟨_,rfl⟩;obtain⟨y,ey⟩: ∃y,ys.getD k 0=y:=⟨_,rfl⟩;rw[ex] at hxl hx0 hst hnc hcx;rw[ey] at hyl hy0 hst hnc hcy;have hst:=hst _ rfl;have Hst:Hid _:=hst;have Hpl:Hid _:=hpl;have Hnc:Hid _:=hnc;have hpl2:ps.length≤2000000:=by omega
   clear ex ey hca hcb hI hst hkc hpl hnc;have fin: ∀(T:Int),T=((c+x+y:Nat):Int)→ ∀v' w3,w3.ownsRow w.heap.size 3 1 v' (ps.length+1) ((ps.map (fun n:Nat=>Value.int .i64 (n:Int)))++[yi (T % 65536)])→(wr.alloc (.cells #[yi (T % 65536)] 3)).grownBy w3 (Value.ownBlock u5)→
     Own w3 w.heap.size 3 .i64 v' (ps++[(c+x+y) % 65536])∧yB w w3:=by
    intro T hT v' w3 h1 h2;have e0:T % 65536=(((c+x+y) % 65536:Nat):Int):=by omega
    rw[e0] at h1 h2;exact iW bel own h1 h2
   by_cases h1:k<xs.length
   ·obtain⟨b,off,rfl,hcell⟩:=hcx h1
    by_cases h2:k<ys.length
    ·obtain⟨b2,off2,rfl,hcell2⟩:=hcy h2
     clear hcx hcy hx0 hy0 hcond
     go_wp2_with (at_builtin;refine wpList_append_own _ rfl _ _ 27 rfl w.heap.size 3 i0 (yi 0) 1 8 underlying27 hi hz0 hz1 hz2 rfl (by decide) _ _ _ rfl (World.ownsRow.alloc own _) ⟨wr.heap.size,0,none⟩ 1 1 [yi (((c:Int)+(x:Int)+(y:Int)) % 65536)] rfl rfl ?c1 ?c2 ?c3 ?c4 ?c5 ?_)
     case c1=>exact cell_one_new _ _ _
     case c2=>intro u hu;simp at hu;subst hu;rfl
     case c3=>unfold maxLen;omega
     case c4=>omega
     case c5=>simp;omega
     intro v' w3 hown' hgrow _;have R:=fin _ (by omega) v' w3 hown' hgrow;clear hown' hgrow own fin
     go_wp2
     go_roundw
     case rel=>exact⟨k+1,(c+x+y)/65536,_,by omega,fun h=>Hnc.out (by omega),by go_num,by go_num,R.1,Hst.out,R.2⟩
     case measure=>simp[intOf];omega
    ·have hy:=hy0 h2
     subst hy;clear hcx hcy hx0 hy0 hcond
     go_wp2_with (at_builtin;refine wpList_append_own _ rfl _ _ 27 rfl w.heap.size 3 i0 (yi 0) 1 8 underlying27 hi hz0 hz1 hz2 rfl (by decide) _ _ _ rfl (World.ownsRow.alloc own _) ⟨wr.heap.size,0,none⟩ 1 1 [yi (((c:Int)+(x:Int)) % 65536)] rfl rfl ?d1 ?d2 ?d3 ?d4 ?d5 ?_)
     case d1=>exact cell_one_new _ _ _
     case d2=>intro u hu;simp at hu;subst hu;rfl
     case d3=>unfold maxLen;omega
     case d4=>omega
     case d5=>simp;omega
     intro v' w3 hown' hgrow _;have R:=fin _ (by omega) v' w3 hown' hgrow;clear hown' hgrow own fin
     go_wp2
     go_roundw
     case rel=>exact⟨k+1,_,_,by omega,fun h=>Hnc.out (by omega),by go_num,by go_num,R.1,Hst.out,R.2⟩
     case measure=>simp[intOf];omega
   ·have hx:=hx0 h1
    subst hx
    by_cases h2:k<ys.length
    ·obtain⟨b2,off2,rfl,hcell2⟩:=hcy h2
     clear hcx hcy hx0 hy0 hcond
     go_wp2_with (at_builtin;refine wpList_append_own _ rfl _ _ 27 rfl w.heap.size 3 i0 (yi 0) 1 8 underlying27 hi hz0 hz1 hz2 rfl (by decide) _ _ _ rfl (World.ownsRow.alloc own _) ⟨wr.heap.size,0,none⟩ 1 1 [yi (((c:Int)+(y:Int)) % 65536)] rfl rfl ?e1 ?e2 ?e3 ?e4 ?e5 ?_)
     case e1=>exact cell_one_new _ _ _
     case e2=>intro u hu;simp at hu;subst hu;rfl
     case e3=>unfold maxLen;omega
     case e4=>omega
     case e5=>simp;omega
     intro v' w3 hown' hgrow _;have R:=fin _ (by omega) v' w3 hown' hgrow;clear hown' hgrow own fin
     go_wp2
     go_roundw
     case rel=>exact⟨k+1,_,_,by omega,fun h=>Hnc.out (by omega),by go_num,by go_num,R.1,Hst.out,R.2⟩
     case measure=>simp[intOf];omega
    ·have hy:=hy0 h2
     subst hy;have hc0:0<c:=by omega
     clear hcx hcy hx0 hy0 hcond
     go_wp2_with (at_builtin;refine wpList_append_own _ rfl _ _ 27 rfl w.heap.size 3 i0 (yi 0) 1 8 underlying27 hi hz0 hz1 hz2 rfl (by decide) _ _ _ rfl (World.ownsRow.alloc own _) ⟨wr.heap.size,0,none⟩ 1 1 [yi (((c:Int)) % 65536)] rfl rfl ?f1 ?f2 ?f3 ?f4 ?f5 ?_)
     case f1=>exact cell_one_new _ _ _
     case f2=>intro u hu;simp at hu;subst hu;rfl
     case f3=>unfold maxLen;omega
     case f4=>omega
     case f5=>simp;omega
     intro v' w3 hown' hgrow _;have R:=fin _ (by omega) v' w3 hown' hgrow;clear hown' hgrow own fin
     go_wp2
     go_roundw
     case rel=>exact⟨k+1,_,_,by omega,fun h=>Hnc.out (by omega),by go_num,by go_num,R.1,Hst.out,R.2⟩
     case measure=>simp[intOf];omega
  ·have he:=Yx hI hcond
   have h1: ¬k<xs.length:=by omega
   have h2: ¬k<ys.length:=by omega
   have h3: ¬0<c:=by omega
   rw[he] at own;clear he hcond
   go_wp2
   go_ret
   exact⟨_,rfl,own.rd,bel⟩
theorem kE (va:Value)(xs:List Nat)(w:World)(ha:Rd w .u32 va xs)(sa:Dg.Small 4294967296 xs)(na:Dg.Norm xs)(hla:xs.length≤1000000):
  yC 89 #[va] w fun e w'=>e= .returned (yi (bitLen (Dg.vl 4294967296 xs):Nat))∧w'=w:=by
 obtain⟨ao,ca,rfl,-,-,hca⟩:=ha
 by_cases h0:xs.length=0
 ·obtain rfl:xs=[]:=List.eq_nil_of_length_eq_zero h0
  go_enter func89,ntmps89
  go_wp2
  go_ret
  exact⟨rfl,rfl⟩
 ·have hne:xs≠[]:=by intro e;subst e;simp at h0
  obtain⟨b,off,rfl,hcell⟩:=hca (by omega);have hc:=hcell (xs.length-1) (by omega);have hs:=sa (xs.length-1);rw[IL 4294967296 32 (by decide) (by omega) xs sa na hne];obtain⟨x,ex⟩: ∃x,xs.getD (xs.length-1) 0=x:=⟨_,rfl⟩;rw[ex] at hc hs⊢;have hbl:=bF x 32 (by omega);have h3:=IK x w hs;obtain⟨l,hl⟩: ∃l,bitLen x=l:=⟨_,rfl⟩;rw[hl] at h3 hbl⊢;have h00:((xs.length:Int)==0)=false:=by simp;intro e;subst e;simp at h0
  clear ex hcell hca hne hl
  go_enter func89,ntmps89
  go_wp2_with fail
  refine h3.mono ?_;rintro e w' ⟨rfl,rfl⟩
  go_wp2
  go_ret
  exact⟨by go_num,rfl⟩
def bU (t:ak):ak×Int:=
 if 1200< (Dg.dg 4294967296 (bare t).n).length then(⟨false,0,0⟩,2) else if(bare t).e< -20000∨20000< (bare t).e then(⟨false,0,0⟩,3) else(bare t,0)
def RVF (w:World)(c:Int)(g:Bool)(t:ak)(fl:Int)(z:Ending)(w':World):Prop:=
 ∃s,z= .returned (.tuple #[yoV c g t.s s t.e,yi fl])∧Rd w' .i64 s (Dg.dg 65536 t.n)∧yB w w'
theorem Xe {zs cur:List Nat}{sc mo c m:Nat}(h:LI zs cur sc mo zs.length c)(hz:zs=Dg.dg 4294967296 m)(hsc:1≤sc)(hc:c=0∨0<c):
  (if c=0 then cur else cur++[c])=Dg.dg 4294967296 (m*sc+mo):=by
 obtain⟨h1,h2,h3,h4,h5⟩:=h;rw[List.take_of_length_le (by omega),List.take_of_length_le (Nat.le_refl _)] at h5;have hm:Dg.vl 4294967296 zs=m:=by rw[hz,Dg.vl_dg _ _ (by omega)]
 rw[hm] at h5
 by_cases e:c=0
 ·subst e
  rw[if_pos rfl];refine Dg.eq_dg 4294967296 (by omega) _ _ h2 (Dg.norm_of_ge 4294967296 cur h2 (fun hne=> ?_)) (by omega)
  have hzne:zs≠[]:=by intro e;rw[e] at h1;exact hne (List.eq_nil_of_length_eq_zero h1)
  have:=Dg.vl_ge 4294967296 zs hzne (by rw[hz];exact Dg.norm_dg _ _ (by omega));rw[h1];have h6:m≤m*sc:=Nat.le_mul_of_pos_right _ (by omega);omega
 ·rw[if_neg e]
  refine Dg.eq_dg 4294967296 (by omega) _ _ (qP h2 h3) (fun _=> ?_) ?_
  ·simp[List.getD_eq_getElem?_getD];exact e
  ·rw[Dg.vl_append,h1]
   simp only[Dg.vl,Nat.mul_zero,Nat.add_zero];omega
theorem TX (g i n pc:Nat)(bb boff cb:Nat)(p2 p1 p0 d1 d0:Nat)(w:World)(hn:2≤n)(hnl:n≤2000000)(_hil:i≤2000000)
  (c2:w.cell? ⟨g,i+n,none⟩=some (.int .u32 p2)) (c1:w.cell? ⟨g,i+(n-1),none⟩=some (.int .u32 p1)) (c0:w.cell? ⟨g,i+(n-2),none⟩=some (.int .u32 p0))
  (e1:w.cell? ⟨bb,boff+(n-1),none⟩=some (.int .u32 d1)) (e0:w.cell? ⟨bb,boff+(n-2),none⟩=some (.int .u32 d0))
  (hp2:p2<4294967296) (hp1:p1<4294967296) (hp0:p0<4294967296) (hd1:d1<4294967296) (hd0:d0<4294967296) (hd:2147483648≤d1) (hle:p2≤d1):
  yC 169 #[.slice (some ⟨g,i,none⟩) (n+1) pc,.slice (some ⟨bb,boff,none⟩) n cb] w fun e w'=>
   ∃q:Nat,e= .returned (.int .u32 q)∧q<4294967296∧(∀k,k*(d1*4294967296+d0)≤(p2*4294967296+p1)*4294967296+p0→k<4294967296→k≤q)∧q*(d1*4294967296+d0)≤(p2*4294967296+p1)*4294967296+p0∧yB w w':=by
 have hor:=KJ p2 p1 hp2 hp1;obtain⟨top,ht⟩: ∃top,p2*4294967296+p1=top:=⟨_,rfl⟩;rw[ht] at hor⊢;have htl:top<18446744073709551616:=by omega
 have hst:=Z1 top d1 d0 p0 (by omega) hp0;obtain⟨q0,hq0⟩: ∃q,top/d1=q:=⟨_,rfl⟩;obtain⟨r0,hr0⟩: ∃r,top % d1=r:=⟨_,rfl⟩;have hr0l:r0<d1:=by rw[←hr0];exact Nat.mod_lt _ (by omega)
 have hq0l:q0≤4294967297:=by
  rw[←hq0];have:top/d1<4294967298:=by rw[Nat.div_lt_iff_lt_mul (by omega)];omega
  omega
 have f1:(top:Int)/(d1:Int)=(q0:Int):=by rw[←hq0];exact(Int.natCast_ediv top d1).symm
 have f2:(top:Int) % (d1:Int)=(r0:Int):=by rw[←hr0];exact(Int.natCast_emod top d1).symm
 have g1:IntKind.u64.wrap d1=(d1:Int):=IntWalk.u64_in _ ⟨by omega,by omega⟩;rw[hq0,hr0] at hst;have HTop:Hid _:=ht;clear hq0 hr0 ht;have n1:((n:Int)-1)=((n-1:Nat):Int):=by omega
 have n2:((n:Int)-2)=((n-2:Nat):Int):=by omega
 go_enter func169,ntmps169
 go_wp2
 go_quiet (fail)
 go_wp2
 go_quiet (fail)
 go_wp2
 go_quiet (fail)
 go_wp2
 go_loopw [9,10] (fun gv rv wr=>GsR w g (i+(n-2)) top d1 d0 p0 gv rv wr) (fun gv _ _=>msr gv)
 case atStart=>exact⟨q0,r0,rfl,by rw[f2],hst,by omega,hq0l,c0,aL (aL (aL (Below.refl _ _) _) _) _⟩
 case round=>
  clear c0 hst c1 c2 e0 e1 f1 f2 hr0l hq0l hor;obtain⟨t,r,rfl,rfl,HI,hr,ht1,hc0,bel⟩:=hrel;have hI:=HI.out;have hor:=KJ r p0 hr hp0
  by_cases hbig:4294967296≤t
  ·have hst:=S9 hI (by omega) (.inl hbig)
   have hbI:(4294967296:Int)≤(t:Int):=by omega
   have m1:((t:Int)-1)=((t-1:Nat):Int):=by omega
   have HS:Hid _:=hst
   by_cases hbr:4294967296≤r+d1
   ·have hfin:=Mk hst hbr (by omega) HTop.out hle hp1 hd0
    have HF:Hid _:=hfin;have hbrI:(4294967296:Int)≤(r:Int)+(d1:Int):=by omega
    clear hfin hst hI hbr
    go_wp2
    go_ret
    exact⟨t-1,by first|rfl| (rw[Ap HF.out.1];rfl),HF.out.1,HS.out.2,HF.out.2,bel⟩
   ·obtain⟨rd,hrd⟩: ∃rd,r+d1=rd:=⟨_,rfl⟩
    rw[hrd] at HS hbr;have hrdI:(r:Int)+(d1:Int)=(rd:Int):=by omega
    have hbrN:rd<4294967296:=by omega
    have hrdJ:(rd:Int)<4294967296:=by omega
    have hrdD:decide ((4294967296:Int)≤(rd:Int))=false:=by rw[decide_eq_false_iff_not];omega
    clear hst hI hbr hrd
    go_wp2
    go_roundw
    case rel=>exact⟨t-1,rd,rfl,rfl,HS.out,hbrN,by omega,hc0,bel⟩
    case measure=>simp[msr,intOf];omega
  ·have hbI:(t:Int)<4294967296:=by omega
   have hbN:t<4294967296:=by omega
   have hbd:decide ((4294967296:Int)≤(t:Int))=false:=by rw[decide_eq_false_iff_not];omega
   have hxy:=uf hbN hd0;have hxyI:(t:Int)*(d0:Int)≤18446744065119617025:=by rw[←Int.natCast_mul];omega
   have hxy0:0≤(t:Int)*(d0:Int):=by rw[←Int.natCast_mul];omega
   have hsum:r*4294967296+p0<18446744073709551616:=by omega
   obtain⟨sm,hsm⟩: ∃sm,r*4294967296+p0=sm:=⟨_,rfl⟩;rw[hsm] at hor hsum
   by_cases hgt:sm<t*d0
   ·have hpos:0<t:=by
     rcases Nat.eq_zero_or_pos t with e|e
     ·rw[e,Nat.zero_mul] at hgt;omega
     ·exact e
    have hgtI:(sm:Int)< (t:Int)*(d0:Int):=by rw[←Int.natCast_mul];omega
    have hst:=S9 hI hpos (.inr (by rw[hsm];exact hgt));clear hbig hsm hgt;have m1:((t:Int)-1)=((t-1:Nat):Int):=by omega
    have HS:Hid _:=hst
    by_cases hbr:4294967296≤r+d1
    ·have hfin:=Mk hst hbr (by omega) HTop.out hle hp1 hd0
     have HF:Hid _:=hfin;have hbrI:(4294967296:Int)≤(r:Int)+(d1:Int):=by omega
     clear hfin hst hI hbr
     go_wp2
     go_ret
     exact⟨t-1,by first|rfl| (rw[Ap HF.out.1];rfl),HF.out.1,HS.out.2,HF.out.2,bel⟩
    ·obtain⟨rd,hrd⟩: ∃rd,r+d1=rd:=⟨_,rfl⟩
     rw[hrd] at HS hbr;have hrdI:(r:Int)+(d1:Int)=(rd:Int):=by omega
     have hbrN:rd<4294967296:=by omega
     have hrdJ:(rd:Int)<4294967296:=by omega
     have hrdD:decide ((4294967296:Int)≤(rd:Int))=false:=by rw[decide_eq_false_iff_not];omega
     clear hst hI hbr hrd
     go_wp2
     go_roundw
     case rel=>exact⟨t-1,rd,rfl,rfl,HS.out,hbrN,by omega,hc0,bel⟩
     case measure=>simp[msr,intOf];omega
   ·have hgtI:(t:Int)*(d0:Int)≤(sm:Int):=by rw[←Int.natCast_mul];omega
    have hfin:=Z2 hI (by rw[hsm];omega);have HF:Hid _:=hfin;have hgd:decide ((sm:Int)< (t:Int)*(d0:Int))=false:=by rw[decide_eq_false_iff_not];omega
    clear hbig hsm hgt hfin hI
    go_wp2
    go_ret
    exact⟨t,by first|rfl| (rw[Ap hbN];rfl),hbN,HI.out.2,HF.out,bel⟩
def cC (c:Int)(t:ak):ak×Int:=if c=0 then bU t else(⟨false,0,0⟩,c)
theorem gN {t:ak}(h:t.n≠0):(bare t).n≠0∧(bare t).e=t.e+(tz t.n:Int)∧(bare t).e+(bitLen (bare t).n:Int)=t.e+(bitLen t.n:Int):=by
 obtain⟨m,hm⟩:=fO h;have e:(bare t).n=2*m+1∧(bare t).e=t.e+(tz t.n:Int):=by
  unfold bare;rw[if_neg h];exact⟨lI hm,rfl⟩
 have hb:bitLen t.n=tz t.n+bitLen (2*m+1):=by
  have:=Ad (2*m+1) (tz t.n) (by omega)
  rwa [←hm] at this
 refine⟨by omega,e.2, ?_⟩;rw[e.1,e.2,hb];omega
theorem fI (a:ak):(bare a).n=0↔a.n=0:=by
 by_cases h:a.n=0
 ·unfold bare
  rw[if_pos h];exact⟨fun _=>h,fun _=>rfl⟩
 ·unfold bare
  rw[if_neg h];obtain⟨m,hm⟩:=fO h;have:=lI hm;exact⟨fun h2=>by simp only at h2;omega,fun h2=>absurd h2 h⟩
def RVG (w:World)(c:Int)(g:Bool)(t:ak)(fl:Int)(z:Ending)(w':World):Prop:=
 ∃s,z= .returned (.tuple #[yoV c g t.s s t.e,yi fl])∧Rd w' .i64 s (Dg.dg 65536 t.n)∧Far w.heap.size s∧yB w w'
theorem kR (t:ak):(bare t).n≤t.n:=by
 unfold bare
 split
 ·exact Nat.zero_le _
 ·exact Nat.div_le_self _ _
theorem Xw {c:Int}(h: ¬c=0)(t:ak):cC c t=(⟨false,0,0⟩,c):=if_neg h
theorem wK {t:ak}(h1:(Dg.dg 4294967296 (bare t).n).length≤1200)(h2: -20000≤(bare t).e)(h3:(bare t).e≤20000):bU t=(bare t,0):=by
 unfold bU;rw[if_neg (by omega),if_neg (by omega)]
theorem wI {c:Int}{t r:ak}(h:cC c t=(r,0)):r=bare t∧aS (Dg.dg 4294967296 r.n) r.e=0:=by
 unfold cC at h
 by_cases h0:c=0
 ·rw[if_pos h0] at h
  unfold bU at h
  by_cases h1:1200< (Dg.dg 4294967296 (bare t).n).length
  ·rw[if_pos h1] at h
   simp at h
  ·rw[if_neg h1] at h
   by_cases h2:(bare t).e< -20000∨20000< (bare t).e
   ·rw[if_pos h2] at h
    simp at h
   ·rw[if_neg h2] at h
    simp only[Prod.mk.injEq,and_true] at h;subst h;have hn:=Dg.norm_dg 4294967296 (bare t).n (by omega);refine⟨rfl, ?_⟩;unfold aS;rw[if_pos (pJ hn (by omega)),if_neg h2]
 ·rw[if_neg h0] at h
  simp only[Prod.mk.injEq] at h;exact absurd h.2 h0
theorem Hm (zs:List Nat)(hs:Dg.Small 256 zs):jr (cF zs)=zs:=by
 unfold jr cF;apply List.ext_getElem (by simp);intro p hp1 hp2;have h:=hs p;rw[List.getD_eq_getElem?_getD,List.getElem?_eq_getElem hp2,Option.getD_some] at h;simp;exact h
theorem fS (zs : List Nat) : (cF zs).size = zs.length := by
 unfold cF
 show (zs.map (fun n => UInt8.ofNat n)).toArray.size = _
 simp
theorem AE {t:ak}(h0:t.n≠0):(Dg.dg 65536 (bare t).n).length≤(Dg.dg 65536 t.n).length∧t.e≤(bare t).e∧(bare t).e≤t.e+(bitLen t.n:Int):=by
 obtain⟨-,h2,h3⟩:=gN h0;refine⟨IZ (kR t),by omega,by omega⟩
theorem qr {s:Bool}{n:Nat}{e:Int}(h:n≠0):(bare ⟨s,n,e⟩).s=s:=by
 unfold bare;rw[if_neg h]
theorem NQ {s:Bool}{a:ak}(h:a.n≠0)(hs:a.s=s):(⟨s,(bare a).n,(bare a).e⟩:ak)=bare a:=by
 unfold bare;rw[if_neg h,←hs]
theorem nj {k:Nat}(hk:1≤k∧k≤8){s:ByteArray}(h:s.size=szN k):dF k s=0:=by
 have hf:dK k≠0:=by
  rcases bO hk with rfl|rfl|rfl|rfl|rfl|rfl|rfl|rfl<;>decide
 unfold dF;rw[if_neg hf,Int.toNat_natCast,if_pos h]
theorem uR (s:Bool)(e:Int):bU ⟨s,0,e⟩=(⟨false,0,0⟩,0):=by
 have hb:bare ⟨s,0,e⟩=⟨false,0,0⟩:=by simp[bare]
 unfold bU;rw[hb];simp only;rw[show Dg.dg 4294967296 0=[] from(Dg.dg_nil_iff _ _ (by omega)).2 rfl]
 rfl
theorem zd {k:Nat}(hk:1≤k∧k≤8){ng:Bool}{E F:Nat}(hc:dh k ng E F=1):ji k ng E F=⟨false,0,0⟩:=by
 have key: ∀(s:Bool) (e:Int),bare ⟨s,0,e⟩=⟨false,0,0⟩:=fun s e=>by simp[bare]
 have h2:2≤2^exN k:=by
  rcases bO hk with rfl|rfl|rfl|rfl|rfl|rfl|rfl|rfl<;>decide
 unfold dh at hc;unfold ji
 by_cases h3:k≤3
 ·rw[if_pos h3] at hc
  by_cases he:E=0
  ·rw[if_pos he] at hc
   by_cases hf:F=0
   ·subst he hf
    by_cases h4:k=3
    ·rw[if_pos h4,if_neg (by rintro(h|h)<;>omega)]
     exact key _ _
    ·rw[if_neg h4,if_pos (by omega),if_neg (by omega),if_neg (by omega)]
     exact key _ _
   ·rw[if_neg hf] at hc
    omega
  ·rw[if_neg he] at hc
   exfalso
   repeat' split at hc
   all_goals omega
 ·rw[if_neg h3] at hc
  rw[if_neg (show¬k=3 by omega),if_neg (show¬k≤2 by omega)]
  by_cases h5:k≤5
  ·rw[if_pos h5] at hc⊢
   by_cases hf:F=0
   ·subst hf
    exact key _ _
   ·rw[if_neg hf] at hc
    omega
  ·rw[if_neg h5] at hc⊢
   by_cases he:E=0
   ·rw[if_pos he]
   ·rw[if_neg he] at hc
    omega
theorem Gx {K N1 M1 N2 M2:Nat}{E1 E2 n:Int}(k1: -(K:Int)≤E1)(k2: -(K:Int)≤E2)(h:LeQ K N1 M1 E1 N2 M2 E2):eZ N1 (E1-n)*dX M2 (E2-n)≤eZ N2 (E2-n)*dX M1 (E1-n):=by
 rw[fw,fw,eM,eM];unfold LeQ at h;have e:(E1-n).toNat+(-(E2-n)).toNat+(E2+K).toNat=(E2-n).toNat+(-(E1-n)).toNat+(E1+K).toNat:=by omega
 have e2:=congrArg (fun x=>(2:Nat)^x) e
 simp only[CL] at e2;have p1:=bG (E1+K).toNat;have p2:=bG (E2+K).toNat;generalize(2:Nat)^ (E1-n).toNat=a at*;generalize(2:Nat)^ (-(E2-n)).toNat=b at*;generalize(2:Nat)^ (E2-n).toNat=c at*;generalize(2:Nat)^ (-(E1-n)).toNat=d at*;generalize(2:Nat)^ (E1+K).toNat=P1 at*;generalize(2:Nat)^ (E2+K).toNat=P2 at*;refine Nat.le_of_mul_le_mul_right (c:=P1*P2) ?_ (Nat.mul_pos p1 p2);have g1:N1*M2*P1*(a*b*P2)≤N2*M1*P2*(a*b*P2):=Nat.mul_le_mul_right _ h;have g2:N1*a*(M2*b)*(P1*P2)=N1*M2*P1*(a*b*P2):=by ac_rfl
 have g3:N2*c*(M1*d)*(P1*P2)=N2*M1*P2*(c*d*P1):=by ac_rfl
 rw[g2,g3,←e2];exact g1
theorem jO {M:Nat}(h:M≠0)(n:Int):0<dX M n:=by
 rw[eM];exact Nat.mul_pos (by omega) (bG _)
theorem Fm {k:Nat}(hk:1≤k∧k≤8){ng:Bool}{E F:Nat}(hc:dh k ng E F≠2):ji k ng E F=⟨false,0,0⟩:=by
 by_cases h1:dh k ng E F=1
 ·exact zd hk h1
 have h2:2^exN k=kp k+1:=by
  rcases bO hk with rfl|rfl|rfl|rfl|rfl|rfl|rfl|rfl<;>decide
 have h63:k=3→2^ (dgN k-1)=2^63:=fun h=>by subst h;rfl
 unfold dh at hc h1;unfold ji
 by_cases h3:k≤3
 ·rw[if_pos h3] at hc h1
  by_cases he:E=0
  ·rw[if_pos he] at hc h1
   by_cases hf:F=0
   ·rw[if_pos hf] at h1
    exact absurd rfl h1
   ·rw[if_neg hf] at hc
    exact absurd rfl hc
  ·rw[if_neg he] at hc
   by_cases ho:E=kp k
   ·by_cases h4:k=3
    ·rw[if_pos h4,if_pos (.inl (by omega))]
    ·rw[if_neg h4,if_pos (by omega),if_pos (by omega)]
   ·rw[if_neg ho] at hc
    by_cases h4:k=3∧F<2^63
    ·rw[if_pos h4.1,if_pos (.inr ⟨by omega,by rw[h63 h4.1];exact h4.2⟩)]
    ·rw[if_neg h4] at hc
     exact absurd rfl hc
 ·rw[if_neg h3] at hc h1
  rw[if_neg (show¬k=3 by omega),if_neg (show¬k≤2 by omega)]
  by_cases h5:k≤5
  ·rw[if_pos h5] at hc h1
   by_cases hf:F=0
   ·rw[if_pos hf] at h1
    exact absurd rfl h1
   ·rw[if_neg hf] at hc
    exact absurd rfl hc
  ·rw[if_neg h5] at hc⊢
   by_cases he:E=0
   ·rw[if_pos he]
   ·rw[if_neg he] at hc
    exact absurd rfl hc
def bJ (a b:ak):Int:=dJ (aG a (dV b))
def hiI (x:Nat→ak):Nat→Nat
 |0=>0
 |i+1=>if 0<bJ (x (i+1)) (x (hiI x i)) then i+1 else hiI x i
theorem ZB.off {w w':World}{q b:Nat}(h:ZB w q)(hg:w.grownBy w' (some b))(hne:q≠b):ZB w' q:=by
 obtain⟨hl,ty,hh⟩:=h;exact⟨Nat.lt_of_lt_of_le hl hg.size,ty,(hg.block q hl (by intro e;cases e;exact hne rfl)).trans hh⟩
theorem ZB6.off {w w':World}{q b:Nat}(h:ZB6 w q)(hg:w.grownBy w' (some b))(hne:q≠b):ZB6 w' q:=by
 obtain⟨hl,ty,hh⟩:=h;exact⟨Nat.lt_of_lt_of_le hl hg.size,ty,(hg.block q hl (by intro e;cases e;exact hne rfl)).trans hh⟩
theorem bare_0 {t:ak}(h:t.n=0):bare t=⟨false,0,0⟩:=if_pos h
theorem tz_bits {m k:Nat}(h0:m≠0)(h:m<2^k):tz m≤k:=by
 obtain⟨b1,t2,t3⟩:=gN (t:=⟨false,m,0⟩) h0;have hb:=bF m k h;simp only at t2 t3;have:(0:Int)≤(bitLen (bare ⟨false,m,0⟩).n:Int):=by omega
 omega
theorem decS_le {n k:Nat}(h:n<10^k)(hk:1≤k):(oW n).size≤k:=by
 unfold oW
 split
 ·exact hk
 ·rw[fS,List.length_reverse,List.length_map]
  exact Dg.dg_len_le 10 n k (by omega) h
def dcW (x:ak):Nat:=scA x.n x.e (60-dcG x)/scB x.e (60-dcG x)
def dcL (x:ak):Bool:=decide (0< (Dg.dg 4294967296 (scA x.n x.e (60-dcG x) % scB x.e (60-dcG x))).length)
def dcH (x:ak):Nat:=if dcL x=true then dcW x*2+1 else dcW x*2
def dcC (x:ak):Nat:=(oW (dcW x)).size
def dcP (x:ak):Int:=dcG x+(dcC x:Int)-1-60
theorem dc_in {x:ak}(hx:x.n<2^64)(e1: -16500≤x.e)(e2:x.e≤16500)(h0:x.n≠0):(-5000≤dcG x∧dcG x≤5000)∧(∃c,c=36964∧dcW x<2^c)∧dcC x≤36964:=by
 have hb:=bF x.n 64 hx;have hb1:=Gq h0;have hG: -5000≤dcG x∧dcG x≤5000:=pb_in (by omega) (by omega);obtain⟨a,ha⟩: ∃a,a=64:=⟨_,rfl⟩;obtain⟨c,hc⟩: ∃c,c=36964:=⟨_,rfl⟩;rw[←ha] at hx;have hW:dcW x<2^c:=Nat.lt_of_le_of_lt (Nat.div_le_self _ _) (sc_in ha hc hx e2 (n:=60-dcG x) (by omega)).1;refine⟨hG,⟨c,hc,hW⟩, ?_⟩;rw[←hc];exact decS_le (Nat.lt_of_lt_of_le hW (Nat.pow_le_pow_left (by omega) c)) (by omega)
theorem dc_many {x:ak}(hx:x.n<2^64)(e1: -16500≤x.e)(e2:x.e≤16500)(h0:x.n≠0):10^60≤dcW x:=by
 have hb:=bF x.n 64 hx;have hb1:=Gq h0;have hxb:2^ (bitLen x.n-1)≤x.n:=(uB x.n h0).2.1;obtain⟨b,hbb⟩: ∃b,bitLen x.n-1=b:=⟨_,rfl⟩;rw[hbb] at hxb;have hnb:(bitLen x.n:Int)-1+x.e=(b:Int)+x.e:=by omega
 have key:=pb_key (n:=(b:Int)+x.e) (by omega) (by omega);have hG:dcG x=pbV ((b:Int)+x.e):=by unfold dcG;rw[hnb]
 unfold dcW;rw[hG];have hr:=pb_in (n:=(b:Int)+x.e) (by omega) (by omega);generalize pbV ((b:Int)+x.e)=g at key hr⊢;obtain⟨gp,h1⟩: ∃k,g.toNat=k:=⟨_,rfl⟩;obtain⟨gm,h2⟩: ∃k,(-g).toNat=k:=⟨_,rfl⟩;obtain⟨np,h3⟩: ∃k,((b:Int)+x.e).toNat=k:=⟨_,rfl⟩;obtain⟨nm,h4⟩: ∃k,(-((b:Int)+x.e)).toNat=k:=⟨_,rfl⟩;rw[h1,h2,h3,h4] at key;unfold scA scB;rw[Nat.le_div_iff_mul_le (Nat.mul_pos (Nat.pow_pos (by omega)) (Nat.pow_pos (by omega)))];obtain⟨up,h5⟩: ∃k,(60-g).toNat=k:=⟨_,rfl⟩;obtain⟨um,h6⟩: ∃k,(-(60-g)).toNat=k:=⟨_,rfl⟩;obtain⟨tp,h7⟩: ∃k,(x.e+(60-g)).toNat=k:=⟨_,rfl⟩;obtain⟨tm,h8⟩: ∃k,(-(x.e+(60-g))).toNat=k:=⟨_,rfl⟩;rw[h5,h6,h7,h8];refine Nat.le_trans ?_ (Nat.mul_le_mul_right _ (Nat.mul_le_mul_right _ hxb));have a1:60+um+gm=up+gp:=by omega
 have a2:60+tm+np+gm=b+tp+gp+nm:=by omega
 clear h1 h2 h3 h4 h5 h6 h7 h8 hr;refine Nat.le_of_mul_le_mul_right (c:=2^np*10^gm) (Nat.le_trans (Nat.le_of_eq ?_) (Nat.mul_le_mul_left _ key)) (Nat.mul_pos (Nat.pow_pos (by omega)) (Nat.pow_pos (by omega)));rw[ten_parts 60,ten_parts gm,ten_parts gp];have l:2^60*5^60*(5^um*2^tm)*(2^np*(2^gm*5^gm))=2^ (60+tm+np+gm)*5^ (60+um+gm):=by
  simp only[Nat.pow_add]
  ac_rfl
 have r:2^b*5^up*2^tp*(2^gp*5^gp*2^nm)=2^ (b+tp+gp+nm)*5^ (up+gp):=by
  simp only[Nat.pow_add]
  ac_rfl
 rw[l,r,a1,a2]
def prN (H C:Nat)(P:Int)(k:Nat):Int:=if k< (oW (prQ H C k)).size then P+1 else P
def prR (g:Bool)(H C:Nat)(P:Int)(k:Nat):ByteArray:=tpS g (oW (prQ H C k)) k ⟨(Lib.itoa (prN H C P k)).toArray⟩
theorem decS_one (n:Nat):1≤(oW n).size:=by
 unfold oW
 split
 ·exact Nat.le_refl _
 ·rename_i h
  rw[fS,List.length_reverse,List.length_map]
  rcases Nat.eq_zero_or_pos (Dg.dg 10 n).length with c|c
  ·exact absurd ((Dg.dg_nil_iff 10 _ (by omega)).1 (List.length_eq_zero_iff.1 c)) h
  ·exact c
theorem decS_big {W:Nat}:W<10^ (oW W).size:=by
 unfold oW
 split
 ·rename_i h
  subst h;exact Nat.pow_pos (by omega)
 ·rw[fS,List.length_reverse,List.length_map]
  have:=Dg.vl_lt 10 (Dg.dg 10 W) (Dg.small_dg _ _ (by omega));rw[Dg.vl_dg _ _ (by omega)] at this;exact this
theorem dc_all {x:ak}(hx:x.n<2^64)(e1: -16500≤x.e)(e2:x.e≤16500)(h0:x.n≠0):dcH x<2*10^dcC x∧dcC x≤37000∧60≤dcC x∧ -100000≤dcP x∧dcP x≤100000:=by
 obtain⟨⟨g1,g2⟩,-,hC⟩:=dc_in hx e1 e2 h0;have hW:dcW x<10^dcC x:=decS_big;have hm:=dc_many hx e1 e2 h0;have h60:60≤dcC x:=by
  rcases Nat.lt_or_ge (dcC x) 60 with c|c
  ·exact absurd (Nat.lt_of_lt_of_le hW (Nat.pow_le_pow_right (by omega) (Nat.le_of_lt c))) (Nat.not_lt_of_le hm)
  ·exact c
 refine⟨?_,by omega,h60, ?_, ?_⟩
 ·unfold dcH
  split<;>omega
 ·unfold dcP
  omega
 ·unfold dcP
  omega
theorem strOf_size8 (l:List Nat):(cF l).size=l.length:=by simp[cF,ByteArray.size]
theorem EY (c:Nat)(l:List Nat):cF [c]++cF l=cF (c::l):=by
 apply ByteArray.ext;simp[cF]
theorem EZ (l:List Nat)(a:Nat):(cF l).extract a (cF l).size=cF (l.drop a):=by
 apply ByteArray.ext;rw[strOf_size8,ByteArray.data_extract];simp[cF,List.map_drop];exact List.take_of_length_le (by simp)
theorem Pu {n m:Nat}{ds:List Nat}(h:L5 n ds m):Xy n (m/10000) ds 0 (m % 10000):=by
 refine⟨h.1,by omega,by simp;omega, ?_⟩;rw[h.2];have:m % 10000+10^ (4-0)*(m/10000)=m:=by simpa using Nat.mod_add_div m 10000
 rw[this]
theorem IA {n m:Nat}{ds:List Nat}{j g:Nat}(h:Xy n m ds j g)(hj:j<4):Xy n m (ds++[g % 10]) (j+1) (g/10):=by
 obtain⟨h1,h2,h3,h4⟩:=h;have e:4-j=(4-(j+1))+1:=by omega
 rw[e,Nat.pow_succ] at h3 h4;refine⟨qP h1 (Nat.mod_lt _ (by omega)),by omega,by omega, ?_⟩;rw[Dg.vl_append];simp only[Dg.vl,List.length_append,List.length_cons,List.length_nil,Nat.pow_succ];rw[h4];generalize 10^ (4-(j+1))=p at*;have e2:g+p*10*m=g % 10+10*(g/10+p*m):=by
  have:=Nat.mod_add_div g 10;rw[Nat.mul_add,Nat.mul_comm p 10,Nat.mul_assoc];omega
 rw[e2,Nat.mul_add];simp only[Nat.mul_zero,Nat.add_zero];rw[Nat.mul_assoc];omega
theorem Mf {n m:Nat}{ds:List Nat}{g:Nat}(h:Xy n m ds 4 g):L5 n ds m:=by
 obtain⟨h1,h2,h3,h4⟩:=h;have:g=0:=by simpa using h3
 subst this;exact⟨h1,by simpa using h4⟩
theorem Cj (l:List Nat)(i:Nat)(h:i< (cF l).size)(hl: ∀j,l.getD j 0<256):((cF l)[i]'h).toNat=l.getD i 0:=by
 have h1:i<l.length:=by rw[strOf_size8] at h;exact h
 have:=hl i;simp only[List.getD_eq_getElem?_getD,List.getElem?_eq_getElem h1,Option.getD_some] at this⊢
 show((cF l).data[i]).toNat=_
 simp[cF,Nat.mod_eq_of_lt this]
def afk (w:World)(L n m:Nat)(av sv:Value)(wr:World):Prop:=
 ∃(ds:List Nat) (S:ByteArray),Rd wr .i64 av (Dg.dg 65536 m)∧sv= .string S∧Hid (S=cF (txt ds))∧L5 n ds m∧ds.length≤16*L∧(Dg.dg 65536 m).length≤L∧yB w wr
def acY (w w1:World)(n m base0:Nat)(sv gv jv:Value)(wr:World):Prop:=
 ∃(ds:List Nat) (S:ByteArray) (j g:Nat),gv=yi ((g:Nat):Int)∧jv=yi ((j:Nat):Int)∧j≤4∧ds.length=base0+j∧g<10000∧sv= .string S∧Hid (S=cF (txt ds))∧S.size=base0+j∧Xy n m ds j g∧yB w wr∧yB w1 wr
theorem decS_low {W:Nat}(h:W≠0):10^ ((oW W).size-1)≤W:=by
 unfold oW;rw[if_neg h,fS,List.length_reverse,List.length_map];have:=Dg.vl_ge 10 (Dg.dg 10 W) (fun c=>h ((Dg.dg_nil_iff 10 _ (by omega)).1 c)) (Dg.norm_dg _ _ (by omega))
 rwa [Dg.vl_dg _ _ (by omega)] at this
def dgS (x:ak)(k:Nat):ByteArray:=if k< (oW (prQ (dcH x) (dcC x) k)).size then(oW (prQ (dcH x) (dcC x) k)).extract 0 k else oW (prQ (dcH x) (dcC x) k)
theorem decS_list (n:Nat):oW n=⟨(Lib.decDigits n).toArray⟩:=by
 unfold oW
 by_cases h:n=0
 ·subst h
  rw[if_pos rfl,Lib.decDigits_one (by omega)];rfl
 ·rw[if_neg h]
  unfold cF;rw[dec_list n h]
theorem dcH_low {x:ak}(hx:x.n<2^64)(e1: -16500≤x.e)(e2:x.e≤16500)(h0:x.n≠0):2*10^ (dcC x-1)≤dcH x:=by
 have hm:=dc_many hx e1 e2 h0;have hT:0<10^60:=Nat.pow_pos (by omega);have h1:10^ (dcC x-1)≤dcW x:=decS_low (by omega);unfold dcH
 split<;>omega
theorem T9 (l:List Nat)(i:Nat)(hl: ∀j,l.getD j 0<256):byt (cF l) i=l.getD i 0:=by
 by_cases h:i<l.length
 ·rw[←KD (cF l) i (by rw[strOf_size8];exact h)]
  exact Cj l i _ hl
 ·unfold byt
  rw[getElem?_neg _ _ (by rw[strOf_size8];exact h),Dg.getD_of_le _ _ (by omega)];rfl
theorem XM {N:Nat}(h:N≠0):oW N=cF (txt (Dg.dg 10 N)):=by unfold oW;rw[if_neg h];rfl
theorem Ub:oW 0=cF (txt [0]):=rfl
theorem bits_fit {k:Nat}(hk:1≤k∧k≤8):2^ (ai (rdN k)*dgN k)<10^ (21-1):=by
 rcases bO hk with rfl|rfl|rfl|rfl|rfl|rfl|rfl|rfl<;>decide
end Go.Proofs.YtlgkfdcmokchgaaGreatDoor

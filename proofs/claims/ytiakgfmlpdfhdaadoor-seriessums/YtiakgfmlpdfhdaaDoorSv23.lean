/-
  Texts laid together: Ref4.
-/
import Derived.Test.YtiakgfmlpdfhdaaDoorSv08
import Derived.Test.YtiakgfmlpdfhdaaDoorSv13
set_option maxRecDepth 100000
set_option maxHeartbeats 3200000
namespace Go.Proofs.YtiakgfmlpdfhdaaDoor
open Go.RowKit
theorem ew (va vb:Value)(xs ys:List Nat)(w:World)(ha:Rd w .i64 va xs)(hb:Rd w .i64 vb ys)(sa:Dg.Small 65536 xs)(sb:Dg.Small 65536 ys)(na:Dg.Norm xs)(nb:Dg.Norm ys)(hla:xs.length≤2000000)(hlb:ys.length≤2000000):
  yC 34 #[va,vb] w (cG w (Dg.vl 65536 xs+Dg.vl 65536 ys)):=by
 obtain⟨ao,ca,rfl,-,-,hca⟩:=ha;obtain⟨bo,cb,rfl,-,-,hcb⟩:=hb;obtain⟨i0,hi,hz0,hz1,hz2⟩:=info_parts Tryd.infoI64
 go_enter Tryd.func34,Tryd.ntmps34
 go_wp2
 go_loopw [5,6,7] (fun ov cv iv wr=> ∃(k c:Nat) (ps:List Nat),k≤2000001∧(2000000<k→c=0)∧iv=yi k∧cv=yi c∧Own wr w.heap.size 3 .i64 ov ps∧abk xs ys ps k c∧yB w wr) (fun _ _ iv _=>2000002-(intOf iv).toNat)
 case atStart=>exact⟨0,0,[],by omega,fun _=>rfl,rfl,rfl,aQ _ _ _ _,⟨rfl,Dg.small_nil _ (by omega),by omega,by simp[Dg.vl],fun h=>by omega⟩,Below.refl _ _⟩
 case round=>
  obtain⟨k,c,ps,hk,hkc,rfl,rfl,own,hI,bel⟩:=hrel;have hcl:=hI.2.2.1;have hpl:=hI.1;have hbs:=bel.size
  by_cases hcond:k<xs.length∨k<ys.length∨0<c
  ·have hk2:k≤2000000:=by
    rcases Nat.lt_or_ge 2000000 k with h|h
    ·have:=hkc h;omega
    ·exact h
   have hxl:=sa k;have hyl:=sb k;have hx0: ¬k<xs.length→xs.getD k 0=0:=fun h=>Dg.getD_of_le _ _ (by omega)
   have hy0: ¬k<ys.length→ys.getD k 0=0:=fun h=>Dg.getD_of_le _ _ (by omega)
   have hst:=fun t ht=>UL hI na nb sa sb hcond t ht
   have hnc:2000000<k+1→(c+xs.getD k 0+ys.getD k 0)/65536=0:=fun h=>by
    rw[hx0 (by omega),hy0 (by omega)];omega
   have hcx:k<xs.length→ ∃b off,ao=some ⟨b,off,none⟩∧wr.cell? ⟨b,off+k,none⟩=some (yi ((xs.getD k 0:Nat):Int)):=fun h=>by
    obtain⟨b,off,e,hcell⟩:=hca (by omega);exact⟨b,off,e,cell_later bel (hcell k h)⟩
   have hcy:k<ys.length→ ∃b off,bo=some ⟨b,off,none⟩∧wr.cell? ⟨b,off+k,none⟩=some (yi ((ys.getD k 0:Nat):Int)):=fun h=>by
    obtain⟨b,off,e,hcell⟩:=hcb (by omega);exact⟨b,off,e,cell_later bel (hcell k h)⟩
   obtain⟨x,ex⟩: ∃x,xs.getD k 0=x:=⟨_,rfl⟩;obtain⟨y,ey⟩: ∃y,ys.getD k 0=y:=⟨_,rfl⟩;rw[ex] at hxl hx0 hst hnc hcx;rw[ey] at hyl hy0 hst hnc hcy;have hst:=hst _ rfl;have Hst:Hid _:=hst;have Hpl:Hid _:=hpl;have Hnc:Hid _:=hnc;have hpl2:ps.length≤2000000:=by omega
   clear ex ey hca hcb hI hst hkc hpl hnc;have fin: ∀(T:Int),T=((c+x+y:Nat):Int)→ ∀v' w3,w3.ownsRow w.heap.size 3 1 v' (ps.length+1) ((ps.map (fun n:Nat=>Value.int .i64 (n:Int)))++[yi (T % 65536)])→(wr.alloc (.cells #[yi (T % 65536)] 3)).grownBy w3 (Value.ownBlock u5)→
     Own w3 w.heap.size 3 .i64 v' (ps++[(c+x+y) % 65536])∧yB w w3:=by
    intro T hT v' w3 h1 h2;have e0:T % 65536=(((c+x+y) % 65536:Nat):Int):=by omega
    rw[e0] at h1 h2;exact iW bel own h1 h2
   by_cases h1:k<xs.length
   ·obtain⟨b,off,rfl,hcell⟩:=hcx h1
    by_cases h2:k<ys.length
    ·obtain⟨b2,off2,rfl,hcell2⟩:=hcy h2
     clear hcx hcy hx0 hy0 hcond
     go_wp2_with (at_builtin;refine wpList_append_own _ rfl _ _ 34 rfl w.heap.size 3 i0 (yi 0) 1 8 Tryd.underlying34 hi hz0 hz1 hz2 rfl (by decide) _ _ _ rfl (World.ownsRow.alloc own _) ⟨wr.heap.size,0,none⟩ 1 1 [yi (((c:Int)+(x:Int)+(y:Int)) % 65536)] rfl rfl ?c1 ?c2 ?c3 ?c4 ?c5 ?_)
     case c1=>exact cell_one_new _ _ _
     case c2=>intro u hu;simp at hu;subst hu;rfl
     case c3=>unfold maxLen;omega
     case c4=>omega
     case c5=>simp;omega
     intro v' w3 hown' hgrow _;have R:=fin _ (by omega) v' w3 hown' hgrow;clear hown' hgrow own fin
     go_wp2
     go_roundw
     case rel=>exact⟨k+1,(c+x+y)/65536,_,by omega,fun h=>Hnc.out (by omega),by go_num,by go_num,R.1,Hst.out,R.2⟩
     case measure=>simp[intOf];omega
    ·have hy:=hy0 h2
     subst hy;clear hcx hcy hx0 hy0 hcond
     go_wp2_with (at_builtin;refine wpList_append_own _ rfl _ _ 34 rfl w.heap.size 3 i0 (yi 0) 1 8 Tryd.underlying34 hi hz0 hz1 hz2 rfl (by decide) _ _ _ rfl (World.ownsRow.alloc own _) ⟨wr.heap.size,0,none⟩ 1 1 [yi (((c:Int)+(x:Int)) % 65536)] rfl rfl ?d1 ?d2 ?d3 ?d4 ?d5 ?_)
     case d1=>exact cell_one_new _ _ _
     case d2=>intro u hu;simp at hu;subst hu;rfl
     case d3=>unfold maxLen;omega
     case d4=>omega
     case d5=>simp;omega
     intro v' w3 hown' hgrow _;have R:=fin _ (by omega) v' w3 hown' hgrow;clear hown' hgrow own fin
     go_wp2
     go_roundw
     case rel=>exact⟨k+1,_,_,by omega,fun h=>Hnc.out (by omega),by go_num,by go_num,R.1,Hst.out,R.2⟩
     case measure=>simp[intOf];omega
   ·have hx:=hx0 h1
    subst hx
    by_cases h2:k<ys.length
    ·obtain⟨b2,off2,rfl,hcell2⟩:=hcy h2
     clear hcx hcy hx0 hy0 hcond
     go_wp2_with (at_builtin;refine wpList_append_own _ rfl _ _ 34 rfl w.heap.size 3 i0 (yi 0) 1 8 Tryd.underlying34 hi hz0 hz1 hz2 rfl (by decide) _ _ _ rfl (World.ownsRow.alloc own _) ⟨wr.heap.size,0,none⟩ 1 1 [yi (((c:Int)+(y:Int)) % 65536)] rfl rfl ?e1 ?e2 ?e3 ?e4 ?e5 ?_)
     case e1=>exact cell_one_new _ _ _
     case e2=>intro u hu;simp at hu;subst hu;rfl
     case e3=>unfold maxLen;omega
     case e4=>omega
     case e5=>simp;omega
     intro v' w3 hown' hgrow _;have R:=fin _ (by omega) v' w3 hown' hgrow;clear hown' hgrow own fin
     go_wp2
     go_roundw
     case rel=>exact⟨k+1,_,_,by omega,fun h=>Hnc.out (by omega),by go_num,by go_num,R.1,Hst.out,R.2⟩
     case measure=>simp[intOf];omega
    ·have hy:=hy0 h2
     subst hy;have hc0:0<c:=by omega
     clear hcx hcy hx0 hy0 hcond
     go_wp2_with (at_builtin;refine wpList_append_own _ rfl _ _ 34 rfl w.heap.size 3 i0 (yi 0) 1 8 Tryd.underlying34 hi hz0 hz1 hz2 rfl (by decide) _ _ _ rfl (World.ownsRow.alloc own _) ⟨wr.heap.size,0,none⟩ 1 1 [yi (((c:Int)) % 65536)] rfl rfl ?f1 ?f2 ?f3 ?f4 ?f5 ?_)
     case f1=>exact cell_one_new _ _ _
     case f2=>intro u hu;simp at hu;subst hu;rfl
     case f3=>unfold maxLen;omega
     case f4=>omega
     case f5=>simp;omega
     intro v' w3 hown' hgrow _;have R:=fin _ (by omega) v' w3 hown' hgrow;clear hown' hgrow own fin
     go_wp2
     go_roundw
     case rel=>exact⟨k+1,_,_,by omega,fun h=>Hnc.out (by omega),by go_num,by go_num,R.1,Hst.out,R.2⟩
     case measure=>simp[intOf];omega
  ·have he:=Yx hI hcond
   have h1: ¬k<xs.length:=by omega
   have h2: ¬k<ys.length:=by omega
   have h3: ¬0<c:=by omega
   rw[he] at own;clear he hcond
   go_wp2
   go_ret
   exact⟨_,rfl,own.rd,bel⟩
theorem kI (va vb:Value)(xs ys:List Nat)(w:World)(ha:Rd w .i64 va xs)(hb:Rd w .i64 vb ys)(sa:Dg.Small 65536 xs)(sb:Dg.Small 65536 ys)(hla:xs.length≤2000000)(hlb:ys.length≤xs.length)(hv:Dg.vl 65536 ys≤Dg.vl 65536 xs):
  yC 33 #[va,vb] w (cG w (Dg.vl 65536 xs-Dg.vl 65536 ys)):=by
 obtain⟨ao,ca,rfl,-,-,hca⟩:=ha;obtain⟨bo,cb,rfl,-,-,hcb⟩:=hb;obtain⟨i0,hi,hz0,hz1,hz2⟩:=info_parts Tryd.infoI64;have HV:Hid _:=hv;clear hv
 go_enter Tryd.func33,Tryd.ntmps33
 go_wp2
 go_loopw [5,6,7] (fun ov cv iv wr=> ∃(k c:Nat) (ps:List Nat),k≤xs.length∧iv=yi k∧cv=yi c∧Own wr w.heap.size 3 .i64 ov ps∧QA xs ys ps k c∧yB w wr) (fun _ _ iv _=>xs.length-(intOf iv).toNat)
 case atStart=>exact⟨0,0,[],by omega,rfl,rfl,aQ _ _ _ _,⟨rfl,Dg.small_nil _ (by omega),by omega,by simp[Dg.vl]⟩,Below.refl _ _⟩
 case round=>
  obtain⟨k,c,ps,hk,rfl,rfl,own,hI,bel⟩:=hrel;have hcl:=hI.2.2.1;have hpl:=hI.1;have hbs:=bel.size
  by_cases hlt:k<xs.length
  ·obtain⟨b,off,rfl,hcella⟩:=hca (by omega)
   have hcell:=cell_later bel (hcella k hlt);have hxl:=sa k;have hyl:=sb k;have hy0: ¬k<ys.length→ys.getD k 0=0:=fun h=>Dg.getD_of_le _ _ (by omega)
   have hst: ∀d c',d<65536→c'≤1→xs.getD k 0+65536*c'=d+ys.getD k 0+c→QA xs ys (ps++[d]) (k+1) c':=fun d c' h1 h2 h3=>I1 hI h1 h2 h3
   have hcy:k<ys.length→ ∃b off,bo=some ⟨b,off,none⟩∧wr.cell? ⟨b,off+k,none⟩=some (yi ((ys.getD k 0:Nat):Int)):=fun h=>by
    obtain⟨b,off,e,hcell⟩:=hcb (by omega);exact⟨b,off,e,cell_later bel (hcell k h)⟩
   obtain⟨x,ex⟩: ∃x,xs.getD k 0=x:=⟨_,rfl⟩;obtain⟨y,ey⟩: ∃y,ys.getD k 0=y:=⟨_,rfl⟩;rw[ex] at hxl hst hcell;rw[ey] at hyl hy0 hst hcy;have Hst:Hid _:=hst;have Hpl:Hid _:=hpl;have hpl2:ps.length≤2000000:=by omega
   clear ex ey hca hcb hI hst hpl hcella;have fin: ∀(T:Int) (d:Nat),T=((d:Nat):Int)→ ∀v' w3,w3.ownsRow w.heap.size 3 1 v' (ps.length+1) ((ps.map (fun n:Nat=>Value.int .i64 (n:Int)))++[yi T])→(wr.alloc (.cells #[yi T] 3)).grownBy w3 (Value.ownBlock u5)→
     Own w3 w.heap.size 3 .i64 v' (ps++[d])∧yB w w3:=by
    intro T d hT v' w3 h1 h2;rw[hT] at h1 h2;exact iW bel own h1 h2
   by_cases h2:k<ys.length
   ·obtain⟨b2,off2,rfl,hcell2⟩:=hcy h2
    clear hcy hy0
    by_cases hneg:x<y+c
    ·have hneg2:((x:Int)-(c:Int)-(y:Int))<0:=by omega
     go_wp2_with (at_builtin;refine wpList_append_own _ rfl _ _ 34 rfl w.heap.size 3 i0 (yi 0) 1 8 Tryd.underlying34 hi hz0 hz1 hz2 rfl (by decide) _ _ _ rfl (World.ownsRow.alloc own _) ⟨wr.heap.size,0,none⟩ 1 1 [yi ((x:Int)-(c:Int)-(y:Int)+65536)] rfl rfl ?c1 ?c2 ?c3 ?c4 ?c5 ?_)
     try (case c1=>exact cell_one_new _ _ _)
     case c2=>first|rfl| (intro u hu;simp at hu;subst hu;rfl)| (simp;done)| (simp[Value.oneCell'];done)| (trace_state;fail)
     case c3=>unfold maxLen;omega
     case c4=>omega
     case c5=>first|omega| (simp;omega)
     intro v' w3 hown' hgrow _;have R:=fin _ (x+65536-y-c) (by omega) v' w3 hown' hgrow;clear hown' hgrow own fin
     go_wp2
     go_roundw
     case rel=>exact⟨k+1,1,_,by omega,by go_num,by go_num,R.1,Hst.out _ _ (by omega) (by omega) (by omega),R.2⟩
     case measure=>simp[intOf];omega
    ·have hneg2: ¬((x:Int)-(c:Int)-(y:Int))<0:=by omega
     go_wp2_with (at_builtin;refine wpList_append_own _ rfl _ _ 34 rfl w.heap.size 3 i0 (yi 0) 1 8 Tryd.underlying34 hi hz0 hz1 hz2 rfl (by decide) _ _ _ rfl (World.ownsRow.alloc own _) ⟨wr.heap.size,0,none⟩ 1 1 [yi ((x:Int)-(c:Int)-(y:Int))] rfl rfl ?d1 ?d2 ?d3 ?d4 ?d5 ?_)
     try (case d1=>exact cell_one_new _ _ _)
     case d2=>first|rfl| (intro u hu;simp at hu;subst hu;rfl)| (simp;done)| (simp[Value.oneCell'];done)| (trace_state;fail)
     case d3=>unfold maxLen;omega
     case d4=>omega
     case d5=>first|omega| (simp;omega)
     intro v' w3 hown' hgrow _;have R:=fin _ (x-y-c) (by omega) v' w3 hown' hgrow;clear hown' hgrow own fin
     go_wp2
     go_roundw
     case rel=>exact⟨k+1,0,_,by omega,by go_num,by go_num,R.1,Hst.out _ _ (by omega) (by omega) (by omega),R.2⟩
     case measure=>simp[intOf];omega
   ·have hy:=hy0 h2
    subst hy;clear hcy hy0
    by_cases hneg:x<c
    ·have hneg2:((x:Int)-(c:Int))<0:=by omega
     go_wp2_with (at_builtin;refine wpList_append_own _ rfl _ _ 34 rfl w.heap.size 3 i0 (yi 0) 1 8 Tryd.underlying34 hi hz0 hz1 hz2 rfl (by decide) _ _ _ rfl (World.ownsRow.alloc own _) ⟨wr.heap.size,0,none⟩ 1 1 [yi ((x:Int)-(c:Int)+65536)] rfl rfl ?e1 ?e2 ?e3 ?e4 ?e5 ?_)
     try (case e1=>exact cell_one_new _ _ _)
     case e2=>first|rfl| (intro u hu;simp at hu;subst hu;rfl)| (simp;done)| (simp[Value.oneCell'];done)| (trace_state;fail)
     case e3=>unfold maxLen;omega
     case e4=>omega
     case e5=>first|omega| (simp;omega)
     intro v' w3 hown' hgrow _;have R:=fin _ (x+65536-c) (by omega) v' w3 hown' hgrow;clear hown' hgrow own fin
     go_wp2
     go_roundw
     case rel=>exact⟨k+1,1,_,by omega,by go_num,by go_num,R.1,Hst.out _ _ (by omega) (by omega) (by omega),R.2⟩
     case measure=>simp[intOf];omega
    ·have hneg2: ¬((x:Int)-(c:Int))<0:=by omega
     go_wp2_with (at_builtin;refine wpList_append_own _ rfl _ _ 34 rfl w.heap.size 3 i0 (yi 0) 1 8 Tryd.underlying34 hi hz0 hz1 hz2 rfl (by decide) _ _ _ rfl (World.ownsRow.alloc own _) ⟨wr.heap.size,0,none⟩ 1 1 [yi ((x:Int)-(c:Int))] rfl rfl ?f1 ?f2 ?f3 ?f4 ?f5 ?_)
     try (case f1=>exact cell_one_new _ _ _)
     case f2=>first|rfl| (intro u hu;simp at hu;subst hu;rfl)| (simp;done)| (simp[Value.oneCell'];done)| (trace_state;fail)
     case f3=>unfold maxLen;omega
     case f4=>omega
     case f5=>first|omega| (simp;omega)
     intro v' w3 hown' hgrow _;have R:=fin _ (x-c) (by omega) v' w3 hown' hgrow;clear hown' hgrow own fin
     go_wp2
     go_roundw
     case rel=>exact⟨k+1,0,_,by omega,by go_num,by go_num,R.1,Hst.out _ _ (by omega) (by omega) (by omega),R.2⟩
     case measure=>simp[intOf];omega
  ·have hke:k=xs.length:=by omega
   subst hke;have hen:=Nl hI hlb HV.out;have hps:=hI.2.1;have hpl2:ps.length≤2000000:=by omega
   clear hpl;obtain⟨oo,oc,rfl⟩:=own.rd.shape
   go_wp2_with fail
   refine(i9 _ _ _ _ _ own.rd).mono ?_;rintro e w' ⟨n,rfl,hn,rfl⟩;have hnl:=hn.1;have hr:=uE (cap':=n) 65536 (by omega) own.rd hps hn (Nat.le_refl _) (by unfold maxLen;omega);rw[hen] at hr;clear hn hen
   go_wp2
   go_ret
   exact⟨_,rfl,hr,bel⟩
end Go.Proofs.YtiakgfmlpdfhdaaDoor

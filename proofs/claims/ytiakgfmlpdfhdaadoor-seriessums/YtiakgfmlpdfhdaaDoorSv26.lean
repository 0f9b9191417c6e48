/-
  Texts laid together: Bits, Dy7, Dr4, Bl1, Bl6.
-/
import Derived.Test.YtiakgfmlpdfhdaaDoorSv10
import Derived.Test.YtiakgfmlpdfhdaaDoorSv11
import Derived.Test.YtiakgfmlpdfhdaaDoorSv12
import Derived.Test.YtiakgfmlpdfhdaaDoorSv13
set_option maxRecDepth 100000
set_option maxHeartbeats 1600000
namespace Go.Proofs.YtiakgfmlpdfhdaaDoor
open Go.RowKit
theorem kE (va:Value)(xs:List Nat)(w:World)(ha:Rd w .u32 va xs)(sa:Dg.Small 4294967296 xs)(na:Dg.Norm xs)(hla:xs.length≤1000000):
  yC 82 #[va] w fun e w'=>e= .returned (yi (bitLen (Dg.vl 4294967296 xs):Nat))∧w'=w:=by
 obtain⟨ao,ca,rfl,-,-,hca⟩:=ha
 by_cases h0:xs.length=0
 ·obtain rfl:xs=[]:=List.eq_nil_of_length_eq_zero h0
  go_enter Tryd.func82,Tryd.ntmps82
  go_wp2
  go_ret
  exact⟨rfl,rfl⟩
 ·have hne:xs≠[]:=by intro e;subst e;simp at h0
  obtain⟨b,off,rfl,hcell⟩:=hca (by omega);have hc:=hcell (xs.length-1) (by omega);have hs:=sa (xs.length-1);rw[IL 4294967296 32 (by decide) (by omega) xs sa na hne];obtain⟨x,ex⟩: ∃x,xs.getD (xs.length-1) 0=x:=⟨_,rfl⟩;rw[ex] at hc hs⊢;have hbl:=bF x 32 (by omega);have h3:=IK x w hs;obtain⟨l,hl⟩: ∃l,bitLen x=l:=⟨_,rfl⟩;rw[hl] at h3 hbl⊢;have h00:((xs.length:Int)==0)=false:=by simp;intro e;subst e;simp at h0
  clear ex hcell hca hne hl
  go_enter Tryd.func82,Tryd.ntmps82
  go_wp2_with fail
  refine h3.mono ?_;rintro e w' ⟨rfl,rfl⟩
  go_wp2
  go_ret
  exact⟨by go_num,rfl⟩
theorem Ac (v u:Value)(a b:ak)(w:World)(hv:Dv w v a)(hu:Dv w u b)(hLa:(Dg.dg 4294967296 a.n).length≤100000)(hLb:(Dg.dg 4294967296 b.n).length≤100000)
  (ha1: -100000≤a.e) (ha2:a.e≤100000) (hb1: -100000≤b.e) (hb2:b.e≤100000):
  Calls Tryd.prog 69 #[v,u] w (jN w (aK a b)):=by
 obtain⟨s0,rfl,ra⟩:=hv;obtain⟨ao,ca,rfl⟩:=ra.shape;obtain⟨s1,rfl,rb⟩:=hu;obtain⟨bo,cb,rfl⟩:=rb.shape;obtain⟨sa,an,ae⟩:=a;obtain⟨sb,bn,be⟩:=b;simp only at ra rb hLa hLb ha1 ha2 hb1 hb2⊢;have HTI:Hid (∀w1,Below w.heap.size w w1→Calls Tryd.prog 76 #[.slice ao (Dg.dg 4294967296 an).length ca,.slice bo (Dg.dg 4294967296 bn).length cb] w1 (Num w1 (an*bn))):=fun w1 b1=>by
  have:=qC _ _ _ _ w1 (ra.l b1) (rb.l b1) (Dg.small_dg _ _ (by omega)) (Dg.small_dg _ _ (by omega)) (by omega) (by omega);rw[Dg.vl_dg _ _ (by omega),Dg.vl_dg _ _ (by omega)] at this;exact this
 unfold aK;simp only;obtain⟨X,hX⟩: ∃X,an*bn=X:=⟨_,rfl⟩;obtain⟨ma,hma⟩: ∃m,(Dg.dg 4294967296 an).length=m:=⟨_,rfl⟩;obtain⟨mb,hmb⟩: ∃m,(Dg.dg 4294967296 bn).length=m:=⟨_,rfl⟩;rw[hX,hma,hmb] at HTI;rw[hX,hma,hmb];clear hX hma hmb ra rb hLa hLb;obtain⟨la,lb,lc,b01,sW⟩:=ju w (.bool sa) (.slice ao ma ca) (.int .i64 ae) (.bool sb) (.slice bo mb cb) (.int .i64 be) (.bool false) (.slice none 0 0) (.int .i64 0) 66 66 66;clear sW;obtain⟨W,hW⟩: ∃W,(((w.alloc (.cells #[.bool sa,.slice ao ma ca,.int .i64 ae] 66)).alloc (.cells #[.bool sb,.slice bo mb cb,.int .i64 be] 66)).alloc (.cells #[.bool false,.slice none 0 0,.int .i64 0] 66))=W:=⟨_,rfl⟩;rw[hW] at la lb lc b01;have bd:Below W.heap.size W W.drew:=(Below.refl _ _).drew;have la:=la.l bd;have lb:=lb.l bd;have lc:=lc.l bd;have b02:=aa b01 bd;rw[←hW] at la lb lc b02;clear bd b01 hW;obtain⟨-,⟨ca0,ca1,ca2⟩,-⟩:=id la;obtain⟨-,⟨cb0,cb1,cb2⟩,-⟩:=id lb;have ne3:w.heap.size+1+1≠w.heap.size:=by omega
 have ne4:w.heap.size≠w.heap.size+1+1:=by omega
 have e4:IntKind.i64.wrap (ae+be)=ae+be:=IntWalk.i64_in _ ⟨by omega,by omega⟩
 go_enter Tryd.func69,Tryd.ntmps69
 go_wp2_with fail
 go_region_held3 (fun wq=>(wq.cell? ⟨w.heap.size,0,none⟩=some (.bool sa)∧wq.cell? ⟨w.heap.size,1,none⟩=some (.slice ao ma ca)∧wq.cell? ⟨w.heap.size,2,none⟩=some (.int .i64 ae))∧wq.cell? ⟨w.heap.size+1,0,none⟩=some (.bool sb)∧wq.cell? ⟨w.heap.size+1,1,none⟩=some (.slice bo mb cb)∧wq.cell? ⟨w.heap.size+1,2,none⟩=some (.int .i64 be)) (go_keep) (first
  | (go_at_call 81;refine(cN sa ao ma ca ae _).mono ?_;rintro z w3 ⟨rfl,b3⟩;have la3:=la.l b3;have lb3:=lb.l b3;have lc3:=lc.l b3;have b03:=aa b02 b3;obtain⟨-,⟨p0,p1,p2⟩,-⟩:=id la3;obtain⟨-,⟨p3,p4,p5⟩,-⟩:=id lb3;clear b02)
  | (go_at_call 81;refine(cN sb bo mb cb be w3).mono ?_;rintro z w4 ⟨rfl,b4⟩;have la4:=la3.l b4;have lb4:=lb3.l b4;have lc4:=lc3.l b4;have b04:=aa b03 b4;obtain⟨-,⟨q0,q1,q2⟩,-⟩:=id la4;obtain⟨-,⟨q3,q4,q5⟩,-⟩:=id lb4)
  | (go_at_call 76;refine(HTI.out w4 b04).mono ?_;rintro z w5 ⟨vs,rfl,o5,b5⟩;have la5:=la4.l b5;have lb5:=lb4.l b5;have lc5:=lc4.l b5;have b05:=aa b04 b5;obtain⟨-,⟨t0,t1,t2⟩,-⟩:=id la5;obtain⟨-,⟨t3,t4,t5⟩,-⟩:=id lb5;obtain⟨so,sc,hvs⟩:=o5.rd.shape;subst hvs)
  | (go_at_call 77;refine(l9 (sa != sb) so _ sc _ w5).mono ?_;rintro z w6 ⟨rfl,b6⟩;have la6:=la5.l b6;have lb6:=lb5.l b6;have lc6:=lc5.l b6;have b06:=aa b05 b6;obtain⟨-,⟨u0,u1,u2⟩,-⟩:=id la6;obtain⟨-,⟨u3,u4,u5⟩,-⟩:=id lb6;obtain⟨hl6,⟨d0,d1,d2⟩,f0,f1,f2⟩:=id lc6))
 all_goals go_wp2
 obtain⟨-,⟨g0,g1,g2⟩,-⟩:=aD lc6 (.bool (sa != sb)) (.slice so (Dg.dg 4294967296 X).length sc) (.int .i64 (ae+be));have o7:=(o5.l b6).apart3 (b:=w.heap.size+1+1) lc4.1 (.bool (sa != sb)) (.slice so (Dg.dg 4294967296 X).length sc) (.int .i64 (ae+be));have b8:=am b06 (show w.heap.size≤w.heap.size+1+1 by omega) (.bool (sa != sb)) (.slice so (Dg.dg 4294967296 X).length sc) (.int .i64 (ae+be))
 refine bodyPost_ret (v:= .agg #[.bool (sa != sb),.slice so (Dg.dg 4294967296 X).length sc,.int .i64 (ae+be)]) (by simp[results,Tryd.results69,go_sem,g0,g1,g2]) rfl ?_;exact⟨_,rfl,o7.lower b04.size,b8⟩
theorem ua (s:Bool)(ao:Option Addr)(ca:Nat)(xs:List Nat)(e:Int)(t:Bool)(bo:Option Addr)(cb:Nat)(ys:List Nat)(f:Int)(w:World)(hr:Rd w .u32 (.slice ao xs.length ca) xs)(hq:Rd w .u32 (.slice bo ys.length cb) ys):
  yC 50 #[ydV s (.slice ao xs.length ca) e,ydV t (.slice bo ys.length cb) f] w (yR w (yi (dQ xs e ys f))):=by
 have bA:=aa (af w (.cells (ydA s (.slice ao xs.length ca) e) 25)) (af _ (.cells (ydA t (.slice bo ys.length cb) f) 25));have l1:=(aA w (.bool s) (.slice ao xs.length ca) (yi e) 25).l (af _ (.cells (ydA t (.slice bo ys.length cb) f) 25));have l2:=aA (w.alloc (.cells (ydA s (.slice ao xs.length ca) e) 25)) (.bool t) (.slice bo ys.length cb) (yi f) 25;rw[World.size_alloc] at l2;have h1:=gl s ao ca xs e _ (hr.l bA);have H2:Hid (yH w 67 #[ydV t (.slice bo ys.length cb) f] (yi (aS ys f))):=fun w1 b1=>gl t bo cb ys f w1 (hq.l b1)
 unfold dQ;obtain⟨c,hc⟩: ∃c,aS xs e=c:=⟨_,rfl⟩;obtain⟨d,hd⟩: ∃d,aS ys f=d:=⟨_,rfl⟩;rw[hc] at h1⊢;rw[hd] at H2⊢;clear hc hd hr hq
 by_cases h:c=0
 ·subst h
  rw[if_pos rfl]
  go_enter Tryd.func50,Tryd.ntmps50
  go_wp2_with fail
  refine h1.mono ?_;rintro z w1 ⟨rfl,b1⟩;have l2:=l2.l b1;have b01:=aa bA b1;obtain⟨-,⟨c0,c1,c2⟩,-⟩:=id l2;clear h1 bA b1
  go_wp2_with fail
  refine(H2.out w1 b01).mono ?_;rintro z w2 ⟨rfl,b2⟩;have b02:=aa b01 b2
  go_wp2
  go_ret
  exact⟨rfl,b02⟩
 ·rw[if_neg h]
  have h3:(c==0)=false:=by simp[h]
  go_enter Tryd.func50,Tryd.ntmps50
  go_wp2_with fail
  refine h1.mono ?_;rintro z w1 ⟨rfl,b1⟩;have b01:=aa bA b1;clear h1
  go_wp2
  go_ret
  exact⟨rfl,b01⟩
theorem mL.l {w w':World}{b:Nat}{v0 v1 v2 v3 v4 v5:Value}(h:mL w b v0 v1 v2 v3 v4 v5)(hb:yB w w'):mL w' b v0 v1 v2 v3 v4 v5:=by
 obtain⟨hl,⟨c0,c1,c2,c3,c4,c5⟩,f0,f1,f2,f3,f4,f5⟩:=h;refine⟨Nat.lt_of_lt_of_le hl hb.size,⟨cell_later hb c0,cell_later hb c1,cell_later hb c2,cell_later hb c3,cell_later hb c4,cell_later hb c5⟩, ?_, ?_, ?_, ?_, ?_, ?_⟩
 all_goals rw[hb.frozen (by exact hl)];assumption
theorem ZB6.l {w w':World}{b:Nat}(h:ZB6 w b)(hb:yB w w'):ZB6 w' b:=by
 obtain⟨hl,ty,hh⟩:=h;exact⟨Nat.lt_of_lt_of_le hl hb.size,ty,(hb.block b hl).trans hh⟩
theorem ie (s:Bool)(ao:Option Addr)(ca la:Nat)(e:Int)(t:Bool)(bo:Option Addr)(cb lb:Nat)(f:Int)(x y:ak)(w:World)
  (H1: ∀w1,yB w w1→yC 22 #[ydV s (.slice ao la ca) e] w1 (dr w1 x))
  (H2: ∀w1,yB w w1→yC 22 #[ydV t (.slice bo lb cb) f] w1 (dr w1 y)):
  yC 26 #[.agg #[.bool s,.slice ao la ca,yi e,.bool t,.slice bo lb cb,yi f]] w (tR w x y):=by
 have HC1:Hid _:=H1;have HC2:Hid _:=H2;clear H1 H2;obtain⟨xs,xn,xe⟩:=x;obtain⟨ys,yn,ye⟩:=y;have bA:=aa (af w (.cells #[.bool s,.slice ao la ca,yi e,.bool t,.slice bo lb cb,yi f] 27)) (af _ (.cells #[.bool false,yN,yi 0,.bool false,yN,yi 0] 38));have l1:=(aJ w (.bool s) (.slice ao la ca) (yi e) (.bool t) (.slice bo lb cb) (yi f) 27).l (af _ (.cells #[.bool false,yN,yi 0,.bool false,yN,yi 0] 38));have l2:=aJ (w.alloc (.cells #[.bool s,.slice ao la ca,yi e,.bool t,.slice bo lb cb,yi f] 27)) (.bool false) yN (yi 0) (.bool false) yN (yi 0) 38;have z2:=pM (w.alloc (.cells #[.bool s,.slice ao la ca,yi e,.bool t,.slice bo lb cb,yi f] 27)) 38;rw[World.size_alloc] at l2 z2;obtain⟨W,hW⟩: ∃W,((w.alloc (.cells #[.bool s,.slice ao la ca,yi e,.bool t,.slice bo lb cb,yi f] 27)).alloc (.cells #[.bool false,yN,yi 0,.bool false,yN,yi 0] 38))=W:=⟨_,rfl⟩;rw[hW] at bA l1 l2 z2;have bd:yB W W.drew:=(Below.refl _ _).drew;have l1:=l1.l bd;have l2:=l2.l bd;have z2:=z2.l bd;have b02:=aa bA bd;rw[←hW] at l1 l2 z2 b02;clear bA bd hW;obtain⟨-,⟨c0,c1,c2,c3,c4,c5⟩,-⟩:=id l1;have ne3:w.heap.size+1≠w.heap.size:=by omega
 go_enter Tryd.func26,Tryd.ntmps26
 go_wp2_with fail
 go_region_held3 (fun wq=>(wq.cell? ⟨w.heap.size,0,none⟩=some (.bool s)∧wq.cell? ⟨w.heap.size,1,none⟩=some (.slice ao la ca)∧wq.cell? ⟨w.heap.size,2,none⟩=some (yi e))∧wq.cell? ⟨w.heap.size,3,none⟩=some (.bool t)∧wq.cell? ⟨w.heap.size,4,none⟩=some (.slice bo lb cb)∧wq.cell? ⟨w.heap.size,5,none⟩=some (yi f)) (go_keep) (first
  | (go_at_call 22;refine(HC1.out _ b02).mono ?_;rintro z w3 ⟨vs,rfl,r3,b3⟩;have l13:=l1.l b3;have l23:=l2.l b3;have z23:=z2.l b3;have b03:=aa b02 b3;clear b02;obtain⟨-,⟨p0,p1,p2,p3,p4,p5⟩,-⟩:=id l13;obtain⟨so0,sc0,hv0⟩:=r3.shape;subst hv0)
  | (go_at_call 22;refine(HC2.out w3 b03).mono ?_;rintro z w4 ⟨vt,rfl,r4,b4⟩;have r34:=r3.l b4;have l14:=l13.l b4;have l24:=l23.l b4;have z24:=z23.l b4;have b04:=aa b03 b4;obtain⟨so,sc,hvs⟩:=r4.shape;subst hvs;obtain⟨-,⟨q0,q1,q2,q3,q4,q5⟩,-⟩:=id l14;obtain⟨hl3,⟨d0,d1,d2,d3,d4,d5⟩,f0,f1,f2,f3,f4,f5⟩:=id l24))
 all_goals go_wp2
 obtain⟨-,⟨g0,g1,g2,g3,g4,g5⟩,-⟩:=bP l24 (.bool xs) (yS so0 xn sc0) (yi xe) (.bool ys) (yS so yn sc) (yi ye);have r7:=z24.rd r34 (Dg.norm_dg _ _ (by omega)) (.bool xs) (yS so0 xn sc0) (yi xe) (.bool ys) (yS so yn sc) (yi ye);have r8:=z24.rd r4 (Dg.norm_dg _ _ (by omega)) (.bool xs) (yS so0 xn sc0) (yi xe) (.bool ys) (yS so yn sc) (yi ye);have b8:=aW b04 (show w.heap.size≤w.heap.size+1 by omega) (.bool xs) (yS so0 xn sc0) (yi xe) (.bool ys) (yS so yn sc) (yi ye)
 refine bodyPost_ret (v:= .agg #[.bool xs,yS so0 xn sc0,yi xe,.bool ys,yS so yn sc,yi ye]) (by simp[results,Tryd.results26,go_sem,g0,g1,g2,g3,g4,g5]) rfl ?_;exact⟨_,_,rfl,r7,r8,b8⟩
end Go.Proofs.YtiakgfmlpdfhdaaDoor

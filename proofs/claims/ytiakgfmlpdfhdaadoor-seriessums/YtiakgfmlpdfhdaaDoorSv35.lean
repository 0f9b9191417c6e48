/-
  Texts laid together: Dy9.
-/
import Derived.Test.YtiakgfmlpdfhdaaDoorSv29
set_option maxRecDepth 100000
set_option maxHeartbeats 1600000
namespace Go.Proofs.YtiakgfmlpdfhdaaDoor
open Go.RowKit
theorem FT (v u:Value)(a b:ak)(w:World)(hv:Dv w v a)(hu:Dv w u b)(hLa:(Dg.dg 4294967296 a.n).length≤100000)(hLb:(Dg.dg 4294967296 b.n).length≤100000)
  (ha1: -100000≤a.e) (ha2:a.e≤100000) (hb1: -100000≤b.e) (hb2:b.e≤100000):
  Calls Tryd.prog 79 #[v,u] w (jN w (aG a (dV b))):=by
 obtain⟨s0,rfl,ra⟩:=hv;obtain⟨ao,ca,rfl⟩:=ra.shape;obtain⟨s1,rfl,rb⟩:=hu;obtain⟨bo,cb,rfl⟩:=rb.shape;obtain⟨sa,an,ae⟩:=a;obtain⟨sb,bn,be⟩:=b;simp only at ra rb hLa hLb ha1 ha2 hb1 hb2⊢;have HP:Hid (∀w1,Below w.heap.size w w1→Calls Tryd.prog 72 #[.agg #[.bool sa,.slice ao (Dg.dg 4294967296 an).length ca,.int .i64 ae],.agg #[.bool (!sb),.slice bo (Dg.dg 4294967296 bn).length cb,.int .i64 be]] w1 (jN w1 (aG ⟨sa,an,ae⟩ (dV ⟨sb,bn,be⟩)))):=fun w1 b1=>
  uj _ _ ⟨sa,an,ae⟩ (dV ⟨sb,bn,be⟩) w1 ⟨_,rfl,ra.l b1⟩ ⟨_,rfl,rb.l b1⟩ hLa hLb ha1 ha2 hb1 hb2
 obtain⟨ma,hma⟩: ∃m,(Dg.dg 4294967296 an).length=m:=⟨_,rfl⟩;obtain⟨mb,hmb⟩: ∃m,(Dg.dg 4294967296 bn).length=m:=⟨_,rfl⟩;rw[hma,hmb] at HP⊢;obtain⟨⟨rs,rn,re⟩,hrr⟩: ∃r,aG ⟨sa,an,ae⟩ (dV ⟨sb,bn,be⟩)=r:=⟨_,rfl⟩;rw[hrr] at HP⊢;clear hma hmb hrr ra rb hLa hLb;obtain⟨la,lb,lc,b01,-⟩:=ju w (.bool sa) (.slice ao ma ca) (.int .i64 ae) (.bool sb) (.slice bo mb cb) (.int .i64 be) (.bool false) (.slice none 0 0) (.int .i64 0) 66 66 66;obtain⟨W,hW⟩: ∃W,(((w.alloc (.cells #[.bool sa,.slice ao ma ca,.int .i64 ae] 66)).alloc (.cells #[.bool sb,.slice bo mb cb,.int .i64 be] 66)).alloc (.cells #[.bool false,.slice none 0 0,.int .i64 0] 66))=W:=⟨_,rfl⟩;rw[hW] at la lb lc b01;have bd:Below W.heap.size W W.drew:=(Below.refl _ _).drew;replace la:=la.l bd;replace lb:=lb.l bd;replace lc:=lc.l bd;have b02:=aa b01 bd;rw[←hW] at la lb lc b02;clear bd b01 hW;obtain⟨-,⟨ca0,ca1,ca2⟩,-⟩:=id la;obtain⟨-,⟨cb0,cb1,cb2⟩,-⟩:=id lb;have ne3:w.heap.size+1+1≠w.heap.size:=by omega
 have ne4:w.heap.size≠w.heap.size+1+1:=by omega
 go_enter Tryd.func79,Tryd.ntmps79
 go_wp2_with fail
 go_region_held3 (fun wq=>(wq.cell? ⟨w.heap.size,0,none⟩=some (.bool sa)∧wq.cell? ⟨w.heap.size,1,none⟩=some (.slice ao ma ca)∧wq.cell? ⟨w.heap.size,2,none⟩=some (.int .i64 ae))∧wq.cell? ⟨w.heap.size+1,0,none⟩=some (.bool sb)∧wq.cell? ⟨w.heap.size+1,1,none⟩=some (.slice bo mb cb)∧wq.cell? ⟨w.heap.size+1,2,none⟩=some (.int .i64 be)) (go_keep) (first
  | (go_at_call 85;refine(YA sb bo mb cb be _).mono ?_;rintro z w5 ⟨rfl,b5⟩;have la5:=la.l b5;have lb5:=lb.l b5;have lc5:=lc.l b5;have b05:=aa b02 b5;obtain⟨-,⟨t0,t1,t2⟩,-⟩:=id la5;obtain⟨-,⟨t3,t4,t5⟩,-⟩:=id lb5)
  | (go_at_call 72;refine(HP.out w5 b05).mono ?_;rintro z w6 ⟨vr,rfl,o6,b6⟩;have la6:=la5.l b6;have lb6:=lb5.l b6;have lc6:=lc5.l b6;have b06:=aa b05 b6;obtain⟨-,⟨u0,u1,u2⟩,-⟩:=id la6;obtain⟨-,⟨u3,u4,u5⟩,-⟩:=id lb6;obtain⟨so,sc,hvt⟩:=o6.rd.shape;subst hvt;obtain⟨hl6,⟨d0,d1,d2⟩,f0,f1,f2⟩:=id lc6))
 all_goals go_wp2
 have hlt:=lc5.1;obtain⟨-,⟨g0,g1,g2⟩,-⟩:=aD lc6 (.bool rs) (.slice so (Dg.dg 4294967296 rn).length sc) (.int .i64 re);have b8:=am b06 (show w.heap.size≤w.heap.size+1+1 by omega) (.bool rs) (.slice so (Dg.dg 4294967296 rn).length sc) (.int .i64 re)
 refine bodyPost_ret (v:= .agg #[.bool rs,.slice so (Dg.dg 4294967296 rn).length sc,.int .i64 re]) (by simp[results,Tryd.results79,go_sem,g0,g1,g2]) rfl ?_;exact⟨_,rfl,(o6.apart3 hlt _ _ _).lower (by have:=b05.size;omega),b8⟩
theorem iE (v u:Value)(a b:ak)(w:World)(hv:Dv w v a)(hu:Dv w u b)(hLa:(Dg.dg 4294967296 a.n).length≤100000)(hLb:(Dg.dg 4294967296 b.n).length≤100000)
  (ha1: -100000≤a.e) (ha2:a.e≤100000) (hb1: -100000≤b.e) (hb2:b.e≤100000):
  yC 63 #[v,u] w (yR w (yi (dJ (aG a (dV b))))):=by
 have HM:Hid (∀w1,yB w w1→yC 79 #[v,u] w1 (jN w1 (aG a (dV b)))):=fun w1 b1=>FT v u a b w1 (hv.l b1) (hu.l b1) hLa hLb ha1 ha2 hb1 hb2
 obtain⟨s0,rfl,ra⟩:=hv;obtain⟨ao,ca,rfl⟩:=ra.shape;obtain⟨s1,rfl,rb⟩:=hu;obtain⟨bo,cb,rfl⟩:=rb.shape;obtain⟨T,hT⟩: ∃T,aG a (dV b)=T:=⟨_,rfl⟩;rw[hT] at HM⊢;obtain⟨ma,hma⟩: ∃m,(Dg.dg 4294967296 a.n).length=m:=⟨_,rfl⟩;obtain⟨mb,hmb⟩: ∃m,(Dg.dg 4294967296 b.n).length=m:=⟨_,rfl⟩;rw[hma,hmb] at HM⊢;clear hT hma hmb ra rb;have bA:=aa (af w (.cells (ydA a.s (.slice ao ma ca) a.e) 66)) (af _ (.cells (ydA b.s (.slice bo mb cb) b.e) 66))
 go_enter Tryd.func63,Tryd.ntmps63
 go_wp2_with fail
 refine(HM.out _ bA).mono ?_;rintro z w1 ⟨vr,rfl,o1,b1⟩;have b01:=aa bA b1
 go_wp2_with fail
 refine(qB _ T w1 ⟨_,rfl,o1.rd⟩).mono ?_;rintro z w2 ⟨rfl,b2⟩;have b02:=aa b01 b2
 go_wp2
 go_ret
 exact⟨rfl,b02⟩
end Go.Proofs.YtiakgfmlpdfhdaaDoor

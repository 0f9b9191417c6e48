/-
  Texts laid together: Ab3, Dr1, Dy6, Dy7, Dr4, Gb6, Gb7, Gb8, Pa3, Pa4, Pa5, Ra8.
-/
import Derived.Test.YtbdokgamhinajaaGreatDoorChecked
import Derived.Test.YtbdokgamhinajaaGreatDoorSm40
import Derived.Test.YtbdokgamhinajaaGreatDoorSm41
set_option maxRecDepth 100000
set_option maxHeartbeats 3200000
namespace Go.Proofs.YtbdokgamhinajaaGreatDoor
open _root_.Go.Proofs.Tryz
open Go.RowKit
abbrev yEL (c:Int)(g:Bool)(t:ak)(o:Option Addr)(k:Nat):List Value:=[.int .i64 c,.bool g,.bool t.s,.slice o (Dg.dg 65536 t.n).length k,.int .i64 t.e]
abbrev yEV (c:Int)(g:Bool)(t:ak)(o:Option Addr)(k:Nat):Value:= .agg #[.int .i64 c,.bool g,.bool t.s,.slice o (Dg.dg 65536 t.n).length k,.int .i64 t.e]
abbrev yEA (c:Int)(g:Bool)(t:ak)(o:Option Addr)(k:Nat):Array Value:= #[.int .i64 c,.bool g,.bool t.s,.slice o (Dg.dg 65536 t.n).length k,.int .i64 t.e]
abbrev yML (t:ak)(o:Option Addr)(k:Nat):List Value:=[.bool t.s,.slice o (Dg.dg 65536 t.n).length k,.int .i64 t.e]
abbrev yMV (t:ak)(o:Option Addr)(k:Nat):Value:= .agg #[.bool t.s,.slice o (Dg.dg 65536 t.n).length k,.int .i64 t.e]
abbrev yMA (t:ak)(o:Option Addr)(k:Nat):Array Value:= #[.bool t.s,.slice o (Dg.dg 65536 t.n).length k,.int .i64 t.e]
abbrev yXL (c:Int)(g:Bool)(t:ak)(o:Option Addr)(k:Nat)(d:Int)(h:Bool)(s:ak)(p:Option Addr)(m:Nat):List Value:=[.int .i64 c,.bool g,.bool t.s,.slice o (Dg.dg 65536 t.n).length k,.int .i64 t.e,.int .i64 d,.bool h,.bool s.s,.slice p (Dg.dg 65536 s.n).length m,.int .i64 s.e]
theorem iJ (v:Value)(t:ak)(w:World)(hv:Rv w v t)(hL:(Dg.dg 65536 t.n).length≤100000)(he1: -1000000≤t.e)(he2:t.e≤1000000):
  yC 67 #[v] w (dr w (bare t)):=
 (lA v t w hv hL he1 he2).mono fun _ _ h=>h.near
theorem ju (w:World)(a0 a1 a2 b0 b1 b2 c0 c1 c2:Value)(ta tb tc:TypeId):
  Loc (((w.alloc (.cells #[a0,a1,a2] ta)).alloc (.cells #[b0,b1,b2] tb)).alloc (.cells #[c0,c1,c2] tc)) w.heap.size a0 a1 a2∧
  Loc (((w.alloc (.cells #[a0,a1,a2] ta)).alloc (.cells #[b0,b1,b2] tb)).alloc (.cells #[c0,c1,c2] tc)) (w.heap.size+1) b0 b1 b2∧
  Loc (((w.alloc (.cells #[a0,a1,a2] ta)).alloc (.cells #[b0,b1,b2] tb)).alloc (.cells #[c0,c1,c2] tc)) (w.heap.size+1+1) c0 c1 c2∧
  yB w (((w.alloc (.cells #[a0,a1,a2] ta)).alloc (.cells #[b0,b1,b2] tb)).alloc (.cells #[c0,c1,c2] tc))∧
  (((w.alloc (.cells #[a0,a1,a2] ta)).alloc (.cells #[b0,b1,b2] tb)).alloc (.cells #[c0,c1,c2] tc)).heap.size=w.heap.size+1+1+1:=by
 have la:=aA w a0 a1 a2 ta;have lb:=aA (w.alloc (.cells #[a0,a1,a2] ta)) b0 b1 b2 tb;have lc:=aA ((w.alloc (.cells #[a0,a1,a2] ta)).alloc (.cells #[b0,b1,b2] tb)) c0 c1 c2 tc;have bB:=af (w.alloc (.cells #[a0,a1,a2] ta)) (.cells #[b0,b1,b2] tb);have bC:=af ((w.alloc (.cells #[a0,a1,a2] ta)).alloc (.cells #[b0,b1,b2] tb)) (.cells #[c0,c1,c2] tc);refine⟨(la.l bB).l bC, ?_, ?_,aa (aa (af w _) bB) bC,by simp[World.size_alloc]⟩
 ·have:=lb.l bC
  rwa [World.size_alloc] at this
 ·rwa [World.size_alloc,World.size_alloc] at lc
theorem Ac (v u:Value)(a b:ak)(w:World)(hv:Dv w v a)(hu:Dv w u b)(hLa:(Dg.dg 4294967296 a.n).length≤100000)(hLb:(Dg.dg 4294967296 b.n).length≤100000)
  (ha1: -100000≤a.e) (ha2:a.e≤100000) (hb1: -100000≤b.e) (hb2:b.e≤100000):
  Calls Tryz.prog 81 #[v,u] w (jN w (aK a b)):=by
 obtain⟨s0,rfl,ra⟩:=hv;obtain⟨ao,ca,rfl⟩:=ra.shape;obtain⟨s1,rfl,rb⟩:=hu;obtain⟨bo,cb,rfl⟩:=rb.shape;obtain⟨sa,an,ae⟩:=a;obtain⟨sb,bn,be⟩:=b;simp only at ra rb hLa hLb ha1 ha2 hb1 hb2⊢;have HTI:Hid (∀w1,Below w.heap.size w w1→Calls Tryz.prog 116 #[.slice ao (Dg.dg 4294967296 an).length ca,.slice bo (Dg.dg 4294967296 bn).length cb] w1 (Num w1 (an*bn))):=fun w1 b1=>by
  have:=qC _ _ _ _ w1 (ra.l b1) (rb.l b1) (Dg.small_dg _ _ (by omega)) (Dg.small_dg _ _ (by omega)) (by omega) (by omega);rw[Dg.vl_dg _ _ (by omega),Dg.vl_dg _ _ (by omega)] at this;exact this
 unfold aK;simp only;obtain⟨X,hX⟩: ∃X,an*bn=X:=⟨_,rfl⟩;obtain⟨ma,hma⟩: ∃m,(Dg.dg 4294967296 an).length=m:=⟨_,rfl⟩;obtain⟨mb,hmb⟩: ∃m,(Dg.dg 4294967296 bn).length=m:=⟨_,rfl⟩;rw[hX,hma,hmb] at HTI;rw[hX,hma,hmb];clear hX hma hmb ra rb hLa hLb;obtain⟨la,lb,lc,b01,sW⟩:=ju w (.bool sa) (.slice ao ma ca) (.int .i64 ae) (.bool sb) (.slice bo mb cb) (.int .i64 be) (.bool false) (.slice none 0 0) (.int .i64 0) 74 74 74;clear sW;obtain⟨W,hW⟩: ∃W,(((w.alloc (.cells #[.bool sa,.slice ao ma ca,.int .i64 ae] 74)).alloc (.cells #[.bool sb,.slice bo mb cb,.int .i64 be] 74)).alloc (.cells #[.bool false,.slice none 0 0,.int .i64 0] 74))=W:=⟨_,rfl⟩;rw[hW] at la lb lc b01;have bd:Below W.heap.size W W.drew:=(Below.refl _ _).drew;have la:=la.l bd;have lb:=lb.l bd;have lc:=lc.l bd;have b02:=aa b01 bd;rw[←hW] at la lb lc b02;clear bd b01 hW;obtain⟨-,⟨ca0,ca1,ca2⟩,-⟩:=id la;obtain⟨-,⟨cb0,cb1,cb2⟩,-⟩:=id lb;have ne3:w.heap.size+1+1≠w.heap.size:=by omega
 have ne4:w.heap.size≠w.heap.size+1+1:=by omega
 have e4:IntKind.i64.wrap (ae+be)=ae+be:=IntWalk.i64_in _ ⟨by omega,by omega⟩
 go_enter func81,ntmps81
 go_wp2_with fail
 go_region_held3 (fun wq=>(wq.cell? ⟨w.heap.size,0,none⟩=some (.bool sa)∧wq.cell? ⟨w.heap.size,1,none⟩=some (.slice ao ma ca)∧wq.cell? ⟨w.heap.size,2,none⟩=some (.int .i64 ae))∧wq.cell? ⟨w.heap.size+1,0,none⟩=some (.bool sb)∧wq.cell? ⟨w.heap.size+1,1,none⟩=some (.slice bo mb cb)∧wq.cell? ⟨w.heap.size+1,2,none⟩=some (.int .i64 be)) (go_keep) (first
  | (go_at_call 115;refine(cN sa ao ma ca ae _).mono ?_;rintro z w3 ⟨rfl,b3⟩;have la3:=la.l b3;have lb3:=lb.l b3;have lc3:=lc.l b3;have b03:=aa b02 b3;obtain⟨-,⟨p0,p1,p2⟩,-⟩:=id la3;obtain⟨-,⟨p3,p4,p5⟩,-⟩:=id lb3;clear b02)
  | (go_at_call 115;refine(cN sb bo mb cb be w3).mono ?_;rintro z w4 ⟨rfl,b4⟩;have la4:=la3.l b4;have lb4:=lb3.l b4;have lc4:=lc3.l b4;have b04:=aa b03 b4;obtain⟨-,⟨q0,q1,q2⟩,-⟩:=id la4;obtain⟨-,⟨q3,q4,q5⟩,-⟩:=id lb4)
  | (go_at_call 116;refine(HTI.out w4 b04).mono ?_;rintro z w5 ⟨vs,rfl,o5,b5⟩;have la5:=la4.l b5;have lb5:=lb4.l b5;have lc5:=lc4.l b5;have b05:=aa b04 b5;obtain⟨-,⟨t0,t1,t2⟩,-⟩:=id la5;obtain⟨-,⟨t3,t4,t5⟩,-⟩:=id lb5;obtain⟨so,sc,hvs⟩:=o5.rd.shape;subst hvs)
  | (go_at_call 106;refine(l9 (sa != sb) so _ sc _ w5).mono ?_;rintro z w6 ⟨rfl,b6⟩;have la6:=la5.l b6;have lb6:=lb5.l b6;have lc6:=lc5.l b6;have b06:=aa b05 b6;obtain⟨-,⟨u0,u1,u2⟩,-⟩:=id la6;obtain⟨-,⟨u3,u4,u5⟩,-⟩:=id lb6;obtain⟨hl6,⟨d0,d1,d2⟩,f0,f1,f2⟩:=id lc6))
 all_goals go_wp2
 obtain⟨-,⟨g0,g1,g2⟩,-⟩:=aD lc6 (.bool (sa != sb)) (.slice so (Dg.dg 4294967296 X).length sc) (.int .i64 (ae+be));have o7:=(o5.l b6).apart3 (b:=w.heap.size+1+1) lc4.1 (.bool (sa != sb)) (.slice so (Dg.dg 4294967296 X).length sc) (.int .i64 (ae+be));have b8:=am b06 (show w.heap.size≤w.heap.size+1+1 by omega) (.bool (sa != sb)) (.slice so (Dg.dg 4294967296 X).length sc) (.int .i64 (ae+be))
 refine bodyPost_ret (v:= .agg #[.bool (sa != sb),.slice so (Dg.dg 4294967296 X).length sc,.int .i64 (ae+be)]) (by simp[results,results81,go_sem,g0,g1,g2]) rfl ?_;exact⟨_,rfl,o7.lower b04.size,b8⟩
theorem rI (w:World)(a0 a1 a2 b0 b1 b2:Value)(ta tb tc:TypeId):
  ZB (((w.alloc (.cells #[a0,a1,a2] ta)).alloc (.cells #[b0,b1,b2] tb)).alloc (.cells (ydA false yN 0) tc)) (w.heap.size+1+1):=by
 have:=dI ((w.alloc (.cells #[a0,a1,a2] ta)).alloc (.cells #[b0,b1,b2] tb)) tc
 rwa [World.size_alloc,World.size_alloc] at this
theorem zv (x y L M:Nat)(hx:(Dg.dg 65536 x).length≤L)(hy:(Dg.dg 65536 y).length≤M):(Dg.dg 65536 (x*y)).length≤L+M:=by
 apply Dg.dg_len_le 65536 _ _ (by omega);have h1:=Dg.vl_lt 65536 (Dg.dg 65536 x) (Dg.small_dg _ _ (by omega));have h2:=Dg.vl_lt 65536 (Dg.dg 65536 y) (Dg.small_dg _ _ (by omega));rw[Dg.vl_dg _ _ (by omega)] at h1 h2;have h3:65536^ (Dg.dg 65536 x).length≤65536^L:=Nat.pow_le_pow_right (by omega) hx;have h4:65536^ (Dg.dg 65536 y).length≤65536^M:=Nat.pow_le_pow_right (by omega) hy;rw[Nat.pow_add];exact Nat.mul_lt_mul'' (by omega) (by omega)
theorem jh (v u:Value)(a b:ak)(w:World)(hv:Rv w v a)(hu:Rv w u b)(hLa:(Dg.dg 65536 a.n).length≤30000)(hLb:(Dg.dg 65536 b.n).length≤30000)
  (ha1: -200000≤a.e) (ha2:a.e≤200000) (hb1: -200000≤b.e) (hb2:b.e≤200000):
  Calls Tryz.prog 42 #[v,u] w (dr w (bare (aK a b))):=by
 obtain⟨s0,rfl,ra⟩:=hv;obtain⟨ao,ca,rfl⟩:=ra.shape;obtain⟨s1,rfl,rb⟩:=hu;obtain⟨bo,cb,rfl⟩:=rb.shape;obtain⟨sa,an,ae⟩:=a;obtain⟨sb,bn,be⟩:=b;simp only at ra rb hLa hLb ha1 ha2 hb1 hb2⊢;have HTI:Hid (∀w1,Below w.heap.size w w1→Calls Tryz.prog 82 #[.slice ao (Dg.dg 65536 an).length ca,.slice bo (Dg.dg 65536 bn).length cb] w1 (cG w1 (an*bn))):=fun w1 b1=>by
  have:=fN _ _ _ _ w1 (ra.l b1) (rb.l b1) (Dg.small_dg _ _ (by omega)) (Dg.small_dg _ _ (by omega)) (by omega) (by omega)
  rwa [Dg.vl_dg _ _ (by omega),Dg.vl_dg _ _ (by omega)] at this
 have hml:=zv an bn 30000 30000 hLa hLb;unfold aK;simp only;obtain⟨X,hX⟩: ∃X,an*bn=X:=⟨_,rfl⟩;obtain⟨ma,hma⟩: ∃m,(Dg.dg 65536 an).length=m:=⟨_,rfl⟩;obtain⟨mb,hmb⟩: ∃m,(Dg.dg 65536 bn).length=m:=⟨_,rfl⟩;rw[hX,hma,hmb] at HTI;rw[hX] at hml;rw[hX,hma,hmb];have HB:Hid (∀v w1,Rv w1 v ⟨sa != sb,X,ae+be⟩→Calls Tryz.prog 67 #[v] w1 (dr w1 (bare ⟨sa != sb,X,ae+be⟩))):=fun v w1 hv=>iJ v _ w1 hv (by simp only;omega) (by simp only;omega) (by simp only;omega)
 obtain⟨⟨rs,rn,re⟩,hbt⟩: ∃bt,bare ⟨sa != sb,X,ae+be⟩=bt:=⟨_,rfl⟩;rw[hbt] at HB⊢;clear hX hma hmb ra rb hLa hLb hbt hml;obtain⟨la,lb,lc,b01,-⟩:=ju w (.bool sa) (.slice ao ma ca) (.int .i64 ae) (.bool sb) (.slice bo mb cb) (.int .i64 be) (.bool false) (.slice none 0 0) (.int .i64 0) 30 30 30;have zc:=rI w (.bool sa) (.slice ao ma ca) (.int .i64 ae) (.bool sb) (.slice bo mb cb) (.int .i64 be) 30 30 30;obtain⟨W,hW⟩: ∃W,(((w.alloc (.cells #[.bool sa,.slice ao ma ca,.int .i64 ae] 30)).alloc (.cells #[.bool sb,.slice bo mb cb,.int .i64 be] 30)).alloc (.cells #[.bool false,.slice none 0 0,.int .i64 0] 30))=W:=⟨_,rfl⟩;rw[hW] at la lb lc b01 zc;have bd:Below W.heap.size W W.drew:=(Below.refl _ _).drew;have la:=la.l bd;have lb:=lb.l bd;have lc:=lc.l bd;have zc:=zc.l bd;have b02:=aa b01 bd;rw[←hW] at la lb lc b02 zc;clear bd b01 hW;obtain⟨-,⟨ca0,ca1,ca2⟩,-⟩:=id la;obtain⟨-,⟨cb0,cb1,cb2⟩,-⟩:=id lb;have ne3:w.heap.size+1+1≠w.heap.size:=by omega
 have ne4:w.heap.size≠w.heap.size+1+1:=by omega
 have e4:IntKind.i64.wrap (ae+be)=ae+be:=IntWalk.i64_in _ ⟨by omega,by omega⟩
 go_enter func42,ntmps42
 go_wp2_with fail
 go_region_held3 (fun wq=>(wq.cell? ⟨w.heap.size,0,none⟩=some (.bool sa)∧wq.cell? ⟨w.heap.size,1,none⟩=some (.slice ao ma ca)∧wq.cell? ⟨w.heap.size,2,none⟩=some (.int .i64 ae))∧wq.cell? ⟨w.heap.size+1,0,none⟩=some (.bool sb)∧wq.cell? ⟨w.heap.size+1,1,none⟩=some (.slice bo mb cb)∧wq.cell? ⟨w.heap.size+1,2,none⟩=some (.int .i64 be)) (go_keep) (first
  | (go_at_call 82;refine(HTI.out _ b02).mono ?_;rintro z w5 ⟨vs,rfl,r5,b5⟩;have la5:=la.l b5;have lb5:=lb.l b5;have lc5:=lc.l b5;have zc5:=zc.l b5;have b05:=aa b02 b5;obtain⟨-,⟨t0,t1,t2⟩,-⟩:=id la5;obtain⟨-,⟨t3,t4,t5⟩,-⟩:=id lb5;obtain⟨so,sc,hvs⟩:=r5.shape;subst hvs)
  | (go_at_call 67;refine(HB.out _ w5 ⟨_,rfl,r5⟩).mono ?_;rintro z w6 ⟨vt,rfl,r6,b6⟩;have la6:=la5.l b6;have lb6:=lb5.l b6;have lc6:=lc5.l b6;have zc6:=zc5.l b6;have b06:=aa b05 b6;obtain⟨-,⟨u0,u1,u2⟩,-⟩:=id la6;obtain⟨-,⟨u3,u4,u5⟩,-⟩:=id lb6;obtain⟨to0,tc,hvt⟩:=r6.shape;subst hvt;obtain⟨hl6,⟨d0,d1,d2⟩,f0,f1,f2⟩:=id lc6))
 all_goals go_wp2
 obtain⟨-,⟨g0,g1,g2⟩,-⟩:=aD lc6 (.bool rs) (.slice to0 (Dg.dg 65536 rn).length tc) (.int .i64 re);have r7:=zc6.rd r6 (Dg.norm_dg _ _ (by omega)) (.bool rs) (.slice to0 (Dg.dg 65536 rn).length tc) (.int .i64 re);have b8:=am b06 (show w.heap.size≤w.heap.size+1+1 by omega) (.bool rs) (.slice to0 (Dg.dg 65536 rn).length tc) (.int .i64 re)
 refine bodyPost_ret (v:= .agg #[.bool rs,.slice to0 (Dg.dg 65536 rn).length tc,.int .i64 re]) (by simp[results,results42,go_sem,g0,g1,g2]) rfl ?_;exact⟨_,rfl,r7,b8⟩
theorem SZ (c:Int)(g s:Bool)(o:Option Addr)(l k:Nat)(e:Int)(w:World):
  yC 80 #[yoV c g s (.slice o l k) e] w (yR w (.bool (c==1))):=by
 obtain⟨W3,hW4,q1,b2⟩:=cA w (yoL c g s (.slice o l k) e) 76;replace hW4:Hid _:=hW4
 go_enter func80,ntmps80
 go_upto_region 1 with fail
 rw[hW4.out];clear hW4;have c5:=q1.c 0 rfl
 go_wp2
 go_ret
 exact⟨rfl,b2⟩
theorem BR (g s:Bool)(o:Option Addr)(l k:Nat)(e:Int)(w:World):yC 80 #[yoV 1 g s (.slice o l k) e] w (yR w (.bool true)):=SZ 1 g s o l k e w
theorem sC (c:Int)(g s:Bool)(o:Option Addr)(l k:Nat)(e:Int)(w:World)(h:(c==1)=false):yC 80 #[yoV c g s (.slice o l k) e] w (yR w (.bool false)):=by
 have:=SZ c g s o l k e w;rw[h] at this;exact this
theorem Oh (c:Int)(n wy fam R D L G:Int)(gr:Bool)(gx gy:Bool)(x y:ak)(xo yo:Option Addr)(xc yc:Nat)(w:World)
  (HN:yJ 59 #[ykV n wy fam R D L G gr,yi 16] (.tuple #[yoV c false false yN 0,yi 16])):
  yC 41 #[ykV n wy fam R D L G gr,yOV 3 gx x xo xc,yOV 1 gy y yo yc] w (dU w c false ⟨false,0,0⟩ 16):=by
 replace HN:Hid _:=HN;obtain⟨W6,hW7,q1,q2,q3,q4,b5⟩:=pi w (ykL n wy fam R D L G gr) 69 (yOL 3 gx x xo xc) 76 (yOL 1 gy y yo yc) 76 (yoL 0 false false yN 0) 76;replace hW7:Hid _:=hW7
 go_enter func41,ntmps41
 go_upto_region 1 with fail
 rw[hW7.out];clear hW7;obtain⟨c8,c9,c10,c11,c12⟩:=q2.cs5;have c13:=q3.c 1 rfl
 go_wp2_with fail
 refine(lF _ _ _ _ _ _ _).mono ?_;rintro zz w14 ⟨rfl,bb15⟩;have q16:=q1.l bb15;have q17:=q3.l bb15;have q18:=q4.l bb15;have b19:=aa b5 bb15;clear q1 q2 q3 q4 b5 bb15 c8 c9 c10 c11 c12 c13;obtain⟨c20,c21,c22,c23,c24⟩:=q17.cs5
 go_wp2_with fail
 refine(BR _ _ _ _ _ _ _).mono ?_;rintro zz w25 ⟨rfl,bb26⟩;have q27:=q16.l bb26;have q28:=q18.l bb26;have b29:=aa b19 bb26;clear q16 q17 q18 b19 bb26 c20 c21 c22 c23 c24;obtain⟨c30,c31,c32,c33,c34,c35,c36,c37⟩:=q27.cs8
 go_wp2_with fail
 refine(HN.out _).mono ?_;rintro zz w38 ⟨rfl,bb39⟩;have q40:=q28.l bb39;have b41:=aa b29 bb39;clear q27 q28 b29 bb39 HN c30 c31 c32 c33 c34 c35 c36 c37;have hf:=dL (P:=Tryz.prog) q40 b41 (by omega) underlying76 rfl (by kernel_rfl) (yi c) (.bool false) (.bool false) yN (yi 0);have HH:Hid (_∧_):=⟨hf.1,hf.2.1⟩;obtain⟨⟨z0,z1,z2,z3,z4⟩,y0,y1,y2,y3,y4⟩:=dN q40;clear hf q40 b41
 go_wp2
 obtain⟨hl,bR⟩:=HH.out;exact bodyPost_ret (aj results41 rfl rfl hl) rfl ⟨_,rfl,aN _ _,bR⟩
theorem Oi (c:Int)(n wy fam R D L G:Int)(gr:Bool)(gx gy:Bool)(x y:ak)(xo yo:Option Addr)(xc yc:Nat)(w:World)
  (HN:yJ 59 #[ykV n wy fam R D L G gr,yi 16] (.tuple #[yoV c false false yN 0,yi 16])):
  yC 41 #[ykV n wy fam R D L G gr,yOV 1 gx x xo xc,yOV 3 gy y yo yc] w (dU w c false ⟨false,0,0⟩ 16):=by
 replace HN:Hid _:=HN;obtain⟨W6,hW7,q1,q2,q3,q4,b5⟩:=pi w (ykL n wy fam R D L G gr) 69 (yOL 1 gx x xo xc) 76 (yOL 3 gy y yo yc) 76 (yoL 0 false false yN 0) 76;replace hW7:Hid _:=hW7
 go_enter func41,ntmps41
 go_upto_region 1 with fail
 rw[hW7.out];clear hW7;obtain⟨c8,c9,c10,c11,c12⟩:=q2.cs5;have c13:=q3.c 1 rfl
 go_wp2_with fail
 refine(iY _ _ _ _ _ _ _ _ rfl).mono ?_;rintro zz w14 ⟨rfl,bb15⟩;have q16:=q1.l bb15;have q17:=q2.l bb15;have q18:=q3.l bb15;have q19:=q4.l bb15;have b20:=aa b5 bb15;clear q1 q2 q3 q4 b5 bb15 c8 c9 c10 c11 c12 c13;obtain⟨c21,c22,c23,c24,c25⟩:=q17.cs5
 go_wp2_with fail
 refine(BR _ _ _ _ _ _ _).mono ?_;rintro zz w26 ⟨rfl,bb27⟩;have q28:=q16.l bb27;have q29:=q18.l bb27;have q30:=q19.l bb27;have b31:=aa b20 bb27;clear q16 q17 q18 q19 b20 bb27 c21 c22 c23 c24 c25;obtain⟨c32,c33,c34,c35,c36⟩:=q29.cs5
 go_wp2_with fail
 refine(lF _ _ _ _ _ _ _).mono ?_;rintro zz w37 ⟨rfl,bb38⟩;have q39:=q28.l bb38;have q40:=q30.l bb38;have b41:=aa b31 bb38;clear q28 q29 q30 b31 bb38 c32 c33 c34 c35 c36;obtain⟨c42,c43,c44,c45,c46,c47,c48,c49⟩:=q39.cs8
 go_wp2_with fail
 refine(HN.out _).mono ?_;rintro zz w50 ⟨rfl,bb51⟩;have q52:=q40.l bb51;have b53:=aa b41 bb51;clear q39 q40 b41 bb51 HN c42 c43 c44 c45 c46 c47 c48 c49;have hf:=dL (P:=Tryz.prog) q52 b53 (by omega) underlying76 rfl (by kernel_rfl) (yi c) (.bool false) (.bool false) yN (yi 0);have HH:Hid (_∧_):=⟨hf.1,hf.2.1⟩;obtain⟨⟨z0,z1,z2,z3,z4⟩,y0,y1,y2,y3,y4⟩:=dN q52;clear hf q52 b53
 go_wp2
 obtain⟨hl,bR⟩:=HH.out;exact bodyPost_ret (aj results41 rfl rfl hl) rfl ⟨_,rfl,aN _ _,bR⟩
theorem Oj (cy:Int)(n wy fam R D L G:Int)(gr:Bool)(gx gy:Bool)(x y:ak)(xo yo:Option Addr)(xc yc:Nat)(w:World)(hy1:(cy==1)=false):
  yC 41 #[ykV n wy fam R D L G gr,yOV 3 gx x xo xc,yOV cy gy y yo yc] w (dU w 3 (gx != gy) ⟨false,0,0⟩ 0):=by
 obtain⟨W6,hW7,q1,q2,q3,q4,b5⟩:=pi w (ykL n wy fam R D L G gr) 69 (yOL 3 gx x xo xc) 76 (yOL cy gy y yo yc) 76 (yoL 0 false false yN 0) 76;replace hW7:Hid _:=hW7;clear q1
 go_enter func41,ntmps41
 go_upto_region 1 with fail
 rw[hW7.out];clear hW7;obtain⟨c8,c9,c10,c11,c12⟩:=q2.cs5;have c13:=q3.c 1 rfl
 go_wp2_with fail
 refine(lF _ _ _ _ _ _ _).mono ?_;rintro zz w14 ⟨rfl,bb15⟩;have q16:=q2.l bb15;have q17:=q3.l bb15;have q18:=q4.l bb15;have b19:=aa b5 bb15;clear q2 q3 q4 b5 bb15 c8 c9 c10 c11 c12 c13;obtain⟨c20,c21,c22,c23,c24⟩:=q17.cs5
 go_wp2_with fail
 refine(sC _ _ _ _ _ _ _ _ hy1).mono ?_;rintro zz w25 ⟨rfl,bb26⟩;have q27:=q16.l bb26;have q28:=q18.l bb26;have b29:=aa b19 bb26;clear q16 q17 q18 b19 bb26 c20 c21 c22 c23 c24;obtain⟨c30,c31,c32,c33,c34⟩:=q27.cs5
 go_wp2_with fail
 refine(sC _ _ _ _ _ _ _ _ rfl).mono ?_;rintro zz w35 ⟨rfl,bb36⟩;have q37:=q27.l bb36;have q38:=q28.l bb36;have b39:=aa b29 bb36;clear q27 q28 b29 bb36 c30 c31 c32 c33 c34;obtain⟨c40,c41,c42,c43,c44⟩:=q37.cs5
 go_wp2_with fail
 refine(lF _ _ _ _ _ _ _).mono ?_;rintro zz w45 ⟨rfl,bb46⟩;have q47:=q38.l bb46;have b48:=aa b39 bb46;clear q37 q38 b39 bb46 c40 c41 c42 c43 c44;have hf:=dL (P:=Tryz.prog) q47 b48 (by omega) underlying76 rfl (by kernel_rfl) (yi 3) (.bool (gx != gy)) (.bool false) yN (yi 0);have HH:Hid (_∧_):=⟨hf.1,hf.2.1⟩;obtain⟨⟨z0,z1,z2,z3,z4⟩,y0,y1,y2,y3,y4⟩:=dN q47;clear hf q47 b48
 go_wp2
 obtain⟨hl,bR⟩:=HH.out;exact bodyPost_ret (aj results41 rfl rfl hl) rfl ⟨_,rfl,aN _ _,bR⟩
theorem Ok (cx:Int)(n wy fam R D L G:Int)(gr:Bool)(gx gy:Bool)(x y:ak)(xo yo:Option Addr)(xc yc:Nat)(w:World)(hx3:(cx==3)=false)(hx1:(cx==1)=false):
  yC 41 #[ykV n wy fam R D L G gr,yOV cx gx x xo xc,yOV 3 gy y yo yc] w (dU w 3 (gx != gy) ⟨false,0,0⟩ 0):=by
 obtain⟨W6,hW7,q1,q2,q3,q4,b5⟩:=pi w (ykL n wy fam R D L G gr) 69 (yOL cx gx x xo xc) 76 (yOL 3 gy y yo yc) 76 (yoL 0 false false yN 0) 76;replace hW7:Hid _:=hW7;clear q1
 go_enter func41,ntmps41
 go_upto_region 1 with fail
 rw[hW7.out];clear hW7;obtain⟨c8,c9,c10,c11,c12⟩:=q2.cs5;have c13:=q3.c 1 rfl
 go_wp2_with fail
 refine(iY _ _ _ _ _ _ _ _ hx3).mono ?_;rintro zz w14 ⟨rfl,bb15⟩;have q16:=q2.l bb15;have q17:=q3.l bb15;have q18:=q4.l bb15;have b19:=aa b5 bb15;clear q2 q3 q4 b5 bb15 c8 c9 c10 c11 c12 c13;obtain⟨c20,c21,c22,c23,c24⟩:=q16.cs5
 go_wp2_with fail
 refine(sC _ _ _ _ _ _ _ _ hx1).mono ?_;rintro zz w25 ⟨rfl,bb26⟩;have q27:=q16.l bb26;have q28:=q17.l bb26;have q29:=q18.l bb26;have b30:=aa b19 bb26;clear q16 q17 q18 b19 bb26 c20 c21 c22 c23 c24;obtain⟨c31,c32,c33,c34,c35⟩:=q27.cs5
 go_wp2_with fail
 refine(iY _ _ _ _ _ _ _ _ hx3).mono ?_;rintro zz w36 ⟨rfl,bb37⟩;have q38:=q28.l bb37;have q39:=q29.l bb37;have b40:=aa b30 bb37;clear q27 q28 q29 b30 bb37 c31 c32 c33 c34 c35;obtain⟨c41,c42,c43,c44,c45⟩:=q38.cs5
 go_wp2_with fail
 refine(lF _ _ _ _ _ _ _).mono ?_;rintro zz w46 ⟨rfl,bb47⟩;have q48:=q39.l bb47;have b49:=aa b40 bb47;clear q38 q39 b40 bb47 c41 c42 c43 c44 c45;have hf:=dL (P:=Tryz.prog) q48 b49 (by omega) underlying76 rfl (by kernel_rfl) (yi 3) (.bool (gx != gy)) (.bool false) yN (yi 0);have HH:Hid (_∧_):=⟨hf.1,hf.2.1⟩;obtain⟨⟨z0,z1,z2,z3,z4⟩,y0,y1,y2,y3,y4⟩:=dN q48;clear hf q48 b49
 go_wp2
 obtain⟨hl,bR⟩:=HH.out;exact bodyPost_ret (aj results41 rfl rfl hl) rfl ⟨_,rfl,aN _ _,bR⟩
theorem Ol (cy c:Int)(g:Bool)(t u:ak)(n wy fam R D L G:Int)(gr:Bool)(gx gy:Bool)(x y:ak)(xo yo:Option Addr)(xc yc:Nat)(w:World)(hy3:(cy==3)=false)
  (HT: ∀w1,yB w w1→yC 81 #[yDV x xo xc,yDV y yo yc] w1 (jN w1 u))
  (HM: ∀uo uc w1,Rd w1 .u32 (yT uo u.n uc) (Dg.dg 4294967296 u.n)→yC 61 #[yDV u uo uc,.bool (gx != gy)] w1 (xj w1 c g t)):
  yC 41 #[ykV n wy fam R D L G gr,yOV 1 gx x xo xc,yOV cy gy y yo yc] w (dU w c g t 0):=by
 replace HT:Hid _:=HT;replace HM:Hid _:=HM;obtain⟨W6,hW7,q1,q2,q3,q4,b5⟩:=pi w (ykL n wy fam R D L G gr) 69 (yOL 1 gx x xo xc) 76 (yOL cy gy y yo yc) 76 (yoL 0 false false yN 0) 76;replace hW7:Hid _:=hW7;clear q1
 go_enter func41,ntmps41
 go_upto_region 1 with fail
 rw[hW7.out];clear hW7;obtain⟨c8,c9,c10,c11,c12⟩:=q2.cs5;have c13:=q3.c 1 rfl
 go_wp2_with fail
 refine(iY _ _ _ _ _ _ _ _ rfl).mono ?_;rintro zz w14 ⟨rfl,bb15⟩;have q16:=q2.l bb15;have q17:=q3.l bb15;have q18:=q4.l bb15;have b19:=aa b5 bb15;clear q2 q3 q4 b5 bb15 c8 c9 c10 c11 c12 c13;obtain⟨c20,c21,c22,c23,c24⟩:=q16.cs5
 go_wp2_with fail
 refine(BR _ _ _ _ _ _ _).mono ?_;rintro zz w25 ⟨rfl,bb26⟩;have q27:=q16.l bb26;have q28:=q17.l bb26;have q29:=q18.l bb26;have b30:=aa b19 bb26;clear q16 q17 q18 b19 bb26 c20 c21 c22 c23 c24;obtain⟨c31,c32,c33,c34,c35⟩:=q28.cs5
 go_wp2_with fail
 refine(iY _ _ _ _ _ _ _ _ hy3).mono ?_;rintro zz w36 ⟨rfl,bb37⟩;have q38:=q27.l bb37;have q39:=q28.l bb37;have q40:=q29.l bb37;have b41:=aa b30 bb37;clear q27 q28 q29 b30 bb37 c31 c32 c33 c34 c35;obtain⟨c42,c43,c44,c45,c46⟩:=q38.cs5
 go_wp2_with fail
 refine(iY _ _ _ _ _ _ _ _ rfl).mono ?_;rintro zz w47 ⟨rfl,bb48⟩;have q49:=q38.l bb48;have q50:=q39.l bb48;have q51:=q40.l bb48;have b52:=aa b41 bb48;clear q38 q39 q40 b41 bb48 c42 c43 c44 c45 c46;obtain⟨c53,c54,c55,c56,c57⟩:=q50.cs5
 go_wp2_with fail
 refine(iY _ _ _ _ _ _ _ _ hy3).mono ?_;rintro zz w58 ⟨rfl,bb59⟩;have q60:=q49.l bb59;have q61:=q50.l bb59;have q62:=q51.l bb59;have b63:=aa b52 bb59;clear q49 q50 q51 b52 bb59 c53 c54 c55 c56 c57;have c64:=q60.c 2 rfl;have c65:=q60.c 3 rfl;have c66:=q60.c 4 rfl;have c67:=q61.c 2 rfl;have c68:=q61.c 3 rfl;have c69:=q61.c 4 rfl
 go_wp2_with fail
 refine(HT.out _ b63).mono ?_;rintro zz w70 ⟨v172,rfl,r173,bb71⟩;have q74:=q62.l bb71;have b75:=aa b63 bb71;have r76:=r173.rd;obtain⟨uo,uc,hv⟩:=r76.shape;subst hv;clear q60 q61 q62 b63 bb71 r173 HT c64 c65 c66 c67 c68 c69
 go_wp2_with fail
 refine(HM.out _ _ _ r76).mono ?_;rintro zz w77 ⟨v179,rfl,r180,bb78⟩;have q81:=q74.l bb78;have r82:=r76.l bb78;have b83:=aa b75 bb78;obtain⟨so,sc,hv⟩:=r180.shape;subst hv;clear q74 r76 b75 bb78 HM;have hf:=dL (P:=Tryz.prog) q81 b83 (by omega) underlying76 rfl (by kernel_rfl) (yi c) (.bool g) (.bool t.s) (yT so t.n sc) (yi t.e);have HH:Hid (_∧_∧_):=⟨hf.1,hf.2.2.rd r180 (aX r180 q81 (by simp)),hf.2.1⟩;obtain⟨⟨z0,z1,z2,z3,z4⟩,y0,y1,y2,y3,y4⟩:=dN q81;clear hf q81 r82 r180 b83
 go_wp2
 obtain⟨hl,rRs,bR⟩:=HH.out;exact bodyPost_ret (aj results41 rfl rfl hl) rfl ⟨_,rfl,rRs,bR⟩
theorem K5 (cx cy c:Int)(g:Bool)(t u:ak)(n wy fam R D L G:Int)(gr:Bool)(gx gy:Bool)(x y:ak)(xo yo:Option Addr)(xc yc:Nat)(w:World)(hx3:(cx==3)=false)(hx1:(cx==1)=false)(hy3:(cy==3)=false)
  (HT: ∀w1,yB w w1→yC 81 #[yDV x xo xc,yDV y yo yc] w1 (jN w1 u))
  (HM: ∀uo uc w1,Rd w1 .u32 (yT uo u.n uc) (Dg.dg 4294967296 u.n)→yC 61 #[yDV u uo uc,.bool (gx != gy)] w1 (xj w1 c g t)):
  yC 41 #[ykV n wy fam R D L G gr,yOV cx gx x xo xc,yOV cy gy y yo yc] w (dU w c g t 0):=by
 replace HT:Hid _:=HT;replace HM:Hid _:=HM;obtain⟨W6,hW7,q1,q2,q3,q4,b5⟩:=pi w (ykL n wy fam R D L G gr) 69 (yOL cx gx x xo xc) 76 (yOL cy gy y yo yc) 76 (yoL 0 false false yN 0) 76;replace hW7:Hid _:=hW7;clear q1
 go_enter func41,ntmps41
 go_upto_region 1 with fail
 rw[hW7.out];clear hW7;obtain⟨c8,c9,c10,c11,c12⟩:=q2.cs5;have c13:=q3.c 1 rfl
 go_wp2_with fail
 refine(iY _ _ _ _ _ _ _ _ hx3).mono ?_;rintro zz w14 ⟨rfl,bb15⟩;have q16:=q2.l bb15;have q17:=q3.l bb15;have q18:=q4.l bb15;have b19:=aa b5 bb15;clear q2 q3 q4 b5 bb15 c8 c9 c10 c11 c12 c13;obtain⟨c20,c21,c22,c23,c24⟩:=q16.cs5
 go_wp2_with fail
 refine(sC _ _ _ _ _ _ _ _ hx1).mono ?_;rintro zz w25 ⟨rfl,bb26⟩;have q27:=q16.l bb26;have q28:=q17.l bb26;have q29:=q18.l bb26;have b30:=aa b19 bb26;clear q16 q17 q18 b19 bb26 c20 c21 c22 c23 c24;obtain⟨c31,c32,c33,c34,c35⟩:=q27.cs5
 go_wp2_with fail
 refine(iY _ _ _ _ _ _ _ _ hx3).mono ?_;rintro zz w36 ⟨rfl,bb37⟩;have q38:=q27.l bb37;have q39:=q28.l bb37;have q40:=q29.l bb37;have b41:=aa b30 bb37;clear q27 q28 q29 b30 bb37 c31 c32 c33 c34 c35;obtain⟨c42,c43,c44,c45,c46⟩:=q39.cs5
 go_wp2_with fail
 refine(iY _ _ _ _ _ _ _ _ hy3).mono ?_;rintro zz w47 ⟨rfl,bb48⟩;have q49:=q38.l bb48;have q50:=q39.l bb48;have q51:=q40.l bb48;have b52:=aa b41 bb48;clear q38 q39 q40 b41 bb48 c42 c43 c44 c45 c46;have c53:=q49.c 2 rfl;have c54:=q49.c 3 rfl;have c55:=q49.c 4 rfl;have c56:=q50.c 2 rfl;have c57:=q50.c 3 rfl;have c58:=q50.c 4 rfl
 go_wp2_with fail
 refine(HT.out _ b52).mono ?_;rintro zz w59 ⟨v161,rfl,r162,bb60⟩;have q63:=q51.l bb60;have b64:=aa b52 bb60;have r65:=r162.rd;obtain⟨uo,uc,hv⟩:=r65.shape;subst hv;clear q49 q50 q51 b52 bb60 r162 HT c53 c54 c55 c56 c57 c58
 go_wp2_with fail
 refine(HM.out _ _ _ r65).mono ?_;rintro zz w66 ⟨v168,rfl,r169,bb67⟩;have q70:=q63.l bb67;have r71:=r65.l bb67;have b72:=aa b64 bb67;obtain⟨so,sc,hv⟩:=r169.shape;subst hv;clear q63 r65 b64 bb67 HM;have hf:=dL (P:=Tryz.prog) q70 b72 (by omega) underlying76 rfl (by kernel_rfl) (yi c) (.bool g) (.bool t.s) (yT so t.n sc) (yi t.e);have HH:Hid (_∧_∧_):=⟨hf.1,hf.2.2.rd r169 (aX r169 q70 (by simp)),hf.2.1⟩;obtain⟨⟨z0,z1,z2,z3,z4⟩,y0,y1,y2,y3,y4⟩:=dN q70;clear hf q70 r71 r169 b72
 go_wp2
 obtain⟨hl,rRs,bR⟩:=HH.out;exact bodyPost_ret (aj results41 rfl rfl hl) rfl ⟨_,rfl,rRs,bR⟩
theorem abr (n way f1 e1:Int)(a b c st:ByteArray)(w:World)
  (HR: ∀pb w1,yB w w1→au w1 pb 9 [.string a,.string b,.string c]→yC 29 #[yi n,yi way,.func (.func 40) #[] #[],.slice (some ⟨pb,0,none⟩) 3 3] w1 (yR w1 (.tuple #[.string st,yi f1,yi e1]))):
  yC 15 #[yi n,.string a,.string b,.string c,yi way] w (yR w (.tuple #[.string st,yi f1,yi e1])):=by
 replace HR:Hid _:=HR
 go_enter func15,ntmps15
 have b0:=Below.refl w.heap.size w;have al1:=af w (.cells #[.string a,.string b,.string c] 9);have q2:=ah w [.string a,.string b,.string c] 9;have b3:=aa b0 al1
 go_wp2_with fail
 refine(HR.out _ _ b3 q2).mono ?_;rintro zz w4 ⟨rfl,bb5⟩;have b6:=aa b3 bb5;clear q2 b3 bb5 b0 al1
 go_wp2
 go_ret3
 exact⟨rfl,b6⟩
theorem NW (cp fp:Int)(gp:Bool)(p:ak)(cx cy cz:Int)(n wy fam R D L G:Int)(gr:Bool)(gx gy gz:Bool)(x y z:ak)(xo yo zo:Option Addr)(xc yc zc:Nat)(g cap:Nat)(w:World)(hf:(fp==0)=false)(h0:w.rangeAt g 0 (yOL cx gx x xo xc))(h1:w.rangeAt g 5 (yOL cy gy y yo yc))(h2:w.rangeAt g 10 (yOL cz gz z zo zc))
  (HP: ∀w1,yB w w1→yC 41 #[ykV n wy fam R D L G gr,yOV cx gx x xo xc,yOV cy gy y yo yc] w1 (dU w1 cp gp p fp)):
  yC 40 #[ykV n wy fam R D L G gr,.slice (some ⟨g,0,none⟩) 3 cap] w (dU w cp gp p fp):=by
 replace HP:Hid _:=HP;have hgl:g<w.heap.size:=World.block_lt_of_cell? w _ (h0 0 _ rfl);obtain⟨W4,hW5,q1,q2,b3⟩:=iG w (ykL n wy fam R D L G gr) 69 (yoL 0 false false yN 0) 76;replace hW5:Hid _:=hW5;have q6:=aC h0 b3;have q7:=aC h1 b3;have q8:=aC h2 b3;clear h0 h1 h2
 go_enter func40,ntmps40
 go_upto_region 1 with fail
 rw[hW5.out];clear hW5
 go_upto_region 1 with fail
 have bW9:yB W4 W4.drew:=(Below.refl _ _).drew;have q10:=aC q6 bW9;have q11:=aC q7 bW9;have q12:=q1.l bW9;have q13:=q2.l bW9;have b14:=aa b3 bW9;clear q6 q7 q8 q1 q2 b3 bW9;refine wp_region_held_drew (S:=fun wq=>wq.rangeAt g 0 (yOL cx gx x xo xc)∧wq.rangeAt g 5 (yOL cy gy y yo yc)∧au wq w.heap.size 69 (ykL n wy fam R D L G gr)) (by kernel_rfl) ⟨q10,q11,q12⟩ (fun hS0=> ?_)
 generalize W4.drew=WD15 at q10 q11 q12 q13 b14 hS0⊢;refine tq 0 (ykV n wy fam R D L G gr) rfl (fun _ hw0=>fy 69 (.tmp 2) rfl w.heap.size 0 (by kernel_rfl) _ _ hw0.2.2.range underlying69 rfl (by kernel_rfl)) hS0 ?_
 refine tq 1 (.slice (some ⟨g,0,none⟩) 3 cap) rfl (fun _ _=>by kernel_rfl) hS0 ?_
 refine tq 2 (.pointer (some ⟨g,0,none⟩)) rfl (fun _ _=>by kernel_rfl) hS0 ?_
 refine tq 3 (yOV cx gx x xo xc) rfl (fun _ hw0=>fy 76 (.tmp 11) rfl g 0 (by kernel_rfl) _ _ hw0.1 underlying76 rfl (by kernel_rfl)) hS0 ?_
 refine tq 4 (.slice (some ⟨g,0,none⟩) 3 cap) rfl (fun _ _=>by kernel_rfl) hS0 ?_
 refine tq 5 (.pointer (some ⟨g,5,none⟩)) rfl (fun _ _=>by kernel_rfl) hS0 ?_
 refine tq 6 (yOV cy gy y yo yc) rfl (fun _ hw0=>fy 76 (.tmp 14) rfl g 5 (by kernel_rfl) _ _ hw0.2.1 underlying76 rfl (by kernel_rfl)) hS0 ?_
 refine wpAnyH_ready (rs:=[7,11]) (by kernel_rfl) (by simp) ?_;refine AllReadyH.cons rfl (fun K hK=> ?_) (AllReadyH.cons rfl (fun K hK=> ?_) AllReadyH.nil)
 ·go_simp
  refine(HP.out _ b14).mono ?_;rintro zz w16 ⟨v118,rfl,r119,bb17⟩;have q20:=aC q10 bb17;have q21:=aC q11 bb17;have q22:=q12.l bb17;have q23:=q13.l bb17;have b24:=aa b14 bb17;obtain⟨po,pc,hv⟩:=r119.shape;subst hv;clear q10 q11 q12 q13 b14 bb17 HP;refine hK.out _ _ ⟨q20,q21,q22⟩ (fun hS25=> ?_)
  clear hK K;refine tq 8 (.tuple #[yOV cp gp p po pc,yi fp]) rfl (fun _ _=>by kernel_rfl) hS25 ?_
  refine tq 9 (yOV cp gp p po pc) rfl (fun _ _=>by go_simp) hS25 ?_
  refine tq 10 (yi fp) rfl (fun _ _=>by go_simp) hS25 ?_
  refine wpAnyH_ready (rs:=[11]) (by kernel_rfl) (by simp) ?_;refine AllReadyH.cons rfl (fun K hK=> ?_) AllReadyH.nil
  go_simp
  have al26:=af w16 (.cells (yoA 0 false false yN 0) 76);have q27:=ah w16 (yoL 0 false false yN 0) 76;have hl30:w.heap.size≤w16.heap.size:=b24.size;have hl31:=q22.lt;have hl32:=q23.lt;have q33:=aC q20 al26;have q34:=aC q21 al26;have q35:=q22.l al26;have q36:=q23.l al26;have r37:=r119.l al26;have b38:=aa b24 al26;refine hK.out _ _ ⟨q33,q34,q35⟩ (fun hS39=> ?_)
  clear hK K;clear q20 q21 q22 q23 r119 b24 al26;generalize w16.alloc (.cells (yoA 0 false false yN 0) 76)=WN28 at q33 q34 q35 q36 q27 r37 b38 hS39⊢;generalize w16.heap.size=PQ29 at q27 hl30 hl31 hl32⊢;refine wpAnyH_ready (rs:=[12]) (by kernel_rfl) (by simp) ?_;refine AllReadyH.cons rfl (fun K hK=> ?_) AllReadyH.nil
  have bu:But PQ29 WN28 (WN28.setCells PQ29 0 (yOL cp gp p po pc)):=de _ _ _ _;have hth:WN28.there PQ29 0 5:=dD q27;have q40:au (WN28.setCells PQ29 0 (yOL cp gp p po pc)) PQ29 76 (yOL cp gp p po pc):=q27.sets _ rfl;have r41:=bu.rd r37 (aX r37 q27 (by simp));have q42:=dZ bu q33 (by omega);have q43:=dZ bu q34 (by omega);have q44:=bu.loc q35 (by omega);have q45:=bu.loc q36 (by omega);have b46:=bu.below b38 (by omega);rw[if_pos (by kernel_rfl)];refine wp_store_mid 76 (.tmp 6) (.tmp 17) rfl PQ29 0 (yOA cp gp p po pc) (by kernel_rfl) (by kernel_rfl) hth (by kernel_rfl) (by simp[Value.oneCell']) ?_;refine hK.out _ _ ⟨q42,q43,q44⟩ (fun hS47=> ?_)
  clear hK K;clear q27 r37 q33 q34 q35 q36 b38 bu hth;refine tq 13 (yi fp) rfl (fun _ _=>by kernel_rfl) hS47 ?_
  refine wpAnyH_done (by kernel_rfl) ?_ _;clear hS0 hS25 hS39 hS47;change Exit.then _ _ _ _ (World.setCells WN28 PQ29 0 (yOL cp gp p po pc));generalize World.setCells WN28 PQ29 0 (yOL cp gp p po pc)=W48 at q42 q43 q44 q45 q40 r41 b46⊢;simp only[Act.put,List.getElem_toArray,List.getElem_cons_succ,List.getElem_cons_zero,List.setIfInBounds_toArray,List.set_cons_zero,List.set_cons_succ];obtain⟨c49,c50,c51,c52,c53⟩:=q40.cs5;have hf:=dL (P:=Tryz.prog) q45 b46 (by omega) underlying76 rfl (by kernel_rfl) (yi cp) (.bool gp) (.bool p.s) (yT po p.n pc) (yi p.e);have HH:Hid (_∧_∧_):=⟨hf.1,hf.2.2.rd r41 (aX r41 q45 (by simp)),hf.2.1⟩;obtain⟨⟨z0,z1,z2,z3,z4⟩,y0,y1,y2,y3,y4⟩:=dN q45;clear hf q42 q43 q44 q45 q40 r41 b46
  go_wp2
  obtain⟨hl,rRp,bR⟩:=HH.out;exact bodyPost_ret (aj results40 rfl rfl hl) rfl ⟨_,rfl,rRp,bR⟩
 ·go_simp
  have al16:=af WD15 (.cells (yoA 0 false false yN 0) 76);have q17:=ah WD15 (yoL 0 false false yN 0) 76;have hl20:w.heap.size≤WD15.heap.size:=b14.size;have hl21:=q12.lt;have hl22:=q13.lt;have q23:=aC q10 al16;have q24:=aC q11 al16;have q25:=q12.l al16;have q26:=q13.l al16;have b27:=aa b14 al16;refine hK.out _ _ ⟨q23,q24,q25⟩ (fun hS28=> ?_)
  clear hK K;clear q10 q11 q12 q13 b14 al16;generalize WD15.alloc (.cells (yoA 0 false false yN 0) 76)=WN18 at q23 q24 q25 q26 q17 b27 hS28⊢;generalize WD15.heap.size=PQ19 at q17 hl20 hl21 hl22⊢;refine wpAnyH_ready (rs:=[7]) (by kernel_rfl) (by simp) ?_;refine AllReadyH.cons rfl (fun K hK=> ?_) AllReadyH.nil
  go_simp
  refine(HP.out _ b27).mono ?_;rintro zz w29 ⟨v131,rfl,r132,bb30⟩;have q33:=aC q23 bb30;have q34:=aC q24 bb30;have q35:=q25.l bb30;have q36:=q26.l bb30;have q37:=q17.l bb30;have b38:=aa b27 bb30;obtain⟨po,pc,hv⟩:=r132.shape;subst hv;clear q23 q24 q25 q26 q17 b27 bb30 HP;refine hK.out _ _ ⟨q33,q34,q35⟩ (fun hS39=> ?_)
  clear hK K;refine tq 8 (.tuple #[yOV cp gp p po pc,yi fp]) rfl (fun _ _=>by kernel_rfl) hS39 ?_
  refine tq 9 (yOV cp gp p po pc) rfl (fun _ _=>by go_simp) hS39 ?_
  refine tq 10 (yi fp) rfl (fun _ _=>by go_simp) hS39 ?_
  refine wpAnyH_ready (rs:=[12]) (by kernel_rfl) (by simp) ?_;refine AllReadyH.cons rfl (fun K hK=> ?_) AllReadyH.nil
  have bu:But PQ19 w29 (w29.setCells PQ19 0 (yOL cp gp p po pc)):=de _ _ _ _;have hth:w29.there PQ19 0 5:=dD q37;have q40:au (w29.setCells PQ19 0 (yOL cp gp p po pc)) PQ19 76 (yOL cp gp p po pc):=q37.sets _ rfl;have r41:=bu.rd r132 (aX r132 q37 (by simp));have q42:=dZ bu q33 (by omega);have q43:=dZ bu q34 (by omega);have q44:=bu.loc q35 (by omega);have q45:=bu.loc q36 (by omega);have b46:=bu.below b38 (by omega);rw[if_pos (by kernel_rfl)];refine wp_store_mid 76 (.tmp 6) (.tmp 17) rfl PQ19 0 (yOA cp gp p po pc) (by kernel_rfl) (by kernel_rfl) hth (by kernel_rfl) (by simp[Value.oneCell']) ?_;refine hK.out _ _ ⟨q42,q43,q44⟩ (fun hS47=> ?_)
  clear hK K;clear q37 r132 q33 q34 q35 q36 b38 bu hth;refine tq 13 (yi fp) rfl (fun _ _=>by kernel_rfl) hS47 ?_
  refine wpAnyH_done (by kernel_rfl) ?_ _;clear hS0 hS28 hS39 hS47;change Exit.then _ _ _ _ (World.setCells w29 PQ19 0 (yOL cp gp p po pc));generalize World.setCells w29 PQ19 0 (yOL cp gp p po pc)=W48 at q42 q43 q44 q45 q40 r41 b46⊢;simp only[Act.put,List.getElem_toArray,List.getElem_cons_succ,List.getElem_cons_zero,List.setIfInBounds_toArray,List.set_cons_zero,List.set_cons_succ];obtain⟨c49,c50,c51,c52,c53⟩:=q40.cs5;have hf:=dL (P:=Tryz.prog) q45 b46 (by omega) underlying76 rfl (by kernel_rfl) (yi cp) (.bool gp) (.bool p.s) (yT po p.n pc) (yi p.e);have HH:Hid (_∧_∧_):=⟨hf.1,hf.2.2.rd r41 (aX r41 q45 (by simp)),hf.2.1⟩;obtain⟨⟨z0,z1,z2,z3,z4⟩,y0,y1,y2,y3,y4⟩:=dN q45;clear hf q42 q43 q44 q45 q40 r41 b46
  go_wp2
  obtain⟨hl,rRp,bR⟩:=HH.out;exact bodyPost_ret (aj results40 rfl rfl hl) rfl ⟨_,rfl,rRp,bR⟩
theorem ZK (cp:Int)(gp:Bool)(p:ak)(cx cy cz c fl:Int)(gg:Bool)(t:ak)(n wy fam R D L G:Int)(gr:Bool)(gx gy gz:Bool)(x y z:ak)(xo yo zo:Option Addr)(xc yc zc:Nat)(g cap:Nat)(w:World)(h0:w.rangeAt g 0 (yOL cx gx x xo xc))(h1:w.rangeAt g 5 (yOL cy gy y yo yc))(h2:w.rangeAt g 10 (yOL cz gz z zo zc))
  (HP: ∀w1,yB w w1→yC 41 #[ykV n wy fam R D L G gr,yOV cx gx x xo xc,yOV cy gy y yo yc] w1 (dU w1 cp gp p 0))
  (HS: ∀po pc w1,yB w w1→Rd w1 .u32 (yT po p.n pc) (Dg.dg 4294967296 p.n)→yC 31 #[ykV n wy fam R D L G gr,yOV cp gp p po pc,yOV cz gz z zo zc] w1 (dU w1 c gg t fl)):
  yC 40 #[ykV n wy fam R D L G gr,.slice (some ⟨g,0,none⟩) 3 cap] w (dU w c gg t fl):=by
 replace HP:Hid _:=HP;replace HS:Hid _:=HS;have hgl:g<w.heap.size:=World.block_lt_of_cell? w _ (h0 0 _ rfl);obtain⟨W4,hW5,q1,q2,b3⟩:=iG w (ykL n wy fam R D L G gr) 69 (yoL 0 false false yN 0) 76;replace hW5:Hid _:=hW5;have q6:=aC h0 b3;have q7:=aC h1 b3;have q8:=aC h2 b3;clear h0 h1 h2
 go_enter func40,ntmps40
 go_upto_region 1 with fail
 rw[hW5.out];clear hW5
 go_upto_region 1 with fail
 have bW9:yB W4 W4.drew:=(Below.refl _ _).drew;have q10:=aC q6 bW9;have q11:=aC q7 bW9;have q12:=aC q8 bW9;have q13:=q1.l bW9;have q14:=q2.l bW9;have b15:=aa b3 bW9;clear q6 q7 q8 q1 q2 b3 bW9;refine wp_region_held_drew (S:=fun wq=>wq.rangeAt g 0 (yOL cx gx x xo xc)∧wq.rangeAt g 5 (yOL cy gy y yo yc)∧au wq w.heap.size 69 (ykL n wy fam R D L G gr)) (by kernel_rfl) ⟨q10,q11,q13⟩ (fun hS0=> ?_)
 generalize W4.drew=WD16 at q10 q11 q12 q13 q14 b15 hS0⊢;refine tq 0 (ykV n wy fam R D L G gr) rfl (fun _ hw0=>fy 69 (.tmp 2) rfl w.heap.size 0 (by kernel_rfl) _ _ hw0.2.2.range underlying69 rfl (by kernel_rfl)) hS0 ?_
 refine tq 1 (.slice (some ⟨g,0,none⟩) 3 cap) rfl (fun _ _=>by kernel_rfl) hS0 ?_
 refine tq 2 (.pointer (some ⟨g,0,none⟩)) rfl (fun _ _=>by kernel_rfl) hS0 ?_
 refine tq 3 (yOV cx gx x xo xc) rfl (fun _ hw0=>fy 76 (.tmp 11) rfl g 0 (by kernel_rfl) _ _ hw0.1 underlying76 rfl (by kernel_rfl)) hS0 ?_
 refine tq 4 (.slice (some ⟨g,0,none⟩) 3 cap) rfl (fun _ _=>by kernel_rfl) hS0 ?_
 refine tq 5 (.pointer (some ⟨g,5,none⟩)) rfl (fun _ _=>by kernel_rfl) hS0 ?_
 refine tq 6 (yOV cy gy y yo yc) rfl (fun _ hw0=>fy 76 (.tmp 14) rfl g 5 (by kernel_rfl) _ _ hw0.2.1 underlying76 rfl (by kernel_rfl)) hS0 ?_
 refine wpAnyH_ready (rs:=[7,11]) (by kernel_rfl) (by simp) ?_;refine AllReadyH.cons rfl (fun K hK=> ?_) (AllReadyH.cons rfl (fun K hK=> ?_) AllReadyH.nil)
 ·go_simp
  refine(HP.out _ b15).mono ?_;rintro zz w17 ⟨v119,rfl,r120,bb18⟩;have q21:=aC q10 bb18;have q22:=aC q11 bb18;have q23:=aC q12 bb18;have q24:=q13.l bb18;have q25:=q14.l bb18;have b26:=aa b15 bb18;obtain⟨po,pc,hv⟩:=r120.shape;subst hv;clear q10 q11 q12 q13 q14 b15 bb18 HP;refine hK.out _ _ ⟨q21,q22,q24⟩ (fun hS27=> ?_)
  clear hK K;refine tq 8 (.tuple #[yOV cp gp p po pc,yi 0]) rfl (fun _ _=>by kernel_rfl) hS27 ?_
  refine tq 9 (yOV cp gp p po pc) rfl (fun _ _=>by go_simp) hS27 ?_
  refine tq 10 (yi 0) rfl (fun _ _=>by go_simp) hS27 ?_
  refine wpAnyH_ready (rs:=[11]) (by kernel_rfl) (by simp) ?_;refine AllReadyH.cons rfl (fun K hK=> ?_) AllReadyH.nil
  go_simp
  have al28:=af w17 (.cells (yoA 0 false false yN 0) 76);have q29:=ah w17 (yoL 0 false false yN 0) 76;have hl32:w.heap.size≤w17.heap.size:=b26.size;have hl33:=q24.lt;have hl34:=q25.lt;have q35:=aC q21 al28;have q36:=aC q22 al28;have q37:=aC q23 al28;have q38:=q24.l al28;have q39:=q25.l al28;have r40:=r120.l al28;have b41:=aa b26 al28;refine hK.out _ _ ⟨q35,q36,q38⟩ (fun hS42=> ?_)
  clear hK K;clear q21 q22 q23 q24 q25 r120 b26 al28;generalize w17.alloc (.cells (yoA 0 false false yN 0) 76)=WN30 at q35 q36 q37 q38 q39 q29 r40 b41 hS42⊢;generalize w17.heap.size=PQ31 at q29 hl32 hl33 hl34⊢;refine wpAnyH_ready (rs:=[12]) (by kernel_rfl) (by simp) ?_;refine AllReadyH.cons rfl (fun K hK=> ?_) AllReadyH.nil
  have bu:But PQ31 WN30 (WN30.setCells PQ31 0 (yOL cp gp p po pc)):=de _ _ _ _;have hth:WN30.there PQ31 0 5:=dD q29;have q43:au (WN30.setCells PQ31 0 (yOL cp gp p po pc)) PQ31 76 (yOL cp gp p po pc):=q29.sets _ rfl;have r44:=bu.rd r40 (aX r40 q29 (by simp));have q45:=dZ bu q35 (by omega);have q46:=dZ bu q36 (by omega);have q47:=dZ bu q37 (by omega);have q48:=bu.loc q38 (by omega);have q49:=bu.loc q39 (by omega);have b50:=bu.below b41 (by omega);rw[if_pos (by kernel_rfl)];refine wp_store_mid 76 (.tmp 6) (.tmp 17) rfl PQ31 0 (yOA cp gp p po pc) (by kernel_rfl) (by kernel_rfl) hth (by kernel_rfl) (by simp[Value.oneCell']) ?_;refine hK.out _ _ ⟨q45,q46,q48⟩ (fun hS51=> ?_)
  clear hK K;clear q29 r40 q35 q36 q37 q38 q39 b41 bu hth;refine tq 13 (yi 0) rfl (fun _ _=>by kernel_rfl) hS51 ?_
  refine wpAnyH_done (by kernel_rfl) ?_ _;clear hS0 hS27 hS42 hS51;change Exit.then _ _ _ _ (World.setCells WN30 PQ31 0 (yOL cp gp p po pc));generalize World.setCells WN30 PQ31 0 (yOL cp gp p po pc)=W52 at q45 q46 q47 q48 q49 q43 r44 b50⊢;simp only[Act.put,List.getElem_toArray,List.getElem_cons_succ,List.getElem_cons_zero,List.setIfInBounds_toArray,List.set_cons_zero,List.set_cons_succ]
  go_upto_region 4 with fail
  have bW53:yB W52 W52.drew:=(Below.refl _ _).drew;have q54:=aC q47 bW53;have q55:=q48.l bW53;have q56:=q49.l bW53;have q57:=q43.l bW53;have r58:=r44.l bW53;have b59:=aa b50 bW53;clear q45 q46 q47 q48 q49 q43 r44 b50 bW53;refine wp_region_held_drew (S:=fun wq=>wq.rangeAt g 10 (yOL cz gz z zo zc)∧au wq w.heap.size 69 (ykL n wy fam R D L G gr)∧au wq PQ31 76 (yOL cp gp p po pc)) (by kernel_rfl) ⟨q54,q55,q57⟩ (fun hS0=> ?_)
  generalize W52.drew=WD60 at q54 q55 q56 q57 r58 b59 hS0⊢;refine tq 0 (ykV n wy fam R D L G gr) rfl (fun _ hw0=>fy 69 (.tmp 2) rfl w.heap.size 0 (by kernel_rfl) _ _ hw0.2.1.range underlying69 rfl (by kernel_rfl)) hS0 ?_
  refine tq 1 (yOV cp gp p po pc) rfl (fun _ hw0=>fy 76 (.tmp 6) rfl PQ31 0 (by kernel_rfl) _ _ hw0.2.2.range underlying76 rfl (by kernel_rfl)) hS0 ?_
  refine tq 2 (.slice (some ⟨g,0,none⟩) 3 cap) rfl (fun _ _=>by kernel_rfl) hS0 ?_
  refine tq 3 (.pointer (some ⟨g,10,none⟩)) rfl (fun _ _=>by kernel_rfl) hS0 ?_
  refine tq 4 (yOV cz gz z zo zc) rfl (fun _ hw0=>fy 76 (.tmp 26) rfl g 10 (by kernel_rfl) _ _ hw0.1 underlying76 rfl (by kernel_rfl)) hS0 ?_
  refine wpAnyH_ready (rs:=[5]) (by kernel_rfl) (by simp) ?_;refine AllReadyH.cons rfl (fun K hK=> ?_) AllReadyH.nil
  go_simp
  refine(HS.out _ _ _ b59 r58).mono ?_;rintro zz w61 ⟨v163,rfl,r164,bb62⟩;have q65:=aC q54 bb62;have q66:=q55.l bb62;have q67:=q56.l bb62;have q68:=q57.l bb62;have r69:=r58.l bb62;have b70:=aa b59 bb62;obtain⟨so,sc,hv⟩:=r164.shape;subst hv;clear q54 q55 q56 q57 r58 b59 bb62 HS;refine hK.out _ _ ⟨q65,q66,q68⟩ (fun hS71=> ?_)
  clear hK K;refine tq 6 (yOV c gg t so sc) rfl (fun _ _=>by go_simp) hS71 ?_
  refine tq 7 (yi fl) rfl (fun _ _=>by go_simp) hS71 ?_
  refine wpAnyH_ready (rs:=[8]) (by kernel_rfl) (by simp) ?_;refine AllReadyH.cons rfl (fun K hK=> ?_) AllReadyH.nil
  have bu:But (w.heap.size+1) w61 (w61.setCells (w.heap.size+1) 0 (yOL c gg t so sc)):=de _ _ _ _;have hth:w61.there (w.heap.size+1) 0 5:=dD q67;have q72:au (w61.setCells (w.heap.size+1) 0 (yOL c gg t so sc)) (w.heap.size+1) 76 (yOL c gg t so sc):=q67.sets _ rfl;have r73:=bu.rd r69 (aX r69 q67 (by simp));have r74:=bu.rd r164 (aX r164 q67 (by simp));have q75:=dZ bu q65 (by omega);have q76:=bu.loc q66 (by omega);have q77:=bu.loc q68 (by omega);have b78:=bu.below b70 (by omega);rw[if_pos (by kernel_rfl)];refine wp_store_mid 76 (.tmp 4) (.tmp 29) rfl (w.heap.size+1) 0 (yOA c gg t so sc) (by kernel_rfl) (by kernel_rfl) hth (by kernel_rfl) (by simp[Value.oneCell']) ?_;refine hK.out _ _ ⟨q75,q76,q77⟩ (fun hS79=> ?_)
  clear hK K;clear q67 r69 r164 q65 q66 q68 b70 bu hth;refine tq 9 (yi fl) rfl (fun _ _=>by kernel_rfl) hS79 ?_
  refine wpAnyH_done (by kernel_rfl) ?_ _;clear hS0 hS71 hS79;change Exit.then _ _ _ _ (World.setCells w61 (w.heap.size+1) 0 (yOL c gg t so sc));generalize World.setCells w61 (w.heap.size+1) 0 (yOL c gg t so sc)=W80 at q75 q76 q72 q77 r73 r74 b78⊢;simp only[Act.put,List.getElem_toArray,List.getElem_cons_succ,List.getElem_cons_zero,List.setIfInBounds_toArray,List.set_cons_zero,List.set_cons_succ];have hl:=run_loadVar_mid (P:=Tryz.prog) _ (w.heap.size+1) 0 76 (yOL c gg t so sc) _ q72.range underlying76 rfl (by kernel_rfl)
  go_wp2
  exact bodyPost_ret (aj results40 rfl rfl hl) rfl ⟨_,rfl,r74,b78⟩
 ·go_simp
  have al17:=af WD16 (.cells (yoA 0 false false yN 0) 76);have q18:=ah WD16 (yoL 0 false false yN 0) 76;have hl21:w.heap.size≤WD16.heap.size:=b15.size;have hl22:=q13.lt;have hl23:=q14.lt;have q24:=aC q10 al17;have q25:=aC q11 al17;have q26:=aC q12 al17;have q27:=q13.l al17;have q28:=q14.l al17;have b29:=aa b15 al17;refine hK.out _ _ ⟨q24,q25,q27⟩ (fun hS30=> ?_)
  clear hK K;clear q10 q11 q12 q13 q14 b15 al17;generalize WD16.alloc (.cells (yoA 0 false false yN 0) 76)=WN19 at q24 q25 q26 q27 q28 q18 b29 hS30⊢;generalize WD16.heap.size=PQ20 at q18 hl21 hl22 hl23⊢;refine wpAnyH_ready (rs:=[7]) (by kernel_rfl) (by simp) ?_;refine AllReadyH.cons rfl (fun K hK=> ?_) AllReadyH.nil
  go_simp
  refine(HP.out _ b29).mono ?_;rintro zz w31 ⟨v133,rfl,r134,bb32⟩;have q35:=aC q24 bb32;have q36:=aC q25 bb32;have q37:=aC q26 bb32;have q38:=q27.l bb32;have q39:=q28.l bb32;have q40:=q18.l bb32;have b41:=aa b29 bb32;obtain⟨po,pc,hv⟩:=r134.shape;subst hv;clear q24 q25 q26 q27 q28 q18 b29 bb32 HP;refine hK.out _ _ ⟨q35,q36,q38⟩ (fun hS42=> ?_)
  clear hK K;refine tq 8 (.tuple #[yOV cp gp p po pc,yi 0]) rfl (fun _ _=>by kernel_rfl) hS42 ?_
  refine tq 9 (yOV cp gp p po pc) rfl (fun _ _=>by go_simp) hS42 ?_
  refine tq 10 (yi 0) rfl (fun _ _=>by go_simp) hS42 ?_
  refine wpAnyH_ready (rs:=[12]) (by kernel_rfl) (by simp) ?_;refine AllReadyH.cons rfl (fun K hK=> ?_) AllReadyH.nil
  have bu:But PQ20 w31 (w31.setCells PQ20 0 (yOL cp gp p po pc)):=de _ _ _ _;have hth:w31.there PQ20 0 5:=dD q40;have q43:au (w31.setCells PQ20 0 (yOL cp gp p po pc)) PQ20 76 (yOL cp gp p po pc):=q40.sets _ rfl;have r44:=bu.rd r134 (aX r134 q40 (by simp));have q45:=dZ bu q35 (by omega);have q46:=dZ bu q36 (by omega);have q47:=dZ bu q37 (by omega);have q48:=bu.loc q38 (by omega);have q49:=bu.loc q39 (by omega);have b50:=bu.below b41 (by omega);rw[if_pos (by kernel_rfl)];refine wp_store_mid 76 (.tmp 6) (.tmp 17) rfl PQ20 0 (yOA cp gp p po pc) (by kernel_rfl) (by kernel_rfl) hth (by kernel_rfl) (by simp[Value.oneCell']) ?_;refine hK.out _ _ ⟨q45,q46,q48⟩ (fun hS51=> ?_)
  clear hK K;clear q40 r134 q35 q36 q37 q38 q39 b41 bu hth;refine tq 13 (yi 0) rfl (fun _ _=>by kernel_rfl) hS51 ?_
  refine wpAnyH_done (by kernel_rfl) ?_ _;clear hS0 hS30 hS42 hS51;change Exit.then _ _ _ _ (World.setCells w31 PQ20 0 (yOL cp gp p po pc));generalize World.setCells w31 PQ20 0 (yOL cp gp p po pc)=W52 at q45 q46 q47 q48 q49 q43 r44 b50⊢;simp only[Act.put,List.getElem_toArray,List.getElem_cons_succ,List.getElem_cons_zero,List.setIfInBounds_toArray,List.set_cons_zero,List.set_cons_succ]
  go_upto_region 4 with fail
  have bW53:yB W52 W52.drew:=(Below.refl _ _).drew;have q54:=aC q47 bW53;have q55:=q48.l bW53;have q56:=q49.l bW53;have q57:=q43.l bW53;have r58:=r44.l bW53;have b59:=aa b50 bW53;clear q45 q46 q47 q48 q49 q43 r44 b50 bW53;refine wp_region_held_drew (S:=fun wq=>wq.rangeAt g 10 (yOL cz gz z zo zc)∧au wq w.heap.size 69 (ykL n wy fam R D L G gr)∧au wq PQ20 76 (yOL cp gp p po pc)) (by kernel_rfl) ⟨q54,q55,q57⟩ (fun hS0=> ?_)
  generalize W52.drew=WD60 at q54 q55 q56 q57 r58 b59 hS0⊢;refine tq 0 (ykV n wy fam R D L G gr) rfl (fun _ hw0=>fy 69 (.tmp 2) rfl w.heap.size 0 (by kernel_rfl) _ _ hw0.2.1.range underlying69 rfl (by kernel_rfl)) hS0 ?_
  refine tq 1 (yOV cp gp p po pc) rfl (fun _ hw0=>fy 76 (.tmp 6) rfl PQ20 0 (by kernel_rfl) _ _ hw0.2.2.range underlying76 rfl (by kernel_rfl)) hS0 ?_
  refine tq 2 (.slice (some ⟨g,0,none⟩) 3 cap) rfl (fun _ _=>by kernel_rfl) hS0 ?_
  refine tq 3 (.pointer (some ⟨g,10,none⟩)) rfl (fun _ _=>by kernel_rfl) hS0 ?_
  refine tq 4 (yOV cz gz z zo zc) rfl (fun _ hw0=>fy 76 (.tmp 26) rfl g 10 (by kernel_rfl) _ _ hw0.1 underlying76 rfl (by kernel_rfl)) hS0 ?_
  refine wpAnyH_ready (rs:=[5]) (by kernel_rfl) (by simp) ?_;refine AllReadyH.cons rfl (fun K hK=> ?_) AllReadyH.nil
  go_simp
  refine(HS.out _ _ _ b59 r58).mono ?_;rintro zz w61 ⟨v163,rfl,r164,bb62⟩;have q65:=aC q54 bb62;have q66:=q55.l bb62;have q67:=q56.l bb62;have q68:=q57.l bb62;have r69:=r58.l bb62;have b70:=aa b59 bb62;obtain⟨so,sc,hv⟩:=r164.shape;subst hv;clear q54 q55 q56 q57 r58 b59 bb62 HS;refine hK.out _ _ ⟨q65,q66,q68⟩ (fun hS71=> ?_)
  clear hK K;refine tq 6 (yOV c gg t so sc) rfl (fun _ _=>by go_simp) hS71 ?_
  refine tq 7 (yi fl) rfl (fun _ _=>by go_simp) hS71 ?_
  refine wpAnyH_ready (rs:=[8]) (by kernel_rfl) (by simp) ?_;refine AllReadyH.cons rfl (fun K hK=> ?_) AllReadyH.nil
  have bu:But (w.heap.size+1) w61 (w61.setCells (w.heap.size+1) 0 (yOL c gg t so sc)):=de _ _ _ _;have hth:w61.there (w.heap.size+1) 0 5:=dD q67;have q72:au (w61.setCells (w.heap.size+1) 0 (yOL c gg t so sc)) (w.heap.size+1) 76 (yOL c gg t so sc):=q67.sets _ rfl;have r73:=bu.rd r69 (aX r69 q67 (by simp));have r74:=bu.rd r164 (aX r164 q67 (by simp));have q75:=dZ bu q65 (by omega);have q76:=bu.loc q66 (by omega);have q77:=bu.loc q68 (by omega);have b78:=bu.below b70 (by omega);rw[if_pos (by kernel_rfl)];refine wp_store_mid 76 (.tmp 4) (.tmp 29) rfl (w.heap.size+1) 0 (yOA c gg t so sc) (by kernel_rfl) (by kernel_rfl) hth (by kernel_rfl) (by simp[Value.oneCell']) ?_;refine hK.out _ _ ⟨q75,q76,q77⟩ (fun hS79=> ?_)
  clear hK K;clear q67 r69 r164 q65 q66 q68 b70 bu hth;refine tq 9 (yi fl) rfl (fun _ _=>by kernel_rfl) hS79 ?_
  refine wpAnyH_done (by kernel_rfl) ?_ _;clear hS0 hS71 hS79;change Exit.then _ _ _ _ (World.setCells w61 (w.heap.size+1) 0 (yOL c gg t so sc));generalize World.setCells w61 (w.heap.size+1) 0 (yOL c gg t so sc)=W80 at q75 q76 q72 q77 r73 r74 b78⊢;simp only[Act.put,List.getElem_toArray,List.getElem_cons_succ,List.getElem_cons_zero,List.setIfInBounds_toArray,List.set_cons_zero,List.set_cons_succ];have hl:=run_loadVar_mid (P:=Tryz.prog) _ (w.heap.size+1) 0 76 (yOL c gg t so sc) _ q72.range underlying76 rfl (by kernel_rfl)
  go_wp2
  exact bodyPost_ret (aj results40 rfl rfl hl) rfl ⟨_,rfl,r74,b78⟩
def mK (k:Nat)(cx:Int)(gx:Bool)(x:ak)(cy:Int)(gy:Bool)(y:ak):Int×Bool×ak×Int:=
 if cx=3∧cy=1∨cx=1∧cy=3 then noV k 16 else if cx=3∨cy=3 then(3,gx != gy,⟨false,0,0⟩,0) else nu (aK x y) (gx != gy)
theorem vZ (k:Nat)(hk:1≤k∧k≤8)(wy cx cy:Int)(gx gy:Bool)(x y:ak)(xo yo:Option Addr)(xc yc:Nat)(w:World)(rx:rdT w x xo xc)(ry:rdT w y yo yc)(mx:Mid x)(my:Mid y):
  yC 41 #[dsk k wy,opV cx gx x xo xc,opV cy gy y yo yc] w (RE w (mK k cx gx x cy gy y)):=by
 have HT:=fun w1 (b:yB w w1)=>Ac _ _ x y w1 ⟨_,rfl,rx.l b⟩ ⟨_,rfl,ry.l b⟩ mx.1 my.1 mx.2.1 mx.2.2 my.2.1 my.2.2
 have HM:=fun uo uc w1 h=>mT (aK x y) (gx != gy) uo uc w1 h
 unfold mK
 by_cases hx:cx=3
 ·subst hx
  by_cases hy:cy=1
  ·subst hy
   rw[if_pos (.inl ⟨rfl,rfl⟩)];exact Oh _ _ _ _ _ _ _ _ _ _ _ _ _ _ _ _ _ w (fun w1=>lV k hk wy 16 w1)
  ·rw[if_neg (by omega),if_pos (.inl rfl)]
   exact Oj _ _ _ _ _ _ _ _ _ _ _ _ _ _ _ _ _ w (ne1 hy)
 ·by_cases hy:cy=3
  ·subst hy
   by_cases h1:cx=1
   ·subst h1
    rw[if_pos (.inr ⟨rfl,rfl⟩)];exact Oi _ _ _ _ _ _ _ _ _ _ _ _ _ _ _ _ _ w (fun w1=>lV k hk wy 16 w1)
   ·rw[if_neg (by omega),if_pos (.inr rfl)]
    exact Ok _ _ _ _ _ _ _ _ _ _ _ _ _ _ _ _ _ w (ne3 hx) (ne1 h1)
  ·rw[if_neg (by omega),if_neg (by omega)]
   by_cases h1:cx=1
   ·subst h1
    exact Ol _ _ _ _ _ _ _ _ _ _ _ _ _ _ _ _ _ _ _ _ _ w (ne3 hy) HT HM
   ·exact K5 _ _ _ _ _ _ _ _ _ _ _ _ _ _ _ _ _ _ _ _ _ _ w (ne3 hx) (ne1 h1) (ne3 hy) HT HM
theorem I4 {k:Nat}{cx cy:Int}{gx gy:Bool}{x y:ak}(hn:sH (aK x y))(h:(mK k cx gx x cy gy y).1=2):(mK k cx gx x cy gy y).2.2.1.n≠0∧sH (mK k cx gx x cy gy y).2.2.1:=by
 unfold mK at h⊢
 by_cases c1:cx=3∧cy=1∨cx=1∧cy=3
 ·rw[if_pos c1] at h
  exact(vN h).elim
 rw[if_neg c1] at h⊢
 by_cases c2:cx=3∨cy=3
 ·rw[if_pos c2] at h
  simp at h
 rw[if_neg c2] at h⊢;exact xt hn h
def qL (n : Int) (a b : ByteArray) : Int × Bool × ak × Int := mK n.toNat ((bM n a : Nat) : Int) (dz n a) (opT n a) ((bM n b : Nat) : Int) (dz n b) (opT n b)
def OY (n way:Int)(a b c:ByteArray):Int×Bool×ak×Int:=
 if(qL n a b).2.2.2=0 then vY n.toNat way (qL n a b).1 (qL n a b).2.1 (qL n a b).2.2.1 ((bM n c:Nat):Int) (dz n c) (opT n c) else qL n a b
theorem Ww {k:Nat}{cx cy:Int}{gx gy:Bool}{x y z:ak}(hx:iZ x)(hy:iZ y)(hz:iZ z):Mid (mK k cx gx x cy gy y).2.2.1∧sH (aG (mK k cx gx x cy gy y).2.2.1 z):=by
 obtain⟨-,-,t1,t2,t3⟩:=rJ hx hy;have key:(mK k cx gx x cy gy y).2.2.1.n<2^128∧ -33000≤(mK k cx gx x cy gy y).2.2.1.e∧(mK k cx gx x cy gy y).2.2.1.e≤33000:=by
  have h0:(0:Nat)<2^128:=bG _;unfold mK
  split
  ·exact⟨h0,by show(-33000:Int)≤0;omega,by show 0≤33000;omega⟩
  ·split
   ·exact⟨h0,by show(-33000:Int)≤0;omega,by show 0≤33000;omega⟩
   ·show(tF _).n<_∧_≤(tF _).e∧(tF _).e≤_
    unfold tF
    split
    ·exact⟨h0,by show(-33000:Int)≤0;omega,by show 0≤33000;omega⟩
    ·exact⟨t1,t2,t3⟩
 obtain⟨k1,k2,k3⟩:=key;obtain⟨z1,z2,z3⟩:=hz;have hp:=I3 (H:=33128) k1 z1 (by omega) (by omega);exact⟨⟨jq k1 (by omega),by omega,by omega⟩,⟨by omega,by omega⟩⟩
theorem xR (n way:Int)(a b c:ByteArray)(w:World)(hT:Tab w):yC 15 #[yi n,.string a,.string b,.string c,yi way] w (mM (jV n way [a,b,c] (OY n way a b c)) w):=by
 refine abr n way _ _ a b c _ w (fun pb w1 b1 hl=> ?_)
 refine nQ n way [a,b,c] _ _ pb w1 (by simp) (by simp) hl (enter_of func40 (by kernel_rfl) rfl) (hT.l b1) (fun k hk hn he hN=> ?_)
 subst hn;obtain⟨sa,-,-⟩:=ir hk (eU he a (by simp));obtain⟨sb,-,-⟩:=ir hk (eU he b (by simp));obtain⟨sc,-,-⟩:=ir hk (eU he c (by simp));have hm:qL (k:Int) a b=mK k ((bM (k:Int) a:Nat):Int) (dz (k:Int) a) (opT (k:Int) a) ((bM (k:Int) b:Nat):Int) (dz (k:Int) b) (opT (k:Int) b):=by unfold qL;rw[Int.toNat_natCast]
 obtain⟨m1,m2⟩:=Ww (k:=k) (cx:=((bM (k:Int) a:Nat):Int)) (cy:=((bM (k:Int) b:Nat):Int)) (gx:=dz (k:Int) a) (gy:=dz (k:Int) b) sa sb sc;rw[←hm] at m1 m2;unfold OY;rw[Int.toNat_natCast]
 by_cases h0:(qL (k:Int) a b).2.2.2=0
 ·rw[if_pos h0]
  refine⟨fun h=>FU m2 h,fun g cap w2 b2 h=> ?_⟩
  obtain⟨xo,xc,r0,k0⟩:=h.each 0 a rfl;obtain⟨yo,yc,r1,k1⟩:=h.each 1 b rfl;obtain⟨zo,zc,r2,k2⟩:=h.each 2 c rfl;refine ZK _ _ _ _ _ _ _ _ _ _ _ _ _ _ _ _ _ _ _ _ _ _ _ _ _ _ _ _ _ _ _ _ w2 r0 r1 r2 (fun w3 b3=> ?_) (fun po pc w3 b3 hp=>GQ k hk way _ _ _ _ _ _ _ _ _ _ w3 hp (k2.l b3) m1 (jB sc))
  have:=vZ k hk way ((bM (k:Int) a:Nat):Int) ((bM (k:Int) b:Nat):Int) (dz (k:Int) a) (dz (k:Int) b) (opT (k:Int) a) (opT (k:Int) b) xo yo xc yc w3 (k0.l b3) (k1.l b3) (jB sa) (jB sb);rw[←hm] at this;unfold RE at this;rw[h0] at this;exact this
 ·rw[if_neg h0]
  refine⟨fun h=>by rw[hm] at h⊢;exact I4 (rJ sa sb).2.1 h,fun g cap w2 b2 h=> ?_⟩
  obtain⟨xo,xc,r0,k0⟩:=h.each 0 a rfl;obtain⟨yo,yc,r1,k1⟩:=h.each 1 b rfl;obtain⟨zo,zc,r2,k2⟩:=h.each 2 c rfl;refine NW _ _ _ _ _ _ _ _ _ _ _ _ _ _ _ _ _ _ _ _ _ _ _ _ _ _ _ _ _ w2 (by simpa using h0) r0 r1 r2 (fun w3 b3=> ?_)
  have:=vZ k hk way ((bM (k:Int) a:Nat):Int) ((bM (k:Int) b:Nat):Int) (dz (k:Int) a) (dz (k:Int) b) (opT (k:Int) a) (opT (k:Int) b) xo yo xc yc w3 (k0.l b3) (k1.l b3) (jB sa) (jB sb);rw[←hm] at this;exact this
theorem plus_bare (a b:ak):bare (cO a b)=bare (aG a b):=by
 have k0: -((a.e.natAbs+b.e.natAbs:Nat):Int)≤a.e:=by omega
 have k1: -((a.e.natAbs+b.e.natAbs:Nat):Int)≤b.e:=by omega
 refine fH (zy k0 k1) (eS k0 k1) ?_;rw[zx k0 k1,dH k0 k1]
theorem Ue {t:ak}:(bare t).n=0↔t.n=0:=
 ⟨fun h=>Decidable.byContradiction fun c=>(gN c).1 h,fun h=>by unfold bare;rw[if_pos h]⟩
theorem bare_0 {t:ak}(h:t.n=0):bare t=⟨false,0,0⟩:=if_pos h
theorem plus_none {x y:ak}(h:(aG x y).n=0)(hx:x.n≠0):y.n≠0∧x.s≠y.s:=by
 have h1:0<x.n*2^ (x.e-min x.e y.e).toNat:=Nat.mul_pos (Nat.pos_of_ne_zero hx) (bG _);unfold aG at h;simp only at h
 by_cases hs:x.s=y.s
 ·rw[if_pos hs] at h
  simp only at h;omega
 ·refine⟨fun c=> ?_,hs⟩
  rw[if_neg hs,c,Nat.zero_mul,if_neg (Nat.not_lt_zero _)] at h;simp only at h;omega
theorem sum_ref {k:Nat}(hk:1≤k∧k≤8){way:Int}(hw:1≤way∧way≤5)(p q:Bool){x y u:ak}(hu:bare (aG x y)=bare u)(hp:x.n≠0→x.s=p)(hq:y.n≠0→y.s=q)(nx:x.n<2^128)(ny:y.n<2^64)(ex: -33000≤x.e∧x.e≤33200)(ey: -16500≤y.e∧y.e≤16500):
  ∃v:Int×Bool×ak×Int,(∀xo xc yo yc w,Rd w .i64 (.slice xo (Dg.dg 65536 x.n).length xc) (Dg.dg 65536 x.n)→Rd w .i64 (.slice yo (Dg.dg 65536 y.n).length yc) (Dg.dg 65536 y.n)→Calls Tryz.prog 36 #[.int .i64 (k:Int),.agg #[.bool x.s,.slice xo (Dg.dg 65536 x.n).length xc,.int .i64 x.e],.agg #[.bool y.s,.slice yo (Dg.dg 65536 y.n).length yc,.int .i64 y.e],.bool p,.bool q,.int .i64 way] w (RVF w v.1 v.2.1 v.2.2.1 v.2.2.2))∧
   SameV k (m8 k way (nu u (if p=q then p else decide (way=5))).1 (nu u (if p=q then p else decide (way=5))).2.1 (nu u (if p=q then p else decide (way=5))).2.2.1 (nu u (if p=q then p else decide (way=5))).2.2.2) v:=by
 have hlen: ∀{z m:Nat},z<2^m→m≤128→(Dg.dg 65536 z).length≤30000:=fun {z m} hz hm=>Nat.le_trans (Dg.dg_len_le 65536 _ 8 (by omega) (Nat.lt_of_lt_of_le (zw hz hm) (by decide))) (by omega)
 have HP:=fun xo xc yo yc (w:World) (rx:Rd w .i64 (.slice xo (Dg.dg 65536 x.n).length xc) (Dg.dg 65536 x.n)) (ry:Rd w .i64 (.slice yo (Dg.dg 65536 y.n).length yc) (Dg.dg 65536 y.n)) w1 (b:Below w.heap.size w w1)=>lw _ _ x y w1 ⟨_,rfl,rx.l b⟩ ⟨_,rfl,ry.l b⟩ (hlen nx (by omega)) (hlen ny (by omega)) (by omega) (by omega) (by omega) (by omega)
 rw[(plus_bare x y).trans hu] at HP
 by_cases h0:u.n=0
 ·rw[num_nil h0]
  refine⟨(1,(if p=q then p else decide (way=5))&&decide (dK (k:Int)=1),⟨false,0,0⟩,0),fun xo xc yo yc w rx ry=> ?_,same_nil hk way _ _ 0⟩
  have HQ: ∀w1,Below w.heap.size w w1→Calls Tryz.prog 72 #[.agg #[.bool x.s,.slice xo (Dg.dg 65536 x.n).length xc,.int .i64 x.e],.agg #[.bool y.s,.slice yo (Dg.dg 65536 y.n).length yc,.int .i64 y.e]] w1 fun z w'=> ∃uo uc,z= .returned (.agg #[.bool false,.slice uo 0 uc,.int .i64 0])∧Below w1.heap.size w1 w':=fun w1 b=>(HP xo xc yo yc w rx ry w1 b).mono (fun z w' hz=>by
   obtain⟨s,h1,h2,h3⟩:=hz;rw[bare_0 h0] at h1 h2;obtain⟨ao,cap,e⟩:=h2.shape;rw[e] at h1;exact⟨ao,cap,h1,h3⟩)
  by_cases hx:x.n=0
  ·have e:(Dg.dg 65536 x.n).length=0:=List.length_eq_zero_iff.2 ((Dg.dg_nil_iff 65536 _ (by omega)).2 hx)
   rw[e] at HQ⊢
   by_cases hpq:p=q
   ·subst hpq
    rw[if_pos rfl];exact aaw _ _ _ _ _ _ _ _ _ _ _ _ _ w HQ (fun w1=>refZero_any k hk p w1)
   ·rw[if_neg hpq]
    exact abT _ _ _ _ _ _ _ _ _ _ _ _ _ _ w (by simpa using hpq) HQ (fun w1=>refZero_any k hk _ w1)
  ·have hn:(aG x y).n=0:=by rw[←Ue,hu,Ue];exact h0
   obtain⟨y0,hs⟩:=plus_none hn hx;rw[if_neg (fun c=>hs (by rw[hp hx,hq y0];exact c))]
   exact aax _ _ _ _ _ _ _ _ _ _ _ _ _ w (by rw[len_zero];exact decide_eq_false hx) HQ (fun w1=>refZero_any k hk _ w1)
 ·rw[num_two h0]
  refine⟨plV k way (fY k way u),fun xo xc yo yc w rx ry=> ?_,same_fit hk way _ _ h0⟩
  have hn:(aG x y).n≠0:=fun c=>h0 (by rw[←Ue,←hu,Ue];exact c)
  obtain⟨b1,b2,b3⟩:=gN hn;rw[hu] at b1 b2 b3;have hN:=I3 (H:=33328) nx ny (by omega) (by omega);rw[←plc_bare hk way _ h0];exact abS _ _ _ _ _ _ _ _ _ _ (bare u) _ _ _ _ w (Nat.pos_of_ne_zero fun c=>b1 ((Dg.dg_nil_iff 65536 _ (by omega)).1 (List.length_eq_zero_iff.1 c))) (HP xo xc yo yc w rx ry) (fun uo uc w1 _ h=>fitD_any k hk way hw (bare u) uo uc w1 b1 h (by omega) (by omega) (by omega))
theorem add_ref {k:Nat}(hk:1≤k∧k≤8){way:Int}(hw:1≤way∧way≤5){cx cy:Int}{gx gy:Bool}{x y x' y':ak}(h3:cx≤3∧cy≤3)(hu:bare (aG x y)=bare (aG x' y'))(sx:iZ x)(sy:iZ y)(zx:cx=3→x=⟨false,0,0⟩)(zy:cy=3→y=⟨false,0,0⟩)(hp:x.n≠0→x.s=gx)(hq:y.n≠0→y.s=gy)(ix:cx=3→k≤3)(iy:cy=3→k≤3):
  ∃v,RefOf k way cx cy gx gy x y 10 v∧SameV k (m8 k way (vY k way cx gx x' cy gy y').1 (vY k way cx gx x' cy gy y').2.1 (vY k way cx gx x' cy gy y').2.2.1 (vY k way cx gx x' cy gy y').2.2.2) v:=by
 have HO:=fun pb w1 (xo:Option Addr) (xc:Nat) (yo:Option Addr) (yc:Nat) (hl:au w1 pb 32 (yXL cx gx x xo xc cy gy y yo yc))=>(off_pair k hk _ _ _ _ _ _ _ _ _ _ pb w1 hl).1 h3
 by_cases hx:cx=3
 ·subst hx
  have e0:=zx rfl
  by_cases hy:cy=3
  ·subst hy
   cases gx<;>cases gy
   ·rw[JA rfl (by simp)]
    exact⟨(3,false,x,0),fun xo xc yo yc w rx _=>acI _ _ _ _ _ _ _ _ _ w rx (fun pb w1 hl=>HO pb w1 xo xc yo yc hl),by rw[e0];exact same_inf hk (ix rfl) way _ _ 0⟩
   ·rw[Jz ⟨rfl,rfl,by simp⟩]
    exact⟨nthV k 16,fun xo xc yo yc w _ _=>VW _ _ _ _ _ _ _ _ _ w (fun pb w1 hl=>HO pb w1 xo xc yo yc hl) (fun w1=>lost_any k hk w1),same_off hk way 16⟩
   ·rw[Jz ⟨rfl,rfl,by simp⟩]
    exact⟨nthV k 16,fun xo xc yo yc w _ _=>VV _ _ _ _ _ _ _ _ _ w (fun pb w1 hl=>HO pb w1 xo xc yo yc hl) (fun w1=>lost_any k hk w1),same_off hk way 16⟩
   ·rw[JA rfl (by simp)]
    exact⟨(3,true,x,0),fun xo xc yo yc w rx _=>acI _ _ _ _ _ _ _ _ _ w rx (fun pb w1 hl=>HO pb w1 xo xc yo yc hl),by rw[e0];exact same_inf hk (ix rfl) way _ _ 0⟩
  ·rw[JA rfl (fun c=>hy c.1)]
   exact⟨(3,gx,x,0),fun xo xc yo yc w rx _=>adO _ _ _ _ _ _ _ _ _ _ _ w (by simpa using fun c:(3:Int)=cy=>hy c.symm) rx (fun pb w1 hl=>HO pb w1 xo xc yo yc hl),by rw[e0];exact same_inf hk (ix rfl) way _ _ 0⟩
 ·by_cases hy:cy=3
  ·subst hy
   have e0:=zy rfl;rw[Wy hx rfl];exact⟨(3,gy,y,0),fun xo xc yo yc w _ ry=>adP _ _ _ _ _ _ _ _ _ _ _ w (ne3 hx) ry (fun pb w1 hl=>HO pb w1 xo xc yo yc hl),by rw[e0];exact same_inf hk (iy rfl) way _ _ 0⟩
  ·rw[OZ hx hy]
   obtain⟨v,hv,hs⟩:=sum_ref hk hw gx gy hu hp hq (zw sx.1 (by omega)) sy.1 (by have:=sx.2;omega) sy.2;exact⟨v,fun xo xc yo yc w rx ry=>ace _ _ _ _ _ _ _ _ _ _ _ _ _ _ _ _ w (ne3 hx) (ne3 hy) (fun pb w1 hl=>HO pb w1 xo xc yo yc hl) (fun w1 b=>hv xo xc yo yc w1 (rx.l b) (ry.l b)),hs⟩
theorem op_facts {k:Nat}(hk:1≤k∧k≤8){p:ByteArray}(h:dF k p=0):iZ (opT k p)∧(((bM k p:Nat):Int)=3→opT k p=⟨false,0,0⟩)∧((opT k p).n≠0→(opT k p).s=dz k p)∧(((bM k p:Nat):Int)=3→k≤3):=by
 obtain⟨s1,z1,n1⟩:=ir hk h;refine⟨s1,fun c=>z1 (by omega),fun c=> ?_,fun c=>inf_few h (by omega)⟩
 by_cases h2:bM k p=2
 ·exact op_sign hk h h2
 ·exact absurd (by rw[z1 h2]) c
end Go.Proofs.YtbdokgamhinajaaGreatDoor

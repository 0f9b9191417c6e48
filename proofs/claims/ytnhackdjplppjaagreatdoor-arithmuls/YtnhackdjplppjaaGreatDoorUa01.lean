/-
  Texts laid together: Dz, Ab3, Dr1, Aw0, Dy6, Dy7, Dr4, Cr11, Gb6, Gb7.
-/
import Derived.WalkKit
import Derived.WalkSpells
import Derived.Deep.QuietTactic
import Derived.BigQuiet
import Derived.Lib.TrailingZeros
import Derived.Test.YtnhackdjplppjaaGreatDoorChecked
import Derived.Handy
import Derived.Laws.CopyOwn
import Derived.BigRegion
import Derived.Deep.LoopGhost
import Derived.Deep.RegionLaw
import Derived.WalkSmall
import Derived.OpenShut
import Derived.Laws.MathBits
import Derived.Lib.BitFns
import Derived.Lib.Walk
import Derived.Lib.Small
import Derived.Shelf.Spec.TrailingZeros
import Derived.Deep.RegionHeld3
import Derived.Laws.ResultCell
import Derived.Deep.MidRow
import Derived.Deep.Cut
import Derived.Laws.IdiomStrings
import Derived.ChangeMaps4
import Derived.Deep.DeepCutAuto
import Derived.Deep.RegionWith
import Derived.Laws.OwnMore
import Derived.Deep.AppendLies
import Derived.Deep.CutBlock
import Derived.Maps.AppendAt
import Derived.Test.YtnhackdjplppjaaGreatDoorSh44
import Derived.Test.YtnhackdjplppjaaGreatDoorSh48
set_option maxRecDepth 100000
set_option maxHeartbeats 3200000
namespace Go.Proofs.YtnhackdjplppjaaGreatDoor
open _root_.Go.Proofs.Tryz
def aK (a b:ak):ak:=⟨a.s != b.s,a.n*b.n,a.e+b.e⟩
open Go.RowKit
abbrev yEL (c:Int)(g:Bool)(t:ak)(o:Option Addr)(k:Nat):List Value:=[.int .i64 c,.bool g,.bool t.s,.slice o (Dg.dg 65536 t.n).length k,.int .i64 t.e]
abbrev yEV (c:Int)(g:Bool)(t:ak)(o:Option Addr)(k:Nat):Value:= .agg #[.int .i64 c,.bool g,.bool t.s,.slice o (Dg.dg 65536 t.n).length k,.int .i64 t.e]
abbrev yEA (c:Int)(g:Bool)(t:ak)(o:Option Addr)(k:Nat):Array Value:= #[.int .i64 c,.bool g,.bool t.s,.slice o (Dg.dg 65536 t.n).length k,.int .i64 t.e]
abbrev yML (t:ak)(o:Option Addr)(k:Nat):List Value:=[.bool t.s,.slice o (Dg.dg 65536 t.n).length k,.int .i64 t.e]
abbrev yMV (t:ak)(o:Option Addr)(k:Nat):Value:= .agg #[.bool t.s,.slice o (Dg.dg 65536 t.n).length k,.int .i64 t.e]
abbrev yMA (t:ak)(o:Option Addr)(k:Nat):Array Value:= #[.bool t.s,.slice o (Dg.dg 65536 t.n).length k,.int .i64 t.e]
abbrev yXL (c:Int)(g:Bool)(t:ak)(o:Option Addr)(k:Nat)(d:Int)(h:Bool)(s:ak)(p:Option Addr)(m:Nat):List Value:=[.int .i64 c,.bool g,.bool t.s,.slice o (Dg.dg 65536 t.n).length k,.int .i64 t.e,.int .i64 d,.bool h,.bool s.s,.slice p (Dg.dg 65536 s.n).length m,.int .i64 s.e]
theorem iJ (v:Value)(t:ak)(w:World)(hv:Rv w v t)(hL:(Dg.dg 65536 t.n).length≤100000)(he1: -1000000≤t.e)(he2:t.e≤1000000):
  yC 79 #[v] w (dr w (bare t)):=
 (lA v t w hv hL he1 he2).mono fun _ _ h=>h.near
theorem lG (w:World)(c0:List Value)(t0:TypeId)(c1:List Value)(t1:TypeId)(c2:List Value)(t2:TypeId): ∃W,((w.alloc (.cells c0.toArray t0)).alloc (.cells c1.toArray t1)).alloc (.cells c2.toArray t2)=W∧au W w.heap.size t0 c0∧au W (w.heap.size+1) t1 c1∧au W (w.heap.size+1+1) t2 c2∧yB w W:=by
 obtain⟨W,rfl,h0,h1,b0⟩:=iG w c0 t0 c1 t1;have h2:=ah ((w.alloc (.cells c0.toArray t0)).alloc (.cells c1.toArray t1)) c2 t2;have b2:=af ((w.alloc (.cells c0.toArray t0)).alloc (.cells c1.toArray t1)) (.cells c2.toArray t2);rw[World.size_alloc,World.size_alloc] at h2;exact⟨_,rfl,h0.l b2,h1.l b2,h2,aa b0 b2⟩
theorem pi (w:World)(c0:List Value)(t0:TypeId)(c1:List Value)(t1:TypeId)(c2:List Value)(t2:TypeId)(c3:List Value)(t3:TypeId): ∃W,(((w.alloc (.cells c0.toArray t0)).alloc (.cells c1.toArray t1)).alloc (.cells c2.toArray t2)).alloc (.cells c3.toArray t3)=W∧au W w.heap.size t0 c0∧au W (w.heap.size+1) t1 c1∧au W (w.heap.size+1+1) t2 c2∧au W (w.heap.size+1+1+1) t3 c3∧yB w W:=by
 obtain⟨W,rfl,h0,h1,h2,b0⟩:=lG w c0 t0 c1 t1 c2 t2;have h3:=ah (((w.alloc (.cells c0.toArray t0)).alloc (.cells c1.toArray t1)).alloc (.cells c2.toArray t2)) c3 t3;have b3:=af (((w.alloc (.cells c0.toArray t0)).alloc (.cells c1.toArray t1)).alloc (.cells c2.toArray t2)) (.cells c3.toArray t3);rw[World.size_alloc,World.size_alloc,World.size_alloc] at h3;exact⟨_,rfl,h0.l b3,h1.l b3,h2.l b3,h3,aa b0 b3⟩
theorem dZ {w w':World}{b g o:Nat}{cs:List Value}(bu:But b w w')(h:w.rangeAt g o cs)(hg:g≠b):w'.rangeAt g o cs:=fun j v hj=>by rw[bu.c (by exact hg)];exact h j v hj
theorem ju (w:World)(a0 a1 a2 b0 b1 b2 c0 c1 c2:Value)(ta tb tc:TypeId):
  Loc (((w.alloc (.cells #[a0,a1,a2] ta)).alloc (.cells #[b0,b1,b2] tb)).alloc (.cells #[c0,c1,c2] tc)) w.heap.size a0 a1 a2∧
  Loc (((w.alloc (.cells #[a0,a1,a2] ta)).alloc (.cells #[b0,b1,b2] tb)).alloc (.cells #[c0,c1,c2] tc)) (w.heap.size+1) b0 b1 b2∧
  Loc (((w.alloc (.cells #[a0,a1,a2] ta)).alloc (.cells #[b0,b1,b2] tb)).alloc (.cells #[c0,c1,c2] tc)) (w.heap.size+1+1) c0 c1 c2∧
  yB w (((w.alloc (.cells #[a0,a1,a2] ta)).alloc (.cells #[b0,b1,b2] tb)).alloc (.cells #[c0,c1,c2] tc))∧
  (((w.alloc (.cells #[a0,a1,a2] ta)).alloc (.cells #[b0,b1,b2] tb)).alloc (.cells #[c0,c1,c2] tc)).heap.size=w.heap.size+1+1+1:=by
 have la:=aA w a0 a1 a2 ta;have lb:=aA (w.alloc (.cells #[a0,a1,a2] ta)) b0 b1 b2 tb;have lc:=aA ((w.alloc (.cells #[a0,a1,a2] ta)).alloc (.cells #[b0,b1,b2] tb)) c0 c1 c2 tc;have bB:=af (w.alloc (.cells #[a0,a1,a2] ta)) (.cells #[b0,b1,b2] tb);have bC:=af ((w.alloc (.cells #[a0,a1,a2] ta)).alloc (.cells #[b0,b1,b2] tb)) (.cells #[c0,c1,c2] tc);refine⟨(la.l bB).l bC, ?_, ?_,aa (aa (af w _) bB) bC,by simp[World.size_alloc]⟩
 ·have:=lb.l bC
  rwa [World.size_alloc] at this
 ·rwa [World.size_alloc,World.size_alloc] at lc
theorem Ac (v u:Value)(a b:ak)(w:World)(hv:Dv w v a)(hu:Dv w u b)(hLa:(Dg.dg 4294967296 a.n).length≤100000)(hLb:(Dg.dg 4294967296 b.n).length≤100000)
  (ha1: -100000≤a.e) (ha2:a.e≤100000) (hb1: -100000≤b.e) (hb2:b.e≤100000):
  yC 126 #[v,u] w (jN w (aK a b)):=by
 obtain⟨s0,rfl,ra⟩:=hv;obtain⟨ao,ca,rfl⟩:=ra.shape;obtain⟨s1,rfl,rb⟩:=hu;obtain⟨bo,cb,rfl⟩:=rb.shape;obtain⟨sa,an,ae⟩:=a;obtain⟨sb,bn,be⟩:=b;simp only at ra rb hLa hLb ha1 ha2 hb1 hb2⊢;have HTI:Hid (∀w1,yB w w1→yC 173 #[.slice ao (Dg.dg 4294967296 an).length ca,.slice bo (Dg.dg 4294967296 bn).length cb] w1 (Num w1 (an*bn))):=fun w1 b1=>by
  have:=qC _ _ _ _ w1 (ra.l b1) (rb.l b1) (Dg.small_dg _ _ (by omega)) (Dg.small_dg _ _ (by omega)) (by omega) (by omega);rw[Dg.vl_dg _ _ (by omega),Dg.vl_dg _ _ (by omega)] at this;exact this
 unfold aK;simp only;obtain⟨X,hX⟩: ∃X,an*bn=X:=⟨_,rfl⟩;obtain⟨ma,hma⟩: ∃m,(Dg.dg 4294967296 an).length=m:=⟨_,rfl⟩;obtain⟨mb,hmb⟩: ∃m,(Dg.dg 4294967296 bn).length=m:=⟨_,rfl⟩;rw[hX,hma,hmb] at HTI;rw[hX,hma,hmb];clear hX hma hmb ra rb hLa hLb;obtain⟨la,lb,lc,b01,sW⟩:=ju w (.bool sa) (.slice ao ma ca) (yi ae) (.bool sb) (.slice bo mb cb) (yi be) (.bool false) (.slice none 0 0) (yi 0) 96 96 96;clear sW;obtain⟨W,hW⟩: ∃W,(((w.alloc (.cells (ydA sa (.slice ao ma ca) ae) 96)).alloc (.cells (ydA sb (.slice bo mb cb) be) 96)).alloc (.cells (ydA false (.slice none 0 0) 0) 96))=W:=⟨_,rfl⟩;rw[hW] at la lb lc b01;have bd:yB W W.drew:=(Below.refl _ _).drew;have la:=la.l bd;have lb:=lb.l bd;have lc:=lc.l bd;have b02:=aa b01 bd;rw[←hW] at la lb lc b02;clear bd b01 hW;obtain⟨-,⟨ca0,ca1,ca2⟩,-⟩:=id la;obtain⟨-,⟨cb0,cb1,cb2⟩,-⟩:=id lb;have ne3:w.heap.size+1+1≠w.heap.size:=by omega
 have ne4:w.heap.size≠w.heap.size+1+1:=by omega
 have e4:IntKind.i64.wrap (ae+be)=ae+be:=IntWalk.i64_in _ ⟨by omega,by omega⟩
 go_enter func126,ntmps126
 go_wp2_with fail
 go_region_held3 (fun wq=>(wq.cell? ⟨w.heap.size,0,none⟩=some (.bool sa)∧wq.cell? ⟨w.heap.size,1,none⟩=some (.slice ao ma ca)∧wq.cell? ⟨w.heap.size,2,none⟩=some (yi ae))∧wq.cell? ⟨w.heap.size+1,0,none⟩=some (.bool sb)∧wq.cell? ⟨w.heap.size+1,1,none⟩=some (.slice bo mb cb)∧wq.cell? ⟨w.heap.size+1,2,none⟩=some (yi be)) (go_keep) (first
  | (go_at_call 172;refine(cN sa ao ma ca ae _).mono ?_;rintro z w3 ⟨rfl,b3⟩;have la3:=la.l b3;have lb3:=lb.l b3;have lc3:=lc.l b3;have b03:=aa b02 b3;obtain⟨-,⟨p0,p1,p2⟩,-⟩:=id la3;obtain⟨-,⟨p3,p4,p5⟩,-⟩:=id lb3;clear b02)
  | (go_at_call 172;refine(cN sb bo mb cb be w3).mono ?_;rintro z w4 ⟨rfl,b4⟩;have la4:=la3.l b4;have lb4:=lb3.l b4;have lc4:=lc3.l b4;have b04:=aa b03 b4;obtain⟨-,⟨q0,q1,q2⟩,-⟩:=id la4;obtain⟨-,⟨q3,q4,q5⟩,-⟩:=id lb4)
  | (go_at_call 173;refine(HTI.out w4 b04).mono ?_;rintro z w5 ⟨vs,rfl,o5,b5⟩;have la5:=la4.l b5;have lb5:=lb4.l b5;have lc5:=lc4.l b5;have b05:=aa b04 b5;obtain⟨-,⟨t0,t1,t2⟩,-⟩:=id la5;obtain⟨-,⟨t3,t4,t5⟩,-⟩:=id lb5;obtain⟨so,sc,hvs⟩:=o5.rd.shape;subst hvs)
  | (go_at_call 159;refine(l9 (sa != sb) so _ sc _ w5).mono ?_;rintro z w6 ⟨rfl,b6⟩;have la6:=la5.l b6;have lb6:=lb5.l b6;have lc6:=lc5.l b6;have b06:=aa b05 b6;obtain⟨-,⟨u0,u1,u2⟩,-⟩:=id la6;obtain⟨-,⟨u3,u4,u5⟩,-⟩:=id lb6;obtain⟨hl6,⟨d0,d1,d2⟩,f0,f1,f2⟩:=id lc6))
 all_goals go_wp2
 obtain⟨-,⟨g0,g1,g2⟩,-⟩:=aD lc6 (.bool (sa != sb)) (.slice so (Dg.dg 4294967296 X).length sc) (yi (ae+be));have o7:=(o5.l b6).apart3 (b:=w.heap.size+1+1) lc4.1 (.bool (sa != sb)) (.slice so (Dg.dg 4294967296 X).length sc) (yi (ae+be));have b8:=am b06 (show w.heap.size≤w.heap.size+1+1 by omega) (.bool (sa != sb)) (.slice so (Dg.dg 4294967296 X).length sc) (yi (ae+be))
 refine bodyPost_ret (v:=(ydV (sa != sb) (.slice so (Dg.dg 4294967296 X).length sc) (ae+be))) (by simp[results,results126,go_sem,g0,g1,g2]) rfl ?_;exact⟨_,rfl,o7.lower b04.size,b8⟩
theorem rI (w:World)(a0 a1 a2 b0 b1 b2:Value)(ta tb tc:TypeId):
  ZB (((w.alloc (.cells #[a0,a1,a2] ta)).alloc (.cells #[b0,b1,b2] tb)).alloc (.cells (ydA false (.slice none 0 0) 0) tc)) (w.heap.size+1+1):=by
 have:=dI ((w.alloc (.cells #[a0,a1,a2] ta)).alloc (.cells #[b0,b1,b2] tb)) tc
 rwa [World.size_alloc,World.size_alloc] at this
theorem zv (x y L M:Nat)(hx:(Dg.dg 65536 x).length≤L)(hy:(Dg.dg 65536 y).length≤M):(Dg.dg 65536 (x*y)).length≤L+M:=by
 apply Dg.dg_len_le 65536 _ _ (by omega);have h1:=Dg.vl_lt 65536 (Dg.dg 65536 x) (Dg.small_dg _ _ (by omega));have h2:=Dg.vl_lt 65536 (Dg.dg 65536 y) (Dg.small_dg _ _ (by omega));rw[Dg.vl_dg _ _ (by omega)] at h1 h2;have h3:65536^ (Dg.dg 65536 x).length≤65536^L:=Nat.pow_le_pow_right (by omega) hx;have h4:65536^ (Dg.dg 65536 y).length≤65536^M:=Nat.pow_le_pow_right (by omega) hy;rw[Nat.pow_add];exact Nat.mul_lt_mul'' (by omega) (by omega)
theorem jh (v u:Value)(a b:ak)(w:World)(hv:Rv w v a)(hu:Rv w u b)(hLa:(Dg.dg 65536 a.n).length≤30000)(hLb:(Dg.dg 65536 b.n).length≤30000)
  (ha1: -200000≤a.e) (ha2:a.e≤200000) (hb1: -200000≤b.e) (hb2:b.e≤200000):
  yC 67 #[v,u] w (dr w (bare (aK a b))):=by
 obtain⟨s0,rfl,ra⟩:=hv;obtain⟨ao,ca,rfl⟩:=ra.shape;obtain⟨s1,rfl,rb⟩:=hu;obtain⟨bo,cb,rfl⟩:=rb.shape;obtain⟨sa,an,ae⟩:=a;obtain⟨sb,bn,be⟩:=b;simp only at ra rb hLa hLb ha1 ha2 hb1 hb2⊢;have HTI:Hid (∀w1,yB w w1→yC 76 #[.slice ao (Dg.dg 65536 an).length ca,.slice bo (Dg.dg 65536 bn).length cb] w1 (cG w1 (an*bn))):=fun w1 b1=>by
  have:=fN _ _ _ _ w1 (ra.l b1) (rb.l b1) (Dg.small_dg _ _ (by omega)) (Dg.small_dg _ _ (by omega)) (by omega) (by omega)
  rwa [Dg.vl_dg _ _ (by omega),Dg.vl_dg _ _ (by omega)] at this
 have hml:=zv an bn 30000 30000 hLa hLb;unfold aK;simp only;obtain⟨X,hX⟩: ∃X,an*bn=X:=⟨_,rfl⟩;obtain⟨ma,hma⟩: ∃m,(Dg.dg 65536 an).length=m:=⟨_,rfl⟩;obtain⟨mb,hmb⟩: ∃m,(Dg.dg 65536 bn).length=m:=⟨_,rfl⟩;rw[hX,hma,hmb] at HTI;rw[hX] at hml;rw[hX,hma,hmb];have HB:Hid (∀v w1,Rv w1 v ⟨sa != sb,X,ae+be⟩→yC 79 #[v] w1 (dr w1 (bare ⟨sa != sb,X,ae+be⟩))):=fun v w1 hv=>iJ v _ w1 hv (by simp only;omega) (by simp only;omega) (by simp only;omega)
 obtain⟨⟨rs,rn,re⟩,hbt⟩: ∃bt,bare ⟨sa != sb,X,ae+be⟩=bt:=⟨_,rfl⟩;rw[hbt] at HB⊢;clear hX hma hmb ra rb hLa hLb hbt hml;obtain⟨la,lb,lc,b01,-⟩:=ju w (.bool sa) (.slice ao ma ca) (yi ae) (.bool sb) (.slice bo mb cb) (yi be) (.bool false) (.slice none 0 0) (yi 0) 30 30 30;have zc:=rI w (.bool sa) (.slice ao ma ca) (yi ae) (.bool sb) (.slice bo mb cb) (yi be) 30 30 30;obtain⟨W,hW⟩: ∃W,(((w.alloc (.cells (ydA sa (.slice ao ma ca) ae) 30)).alloc (.cells (ydA sb (.slice bo mb cb) be) 30)).alloc (.cells (ydA false (.slice none 0 0) 0) 30))=W:=⟨_,rfl⟩;rw[hW] at la lb lc b01 zc;have bd:yB W W.drew:=(Below.refl _ _).drew;have la:=la.l bd;have lb:=lb.l bd;have lc:=lc.l bd;have zc:=zc.l bd;have b02:=aa b01 bd;rw[←hW] at la lb lc b02 zc;clear bd b01 hW;obtain⟨-,⟨ca0,ca1,ca2⟩,-⟩:=id la;obtain⟨-,⟨cb0,cb1,cb2⟩,-⟩:=id lb;have ne3:w.heap.size+1+1≠w.heap.size:=by omega
 have ne4:w.heap.size≠w.heap.size+1+1:=by omega
 have e4:IntKind.i64.wrap (ae+be)=ae+be:=IntWalk.i64_in _ ⟨by omega,by omega⟩
 go_enter func67,ntmps67
 go_wp2_with fail
 go_region_held3 (fun wq=>(wq.cell? ⟨w.heap.size,0,none⟩=some (.bool sa)∧wq.cell? ⟨w.heap.size,1,none⟩=some (.slice ao ma ca)∧wq.cell? ⟨w.heap.size,2,none⟩=some (yi ae))∧wq.cell? ⟨w.heap.size+1,0,none⟩=some (.bool sb)∧wq.cell? ⟨w.heap.size+1,1,none⟩=some (.slice bo mb cb)∧wq.cell? ⟨w.heap.size+1,2,none⟩=some (yi be)) (go_keep) (first
  | (go_at_call 76;refine(HTI.out _ b02).mono ?_;rintro z w5 ⟨vs,rfl,r5,b5⟩;have la5:=la.l b5;have lb5:=lb.l b5;have lc5:=lc.l b5;have zc5:=zc.l b5;have b05:=aa b02 b5;obtain⟨-,⟨t0,t1,t2⟩,-⟩:=id la5;obtain⟨-,⟨t3,t4,t5⟩,-⟩:=id lb5;obtain⟨so,sc,hvs⟩:=r5.shape;subst hvs)
  | (go_at_call 79;refine(HB.out _ w5 ⟨_,rfl,r5⟩).mono ?_;rintro z w6 ⟨vt,rfl,r6,b6⟩;have la6:=la5.l b6;have lb6:=lb5.l b6;have lc6:=lc5.l b6;have zc6:=zc5.l b6;have b06:=aa b05 b6;obtain⟨-,⟨u0,u1,u2⟩,-⟩:=id la6;obtain⟨-,⟨u3,u4,u5⟩,-⟩:=id lb6;obtain⟨to0,tc,hvt⟩:=r6.shape;subst hvt;obtain⟨hl6,⟨d0,d1,d2⟩,f0,f1,f2⟩:=id lc6))
 all_goals go_wp2
 obtain⟨-,⟨g0,g1,g2⟩,-⟩:=aD lc6 (.bool rs) (.slice to0 (Dg.dg 65536 rn).length tc) (yi re);have r7:=zc6.rd r6 (Dg.norm_dg _ _ (by omega)) (.bool rs) (.slice to0 (Dg.dg 65536 rn).length tc) (yi re);have b8:=am b06 (show w.heap.size≤w.heap.size+1+1 by omega) (.bool rs) (.slice to0 (Dg.dg 65536 rn).length tc) (yi re)
 refine bodyPost_ret (v:=(ydV rs (.slice to0 (Dg.dg 65536 rn).length tc) re)) (by simp[results,results67,go_sem,g0,g1,g2]) rfl ?_;exact⟨_,rfl,r7,b8⟩
theorem Nu {k:Nat}(hk:1≤k∧k≤8)(ng:Bool)(E F:Nat):zR k ng E F=kt k ng E F:=by
 unfold zR kt dh;have ho:kp k=2^exN k-1:=rfl;have h1:2≤2^exN k:=by
  have h7:=(fZ hk).2.2.2.2.2;have:2^1≤2^exN k:=Nat.pow_le_pow_right (by omega) (by omega);omega
 by_cases h3:k=3
 ·have hd3:2^ (dgN k-1)=2^63:=by rw[h3];rfl
  rw[if_pos h3,if_pos (show k≤3 by omega),ho,hd3,if_pos h3]
  generalize(2:Nat)^exN k=px at*;generalize(2:Nat)^63=p63 at*
  by_cases e0:E=0
  ·rw[if_neg (show¬E+1=px by omega),if_neg (show¬(0<E∧F<p63) by omega),if_pos e0]
   split<;>simp
  ·rw[if_neg e0]
   by_cases e1:E+1=px
   ·rw[if_pos e1,if_pos (show E=px-1 by omega)]
    split<;>simp
   ·rw[if_neg e1,if_neg (show¬E=px-1 by omega)]
    by_cases ef:F<p63
    ·rw[if_pos (show 0<E∧F<p63 by omega),if_pos (show k=3∧F<p63 from⟨h3,ef⟩)]
     simp
    ·rw[if_neg (show¬(0<E∧F<p63) by omega),if_neg (show¬(k=3∧F<p63) from fun h=>ef h.2)]
     simp
 ·rw[if_neg h3]
  by_cases h2:k≤2
  ·rw[if_pos h2,if_pos (show k≤3 by omega),ho,if_neg h3]
   generalize(2:Nat)^exN k=px at*
   by_cases e0:E=0
   ·rw[if_neg (show¬E+1=px by omega),if_pos e0]
    split<;>simp
   ·rw[if_neg e0]
    by_cases e1:E+1=px
    ·rw[if_pos e1,if_pos (show E=px-1 by omega)]
     split<;>simp
    ·rw[if_neg e1,if_neg (show¬E=px-1 by omega),if_neg (show¬(k=3∧F<2^63) from fun h=>h3 h.1)]
     simp
  ·rw[if_neg h2,if_neg (show¬k≤3 by omega)]
   by_cases h5:k≤5
   ·rw[if_pos h5,if_pos h5]
    split<;>simp
   ·rw[if_neg h5,if_neg h5]
    by_cases e0:E=0
    ·rw[if_pos e0,if_pos e0]
     cases ng<;>simp
    ·rw[if_neg e0,if_neg e0]
     simp
theorem SY (c:Int)(g s:Bool)(o:Option Addr)(l k:Nat)(e:Int)(w:World):
  yC 109 #[yoV c g s (.slice o l k) e] w (yR w (.bool (c==3))):=by
 obtain⟨W3,hW4,q1,b2⟩:=cA w (yoL c g s (.slice o l k) e) 98;replace hW4:Hid _:=hW4
 go_enter func109,ntmps109
 go_upto_region 1 with fail
 rw[hW4.out];clear hW4;have c5:=q1.c 0 rfl
 go_wp2
 go_ret
 exact⟨rfl,b2⟩
theorem lF (g s:Bool)(o:Option Addr)(l k:Nat)(e:Int)(w:World):yC 109 #[yoV 3 g s (.slice o l k) e] w (yR w (.bool true)):=SY 3 g s o l k e w
theorem iY (c:Int)(g s:Bool)(o:Option Addr)(l k:Nat)(e:Int)(w:World)(h:(c==3)=false):yC 109 #[yoV c g s (.slice o l k) e] w (yR w (.bool false)):=by
 have:=SY c g s o l k e w;rw[h] at this;exact this
theorem SZ (c:Int)(g s:Bool)(o:Option Addr)(l k:Nat)(e:Int)(w:World):
  yC 125 #[yoV c g s (.slice o l k) e] w (yR w (.bool (c==1))):=by
 obtain⟨W3,hW4,q1,b2⟩:=cA w (yoL c g s (.slice o l k) e) 98;replace hW4:Hid _:=hW4
 go_enter func125,ntmps125
 go_upto_region 1 with fail
 rw[hW4.out];clear hW4;have c5:=q1.c 0 rfl
 go_wp2
 go_ret
 exact⟨rfl,b2⟩
theorem BR (g s:Bool)(o:Option Addr)(l k:Nat)(e:Int)(w:World):yC 125 #[yoV 1 g s (.slice o l k) e] w (yR w (.bool true)):=SZ 1 g s o l k e w
theorem sC (c:Int)(g s:Bool)(o:Option Addr)(l k:Nat)(e:Int)(w:World)(h:(c==1)=false):yC 125 #[yoV c g s (.slice o l k) e] w (yR w (.bool false)):=by
 have:=SZ c g s o l k e w;rw[h] at this;exact this
theorem Oh (c:Int)(n wy fam R D L G:Int)(gr:Bool)(gx gy:Bool)(x y:ak)(xo yo:Option Addr)(xc yc:Nat)(w:World)
  (HN:yJ 108 #[ykV n wy fam R D L G gr,yi 16] (.tuple #[yoV c false false (.slice none 0 0) 0,yi 16])):
  yC 65 #[ykV n wy fam R D L G gr,yOV 3 gx x xo xc,yOV 1 gy y yo yc] w (dU w c false ⟨false,0,0⟩ 16):=by
 replace HN:Hid _:=HN;obtain⟨W6,hW7,q1,q2,q3,q4,b5⟩:=pi w (ykL n wy fam R D L G gr) 93 (yOL 3 gx x xo xc) 98 (yOL 1 gy y yo yc) 98 (yoL 0 false false (.slice none 0 0) 0) 98;replace hW7:Hid _:=hW7
 go_enter func65,ntmps65
 go_upto_region 1 with fail
 rw[hW7.out];clear hW7;obtain⟨c8,c9,c10,c11,c12⟩:=q2.cs5;have c13:=q3.c 1 rfl
 go_wp2_with fail
 refine(lF _ _ _ _ _ _ _).mono ?_;rintro zz w14 ⟨rfl,bb15⟩;have q16:=q1.l bb15;have q17:=q3.l bb15;have q18:=q4.l bb15;have b19:=aa b5 bb15;clear q1 q2 q3 q4 b5 bb15 c8 c9 c10 c11 c12 c13;obtain⟨c20,c21,c22,c23,c24⟩:=q17.cs5
 go_wp2_with fail
 refine(BR _ _ _ _ _ _ _).mono ?_;rintro zz w25 ⟨rfl,bb26⟩;have q27:=q16.l bb26;have q28:=q18.l bb26;have b29:=aa b19 bb26;clear q16 q17 q18 b19 bb26 c20 c21 c22 c23 c24;obtain⟨c30,c31,c32,c33,c34,c35,c36,c37⟩:=q27.cs8
 go_wp2_with fail
 refine(HN.out _).mono ?_;rintro zz w38 ⟨rfl,bb39⟩;have q40:=q28.l bb39;have b41:=aa b29 bb39;clear q27 q28 b29 bb39 HN c30 c31 c32 c33 c34 c35 c36 c37;have hf:=dL (P:=Tryz.prog) q40 b41 (by omega) underlying98 rfl (by kernel_rfl) (yi c) (.bool false) (.bool false) (.slice none 0 0) (yi 0);have HH:Hid (_∧_):=⟨hf.1,hf.2.1⟩;obtain⟨⟨z0,z1,z2,z3,z4⟩,y0,y1,y2,y3,y4⟩:=dN q40;clear hf q40 b41
 go_wp2
 obtain⟨hl,bR⟩:=HH.out;exact bodyPost_ret (aj results65 rfl rfl hl) rfl ⟨_,rfl,aN _ _,bR⟩
theorem Oi (c:Int)(n wy fam R D L G:Int)(gr:Bool)(gx gy:Bool)(x y:ak)(xo yo:Option Addr)(xc yc:Nat)(w:World)
  (HN:yJ 108 #[ykV n wy fam R D L G gr,yi 16] (.tuple #[yoV c false false (.slice none 0 0) 0,yi 16])):
  yC 65 #[ykV n wy fam R D L G gr,yOV 1 gx x xo xc,yOV 3 gy y yo yc] w (dU w c false ⟨false,0,0⟩ 16):=by
 replace HN:Hid _:=HN;obtain⟨W6,hW7,q1,q2,q3,q4,b5⟩:=pi w (ykL n wy fam R D L G gr) 93 (yOL 1 gx x xo xc) 98 (yOL 3 gy y yo yc) 98 (yoL 0 false false (.slice none 0 0) 0) 98;replace hW7:Hid _:=hW7
 go_enter func65,ntmps65
 go_upto_region 1 with fail
 rw[hW7.out];clear hW7;obtain⟨c8,c9,c10,c11,c12⟩:=q2.cs5;have c13:=q3.c 1 rfl
 go_wp2_with fail
 refine(iY _ _ _ _ _ _ _ _ rfl).mono ?_;rintro zz w14 ⟨rfl,bb15⟩;have q16:=q1.l bb15;have q17:=q2.l bb15;have q18:=q3.l bb15;have q19:=q4.l bb15;have b20:=aa b5 bb15;clear q1 q2 q3 q4 b5 bb15 c8 c9 c10 c11 c12 c13;obtain⟨c21,c22,c23,c24,c25⟩:=q17.cs5
 go_wp2_with fail
 refine(BR _ _ _ _ _ _ _).mono ?_;rintro zz w26 ⟨rfl,bb27⟩;have q28:=q16.l bb27;have q29:=q18.l bb27;have q30:=q19.l bb27;have b31:=aa b20 bb27;clear q16 q17 q18 q19 b20 bb27 c21 c22 c23 c24 c25;obtain⟨c32,c33,c34,c35,c36⟩:=q29.cs5
 go_wp2_with fail
 refine(lF _ _ _ _ _ _ _).mono ?_;rintro zz w37 ⟨rfl,bb38⟩;have q39:=q28.l bb38;have q40:=q30.l bb38;have b41:=aa b31 bb38;clear q28 q29 q30 b31 bb38 c32 c33 c34 c35 c36;obtain⟨c42,c43,c44,c45,c46,c47,c48,c49⟩:=q39.cs8
 go_wp2_with fail
 refine(HN.out _).mono ?_;rintro zz w50 ⟨rfl,bb51⟩;have q52:=q40.l bb51;have b53:=aa b41 bb51;clear q39 q40 b41 bb51 HN c42 c43 c44 c45 c46 c47 c48 c49;have hf:=dL (P:=Tryz.prog) q52 b53 (by omega) underlying98 rfl (by kernel_rfl) (yi c) (.bool false) (.bool false) (.slice none 0 0) (yi 0);have HH:Hid (_∧_):=⟨hf.1,hf.2.1⟩;obtain⟨⟨z0,z1,z2,z3,z4⟩,y0,y1,y2,y3,y4⟩:=dN q52;clear hf q52 b53
 go_wp2
 obtain⟨hl,bR⟩:=HH.out;exact bodyPost_ret (aj results65 rfl rfl hl) rfl ⟨_,rfl,aN _ _,bR⟩
theorem Oj (cy:Int)(n wy fam R D L G:Int)(gr:Bool)(gx gy:Bool)(x y:ak)(xo yo:Option Addr)(xc yc:Nat)(w:World)(hy1:(cy==1)=false):
  yC 65 #[ykV n wy fam R D L G gr,yOV 3 gx x xo xc,yOV cy gy y yo yc] w (dU w 3 (gx != gy) ⟨false,0,0⟩ 0):=by
 obtain⟨W6,hW7,q1,q2,q3,q4,b5⟩:=pi w (ykL n wy fam R D L G gr) 93 (yOL 3 gx x xo xc) 98 (yOL cy gy y yo yc) 98 (yoL 0 false false (.slice none 0 0) 0) 98;replace hW7:Hid _:=hW7;clear q1
 go_enter func65,ntmps65
 go_upto_region 1 with fail
 rw[hW7.out];clear hW7;obtain⟨c8,c9,c10,c11,c12⟩:=q2.cs5;have c13:=q3.c 1 rfl
 go_wp2_with fail
 refine(lF _ _ _ _ _ _ _).mono ?_;rintro zz w14 ⟨rfl,bb15⟩;have q16:=q2.l bb15;have q17:=q3.l bb15;have q18:=q4.l bb15;have b19:=aa b5 bb15;clear q2 q3 q4 b5 bb15 c8 c9 c10 c11 c12 c13;obtain⟨c20,c21,c22,c23,c24⟩:=q17.cs5
 go_wp2_with fail
 refine(sC _ _ _ _ _ _ _ _ hy1).mono ?_;rintro zz w25 ⟨rfl,bb26⟩;have q27:=q16.l bb26;have q28:=q18.l bb26;have b29:=aa b19 bb26;clear q16 q17 q18 b19 bb26 c20 c21 c22 c23 c24;obtain⟨c30,c31,c32,c33,c34⟩:=q27.cs5
 go_wp2_with fail
 refine(sC _ _ _ _ _ _ _ _ rfl).mono ?_;rintro zz w35 ⟨rfl,bb36⟩;have q37:=q27.l bb36;have q38:=q28.l bb36;have b39:=aa b29 bb36;clear q27 q28 b29 bb36 c30 c31 c32 c33 c34;obtain⟨c40,c41,c42,c43,c44⟩:=q37.cs5
 go_wp2_with fail
 refine(lF _ _ _ _ _ _ _).mono ?_;rintro zz w45 ⟨rfl,bb46⟩;have q47:=q38.l bb46;have b48:=aa b39 bb46;clear q37 q38 b39 bb46 c40 c41 c42 c43 c44;have hf:=dL (P:=Tryz.prog) q47 b48 (by omega) underlying98 rfl (by kernel_rfl) (yi 3) (.bool (gx != gy)) (.bool false) (.slice none 0 0) (yi 0);have HH:Hid (_∧_):=⟨hf.1,hf.2.1⟩;obtain⟨⟨z0,z1,z2,z3,z4⟩,y0,y1,y2,y3,y4⟩:=dN q47;clear hf q47 b48
 go_wp2
 obtain⟨hl,bR⟩:=HH.out;exact bodyPost_ret (aj results65 rfl rfl hl) rfl ⟨_,rfl,aN _ _,bR⟩
theorem Ok (cx:Int)(n wy fam R D L G:Int)(gr:Bool)(gx gy:Bool)(x y:ak)(xo yo:Option Addr)(xc yc:Nat)(w:World)(hx3:(cx==3)=false)(hx1:(cx==1)=false):
  yC 65 #[ykV n wy fam R D L G gr,yOV cx gx x xo xc,yOV 3 gy y yo yc] w (dU w 3 (gx != gy) ⟨false,0,0⟩ 0):=by
 obtain⟨W6,hW7,q1,q2,q3,q4,b5⟩:=pi w (ykL n wy fam R D L G gr) 93 (yOL cx gx x xo xc) 98 (yOL 3 gy y yo yc) 98 (yoL 0 false false (.slice none 0 0) 0) 98;replace hW7:Hid _:=hW7;clear q1
 go_enter func65,ntmps65
 go_upto_region 1 with fail
 rw[hW7.out];clear hW7;obtain⟨c8,c9,c10,c11,c12⟩:=q2.cs5;have c13:=q3.c 1 rfl
 go_wp2_with fail
 refine(iY _ _ _ _ _ _ _ _ hx3).mono ?_;rintro zz w14 ⟨rfl,bb15⟩;have q16:=q2.l bb15;have q17:=q3.l bb15;have q18:=q4.l bb15;have b19:=aa b5 bb15;clear q2 q3 q4 b5 bb15 c8 c9 c10 c11 c12 c13;obtain⟨c20,c21,c22,c23,c24⟩:=q16.cs5
 go_wp2_with fail
 refine(sC _ _ _ _ _ _ _ _ hx1).mono ?_;rintro zz w25 ⟨rfl,bb26⟩;have q27:=q16.l bb26;have q28:=q17.l bb26;have q29:=q18.l bb26;have b30:=aa b19 bb26;clear q16 q17 q18 b19 bb26 c20 c21 c22 c23 c24;obtain⟨c31,c32,c33,c34,c35⟩:=q27.cs5
 go_wp2_with fail
 refine(iY _ _ _ _ _ _ _ _ hx3).mono ?_;rintro zz w36 ⟨rfl,bb37⟩;have q38:=q28.l bb37;have q39:=q29.l bb37;have b40:=aa b30 bb37;clear q27 q28 q29 b30 bb37 c31 c32 c33 c34 c35;obtain⟨c41,c42,c43,c44,c45⟩:=q38.cs5
 go_wp2_with fail
 refine(lF _ _ _ _ _ _ _).mono ?_;rintro zz w46 ⟨rfl,bb47⟩;have q48:=q39.l bb47;have b49:=aa b40 bb47;clear q38 q39 b40 bb47 c41 c42 c43 c44 c45;have hf:=dL (P:=Tryz.prog) q48 b49 (by omega) underlying98 rfl (by kernel_rfl) (yi 3) (.bool (gx != gy)) (.bool false) (.slice none 0 0) (yi 0);have HH:Hid (_∧_):=⟨hf.1,hf.2.1⟩;obtain⟨⟨z0,z1,z2,z3,z4⟩,y0,y1,y2,y3,y4⟩:=dN q48;clear hf q48 b49
 go_wp2
 obtain⟨hl,bR⟩:=HH.out;exact bodyPost_ret (aj results65 rfl rfl hl) rfl ⟨_,rfl,aN _ _,bR⟩
theorem Ol (cy c:Int)(g:Bool)(t u:ak)(n wy fam R D L G:Int)(gr:Bool)(gx gy:Bool)(x y:ak)(xo yo:Option Addr)(xc yc:Nat)(w:World)(hy3:(cy==3)=false)
  (HT: ∀w1,yB w w1→yC 126 #[yDV x xo xc,yDV y yo yc] w1 (jN w1 u))
  (HM: ∀uo uc w1,Rd w1 .u32 (.slice uo (Dg.dg 4294967296 u.n).length uc) (Dg.dg 4294967296 u.n)→yC 110 #[yDV u uo uc,.bool (gx != gy)] w1 (xj w1 c g t)):
  yC 65 #[ykV n wy fam R D L G gr,yOV 1 gx x xo xc,yOV cy gy y yo yc] w (dU w c g t 0):=by
 replace HT:Hid _:=HT;replace HM:Hid _:=HM;obtain⟨W6,hW7,q1,q2,q3,q4,b5⟩:=pi w (ykL n wy fam R D L G gr) 93 (yOL 1 gx x xo xc) 98 (yOL cy gy y yo yc) 98 (yoL 0 false false (.slice none 0 0) 0) 98;replace hW7:Hid _:=hW7;clear q1
 go_enter func65,ntmps65
 go_upto_region 1 with fail
 rw[hW7.out];clear hW7;obtain⟨c8,c9,c10,c11,c12⟩:=q2.cs5;have c13:=q3.c 1 rfl
 go_wp2_with fail
 refine(iY _ _ _ _ _ _ _ _ rfl).mono ?_;rintro zz w14 ⟨rfl,bb15⟩;have q16:=q2.l bb15;have q17:=q3.l bb15;have q18:=q4.l bb15;have b19:=aa b5 bb15;clear q2 q3 q4 b5 bb15 c8 c9 c10 c11 c12 c13;obtain⟨c20,c21,c22,c23,c24⟩:=q16.cs5
 go_wp2_with fail
 refine(BR _ _ _ _ _ _ _).mono ?_;rintro zz w25 ⟨rfl,bb26⟩;have q27:=q16.l bb26;have q28:=q17.l bb26;have q29:=q18.l bb26;have b30:=aa b19 bb26;clear q16 q17 q18 b19 bb26 c20 c21 c22 c23 c24;obtain⟨c31,c32,c33,c34,c35⟩:=q28.cs5
 go_wp2_with fail
 refine(iY _ _ _ _ _ _ _ _ hy3).mono ?_;rintro zz w36 ⟨rfl,bb37⟩;have q38:=q27.l bb37;have q39:=q28.l bb37;have q40:=q29.l bb37;have b41:=aa b30 bb37;clear q27 q28 q29 b30 bb37 c31 c32 c33 c34 c35;obtain⟨c42,c43,c44,c45,c46⟩:=q38.cs5
 go_wp2_with fail
 refine(iY _ _ _ _ _ _ _ _ rfl).mono ?_;rintro zz w47 ⟨rfl,bb48⟩;have q49:=q38.l bb48;have q50:=q39.l bb48;have q51:=q40.l bb48;have b52:=aa b41 bb48;clear q38 q39 q40 b41 bb48 c42 c43 c44 c45 c46;obtain⟨c53,c54,c55,c56,c57⟩:=q50.cs5
 go_wp2_with fail
 refine(iY _ _ _ _ _ _ _ _ hy3).mono ?_;rintro zz w58 ⟨rfl,bb59⟩;have q60:=q49.l bb59;have q61:=q50.l bb59;have q62:=q51.l bb59;have b63:=aa b52 bb59;clear q49 q50 q51 b52 bb59 c53 c54 c55 c56 c57;have c64:=q60.c 2 rfl;have c65:=q60.c 3 rfl;have c66:=q60.c 4 rfl;have c67:=q61.c 2 rfl;have c68:=q61.c 3 rfl;have c69:=q61.c 4 rfl
 go_wp2_with fail
 refine(HT.out _ b63).mono ?_;rintro zz w70 ⟨v172,rfl,r173,bb71⟩;have q74:=q62.l bb71;have b75:=aa b63 bb71;have r76:=r173.rd;obtain⟨uo,uc,hv⟩:=r76.shape;subst hv;clear q60 q61 q62 b63 bb71 r173 HT c64 c65 c66 c67 c68 c69
 go_wp2_with fail
 refine(HM.out _ _ _ r76).mono ?_;rintro zz w77 ⟨v179,rfl,r180,bb78⟩;have q81:=q74.l bb78;have r82:=r76.l bb78;have b83:=aa b75 bb78;obtain⟨so,sc,hv⟩:=r180.shape;subst hv;clear q74 r76 b75 bb78 HM;have hf:=dL (P:=Tryz.prog) q81 b83 (by omega) underlying98 rfl (by kernel_rfl) (yi c) (.bool g) (.bool t.s) (.slice so (Dg.dg 4294967296 t.n).length sc) (yi t.e);have HH:Hid (_∧_∧_):=⟨hf.1,hf.2.2.rd r180 (aX r180 q81 (by simp)),hf.2.1⟩;obtain⟨⟨z0,z1,z2,z3,z4⟩,y0,y1,y2,y3,y4⟩:=dN q81;clear hf q81 r82 r180 b83
 go_wp2
 obtain⟨hl,rRs,bR⟩:=HH.out;exact bodyPost_ret (aj results65 rfl rfl hl) rfl ⟨_,rfl,rRs,bR⟩
theorem K5 (cx cy c:Int)(g:Bool)(t u:ak)(n wy fam R D L G:Int)(gr:Bool)(gx gy:Bool)(x y:ak)(xo yo:Option Addr)(xc yc:Nat)(w:World)(hx3:(cx==3)=false)(hx1:(cx==1)=false)(hy3:(cy==3)=false)
  (HT: ∀w1,yB w w1→yC 126 #[yDV x xo xc,yDV y yo yc] w1 (jN w1 u))
  (HM: ∀uo uc w1,Rd w1 .u32 (.slice uo (Dg.dg 4294967296 u.n).length uc) (Dg.dg 4294967296 u.n)→yC 110 #[yDV u uo uc,.bool (gx != gy)] w1 (xj w1 c g t)):
  yC 65 #[ykV n wy fam R D L G gr,yOV cx gx x xo xc,yOV cy gy y yo yc] w (dU w c g t 0):=by
 replace HT:Hid _:=HT;replace HM:Hid _:=HM;obtain⟨W6,hW7,q1,q2,q3,q4,b5⟩:=pi w (ykL n wy fam R D L G gr) 93 (yOL cx gx x xo xc) 98 (yOL cy gy y yo yc) 98 (yoL 0 false false (.slice none 0 0) 0) 98;replace hW7:Hid _:=hW7;clear q1
 go_enter func65,ntmps65
 go_upto_region 1 with fail
 rw[hW7.out];clear hW7;obtain⟨c8,c9,c10,c11,c12⟩:=q2.cs5;have c13:=q3.c 1 rfl
 go_wp2_with fail
 refine(iY _ _ _ _ _ _ _ _ hx3).mono ?_;rintro zz w14 ⟨rfl,bb15⟩;have q16:=q2.l bb15;have q17:=q3.l bb15;have q18:=q4.l bb15;have b19:=aa b5 bb15;clear q2 q3 q4 b5 bb15 c8 c9 c10 c11 c12 c13;obtain⟨c20,c21,c22,c23,c24⟩:=q16.cs5
 go_wp2_with fail
 refine(sC _ _ _ _ _ _ _ _ hx1).mono ?_;rintro zz w25 ⟨rfl,bb26⟩;have q27:=q16.l bb26;have q28:=q17.l bb26;have q29:=q18.l bb26;have b30:=aa b19 bb26;clear q16 q17 q18 b19 bb26 c20 c21 c22 c23 c24;obtain⟨c31,c32,c33,c34,c35⟩:=q27.cs5
 go_wp2_with fail
 refine(iY _ _ _ _ _ _ _ _ hx3).mono ?_;rintro zz w36 ⟨rfl,bb37⟩;have q38:=q27.l bb37;have q39:=q28.l bb37;have q40:=q29.l bb37;have b41:=aa b30 bb37;clear q27 q28 q29 b30 bb37 c31 c32 c33 c34 c35;obtain⟨c42,c43,c44,c45,c46⟩:=q39.cs5
 go_wp2_with fail
 refine(iY _ _ _ _ _ _ _ _ hy3).mono ?_;rintro zz w47 ⟨rfl,bb48⟩;have q49:=q38.l bb48;have q50:=q39.l bb48;have q51:=q40.l bb48;have b52:=aa b41 bb48;clear q38 q39 q40 b41 bb48 c42 c43 c44 c45 c46;have c53:=q49.c 2 rfl;have c54:=q49.c 3 rfl;have c55:=q49.c 4 rfl;have c56:=q50.c 2 rfl;have c57:=q50.c 3 rfl;have c58:=q50.c 4 rfl
 go_wp2_with fail
 refine(HT.out _ b52).mono ?_;rintro zz w59 ⟨v161,rfl,r162,bb60⟩;have q63:=q51.l bb60;have b64:=aa b52 bb60;have r65:=r162.rd;obtain⟨uo,uc,hv⟩:=r65.shape;subst hv;clear q49 q50 q51 b52 bb60 r162 HT c53 c54 c55 c56 c57 c58
 go_wp2_with fail
 refine(HM.out _ _ _ r65).mono ?_;rintro zz w66 ⟨v168,rfl,r169,bb67⟩;have q70:=q63.l bb67;have r71:=r65.l bb67;have b72:=aa b64 bb67;obtain⟨so,sc,hv⟩:=r169.shape;subst hv;clear q63 r65 b64 bb67 HM;have hf:=dL (P:=Tryz.prog) q70 b72 (by omega) underlying98 rfl (by kernel_rfl) (yi c) (.bool g) (.bool t.s) (.slice so (Dg.dg 4294967296 t.n).length sc) (yi t.e);have HH:Hid (_∧_∧_):=⟨hf.1,hf.2.2.rd r169 (aX r169 q70 (by simp)),hf.2.1⟩;obtain⟨⟨z0,z1,z2,z3,z4⟩,y0,y1,y2,y3,y4⟩:=dN q70;clear hf q70 r71 r169 b72
 go_wp2
 obtain⟨hl,rRs,bR⟩:=HH.out;exact bodyPost_ret (aj results65 rfl rfl hl) rfl ⟨_,rfl,rRs,bR⟩
theorem adb (cx cy c fl:Int)(gg:Bool)(t:ak)(n wy fam R D L G:Int)(gr:Bool)(gx gy:Bool)(x y:ak)(xo yo:Option Addr)(xc yc:Nat)(g cap:Nat)(w:World)(h0:w.rangeAt g 0 (yOL cx gx x xo xc))(h1:w.rangeAt g 5 (yOL cy gy y yo yc))
  (HS: ∀w1,yB w w1→yC 65 #[ykV n wy fam R D L G gr,yOV cx gx x xo xc,yOV cy gy y yo yc] w1 (dU w1 c gg t fl)):
  yC 64 #[ykV n wy fam R D L G gr,.slice (some ⟨g,0,none⟩) 2 cap] w (dU w c gg t fl):=by
 replace HS:Hid _:=HS;have hgl:g<w.heap.size:=World.block_lt_of_cell? w _ (h0 0 _ rfl);obtain⟨W4,hW5,q1,q2,b3⟩:=iG w (ykL n wy fam R D L G gr) 93 (yoL 0 false false (.slice none 0 0) 0) 98;replace hW5:Hid _:=hW5;have q6:=aC h0 b3;have q7:=aC h1 b3;clear h0 h1
 go_enter func64,ntmps64
 go_upto_region 1 with fail
 rw[hW5.out];clear hW5
 go_upto_region 1 with fail
 have bW8:yB W4 W4.drew:=(Below.refl _ _).drew;have q9:=aC q6 bW8;have q10:=aC q7 bW8;have q11:=q1.l bW8;have q12:=q2.l bW8;have b13:=aa b3 bW8;clear q6 q7 q1 q2 b3 bW8;refine wp_region_held_drew (S:=fun wq=>wq.rangeAt g 0 (yOL cx gx x xo xc)∧wq.rangeAt g 5 (yOL cy gy y yo yc)∧au wq w.heap.size 93 (ykL n wy fam R D L G gr)) (by kernel_rfl) ⟨q9,q10,q11⟩ (fun hS0=> ?_)
 generalize W4.drew=WD14 at q9 q10 q11 q12 b13 hS0⊢;refine tk 0 (ykV n wy fam R D L G gr) rfl (by kernel_rfl) (fun _ _ _ h=>h) (fun _ hw0=>fy 93 (.tmp 2) rfl w.heap.size 0 (by kernel_rfl) _ _ hw0.2.2.range underlying93 rfl (by kernel_rfl)) hS0 ?_
 refine tk 1 (.slice (some ⟨g,0,none⟩) 2 cap) rfl (by kernel_rfl) (fun _ _ _ h=>h) (fun _ _=>by kernel_rfl) hS0 ?_
 refine tk 2 (.pointer (some ⟨g,0,none⟩)) rfl (by kernel_rfl) (fun _ _ _ h=>h) (fun _ _=>by kernel_rfl) hS0 ?_
 refine tk 3 (yOV cx gx x xo xc) rfl (by kernel_rfl) (fun _ _ _ h=>h) (fun _ hw0=>fy 98 (.tmp 8) rfl g 0 (by kernel_rfl) _ _ hw0.1 underlying98 rfl (by kernel_rfl)) hS0 ?_
 refine tk 4 (.slice (some ⟨g,0,none⟩) 2 cap) rfl (by kernel_rfl) (fun _ _ _ h=>h) (fun _ _=>by kernel_rfl) hS0 ?_
 refine tk 5 (.pointer (some ⟨g,5,none⟩)) rfl (by kernel_rfl) (fun _ _ _ h=>h) (fun _ _=>by kernel_rfl) hS0 ?_
 refine tk 6 (yOV cy gy y yo yc) rfl (by kernel_rfl) (fun _ _ _ h=>h) (fun _ hw0=>fy 98 (.tmp 11) rfl g 5 (by kernel_rfl) _ _ hw0.2.1 underlying98 rfl (by kernel_rfl)) hS0 ?_
 refine wpAnyH_ready (rs:=[7]) (by kernel_rfl) (by simp) ?_;refine AllReadyH.cons rfl (fun K hK=> ?_) AllReadyH.nil
 go_simp
 refine(HS.out _ b13).mono ?_;rintro zz w15 ⟨v117,rfl,r118,bb16⟩;have q19:=aC q9 bb16;have q20:=aC q10 bb16;have q21:=q11.l bb16;have q22:=q12.l bb16;have b23:=aa b13 bb16;obtain⟨so,sc,hv⟩:=r118.shape;subst hv;clear q9 q10 q11 q12 b13 bb16 HS;refine hK.out _ _ ⟨q19,q20,q21⟩ (fun hS24=> ?_)
 clear hK K;refine tk 8 (yOV c gg t so sc) rfl (by kernel_rfl) (fun _ _ _ h=>h) (fun _ _=>by go_simp) hS24 ?_
 refine tk 9 (yi fl) rfl (by kernel_rfl) (fun _ _ _ h=>h) (fun _ _=>by go_simp) hS24 ?_
 refine wpAnyH_ready (rs:=[10]) (by kernel_rfl) (by simp) ?_;refine AllReadyH.cons rfl (fun K hK=> ?_) AllReadyH.nil
 have bu:But (w.heap.size+1) w15 (w15.setCells (w.heap.size+1) 0 (yOL c gg t so sc)):=de _ _ _ _;have hth:w15.there (w.heap.size+1) 0 5:=dD q22;have q25:au (w15.setCells (w.heap.size+1) 0 (yOL c gg t so sc)) (w.heap.size+1) 98 (yOL c gg t so sc):=q22.sets _ rfl;have r26:=bu.rd r118 (aX r118 q22 (by simp));have q27:=dZ bu q19 (by omega);have q28:=dZ bu q20 (by omega);have q29:=bu.loc q21 (by omega);have b30:=bu.below b23 (by omega);rw[if_pos (by kernel_rfl)];refine wp_store_mid 98 (.tmp 4) (.tmp 14) rfl (w.heap.size+1) 0 (yOA c gg t so sc) (by kernel_rfl) (by kernel_rfl) hth (by kernel_rfl) (by simp[Value.oneCell']) ?_;refine hK.out _ _ ⟨q27,q28,q29⟩ (fun hS31=> ?_)
 clear hK K;clear q22 r118 q19 q20 q21 b23 bu hth;refine tk 11 (yi fl) rfl (by kernel_rfl) (fun _ _ _ h=>h) (fun _ _=>by kernel_rfl) hS31 ?_
 refine wpAnyH_done (by kernel_rfl) ?_ _;clear hS0 hS24 hS31;change Exit.then _ _ _ _ (World.setCells w15 (w.heap.size+1) 0 (yOL c gg t so sc));generalize World.setCells w15 (w.heap.size+1) 0 (yOL c gg t so sc)=W32 at q27 q28 q29 q25 r26 b30⊢;simp only[Act.put,List.getElem_toArray,List.getElem_cons_succ,List.getElem_cons_zero,List.setIfInBounds_toArray,List.set_cons_zero,List.set_cons_succ];have hl:=run_loadVar_mid (P:=Tryz.prog) _ (w.heap.size+1) 0 98 (yOL c gg t so sc) _ q25.range underlying98 rfl (by kernel_rfl)
 go_wp2
 exact bodyPost_ret (aj results64 rfl rfl hl) rfl ⟨_,rfl,r26,b30⟩
theorem aeR (n way f1 e1:Int)(a b st:ByteArray)(w:World)
  (HR: ∀pb w1,yB w w1→au w1 pb 9 [.string a,.string b]→yC 53 #[yi n,yi way,.func (.func 64) #[] #[],.slice (some ⟨pb,0,none⟩) 2 2] w1 (yR w1 (.tuple #[.string st,yi f1,yi e1]))):
  yC 24 #[yi n,.string a,.string b,yi way] w (yR w (.tuple #[.string st,yi f1,yi e1])):=by
 replace HR:Hid _:=HR
 go_enter func24,ntmps24
 have b0:=Below.refl w.heap.size w;have al1:=af w (.cells #[.string a,.string b] 9);have q2:=ah w [.string a,.string b] 9;have b3:=aa b0 al1
 go_wp2_with fail
 refine(HR.out _ _ b3 q2).mono ?_;rintro zz w4 ⟨rfl,bb5⟩;have b6:=aa b3 bb5;clear q2 b3 bb5 b0 al1
 go_wp2
 go_ret3
 exact⟨rfl,b6⟩
end Go.Proofs.YtnhackdjplppjaaGreatDoor

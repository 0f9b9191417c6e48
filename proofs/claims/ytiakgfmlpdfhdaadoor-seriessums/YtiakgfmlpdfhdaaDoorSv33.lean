/-
  Texts laid together: Dp2, Dl9.
-/
import Derived.Test.YtiakgfmlpdfhdaaDoorSv17
import Derived.Test.YtiakgfmlpdfhdaaDoorSv18
import Derived.Test.YtiakgfmlpdfhdaaDoorSv19
import Derived.Test.YtiakgfmlpdfhdaaDoorSv22
import Derived.Test.YtiakgfmlpdfhdaaDoorSv23
import Derived.Test.YtiakgfmlpdfhdaaDoorSv24
import Derived.Test.YtiakgfmlpdfhdaaDoorSv25
set_option maxRecDepth 100000
set_option maxHeartbeats 1600000
namespace Go.Proofs.YtiakgfmlpdfhdaaDoor
open Go.RowKit
theorem vM (v u:Value)(a b:ak)(w:World)(hv:Rv w v a)(hu:Rv w u b)(hLa:(Dg.dg 65536 a.n).length≤30000)(hLb:(Dg.dg 65536 b.n).length≤30000)
  (ha1: -200000≤a.e) (ha2:a.e≤200000) (hb1: -200000≤b.e) (hb2:b.e≤200000):
  yC 27 #[v,u] w (di w (bare (cO a b))):=by
 obtain⟨s0,rfl,ra⟩:=hv;obtain⟨ao,ca,rfl⟩:=ra.shape;obtain⟨s1,rfl,rb⟩:=hu;obtain⟨bo,cb,rfl⟩:=rb.shape;obtain⟨sa,an,ae⟩:=a;obtain⟨sb,bn,be⟩:=b;simp only at ra rb hLa hLb ha1 ha2 hb1 hb2⊢;obtain⟨E,hE⟩: ∃E:Int,(if bn=0 then ae else if an=0 then be else min ae be)=E:=⟨_,rfl⟩
 have hl: -200000≤E∧E≤200000:=by
  rw[←hE];split
  ·omega
  ·split<;>omega
 obtain⟨X,hX⟩: ∃X,an*2^ (max 0 (ae-E)).toNat=X:=⟨_,rfl⟩;obtain⟨Y,hY⟩: ∃Y,bn*2^ (max 0 (be-E)).toNat=Y:=⟨_,rfl⟩;have hd:cO ⟨sa,an,ae⟩ ⟨sb,bn,be⟩=if sa=sb then⟨sa,X+Y,E⟩ else if Y≤X then⟨sa,X-Y,E⟩ else⟨sb,Y-X,E⟩:=by
  simp only[cO,hE,hX,hY]
 have hc:((((Dg.dg 65536 an).length:Int)==0)=false∧(((Dg.dg 65536 bn).length:Int)==0)=false∧min ae be=E)∨((((Dg.dg 65536 an).length:Int)==0)=true∧(((Dg.dg 65536 bn).length:Int)==0)=false∧be=E)∨((((Dg.dg 65536 an).length:Int)==0)=false∧(((Dg.dg 65536 bn).length:Int)==0)=true∧ae=E)∨((((Dg.dg 65536 an).length:Int)==0)=true∧(((Dg.dg 65536 bn).length:Int)==0)=true∧ae=E):=by
  rw[len_zero,len_zero,←hE]
  by_cases h1:an=0<;>by_cases h2:bn=0<;>simp[h1,h2]
 have lx:(Dg.dg 65536 X).length≤55001:=by rw[←hX];exact Nat.le_trans (jZ an _ 30000 25001 hLa (by omega)) (by omega)
 have ly:(Dg.dg 65536 Y).length≤55001:=by rw[←hY];exact Nat.le_trans (jZ bn _ 30000 25001 hLb (by omega)) (by omega)
 have wr: ∀e:Int,-200000≤e→e≤200000→IntKind.i64.wrap (e-E)=e-E:=fun e h1 h2=>IntWalk.i64_in _ ⟨by omega,by omega⟩
 have HU: ∀w1,yB w w1→yC 51 #[yS ao an ca,yi (max 0 (ae-E))] w1 (cG w1 X):=fun w1 b1=>by
  have:=kD _ _ (max 0 (ae-E)).toNat w1 (ra.l b1) (Dg.small_dg _ _ (by omega)) (by omega) (by omega)
  rwa [Dg.vl_dg _ _ (by omega),Int.toNat_of_nonneg (by omega),hX] at this
 have HV: ∀w1,yB w w1→yC 51 #[yS bo bn cb,yi (max 0 (be-E))] w1 (cG w1 Y):=fun w1 b1=>by
  have:=kD _ _ (max 0 (be-E)).toNat w1 (rb.l b1) (Dg.small_dg _ _ (by omega)) (by omega) (by omega)
  rwa [Dg.vl_dg _ _ (by omega),Int.toNat_of_nonneg (by omega),hY] at this
 have HB: ∀s Z zo zc w1,(Dg.dg 65536 Z).length≤100000→yB w w1→Rd w1 .i64 (yS zo Z zc) (Dg.dg 65536 Z)→yC 29 #[ydV s (yS zo Z zc) E] w1 (Xi w.heap.size w1 (bare ⟨s,Z,E⟩)):=
  fun s Z zo zc w1 h b1 r=>(lA _ ⟨s,Z,E⟩ w1 ⟨_,rfl,r⟩ h (by simp only;omega) (by simp only;omega)).mono fun _ _ h=>h.hid b1.size
 have ml: ∀P Q:Nat,(Dg.dg 65536 P).length≤55001→(Dg.dg 65536 (P-Q)).length≤100000:=fun P Q h=>Nat.le_trans (aH 65536 _ P (by omega) (Nat.sub_le _ _)) (by omega)
 have HC: ∀xo xc yo yc w1,yB w w1→Rd w1 .i64 (yS xo X xc) (Dg.dg 65536 X)→Rd w1 .i64 (yS yo Y yc) (Dg.dg 65536 Y)→yC 52 #[yS xo X xc,yS yo Y yc] w1 (yR w1 (yi (dm X Y))):=fun xo xc yo yc w1 _ h1 h2=>by
  have:=fm _ _ _ _ w1 h1 h2 (Dg.small_dg _ _ (by omega)) (Dg.small_dg _ _ (by omega)) (Dg.norm_dg _ _ (by omega)) (Dg.norm_dg _ _ (by omega))
  rwa [Dg.vl_dg _ _ (by omega),Dg.vl_dg _ _ (by omega)] at this
 rw[hd]
 by_cases hs:sa=sb
 ·subst hs
  rw[if_pos rfl];refine refDP_same ae be E _ _ _ _ sa ao bo _ _ ca cb X Y (X+Y) _ w hc (wr _ ha1 ha2) (wr _ hb1 hb2) rfl rfl HU HV (fun xo xc yo yc w1 _ h1 h2=> ?_) (fun zo zc w1 b1 r=>HB _ _ _ _ _ ?_ b1 r)
  ·have:=ew _ _ _ _ w1 h1 h2 (Dg.small_dg _ _ (by omega)) (Dg.small_dg _ _ (by omega)) (Dg.norm_dg _ _ (by omega)) (Dg.norm_dg _ _ (by omega)) (by omega) (by omega)
   rwa [Dg.vl_dg _ _ (by omega),Dg.vl_dg _ _ (by omega)] at this
  ·exact Nat.le_trans (og X Y 55001 lx ly) (by omega)
 ·have hs':(sa==sb)=false:=by simpa using hs
  rw[if_neg hs]
  by_cases hq:Y≤X
  ·rw[if_pos hq]
   refine refDP_geq ae be E _ _ _ _ sa sb ao bo _ _ ca cb X Y (X-Y) _ w (dm X Y) hs' ?_ hc (wr _ ha1 ha2) (wr _ hb1 hb2) rfl rfl HU HV HC (fun xo xc yo yc w1 _ h1 h2=> ?_) (fun zo zc w1 b1 r=>HB _ _ _ _ _ (ml _ _ lx) b1 r)
   ·unfold dm;split
    ·omega
    ·split<;>omega
   ·have:=kI _ _ _ _ w1 h1 h2 (Dg.small_dg _ _ (by omega)) (Dg.small_dg _ _ (by omega)) (by omega) (aH _ _ _ (by omega) hq) (by rw[Dg.vl_dg _ _ (by omega),Dg.vl_dg _ _ (by omega)];exact hq)
    rwa [Dg.vl_dg _ _ (by omega),Dg.vl_dg _ _ (by omega)] at this
  ·rw[if_neg hq]
   refine refDP_less ae be E _ _ _ _ sa sb ao bo _ _ ca cb X Y (Y-X) _ w (dm X Y) hs' ?_ hc (wr _ ha1 ha2) (wr _ hb1 hb2) rfl rfl HU HV HC (fun xo xc yo yc w1 _ h1 h2=> ?_) (fun zo zc w1 b1 r=>HB _ _ _ _ _ (ml _ _ ly) b1 r)
   ·unfold dm;split
    ·omega
    ·split<;>omega
   ·have:=kI _ _ _ _ w1 h2 h1 (Dg.small_dg _ _ (by omega)) (Dg.small_dg _ _ (by omega)) (by omega) (aH _ _ _ (by omega) (by omega)) (by rw[Dg.vl_dg _ _ (by omega),Dg.vl_dg _ _ (by omega)];omega)
    rwa [Dg.vl_dg _ _ (by omega),Dg.vl_dg _ _ (by omega)] at this
theorem lw (v u:Value)(a b:ak)(w:World)(hv:Rv w v a)(hu:Rv w u b)(hLa:(Dg.dg 65536 a.n).length≤30000)(hLb:(Dg.dg 65536 b.n).length≤30000)
  (ha1: -200000≤a.e) (ha2:a.e≤200000) (hb1: -200000≤b.e) (hb2:b.e≤200000):
  yC 27 #[v,u] w (dr w (bare (cO a b))):=
 (vM v u a b w hv hu hLa hLb ha1 ha2 hb1 hb2).mono fun _ _ h=>h.near
theorem gQ (v u : Value) (a b : ak) (w : World) (hv : Rv w v a) (hu : Rv w u b) (hLa : (Dg.dg 65536 a.n).length ≤ 30000) (hLb : (Dg.dg 65536 b.n).length ≤ 30000)
  (ha1 : -200000 ≤ a.e) (ha2 : a.e ≤ 200000) (hb1 : -200000 ≤ b.e) (hb2 : b.e ≤ 200000) :
  Calls Tryd.prog 21 #[v, u] w fun z w' => z = .returned (.int .i64 (dJ (bare (cO a (dB b))))) ∧ Below w.heap.size w w' := by
 have HM : Hid (∀ w1, Below w.heap.size w w1 → Calls Tryd.prog 28 #[u] w1 (dr w1 (dB b))) := fun w1 b1 => uI u b w1 (hu.l b1)
 have HP : Hid (∀ x w1, Below w.heap.size w w1 → Rv w1 x (dB b) → Calls Tryd.prog 27 #[v, x] w1 (dr w1 (bare (cO a (dB b))))) := fun x w1 b1 hx => lw v x a (dB b) w1 (hv.l b1) hx hLa hLb ha1 ha2 hb1 hb2
 obtain ⟨s0, rfl, ra⟩ := hv
 obtain ⟨ao, ca, rfl⟩ := ra.shape
 obtain ⟨s1, rfl, rb⟩ := hu
 obtain ⟨bo, cb, rfl⟩ := rb.shape
 obtain ⟨⟨rs, rn, re⟩, hT⟩ : ∃ T, bare (cO a (dB b)) = T := ⟨_, rfl⟩
 rw [hT] at HP ⊢
 obtain ⟨⟨ms, mn, me⟩, hMT⟩ : ∃ T, dB b = T := ⟨_, rfl⟩
 rw [hMT] at HP HM
 have hnl := Dg.dg_nil_iff 65536 rn (by omega)
 obtain ⟨ma, hma⟩ : ∃ m, (Dg.dg 65536 a.n).length = m := ⟨_, rfl⟩
 obtain ⟨mb, hmb⟩ : ∃ m, (Dg.dg 65536 b.n).length = m := ⟨_, rfl⟩
 rw [hma] at HP ⊢
 rw [hmb] at HM ⊢
 obtain ⟨sa, an, ae⟩ := a
 obtain ⟨sb, bn, be⟩ := b
 simp only at HP HM ⊢
 clear hT hma hmb ra rb hLa hLb hMT
 unfold dJ
 simp only
 have bA := aa (af w (.cells #[.bool sa, .slice ao ma ca, .int .i64 ae] 36)) (af _ (.cells #[.bool sb, .slice bo mb cb, .int .i64 be] 36))
 have la := (aA w (.bool sa) (.slice ao ma ca) (.int .i64 ae) 36).l (af _ (.cells #[.bool sb, .slice bo mb cb, .int .i64 be] 36))
 have lb := aA (w.alloc (.cells #[.bool sa, .slice ao ma ca, .int .i64 ae] 36)) (.bool sb) (.slice bo mb cb) (.int .i64 be) 36
 rw [World.size_alloc] at lb
 obtain ⟨W, hW⟩ : ∃ W, ((w.alloc (.cells #[.bool sa, .slice ao ma ca, .int .i64 ae] 36)).alloc (.cells #[.bool sb, .slice bo mb cb, .int .i64 be] 36)) = W := ⟨_, rfl⟩
 rw [hW] at bA la lb
 have bd : Below W.heap.size W W.drew := (Below.refl _ _).drew
 have b02 := aa bA bd
 have la2 := la.l bd
 have lb2 := lb.l bd
 have lzW := aA W.drew (.bool false) (.slice none 0 0) (.int .i64 0) 36
 have sW : W.drew.heap.size = w.heap.size + 1 + 1 := by rw [← hW]; simp [World.size_alloc]
 rw [sW] at lzW
 rw [← hW] at b02 la2 lb2 lzW
 obtain ⟨-, ⟨c0, c1, c2⟩, -⟩ := id la2
 obtain ⟨-, ⟨c3, c4, c5⟩, -⟩ := id lb2
 clear bA la lb bd hW sW
 have ne3 : w.heap.size + 1 + 1 ≠ w.heap.size := by omega
 have ne4 : w.heap.size + 1 + 1 ≠ w.heap.size + 1 := by omega
 go_enter Tryd.func21, Tryd.ntmps21
 go_wp2_with fail
 go_region_held3 (fun wq => (wq.cell? ⟨w.heap.size, 0, none⟩ = some (.bool sa) ∧ wq.cell? ⟨w.heap.size, 1, none⟩ = some (.slice ao ma ca) ∧ wq.cell? ⟨w.heap.size, 2, none⟩ = some (.int .i64 ae)) ∧ wq.cell? ⟨w.heap.size + 1, 0, none⟩ = some (.bool sb) ∧ wq.cell? ⟨w.heap.size + 1, 1, none⟩ = some (.slice bo mb cb) ∧ wq.cell? ⟨w.heap.size + 1, 2, none⟩ = some (.int .i64 be)) (go_keep) (first
   | (go_at_call 28; refine (HM.out _ b02).mono ?_; rintro z w3 ⟨v1, rfl, q1, b3⟩; have la3 := la2.l b3; have lb3 := lb2.l b3; have b03 := aa b02 b3; obtain ⟨-, ⟨p0, p1, p2⟩, -⟩ := id la3; obtain ⟨-, ⟨p3, p4, p5⟩, -⟩ := id lb3; have x0 := World.new_ne w3 _ p0; have x1 := World.new_ne w3 _ p3)
   | (go_at_call 28; refine (HM.out _ (aa b02 (af _ (.cells #[.bool false, .slice none 0 0, .int .i64 0] 36)))).mono ?_; rintro z w3 ⟨v1, rfl, q1, b3⟩; have la3 := (la2.l (af _ (.cells #[.bool false, .slice none 0 0, .int .i64 0] 36))).l b3; have lb3 := (lb2.l (af _ (.cells #[.bool false, .slice none 0 0, .int .i64 0] 36))).l b3; have b03 := aa (aa b02 (af _ (.cells #[.bool false, .slice none 0 0, .int .i64 0] 36))) b3; have lz3 := lzW.l b3; obtain ⟨-, ⟨p0, p1, p2⟩, -⟩ := id la3; obtain ⟨-, ⟨p3, p4, p5⟩, -⟩ := id lb3; have x0 := World.new_ne w3 _ p0; have x1 := World.new_ne w3 _ p3)
   | (go_at_call 27; refine (HP.out _ w3 b03 ⟨_, rfl, q1⟩).mono ?_; rintro z w4 ⟨v2, rfl, q2, b4⟩; obtain ⟨tq, tc, hvt⟩ := q2.shape; subst hvt; have la4 := la3.l b4; have lb4 := lb3.l b4; have b04 := aa b03 b4; (try (have lz4 := lz3.l b4; obtain ⟨-, ⟨d0, d1, d2⟩, f0, f1, f2⟩ := id lz4)); obtain ⟨-, ⟨u0, u1, u2⟩, -⟩ := id la4; obtain ⟨-, ⟨u3, u4, u5⟩, -⟩ := id lb4; have y0 := World.new_ne w4 _ u0; have y1 := World.new_ne w4 _ u3)
   | (go_at_call 27; refine (HP.out _ _ (aa b03 (af _ (.cells #[.bool false, .slice none 0 0, .int .i64 0] 36))) ⟨_, rfl, q1.l (af _ (.cells #[.bool false, .slice none 0 0, .int .i64 0] 36))⟩).mono ?_; rintro z w4 ⟨v2, rfl, q2, b4⟩; obtain ⟨tq, tc, hvt⟩ := q2.shape; subst hvt; have la4 := (la3.l (af _ (.cells #[.bool false, .slice none 0 0, .int .i64 0] 36))).l b4; have lb4 := (lb3.l (af _ (.cells #[.bool false, .slice none 0 0, .int .i64 0] 36))).l b4; have b04 := aa (aa b03 (af _ (.cells #[.bool false, .slice none 0 0, .int .i64 0] 36))) b4; have lz4 := (aA w3 (.bool false) (.slice none 0 0) (.int .i64 0) 36).l b4; obtain ⟨-, ⟨d0, d1, d2⟩, f0, f1, f2⟩ := id lz4; obtain ⟨-, ⟨u0, u1, u2⟩, -⟩ := id la4; obtain ⟨-, ⟨u3, u4, u5⟩, -⟩ := id lb4))
 ·have hlen : (Dg.dg 65536 rn).length = 0 ↔ rn = 0 := by rw [List.length_eq_zero_iff]; exact hnl
  have hs3 := b03.size
  have bZ := aa b04 (af w4 (.cells #[.bool rs, .slice tq (Dg.dg 65536 rn).length tc, .int .i64 re] 36))
  clear la2 lb2 lzW c0 c1 c2 c3 c4 c5 HP HM la3 lb3 p0 p1 p2 p3 p4 p5 q1 q2 la4 lb4 hnl b02 b03 b04 b3 b4 x0 x1 ne3 ne4
  by_cases h : rn = 0
  ·have h6 := hlen.2 h
   have H : Hid (rn = 0) := h
   rw [h6] at bZ
   clear hlen h
   go_wp2
   go_ret
   exact ⟨by first | rfl | rw [if_pos H.out], bZ⟩
  ·have h7 : ¬(Dg.dg 65536 rn).length = 0 := fun e => h (hlen.1 e)
   have H : Hid (¬rn = 0) := h
   have h6 : (((Dg.dg 65536 rn).length : Int) == 0) = false := by
    revert h7
    generalize (Dg.dg 65536 rn).length = mr
    intro h7
    simp; exact h7
   clear hlen h h7
   cases rs
   ·go_wp2
    go_ret
    exact ⟨by first | rfl | (rw [if_neg H.out]; rfl), bZ⟩
   ·go_wp2
    go_ret
    exact ⟨by first | rfl | (rw [if_neg H.out]; rfl), bZ⟩
 ·obtain ⟨-, ⟨g0, g1, g2⟩, -⟩ := aD lz4 (.bool rs) (.slice tq (Dg.dg 65536 rn).length tc) (.int .i64 re)
  have hlen : (Dg.dg 65536 rn).length = 0 ↔ rn = 0 := by rw [List.length_eq_zero_iff]; exact hnl
  have hs3 := b03.size
  have bZ := am b04 hs3 (.bool rs) (.slice tq (Dg.dg 65536 rn).length tc) (.int .i64 re)
  clear la2 lb2 lzW c0 c1 c2 c3 c4 c5 HP HM la3 lb3 p0 p1 p2 p3 p4 p5 q1 q2 la4 lb4 hnl b02 b03 b04 b3 b4 x0 x1 ne3 ne4
  by_cases h : rn = 0
  ·have h6 := hlen.2 h
   have H : Hid (rn = 0) := h
   rw [h6] at bZ
   clear hlen h
   go_wp2
   go_ret
   exact ⟨by first | rfl | rw [if_pos H.out], bZ⟩
  ·have h7 : ¬(Dg.dg 65536 rn).length = 0 := fun e => h (hlen.1 e)
   have H : Hid (¬rn = 0) := h
   have h6 : (((Dg.dg 65536 rn).length : Int) == 0) = false := by
    revert h7
    generalize (Dg.dg 65536 rn).length = mr
    intro h7
    simp; exact h7
   clear hlen h h7
   cases rs
   ·go_wp2
    go_ret
    exact ⟨by first | rfl | (rw [if_neg H.out]; rfl), bZ⟩
   ·go_wp2
    go_ret
    exact ⟨by first | rfl | (rw [if_neg H.out]; rfl), bZ⟩
 ·obtain ⟨-, ⟨g0, g1, g2⟩, -⟩ := aD lz4 (.bool rs) (.slice tq (Dg.dg 65536 rn).length tc) (.int .i64 re)
  have hlen : (Dg.dg 65536 rn).length = 0 ↔ rn = 0 := by rw [List.length_eq_zero_iff]; exact hnl
  have hs3 := b03.size
  have bZ := am b04 (show w.heap.size ≤ w.heap.size + 1 + 1 by omega) (.bool rs) (.slice tq (Dg.dg 65536 rn).length tc) (.int .i64 re)
  clear la2 lb2 lzW c0 c1 c2 c3 c4 c5 HP HM la3 lb3 p0 p1 p2 p3 p4 p5 q1 q2 la4 lb4 hnl b02 b03 b04 b3 b4 x0 x1 ne3 ne4
  by_cases h : rn = 0
  ·have h6 := hlen.2 h
   have H : Hid (rn = 0) := h
   rw [h6] at bZ
   clear hlen h
   go_wp2
   go_ret
   exact ⟨by first | rfl | rw [if_pos H.out], bZ⟩
  ·have h7 : ¬(Dg.dg 65536 rn).length = 0 := fun e => h (hlen.1 e)
   have H : Hid (¬rn = 0) := h
   have h6 : (((Dg.dg 65536 rn).length : Int) == 0) = false := by
    revert h7
    generalize (Dg.dg 65536 rn).length = mr
    intro h7
    simp; exact h7
   clear hlen h h7
   cases rs
   ·go_wp2
    go_ret
    exact ⟨by first | rfl | (rw [if_neg H.out]; rfl), bZ⟩
   ·go_wp2
    go_ret
    exact ⟨by first | rfl | (rw [if_neg H.out]; rfl), bZ⟩
end Go.Proofs.YtiakgfmlpdfhdaaDoor

/-
  Texts laid together: Dp2, Dl9, Pa2, Ar8, Oa0, Cv4, Eh5, Ps2, Oa3.
-/
import Derived.Test.YtddkchlamdhgcaaGreatDoorSu20
import Derived.Test.YtddkchlamdhgcaaGreatDoorSu21
import Derived.Test.YtddkchlamdhgcaaGreatDoorSu41
import Derived.Test.YtddkchlamdhgcaaGreatDoorSu42
set_option maxRecDepth 100000
set_option maxHeartbeats 1600000
namespace Go.Proofs.YtddkchlamdhgcaaGreatDoor
open _root_.Go.Proofs.Tryz
open Go.RowKit
theorem vM (v u:Value)(a b:ak)(w:World)(hv:Rv w v a)(hu:Rv w u b)(hLa:(Dg.dg 65536 a.n).length≤30000)(hLb:(Dg.dg 65536 b.n).length≤30000)
  (ha1: -200000≤a.e) (ha2:a.e≤200000) (hb1: -200000≤b.e) (hb2:b.e≤200000):
  yC 11 #[v,u] w (di w (bare (cO a b))):=by
 obtain⟨s0,rfl,ra⟩:=hv;obtain⟨ao,ca,rfl⟩:=ra.shape;obtain⟨s1,rfl,rb⟩:=hu;obtain⟨bo,cb,rfl⟩:=rb.shape;obtain⟨sa,an,ae⟩:=a;obtain⟨sb,bn,be⟩:=b;simp only at ra rb hLa hLb ha1 ha2 hb1 hb2⊢;obtain⟨E,hE⟩: ∃E:Int,(if bn=0 then ae else if an=0 then be else min ae be)=E:=⟨_,rfl⟩
 have hl: -200000≤E∧E≤200000:=by
  rw[←hE];split
  ·omega
  ·split<;>omega
 obtain⟨X,hX⟩: ∃X,an*2^ (max 0 (ae-E)).toNat=X:=⟨_,rfl⟩;obtain⟨Y,hY⟩: ∃Y,bn*2^ (max 0 (be-E)).toNat=Y:=⟨_,rfl⟩;have hd:cO ⟨sa,an,ae⟩ ⟨sb,bn,be⟩=if sa=sb then⟨sa,X+Y,E⟩ else if Y≤X then⟨sa,X-Y,E⟩ else⟨sb,Y-X,E⟩:=by
  simp only[cO,hE,hX,hY]
 have hc:((((Dg.dg 65536 an).length:Int)==0)=false∧(((Dg.dg 65536 bn).length:Int)==0)=false∧min ae be=E)∨((((Dg.dg 65536 an).length:Int)==0)=true∧(((Dg.dg 65536 bn).length:Int)==0)=false∧be=E)∨((((Dg.dg 65536 an).length:Int)==0)=false∧(((Dg.dg 65536 bn).length:Int)==0)=true∧ae=E)∨((((Dg.dg 65536 an).length:Int)==0)=true∧(((Dg.dg 65536 bn).length:Int)==0)=true∧ae=E):=by
  rw[len_zero,len_zero,←hE]
  by_cases h1:an=0<;>by_cases h2:bn=0<;>simp[h1,h2]
 have lx:(Dg.dg 65536 X).length≤55001:=by rw[←hX];exact Nat.le_trans (jZ an _ 30000 25001 hLa (by omega)) (by omega)
 have ly:(Dg.dg 65536 Y).length≤55001:=by rw[←hY];exact Nat.le_trans (jZ bn _ 30000 25001 hLb (by omega)) (by omega)
 have wr: ∀e:Int,-200000≤e→e≤200000→IntKind.i64.wrap (e-E)=e-E:=fun e h1 h2=>IntWalk.i64_in _ ⟨by omega,by omega⟩
 have HU: ∀w1,yB w w1→yC 41 #[yS ao an ca,yi (max 0 (ae-E))] w1 (cG w1 X):=fun w1 b1=>by
  have:=kD _ _ (max 0 (ae-E)).toNat w1 (ra.l b1) (Dg.small_dg _ _ (by omega)) (by omega) (by omega)
  rwa [Dg.vl_dg _ _ (by omega),Int.toNat_of_nonneg (by omega),hX] at this
 have HV: ∀w1,yB w w1→yC 41 #[yS bo bn cb,yi (max 0 (be-E))] w1 (cG w1 Y):=fun w1 b1=>by
  have:=kD _ _ (max 0 (be-E)).toNat w1 (rb.l b1) (Dg.small_dg _ _ (by omega)) (by omega) (by omega)
  rwa [Dg.vl_dg _ _ (by omega),Int.toNat_of_nonneg (by omega),hY] at this
 have HB: ∀s Z zo zc w1,(Dg.dg 65536 Z).length≤100000→yB w w1→Rd w1 .i64 (yS zo Z zc) (Dg.dg 65536 Z)→yC 24 #[ydV s (yS zo Z zc) E] w1 (Xi w.heap.size w1 (bare ⟨s,Z,E⟩)):=
  fun s Z zo zc w1 h b1 r=>(lA _ ⟨s,Z,E⟩ w1 ⟨_,rfl,r⟩ h (by simp only;omega) (by simp only;omega)).mono fun _ _ h=>h.hid b1.size
 have ml: ∀P Q:Nat,(Dg.dg 65536 P).length≤55001→(Dg.dg 65536 (P-Q)).length≤100000:=fun P Q h=>Nat.le_trans (aH 65536 _ P (by omega) (Nat.sub_le _ _)) (by omega)
 have HC: ∀xo xc yo yc w1,yB w w1→Rd w1 .i64 (yS xo X xc) (Dg.dg 65536 X)→Rd w1 .i64 (yS yo Y yc) (Dg.dg 65536 Y)→yC 38 #[yS xo X xc,yS yo Y yc] w1 (yR w1 (yi (dm X Y))):=fun xo xc yo yc w1 _ h1 h2=>by
  have:=fm _ _ _ _ w1 h1 h2 (Dg.small_dg _ _ (by omega)) (Dg.small_dg _ _ (by omega)) (Dg.norm_dg _ _ (by omega)) (Dg.norm_dg _ _ (by omega))
  rwa [Dg.vl_dg _ _ (by omega),Dg.vl_dg _ _ (by omega)] at this
 rw[hd]
 by_cases hs:sa=sb
 ·subst hs
  rw[if_pos rfl];refine refDP_same ae be E _ _ _ _ sa ao bo _ _ ca cb X Y (X+Y) _ w hc (wr _ ha1 ha2) (wr _ hb1 hb2) rfl rfl HU HV (fun xo xc yo yc w1 _ h1 h2=> ?_) (fun zo zc w1 b1 r=>HB _ _ _ _ _ ?_ b1 r)
  ·have:=ew _ _ _ _ w1 h1 h2 (Dg.small_dg _ _ (by omega)) (Dg.small_dg _ _ (by omega)) (Dg.norm_dg _ _ (by omega)) (Dg.norm_dg _ _ (by omega)) (by omega) (by omega)
   rwa [Dg.vl_dg _ _ (by omega),Dg.vl_dg _ _ (by omega)] at this
  ·exact Nat.le_trans (og X Y 55001 lx ly) (by omega)
 ·have hs':(sa==sb)=false:=by simpa using hs
  rw[if_neg hs]
  by_cases hq:Y≤X
  ·rw[if_pos hq]
   refine refDP_geq ae be E _ _ _ _ sa sb ao bo _ _ ca cb X Y (X-Y) _ w (dm X Y) hs' ?_ hc (wr _ ha1 ha2) (wr _ hb1 hb2) rfl rfl HU HV HC (fun xo xc yo yc w1 _ h1 h2=> ?_) (fun zo zc w1 b1 r=>HB _ _ _ _ _ (ml _ _ lx) b1 r)
   ·unfold dm;split
    ·omega
    ·split<;>omega
   ·have:=kI _ _ _ _ w1 h1 h2 (Dg.small_dg _ _ (by omega)) (Dg.small_dg _ _ (by omega)) (by omega) (aH _ _ _ (by omega) hq) (by rw[Dg.vl_dg _ _ (by omega),Dg.vl_dg _ _ (by omega)];exact hq)
    rwa [Dg.vl_dg _ _ (by omega),Dg.vl_dg _ _ (by omega)] at this
  ·rw[if_neg hq]
   refine refDP_less ae be E _ _ _ _ sa sb ao bo _ _ ca cb X Y (Y-X) _ w (dm X Y) hs' ?_ hc (wr _ ha1 ha2) (wr _ hb1 hb2) rfl rfl HU HV HC (fun xo xc yo yc w1 _ h1 h2=> ?_) (fun zo zc w1 b1 r=>HB _ _ _ _ _ (ml _ _ ly) b1 r)
   ·unfold dm;split
    ·omega
    ·split<;>omega
   ·have:=kI _ _ _ _ w1 h2 h1 (Dg.small_dg _ _ (by omega)) (Dg.small_dg _ _ (by omega)) (by omega) (aH _ _ _ (by omega) (by omega)) (by rw[Dg.vl_dg _ _ (by omega),Dg.vl_dg _ _ (by omega)];omega)
    rwa [Dg.vl_dg _ _ (by omega),Dg.vl_dg _ _ (by omega)] at this
theorem lw (v u:Value)(a b:ak)(w:World)(hv:Rv w v a)(hu:Rv w u b)(hLa:(Dg.dg 65536 a.n).length≤30000)(hLb:(Dg.dg 65536 b.n).length≤30000)
  (ha1: -200000≤a.e) (ha2:a.e≤200000) (hb1: -200000≤b.e) (hb2:b.e≤200000):
  yC 11 #[v,u] w (dr w (bare (cO a b))):=
 (vM v u a b w hv hu hLa hLb ha1 ha2 hb1 hb2).mono fun _ _ h=>h.near
theorem gQ (v u : Value) (a b : ak) (w : World) (hv : Rv w v a) (hu : Rv w u b) (hLa : (Dg.dg 65536 a.n).length ≤ 30000) (hLb : (Dg.dg 65536 b.n).length ≤ 30000)
  (ha1 : -200000 ≤ a.e) (ha2 : a.e ≤ 200000) (hb1 : -200000 ≤ b.e) (hb2 : b.e ≤ 200000) :
  Calls Tryz.prog 14 #[v, u] w fun z w' => z = .returned (.int .i64 (dJ (bare (cO a (dB b))))) ∧ Below w.heap.size w w' := by
 have HM : Hid (∀ w1, Below w.heap.size w w1 → Calls Tryz.prog 12 #[u] w1 (dr w1 (dB b))) := fun w1 b1 => uI u b w1 (hu.l b1)
 have HP : Hid (∀ x w1, Below w.heap.size w w1 → Rv w1 x (dB b) → Calls Tryz.prog 11 #[v, x] w1 (dr w1 (bare (cO a (dB b))))) := fun x w1 b1 hx => lw v x a (dB b) w1 (hv.l b1) hx hLa hLb ha1 ha2 hb1 hb2
 obtain ⟨s0, rfl, ra⟩ := hv
 obtain ⟨ao, ca, rfl⟩ := ra.shape
 obtain ⟨s1, rfl, rb⟩ := hu
 obtain ⟨bo, cb, rfl⟩ := rb.shape
 obtain ⟨⟨rs, rn, re⟩, hT⟩ : ∃ T, bare (cO a (dB b)) = T := ⟨_, rfl⟩
 rw [hT] at HP ⊢
 obtain ⟨⟨ms, mn, me⟩, hMT⟩ : ∃ T, dB b = T := ⟨_, rfl⟩
 rw [hMT] at HP HM
 have hnl := Dg.dg_nil_iff 65536 rn (by omega)
 obtain ⟨ma, hma⟩ : ∃ m, (Dg.dg 65536 a.n).length = m := ⟨_, rfl⟩
 obtain ⟨mb, hmb⟩ : ∃ m, (Dg.dg 65536 b.n).length = m := ⟨_, rfl⟩
 rw [hma] at HP ⊢
 rw [hmb] at HM ⊢
 obtain ⟨sa, an, ae⟩ := a
 obtain ⟨sb, bn, be⟩ := b
 simp only at HP HM ⊢
 clear hT hma hmb ra rb hLa hLb hMT
 unfold dJ
 simp only
 have bA := aa (af w (.cells #[.bool sa, .slice ao ma ca, .int .i64 ae] 30)) (af _ (.cells #[.bool sb, .slice bo mb cb, .int .i64 be] 30))
 have la := (aA w (.bool sa) (.slice ao ma ca) (.int .i64 ae) 30).l (af _ (.cells #[.bool sb, .slice bo mb cb, .int .i64 be] 30))
 have lb := aA (w.alloc (.cells #[.bool sa, .slice ao ma ca, .int .i64 ae] 30)) (.bool sb) (.slice bo mb cb) (.int .i64 be) 30
 rw [World.size_alloc] at lb
 obtain ⟨W, hW⟩ : ∃ W, ((w.alloc (.cells #[.bool sa, .slice ao ma ca, .int .i64 ae] 30)).alloc (.cells #[.bool sb, .slice bo mb cb, .int .i64 be] 30)) = W := ⟨_, rfl⟩
 rw [hW] at bA la lb
 have bd : Below W.heap.size W W.drew := (Below.refl _ _).drew
 have b02 := aa bA bd
 have la2 := la.l bd
 have lb2 := lb.l bd
 have lzW := aA W.drew (.bool false) (.slice none 0 0) (.int .i64 0) 30
 have sW : W.drew.heap.size = w.heap.size + 1 + 1 := by rw [← hW]; simp [World.size_alloc]
 rw [sW] at lzW
 rw [← hW] at b02 la2 lb2 lzW
 obtain ⟨-, ⟨c0, c1, c2⟩, -⟩ := id la2
 obtain ⟨-, ⟨c3, c4, c5⟩, -⟩ := id lb2
 clear bA la lb bd hW sW
 have ne3 : w.heap.size + 1 + 1 ≠ w.heap.size := by omega
 have ne4 : w.heap.size + 1 + 1 ≠ w.heap.size + 1 := by omega
 go_enter func14, ntmps14
 go_wp2_with fail
 go_region_held3 (fun wq => (wq.cell? ⟨w.heap.size, 0, none⟩ = some (.bool sa) ∧ wq.cell? ⟨w.heap.size, 1, none⟩ = some (.slice ao ma ca) ∧ wq.cell? ⟨w.heap.size, 2, none⟩ = some (.int .i64 ae)) ∧ wq.cell? ⟨w.heap.size + 1, 0, none⟩ = some (.bool sb) ∧ wq.cell? ⟨w.heap.size + 1, 1, none⟩ = some (.slice bo mb cb) ∧ wq.cell? ⟨w.heap.size + 1, 2, none⟩ = some (.int .i64 be)) (go_keep) (first
   | (go_at_call 12; refine (HM.out _ b02).mono ?_; rintro z w3 ⟨v1, rfl, q1, b3⟩; have la3 := la2.l b3; have lb3 := lb2.l b3; have b03 := aa b02 b3; obtain ⟨-, ⟨p0, p1, p2⟩, -⟩ := id la3; obtain ⟨-, ⟨p3, p4, p5⟩, -⟩ := id lb3; have x0 := World.new_ne w3 _ p0; have x1 := World.new_ne w3 _ p3)
   | (go_at_call 12; refine (HM.out _ (aa b02 (af _ (.cells #[.bool false, .slice none 0 0, .int .i64 0] 30)))).mono ?_; rintro z w3 ⟨v1, rfl, q1, b3⟩; have la3 := (la2.l (af _ (.cells #[.bool false, .slice none 0 0, .int .i64 0] 30))).l b3; have lb3 := (lb2.l (af _ (.cells #[.bool false, .slice none 0 0, .int .i64 0] 30))).l b3; have b03 := aa (aa b02 (af _ (.cells #[.bool false, .slice none 0 0, .int .i64 0] 30))) b3; have lz3 := lzW.l b3; obtain ⟨-, ⟨p0, p1, p2⟩, -⟩ := id la3; obtain ⟨-, ⟨p3, p4, p5⟩, -⟩ := id lb3; have x0 := World.new_ne w3 _ p0; have x1 := World.new_ne w3 _ p3)
   | (go_at_call 11; refine (HP.out _ w3 b03 ⟨_, rfl, q1⟩).mono ?_; rintro z w4 ⟨v2, rfl, q2, b4⟩; obtain ⟨tq, tc, hvt⟩ := q2.shape; subst hvt; have la4 := la3.l b4; have lb4 := lb3.l b4; have b04 := aa b03 b4; (try (have lz4 := lz3.l b4; obtain ⟨-, ⟨d0, d1, d2⟩, f0, f1, f2⟩ := id lz4)); obtain ⟨-, ⟨u0, u1, u2⟩, -⟩ := id la4; obtain ⟨-, ⟨u3, u4, u5⟩, -⟩ := id lb4; have y0 := World.new_ne w4 _ u0; have y1 := World.new_ne w4 _ u3)
   | (go_at_call 11; refine (HP.out _ _ (aa b03 (af _ (.cells #[.bool false, .slice none 0 0, .int .i64 0] 30))) ⟨_, rfl, q1.l (af _ (.cells #[.bool false, .slice none 0 0, .int .i64 0] 30))⟩).mono ?_; rintro z w4 ⟨v2, rfl, q2, b4⟩; obtain ⟨tq, tc, hvt⟩ := q2.shape; subst hvt; have la4 := (la3.l (af _ (.cells #[.bool false, .slice none 0 0, .int .i64 0] 30))).l b4; have lb4 := (lb3.l (af _ (.cells #[.bool false, .slice none 0 0, .int .i64 0] 30))).l b4; have b04 := aa (aa b03 (af _ (.cells #[.bool false, .slice none 0 0, .int .i64 0] 30))) b4; have lz4 := (aA w3 (.bool false) (.slice none 0 0) (.int .i64 0) 30).l b4; obtain ⟨-, ⟨d0, d1, d2⟩, f0, f1, f2⟩ := id lz4; obtain ⟨-, ⟨u0, u1, u2⟩, -⟩ := id la4; obtain ⟨-, ⟨u3, u4, u5⟩, -⟩ := id lb4))
 ·have hlen : (Dg.dg 65536 rn).length = 0 ↔ rn = 0 := by rw [List.length_eq_zero_iff]; exact hnl
  have hs3 := b03.size
  have bZ := aa b04 (af w4 (.cells #[.bool rs, .slice tq (Dg.dg 65536 rn).length tc, .int .i64 re] 30))
  clear la2 lb2 lzW c0 c1 c2 c3 c4 c5 HP HM la3 lb3 p0 p1 p2 p3 p4 p5 q1 q2 la4 lb4 hnl b02 b03 b04 b3 b4 x0 x1 ne3 ne4
  by_cases h : rn = 0
  ·have h6 := hlen.2 h
   have H : Hid (rn = 0) := h
   rw [h6] at bZ
   clear hlen h
   go_wp2
   go_ret
   exact ⟨by first | rfl | rw [if_pos H.out], bZ⟩
  ·have h7 : ¬(Dg.dg 65536 rn).length = 0 := fun e => h (hlen.1 e)
   have H : Hid (¬rn = 0) := h
   have h6 : (((Dg.dg 65536 rn).length : Int) == 0) = false := by
    revert h7
    generalize (Dg.dg 65536 rn).length = mr
    intro h7
    simp; exact h7
   clear hlen h h7
   cases rs
   ·go_wp2
    go_ret
    exact ⟨by first | rfl | (rw [if_neg H.out]; rfl), bZ⟩
   ·go_wp2
    go_ret
    exact ⟨by first | rfl | (rw [if_neg H.out]; rfl), bZ⟩
 ·obtain ⟨-, ⟨g0, g1, g2⟩, -⟩ := aD lz4 (.bool rs) (.slice tq (Dg.dg 65536 rn).length tc) (.int .i64 re)
  have hlen : (Dg.dg 65536 rn).length = 0 ↔ rn = 0 := by rw [List.length_eq_zero_iff]; exact hnl
  have hs3 := b03.size
  have bZ := am b04 hs3 (.bool rs) (.slice tq (Dg.dg 65536 rn).length tc) (.int .i64 re)
  clear la2 lb2 lzW c0 c1 c2 c3 c4 c5 HP HM la3 lb3 p0 p1 p2 p3 p4 p5 q1 q2 la4 lb4 hnl b02 b03 b04 b3 b4 x0 x1 ne3 ne4
  by_cases h : rn = 0
  ·have h6 := hlen.2 h
   have H : Hid (rn = 0) := h
   rw [h6] at bZ
   clear hlen h
   go_wp2
   go_ret
   exact ⟨by first | rfl | rw [if_pos H.out], bZ⟩
  ·have h7 : ¬(Dg.dg 65536 rn).length = 0 := fun e => h (hlen.1 e)
   have H : Hid (¬rn = 0) := h
   have h6 : (((Dg.dg 65536 rn).length : Int) == 0) = false := by
    revert h7
    generalize (Dg.dg 65536 rn).length = mr
    intro h7
    simp; exact h7
   clear hlen h h7
   cases rs
   ·go_wp2
    go_ret
    exact ⟨by first | rfl | (rw [if_neg H.out]; rfl), bZ⟩
   ·go_wp2
    go_ret
    exact ⟨by first | rfl | (rw [if_neg H.out]; rfl), bZ⟩
 ·obtain ⟨-, ⟨g0, g1, g2⟩, -⟩ := aD lz4 (.bool rs) (.slice tq (Dg.dg 65536 rn).length tc) (.int .i64 re)
  have hlen : (Dg.dg 65536 rn).length = 0 ↔ rn = 0 := by rw [List.length_eq_zero_iff]; exact hnl
  have hs3 := b03.size
  have bZ := am b04 (show w.heap.size ≤ w.heap.size + 1 + 1 by omega) (.bool rs) (.slice tq (Dg.dg 65536 rn).length tc) (.int .i64 re)
  clear la2 lb2 lzW c0 c1 c2 c3 c4 c5 HP HM la3 lb3 p0 p1 p2 p3 p4 p5 q1 q2 la4 lb4 hnl b02 b03 b04 b3 b4 x0 x1 ne3 ne4
  by_cases h : rn = 0
  ·have h6 := hlen.2 h
   have H : Hid (rn = 0) := h
   rw [h6] at bZ
   clear hlen h
   go_wp2
   go_ret
   exact ⟨by first | rfl | rw [if_pos H.out], bZ⟩
  ·have h7 : ¬(Dg.dg 65536 rn).length = 0 := fun e => h (hlen.1 e)
   have H : Hid (¬rn = 0) := h
   have h6 : (((Dg.dg 65536 rn).length : Int) == 0) = false := by
    revert h7
    generalize (Dg.dg 65536 rn).length = mr
    intro h7
    simp; exact h7
   clear hlen h h7
   cases rs
   ·go_wp2
    go_ret
    exact ⟨by first | rfl | (rw [if_neg H.out]; rfl), bZ⟩
   ·go_wp2
    go_ret
    exact ⟨by first | rfl | (rw [if_neg H.out]; rfl), bZ⟩
def m8 (k:Nat)(wy c:Int)(g:Bool)(t:ak)(fl:Int):ByteArray×Int×Int:=
 if c=2 then Dw k (pG k wy (fY k wy t)).1 (pG k wy (fY k wy t)).2.1 (pG k wy (fY k wy t)).2.2.1 (pG k wy (fY k wy t)).2.2.2.1 (bits .or .i64 fl (pG k wy (fY k wy t)).2.2.2.2)
 else if c=1 then Dw k 1 (g&&decide (dK k=1)) 0 0 fl else Dw k c g 0 0 fl
theorem zj n (s:ByteArray)(w:World)(hT:Tab w):yC 61 #[yi n,.string s] w (Ys w ((bM n s:Nat):Int) (dz n s) (gJ n s) (iF n s) (opT n s) (dF n s)):=by
 have HD:=fun w1=>fR n s w1
 by_cases hp:dF n s=0
 ·have hf:dK n≠0:=fun hf=>by
   unfold dF at hp;rw[if_pos hf] at hp;omega
  obtain⟨k1,k2,k3⟩:=fF hf;obtain⟨k,rfl⟩: ∃k:Nat,n=(k:Int):=⟨n.toNat,k3.symm⟩;rw[Int.toNat_natCast] at k1 k2;have hk:1≤k∧k≤8:=⟨k1,k2⟩;have hG:dz (k:Int) s=kt k (aZ k s) (aR k s) (aU k s):=by
   unfold dz;rw[if_pos hp,Int.toNat_natCast]
  have hM:gJ (k:Int) s=ge k (aZ k s) (aR k s) (aU k s):=by
   unfold gJ;rw[if_pos hp,Int.toNat_natCast]
  have hP:iF (k:Int) s=gw k (aZ k s) (aR k s) (aU k s):=by
   unfold iF;rw[if_pos hp,Int.toNat_natCast]
  have hO:opT (k:Int) s=nxT k s:=by
   unfold opT;rw[if_pos hp,Int.toNat_natCast]
  rw[hp] at HD⊢;rw[hO];refine abe (k:Int) _ _ _ _ _ _ _ _ _ (nxT k s) s w (fun w1=>vj k hk w1) HD (fun vo vc w1 b r=> ?_)
  have hn:=XP hk s;have hN:=fun w2 (b2:yB w1 w2)=>kB (rdN k) (dgN k) (lsI k) (gsI k) (decide (k≤3)) (dz (k:Int) s) vo vc _ (iF (k:Int) s) false false false w2 (r.l b2) (Dg.small_dg 4294967296 _ (by omega)) (hT.l (aa b b2))
  rw[hG,hM,hP] at hN⊢;rw[hn] at hN;exact IY _ _ _ _ _ _ 0 _ _ vo _ vc (nxT k s) w1 hN
 ·have hC:bM n s=0:=if_neg hp
  have hG:dz n s=false:=if_neg hp;have hM:gJ n s=0:=if_neg hp;have hP:iF n s=0:=if_neg hp;have hO:opT n s=⟨false,0,0⟩:=if_neg hp;rw[hC,hG,hM,hP,hO]
  by_cases hf:dK n=0
  ·have h6:dF n s=6:=by
    unfold dF;rw[if_pos hf]
   rw[h6];exact afp n 6 (by decide) s w (fun w1=>vU n w1 hf)
  ·obtain⟨k1,k2,k3⟩:=fF hf
   obtain⟨k,rfl⟩: ∃k:Nat,n=(k:Int):=⟨n.toNat,k3.symm⟩;rw[Int.toNat_natCast] at k1 k2;exact afq (k:Int) _ hp _ _ _ _ _ _ _ _ _ s w (fun w1=>vj k ⟨k1,k2⟩ w1) HD
theorem OC {k:Nat}(hk:1≤k∧k≤8)(way:Int)(g:Bool)(t:ak)(fl:Int)(h0:t.n≠0)(hh:dA (rdN k) (dgN k) (lsI k) (gsI k) (decide (k≤3)) t.n t.e=true)
  {xs:List Nat} {p:Int} (sa:Dg.Small 4294967296 xs) (hc:chk xs=0) (he:enE k t.s xs p=0) (hb:bare ⟨t.s,Dg.vl 4294967296 xs,(ai (rdN k):Int)*p⟩=bare t):
  m8 k way 2 g t fl=(fq k 2 t.s xs p,bits .or .i64 fl 0,0):=by
 obtain⟨-,-,d1,-,-,-,lg,-,w64,-,-,hg⟩:=eR hk;have hD:(1:Int)≤(dgN k:Int):=by omega
 obtain⟨o1,o2,o3⟩:=mC (s:=t.s) (way:=way) hD lg h0 hh;obtain⟨q1,q2,q3,q4⟩:=oj (s:=t.s) (way:=way) hD lg h0 hh;obtain⟨ex,hL⟩:=RK (s:=t.s) (way:=way) hD lg h0 hh;have hsp:ia (rdN k) (dgN k) (lsI k) (gsI k) (decide (k≤3)) (fY k way t).d (fY k way t).p:=nW hD lg h0 (by omega) o1 o2;obtain⟨l15,p1,p2,-,-,-⟩:=qj hg hsp;have hd:(fY k way t).d≠0:=fun c=>q4 (q2.symm.trans c)
 have hs:(fY k way t).s=t.s:=q1;have hset:pG k way (fY k way t)=(2,t.s,(fY k way t).d,(fY k way t).p,0):=by
  unfold pG;rw[if_neg (fun c=>by rw[show(fY k way t).ov=false from o1] at c;cases c),if_neg (fun c=>by have:=c.2;rw[show(fY k way t).p=cP (rdN k) (dgN k) (lsI k) (decide (k≤3)) t.n t.e from q3] at this;omega),if_neg hd,if_pos (show(fY k way t).ex=true from ex),hs]
 have hcd:chk (Dg.dg 4294967296 (fY k way t).d)=0:=pJ (Dg.norm_dg _ _ (by omega)) (by omega);have hl0:(Dg.dg 4294967296 (fY k way t).d).length≠0:=fun c=>hd ((Dg.dg_nil_iff 4294967296 _ (by omega)).1 (List.length_eq_zero_iff.1 c))
 have hv:=Dg.vl_dg 4294967296 (fY k way t).d (by omega);have hb2:bare ⟨t.s,Dg.vl 4294967296 (Dg.dg 4294967296 (fY k way t).d),(ai (rdN k):Int)*(fY k way t).p⟩=bare t:=by
  rw[hv];have:=o3;rw[q1] at this;exact this
 have hE:enE k t.s (Dg.dg 4294967296 (fY k way t).d) (fY k way t).p=0:=by
  rw[mY hk hcd hl0 (by omega),hb2,jK _ _ lg,hh,if_pos rfl]
 unfold m8 Dw;rw[if_pos rfl,hset];simp only;rw[(xH hk hcd).1,hE,if_pos rfl,(xH hk hcd).2,(xH hk hc).2];rw[Oe sa (Dg.small_dg _ _ (by omega)) hc hcd he hE (hb2.trans hb.symm)]
def cvT (k:Nat)(way c:Int)(g:Bool)(x:ak):ByteArray×Int×Int:=
 if c=2 then fitT k way x.s (Dg.dg 4294967296 x.n) [1] x.e else Dw k (mvV c g (dK k)).1 (mvV c g (dK k)).2.1 0 0 (mvV c g (dK k)).2.2
theorem fit_num {k:Nat}(hk:1≤k∧k≤8){way:Int}(hw:1≤way∧way≤5){x:ak}(sx:iZ x)(h0:x.n≠0):
  fitT k way x.s (Dg.dg 4294967296 x.n) [1] x.e=Dw k (pG k way (fY k way x)).1 (pG k way (fY k way x)).2.1 (pG k way (fY k way x)).2.2.1 (pG k way (fY k way x)).2.2.2.1 (pG k way (fY k way x)).2.2.2.2:=by
 have hg:=(eR hk).2.2.2.2.2.2.2.2.2.2.2;have hl:(Dg.dg 4294967296 x.n).length≤1200:=jq sx.1 (by omega);have hne: ¬(Dg.dg 4294967296 x.n).length=0:=fun c=>h0 ((Dg.dg_nil_iff 4294967296 _ (by omega)).1 (List.length_eq_zero_iff.1 c))
 have hq:eA (Dg.dg 4294967296 x.n) [1] x.e=0:=by
  unfold eA;rw[if_pos (pJ (Dg.norm_dg _ _ (by omega)) hl),if_pos (show chk [1]=0 from rfl),if_neg]
  rintro(c|c)
  ·cases c
  ·unfold eJ at c
   simp at c;have:=sx.2;omega
 have hC:eE (Dg.dg 4294967296 x.n) [1] x.e (rdN k) (dgN k) (lsI k) (gsI k) way=0:=by rw[Bq hq hg,if_pos (way_is.2 hw)]
 have hP:df (Dg.dg 4294967296 x.n) [1] x.e (rdN k) (dgN k) (lsI k) (gsI k) (decide (k≤3)) x.s way=fY k way x:=by
  unfold df;rw[if_pos hC,if_neg hne,Dg.vl_dg _ _ (by omega)];rfl
 unfold fitT;rw[if_pos hC,hP]
theorem exact_err (k j:Int)(h:dK k=0∨dK j=0)(w:World):yC 17 #[yi k,yi j] w (yR w (.tuple #[.bool false,yi 6])):=by
 by_cases hk:dK k=0
 ·exact exact_1 k j 6 w (by decide) (fun w1=>vU k w1 hk)
 ·obtain⟨k1,k2,k3⟩:=fF hk
  obtain⟨k,rfl⟩: ∃n:Nat,k=(n:Int):=⟨k.toNat,k3.symm⟩;rw[Int.toNat_natCast] at k1 k2;exact exact_2 (k:Int) j 6 _ _ _ _ _ w (by decide) (fun w1=>vj k ⟨k1,k2⟩ w1) (fun w1=>vU j w1 (h.resolve_left hk))
theorem vF n (s:ByteArray)(w:World)(h:dF n s=0):yC 27 #[yi n,.string s] w (yR w (yi ((bM n s:Nat):Int))):=
 VI n _ _ s w (fun w1=>by have:=Jb n s w1;rw[h] at this;exact this)
theorem G5 {k:Nat}(hk:1≤k∧k≤8){p:ByteArray}(h:dF k p=0)(c:bM k p=2):
  (opT k p).n≠0∧(opT k p).s=dz k p∧bare ⟨dz k p,gJ k p,(ai (rdN k):Int)*iF k p⟩=opT k p:=by
 have h0:=(ir hk h).2.2 c;have hc:dh k (aZ k p) (aR k p) (aU k p)=2:=by
  unfold bM at c
  rwa [if_pos h,Int.toNat_natCast] at c
 have e:=(wI (EX hk p (.inr hc))).1;rw[Dg.vl_dg _ _ (by omega)] at e;have e2:opT k p=nxT k p:=by unfold opT;rw[if_pos h,Int.toNat_natCast]
 have hb:bare ⟨dz k p,gJ k p,(ai (rdN k):Int)*iF k p⟩=opT k p:=by
  unfold dz gJ iF;rw[if_pos h,if_pos h,if_pos h,Int.toNat_natCast,e2];exact e.symm
 refine⟨h0, ?_,hb⟩;rw[←hb] at h0⊢;exact qr (fun c=>h0 ((fI _).2 c))
end Go.Proofs.YtddkchlamdhgcaaGreatDoor

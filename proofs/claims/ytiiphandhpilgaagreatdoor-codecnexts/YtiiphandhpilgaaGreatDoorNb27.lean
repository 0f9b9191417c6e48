/-
  Texts laid together: Dl9.
-/
import Derived.Test.YtiiphandhpilgaaGreatDoorNb26
set_option maxRecDepth 100000
namespace Go.Proofs.YtiiphandhpilgaaGreatDoor
open Go.RowKit
set_option maxHeartbeats 1600000 in
theorem refdcmp_any (v u : Value) (a b : Trip) (w : World) (hv : Rv w v a) (hu : Rv w u b) (hLa : (Dg.dg 65536 a.n).length ≤ 30000) (hLb : (Dg.dg 65536 b.n).length ≤ 30000)
  (ha1 : -200000 ≤ a.e) (ha2 : a.e ≤ 200000) (hb1 : -200000 ≤ b.e) (hb2 : b.e ≤ 200000) :
  Calls Tryz.prog 48 #[v, u] w fun z w' => z = .returned (.int .i64 (signT (bare (dplusT a (minusT b))))) ∧ Below w.heap.size w w' := by
 have HM : Hid (∀ w1, Below w.heap.size w w1 → Calls Tryz.prog 15 #[u] w1 (RDRes w1 (minusT b))) := fun w1 b1 => refminus_any u b w1 (hu.later b1)
 have HP : Hid (∀ x w1, Below w.heap.size w w1 → Rv w1 x (minusT b) → Calls Tryz.prog 47 #[v, x] w1 (RDRes w1 (bare (dplusT a (minusT b))))) := fun x w1 b1 hx => refdplus_any v x a (minusT b) w1 (hv.later b1) hx hLa hLb ha1 ha2 hb1 hb2
 obtain ⟨s0, rfl, ra⟩ := hv
 obtain ⟨ao, ca, rfl⟩ := ra.shape
 obtain ⟨s1, rfl, rb⟩ := hu
 obtain ⟨bo, cb, rfl⟩ := rb.shape
 obtain ⟨⟨rs, rn, re⟩, hT⟩ : ∃ T, bare (dplusT a (minusT b)) = T := ⟨_, rfl⟩
 rw [hT] at HP ⊢
 obtain ⟨⟨ms, mn, me⟩, hMT⟩ : ∃ T, minusT b = T := ⟨_, rfl⟩
 rw [hMT] at HP HM
 have hnl := Dg.dg_nil_iff 65536 rn (by omega)
 obtain ⟨ma, hma⟩ : ∃ m, (Dg.dg 65536 a.n).length = m := ⟨_, rfl⟩
 obtain ⟨mb, hmb⟩ : ∃ m, (Dg.dg 65536 b.n).length = m := ⟨_, rfl⟩
 rw [hma] at HP ⊢
 rw [hmb] at HM ⊢
 obtain ⟨sa, an, ae⟩ := a
 obtain ⟨sb, bn, be⟩ := b
 simp only at HP HM ⊢
 clear hT hma hmb ra rb hLa hLb hMT
 unfold signT
 simp only
 have bA := below_trans (below_alloc w (.cells #[.bool sa, .slice ao ma ca, .int .i64 ae] 31)) (below_alloc _ (.cells #[.bool sb, .slice bo mb cb, .int .i64 be] 31))
 have la := (loc_new w (.bool sa) (.slice ao ma ca) (.int .i64 ae) 31).later (below_alloc _ (.cells #[.bool sb, .slice bo mb cb, .int .i64 be] 31))
 have lb := loc_new (w.alloc (.cells #[.bool sa, .slice ao ma ca, .int .i64 ae] 31)) (.bool sb) (.slice bo mb cb) (.int .i64 be) 31
 rw [World.size_alloc] at lb
 obtain ⟨W, hW⟩ : ∃ W, ((w.alloc (.cells #[.bool sa, .slice ao ma ca, .int .i64 ae] 31)).alloc (.cells #[.bool sb, .slice bo mb cb, .int .i64 be] 31)) = W := ⟨_, rfl⟩
 rw [hW] at bA la lb
 have bd : Below W.heap.size W W.drew := (Below.refl _ _).drew
 have b02 := below_trans bA bd
 have la2 := la.later bd
 have lb2 := lb.later bd
 have lzW := loc_new W.drew (.bool false) (.slice none 0 0) (.int .i64 0) 31
 have sW : W.drew.heap.size = w.heap.size + 1 + 1 := by rw [← hW]; simp [World.size_alloc]
 rw [sW] at lzW
 rw [← hW] at b02 la2 lb2 lzW
 obtain ⟨-, ⟨c0, c1, c2⟩, -⟩ := id la2
 obtain ⟨-, ⟨c3, c4, c5⟩, -⟩ := id lb2
 clear bA la lb bd hW sW
 have ne3 : w.heap.size + 1 + 1 ≠ w.heap.size := by omega
 have ne4 : w.heap.size + 1 + 1 ≠ w.heap.size + 1 := by omega
 go_enter Tryz.func48, Tryz.ntmps48
 go_wp2_with fail
 go_region_held3 (fun wq => (wq.cell? ⟨w.heap.size, 0, none⟩ = some (.bool sa) ∧ wq.cell? ⟨w.heap.size, 1, none⟩ = some (.slice ao ma ca) ∧ wq.cell? ⟨w.heap.size, 2, none⟩ = some (.int .i64 ae)) ∧ wq.cell? ⟨w.heap.size + 1, 0, none⟩ = some (.bool sb) ∧ wq.cell? ⟨w.heap.size + 1, 1, none⟩ = some (.slice bo mb cb) ∧ wq.cell? ⟨w.heap.size + 1, 2, none⟩ = some (.int .i64 be)) (go_keep) (first
   | (go_at_call 15; refine (HM.out _ b02).mono ?_; rintro z w3 ⟨v1, rfl, q1, b3⟩; have la3 := la2.later b3; have lb3 := lb2.later b3; have b03 := below_trans b02 b3; obtain ⟨-, ⟨p0, p1, p2⟩, -⟩ := id la3; obtain ⟨-, ⟨p3, p4, p5⟩, -⟩ := id lb3; have x0 := World.new_ne w3 _ p0; have x1 := World.new_ne w3 _ p3)
   | (go_at_call 15; refine (HM.out _ (below_trans b02 (below_alloc _ (.cells #[.bool false, .slice none 0 0, .int .i64 0] 31)))).mono ?_; rintro z w3 ⟨v1, rfl, q1, b3⟩; have la3 := (la2.later (below_alloc _ (.cells #[.bool false, .slice none 0 0, .int .i64 0] 31))).later b3; have lb3 := (lb2.later (below_alloc _ (.cells #[.bool false, .slice none 0 0, .int .i64 0] 31))).later b3; have b03 := below_trans (below_trans b02 (below_alloc _ (.cells #[.bool false, .slice none 0 0, .int .i64 0] 31))) b3; have lz3 := lzW.later b3; obtain ⟨-, ⟨p0, p1, p2⟩, -⟩ := id la3; obtain ⟨-, ⟨p3, p4, p5⟩, -⟩ := id lb3; have x0 := World.new_ne w3 _ p0; have x1 := World.new_ne w3 _ p3)
   | (go_at_call 47; refine (HP.out _ w3 b03 ⟨_, rfl, q1⟩).mono ?_; rintro z w4 ⟨v2, rfl, q2, b4⟩; obtain ⟨tq, tc, hvt⟩ := q2.shape; subst hvt; have la4 := la3.later b4; have lb4 := lb3.later b4; have b04 := below_trans b03 b4; (try (have lz4 := lz3.later b4; obtain ⟨-, ⟨d0, d1, d2⟩, f0, f1, f2⟩ := id lz4)); obtain ⟨-, ⟨u0, u1, u2⟩, -⟩ := id la4; obtain ⟨-, ⟨u3, u4, u5⟩, -⟩ := id lb4; have y0 := World.new_ne w4 _ u0; have y1 := World.new_ne w4 _ u3)
   | (go_at_call 47; refine (HP.out _ _ (below_trans b03 (below_alloc _ (.cells #[.bool false, .slice none 0 0, .int .i64 0] 31))) ⟨_, rfl, q1.later (below_alloc _ (.cells #[.bool false, .slice none 0 0, .int .i64 0] 31))⟩).mono ?_; rintro z w4 ⟨v2, rfl, q2, b4⟩; obtain ⟨tq, tc, hvt⟩ := q2.shape; subst hvt; have la4 := (la3.later (below_alloc _ (.cells #[.bool false, .slice none 0 0, .int .i64 0] 31))).later b4; have lb4 := (lb3.later (below_alloc _ (.cells #[.bool false, .slice none 0 0, .int .i64 0] 31))).later b4; have b04 := below_trans (below_trans b03 (below_alloc _ (.cells #[.bool false, .slice none 0 0, .int .i64 0] 31))) b4; have lz4 := (loc_new w3 (.bool false) (.slice none 0 0) (.int .i64 0) 31).later b4; obtain ⟨-, ⟨d0, d1, d2⟩, f0, f1, f2⟩ := id lz4; obtain ⟨-, ⟨u0, u1, u2⟩, -⟩ := id la4; obtain ⟨-, ⟨u3, u4, u5⟩, -⟩ := id lb4))
 ·have hlen : (Dg.dg 65536 rn).length = 0 ↔ rn = 0 := by rw [List.length_eq_zero_iff]; exact hnl
  have hs3 := b03.size
  have bZ := below_trans b04 (below_alloc w4 (.cells #[.bool rs, .slice tq (Dg.dg 65536 rn).length tc, .int .i64 re] 31))
  clear la2 lb2 lzW c0 c1 c2 c3 c4 c5 HP HM la3 lb3 p0 p1 p2 p3 p4 p5 q1 q2 la4 lb4 hnl b02 b03 b04 b3 b4 x0 x1 ne3 ne4
  by_cases h : rn = 0
  ·have h6 := hlen.2 h
   have H : Hid (rn = 0) := h
   rw [h6] at bZ
   clear hlen h
   go_wp2
   go_ret
   exact ⟨by first | rfl | rw [if_pos H.out], bZ⟩
  ·have h7 : ¬(Dg.dg 65536 rn).length = 0 := fun e => h (hlen.1 e)
   have H : Hid (¬rn = 0) := h
   have h6 : (((Dg.dg 65536 rn).length : Int) == 0) = false := by
    revert h7
    generalize (Dg.dg 65536 rn).length = mr
    intro h7
    simp; exact h7
   clear hlen h h7
   cases rs
   ·go_wp2
    go_ret
    exact ⟨by first | rfl | (rw [if_neg H.out]; rfl), bZ⟩
   ·go_wp2
    go_ret
    exact ⟨by first | rfl | (rw [if_neg H.out]; rfl), bZ⟩
 ·obtain ⟨-, ⟨g0, g1, g2⟩, -⟩ := loc_set lz4 (.bool rs) (.slice tq (Dg.dg 65536 rn).length tc) (.int .i64 re)
  have hlen : (Dg.dg 65536 rn).length = 0 ↔ rn = 0 := by rw [List.length_eq_zero_iff]; exact hnl
  have hs3 := b03.size
  have bZ := below_set3 b04 hs3 (.bool rs) (.slice tq (Dg.dg 65536 rn).length tc) (.int .i64 re)
  clear la2 lb2 lzW c0 c1 c2 c3 c4 c5 HP HM la3 lb3 p0 p1 p2 p3 p4 p5 q1 q2 la4 lb4 hnl b02 b03 b04 b3 b4 x0 x1 ne3 ne4
  by_cases h : rn = 0
  ·have h6 := hlen.2 h
   have H : Hid (rn = 0) := h
   rw [h6] at bZ
   clear hlen h
   go_wp2
   go_ret
   exact ⟨by first | rfl | rw [if_pos H.out], bZ⟩
  ·have h7 : ¬(Dg.dg 65536 rn).length = 0 := fun e => h (hlen.1 e)
   have H : Hid (¬rn = 0) := h
   have h6 : (((Dg.dg 65536 rn).length : Int) == 0) = false := by
    revert h7
    generalize (Dg.dg 65536 rn).length = mr
    intro h7
    simp; exact h7
   clear hlen h h7
   cases rs
   ·go_wp2
    go_ret
    exact ⟨by first | rfl | (rw [if_neg H.out]; rfl), bZ⟩
   ·go_wp2
    go_ret
    exact ⟨by first | rfl | (rw [if_neg H.out]; rfl), bZ⟩
 ·obtain ⟨-, ⟨g0, g1, g2⟩, -⟩ := loc_set lz4 (.bool rs) (.slice tq (Dg.dg 65536 rn).length tc) (.int .i64 re)
  have hlen : (Dg.dg 65536 rn).length = 0 ↔ rn = 0 := by rw [List.length_eq_zero_iff]; exact hnl
  have hs3 := b03.size
  have bZ := below_set3 b04 (show w.heap.size ≤ w.heap.size + 1 + 1 by omega) (.bool rs) (.slice tq (Dg.dg 65536 rn).length tc) (.int .i64 re)
  clear la2 lb2 lzW c0 c1 c2 c3 c4 c5 HP HM la3 lb3 p0 p1 p2 p3 p4 p5 q1 q2 la4 lb4 hnl b02 b03 b04 b3 b4 x0 x1 ne3 ne4
  by_cases h : rn = 0
  ·have h6 := hlen.2 h
   have H : Hid (rn = 0) := h
   rw [h6] at bZ
   clear hlen h
   go_wp2
   go_ret
   exact ⟨by first | rfl | rw [if_pos H.out], bZ⟩
  ·have h7 : ¬(Dg.dg 65536 rn).length = 0 := fun e => h (hlen.1 e)
   have H : Hid (¬rn = 0) := h
   have h6 : (((Dg.dg 65536 rn).length : Int) == 0) = false := by
    revert h7
    generalize (Dg.dg 65536 rn).length = mr
    intro h7
    simp; exact h7
   clear hlen h h7
   cases rs
   ·go_wp2
    go_ret
    exact ⟨by first | rfl | (rw [if_neg H.out]; rfl), bZ⟩
   ·go_wp2
    go_ret
    exact ⟨by first | rfl | (rw [if_neg H.out]; rfl), bZ⟩
end Go.Proofs.YtiiphandhpilgaaGreatDoor

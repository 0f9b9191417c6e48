/-
  Texts laid together: Ar3, Ar6, Oq3.
-/
import Derived.Test.YtnhackdjplppjaaGreatDoorAc39
set_option maxRecDepth 100000
namespace Go.Proofs.YtnhackdjplppjaaGreatDoor
open Go.RowKit
set_option maxHeartbeats 12800000 in
theorem operands_W (n wy fam R D L G : Int) (gr : Bool) (ps : List ByteArray) (pb : Nat) (w : World) (hps : LocE w pb 9 (ps.map Value.string)) (hm : ps.length ≤ 3)
  (HR : ∀ p w1, Below w.heap.size w w1 → Calls Tryz.prog 137 #[.int .i64 n, .string p] w1 (WRes w1 ((decC n p : Nat) : Int) (decG n p) (decM n p) (decP n p) (opT n p) (patC n p))) :
  Calls Tryz.prog 81 #[.agg #[.int .i64 n, .int .i64 wy, .int .i64 fam, .int .i64 R, .int .i64 D, .int .i64 L, .int .i64 G, .bool gr], .slice (some ⟨pb, 0, none⟩) ps.length ps.length] w (OpsRes w n ps) := by
 replace HR : Hid _ := HR
 obtain ⟨i0, hi, hz0, hz1, hz2⟩ := info_parts (show (Tryz.prog.info? 98).map (fun i => (i.zero, i.size, i.bytes)) = some (some (.agg #[.int .i64 0, .bool false, .bool false, .slice none 0 0, .int .i64 0]), 5, 56) by kernel_rfl)
 have HI : Hid (_ ∧ _ ∧ _ ∧ _) := ⟨hi, hz0, hz1, hz2⟩
 have hpb := hps.lt
 have bd0 := below_alloc w (.cells #[.int .i64 n, .int .i64 wy, .int .i64 fam, .int .i64 R, .int .i64 D, .int .i64 L, .int .i64 G, .bool gr] 93)
 have d0 := locE_new w [.int .i64 n, .int .i64 wy, .int .i64 fam, .int .i64 R, .int .i64 D, .int .i64 L, .int .i64 G, .bool gr] 93
 have s0 := hps.later bd0
 obtain ⟨m, hmE⟩ : ∃ m, ps.length = m := ⟨_, rfl⟩
 rw [hmE] at hm ⊢
 have HM : Hid (ps.length = m) := hmE
 clear hps hmE hi hz0 hz1 hz2
 go_enter Tryz.func81, Tryz.ntmps81
 go_wp2
 go_loopw [6, 14] (fun lv iv wr => ∃ i : Nat, iv = .int .i64 (i : Int) ∧ i ≤ m ∧ OpsI w n ps i lv wr ∧ Below w.heap.size w wr ∧ LocE wr w.heap.size 93 [.int .i64 n, .int .i64 wy, .int .i64 fam, .int .i64 R, .int .i64 D, .int .i64 L, .int .i64 G, .bool gr] ∧ LocE wr pb 9 (ps.map Value.string)) (fun _ iv _ => m - (intOf iv).toNat)
 case atStart => exact ⟨0, rfl, by omega, ⟨[], World.ownsRow_nil _ _ _ 5, rfl, rfl⟩, bd0, d0, s0⟩
 case round =>
  obtain ⟨i, rfl, him, hO, bel, dl, sl⟩ := hrel
  by_cases hlt : i < m
  ·have hil : i < ps.length := by have := HM.out; omega
   obtain ⟨p, hp⟩ : ∃ p, ps[i]? = some p := ⟨_, List.getElem?_eq_getElem hil⟩
   have y := sl.cell i (v := .string p) (by rw [List.getElem?_map, hp]; rfl)
   have x0 := dl.cell 0 rfl
   have HRp := HR.out p
   obtain ⟨c, ec⟩ : ∃ c : Int, ((decC n p : Nat) : Int) = c := ⟨_, rfl⟩
   obtain ⟨gg, eg⟩ : ∃ c, decG n p = c := ⟨_, rfl⟩
   obtain ⟨m1, em⟩ : ∃ c, decM n p = c := ⟨_, rfl⟩
   obtain ⟨p1, ep⟩ : ∃ c, decP n p = c := ⟨_, rfl⟩
   obtain ⟨t, et⟩ : ∃ c, opT n p = c := ⟨_, rfl⟩
   obtain ⟨er, ee⟩ : ∃ c, patC n p = c := ⟨_, rfl⟩
   rw [ec, eg, em, ep, et, ee] at HRp
   have HP : Hid (ps[i]? = some p ∧ ((decC n p : Nat) : Int) = c ∧ decG n p = gg ∧ opT n p = t ∧ patC n p = er) := ⟨hp, ec, eg, et, ee⟩
   replace HRp : Hid _ := HRp
   clear hp hil ec eg em ep et ee
   go_wp2_with fail
   refine (HRp.out _ bel).mono ?_
   rintro z w1 ⟨v, x, rfl, rv, rx, fx, b1⟩
   obtain ⟨vo, vc, hv⟩ := rv.shape
   subst hv
   obtain ⟨xo, xc, hx⟩ := rx.shape
   subst hx
   have a1 := below_alloc w1 (.cells #[.int .i64 c, .bool gg, .slice vo (Dg.dg 4294967296 m1).length vc, .int .i64 p1] 73)
   have a2 := below_alloc (w1.alloc (.cells #[.int .i64 c, .bool gg, .slice vo (Dg.dg 4294967296 m1).length vc, .int .i64 p1] 73)) (.cells #[.bool t.s, .slice xo (Dg.dg 4294967296 t.n).length xc, .int .i64 t.e] 82)
   have bb := below_trans (below_trans b1 a1) a2
   have q9 := (locE_new w1 [.int .i64 c, .bool gg, .slice vo (Dg.dg 4294967296 m1).length vc, .int .i64 p1] 73).later a2
   have q10 := locE_new (w1.alloc (.cells #[.int .i64 c, .bool gg, .slice vo (Dg.dg 4294967296 m1).length vc, .int .i64 p1] 73)) [.bool t.s, .slice xo (Dg.dg 4294967296 t.n).length xc, .int .i64 t.e] 82
   rw [World.size_alloc] at q10
   have rx1 := (rx.later a1).later a2
   have hO1 := hO.later bb
   have dl1 := dl.later bb
   have sl1 := sl.later bb
   have bel1 := below_trans bel bb
   have hbl : ∀ b, u6.ownBlock = some b → b < wr.heap.size := fun b hb => by
    obtain ⟨cs, h1, -⟩ := hO
    exact (World.ownsRow.lt h1 b hb).2
   have hsz : wr.heap.size ≤ w1.heap.size := b1.size
   have hws : w.heap.size ≤ wr.heap.size := bel.size
   clear b1 a1 a2 bb rv rx hO dl sl bel y x0
   go_upto_region 6 with fail
   generalize (w1.alloc (.cells #[.int .i64 c, .bool gg, .slice vo (Dg.dg 4294967296 m1).length vc, .int .i64 p1] 73)).alloc (.cells #[.bool t.s, .slice xo (Dg.dg 4294967296 t.n).length xc, .int .i64 t.e] 82) = W at q9 q10 rx1 hO1 dl1 sl1 bel1 ⊢
   generalize w1.heap.size = Q at q9 q10 hsz ⊢
   by_cases he : er = 0
   ·subst he
    go_wp2_with fail
    have qd := q9.drew
    have xd := q10.drew
    refine wp_region_held_drew (S := fun wq => wq.rangeAt Q 0 [.int .i64 c, .bool gg, .slice vo (Dg.dg 4294967296 m1).length vc, .int .i64 p1] ∧ wq.rangeAt (Q + 1) 0 [.bool t.s, .slice xo (Dg.dg 4294967296 t.n).length xc, .int .i64 t.e]) (by kernel_rfl) ⟨qd.range, xd.range⟩ (fun hS0 => ?_)
    refine wpAnyH_take (i := 0) (v := u6) rfl (by kernel_rfl) (by kernel_rfl) (by kernel_rfl) (fun _ _ _ h => h) (Or.inl ⟨by kernel_rfl, fun w0 _ => by kernel_rfl⟩) hS0 ?_
    refine wpAnyH_take (i := 1) (v := .pointer (some ⟨Q, 0, none⟩)) rfl (by kernel_rfl) (by kernel_rfl) (by kernel_rfl) (fun _ _ _ h => h) (Or.inl ⟨by kernel_rfl, fun w0 _ => by kernel_rfl⟩) hS0 ?_
    refine wpAnyH_take (i := 2) (v := .int .i64 c) rfl (by kernel_rfl) (by kernel_rfl) (by kernel_rfl) (fun _ _ _ h => h) (Or.inl ⟨by kernel_rfl, fun w0 hw0 => xload 3 (.tmp 30) rfl Q 0 (by kernel_rfl) _ _ Tryz.underlying3 rfl (hw0.1 0 _ rfl)⟩) hS0 ?_
    refine wpAnyH_take (i := 3) (v := .pointer (some ⟨Q, 1, none⟩)) rfl (by kernel_rfl) (by kernel_rfl) (by kernel_rfl) (fun _ _ _ h => h) (Or.inl ⟨by kernel_rfl, fun w0 _ => by kernel_rfl⟩) hS0 ?_
    refine wpAnyH_take (i := 4) (v := .bool gg) rfl (by kernel_rfl) (by kernel_rfl) (by kernel_rfl) (fun _ _ _ h => h) (Or.inl ⟨by kernel_rfl, fun w0 hw0 => xload 4 (.tmp 32) rfl Q 1 (by kernel_rfl) _ _ Tryz.underlying4 rfl (hw0.1 1 _ rfl)⟩) hS0 ?_
    refine wpAnyH_take (i := 5) (v := .agg #[.bool t.s, .slice xo (Dg.dg 4294967296 t.n).length xc, .int .i64 t.e]) rfl (by kernel_rfl) (by kernel_rfl) (by kernel_rfl) (fun _ _ _ h => h) (Or.inl ⟨by kernel_rfl, fun w0 hw0 => xrow 82 (.tmp 10) rfl (Q + 1) 0 (by kernel_rfl) _ _ hw0.2 Tryz.underlying82 rfl (by kernel_rfl)⟩) hS0 ?_
    refine wpAnyH_ready (rs := [6]) (by kernel_rfl) (by simp) ?_
    refine AllReadyH.cons rfl (fun K hK => ?_) AllReadyH.nil
    go_simp
    refine (of_dy _ _ _ _ _ _).mono ?_
    rintro z w2 ⟨rfl, b2⟩
    have bW : Below W.heap.size W w2 := below_trans ((Below.refl _ _).drew) b2
    have q92 := q9.later bW
    have q102 := q10.later bW
    have rx2 := rx1.later bW
    have hO2 := hO1.later bW
    have dl2 := dl1.later bW
    have sl2 := sl1.later bW
    have bel2 := below_trans bel1 bW
    have hszW := bW.size
    refine hK.out _ _ ⟨q92.range, q102.range⟩ (fun hS6 => ?_)
    clear hK K qd xd b2 bW q9 q10 rx1 hO1 dl1 sl1 bel1
    refine wpAnyH_take (i := 7) (v := .agg #[.int .i64 c, .bool gg, .bool t.s, .slice xo (Dg.dg 4294967296 t.n).length xc, .int .i64 t.e]) rfl (by kernel_rfl) (by kernel_rfl) (by kernel_rfl) (fun _ _ _ h => h) (Or.inl ⟨by kernel_rfl, fun w0 _ => by kernel_rfl⟩) hS6 ?_
    refine wpAnyH_ready (rs := [8]) (by kernel_rfl) (by simp) ?_
    refine AllReadyH.cons rfl (fun K hK => ?_) AllReadyH.nil
    go_simp
    have al := below_alloc w2 (.cells #[.int .i64 c, .bool gg, .bool t.s, .slice xo (Dg.dg 4294967296 t.n).length xc, .int .i64 t.e] 98)
    have nl := locE_new w2 [.int .i64 c, .bool gg, .bool t.s, .slice xo (Dg.dg 4294967296 t.n).length xc, .int .i64 t.e] 98
    have q93 := q92.later al
    have q103 := q102.later al
    have rx3 := rx2.later al
    have hO3 := hO2.later al
    have dl3 := dl2.later al
    have sl3 := sl2.later al
    have bel3 := below_trans bel2 al
    refine hK.out _ _ ⟨q93.range, q103.range⟩ (fun hS8 => ?_)
    clear hK K al q92 q102 rx2 hO2 dl2 sl2 bel2
    generalize w2.alloc (.cells #[.int .i64 c, .bool gg, .bool t.s, .slice xo (Dg.dg 4294967296 t.n).length xc, .int .i64 t.e] 98) = W3 at nl q93 q103 rx3 hO3 dl3 sl3 bel3 hS8 ⊢
    obtain ⟨cs, k1, k2, k3⟩ := hO3
    obtain ⟨hi, hz0, hz1, hz2⟩ := HI.out
    have hw3 : w.heap.size + 1 ≤ W3.heap.size := dl3.lt
    obtain ⟨v', w4, hrun, hown', hgrow, -, hat⟩ := run_append_own_at (P := Tryz.prog) W3 (w.heap.size + 1) 94 94 98 i0 _ 5 56 Tryz.underlying94 hi hz0 hz1 hz2 rfl (by omega) u6 i cs k1 ⟨w2.heap.size, 0, none⟩ 1 1 [.int .i64 c, .bool gg, .bool t.s, .slice xo (Dg.dg 4294967296 t.n).length xc, .int .i64 t.e] rfl (fun j u hj => by have := nl.cell j hj; rw [Addr.add_mid, Nat.zero_add]; exact this) (fun u hu => by simp at hu; rcases hu with rfl | rfl | rfl | rfl | rfl <;> rfl) (by unfold maxLen; omega) (by omega) hw3
    refine wpAnyH_ready (rs := [9]) (by kernel_rfl) (by simp) ?_
    refine AllReadyH.cons rfl (fun K hK => ?_) AllReadyH.nil
    refine step_run_append rfl (.tmp 29) (.tmp 37) 94 rfl _ _ v' w4 rfl rfl hrun ?_
    have hlp : pb < w.heap.size := hpb
    have hgb : ∀ g, u6.ownBlock = some g → w.heap.size < g ∧ g < wr.heap.size := fun g hg => ⟨(World.ownsRow.lt k1 g hg).1, hbl g hg⟩
    have q94 := q93.grownO hgrow (fun g hg => by have := hgb g hg; omega)
    have q104 := q103.grownO hgrow (fun g hg => by have := hgb g hg; omega)
    have dl4 := dl3.grownO hgrow (fun g hg => by have := hgb g hg; omega)
    have sl4 := sl3.grownO hgrow (fun g hg => by have := hgb g hg; omega)
    have bel4 := bel3.grown hgrow (by omega) (fun g hg => by have := hgb g hg; omega)
    have hOps : OpsI w n ps (i + 1) v' w4 := by
     obtain ⟨h1, h2, h3, h4, h5⟩ := HP.out
     refine ops_more (x := .slice xo (Dg.dg 4294967296 t.n).length xc) h1 h5 k2 k3 ⟨⟨xo, xc, by rw [h4]⟩, by rw [h4]; exact rx3, fun b hb => ?_⟩ ?_ hgrow hat
     ·intro _ a u v hv
      have := fx a u v hv
      have := hgb b hb
      omega
     ·unfold opC
      rw [h2, h3, h4]
      exact hown'
    refine hK.out _ _ ⟨q94.range, q104.range⟩ (fun hS9 => ?_)
    clear hK K q94 q104 q93 q103 dl3 sl3 bel3 hgrow hown' hat hrun rx3 nl fx k1 k2 k3 HP HRp HI
    refine wpAnyH_take (i := 10) (v := v') rfl (by kernel_rfl) (by kernel_rfl) (by kernel_rfl) (fun _ _ _ h => h) (Or.inl ⟨by kernel_rfl, fun w0 _ => by go_simp⟩) hS9 ?_
    simp only [Act.put, List.getElem_toArray, List.getElem_cons_succ, List.getElem_cons_zero, List.setIfInBounds_toArray, List.set_cons_zero, List.set_cons_succ]
    refine wpAnyH_done (by kernel_rfl) ?_ _
    go_wp2
    go_roundw
    case rel => exact ⟨i + 1, by go_num, by omega, hOps, bel4, dl4, sl4⟩
    case measure => simp [intOf]; omega
   ·have hef : (er == 0) = false := by simpa using he
    go_wp2
    go_ret2
    obtain ⟨h1, -, -, -, h5⟩ := HP.out
    obtain ⟨cs, -, -, k3⟩ := hO1
    have hil : i < ps.length := by have := HM.out; omega
    have hd : ps.drop i = p :: ps.drop (i + 1) := by
     rw [List.drop_eq_getElem_cons hil]
     congr 1
     rw [List.getElem?_eq_getElem hil] at h1
     exact Option.some.inj h1
    have hE : errL n ps = er := by
     rw [k3, hd, ← h5]
     exact if_neg (by rw [h5]; exact he)
    refine .inr ⟨by rw [hE]; exact he, ?_, bel1⟩
    rw [hE]
    rfl
  ·have HE : Hid (i = m) := (by omega : i = m)
   go_wp2
   go_ret2
   obtain ⟨cs, k1, k2, k3⟩ := hO
   have h1 := HE.out
   have h2 := HM.out
   subst h1
   rw [List.take_of_length_le (by omega)] at k2
   rw [List.drop_of_length_le (by omega)] at k3
   refine .inl ⟨k3, u6, cs, rfl, ?_, k2, bel⟩
   rw [h2]
   exact own_row_wider k1 (by omega)
end Go.Proofs.YtnhackdjplppjaaGreatDoor
namespace Go.Proofs.YtnhackdjplppjaaGreatDoor
open Go.RowKit
set_option maxHeartbeats 1600000 in
theorem oinfinite_any (c : Int) (g s : Bool) (ao : Option Addr) (la ca : Nat) (e : Int) (w : World) : Calls Tryz.prog 109 #[.agg #[.int .i64 c, .bool g, .bool s, .slice ao la ca, .int .i64 e]] w fun z w' => z = .returned (.bool (c == 3)) ∧ Below w.heap.size w w' := by
 have b0 := below_alloc w (.cells #[.int .i64 c, .bool g, .bool s, .slice ao la ca, .int .i64 e] 98)
 go_enter Tryz.func109, Tryz.ntmps109
 go_wp2
 go_ret
 exact ⟨rfl, b0⟩
def byI (c : Int) (g : Bool) : Int := if c = 3 then (if g = true then -1 else 1) else 0
set_option maxHeartbeats 1600000 in
theorem obeyond_any (c : Int) (g s : Bool) (ao : Option Addr) (la ca : Nat) (e : Int) (w : World) : Calls Tryz.prog 140 #[.agg #[.int .i64 c, .bool g, .bool s, .slice ao la ca, .int .i64 e]] w fun z w' => z = .returned (.int .i64 (byI c g)) ∧ Below w.heap.size w w' := by
 have HI : Hid (∀ w1, Calls Tryz.prog 109 #[.agg #[.int .i64 c, .bool g, .bool s, .slice ao la ca, .int .i64 e]] w1 fun z w' => z = .returned (.bool (c == 3)) ∧ Below w1.heap.size w1 w') := fun w1 => oinfinite_any c g s ao la ca e w1
 have b0 := below_alloc w (.cells #[.int .i64 c, .bool g, .bool s, .slice ao la ca, .int .i64 e] 98)
 have l0 := locE_new w [.int .i64 c, .bool g, .bool s, .slice ao la ca, .int .i64 e] 98
 unfold byI
 by_cases hc : c = 3
 ·rw [if_pos hc]
  subst hc
  cases g
  all_goals
   go_enter Tryz.func140, Tryz.ntmps140
   go_wp2_with fail
   refine (HI.out _).mono ?_
   rintro z w1 ⟨rfl, b1⟩
   have l1 := l0.later b1
   obtain ⟨y0, y1, y2, y3, y4⟩ := l1.cs5
   have b2 := below_trans b0 b1
   go_wp2
   go_ret
   exact ⟨rfl, b2⟩
 ·have hcf : (c == 3) = false := by simpa using hc
  rw [if_neg hc]
  rw [hcf] at HI
  clear hc hcf
  go_enter Tryz.func140, Tryz.ntmps140
  go_wp2_with fail
  refine (HI.out _).mono ?_
  rintro z w1 ⟨rfl, b1⟩
  have b2 := below_trans b0 b1
  go_wp2
  go_ret
  exact ⟨rfl, b2⟩
set_option maxHeartbeats 3200000 in
theorem compareN_W (cx cy r : Int) (gx sx gy sy : Bool) (xo yo : Option Addr) (lx kx ly ky : Nat) (ex ey : Int) (w : World) (hx : (cx == 3) = false) (hy : (cy == 3) = false)
  (HC : ∀ w1, Below w.heap.size w w1 → Calls Tryz.prog 141 #[.agg #[.bool sx, .slice xo lx kx, .int .i64 ex], .agg #[.bool sy, .slice yo ly ky, .int .i64 ey]] w1 fun z w' => z = .returned (.int .i64 r) ∧ Below w1.heap.size w1 w') :
  Calls Tryz.prog 83 #[.agg #[.int .i64 cx, .bool gx, .bool sx, .slice xo lx kx, .int .i64 ex], .agg #[.int .i64 cy, .bool gy, .bool sy, .slice yo ly ky, .int .i64 ey]] w fun z w' => z = .returned (.int .i64 r) ∧ Below w.heap.size w w' := by
 replace HC : Hid _ := HC
 have HX : Hid (∀ w1, Calls Tryz.prog 109 #[.agg #[.int .i64 cx, .bool gx, .bool sx, .slice xo lx kx, .int .i64 ex]] w1 fun z w' => z = .returned (.bool (cx == 3)) ∧ Below w1.heap.size w1 w') := fun w1 => oinfinite_any cx gx sx xo lx kx ex w1
 have HY : Hid (∀ w1, Calls Tryz.prog 109 #[.agg #[.int .i64 cy, .bool gy, .bool sy, .slice yo ly ky, .int .i64 ey]] w1 fun z w' => z = .returned (.bool (cy == 3)) ∧ Below w1.heap.size w1 w') := fun w1 => oinfinite_any cy gy sy yo ly ky ey w1
 rw [hx] at HX
 rw [hy] at HY
 have bx := below_alloc w (.cells #[.int .i64 cx, .bool gx, .bool sx, .slice xo lx kx, .int .i64 ex] 98)
 have by0 := below_alloc (w.alloc (.cells #[.int .i64 cx, .bool gx, .bool sx, .slice xo lx kx, .int .i64 ex] 98)) (.cells #[.int .i64 cy, .bool gy, .bool sy, .slice yo ly ky, .int .i64 ey] 98)
 have l0 := (locE_new w [.int .i64 cx, .bool gx, .bool sx, .slice xo lx kx, .int .i64 ex] 98).later by0
 have m0 := locE_new (w.alloc (.cells #[.int .i64 cx, .bool gx, .bool sx, .slice xo lx kx, .int .i64 ex] 98)) [.int .i64 cy, .bool gy, .bool sy, .slice yo ly ky, .int .i64 ey] 98
 rw [World.size_alloc] at m0
 have b0 := below_trans bx by0
 clear bx by0 hx hy
 go_enter Tryz.func83, Tryz.ntmps83
 go_upto_region 1 with fail
 generalize (w.alloc (.cells #[.int .i64 cx, .bool gx, .bool sx, .slice xo lx kx, .int .i64 ex] 98)).alloc (.cells #[.int .i64 cy, .bool gy, .bool sy, .slice yo ly ky, .int .i64 ey] 98) = W0 at l0 m0 b0 ⊢
 obtain ⟨x0, x1, x2, x3, x4⟩ := l0.cs5
 obtain ⟨y0, y1, y2, y3, y4⟩ := m0.cs5
 go_wp2_with fail
 refine (HX.out _).mono ?_
 rintro z w1 ⟨rfl, b1⟩
 have l1 := l0.later b1
 have m1 := m0.later b1
 have b01 := below_trans b0 b1
 clear x0 x1 x2 x3 x4 y0 y1 y2 y3 y4 l0 m0 b0 b1 HX
 obtain ⟨x0, x1, x2, x3, x4⟩ := l1.cs5
 obtain ⟨y0, y1, y2, y3, y4⟩ := m1.cs5
 go_wp2_with fail
 refine (HY.out _).mono ?_
 rintro z w2 ⟨rfl, b2⟩
 have l2 := l1.later b2
 have m2 := m1.later b2
 have b02 := below_trans b01 b2
 clear x0 x1 x2 x3 x4 y0 y1 y2 y3 y4 l1 m1 b01 b2 HY
 obtain ⟨x0, x1, x2, x3, x4⟩ := l2.cs5
 obtain ⟨y0, y1, y2, y3, y4⟩ := m2.cs5
 go_wp2_with fail
 refine (HC.out _ b02).mono ?_
 rintro z w3 ⟨rfl, b3⟩
 have b03 := below_trans b02 b3
 go_wp2
 go_ret
 exact ⟨rfl, b03⟩
set_option maxHeartbeats 3200000 in
theorem compareI_X (cy : Int) (gx sx gy sy : Bool) (xo yo : Option Addr) (lx kx ly ky : Nat) (ex ey : Int) (w : World) :
  Calls Tryz.prog 83 #[.agg #[.int .i64 3, .bool gx, .bool sx, .slice xo lx kx, .int .i64 ex], .agg #[.int .i64 cy, .bool gy, .bool sy, .slice yo ly ky, .int .i64 ey]] w fun z w' => z = .returned (.int .i64 (cmpI (byI 3 gx) (byI cy gy))) ∧ Below w.heap.size w w' := by
 have HX : Hid (∀ w1, Calls Tryz.prog 109 #[.agg #[.int .i64 3, .bool gx, .bool sx, .slice xo lx kx, .int .i64 ex]] w1 fun z w' => z = .returned (.bool (3 == 3)) ∧ Below w1.heap.size w1 w') := fun w1 => oinfinite_any 3 gx sx xo lx kx ex w1
 have BX : Hid (∀ w1, Calls Tryz.prog 140 #[.agg #[.int .i64 3, .bool gx, .bool sx, .slice xo lx kx, .int .i64 ex]] w1 fun z w' => z = .returned (.int .i64 (byI 3 gx)) ∧ Below w1.heap.size w1 w') := fun w1 => obeyond_any 3 gx sx xo lx kx ex w1
 have BY : Hid (∀ w1, Calls Tryz.prog 140 #[.agg #[.int .i64 cy, .bool gy, .bool sy, .slice yo ly ky, .int .i64 ey]] w1 fun z w' => z = .returned (.int .i64 (byI cy gy)) ∧ Below w1.heap.size w1 w') := fun w1 => obeyond_any cy gy sy yo ly ky ey w1
 have HC : Hid _ := cmpInt_any
 have bx := below_alloc w (.cells #[.int .i64 3, .bool gx, .bool sx, .slice xo lx kx, .int .i64 ex] 98)
 have by0 := below_alloc (w.alloc (.cells #[.int .i64 3, .bool gx, .bool sx, .slice xo lx kx, .int .i64 ex] 98)) (.cells #[.int .i64 cy, .bool gy, .bool sy, .slice yo ly ky, .int .i64 ey] 98)
 have l0 := (locE_new w [.int .i64 3, .bool gx, .bool sx, .slice xo lx kx, .int .i64 ex] 98).later by0
 have m0 := locE_new (w.alloc (.cells #[.int .i64 3, .bool gx, .bool sx, .slice xo lx kx, .int .i64 ex] 98)) [.int .i64 cy, .bool gy, .bool sy, .slice yo ly ky, .int .i64 ey] 98
 rw [World.size_alloc] at m0
 have b0 := below_trans bx by0
 clear bx by0
 obtain ⟨rx, hrx⟩ : ∃ r, byI 3 gx = r := ⟨_, rfl⟩
 obtain ⟨ry, hry⟩ : ∃ r, byI cy gy = r := ⟨_, rfl⟩
 rw [hrx] at BX ⊢
 rw [hry] at BY ⊢
 clear hrx hry
 go_enter Tryz.func83, Tryz.ntmps83
 go_upto_region 1 with fail
 generalize (w.alloc (.cells #[.int .i64 3, .bool gx, .bool sx, .slice xo lx kx, .int .i64 ex] 98)).alloc (.cells #[.int .i64 cy, .bool gy, .bool sy, .slice yo ly ky, .int .i64 ey] 98) = W0 at l0 m0 b0 ⊢
 obtain ⟨x0, x1, x2, x3, x4⟩ := l0.cs5
 obtain ⟨y0, y1, y2, y3, y4⟩ := m0.cs5
 go_wp2_with fail
 refine (HX.out _).mono ?_
 rintro z w1 ⟨rfl, b1⟩
 have l1 := l0.later b1
 have m1 := m0.later b1
 have b01 := below_trans b0 b1
 clear x0 x1 x2 x3 x4 y0 y1 y2 y3 y4 l0 m0 b0 b1 HX
 go_upto_region 2 with fail
 have ld := l1.drew
 have md := m1.drew
 refine wp_region_held_drew (S := fun wq => wq.rangeAt w.heap.size 0 [.int .i64 3, .bool gx, .bool sx, .slice xo lx kx, .int .i64 ex] ∧ wq.rangeAt (w.heap.size + 1) 0 [.int .i64 cy, .bool gy, .bool sy, .slice yo ly ky, .int .i64 ey]) (by kernel_rfl) ⟨ld.range, md.range⟩ (fun hS0 => ?_)
 refine wpAnyH_take (i := 0) (v := .agg #[.int .i64 3, .bool gx, .bool sx, .slice xo lx kx, .int .i64 ex]) rfl (by kernel_rfl) (by kernel_rfl) (by kernel_rfl) (fun _ _ _ h => h) (Or.inl ⟨by kernel_rfl, fun w0 hw0 => xrow 98 (.tmp 2) rfl w.heap.size 0 (by kernel_rfl) _ _ hw0.1 Tryz.underlying98 rfl (by kernel_rfl)⟩) hS0 ?_
 refine wpAnyH_take (i := 2) (v := .agg #[.int .i64 cy, .bool gy, .bool sy, .slice yo ly ky, .int .i64 ey]) rfl (by kernel_rfl) (by kernel_rfl) (by kernel_rfl) (fun _ _ _ h => h) (Or.inl ⟨by kernel_rfl, fun w0 hw0 => xrow 98 (.tmp 3) rfl (w.heap.size + 1) 0 (by kernel_rfl) _ _ hw0.2 Tryz.underlying98 rfl (by kernel_rfl)⟩) hS0 ?_
 refine wpAnyH_ready (rs := [1]) (by kernel_rfl) (by simp) ?_
 refine AllReadyH.cons rfl (fun K hK => ?_) AllReadyH.nil
 go_simp
 refine (BX.out _).mono ?_
 rintro z w5 ⟨rfl, b5⟩
 have l5 := ld.later b5
 have m5 := md.later b5
 have b05 := below_trans (b01.drew) b5
 refine hK.out _ _ ⟨l5.range, m5.range⟩ (fun hS1 => ?_)
 clear hK K ld md b5
 refine wpAnyH_ready (rs := [3]) (by kernel_rfl) (by simp) ?_
 refine AllReadyH.cons rfl (fun K hK => ?_) AllReadyH.nil
 go_simp
 refine (BY.out _).mono ?_
 rintro z w6 ⟨rfl, b6⟩
 have l6 := l5.later b6
 have m6 := m5.later b6
 have b06 := below_trans b05 b6
 refine hK.out _ _ ⟨l6.range, m6.range⟩ (fun hS3 => ?_)
 clear hK K l5 m5 b6
 refine wpAnyH_ready (rs := [4]) (by kernel_rfl) (by simp) ?_
 refine AllReadyH.cons rfl (fun K hK => ?_) AllReadyH.nil
 go_simp
 refine (HC.out _ _ _).mono ?_
 rintro z w7 ⟨rfl, rfl⟩
 refine hK.out _ _ hS3 (fun hS4 => ?_)
 clear hK K
 refine wpAnyH_take (i := 5) (v := .int .i64 (cmpI rx ry)) rfl (by kernel_rfl) (by kernel_rfl) (by kernel_rfl) (fun _ _ _ h => h) (Or.inl ⟨by kernel_rfl, fun w0 _ => by go_simp⟩) hS4 ?_
 simp only [Act.put, List.getElem_toArray, List.getElem_cons_succ, List.getElem_cons_zero, List.setIfInBounds_toArray, List.set_cons_zero, List.set_cons_succ]
 refine wpAnyH_done (by kernel_rfl) ?_ _
 go_wp2
 go_ret
 exact ⟨rfl, b06⟩
set_option maxHeartbeats 3200000 in
theorem compareI_Y (cx : Int) (gx sx gy sy : Bool) (xo yo : Option Addr) (lx kx ly ky : Nat) (ex ey : Int) (w : World) (hx : (cx == 3) = false) :
  Calls Tryz.prog 83 #[.agg #[.int .i64 cx, .bool gx, .bool sx, .slice xo lx kx, .int .i64 ex], .agg #[.int .i64 3, .bool gy, .bool sy, .slice yo ly ky, .int .i64 ey]] w fun z w' => z = .returned (.int .i64 (cmpI (byI cx gx) (byI 3 gy))) ∧ Below w.heap.size w w' := by
 have HX : Hid (∀ w1, Calls Tryz.prog 109 #[.agg #[.int .i64 cx, .bool gx, .bool sx, .slice xo lx kx, .int .i64 ex]] w1 fun z w' => z = .returned (.bool (cx == 3)) ∧ Below w1.heap.size w1 w') := fun w1 => oinfinite_any cx gx sx xo lx kx ex w1
 have HY : Hid (∀ w1, Calls Tryz.prog 109 #[.agg #[.int .i64 3, .bool gy, .bool sy, .slice yo ly ky, .int .i64 ey]] w1 fun z w' => z = .returned (.bool (3 == 3)) ∧ Below w1.heap.size w1 w') := fun w1 => oinfinite_any 3 gy sy yo ly ky ey w1
 have BX : Hid (∀ w1, Calls Tryz.prog 140 #[.agg #[.int .i64 cx, .bool gx, .bool sx, .slice xo lx kx, .int .i64 ex]] w1 fun z w' => z = .returned (.int .i64 (byI cx gx)) ∧ Below w1.heap.size w1 w') := fun w1 => obeyond_any cx gx sx xo lx kx ex w1
 have BY : Hid (∀ w1, Calls Tryz.prog 140 #[.agg #[.int .i64 3, .bool gy, .bool sy, .slice yo ly ky, .int .i64 ey]] w1 fun z w' => z = .returned (.int .i64 (byI 3 gy)) ∧ Below w1.heap.size w1 w') := fun w1 => obeyond_any 3 gy sy yo ly ky ey w1
 have HC : Hid _ := cmpInt_any
 rw [hx] at HX
 have bx := below_alloc w (.cells #[.int .i64 cx, .bool gx, .bool sx, .slice xo lx kx, .int .i64 ex] 98)
 have by0 := below_alloc (w.alloc (.cells #[.int .i64 cx, .bool gx, .bool sx, .slice xo lx kx, .int .i64 ex] 98)) (.cells #[.int .i64 3, .bool gy, .bool sy, .slice yo ly ky, .int .i64 ey] 98)
 have l0 := (locE_new w [.int .i64 cx, .bool gx, .bool sx, .slice xo lx kx, .int .i64 ex] 98).later by0
 have m0 := locE_new (w.alloc (.cells #[.int .i64 cx, .bool gx, .bool sx, .slice xo lx kx, .int .i64 ex] 98)) [.int .i64 3, .bool gy, .bool sy, .slice yo ly ky, .int .i64 ey] 98
 rw [World.size_alloc] at m0
 have b0 := below_trans bx by0
 clear bx by0
 obtain ⟨rx, hrx⟩ : ∃ r, byI cx gx = r := ⟨_, rfl⟩
 obtain ⟨ry, hry⟩ : ∃ r, byI 3 gy = r := ⟨_, rfl⟩
 rw [hrx] at BX ⊢
 rw [hry] at BY ⊢
 clear hrx hry
 go_enter Tryz.func83, Tryz.ntmps83
 go_upto_region 1 with fail
 generalize (w.alloc (.cells #[.int .i64 cx, .bool gx, .bool sx, .slice xo lx kx, .int .i64 ex] 98)).alloc (.cells #[.int .i64 3, .bool gy, .bool sy, .slice yo ly ky, .int .i64 ey] 98) = W0 at l0 m0 b0 ⊢
 obtain ⟨x0, x1, x2, x3, x4⟩ := l0.cs5
 obtain ⟨y0, y1, y2, y3, y4⟩ := m0.cs5
 go_wp2_with fail
 refine (HX.out _).mono ?_
 rintro z w1 ⟨rfl, b1⟩
 have l1 := l0.later b1
 have m1 := m0.later b1
 have b01 := below_trans b0 b1
 clear x0 x1 x2 x3 x4 y0 y1 y2 y3 y4 l0 m0 b0 b1 HX
 obtain ⟨x0, x1, x2, x3, x4⟩ := l1.cs5
 obtain ⟨y0, y1, y2, y3, y4⟩ := m1.cs5
 go_wp2_with fail
 refine (HY.out _).mono ?_
 rintro z w2 ⟨rfl, b2⟩
 have l2 := l1.later b2
 have m2 := m1.later b2
 have b02 := below_trans b01 b2
 clear x0 x1 x2 x3 x4 y0 y1 y2 y3 y4 l1 m1 b01 b2 HY
 go_upto_region 2 with fail
 have ld := l2.drew
 have md := m2.drew
 refine wp_region_held_drew (S := fun wq => wq.rangeAt w.heap.size 0 [.int .i64 cx, .bool gx, .bool sx, .slice xo lx kx, .int .i64 ex] ∧ wq.rangeAt (w.heap.size + 1) 0 [.int .i64 3, .bool gy, .bool sy, .slice yo ly ky, .int .i64 ey]) (by kernel_rfl) ⟨ld.range, md.range⟩ (fun hS0 => ?_)
 refine wpAnyH_take (i := 0) (v := .agg #[.int .i64 cx, .bool gx, .bool sx, .slice xo lx kx, .int .i64 ex]) rfl (by kernel_rfl) (by kernel_rfl) (by kernel_rfl) (fun _ _ _ h => h) (Or.inl ⟨by kernel_rfl, fun w0 hw0 => xrow 98 (.tmp 2) rfl w.heap.size 0 (by kernel_rfl) _ _ hw0.1 Tryz.underlying98 rfl (by kernel_rfl)⟩) hS0 ?_
 refine wpAnyH_take (i := 2) (v := .agg #[.int .i64 3, .bool gy, .bool sy, .slice yo ly ky, .int .i64 ey]) rfl (by kernel_rfl) (by kernel_rfl) (by kernel_rfl) (fun _ _ _ h => h) (Or.inl ⟨by kernel_rfl, fun w0 hw0 => xrow 98 (.tmp 3) rfl (w.heap.size + 1) 0 (by kernel_rfl) _ _ hw0.2 Tryz.underlying98 rfl (by kernel_rfl)⟩) hS0 ?_
 refine wpAnyH_ready (rs := [1]) (by kernel_rfl) (by simp) ?_
 refine AllReadyH.cons rfl (fun K hK => ?_) AllReadyH.nil
 go_simp
 refine (BX.out _).mono ?_
 rintro z w5 ⟨rfl, b5⟩
 have l5 := ld.later b5
 have m5 := md.later b5
 have b05 := below_trans (b02.drew) b5
 refine hK.out _ _ ⟨l5.range, m5.range⟩ (fun hS1 => ?_)
 clear hK K ld md b5
 refine wpAnyH_ready (rs := [3]) (by kernel_rfl) (by simp) ?_
 refine AllReadyH.cons rfl (fun K hK => ?_) AllReadyH.nil
 go_simp
 refine (BY.out _).mono ?_
 rintro z w6 ⟨rfl, b6⟩
 have l6 := l5.later b6
 have m6 := m5.later b6
 have b06 := below_trans b05 b6
 refine hK.out _ _ ⟨l6.range, m6.range⟩ (fun hS3 => ?_)
 clear hK K l5 m5 b6
 refine wpAnyH_ready (rs := [4]) (by kernel_rfl) (by simp) ?_
 refine AllReadyH.cons rfl (fun K hK => ?_) AllReadyH.nil
 go_simp
 refine (HC.out _ _ _).mono ?_
 rintro z w7 ⟨rfl, rfl⟩
 refine hK.out _ _ hS3 (fun hS4 => ?_)
 clear hK K
 refine wpAnyH_take (i := 5) (v := .int .i64 (cmpI rx ry)) rfl (by kernel_rfl) (by kernel_rfl) (by kernel_rfl) (fun _ _ _ h => h) (Or.inl ⟨by kernel_rfl, fun w0 _ => by go_simp⟩) hS4 ?_
 simp only [Act.put, List.getElem_toArray, List.getElem_cons_succ, List.getElem_cons_zero, List.setIfInBounds_toArray, List.set_cons_zero, List.set_cons_succ]
 refine wpAnyH_done (by kernel_rfl) ?_ _
 go_wp2
 go_ret
 exact ⟨rfl, b06⟩
end Go.Proofs.YtnhackdjplppjaaGreatDoor
namespace Go.Proofs.YtnhackdjplppjaaGreatDoor
open Go.RowKit
def sdI (c : Int) (g : Bool) : Int := if c = 3 then (if g = true then -2 else 2) else 0
set_option maxHeartbeats 1600000 in
theorem side_any (cx : Int) (gx sx : Bool) (xo : Option Addr) (lx kx : Nat) (ex : Int) (w : World) : Calls Tryz.prog 84 #[.agg #[.int .i64 cx, .bool gx, .bool sx, .slice xo lx kx, .int .i64 ex]] w fun z w' => z = .returned (.int .i64 (sdI cx gx)) ∧ Below w.heap.size w w' := by
 have b0 := below_alloc w (.cells #[.int .i64 cx, .bool gx, .bool sx, .slice xo lx kx, .int .i64 ex] 32)
 unfold sdI
 by_cases hc : cx = 3
 ·rw [if_pos hc]
  subst hc
  cases gx
  all_goals
   go_enter Tryz.func84, Tryz.ntmps84
   go_wp2
   go_ret
   exact ⟨rfl, b0⟩
 ·have hcf : (cx == 3) = false := by simpa using hc
  rw [if_neg hc]
  clear hc
  go_enter Tryz.func84, Tryz.ntmps84
  go_wp2
  go_ret
  exact ⟨rfl, b0⟩
set_option maxHeartbeats 3200000 in
theorem compareOf_no (cx cy : Int) (gx sx gy sy : Bool) (xo yo : Option Addr) (lx kx ly ky : Nat) (ex ey : Int) (w : World) (h : 4 ≤ cx ∨ 4 ≤ cy) :
  Calls Tryz.prog 33 #[.agg #[.int .i64 cx, .bool gx, .bool sx, .slice xo lx kx, .int .i64 ex], .agg #[.int .i64 cy, .bool gy, .bool sy, .slice yo ly ky, .int .i64 ey]] w fun z w' => z = .returned (.tuple #[.int .i64 0, .bool false]) ∧ Below w.heap.size w w' := by
 have bx := below_alloc w (.cells #[.int .i64 cx, .bool gx, .bool sx, .slice xo lx kx, .int .i64 ex] 32)
 have by0 := below_alloc (w.alloc (.cells #[.int .i64 cx, .bool gx, .bool sx, .slice xo lx kx, .int .i64 ex] 32)) (.cells #[.int .i64 cy, .bool gy, .bool sy, .slice yo ly ky, .int .i64 ey] 32)
 have b0 := below_trans bx by0
 clear bx by0
 by_cases h1 : 4 ≤ cx
 ·clear h
  go_enter Tryz.func33, Tryz.ntmps33
  go_wp2
  go_ret2
  exact ⟨rfl, b0⟩
 ·have h2 : 4 ≤ cy := by omega
  clear h
  go_enter Tryz.func33, Tryz.ntmps33
  go_wp2
  go_ret2
  exact ⟨rfl, b0⟩
set_option maxHeartbeats 6400000 in
theorem compareOf_W (cx cy s1 s2 r : Int) (gx sx gy sy : Bool) (xo yo : Option Addr) (lx kx ly ky : Nat) (ex ey : Int) (w : World) (h1 : ¬ 4 ≤ cx) (h2 : ¬ 4 ≤ cy) (hr : s1 ≠ 0 ∨ s2 ≠ 0 → r = cmpI s1 s2)
  (HX : ∀ w1, Calls Tryz.prog 84 #[.agg #[.int .i64 cx, .bool gx, .bool sx, .slice xo lx kx, .int .i64 ex]] w1 fun z w' => z = .returned (.int .i64 s1) ∧ Below w1.heap.size w1 w')
  (HY : ∀ w1, Calls Tryz.prog 84 #[.agg #[.int .i64 cy, .bool gy, .bool sy, .slice yo ly ky, .int .i64 ey]] w1 fun z w' => z = .returned (.int .i64 s2) ∧ Below w1.heap.size w1 w')
  (HC : s1 = 0 → s2 = 0 → ∀ w1, Below w.heap.size w w1 → Calls Tryz.prog 85 #[.agg #[.bool sx, .slice xo lx kx, .int .i64 ex], .agg #[.bool sy, .slice yo ly ky, .int .i64 ey]] w1 fun z w' => z = .returned (.int .i64 r) ∧ Below w1.heap.size w1 w') :
  Calls Tryz.prog 33 #[.agg #[.int .i64 cx, .bool gx, .bool sx, .slice xo lx kx, .int .i64 ex], .agg #[.int .i64 cy, .bool gy, .bool sy, .slice yo ly ky, .int .i64 ey]] w fun z w' => z = .returned (.tuple #[.int .i64 r, .bool true]) ∧ Below w.heap.size w w' := by
 replace HX : Hid _ := HX
 replace HY : Hid _ := HY
 replace HC : Hid _ := HC
 replace hr : Hid _ := hr
 have HE : Hid (∀ args W, Sem.run Tryz.prog (callFunc 84 args) W = .ok (.enter 84 args) W) := fun args W => by kernel_rfl
 have bx := below_alloc w (.cells #[.int .i64 cx, .bool gx, .bool sx, .slice xo lx kx, .int .i64 ex] 32)
 have by0 := below_alloc (w.alloc (.cells #[.int .i64 cx, .bool gx, .bool sx, .slice xo lx kx, .int .i64 ex] 32)) (.cells #[.int .i64 cy, .bool gy, .bool sy, .slice yo ly ky, .int .i64 ey] 32)
 have l0 := (locE_new w [.int .i64 cx, .bool gx, .bool sx, .slice xo lx kx, .int .i64 ex] 32).later by0
 have m0 := locE_new (w.alloc (.cells #[.int .i64 cx, .bool gx, .bool sx, .slice xo lx kx, .int .i64 ex] 32)) [.int .i64 cy, .bool gy, .bool sy, .slice yo ly ky, .int .i64 ey] 32
 rw [World.size_alloc] at m0
 have b0 := below_trans bx by0
 clear bx by0
 go_enter Tryz.func33, Tryz.ntmps33
 go_upto_region 4 with fail
 generalize (w.alloc (.cells #[.int .i64 cx, .bool gx, .bool sx, .slice xo lx kx, .int .i64 ex] 32)).alloc (.cells #[.int .i64 cy, .bool gy, .bool sy, .slice yo ly ky, .int .i64 ey] 32) = W0 at l0 m0 b0 ⊢
 have l0d := l0.drew
 have m0d := m0.drew
 refine wp_region_held_drew (S := fun wq => Below w.heap.size w wq ∧ LocE wq w.heap.size 32 [.int .i64 cx, .bool gx, .bool sx, .slice xo lx kx, .int .i64 ex] ∧ LocE wq (w.heap.size + 1) 32 [.int .i64 cy, .bool gy, .bool sy, .slice yo ly ky, .int .i64 ey]) (by kernel_rfl) ⟨b0.drew, l0d, m0d⟩ (fun hS0 => ?_)
 clear l0d m0d
 refine wpAnyH_take (i := 0) (v := .func (.func 84) #[] #[]) rfl (by kernel_rfl) (by kernel_rfl) (by kernel_rfl) (fun _ _ _ h => h) (Or.inl ⟨by kernel_rfl, fun w0 _ => by kernel_rfl⟩) hS0 ?_
 refine wpAnyH_take (i := 1) (v := .agg #[.int .i64 cx, .bool gx, .bool sx, .slice xo lx kx, .int .i64 ex]) rfl (by kernel_rfl) (by kernel_rfl) (by kernel_rfl) (fun _ _ _ h => h) (Or.inl ⟨by kernel_rfl, fun w0 hw0 => xrow 32 (.tmp 2) rfl w.heap.size 0 (by kernel_rfl) _ _ hw0.2.1.range Tryz.underlying32 rfl (by kernel_rfl)⟩) hS0 ?_
 refine wpAnyH_take (i := 3) (v := .func (.func 84) #[] #[]) rfl (by kernel_rfl) (by kernel_rfl) (by kernel_rfl) (fun _ _ _ h => h) (Or.inl ⟨by kernel_rfl, fun w0 _ => by kernel_rfl⟩) hS0 ?_
 refine wpAnyH_take (i := 4) (v := .agg #[.int .i64 cy, .bool gy, .bool sy, .slice yo ly ky, .int .i64 ey]) rfl (by kernel_rfl) (by kernel_rfl) (by kernel_rfl) (fun _ _ _ h => h) (Or.inl ⟨by kernel_rfl, fun w0 hw0 => xrow 32 (.tmp 3) rfl (w.heap.size + 1) 0 (by kernel_rfl) _ _ hw0.2.2.range Tryz.underlying32 rfl (by kernel_rfl)⟩) hS0 ?_
 refine wpAnyH_ready (rs := [2]) (by kernel_rfl) (by simp) ?_
 refine AllReadyH.cons rfl (fun K hK => ?_) AllReadyH.nil
 go_simp
 refine (HX.out _).mono ?_
 rintro z w1 ⟨rfl, b1⟩
 have bW := below_trans (Below.refl _ _).drew b1
 have S1 : Below w.heap.size w w1 ∧ LocE w1 w.heap.size 32 [.int .i64 cx, .bool gx, .bool sx, .slice xo lx kx, .int .i64 ex] ∧ LocE w1 (w.heap.size + 1) 32 [.int .i64 cy, .bool gy, .bool sy, .slice yo ly ky, .int .i64 ey] := ⟨below_trans b0 bW, l0.later bW, m0.later bW⟩
 refine hK.out _ _ S1 (fun hS1 => ?_)
 clear hK K b1 bW b0 l0 m0
 refine wpAnyH_ready (rs := [5]) (by kernel_rfl) (by simp) ?_
 refine AllReadyH.cons rfl (fun K hK => ?_) AllReadyH.nil
 go_simp
 refine (HY.out _).mono ?_
 rintro z w2 ⟨rfl, b2⟩
 obtain ⟨c1, c2, c3⟩ := S1
 have S2 : Below w.heap.size w w2 ∧ LocE w2 w.heap.size 32 [.int .i64 cx, .bool gx, .bool sx, .slice xo lx kx, .int .i64 ex] ∧ LocE w2 (w.heap.size + 1) 32 [.int .i64 cy, .bool gy, .bool sy, .slice yo ly ky, .int .i64 ey] := ⟨below_trans c1 b2, c2.later b2, c3.later b2⟩
 refine hK.out _ _ S2 (fun hS2 => ?_)
 clear hK K b2 c1 c2 c3 HX HY
 refine wpAnyH_take (i := 6) (v := .int .i64 s1) rfl (by kernel_rfl) (by kernel_rfl) (by kernel_rfl) (fun _ _ _ h => h) (Or.inl ⟨by kernel_rfl, fun w0 _ => by kernel_rfl⟩) hS2 ?_
 refine wpAnyH_take (i := 7) (v := .int .i64 s2) rfl (by kernel_rfl) (by kernel_rfl) (by kernel_rfl) (fun _ _ _ h => h) (Or.inl ⟨by kernel_rfl, fun w0 _ => by kernel_rfl⟩) hS2 ?_
 simp only [Act.put, List.getElem_toArray, List.getElem_cons_succ, List.getElem_cons_zero, List.setIfInBounds_toArray, List.set_cons_zero, List.set_cons_succ]
 refine wpAnyH_done (by kernel_rfl) ?_ _
 obtain ⟨c1, c2, c3⟩ := S2
 obtain ⟨x0, x1, x2, x3, x4⟩ := c2.cs5
 obtain ⟨y0, y1, y2, y3, y4⟩ := c3.cs5
 by_cases hz : s1 = 0 ∧ s2 = 0
 ·replace HC : Hid _ := HC.out hz.1 hz.2
  clear hr
  obtain ⟨rfl, rfl⟩ := hz
  go_wp2_with fail
  refine (HC.out _ c1).mono ?_
  rintro z w3 ⟨rfl, b3⟩
  have b03 := below_trans c1 b3
  go_wp2
  go_ret2
  exact ⟨rfl, b03⟩
 ·by_cases h3 : s1 = 0
  ·subst h3
   have h4 : (s2 != 0) = true := by simp; omega
   by_cases h5 : 0 < s2
   ·have hR : r = -1 := (hr.out (by omega)).trans (by unfold cmpI; rw [if_pos h5])
    clear HC hr hz
    subst hR
    go_wp2
    go_ret2
    exact ⟨rfl, c1⟩
   ·have h6 : s2 < 0 := by omega
    have hR : r = 1 := (hr.out (by omega)).trans (by unfold cmpI; rw [if_neg h5, if_pos (by omega)])
    clear HC hr hz
    subst hR
    go_wp2
    go_ret2
    exact ⟨rfl, c1⟩
  ·have h4 : (s1 != 0) = true := by simpa using h3
   by_cases h5 : s1 < s2
   ·have hR : r = -1 := (hr.out (by omega)).trans (by unfold cmpI; rw [if_pos h5])
    clear HC hr hz
    subst hR
    go_wp2
    go_ret2
    exact ⟨rfl, c1⟩
   ·by_cases h6 : s2 < s1
    ·have hR : r = 1 := (hr.out (by omega)).trans (by unfold cmpI; rw [if_neg h5, if_pos h6])
     clear HC hr hz
     subst hR
     go_wp2
     go_ret2
     exact ⟨rfl, c1⟩
    ·have hR : r = 0 := (hr.out (by omega)).trans (by unfold cmpI; rw [if_neg h5, if_neg h6])
     clear HC hr hz
     subst hR
     go_wp2
     go_ret2
     exact ⟨rfl, c1⟩
end Go.Proofs.YtnhackdjplppjaaGreatDoor

/-
  The reference's numbers with a point: OfDyad, ToDyad, dyadIs; the laws DyadBares, DyadScales.
-/
import Derived.Test.YtmdjmjnnenddfaaDoorDr1
import Derived.Test.YtmdjmjnnenddfaaDoorDy8
namespace Go.Proofs.YtmdjmjnnenddfaaDoor
open Go.RowKit

theorem dg16_len (n L : Nat) (h : (Dg.dg 4294967296 n).length ≤ L) : (Dg.dg 65536 n).length ≤ 2 * L := by
  apply Dg.dg_len_le 65536 _ _ (by omega)
  have h1 := Dg.vl_lt 4294967296 (Dg.dg 4294967296 n) (Dg.small_dg _ _ (by omega))
  rw [Dg.vl_dg _ _ (by omega)] at h1
  have h2 : 4294967296 ^ (Dg.dg 4294967296 n).length ≤ 4294967296 ^ L := Nat.pow_le_pow_right (by omega) h
  rw [pow_two]
  omega

set_option maxRecDepth 100000 in
set_option maxHeartbeats 800000 in
theorem ofDyad_any (s : Bool) (ao : Option Addr) (ca : Nat) (xs : List Nat) (e : Int) (w : World) (hr : Rd w .u32 (.slice ao xs.length ca) xs) (sa : Dg.Small 4294967296 xs) (hL : xs.length ≤ 20000) (he1 : -1000000 ≤ e) (he2 : e ≤ 1000000) :
    Calls Tryd.prog 17 #[.agg #[.bool s, .slice ao xs.length ca, .int .i64 e]] w (RDRes w (bare ⟨s, Dg.vl 4294967296 xs, e⟩)) := by
  have HO : Hid (∀ w1, Below w.heap.size w w1 → Calls Tryd.prog 42 #[.slice ao xs.length ca] w1 (RNum w1 (Dg.vl 4294967296 xs))) := fun w1 b1 => of_any _ xs w1 (hr.later b1) sa (by omega)
  have hl16 : (Dg.dg 65536 (Dg.vl 4294967296 xs)).length ≤ 100000 := by have := len16 sa; omega
  obtain ⟨n, hn⟩ : ∃ n, Dg.vl 4294967296 xs = n := ⟨_, rfl⟩
  rw [hn] at HO hl16 ⊢
  have HB : Hid (∀ v w1, Rv w1 v ⟨s, n, e⟩ → Calls Tryd.prog 41 #[v] w1 (RDRes w1 (bare ⟨s, n, e⟩))) := fun v w1 hv => bared_any v _ w1 hv hl16 he1 he2
  obtain ⟨⟨bs, bn, be⟩, hbt⟩ : ∃ bt, bare ⟨s, n, e⟩ = bt := ⟨_, rfl⟩
  rw [hbt] at HB ⊢
  clear hn hbt hr sa hL
  have bA := below_trans (below_alloc w (.cells #[.bool s, .slice ao xs.length ca, .int .i64 e] 25)) (below_alloc _ (.cells #[.bool false, .slice none 0 0, .int .i64 0] 34))
  have l1 := (loc_new w (.bool s) (.slice ao xs.length ca) (.int .i64 e) 25).later (below_alloc _ (.cells #[.bool false, .slice none 0 0, .int .i64 0] 34))
  have l2 := loc_new (w.alloc (.cells #[.bool s, .slice ao xs.length ca, .int .i64 e] 25)) (.bool false) (.slice none 0 0) (.int .i64 0) 34
  have z2 := zb_new (w.alloc (.cells #[.bool s, .slice ao xs.length ca, .int .i64 e] 25)) 34
  rw [World.size_alloc] at l2 z2
  obtain ⟨W, hW⟩ : ∃ W, ((w.alloc (.cells #[.bool s, .slice ao xs.length ca, .int .i64 e] 25)).alloc (.cells #[.bool false, .slice none 0 0, .int .i64 0] 34)) = W := ⟨_, rfl⟩
  rw [hW] at bA l1 l2 z2
  have bd : Below W.heap.size W W.drew := (Below.refl _ _).drew
  have l1 := l1.later bd
  have l2 := l2.later bd
  have z2 := z2.later bd
  have b02 := below_trans bA bd
  rw [← hW] at l1 l2 z2 b02
  clear bA bd hW
  obtain ⟨-, ⟨c0, c1, c2⟩, -⟩ := id l1
  have ne3 : w.heap.size + 1 ≠ w.heap.size := by omega
  go_enter Tryd.func17, Tryd.ntmps17
  go_wp2_with fail
  go_region_held3 (fun wq => wq.cell? ⟨w.heap.size, 0, none⟩ = some (.bool s) ∧ wq.cell? ⟨w.heap.size, 1, none⟩ = some (.slice ao xs.length ca) ∧ wq.cell? ⟨w.heap.size, 2, none⟩ = some (.int .i64 e)) (go_keep) (first
    | (go_at_call 42; refine (HO.out _ b02).mono ?_; rintro z w3 ⟨vs, rfl, r3, b3⟩; have l13 := l1.later b3; have l23 := l2.later b3; have z23 := z2.later b3; have b03 := below_trans b02 b3; obtain ⟨-, ⟨p0, p1, p2⟩, -⟩ := id l13; obtain ⟨so0, sc0, hv0⟩ := r3.shape; subst hv0)
    | (go_at_call 41; refine (HB.out _ w3 ⟨_, rfl, r3⟩).mono ?_; rintro z w4 ⟨vt, rfl, r4, b4⟩; have l14 := l13.later b4; have l24 := l23.later b4; have z24 := z23.later b4; have b04 := below_trans b03 b4; obtain ⟨so, sc, hvs⟩ := r4.shape; subst hvs; obtain ⟨-, ⟨q0, q1, q2⟩, -⟩ := id l14; obtain ⟨hl3, ⟨d0, d1, d2⟩, f0, f1, f2⟩ := id l24))
  all_goals go_wp2
  obtain ⟨-, ⟨g0, g1, g2⟩, -⟩ := loc_set l24 (.bool bs) (.slice so (Dg.dg 65536 bn).length sc) (.int .i64 be)
  have r7 := z24.rd r4 (Dg.norm_dg _ _ (by omega)) (.bool bs) (.slice so (Dg.dg 65536 bn).length sc) (.int .i64 be)
  have b8 := below_set3 b04 (show w.heap.size ≤ w.heap.size + 1 by omega) (.bool bs) (.slice so (Dg.dg 65536 bn).length sc) (.int .i64 be)
  refine bodyPost_ret (v := .agg #[.bool bs, .slice so (Dg.dg 65536 bn).length sc, .int .i64 be]) (by simp [results, Tryd.results17, go_sem, g0, g1, g2]) rfl ?_
  exact ⟨_, rfl, r7, b8⟩

/-- What ToDyad makes of a number. -/
def toT (t : Trip) : Trip × Int :=
  if 1200 < (Dg.dg 4294967296 t.n).length then (⟨false, 0, 0⟩, 2) else if t.e < -20000 ∨ 20000 < t.e then (⟨false, 0, 0⟩, 3) else (t, 0)

theorem toT_bare (t : Trip) : toT (bare t) = shortT t := rfl

def RDAns (w : World) (r : Trip × Int) (e : Ending) (w' : World) : Prop :=
  ∃ s, e = .returned (.tuple #[.agg #[.bool r.1.s, s, .int .i64 r.1.e], .int .i64 r.2]) ∧ Rd w' .u32 s (Dg.dg 4294967296 r.1.n) ∧ Below w.heap.size w w'

set_option maxRecDepth 100000 in
set_option maxHeartbeats 1600000 in
theorem toDyad_any (v : Value) (t : Trip) (w : World) (hv : Rv w v t) (hL : (Dg.dg 65536 t.n).length ≤ 100000) :
    Calls Tryd.prog 43 #[v] w (RDAns w (toT t)) := by
  obtain ⟨s0, rfl, hr⟩ := hv
  obtain ⟨ao, ca, rfl⟩ := hr.shape
  obtain ⟨ts, n, e⟩ := t
  simp only at hr hL ⊢
  have HTO : Hid (∀ w1, Below w.heap.size w w1 → Calls Tryd.prog 61 #[.slice ao (Dg.dg 65536 n).length ca] w1 (Num w1 n)) := fun w1 b1 => by
    have := to_any _ _ w1 (hr.later b1) (Dg.small_dg _ _ (by omega)) (Dg.norm_dg _ _ (by omega)) (by omega)
    rwa [Dg.vl_dg _ _ (by omega)] at this
  obtain ⟨m, hm⟩ : ∃ m, (Dg.dg 65536 n).length = m := ⟨_, rfl⟩
  rw [hm] at HTO ⊢
  unfold toT
  simp only
  clear hm hr hL
  have bA := below_trans (below_alloc w (.cells #[.bool ts, .slice ao m ca, .int .i64 e] 34)) (below_alloc _ (.cells #[.bool false, .slice none 0 0, .int .i64 0] 25))
  have l1 := (loc_new w (.bool ts) (.slice ao m ca) (.int .i64 e) 34).later (below_alloc _ (.cells #[.bool false, .slice none 0 0, .int .i64 0] 25))
  have l2 := loc_new (w.alloc (.cells #[.bool ts, .slice ao m ca, .int .i64 e] 34)) (.bool false) (.slice none 0 0) (.int .i64 0) 25
  rw [World.size_alloc] at l2
  by_cases h1 : 1200 < (Dg.dg 4294967296 n).length
  · rw [if_pos h1]
    go_enter Tryd.func43, Tryd.ntmps43
    go_wp2_with fail
    refine (HTO.out _ bA).mono ?_
    rintro z w1 ⟨vs, rfl, own1, b1⟩
    have l1 := l1.later b1
    have l2 := l2.later b1
    have b01 := below_trans bA b1
    rw [World.size_alloc, World.size_alloc] at own1
    obtain ⟨so, sc, hs⟩ := own1.rd.shape
    subst hs
    obtain ⟨hl1, ⟨c0, c1, c2⟩, f0, f1, f2⟩ := id l1
    obtain ⟨hl2, ⟨d0, d1, d2⟩, k0, k1, k2⟩ := id l2
    clear bA b1 HTO
    go_wp2
    obtain ⟨-, ⟨g0, g1, g2⟩, -⟩ := loc_set l2 (.bool false) (.slice none 0 0) (.int .i64 0)
    have b2 := below_set3 b01 (show w.heap.size ≤ w.heap.size + 1 by omega) (.bool false) (.slice none 0 0) (.int .i64 0)
    refine bodyPost_ret (v := .tuple #[.agg #[(.bool false), (.slice none 0 0), (.int .i64 0)], .int .i64 2]) (by simp [results, Tryd.results43, go_sem, g0, g1, g2]) rfl ?_
    exact ⟨_, rfl, rd_nil _ _, b2⟩
  · rw [if_neg h1]
    by_cases h2 : e < -20000
    · rw [if_pos (Or.inl h2)]
      go_enter Tryd.func43, Tryd.ntmps43
      go_wp2_with fail
      refine (HTO.out _ bA).mono ?_
      rintro z w1 ⟨vs, rfl, own1, b1⟩
      have l1 := l1.later b1
      have l2 := l2.later b1
      have b01 := below_trans bA b1
      rw [World.size_alloc, World.size_alloc] at own1
      obtain ⟨so, sc, hs⟩ := own1.rd.shape
      subst hs
      obtain ⟨hl1, ⟨c0, c1, c2⟩, f0, f1, f2⟩ := id l1
      obtain ⟨hl2, ⟨d0, d1, d2⟩, k0, k1, k2⟩ := id l2
      clear bA b1 HTO
      go_wp2
      obtain ⟨-, ⟨g0, g1, g2⟩, -⟩ := loc_set l2 (.bool false) (.slice none 0 0) (.int .i64 0)
      have b2 := below_set3 b01 (show w.heap.size ≤ w.heap.size + 1 by omega) (.bool false) (.slice none 0 0) (.int .i64 0)
      refine bodyPost_ret (v := .tuple #[.agg #[(.bool false), (.slice none 0 0), (.int .i64 0)], .int .i64 3]) (by simp [results, Tryd.results43, go_sem, g0, g1, g2]) rfl ?_
      exact ⟨_, rfl, rd_nil _ _, b2⟩
    · by_cases h3 : 20000 < e
      · rw [if_pos (Or.inr h3)]
        go_enter Tryd.func43, Tryd.ntmps43
        go_wp2_with fail
        refine (HTO.out _ bA).mono ?_
        rintro z w1 ⟨vs, rfl, own1, b1⟩
        have l1 := l1.later b1
        have l2 := l2.later b1
        have b01 := below_trans bA b1
        rw [World.size_alloc, World.size_alloc] at own1
        obtain ⟨so, sc, hs⟩ := own1.rd.shape
        subst hs
        obtain ⟨hl1, ⟨c0, c1, c2⟩, f0, f1, f2⟩ := id l1
        obtain ⟨hl2, ⟨d0, d1, d2⟩, k0, k1, k2⟩ := id l2
        clear bA b1 HTO
        go_wp2
        obtain ⟨-, ⟨g0, g1, g2⟩, -⟩ := loc_set l2 (.bool false) (.slice none 0 0) (.int .i64 0)
        have b2 := below_set3 b01 (show w.heap.size ≤ w.heap.size + 1 by omega) (.bool false) (.slice none 0 0) (.int .i64 0)
        refine bodyPost_ret (v := .tuple #[.agg #[(.bool false), (.slice none 0 0), (.int .i64 0)], .int .i64 3]) (by simp [results, Tryd.results43, go_sem, g0, g1, g2]) rfl ?_
        exact ⟨_, rfl, rd_nil _ _, b2⟩
      · rw [if_neg (by omega)]
        go_enter Tryd.func43, Tryd.ntmps43
        go_wp2_with fail
        refine (HTO.out _ bA).mono ?_
        rintro z w1 ⟨vs, rfl, own1, b1⟩
        have l1 := l1.later b1
        have l2 := l2.later b1
        have b01 := below_trans bA b1
        rw [World.size_alloc, World.size_alloc] at own1
        obtain ⟨so, sc, hs⟩ := own1.rd.shape
        subst hs
        obtain ⟨hl1, ⟨c0, c1, c2⟩, f0, f1, f2⟩ := id l1
        obtain ⟨hl2, ⟨d0, d1, d2⟩, k0, k1, k2⟩ := id l2
        clear bA b1 HTO
        go_wp2
        obtain ⟨-, ⟨g0, g1, g2⟩, -⟩ := loc_set l2 (.bool ts) (.slice so (Dg.dg 4294967296 n).length sc) (.int .i64 e)
        have b2 := below_set3 b01 (show w.heap.size ≤ w.heap.size + 1 by omega) (.bool ts) (.slice so (Dg.dg 4294967296 n).length sc) (.int .i64 e)
        refine bodyPost_ret (v := .tuple #[.agg #[(.bool ts), (.slice so (Dg.dg 4294967296 n).length sc), (.int .i64 e)], .int .i64 0]) (by simp [results, Tryd.results43, go_sem, g0, g1, g2]) rfl ?_
        exact ⟨_, rfl, (own1.apart3 (b := w.heap.size + 1) (by omega) (.bool ts) (.slice so (Dg.dg 4294967296 n).length sc) (.int .i64 e)).rd, b2⟩
end Go.Proofs.YtmdjmjnnenddfaaDoor

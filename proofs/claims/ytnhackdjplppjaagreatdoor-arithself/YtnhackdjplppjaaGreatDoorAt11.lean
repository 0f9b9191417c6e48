/-
  Texts laid together: Dy3.
-/
import Derived.Laws.ResultCell
import Derived.Test.YtnhackdjplppjaaGreatDoorAt04
set_option maxRecDepth 100000
namespace Go.Proofs.YtnhackdjplppjaaGreatDoor
open Go.RowKit
def shortT (t : Trip) : Trip × Int :=
 if 1200 < (Dg.dg 4294967296 (bare t).n).length then (⟨false, 0, 0⟩, 2) else if (bare t).e < -20000 ∨ 20000 < (bare t).e then (⟨false, 0, 0⟩, 3) else (bare t, 0)
def DAns (w : World) (r : Trip × Int) (e : Ending) (w' : World) : Prop :=
 ∃ s, e = .returned (.tuple #[.agg #[.bool r.1.s, s, .int .i64 r.1.e], .int .i64 r.2]) ∧ Own w' w.heap.size 141 .u32 s (Dg.dg 4294967296 r.1.n) ∧ Below w.heap.size w w'
theorem Loc.apart {w : World} {b c : Nat} {v0 v1 v2 : Value} (h : Loc w b v0 v1 v2) (hne : c ≠ b) (x0 x1 x2 : Value) :
  Loc (((w.setCell ⟨c, 0, none⟩ x0).setCell ⟨c, 1, none⟩ x1).setCell ⟨c, 2, none⟩ x2) b v0 v1 v2 := by
 obtain ⟨hl, ⟨c0, c1, c2⟩, f0, f1, f2⟩ := h
 refine ⟨by simpa using hl, ⟨?_, ?_, ?_⟩, by simpa using f0, by simpa using f1, by simpa using f2⟩
 ·rw [World.cell?_setCell_other (h := by simp), World.cell?_setCell_other (h := by simp), World.cell?_setCell_other (h := by simp)]; exact c0
 ·rw [World.cell?_setCell_other (h := by simp), World.cell?_setCell_other (h := by simp), World.cell?_setCell_other (h := by simp)]; exact c1
 ·rw [World.cell?_setCell_other (h := by simp), World.cell?_setCell_other (h := by simp), World.cell?_setCell_other (h := by simp)]; exact c2
theorem below_set3 {B b : Nat} {w w1 : World} (h : Below B w w1) (hb : B ≤ b) (x0 x1 x2 : Value) : Below B w (((w1.setCell ⟨b, 0, none⟩ x0).setCell ⟨b, 1, none⟩ x1).setCell ⟨b, 2, none⟩ x2) :=
 ((h.setCell (p := ⟨b, 0, none⟩) hb x0).setCell (p := ⟨b, 1, none⟩) hb x1).setCell (p := ⟨b, 2, none⟩) hb x2
set_option maxHeartbeats 1600000 in
theorem dshort_any (v : Value) (t : Trip) (w : World) (hv : Dv w v t) (hL : (Dg.dg 4294967296 t.n).length ≤ 500000) (he : -1000000 ≤ t.e ∧ t.e ≤ 1000000) (hT : Tab w) (htz : tz t.n ≤ 1000000) :
  Calls Tryz.prog 105 #[v] w (DAns w (shortT t)) := by
 have HB : Hid (∀ w1, Below w.heap.size w w1 → Calls Tryz.prog 161 #[v] w1 (DRes w1 (bare t))) := fun w1 b1 => dbare_any v t w1 (hv.later b1) hL he (hT.later b1) htz
 obtain ⟨s0, rfl, hr⟩ := hv
 obtain ⟨ao, ca, rfl⟩ := hr.shape
 obtain ⟨ts, n, e⟩ := t
 simp only at hr hL he htz ⊢ HB
 obtain ⟨m, hm⟩ : ∃ m, (Dg.dg 4294967296 n).length = m := ⟨_, rfl⟩
 rw [hm] at HB ⊢
 obtain ⟨⟨bs, bn, be⟩, hbt⟩ : ∃ bt, bare ⟨ts, n, e⟩ = bt := ⟨_, rfl⟩
 unfold shortT
 rw [hbt] at HB ⊢
 simp only at HB ⊢
 clear hbt hm hr hL he htz hT
 have l1 := (loc_new w (.bool ts) (.slice ao m ca) (.int .i64 e) 96).later (below_alloc _ (.cells #[.bool false, .slice none 0 0, .int .i64 0] 82))
 have l2 := loc_new (w.alloc (.cells #[.bool ts, .slice ao m ca, .int .i64 e] 96)) (.bool false) (.slice none 0 0) (.int .i64 0) 82
 have bA := below_trans (below_alloc w (.cells #[.bool ts, .slice ao m ca, .int .i64 e] 96)) (below_alloc _ (.cells #[.bool false, .slice none 0 0, .int .i64 0] 82))
 rw [World.size_alloc] at l2
 by_cases h1 : 1200 < (Dg.dg 4294967296 bn).length
 ·rw [if_pos h1]
  go_enter Tryz.func105, Tryz.ntmps105
  go_wp2_with fail
  refine (HB.out _ bA).mono ?_
  rintro x w1 ⟨s, rfl, own1, b1⟩
  have l1 := l1.later b1
  have l2 := l2.later b1
  have b01 := below_trans bA b1
  rw [World.size_alloc, World.size_alloc] at own1
  obtain ⟨so, sc, hs⟩ := own1.rd.shape
  subst hs
  obtain ⟨hl1, ⟨c0, c1, c2⟩, f0, f1, f2⟩ := id l1
  obtain ⟨hl2, ⟨d0, d1, d2⟩, k0, k1, k2⟩ := id l2
  clear bA b1 HB
  go_wp2
  obtain ⟨-, ⟨g0, g1, g2⟩, -⟩ := loc_set (l2.apart (c := w.heap.size) (by omega) (.bool bs) (.slice so (Dg.dg 4294967296 bn).length sc) (.int .i64 be)) (.bool false) (.slice none 0 0) (.int .i64 0)
  have b2 := below_set3 (below_set3 b01 (Nat.le_refl _) (.bool bs) (.slice so (Dg.dg 4294967296 bn).length sc) (.int .i64 be)) (show w.heap.size ≤ w.heap.size + 1 by omega) (.bool false) (.slice none 0 0) (.int .i64 0)
  refine bodyPost_ret (v := .tuple #[.agg #[(.bool false), (.slice none 0 0), (.int .i64 0)], .int .i64 2]) (by simp [results, Tryz.results105, go_sem, g0, g1, g2]) rfl ?_
  exact ⟨_, rfl, own_nil _ _ _ _, b2⟩
 ·rw [if_neg h1]
  by_cases h2 : be < -20000
  ·rw [if_pos (Or.inl h2)]
   go_enter Tryz.func105, Tryz.ntmps105
   go_wp2_with fail
   refine (HB.out _ bA).mono ?_
   rintro x w1 ⟨s, rfl, own1, b1⟩
   have l1 := l1.later b1
   have l2 := l2.later b1
   have b01 := below_trans bA b1
   rw [World.size_alloc, World.size_alloc] at own1
   obtain ⟨so, sc, hs⟩ := own1.rd.shape
   subst hs
   obtain ⟨hl1, ⟨c0, c1, c2⟩, f0, f1, f2⟩ := id l1
   obtain ⟨hl2, ⟨d0, d1, d2⟩, k0, k1, k2⟩ := id l2
   clear bA b1 HB
   go_wp2
   obtain ⟨-, ⟨g0, g1, g2⟩, -⟩ := loc_set (l2.apart (c := w.heap.size) (by omega) (.bool bs) (.slice so (Dg.dg 4294967296 bn).length sc) (.int .i64 be)) (.bool false) (.slice none 0 0) (.int .i64 0)
   have b2 := below_set3 (below_set3 b01 (Nat.le_refl _) (.bool bs) (.slice so (Dg.dg 4294967296 bn).length sc) (.int .i64 be)) (show w.heap.size ≤ w.heap.size + 1 by omega) (.bool false) (.slice none 0 0) (.int .i64 0)
   refine bodyPost_ret (v := .tuple #[.agg #[(.bool false), (.slice none 0 0), (.int .i64 0)], .int .i64 3]) (by simp [results, Tryz.results105, go_sem, g0, g1, g2]) rfl ?_
   exact ⟨_, rfl, own_nil _ _ _ _, b2⟩
  ·by_cases h3 : 20000 < be
   ·rw [if_pos (Or.inr h3)]
    go_enter Tryz.func105, Tryz.ntmps105
    go_wp2_with fail
    refine (HB.out _ bA).mono ?_
    rintro x w1 ⟨s, rfl, own1, b1⟩
    have l1 := l1.later b1
    have l2 := l2.later b1
    have b01 := below_trans bA b1
    rw [World.size_alloc, World.size_alloc] at own1
    obtain ⟨so, sc, hs⟩ := own1.rd.shape
    subst hs
    obtain ⟨hl1, ⟨c0, c1, c2⟩, f0, f1, f2⟩ := id l1
    obtain ⟨hl2, ⟨d0, d1, d2⟩, k0, k1, k2⟩ := id l2
    clear bA b1 HB
    go_wp2
    obtain ⟨-, ⟨g0, g1, g2⟩, -⟩ := loc_set (l2.apart (c := w.heap.size) (by omega) (.bool bs) (.slice so (Dg.dg 4294967296 bn).length sc) (.int .i64 be)) (.bool false) (.slice none 0 0) (.int .i64 0)
    have b2 := below_set3 (below_set3 b01 (Nat.le_refl _) (.bool bs) (.slice so (Dg.dg 4294967296 bn).length sc) (.int .i64 be)) (show w.heap.size ≤ w.heap.size + 1 by omega) (.bool false) (.slice none 0 0) (.int .i64 0)
    refine bodyPost_ret (v := .tuple #[.agg #[(.bool false), (.slice none 0 0), (.int .i64 0)], .int .i64 3]) (by simp [results, Tryz.results105, go_sem, g0, g1, g2]) rfl ?_
    exact ⟨_, rfl, own_nil _ _ _ _, b2⟩
   ·rw [if_neg (by omega)]
    go_enter Tryz.func105, Tryz.ntmps105
    go_wp2_with fail
    refine (HB.out _ bA).mono ?_
    rintro x w1 ⟨s, rfl, own1, b1⟩
    have l1 := l1.later b1
    have l2 := l2.later b1
    have b01 := below_trans bA b1
    rw [World.size_alloc, World.size_alloc] at own1
    obtain ⟨so, sc, hs⟩ := own1.rd.shape
    subst hs
    obtain ⟨hl1, ⟨c0, c1, c2⟩, f0, f1, f2⟩ := id l1
    obtain ⟨hl2, ⟨d0, d1, d2⟩, k0, k1, k2⟩ := id l2
    clear bA b1 HB
    go_wp2
    obtain ⟨-, ⟨g0, g1, g2⟩, -⟩ := loc_set (l2.apart (c := w.heap.size) (by omega) (.bool bs) (.slice so (Dg.dg 4294967296 bn).length sc) (.int .i64 be)) (.bool bs) (.slice so (Dg.dg 4294967296 bn).length sc) (.int .i64 be)
    have own2 := (own1.apart3 (b := w.heap.size) (by omega) (.bool bs) (.slice so (Dg.dg 4294967296 bn).length sc) (.int .i64 be)).apart3 (b := w.heap.size + 1) (by omega) (.bool bs) (.slice so (Dg.dg 4294967296 bn).length sc) (.int .i64 be)
    have b2 := below_set3 (below_set3 b01 (Nat.le_refl _) (.bool bs) (.slice so (Dg.dg 4294967296 bn).length sc) (.int .i64 be)) (show w.heap.size ≤ w.heap.size + 1 by omega) (.bool bs) (.slice so (Dg.dg 4294967296 bn).length sc) (.int .i64 be)
    refine bodyPost_ret (v := .tuple #[.agg #[(.bool bs), (.slice so (Dg.dg 4294967296 bn).length sc), (.int .i64 be)], .int .i64 0]) (by simp [results, Tryz.results105, go_sem, g0, g1, g2]) rfl ?_
    exact ⟨_, rfl, own2.lower (by omega), b2⟩
end Go.Proofs.YtnhackdjplppjaaGreatDoor

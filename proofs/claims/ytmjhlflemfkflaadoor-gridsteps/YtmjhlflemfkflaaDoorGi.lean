/-
  Texts laid together: Gh5, Gh6, Gh7.
-/
import Derived.Test.YtmjhlflemfkflaaDoorGh3
import Derived.Test.YtmjhlflemfkflaaDoorGh4
import Derived.Test.YtmjhlflemfkflaaDoorGr8
import Derived.Test.YtmjhlflemfkflaaDoorDe
/-
  Grids: the contracts of find and of the reference's InGrid.
-/
namespace Go.Proofs.YtmjhlflemfkflaaDoor
open Go.RowKit

theorem onC_zero {dc gc : Int} (h : onC dc gc = 0) : dc = 0 ∧ gc = 0 := by
  unfold onC at h
  by_cases h1 : dc = 0
  · rw [if_pos h1] at h
    exact ⟨h1, h⟩
  · rw [if_neg h1] at h
    exact absurd h h1

/-- What find answers: held, digits, power. -/
def ansH (xs : List Nat) (e R D L G : Int) (gr : Bool) : Bool := if onC (dchk xs e) (gridC R D L G) = 0 then heldB R D L G gr (Dg.vl 4294967296 xs) e else false
def ansD (xs : List Nat) (e R D L G : Int) (gr : Bool) : Nat := if onC (dchk xs e) (gridC R D L G) = 0 then fD R D L G gr (Dg.vl 4294967296 xs) e else 0
def ansK (xs : List Nat) (e R D L G : Int) (gr : Bool) : Int := if onC (dchk xs e) (gridC R D L G) = 0 then fK R D L G gr (Dg.vl 4294967296 xs) e else 0

theorem gfind_any (R D L G : Int) (gr s : Bool) (ao : Option Addr) (ca : Nat) (xs : List Nat) (e : Int) (w : World) (hr : Rd w .u32 (.slice ao xs.length ca) xs) (sa : Dg.Small 4294967296 xs) (hT : Tab w) :
    Calls Tryd.prog 60 #[.agg #[.bool s, .slice ao xs.length ca, .int .i64 e], .agg #[.int .i64 R, .int .i64 D, .int .i64 L, .int .i64 G, .bool gr]] w (FindAns w (ansH xs e R D L G gr) (ansD xs e R D L G gr) (ansK xs e R D L G gr) (onC (dchk xs e) (gridC R D L G))) := by
  have herr : ¬onC (dchk xs e) (gridC R D L G) = 0 → ansH xs e R D L G gr = false ∧ ansD xs e R D L G gr = 0 ∧ ansK xs e R D L G gr = 0 := fun h => ⟨if_neg h, if_neg h, if_neg h⟩
  refine gfindW R D L G gr s ao _ ca e (dchk xs e) (gridC R D L G) _ _ _ _ w ?_ ?_ ?_ ?_ ?_ ?_ ?_
  · intro h
    have h1 : onC (dchk xs e) (gridC R D L G) = dchk xs e := if_neg h
    obtain ⟨a, b, c⟩ := herr (by rw [h1]; exact h)
    exact ⟨a, b, c, h1⟩
  · intro h h2
    have h1 : onC (dchk xs e) (gridC R D L G) = gridC R D L G := if_pos h
    obtain ⟨a, b, c⟩ := herr (by rw [h1]; exact h2)
    exact ⟨a, b, c, h1⟩
  · intro h h2
    exact (if_pos h).trans h2
  · intro w1 b
    exact dcheck_any s ao ca xs e w1 (hr.later b)
  · intro w1
    exact gcheck_any R D L G gr w1
  · intro w1
    exact of_dy s ao _ ca e w1
  · intro h h2 w1 b
    have h1 : onC (dchk xs e) (gridC R D L G) = 0 := (if_pos h).trans h2
    rw [show ansH xs e R D L G gr = _ from if_pos h1, show ansD xs e R D L G gr = _ from if_pos h1, show ansK xs e R D L G gr = _ from if_pos h1]
    obtain ⟨c1, e1, e2⟩ := dchk_zero h
    obtain ⟨n1, l1⟩ := chk_zero c1
    have ex : Dg.dg 4294967296 (Dg.vl 4294967296 xs) = xs := Dg.dg_vl _ (by omega) _ sa n1
    have := mfind_any R D L G gr s ao ca (Dg.vl 4294967296 xs) e w1 h2 (by rw [ex]; exact hr.later b) (by rw [ex]; exact l1) e1 e2 (hT.later b)
    rwa [ex] at this

theorem gbits16 {a L : Nat} (h : (Dg.dg 65536 a).length ≤ L) : bitLen a ≤ 16 * L := by
  refine bitLen_le_of a _ ?_
  rw [Nat.pow_mul]
  have h1 := Dg.vl_lt 65536 _ (Dg.small_dg 65536 a (by omega))
  rw [Dg.vl_dg _ _ (by omega)] at h1
  exact Nat.lt_of_lt_of_le h1 (Nat.pow_le_pow_right (by omega) h)

theorem inR_seek (R D e : Int) (bl : Nat) (h : -79000 ≤ e + bl) : (e + (bl : Int) - 1 + 80000).tdiv (widthN R : Int) - (80000 : Int).tdiv (widthN R : Int) - D + 1 = powerR R D (e + (bl : Int) - 1) := by
  rw [Int.tdiv_eq_ediv_of_nonneg (by omega), Int.tdiv_eq_ediv_of_nonneg (by omega)]
  unfold powerR widthN
  split <;> simp <;> omega

set_option maxHeartbeats 1600000 in
theorem inGrid_any (R D L G : Int) (gr : Bool) (v : Value) (t : Trip) (w : World) (hg : gridC R D L G = 0) (hv : Rv w v t) (hl : (Dg.dg 65536 t.n).length ≤ 20000) (e1 : -79000 ≤ t.e) (e2 : t.e ≤ 200000) :
    Calls Tryd.prog 25 #[v, .agg #[.int .i64 R, .int .i64 D, .int .i64 L, .int .i64 G, .bool gr]] w fun z w' => z = .returned (.bool (inR R D L G gr t.n t.e)) ∧ Below w.heap.size w w' := by
  obtain ⟨s, n, e⟩ := t
  simp only at hl e1 e2
  obtain ⟨s0, rfl, hr⟩ := hv
  obtain ⟨ao, ca, rfl⟩ := hr.shape
  simp only at hr ⊢
  obtain ⟨hR, d1, d2, l1, l2, g1, g2, lg, l16⟩ := gridC_zero hg
  by_cases h0 : n = 0
  · rw [show inR R D L G gr n e = true from decide_eq_true (.inl h0)]
    subst h0
    exact inGrid_zero R D L G gr s ao ca e w
  · have hbl : bitLen n ≤ 16 * 20000 := gbits16 hl
    have hwl := widthN_le R
    have hsk := inR_seek R D e (bitLen n) (by omega)
    have hpr : -600000 ≤ powerR R D (e + (bitLen n : Int) - 1) ∧ powerR R D (e + (bitLen n : Int) - 1) ≤ 600000 ∧ -2400000 ≤ (widthN R : Int) * powerR R D (e + (bitLen n : Int) - 1) ∧ (widthN R : Int) * powerR R D (e + (bitLen n : Int) - 1) ≤ 2400000 := by
      clear hsk
      unfold powerR widthN
      split <;> simp <;> omega
    have hL : -68000 ≤ (widthN R : Int) * L ∧ (widthN R : Int) * L ≤ 68000 := by
      clear hsk hpr
      unfold widthN
      split <;> simp <;> omega
    have hGD : -70000 ≤ (widthN R : Int) * (G + D) ∧ (widthN R : Int) * (G + D) ≤ 70000 := by
      clear hsk hpr hL
      unfold widthN
      split <;> simp <;> omega
    have a1 := Int.natAbs_tdiv_le_natAbs (e + (bitLen n : Int) - 1 + 80000) (widthN R : Int)
    have a2 := Int.natAbs_tdiv_le_natAbs (80000 : Int) (widthN R : Int)
    have hin : inR R D L G gr n e = true ↔ ((widthN R : Int) * L ≤ e ∧ e + (bitLen n : Int) ≤ (widthN R : Int) * (G + D) ∧ (gr = true ∨ L ≤ powerR R D (e + (bitLen n : Int) - 1)) ∧ (widthN R : Int) * max L (powerR R D (e + (bitLen n : Int) - 1)) ≤ e) := by
      unfold inR
      rw [decide_eq_true_iff]
      constructor
      · rintro (h | h)
        · exact absurd h h0
        · exact h
      · exact .inr
    have hno : ∀ {b : Bool}, ¬b = true → b = false := fun h => by simpa using h
    refine inGridW R D L G gr s ao _ ca e (widthN R) (bitLen n) _ _ (powerR R D (e + (bitLen n : Int) - 1)) (inR R D L G gr n e) w ?_ ?_ ?_ ?_ ?_ ?_ ?_ ?_ ?_ rfl rfl ?_ ?_ ?_ ?_ ?_ ?_ ?_ ?_ ?_ ?_ ?_ ?_ ?_ ?_
    · simp
      rw [Dg.dg_nil_iff _ _ (by omega)]
      exact h0
    · simp
      omega
    · omega
    · exact IntWalk.i64_in _ ⟨by omega, by omega⟩
    · exact IntWalk.i64_in _ ⟨by omega, by omega⟩
    · exact IntWalk.i64_in _ ⟨by omega, by omega⟩
    · exact IntWalk.i64_in _ ⟨by omega, by omega⟩
    · exact IntWalk.i64_in _ ⟨by omega, by omega⟩
    · exact IntWalk.i64_in _ ⟨by omega, by omega⟩
    · exact IntWalk.i64_in _ ⟨by omega, by omega⟩
    · exact IntWalk.i64_in _ ⟨by omega, by omega⟩
    · exact IntWalk.i64_in _ ⟨by omega, by omega⟩
    · exact IntWalk.i64_in _ ⟨by omega, by omega⟩
    · rw [hsk]
      exact IntWalk.i64_in _ ⟨by omega, by omega⟩
    · exact IntWalk.i64_in _ ⟨by omega, by omega⟩
    · intro h
      refine hno fun c => ?_
      have := hin.1 c
      omega
    · intro h h2
      refine hno fun c => ?_
      have := hin.1 c
      omega
    · intro h h2 h3 h4
      refine hno fun c => ?_
      rcases (hin.1 c).2.2.1 with h5 | h5
      · rw [h4] at h5
        cases h5
      · omega
    · intro h h2 h3 h4
      refine hin.2 ⟨by omega, by omega, .inl h4, ?_⟩
      rw [Int.max_eq_left (by omega)]
      omega
    · intro h h2 h3 h4
      refine hin.2 ⟨by omega, by omega, .inr (by omega), ?_⟩
      rw [Int.max_eq_right (by omega)]
      omega
    · intro h h2 h3 h4
      refine hno fun c => ?_
      have := (hin.1 c).2.2.2
      rw [Int.max_eq_right (by omega)] at this
      omega
    · intro w1
      have := refWidth_any R D L G gr w1
      rwa [widthR_nat] at this
    · intro w1 b
      have := reflen_any _ _ w1 (hr.later b) (Dg.small_dg _ _ (by omega)) (Dg.norm_dg _ _ (by omega)) (by omega)
      rw [Dg.vl_dg _ _ (by omega)] at this
      refine this.mono ?_
      rintro z w' ⟨rfl, rfl⟩
      exact ⟨rfl, Below.refl _ _⟩
end Go.Proofs.YtmjhlflemfkflaaDoor
/-
  Grids: the walks of Holds and GridHolds.
-/
namespace Go.Proofs.YtmjhlflemfkflaaDoor
open Go.RowKit

set_option maxRecDepth 100000 in
set_option maxHeartbeats 1600000 in
theorem gHoldsW (R D L G : Int) (gr s : Bool) (ao : Option Addr) (la ca : Nat) (e c : Int) (hd : Bool) (rd : Nat) (rk : Int) (w : World)
    (HF : ∀ w1, Below w.heap.size w w1 → Calls Tryd.prog 60 #[.agg #[.bool s, .slice ao la ca, .int .i64 e], .agg #[.int .i64 R, .int .i64 D, .int .i64 L, .int .i64 G, .bool gr]] w1 (FindAns w1 hd rd rk c)) :
    Calls Tryd.prog 23 #[.agg #[.bool s, .slice ao la ca, .int .i64 e], .agg #[.int .i64 R, .int .i64 D, .int .i64 L, .int .i64 G, .bool gr]] w fun z w' => z = .returned (.tuple #[.bool hd, .int .i64 c]) ∧ Below w.heap.size w w' := by
  replace HF : Hid _ := HF
  have b1 := below_trans (below_alloc w (.cells #[.bool s, .slice ao la ca, .int .i64 e] 25)) (below_alloc _ (.cells #[.int .i64 R, .int .i64 D, .int .i64 L, .int .i64 G, .bool gr] 39))
  have q1 := (locE_new w [.bool s, .slice ao la ca, .int .i64 e] 25).later (below_alloc _ (.cells #[.int .i64 R, .int .i64 D, .int .i64 L, .int .i64 G, .bool gr] 39))
  have g1 := locE_new (w.alloc (.cells #[.bool s, .slice ao la ca, .int .i64 e] 25)) [.int .i64 R, .int .i64 D, .int .i64 L, .int .i64 G, .bool gr] 39
  simp only [World.size_alloc] at g1
  have x0 := g1.cell 0 rfl
  have x1 := g1.cell 1 rfl
  have x2 := g1.cell 2 rfl
  have x3 := g1.cell 3 rfl
  have x4 := g1.cell 4 rfl
  have y0 := q1.cell 0 rfl
  have y1 := q1.cell 1 rfl
  have y2 := q1.cell 2 rfl
  go_enter Tryd.func23, Tryd.ntmps23
  go_wp2_with fail
  refine (HF.out _ b1).mono ?_
  rintro z w2 ⟨u, rfl, ou, bb2⟩
  obtain ⟨so, sc, hu⟩ := ou.rd.shape
  subst hu
  clear ou x0 x1 x2 x3 x4 y0 y1 y2
  have b2 := below_trans b1 bb2
  have b3 := below_trans b2 (below_alloc w2 (.cells #[.slice so (Dg.dg 4294967296 rd).length sc, .int .i64 rk] 98))
  go_wp2
  go_ret2
  exact ⟨rfl, b3⟩

set_option maxRecDepth 100000 in
set_option maxHeartbeats 3200000 in
theorem gridHoldsW (R D L G : Int) (gr s : Bool) (ao : Option Addr) (la ca : Nat) (e c : Int) (hd : Bool) (T : Trip) (w : World)
    (HA : ¬c = 0 → hd = false)
    (HH : ∀ w1, Below w.heap.size w w1 → Calls Tryd.prog 23 #[.agg #[.bool s, .slice ao la ca, .int .i64 e], .agg #[.int .i64 R, .int .i64 D, .int .i64 L, .int .i64 G, .bool gr]] w1 fun z w' => z = .returned (.tuple #[.bool hd, .int .i64 c]) ∧ Below w1.heap.size w1 w')
    (HO : ∀ w1, Below w.heap.size w w1 → Calls Tryd.prog 24 #[.agg #[.bool s, .slice ao la ca, .int .i64 e], .agg #[.int .i64 R, .int .i64 D, .int .i64 L, .int .i64 G, .bool gr]] w1 fun z w' => z = .returned (.int .i64 c) ∧ Below w1.heap.size w1 w')
    (HB : ∀ w1, Calls Tryd.prog 21 #[] w1 fun z w' => z = .returned (.bool true) ∧ Below w1.heap.size w1 w')
    (HD : c = 0 → ∀ w1, Below w.heap.size w w1 → Calls Tryd.prog 26 #[.agg #[.bool s, .slice ao la ca, .int .i64 e]] w1 (RDRes w1 T))
    (HI : c = 0 → ∀ v w1, Rv w1 v T → Calls Tryd.prog 25 #[v, .agg #[.int .i64 R, .int .i64 D, .int .i64 L, .int .i64 G, .bool gr]] w1 fun z w' => z = .returned (.bool hd) ∧ Below w1.heap.size w1 w') :
    Calls Tryd.prog 5 #[.agg #[.bool s, .slice ao la ca, .int .i64 e], .agg #[.int .i64 R, .int .i64 D, .int .i64 L, .int .i64 G, .bool gr]] w fun z w' => z = .returned (.bool true) ∧ Below w.heap.size w w' := by
  replace HA : Hid _ := HA
  replace HH : Hid _ := HH
  replace HO : Hid _ := HO
  replace HB : Hid _ := HB
  replace HD : Hid _ := HD
  replace HI : Hid _ := HI
  have b1 := below_trans (below_alloc w (.cells #[.bool s, .slice ao la ca, .int .i64 e] 25)) (below_alloc _ (.cells #[.int .i64 R, .int .i64 D, .int .i64 L, .int .i64 G, .bool gr] 39))
  have q1 := (locE_new w [.bool s, .slice ao la ca, .int .i64 e] 25).later (below_alloc _ (.cells #[.int .i64 R, .int .i64 D, .int .i64 L, .int .i64 G, .bool gr] 39))
  have g1 := locE_new (w.alloc (.cells #[.bool s, .slice ao la ca, .int .i64 e] 25)) [.int .i64 R, .int .i64 D, .int .i64 L, .int .i64 G, .bool gr] 39
  simp only [World.size_alloc] at g1
  obtain ⟨ts, tn, te⟩ := T
  by_cases hc : c = 0
  · have HD1 : Hid _ := HD.out hc
    have HI1 : Hid _ := HI.out hc
    clear HA HD HI
    subst hc
    have x0 := g1.cell 0 rfl
    have x1 := g1.cell 1 rfl
    have x2 := g1.cell 2 rfl
    have x3 := g1.cell 3 rfl
    have x4 := g1.cell 4 rfl
    have y0 := q1.cell 0 rfl
    have y1 := q1.cell 1 rfl
    have y2 := q1.cell 2 rfl
    go_enter Tryd.func5, Tryd.ntmps5
    go_wp2_with fail
    refine (HH.out _ b1).mono ?_
    rintro z w2 ⟨rfl, bb2⟩
    clear x0 x1 x2 x3 x4 y0 y1 y2
    have g_2 := g1.later bb2
    have q_2 := q1.later bb2
    have b0_2 := below_trans b1 bb2
    clear g1 q1 b1 bb2
    have x0 := g_2.cell 0 rfl
    have x1 := g_2.cell 1 rfl
    have x2 := g_2.cell 2 rfl
    have x3 := g_2.cell 3 rfl
    have x4 := g_2.cell 4 rfl
    have y0 := q_2.cell 0 rfl
    have y1 := q_2.cell 1 rfl
    have y2 := q_2.cell 2 rfl
    go_wp2_with fail
    refine (HO.out _ b0_2).mono ?_
    rintro z w3 ⟨rfl, bb3⟩
    have g_3 := g_2.later bb3
    have q_3 := q_2.later bb3
    have b0_3 := below_trans b0_2 bb3
    clear g_2 q_2 b0_2 bb3
    clear x0 x1 x2 x3 x4 y0 y1 y2
    have bd_3 : Below w3.heap.size w3 w3.drew := (Below.refl _ _).drew
    have g_4 := g_3.later bd_3
    have q_4 := q_3.later bd_3
    have b0_4 := below_trans b0_3 bd_3
    clear g_3 q_3 b0_3 bd_3
    have x0 := g_4.cell 0 rfl
    have x1 := g_4.cell 1 rfl
    have x2 := g_4.cell 2 rfl
    have x3 := g_4.cell 3 rfl
    have x4 := g_4.cell 4 rfl
    have y0 := q_4.cell 0 rfl
    have y1 := q_4.cell 1 rfl
    have y2 := q_4.cell 2 rfl
    go_wp2_with fail
    go_region_held3 (fun wq => (wq.cell? ⟨w.heap.size + 1, 0, none⟩ = some (.int .i64 R) ∧ wq.cell? ⟨w.heap.size + 1, 1, none⟩ = some (.int .i64 D) ∧ wq.cell? ⟨w.heap.size + 1, 2, none⟩ = some (.int .i64 L) ∧ wq.cell? ⟨w.heap.size + 1, 3, none⟩ = some (.int .i64 G) ∧ wq.cell? ⟨w.heap.size + 1, 4, none⟩ = some (.bool gr)) ∧ wq.cell? ⟨w.heap.size, 0, none⟩ = some (.bool s) ∧ wq.cell? ⟨w.heap.size, 1, none⟩ = some (.slice ao la ca) ∧ wq.cell? ⟨w.heap.size, 2, none⟩ = some (.int .i64 e)) (go_keep) (first
      | (go_at_call 21; have hgd := b0_4; clear hgd; refine (HB.out _).mono ?_; rintro z wa ⟨rfl, bb_wa⟩; have b0_wa := below_trans b0_4 bb_wa; have g_wa := g_4.later bb_wa; have q_wa := q_4.later bb_wa; have xwa0 := g_wa.cell 0 rfl; have xwa1 := g_wa.cell 1 rfl; have xwa2 := g_wa.cell 2 rfl; have xwa3 := g_wa.cell 3 rfl; have xwa4 := g_wa.cell 4 rfl; have ywa0 := q_wa.cell 0 rfl; have ywa1 := q_wa.cell 1 rfl; have ywa2 := q_wa.cell 2 rfl; clear b0_4)
      | (go_at_call 26; have hgd := b0_wa; clear hgd; refine (HD1.out _ b0_wa).mono ?_; rintro z wb ⟨u, rfl, ru, bb_wb⟩; have b0_wb := below_trans b0_wa bb_wb; have g_wb := g_wa.later bb_wb; have q_wb := q_wa.later bb_wb; have xwb0 := g_wb.cell 0 rfl; have xwb1 := g_wb.cell 1 rfl; have xwb2 := g_wb.cell 2 rfl; have xwb3 := g_wb.cell 3 rfl; have xwb4 := g_wb.cell 4 rfl; have ywb0 := q_wb.cell 0 rfl; have ywb1 := q_wb.cell 1 rfl; have ywb2 := q_wb.cell 2 rfl; clear b0_wa)
      | (go_at_call 25; have hgd := b0_wb; clear hgd; refine (HI1.out _ _ ⟨_, rfl, ru⟩).mono ?_; rintro z wx ⟨rfl, bb_wx⟩; have b0_wx := below_trans b0_wb bb_wx; have g_wx := g_wb.later bb_wx; have q_wx := q_wb.later bb_wx; have xwx0 := g_wx.cell 0 rfl; have xwx1 := g_wx.cell 1 rfl; have xwx2 := g_wx.cell 2 rfl; have xwx3 := g_wx.cell 3 rfl; have xwx4 := g_wx.cell 4 rfl; have ywx0 := q_wx.cell 0 rfl; have ywx1 := q_wx.cell 1 rfl; have ywx2 := q_wx.cell 2 rfl; clear b0_wb))
    go_goals
    go_wp2
    go_ret
    exact ⟨by simp, b0_wx⟩
  · have hh := HA.out hc
    clear HA HD HI
    subst hh
    have hcf : (c == 0) = false := by simp [hc]
    have x0 := g1.cell 0 rfl
    have x1 := g1.cell 1 rfl
    have x2 := g1.cell 2 rfl
    have x3 := g1.cell 3 rfl
    have x4 := g1.cell 4 rfl
    have y0 := q1.cell 0 rfl
    have y1 := q1.cell 1 rfl
    have y2 := q1.cell 2 rfl
    go_enter Tryd.func5, Tryd.ntmps5
    go_wp2_with fail
    refine (HH.out _ b1).mono ?_
    rintro z w2 ⟨rfl, bb2⟩
    clear x0 x1 x2 x3 x4 y0 y1 y2
    have g_2 := g1.later bb2
    have q_2 := q1.later bb2
    have b0_2 := below_trans b1 bb2
    clear g1 q1 b1 bb2
    have x0 := g_2.cell 0 rfl
    have x1 := g_2.cell 1 rfl
    have x2 := g_2.cell 2 rfl
    have x3 := g_2.cell 3 rfl
    have x4 := g_2.cell 4 rfl
    have y0 := q_2.cell 0 rfl
    have y1 := q_2.cell 1 rfl
    have y2 := q_2.cell 2 rfl
    go_wp2_with fail
    refine (HO.out _ b0_2).mono ?_
    rintro z w3 ⟨rfl, bb3⟩
    have g_3 := g_2.later bb3
    have q_3 := q_2.later bb3
    have b0_3 := below_trans b0_2 bb3
    clear g_2 q_2 b0_2 bb3
    clear x0 x1 x2 x3 x4 y0 y1 y2
    have bd_3 : Below w3.heap.size w3 w3.drew := (Below.refl _ _).drew
    have g_4 := g_3.later bd_3
    have q_4 := q_3.later bd_3
    have b0_4 := below_trans b0_3 bd_3
    clear g_3 q_3 b0_3 bd_3
    have x0 := g_4.cell 0 rfl
    have x1 := g_4.cell 1 rfl
    have x2 := g_4.cell 2 rfl
    have x3 := g_4.cell 3 rfl
    have x4 := g_4.cell 4 rfl
    have y0 := q_4.cell 0 rfl
    have y1 := q_4.cell 1 rfl
    have y2 := q_4.cell 2 rfl
    go_wp2_with fail
    refine wp_region_any (by kernel_rfl) ?_
    refine wpAny_ready (rs := [0]) (by kernel_rfl) (by simp) ?_
    refine AllReady.cons rfl (fun K hK => ?_) ?_
    · go_simp
      refine (HB.out _).mono ?_
      rintro z wa ⟨rfl, bba⟩
      have b0_wa := below_trans b0_4 bba
      refine hK _ _ ?_
      clear hK K
      refine wpAny_take (i := 1) (v := .bool true) rfl (by kernel_rfl) (by kernel_rfl) (by kernel_rfl) (fun _ _ _ h => h) (Or.inl ⟨by kernel_rfl, fun w0 => by go_simp⟩) ?_
      refine wpAny_take (i := 2) (v := .int .i64 c) rfl (by kernel_rfl) (by kernel_rfl) (by kernel_rfl) (fun _ _ _ h => h) (Or.inl ⟨by kernel_rfl, fun w0 => by go_simp⟩) ?_
      refine wpAny_take (i := 3) (v := .int .i64 c) rfl (by kernel_rfl) (by kernel_rfl) (by kernel_rfl) (fun _ _ _ h => h) (Or.inl ⟨by kernel_rfl, fun w0 => by go_simp⟩) ?_
      refine wpAny_take (i := 4) (v := .bool true) rfl (by kernel_rfl) (by kernel_rfl) (by kernel_rfl) (fun _ _ _ h => h) (Or.inl ⟨by kernel_rfl, fun w0 => by go_simp⟩) ?_
      refine wpAny_take (i := 5) (v := .bool true) rfl (by kernel_rfl) (by kernel_rfl) (by kernel_rfl) (fun _ _ _ h => h) (Or.inl ⟨by kernel_rfl, fun w0 => by go_simp⟩) ?_
      refine wpAny_take (i := 6) (v := .bool true) rfl (by kernel_rfl) (by kernel_rfl) (by kernel_rfl) (fun _ _ _ h => h) (Or.inl ⟨by kernel_rfl, fun w0 => by go_simp⟩) ?_
      refine wpAny_take (i := 7) (v := .bool false) rfl (by kernel_rfl) (by kernel_rfl) (by kernel_rfl) (fun _ _ _ h => h) (Or.inl ⟨by kernel_rfl, fun w0 => by go_simp⟩) ?_
      refine wpAny_take (i := 8) (v := .int .i64 c) rfl (by kernel_rfl) (by kernel_rfl) (by kernel_rfl) (fun _ _ _ h => h) (Or.inl ⟨by kernel_rfl, fun w0 => by go_simp⟩) ?_
      refine wpAny_take (i := 9) (v := .bool false) rfl (by kernel_rfl) (by kernel_rfl) (by kernel_rfl) (fun _ _ _ h => h) (Or.inl ⟨by kernel_rfl, fun w0 => by go_simp⟩) ?_
      refine wpAny_take (i := 10) (v := .bool false) rfl (by kernel_rfl) (by kernel_rfl) (by kernel_rfl) (fun _ _ _ h => h) (Or.inl ⟨by kernel_rfl, fun w0 => by go_simp⟩) ?_
      refine wpAny_take (i := 11) (v := undef) rfl (by kernel_rfl) (by kernel_rfl) (by kernel_rfl) (fun _ _ _ h => h) (Or.inr ⟨by kernel_rfl, rfl⟩) ?_
      refine wpAny_take (i := 12) (v := undef) rfl (by kernel_rfl) (by kernel_rfl) (by kernel_rfl) (fun _ _ _ h => h) (Or.inr ⟨by kernel_rfl, rfl⟩) ?_
      refine wpAny_take (i := 13) (v := undef) rfl (by kernel_rfl) (by kernel_rfl) (by kernel_rfl) (fun _ _ _ h => h) (Or.inr ⟨by kernel_rfl, rfl⟩) ?_
      refine wpAny_take (i := 14) (v := undef) rfl (by kernel_rfl) (by kernel_rfl) (by kernel_rfl) (fun _ _ _ h => h) (Or.inr ⟨by kernel_rfl, rfl⟩) ?_
      refine wpAny_take (i := 15) (v := .bool false) rfl (by kernel_rfl) (by kernel_rfl) (by kernel_rfl) (fun _ _ _ h => h) (Or.inl ⟨by kernel_rfl, fun w0 => by go_simp⟩) ?_
      refine wpAny_take (i := 16) (v := .bool true) rfl (by kernel_rfl) (by kernel_rfl) (by kernel_rfl) (fun _ _ _ h => h) (Or.inl ⟨by kernel_rfl, fun w0 => by go_simp⟩) ?_
      refine wpAny_take (i := 17) (v := .bool true) rfl (by kernel_rfl) (by kernel_rfl) (by kernel_rfl) (fun _ _ _ h => h) (Or.inl ⟨by kernel_rfl, fun w0 => by go_simp⟩) ?_
      refine wpAny_take (i := 18) (v := .bool true) rfl (by kernel_rfl) (by kernel_rfl) (by kernel_rfl) (fun _ _ _ h => h) (Or.inl ⟨by kernel_rfl, fun w0 => by go_simp⟩) ?_
      simp only [Act.put, List.getElem_toArray, List.getElem_cons_succ, List.getElem_cons_zero, List.setIfInBounds_toArray, List.set_cons_zero, List.set_cons_succ]
      refine wpAny_done (by kernel_rfl) ?_ _
      go_wp2
      go_ret
      exact ⟨by first | rfl | simp, b0_wa⟩
    · exact AllReady.nil
end Go.Proofs.YtmjhlflemfkflaaDoor
/-
  Grids: the walk of GridHolds, paid.
-/
namespace Go.Proofs.YtmjhlflemfkflaaDoor
open Go.RowKit

theorem gHolds_any (R D L G : Int) (gr s : Bool) (ao : Option Addr) (ca : Nat) (xs : List Nat) (e : Int) (w : World) (hr : Rd w .u32 (.slice ao xs.length ca) xs) (sa : Dg.Small 4294967296 xs) (hT : Tab w) :
    Calls Tryd.prog 23 #[.agg #[.bool s, .slice ao xs.length ca, .int .i64 e], .agg #[.int .i64 R, .int .i64 D, .int .i64 L, .int .i64 G, .bool gr]] w fun z w' => z = .returned (.tuple #[.bool (ansH xs e R D L G gr), .int .i64 (onC (dchk xs e) (gridC R D L G))]) ∧ Below w.heap.size w w' :=
  gHoldsW R D L G gr s ao _ ca e _ _ _ _ w (fun w1 b => gfind_any R D L G gr s ao ca xs e w1 (hr.later b) sa (hT.later b))

theorem dy_len {xs : List Nat} {e : Int} (sa : Dg.Small 4294967296 xs) (h : dchk xs e = 0) : (Dg.dg 4294967296 (Dg.vl 4294967296 xs)).length ≤ 1200 ∧ xs.length ≤ 1200 ∧ -20000 ≤ e ∧ e ≤ 20000 := by
  obtain ⟨c1, e1, e2⟩ := dchk_zero h
  obtain ⟨n1, l1⟩ := chk_zero c1
  exact ⟨by rw [← Dg.eq_dg 4294967296 (by omega) xs _ sa n1 rfl]; exact l1, l1, e1, e2⟩

theorem gridHolds_walk (s : Bool) (ao : Option Addr) (ca : Nat) (xs : List Nat) (e : Int) (R D L G : Int) (gr : Bool) (w : World) (hr : Rd w .u32 (.slice ao xs.length ca) xs) (sa : Dg.Small 4294967296 xs) (hT : Tab w) :
    Calls Tryd.prog 5 #[.agg #[.bool s, .slice ao xs.length ca, .int .i64 e], .agg #[.int .i64 R, .int .i64 D, .int .i64 L, .int .i64 G, .bool gr]] w fun z w' => z = .returned (.bool true) ∧ Below w.heap.size w w' := by
  refine gridHoldsW R D L G gr s ao _ ca e (onC (dchk xs e) (gridC R D L G)) (ansH xs e R D L G gr) (bare ⟨s, Dg.vl 4294967296 xs, e⟩) w ?_ ?_ ?_ gbegun_any ?_ ?_
  · intro h
    exact if_neg h
  · intro w1 b
    exact gHolds_any R D L G gr s ao ca xs e w1 (hr.later b) sa (hT.later b)
  · intro w1 b
    exact onGrid_any R D L G gr s ao ca xs e w1 (hr.later b)
  · intro h w1 b
    obtain ⟨x1, x2, e1, e2⟩ := dy_len sa (onC_zero h).1
    exact ofDyad_any s ao ca xs e w1 (hr.later b) sa (by omega) (by omega) (by omega)
  · intro h v w1 hv
    obtain ⟨h1, h2⟩ := onC_zero h
    obtain ⟨x1, x2, e1, e2⟩ := dy_len sa h1
    obtain ⟨p1, p2, p3⟩ := bare_fits (t := ⟨s, Dg.vl 4294967296 xs, e⟩) x1 e1 e2
    have := inGrid_any R D L G gr v (bare ⟨s, Dg.vl 4294967296 xs, e⟩) w1 h2 hv (by omega) (by omega) (by omega)
    rw [held_in gr _ (gridC_zero h2).2.2.2.2.2.2.2.1] at this
    rw [show ansH xs e R D L G gr = heldB R D L G gr (Dg.vl 4294967296 xs) e from if_pos h]
    exact this
end Go.Proofs.YtmjhlflemfkflaaDoor

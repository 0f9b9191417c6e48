/-
  The reference's value of a number of a pattern.
-/
import Derived.Test.YtgbccbmflokooaaGreatDoorCr3
import Derived.Test.YtgbccbmflokooaaGreatDoorDc
namespace Go.Proofs.YtgbccbmflokooaaGreatDoor
open Go.RowKit

/-- How many bits a digit has. -/
def wdI (R : Int) : Int := if R = 16 then 4 else 1

set_option maxRecDepth 100000 in
theorem cwidth_any (R D L G : Int) (gr : Bool) (w : World) :
    Calls Tryz.prog 31 #[.agg #[.int .i64 R, .int .i64 D, .int .i64 L, .int .i64 G, .bool gr]] w fun z w' => z = .returned (.int .i64 (wdI R)) ∧ Below w.heap.size w w' := by
  have bA := below_alloc w (.cells #[.int .i64 R, .int .i64 D, .int .i64 L, .int .i64 G, .bool gr] 51)
  unfold wdI
  by_cases h : R = 16
  · rw [if_pos h]
    subst h
    go_enter Tryz.func31, Tryz.ntmps31
    go_wp2
    go_ret
    exact ⟨rfl, bA⟩
  · rw [if_neg h]
    have e : (R == 16) = false := by simp; exact h
    go_enter Tryz.func31, Tryz.ntmps31
    go_wp2
    go_ret
    exact ⟨rfl, bA⟩

/-- A value of the reference's. -/
def RVal (w : World) (c : Int) (ng : Bool) (t : Trip) (z : Ending) (w' : World) : Prop :=
  ∃ s, z = .returned (.agg #[.int .i64 c, .bool ng, .bool t.s, s, .int .i64 t.e]) ∧ Rd w' .i64 s (Dg.dg 65536 t.n) ∧ Below w.heap.size w w'

/-- What stays while a number is made. -/
structure NumF (w : World) (bn bf : Nat) (ng : Bool) (fv : List Value) (v : Value) (m : Nat) (w' : World) : Prop where
  q : LocE w' w.heap.size 34 [.int .i64 0, .bool false, .bool false, .slice none 0 0, .int .i64 0]
  f : LocE w' bf 53 fv
  n : w'.cell? ⟨bn, 0, none⟩ = some (.bool ng)
  b : Below w.heap.size w w'
  r : Rd w' .i64 v (Dg.dg 65536 m)

theorem NumF.later {w w1 w2 : World} {bn bf : Nat} {ng : Bool} {fv : List Value} {v : Value} {m : Nat} (h : NumF w bn bf ng fv v m w1) (b : Below w1.heap.size w1 w2) : NumF w bn bf ng fv v m w2 :=
  ⟨h.q.later b, h.f.later b, cell_later b h.n, below_trans h.b b, h.r.later b⟩

theorem bareN_zero (a : Trip) : (bare a).n = 0 ↔ a.n = 0 := by
  by_cases h : a.n = 0
  · unfold bare
    rw [if_pos h]
    exact ⟨fun _ => h, fun _ => rfl⟩
  · unfold bare
    rw [if_neg h]
    obtain ⟨m, hm⟩ := tz_spec h
    have := div_tz hm
    exact ⟨fun h2 => by simp only at h2; omega, fun h2 => absurd h2 h⟩

theorem bareN_flat {a t : Trip} (e : bare a = t) (h : t.n = 0) : t.s = false ∧ t.e = 0 := by
  subst e
  have h0 := (bareN_zero a).1 h
  unfold bare
  rw [if_pos h0]
  exact ⟨rfl, rfl⟩

set_option maxRecDepth 100000 in
set_option maxHeartbeats 6400000 in
theorem refNumber_W (sz ex fr : Nat) (R D L G fam wd : Int) (gr ng : Bool) (bn bf : Nat) (m : Nat) (p : Int) (v : Value) (w : World)
    (hr : Rd w .i64 v (Dg.dg 65536 m)) (hm : m < 340282366920938463463374607431768211456) (hn : w.cell? ⟨bn, 0, none⟩ = some (.bool ng)) (hf : LocE w bf 53 [.int .i64 (sz : Int), .int .i64 (ex : Int), .int .i64 (fr : Int), .int .i64 R, .int .i64 D, .int .i64 L, .int .i64 G, .bool gr, .int .i64 fam]) (hw1 : 1 ≤ wd) (hw4 : wd ≤ 4) (hp1 : -100000 ≤ p) (hp2 : p ≤ 100000)
    (HWI : ∀ w1, Calls Tryz.prog 31 #[.agg #[.int .i64 R, .int .i64 D, .int .i64 L, .int .i64 G, .bool gr]] w1 fun z w' => z = .returned (.int .i64 wd) ∧ Below w1.heap.size w1 w') :
    Calls Tryz.prog 29 #[v, .int .i64 p, .pointer (some ⟨bn, 0, none⟩), .pointer (some ⟨bf, 0, none⟩)] w (RVal w (if m = 0 then 1 else 2) ng (bare ⟨ng, m, wd * p⟩)) := by
  have HW : Hid (∀ w1, Calls Tryz.prog 31 #[.agg #[.int .i64 R, .int .i64 D, .int .i64 L, .int .i64 G, .bool gr]] w1 fun z w' => z = .returned (.int .i64 wd) ∧ Below w1.heap.size w1 w') := HWI
  clear HWI
  obtain ⟨ao, ca, rfl⟩ := hr.shape
  have hln : (Dg.dg 65536 m).length ≤ 8 := Dg.dg_len_le 65536 m 8 (by omega) hm
  have b0 := below_alloc w (.cells #[.int .i64 0, .bool false, .bool false, .slice none 0 0, .int .i64 0] 34)
  have F0 : NumF w bn bf ng [.int .i64 (sz : Int), .int .i64 (ex : Int), .int .i64 (fr : Int), .int .i64 R, .int .i64 D, .int .i64 L, .int .i64 G, .bool gr, .int .i64 fam] (.slice ao (Dg.dg 65536 m).length ca) m (w.alloc (.cells #[.int .i64 0, .bool false, .bool false, .slice none 0 0, .int .i64 0] 34)).drew := (⟨locE_new w _ _, hf.later b0, cell_later b0 hn, b0, hr.later b0⟩ : NumF w bn bf ng [.int .i64 (sz : Int), .int .i64 (ex : Int), .int .i64 (fr : Int), .int .i64 R, .int .i64 D, .int .i64 L, .int .i64 G, .bool gr, .int .i64 fam] (.slice ao (Dg.dg 65536 m).length ca) m (w.alloc (.cells #[.int .i64 0, .bool false, .bool false, .slice none 0 0, .int .i64 0] 34))).later (Below.refl _ _).drew
  have F00 : NumF w bn bf ng [.int .i64 (sz : Int), .int .i64 (ex : Int), .int .i64 (fr : Int), .int .i64 R, .int .i64 D, .int .i64 L, .int .i64 G, .bool gr, .int .i64 fam] (.slice ao (Dg.dg 65536 m).length ca) m (w.alloc (.cells #[.int .i64 0, .bool false, .bool false, .slice none 0 0, .int .i64 0] 34)) := ⟨locE_new w _ _, hf.later b0, cell_later b0 hn, b0, hr.later b0⟩
  have F0a := (F00.later (below_alloc _ (.cells #[.bool false, .slice none 0 0, .int .i64 0] 32))).later (Below.refl _ _).drew
  have d0a := (locE_new (w.alloc (.cells #[.int .i64 0, .bool false, .bool false, .slice none 0 0, .int .i64 0] 34)) [.bool false, .slice none 0 0, .int .i64 0] 32).drew
  rw [World.size_alloc] at d0a
  have na := F0a.n
  have xa0 := F0a.f.cell 0 rfl; have xa1 := F0a.f.cell 1 rfl; have xa2 := F0a.f.cell 2 rfl; have xa3 := F0a.f.cell 3 rfl; have xa4 := F0a.f.cell 4 rfl; have xa5 := F0a.f.cell 5 rfl; have xa6 := F0a.f.cell 6 rfl; have xa7 := F0a.f.cell 7 rfl; have xa8 := F0a.f.cell 8 rfl
  have hp3 : -400000 ≤ wd * p := by
    rcases (by omega : wd = 1 ∨ wd = 2 ∨ wd = 3 ∨ wd = 4) with h | h | h | h <;> subst h <;> omega
  have hp4 : wd * p ≤ 400000 := by
    rcases (by omega : wd = 1 ∨ wd = 2 ∨ wd = 3 ∨ wd = 4) with h | h | h | h <;> subst h <;> omega
  obtain ⟨E, hE⟩ : ∃ E, wd * p = E := ⟨_, rfl⟩
  rw [hE] at hp3 hp4 ⊢
  have hwr : IntKind.i64.wrap (wd * p) = E := by rw [hE]; exact IntWalk.i64_in _ ⟨by omega, by omega⟩
  have HB : Hid (∀ w1, Below w.heap.size w w1 → Calls Tryz.prog 30 #[.agg #[.bool ng, .slice ao (Dg.dg 65536 m).length ca, .int .i64 E]] w1 (RDRes w1 (bare ⟨ng, m, E⟩))) := fun w1 b1 => bared_any _ ⟨ng, m, E⟩ w1 ⟨_, rfl, hr.later b1⟩ (by show (Dg.dg 65536 m).length ≤ 100000; omega) (by show -1000000 ≤ E; omega) (by show E ≤ 1000000; omega)
  have hbz : (bare ⟨ng, m, E⟩).n = 0 ↔ m = 0 := bareN_zero ⟨ng, m, E⟩
  obtain ⟨⟨ts, tn', te⟩, hT⟩ : ∃ t, bare ⟨ng, m, E⟩ = t := ⟨_, rfl⟩
  have hfl : tn' = 0 → ts = false ∧ te = 0 := fun h => bareN_flat hT h
  rw [hT] at HB hbz ⊢
  simp only at hbz
  obtain ⟨cl, hcl⟩ : ∃ x : Int, (if m = 0 then 1 else 2) = x := ⟨_, rfl⟩
  rw [hcl]
  have HCL : Hid (_ ∧ _ ∧ _) := ⟨hcl, hbz, hfl⟩
  clear hE hT hcl hbz hfl
  have n0 := F0.n
  have hbn : bn < w.heap.size := World.block_lt_of_cell? w ⟨bn, 0, none⟩ hn
  have hbf : bf < w.heap.size := hf.lt
  have hn3 : w.heap.size + 1 ≠ bn := by omega
  have hn4 : w.heap.size + 1 ≠ bf := by omega
  have x0 := F0.f.cell 0 rfl; have x1 := F0.f.cell 1 rfl; have x2 := F0.f.cell 2 rfl; have x3 := F0.f.cell 3 rfl; have x4 := F0.f.cell 4 rfl; have x5 := F0.f.cell 5 rfl; have x6 := F0.f.cell 6 rfl; have x7 := F0.f.cell 7 rfl; have x8 := F0.f.cell 8 rfl
  go_enter Tryz.func29, Tryz.ntmps29
  go_wp2_with fail
  go_region_held3 (fun wq => wq.cell? ⟨bn, 0, none⟩ = some (.bool ng) ∧ wq.cell? ⟨bf, 0, none⟩ = some (.int .i64 (sz : Int)) ∧ wq.cell? ⟨bf, 1, none⟩ = some (.int .i64 (ex : Int)) ∧ wq.cell? ⟨bf, 2, none⟩ = some (.int .i64 (fr : Int)) ∧ wq.cell? ⟨bf, 3, none⟩ = some (.int .i64 R) ∧ wq.cell? ⟨bf, 4, none⟩ = some (.int .i64 D) ∧ wq.cell? ⟨bf, 5, none⟩ = some (.int .i64 L) ∧ wq.cell? ⟨bf, 6, none⟩ = some (.int .i64 G) ∧ wq.cell? ⟨bf, 7, none⟩ = some (.bool gr) ∧ wq.cell? ⟨bf, 8, none⟩ = some (.int .i64 fam)) (go_keep) (first
    | (go_at_call 31; refine (HW.out _).mono ?_; rintro z w1 ⟨rfl, b1⟩; (first | (have F1 := F0.later b1; have d1b := locE_new w1 [.bool false, .slice none 0 0, .int .i64 0] 32; have F1b := F1.later (below_alloc _ (.cells #[.bool false, .slice none 0 0, .int .i64 0] 32))) | (have F1 := F0a.later b1; have d1 := d0a.later b1)); have n1 := F1.n; have y0 := F1.f.cell 0 rfl; have y1 := F1.f.cell 1 rfl; have y2 := F1.f.cell 2 rfl; have y3 := F1.f.cell 3 rfl; have y4 := F1.f.cell 4 rfl; have y5 := F1.f.cell 5 rfl; have y6 := F1.f.cell 6 rfl; have y7 := F1.f.cell 7 rfl; have y8 := F1.f.cell 8 rfl; have hn1 := World.new_ne w1 ⟨bn, 0, none⟩ n1; have hn2 := World.new_ne w1 ⟨bf, 0, none⟩ y0)
    | (go_at_call 30; (first | (with_reducible (refine (HB.out _ F1.b).mono ?_)) | (with_reducible (refine (HB.out _ F1b.b).mono ?_))); rintro z w2 ⟨s2, rfl, r2, b2⟩; obtain ⟨so, sc, hs2⟩ := r2.shape; subst hs2; (first | (have F2 := F1.later b2) | (have F2 := F1b.later b2)); (first | (have d2 := d1.later b2; have e0 := d2.cell 0 rfl; have e1 := d2.cell 1 rfl; have e2 := d2.cell 2 rfl; have g0 := d2.free 0; have g1 := d2.free 1; have g2 := d2.free 2) | (have d2 := d1b.later b2; have e0 := d2.cell 0 rfl; have e1 := d2.cell 1 rfl; have e2 := d2.cell 2 rfl; have g0 := d2.free 0; have g1 := d2.free 1; have g2 := d2.free 2) | skip); have n2 := F2.n; have z0 := F2.f.cell 0 rfl; have z1 := F2.f.cell 1 rfl; have z2 := F2.f.cell 2 rfl; have z3 := F2.f.cell 3 rfl; have z4 := F2.f.cell 4 rfl; have z5 := F2.f.cell 5 rfl; have z6 := F2.f.cell 6 rfl; have z7 := F2.f.cell 7 rfl; have z8 := F2.f.cell 8 rfl))
  · have b3' := below_alloc w2 (.cells #[.bool ts, .slice so (Dg.dg 65536 tn').length sc, .int .i64 te] 32)
    have d3 := locE_new w2 [.bool ts, .slice so (Dg.dg 65536 tn').length sc, .int .i64 te] 32
    have q3 := F2.q.later b3'
    have n3 := cell_later b3' F2.n
    have b3 := below_trans F2.b b3'
    have r3 := r2.later b3'
    have hnq : w2.heap.size ≠ w.heap.size := Nat.ne_of_gt F2.q.lt
    clear b3'
    generalize (w2.alloc (.cells #[.bool ts, .slice so (Dg.dg 65536 tn').length sc, .int .i64 te] 32)) = w3 at *
    clear F0 F00 F0a d0a F1 F2 r2 x0 xa0 y0 z0 x1 xa1 y1 z1 x2 xa2 y2 z2 x3 xa3 y3 z3 x4 xa4 y4 z4 x5 xa5 y5 z5 x6 xa6 y6 z6 x7 xa7 y7 z7 x8 xa8 y8 z8 n0 na n1 n2 d1b F1b
    generalize w2.heap.size = dq at *
    have cd0 := d3.cell 0 rfl; have cd1 := d3.cell 1 rfl; have cd2 := d3.cell 2 rfl; have cq0 := q3.cell 0 rfl; have cq1 := q3.cell 1 rfl; have cq2 := q3.cell 2 rfl; have cq3 := q3.cell 3 rfl; have cq4 := q3.cell 4 rfl; have j0 := q3.free 0; have j1 := q3.free 1; have j2 := q3.free 2; have j3 := q3.free 3; have j4 := q3.free 4
    by_cases hz : tn' = 0
    · subst hz
      obtain ⟨hc1, hc2, hc3⟩ := HCL.out
      have hm0 := hc2.1 rfl
      obtain ⟨hc4, hc5⟩ := hc3 rfl
      rw [if_pos hm0] at hc1
      subst hc1 hc4 hc5
      have bu := ((((but_set w3 w.heap.size 0 (.int .i64 1)).trans (but_set _ w.heap.size 1 (.bool ng))).trans (but_set _ w.heap.size 2 (.bool false))).trans (but_set _ w.heap.size 3 (.slice none 0 0))).trans (but_set _ w.heap.size 4 (.int .i64 0))
      have cR : LocE (((((w3.setCell ⟨w.heap.size, 0, none⟩ (.int .i64 1)).setCell ⟨w.heap.size, 1, none⟩ (.bool ng)).setCell ⟨w.heap.size, 2, none⟩ (.bool false)).setCell ⟨w.heap.size, 3, none⟩ (.slice none 0 0)).setCell ⟨w.heap.size, 4, none⟩ (.int .i64 0)) w.heap.size 34 [.int .i64 1, .bool ng, .bool false, .slice none 0 0, .int .i64 0] := (((((q3.set 0 (.int .i64 1)).set 1 (.bool ng)).set 2 (.bool false)).set 3 (.slice none 0 0)).set 4 (.int .i64 0))
      have bR := bu.below b3 (Nat.le_refl _)
      have rR := rd_nil (((((w3.setCell ⟨w.heap.size, 0, none⟩ (.int .i64 1)).setCell ⟨w.heap.size, 1, none⟩ (.bool ng)).setCell ⟨w.heap.size, 2, none⟩ (.bool false)).setCell ⟨w.heap.size, 3, none⟩ (.slice none 0 0)).setCell ⟨w.heap.size, 4, none⟩ (.int .i64 0)) .i64
      have hl := run_loadVar_mid (P := Tryz.prog) _ w.heap.size 0 34 [.int .i64 1, .bool ng, .bool false, .slice none 0 0, .int .i64 0] _ cR.range Tryz.underlying34 rfl (by kernel_rfl)
      have HH : Hid (_ ∧ _ ∧ _) := ⟨hl, rR, bR⟩
      clear hl rR bR cR bu q3 b3 r3
      go_wp2
      obtain ⟨hl, rR, bR⟩ := HH.out
      exact bodyPost_ret (results_one Tryz.results29 rfl hl) rfl ⟨_, rfl, rR, bR⟩
    · have hz0 : (((Dg.dg 65536 tn').length : Int) == 0) = false := by simp [Dg.dg_nil_iff 65536 tn' (by omega)]; exact hz
      obtain ⟨hc1, hc2, -⟩ := HCL.out
      have hm0 : m ≠ 0 := fun h => hz (hc2.2 h)
      rw [if_neg hm0] at hc1
      subst hc1
      have bu := ((((but_set w3 w.heap.size 0 (.int .i64 2)).trans (but_set _ w.heap.size 1 (.bool ng))).trans (but_set _ w.heap.size 2 (.bool ts))).trans (but_set _ w.heap.size 3 (.slice so (Dg.dg 65536 tn').length sc))).trans (but_set _ w.heap.size 4 (.int .i64 te))
      have cR : LocE (((((w3.setCell ⟨w.heap.size, 0, none⟩ (.int .i64 2)).setCell ⟨w.heap.size, 1, none⟩ (.bool ng)).setCell ⟨w.heap.size, 2, none⟩ (.bool ts)).setCell ⟨w.heap.size, 3, none⟩ (.slice so (Dg.dg 65536 tn').length sc)).setCell ⟨w.heap.size, 4, none⟩ (.int .i64 te)) w.heap.size 34 [.int .i64 2, .bool ng, .bool ts, .slice so (Dg.dg 65536 tn').length sc, .int .i64 te] := (((((q3.set 0 (.int .i64 2)).set 1 (.bool ng)).set 2 (.bool ts)).set 3 (.slice so (Dg.dg 65536 tn').length sc)).set 4 (.int .i64 te))
      have bR := bu.below b3 (Nat.le_refl _)
      have ov := rd_offE r3 (Dg.norm_dg _ _ (by omega)) q3 (fun x hx n hn => by simp at hx; rcases hx with rfl | rfl | rfl | rfl | rfl <;> simp; all_goals omega)
      have rR := bu.rd r3 ov
      have hl := run_loadVar_mid (P := Tryz.prog) _ w.heap.size 0 34 [.int .i64 2, .bool ng, .bool ts, .slice so (Dg.dg 65536 tn').length sc, .int .i64 te] _ cR.range Tryz.underlying34 rfl (by kernel_rfl)
      have HH : Hid (_ ∧ _ ∧ _) := ⟨hl, rR, bR⟩
      clear hl rR bR cR bu q3 b3 r3
      go_wp2
      obtain ⟨hl, rR, bR⟩ := HH.out
      exact bodyPost_ret (results_one Tryz.results29 rfl hl) rfl ⟨_, rfl, rR, bR⟩
  · have hnq : w1.heap.size ≠ w.heap.size := Nat.ne_of_gt F1.q.lt
    have hdb : w.heap.size ≤ w1.heap.size := Nat.le_of_lt F1.q.lt
    have bu3 := ((but_set w2 w1.heap.size 0 (.bool ts)).trans (but_set _ w1.heap.size 1 (.slice so (Dg.dg 65536 tn').length sc))).trans (but_set _ w1.heap.size 2 (.int .i64 te))
    have d3 : LocE (((w2.setCell ⟨w1.heap.size, 0, none⟩ (.bool ts)).setCell ⟨w1.heap.size, 1, none⟩ (.slice so (Dg.dg 65536 tn').length sc)).setCell ⟨w1.heap.size, 2, none⟩ (.int .i64 te)) w1.heap.size 32 [.bool ts, .slice so (Dg.dg 65536 tn').length sc, .int .i64 te] := (((d2.set 0 (.bool ts)).set 1 (.slice so (Dg.dg 65536 tn').length sc)).set 2 (.int .i64 te))
    have q3 := ((F2.q.off hnq 0 (.bool ts)).off hnq 1 (.slice so (Dg.dg 65536 tn').length sc)).off hnq 2 (.int .i64 te)
    have n3 := (bu3.cell (a := ⟨bn, 0, none⟩) (by show bn ≠ w1.heap.size; omega)).trans F2.n
    have b3 := bu3.below F2.b hdb
    have r3 := bu3.rd r2 (rd_offE r2 (Dg.norm_dg _ _ (by omega)) d2 (fun x hx n hn => by simp at hx; rcases hx with rfl | rfl | rfl <;> simp; all_goals omega))
    clear bu3
    generalize (((w2.setCell ⟨w1.heap.size, 0, none⟩ (.bool ts)).setCell ⟨w1.heap.size, 1, none⟩ (.slice so (Dg.dg 65536 tn').length sc)).setCell ⟨w1.heap.size, 2, none⟩ (.int .i64 te)) = w3 at *
    clear F0 F00 F0a d0a F1 F2 r2 x0 xa0 y0 z0 x1 xa1 y1 z1 x2 xa2 y2 z2 x3 xa3 y3 z3 x4 xa4 y4 z4 x5 xa5 y5 z5 x6 xa6 y6 z6 x7 xa7 y7 z7 x8 xa8 y8 z8 n0 na n1 n2 d2 e0 e1 e2 g0 g1 g2 d1b F1b
    generalize w1.heap.size = dq at *
    have cd0 := d3.cell 0 rfl; have cd1 := d3.cell 1 rfl; have cd2 := d3.cell 2 rfl; have cq0 := q3.cell 0 rfl; have cq1 := q3.cell 1 rfl; have cq2 := q3.cell 2 rfl; have cq3 := q3.cell 3 rfl; have cq4 := q3.cell 4 rfl; have j0 := q3.free 0; have j1 := q3.free 1; have j2 := q3.free 2; have j3 := q3.free 3; have j4 := q3.free 4
    by_cases hz : tn' = 0
    · subst hz
      obtain ⟨hc1, hc2, hc3⟩ := HCL.out
      have hm0 := hc2.1 rfl
      obtain ⟨hc4, hc5⟩ := hc3 rfl
      rw [if_pos hm0] at hc1
      subst hc1 hc4 hc5
      have bu := ((((but_set w3 w.heap.size 0 (.int .i64 1)).trans (but_set _ w.heap.size 1 (.bool ng))).trans (but_set _ w.heap.size 2 (.bool false))).trans (but_set _ w.heap.size 3 (.slice none 0 0))).trans (but_set _ w.heap.size 4 (.int .i64 0))
      have cR : LocE (((((w3.setCell ⟨w.heap.size, 0, none⟩ (.int .i64 1)).setCell ⟨w.heap.size, 1, none⟩ (.bool ng)).setCell ⟨w.heap.size, 2, none⟩ (.bool false)).setCell ⟨w.heap.size, 3, none⟩ (.slice none 0 0)).setCell ⟨w.heap.size, 4, none⟩ (.int .i64 0)) w.heap.size 34 [.int .i64 1, .bool ng, .bool false, .slice none 0 0, .int .i64 0] := (((((q3.set 0 (.int .i64 1)).set 1 (.bool ng)).set 2 (.bool false)).set 3 (.slice none 0 0)).set 4 (.int .i64 0))
      have bR := bu.below b3 (Nat.le_refl _)
      have rR := rd_nil (((((w3.setCell ⟨w.heap.size, 0, none⟩ (.int .i64 1)).setCell ⟨w.heap.size, 1, none⟩ (.bool ng)).setCell ⟨w.heap.size, 2, none⟩ (.bool false)).setCell ⟨w.heap.size, 3, none⟩ (.slice none 0 0)).setCell ⟨w.heap.size, 4, none⟩ (.int .i64 0)) .i64
      have hl := run_loadVar_mid (P := Tryz.prog) _ w.heap.size 0 34 [.int .i64 1, .bool ng, .bool false, .slice none 0 0, .int .i64 0] _ cR.range Tryz.underlying34 rfl (by kernel_rfl)
      have HH : Hid (_ ∧ _ ∧ _) := ⟨hl, rR, bR⟩
      clear hl rR bR cR bu q3 b3 r3
      go_wp2
      obtain ⟨hl, rR, bR⟩ := HH.out
      exact bodyPost_ret (results_one Tryz.results29 rfl hl) rfl ⟨_, rfl, rR, bR⟩
    · have hz0 : (((Dg.dg 65536 tn').length : Int) == 0) = false := by simp [Dg.dg_nil_iff 65536 tn' (by omega)]; exact hz
      obtain ⟨hc1, hc2, -⟩ := HCL.out
      have hm0 : m ≠ 0 := fun h => hz (hc2.2 h)
      rw [if_neg hm0] at hc1
      subst hc1
      have bu := ((((but_set w3 w.heap.size 0 (.int .i64 2)).trans (but_set _ w.heap.size 1 (.bool ng))).trans (but_set _ w.heap.size 2 (.bool ts))).trans (but_set _ w.heap.size 3 (.slice so (Dg.dg 65536 tn').length sc))).trans (but_set _ w.heap.size 4 (.int .i64 te))
      have cR : LocE (((((w3.setCell ⟨w.heap.size, 0, none⟩ (.int .i64 2)).setCell ⟨w.heap.size, 1, none⟩ (.bool ng)).setCell ⟨w.heap.size, 2, none⟩ (.bool ts)).setCell ⟨w.heap.size, 3, none⟩ (.slice so (Dg.dg 65536 tn').length sc)).setCell ⟨w.heap.size, 4, none⟩ (.int .i64 te)) w.heap.size 34 [.int .i64 2, .bool ng, .bool ts, .slice so (Dg.dg 65536 tn').length sc, .int .i64 te] := (((((q3.set 0 (.int .i64 2)).set 1 (.bool ng)).set 2 (.bool ts)).set 3 (.slice so (Dg.dg 65536 tn').length sc)).set 4 (.int .i64 te))
      have bR := bu.below b3 (Nat.le_refl _)
      have ov := rd_offE r3 (Dg.norm_dg _ _ (by omega)) q3 (fun x hx n hn => by simp at hx; rcases hx with rfl | rfl | rfl | rfl | rfl <;> simp; all_goals omega)
      have rR := bu.rd r3 ov
      have hl := run_loadVar_mid (P := Tryz.prog) _ w.heap.size 0 34 [.int .i64 2, .bool ng, .bool ts, .slice so (Dg.dg 65536 tn').length sc, .int .i64 te] _ cR.range Tryz.underlying34 rfl (by kernel_rfl)
      have HH : Hid (_ ∧ _ ∧ _) := ⟨hl, rR, bR⟩
      clear hl rR bR cR bu q3 b3 r3
      go_wp2
      obtain ⟨hl, rR, bR⟩ := HH.out
      exact bodyPost_ret (results_one Tryz.results29 rfl hl) rfl ⟨_, rfl, rR, bR⟩
  · have hnq : (w.heap.size + 1) ≠ w.heap.size := Nat.succ_ne_self _
    have hdb : w.heap.size ≤ (w.heap.size + 1) := Nat.le_succ _
    have bu3 := ((but_set w2 (w.heap.size + 1) 0 (.bool ts)).trans (but_set _ (w.heap.size + 1) 1 (.slice so (Dg.dg 65536 tn').length sc))).trans (but_set _ (w.heap.size + 1) 2 (.int .i64 te))
    have d3 : LocE (((w2.setCell ⟨w.heap.size + 1, 0, none⟩ (.bool ts)).setCell ⟨w.heap.size + 1, 1, none⟩ (.slice so (Dg.dg 65536 tn').length sc)).setCell ⟨w.heap.size + 1, 2, none⟩ (.int .i64 te)) (w.heap.size + 1) 32 [.bool ts, .slice so (Dg.dg 65536 tn').length sc, .int .i64 te] := (((d2.set 0 (.bool ts)).set 1 (.slice so (Dg.dg 65536 tn').length sc)).set 2 (.int .i64 te))
    have q3 := ((F2.q.off hnq 0 (.bool ts)).off hnq 1 (.slice so (Dg.dg 65536 tn').length sc)).off hnq 2 (.int .i64 te)
    have n3 := (bu3.cell (a := ⟨bn, 0, none⟩) (by show bn ≠ (w.heap.size + 1); omega)).trans F2.n
    have b3 := bu3.below F2.b hdb
    have r3 := bu3.rd r2 (rd_offE r2 (Dg.norm_dg _ _ (by omega)) d2 (fun x hx n hn => by simp at hx; rcases hx with rfl | rfl | rfl <;> simp; all_goals omega))
    clear bu3
    generalize (((w2.setCell ⟨w.heap.size + 1, 0, none⟩ (.bool ts)).setCell ⟨w.heap.size + 1, 1, none⟩ (.slice so (Dg.dg 65536 tn').length sc)).setCell ⟨w.heap.size + 1, 2, none⟩ (.int .i64 te)) = w3 at *
    clear F0 F00 F0a d0a F1 F2 r2 x0 xa0 y0 z0 x1 xa1 y1 z1 x2 xa2 y2 z2 x3 xa3 y3 z3 x4 xa4 y4 z4 x5 xa5 y5 z5 x6 xa6 y6 z6 x7 xa7 y7 z7 x8 xa8 y8 z8 n0 na n1 n2 d2 e0 e1 e2 g0 g1 g2 d1
    generalize (w.heap.size + 1) = dq at *
    have cd0 := d3.cell 0 rfl; have cd1 := d3.cell 1 rfl; have cd2 := d3.cell 2 rfl; have cq0 := q3.cell 0 rfl; have cq1 := q3.cell 1 rfl; have cq2 := q3.cell 2 rfl; have cq3 := q3.cell 3 rfl; have cq4 := q3.cell 4 rfl; have j0 := q3.free 0; have j1 := q3.free 1; have j2 := q3.free 2; have j3 := q3.free 3; have j4 := q3.free 4
    by_cases hz : tn' = 0
    · subst hz
      obtain ⟨hc1, hc2, hc3⟩ := HCL.out
      have hm0 := hc2.1 rfl
      obtain ⟨hc4, hc5⟩ := hc3 rfl
      rw [if_pos hm0] at hc1
      subst hc1 hc4 hc5
      have bu := ((((but_set w3 w.heap.size 0 (.int .i64 1)).trans (but_set _ w.heap.size 1 (.bool ng))).trans (but_set _ w.heap.size 2 (.bool false))).trans (but_set _ w.heap.size 3 (.slice none 0 0))).trans (but_set _ w.heap.size 4 (.int .i64 0))
      have cR : LocE (((((w3.setCell ⟨w.heap.size, 0, none⟩ (.int .i64 1)).setCell ⟨w.heap.size, 1, none⟩ (.bool ng)).setCell ⟨w.heap.size, 2, none⟩ (.bool false)).setCell ⟨w.heap.size, 3, none⟩ (.slice none 0 0)).setCell ⟨w.heap.size, 4, none⟩ (.int .i64 0)) w.heap.size 34 [.int .i64 1, .bool ng, .bool false, .slice none 0 0, .int .i64 0] := (((((q3.set 0 (.int .i64 1)).set 1 (.bool ng)).set 2 (.bool false)).set 3 (.slice none 0 0)).set 4 (.int .i64 0))
      have bR := bu.below b3 (Nat.le_refl _)
      have rR := rd_nil (((((w3.setCell ⟨w.heap.size, 0, none⟩ (.int .i64 1)).setCell ⟨w.heap.size, 1, none⟩ (.bool ng)).setCell ⟨w.heap.size, 2, none⟩ (.bool false)).setCell ⟨w.heap.size, 3, none⟩ (.slice none 0 0)).setCell ⟨w.heap.size, 4, none⟩ (.int .i64 0)) .i64
      have hl := run_loadVar_mid (P := Tryz.prog) _ w.heap.size 0 34 [.int .i64 1, .bool ng, .bool false, .slice none 0 0, .int .i64 0] _ cR.range Tryz.underlying34 rfl (by kernel_rfl)
      have HH : Hid (_ ∧ _ ∧ _) := ⟨hl, rR, bR⟩
      clear hl rR bR cR bu q3 b3 r3
      go_wp2
      obtain ⟨hl, rR, bR⟩ := HH.out
      exact bodyPost_ret (results_one Tryz.results29 rfl hl) rfl ⟨_, rfl, rR, bR⟩
    · have hz0 : (((Dg.dg 65536 tn').length : Int) == 0) = false := by simp [Dg.dg_nil_iff 65536 tn' (by omega)]; exact hz
      obtain ⟨hc1, hc2, -⟩ := HCL.out
      have hm0 : m ≠ 0 := fun h => hz (hc2.2 h)
      rw [if_neg hm0] at hc1
      subst hc1
      have bu := ((((but_set w3 w.heap.size 0 (.int .i64 2)).trans (but_set _ w.heap.size 1 (.bool ng))).trans (but_set _ w.heap.size 2 (.bool ts))).trans (but_set _ w.heap.size 3 (.slice so (Dg.dg 65536 tn').length sc))).trans (but_set _ w.heap.size 4 (.int .i64 te))
      have cR : LocE (((((w3.setCell ⟨w.heap.size, 0, none⟩ (.int .i64 2)).setCell ⟨w.heap.size, 1, none⟩ (.bool ng)).setCell ⟨w.heap.size, 2, none⟩ (.bool ts)).setCell ⟨w.heap.size, 3, none⟩ (.slice so (Dg.dg 65536 tn').length sc)).setCell ⟨w.heap.size, 4, none⟩ (.int .i64 te)) w.heap.size 34 [.int .i64 2, .bool ng, .bool ts, .slice so (Dg.dg 65536 tn').length sc, .int .i64 te] := (((((q3.set 0 (.int .i64 2)).set 1 (.bool ng)).set 2 (.bool ts)).set 3 (.slice so (Dg.dg 65536 tn').length sc)).set 4 (.int .i64 te))
      have bR := bu.below b3 (Nat.le_refl _)
      have ov := rd_offE r3 (Dg.norm_dg _ _ (by omega)) q3 (fun x hx n hn => by simp at hx; rcases hx with rfl | rfl | rfl | rfl | rfl <;> simp; all_goals omega)
      have rR := bu.rd r3 ov
      have hl := run_loadVar_mid (P := Tryz.prog) _ w.heap.size 0 34 [.int .i64 2, .bool ng, .bool ts, .slice so (Dg.dg 65536 tn').length sc, .int .i64 te] _ cR.range Tryz.underlying34 rfl (by kernel_rfl)
      have HH : Hid (_ ∧ _ ∧ _) := ⟨hl, rR, bR⟩
      clear hl rR bR cR bu q3 b3 r3
      go_wp2
      obtain ⟨hl, rR, bR⟩ := HH.out
      exact bodyPost_ret (results_one Tryz.results29 rfl hl) rfl ⟨_, rfl, rR, bR⟩
end Go.Proofs.YtgbccbmflokooaaGreatDoor

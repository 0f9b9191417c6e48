/-
  Texts laid together: Cr4, Ef2, Cr5.
-/
import Derived.Test.YtnhackdjplppjaaGreatDoorAc34
set_option maxRecDepth 100000
namespace Go.Proofs.YtnhackdjplppjaaGreatDoor
open Go.RowKit
def wdI (R : Int) : Int := if R = 16 then 4 else 1
theorem cwidth_any (R D L G : Int) (gr : Bool) (w : World) :
  Calls Tryz.prog 116 #[.agg #[.int .i64 R, .int .i64 D, .int .i64 L, .int .i64 G, .bool gr]] w fun z w' => z = .returned (.int .i64 (wdI R)) ∧ Below w.heap.size w w' := by
 have bA := below_alloc w (.cells #[.int .i64 R, .int .i64 D, .int .i64 L, .int .i64 G, .bool gr] 56)
 unfold wdI
 by_cases h : R = 16
 ·rw [if_pos h]
  subst h
  go_enter Tryz.func116, Tryz.ntmps116
  go_wp2
  go_ret
  exact ⟨rfl, bA⟩
 ·rw [if_neg h]
  have e : (R == 16) = false := by simp; exact h
  go_enter Tryz.func116, Tryz.ntmps116
  go_wp2
  go_ret
  exact ⟨rfl, bA⟩
def RVal (w : World) (c : Int) (ng : Bool) (t : Trip) (z : Ending) (w' : World) : Prop :=
 ∃ s, z = .returned (.agg #[.int .i64 c, .bool ng, .bool t.s, s, .int .i64 t.e]) ∧ Rd w' .i64 s (Dg.dg 65536 t.n) ∧ Below w.heap.size w w' ∧ Far w.heap.size s
def RDResH (B : Nat) (w : World) (t : Trip) (z : Ending) (w' : World) : Prop :=
 ∃ s, z = .returned (.agg #[.bool t.s, s, .int .i64 t.e]) ∧ Rd w' .i64 s (Dg.dg 65536 t.n) ∧ Below w.heap.size w w' ∧ Hid (Far B s)
theorem RDResF.hid {B : Nat} {w : World} {t : Trip} {e : Ending} {w' : World} (hb : B ≤ w.heap.size) (h : RDResF w t e w') : RDResH B w t e w' := by
 obtain ⟨s, h1, h2, h3, h4⟩ := h
 exact ⟨s, h1, h2, h4, (fun a n c h => Nat.le_trans hb (h3 a n c h) : Far B s)⟩
theorem far_none (B : Nat) : Far B (.slice none 0 0) := fun _ _ _ h => by cases h
structure NumF (w : World) (bn bf : Nat) (ng : Bool) (fv : List Value) (v : Value) (m : Nat) (w' : World) : Prop where
 q : LocE w' w.heap.size 32 [.int .i64 0, .bool false, .bool false, .slice none 0 0, .int .i64 0]
 f : LocE w' bf 58 fv
 n : w'.cell? ⟨bn, 0, none⟩ = some (.bool ng)
 b : Below w.heap.size w w'
 r : Rd w' .i64 v (Dg.dg 65536 m)
theorem NumF.later {w w1 w2 : World} {bn bf : Nat} {ng : Bool} {fv : List Value} {v : Value} {m : Nat} (h : NumF w bn bf ng fv v m w1) (b : Below w1.heap.size w1 w2) : NumF w bn bf ng fv v m w2 :=
 ⟨h.q.later b, h.f.later b, cell_later b h.n, below_trans h.b b, h.r.later b⟩
theorem bareN_zero (a : Trip) : (bare a).n = 0 ↔ a.n = 0 := by
 by_cases h : a.n = 0
 ·unfold bare
  rw [if_pos h]
  exact ⟨fun _ => h, fun _ => rfl⟩
 ·unfold bare
  rw [if_neg h]
  obtain ⟨m, hm⟩ := tz_spec h
  have := div_tz hm
  exact ⟨fun h2 => by simp only at h2; omega, fun h2 => absurd h2 h⟩
theorem bareN_flat {a t : Trip} (e : bare a = t) (h : t.n = 0) : t.s = false ∧ t.e = 0 := by
 subst e
 have h0 := (bareN_zero a).1 h
 unfold bare
 rw [if_pos h0]
 exact ⟨rfl, rfl⟩
set_option maxHeartbeats 6400000 in
theorem refNumber_W (sz ex fr : Nat) (R D L G fam wd : Int) (gr ng : Bool) (bn bf : Nat) (m : Nat) (p : Int) (v : Value) (w : World)
  (hr : Rd w .i64 v (Dg.dg 65536 m)) (hm : m < 340282366920938463463374607431768211456) (hn : w.cell? ⟨bn, 0, none⟩ = some (.bool ng)) (hf : LocE w bf 58 [.int .i64 (sz : Int), .int .i64 (ex : Int), .int .i64 (fr : Int), .int .i64 R, .int .i64 D, .int .i64 L, .int .i64 G, .bool gr, .int .i64 fam]) (hw1 : 1 ≤ wd) (hw4 : wd ≤ 4) (hp1 : -100000 ≤ p) (hp2 : p ≤ 100000)
  (HWI : ∀ w1, Calls Tryz.prog 116 #[.agg #[.int .i64 R, .int .i64 D, .int .i64 L, .int .i64 G, .bool gr]] w1 fun z w' => z = .returned (.int .i64 wd) ∧ Below w1.heap.size w1 w') :
  Calls Tryz.prog 115 #[v, .int .i64 p, .pointer (some ⟨bn, 0, none⟩), .pointer (some ⟨bf, 0, none⟩)] w (RVal w (if m = 0 then 1 else 2) ng (bare ⟨ng, m, wd * p⟩)) := by
 have HW : Hid _ := HWI
 clear HWI
 obtain ⟨ao, ca, rfl⟩ := hr.shape
 have hln : (Dg.dg 65536 m).length ≤ 8 := Dg.dg_len_le 65536 m 8 (by omega) hm
 have b0 := below_alloc w (.cells #[.int .i64 0, .bool false, .bool false, .slice none 0 0, .int .i64 0] 32)
 have F0 : NumF w bn bf ng [.int .i64 (sz : Int), .int .i64 (ex : Int), .int .i64 (fr : Int), .int .i64 R, .int .i64 D, .int .i64 L, .int .i64 G, .bool gr, .int .i64 fam] (.slice ao (Dg.dg 65536 m).length ca) m (w.alloc (.cells #[.int .i64 0, .bool false, .bool false, .slice none 0 0, .int .i64 0] 32)).drew := (⟨locE_new w _ _, hf.later b0, cell_later b0 hn, b0, hr.later b0⟩ : NumF w bn bf ng [.int .i64 (sz : Int), .int .i64 (ex : Int), .int .i64 (fr : Int), .int .i64 R, .int .i64 D, .int .i64 L, .int .i64 G, .bool gr, .int .i64 fam] (.slice ao (Dg.dg 65536 m).length ca) m (w.alloc (.cells #[.int .i64 0, .bool false, .bool false, .slice none 0 0, .int .i64 0] 32))).later (Below.refl _ _).drew
 have F00 : NumF w bn bf ng [.int .i64 (sz : Int), .int .i64 (ex : Int), .int .i64 (fr : Int), .int .i64 R, .int .i64 D, .int .i64 L, .int .i64 G, .bool gr, .int .i64 fam] (.slice ao (Dg.dg 65536 m).length ca) m (w.alloc (.cells #[.int .i64 0, .bool false, .bool false, .slice none 0 0, .int .i64 0] 32)) := ⟨locE_new w _ _, hf.later b0, cell_later b0 hn, b0, hr.later b0⟩
 have F0a := (F00.later (below_alloc _ (.cells #[.bool false, .slice none 0 0, .int .i64 0] 30))).later (Below.refl _ _).drew
 have d0a := (locE_new (w.alloc (.cells #[.int .i64 0, .bool false, .bool false, .slice none 0 0, .int .i64 0] 32)) [.bool false, .slice none 0 0, .int .i64 0] 30).drew
 rw [World.size_alloc] at d0a
 have na := F0a.n
 obtain ⟨xa0, xa1, xa2, xa3, xa4, xa5, xa6, xa7, xa8⟩ := F0a.f.cs9
 have hp3 : -400000 ≤ wd * p := by
  rcases (by omega : wd = 1 ∨ wd = 2 ∨ wd = 3 ∨ wd = 4) with h | h | h | h <;> subst h <;> omega
 have hp4 : wd * p ≤ 400000 := by
  rcases (by omega : wd = 1 ∨ wd = 2 ∨ wd = 3 ∨ wd = 4) with h | h | h | h <;> subst h <;> omega
 obtain ⟨E, hE⟩ : ∃ E, wd * p = E := ⟨_, rfl⟩
 rw [hE] at hp3 hp4 ⊢
 have hwr : IntKind.i64.wrap (wd * p) = E := by rw [hE]; exact IntWalk.i64_in _ ⟨by omega, by omega⟩
 have HB : Hid (∀ w1, Below w.heap.size w w1 → Calls Tryz.prog 79 #[.agg #[.bool ng, .slice ao (Dg.dg 65536 m).length ca, .int .i64 E]] w1 (RDResH w.heap.size w1 (bare ⟨ng, m, E⟩))) := fun w1 b1 => Calls.mono (bared_far _ ⟨ng, m, E⟩ w1 ⟨_, rfl, hr.later b1⟩ (by show (Dg.dg 65536 m).length ≤ 100000; omega) (by show -1000000 ≤ E; omega) (by show E ≤ 1000000; omega)) fun _ _ h => h.hid b1.size
 have hbz : (bare ⟨ng, m, E⟩).n = 0 ↔ m = 0 := bareN_zero ⟨ng, m, E⟩
 obtain ⟨⟨ts, tn', te⟩, hT⟩ : ∃ t, bare ⟨ng, m, E⟩ = t := ⟨_, rfl⟩
 have hfl : tn' = 0 → ts = false ∧ te = 0 := fun h => bareN_flat hT h
 rw [hT] at HB hbz ⊢
 simp only at hbz
 obtain ⟨cl, hcl⟩ : ∃ x : Int, (if m = 0 then 1 else 2) = x := ⟨_, rfl⟩
 rw [hcl]
 have HCL : Hid (_ ∧ _ ∧ _) := ⟨hcl, hbz, hfl⟩
 clear hE hT hcl hbz hfl
 have n0 := F0.n
 have hbn : bn < w.heap.size := World.block_lt_of_cell? w ⟨bn, 0, none⟩ hn
 have hbf : bf < w.heap.size := hf.lt
 have hn3 : w.heap.size + 1 ≠ bn := by omega
 have hn4 : w.heap.size + 1 ≠ bf := by omega
 obtain ⟨x0, x1, x2, x3, x4, x5, x6, x7, x8⟩ := F0.f.cs9
 go_enter Tryz.func115, Tryz.ntmps115
 go_wp2_with fail
 go_region_held3 (fun wq => wq.cell? ⟨bn, 0, none⟩ = some (.bool ng) ∧ wq.cell? ⟨bf, 0, none⟩ = some (.int .i64 (sz : Int)) ∧ wq.cell? ⟨bf, 1, none⟩ = some (.int .i64 (ex : Int)) ∧ wq.cell? ⟨bf, 2, none⟩ = some (.int .i64 (fr : Int)) ∧ wq.cell? ⟨bf, 3, none⟩ = some (.int .i64 R) ∧ wq.cell? ⟨bf, 4, none⟩ = some (.int .i64 D) ∧ wq.cell? ⟨bf, 5, none⟩ = some (.int .i64 L) ∧ wq.cell? ⟨bf, 6, none⟩ = some (.int .i64 G) ∧ wq.cell? ⟨bf, 7, none⟩ = some (.bool gr) ∧ wq.cell? ⟨bf, 8, none⟩ = some (.int .i64 fam)) (go_keep) (first
  | (go_at_call 116; refine (HW.out _).mono ?_; rintro z w1 ⟨rfl, b1⟩; (first | (have F1 := F0.later b1; have d1b := locE_new w1 [.bool false, .slice none 0 0, .int .i64 0] 30; have F1b := F1.later (below_alloc _ (.cells #[.bool false, .slice none 0 0, .int .i64 0] 30))) | (have F1 := F0a.later b1; have d1 := d0a.later b1)); have n1 := F1.n; obtain ⟨y0, y1, y2, y3, y4, y5, y6, y7, y8⟩ := F1.f.cs9; have hn1 := World.new_ne w1 ⟨bn, 0, none⟩ n1; have hn2 := World.new_ne w1 ⟨bf, 0, none⟩ y0)
  | (go_at_call 79; (first | (with_reducible (refine (HB.out _ F1.b).mono ?_)) | (with_reducible (refine (HB.out _ F1b.b).mono ?_))); rintro z w2 ⟨s2, rfl, r2, b2, f2⟩; obtain ⟨so, sc, hs2⟩ := r2.shape; subst hs2; (first | (have F2 := F1.later b2) | (have F2 := F1b.later b2)); (first | (have d2 := d1.later b2; obtain ⟨e0, e1, e2⟩ := d2.cs3; have g0 := d2.free 0; have g1 := d2.free 1; have g2 := d2.free 2) | (have d2 := d1b.later b2; obtain ⟨e0, e1, e2⟩ := d2.cs3; have g0 := d2.free 0; have g1 := d2.free 1; have g2 := d2.free 2) | skip); have n2 := F2.n; obtain ⟨z0, z1, z2, z3, z4, z5, z6, z7, z8⟩ := F2.f.cs9))
 ·have b3' := below_alloc w2 (.cells #[.bool ts, .slice so (Dg.dg 65536 tn').length sc, .int .i64 te] 30)
  have d3 := locE_new w2 [.bool ts, .slice so (Dg.dg 65536 tn').length sc, .int .i64 te] 30
  have q3 := F2.q.later b3'
  have n3 := cell_later b3' F2.n
  have b3 := below_trans F2.b b3'
  have r3 := r2.later b3'
  have hnq : w2.heap.size ≠ w.heap.size := Nat.ne_of_gt F2.q.lt
  clear b3'
  generalize (w2.alloc (.cells #[.bool ts, .slice so (Dg.dg 65536 tn').length sc, .int .i64 te] 30)) = w3 at *
  clear F0 F00 F0a d0a F1 F2 r2 x0 xa0 y0 z0 x1 xa1 y1 z1 x2 xa2 y2 z2 x3 xa3 y3 z3 x4 xa4 y4 z4 x5 xa5 y5 z5 x6 xa6 y6 z6 x7 xa7 y7 z7 x8 xa8 y8 z8 n0 na n1 n2 d1b F1b
  generalize w2.heap.size = dq at *
  obtain ⟨cd0, cd1, cd2⟩ := d3.cs3; obtain ⟨cq0, cq1, cq2, cq3, cq4⟩ := q3.cs5; have j0 := q3.free 0; have j1 := q3.free 1; have j2 := q3.free 2; have j3 := q3.free 3; have j4 := q3.free 4
  by_cases hz : tn' = 0
  ·subst hz
   obtain ⟨hc1, hc2, hc3⟩ := HCL.out
   have hm0 := hc2.1 rfl
   obtain ⟨hc4, hc5⟩ := hc3 rfl
   rw [if_pos hm0] at hc1
   subst hc1 hc4 hc5
   have bu := ((((but_set w3 w.heap.size 0 (.int .i64 1)).trans (but_set _ w.heap.size 1 (.bool ng))).trans (but_set _ w.heap.size 2 (.bool false))).trans (but_set _ w.heap.size 3 (.slice none 0 0))).trans (but_set _ w.heap.size 4 (.int .i64 0))
   have cR : LocE (((((w3.setCell ⟨w.heap.size, 0, none⟩ (.int .i64 1)).setCell ⟨w.heap.size, 1, none⟩ (.bool ng)).setCell ⟨w.heap.size, 2, none⟩ (.bool false)).setCell ⟨w.heap.size, 3, none⟩ (.slice none 0 0)).setCell ⟨w.heap.size, 4, none⟩ (.int .i64 0)) w.heap.size 32 [.int .i64 1, .bool ng, .bool false, .slice none 0 0, .int .i64 0] := (((((q3.set 0 (.int .i64 1)).set 1 (.bool ng)).set 2 (.bool false)).set 3 (.slice none 0 0)).set 4 (.int .i64 0))
   have bR := bu.below b3 (Nat.le_refl _)
   have rR := rd_nil (((((w3.setCell ⟨w.heap.size, 0, none⟩ (.int .i64 1)).setCell ⟨w.heap.size, 1, none⟩ (.bool ng)).setCell ⟨w.heap.size, 2, none⟩ (.bool false)).setCell ⟨w.heap.size, 3, none⟩ (.slice none 0 0)).setCell ⟨w.heap.size, 4, none⟩ (.int .i64 0)) .i64
   have hl := run_loadVar_mid (P := Tryz.prog) _ w.heap.size 0 32 [.int .i64 1, .bool ng, .bool false, .slice none 0 0, .int .i64 0] _ cR.range Tryz.underlying32 rfl (by kernel_rfl)
   have HH : Hid (_ ∧ _ ∧ _) := ⟨hl, rR, bR⟩
   clear hl rR bR cR bu q3 b3 r3
   go_wp2
   obtain ⟨hl, rR, bR⟩ := HH.out
   exact bodyPost_ret (results_one Tryz.results115 rfl hl) rfl ⟨_, rfl, rR, bR, far_none _⟩
  ·have hz0 : (((Dg.dg 65536 tn').length : Int) == 0) = false := by simp [Dg.dg_nil_iff 65536 tn' (by omega)]; exact hz
   obtain ⟨hc1, hc2, -⟩ := HCL.out
   have hm0 : m ≠ 0 := fun h => hz (hc2.2 h)
   rw [if_neg hm0] at hc1
   subst hc1
   have bu := ((((but_set w3 w.heap.size 0 (.int .i64 2)).trans (but_set _ w.heap.size 1 (.bool ng))).trans (but_set _ w.heap.size 2 (.bool ts))).trans (but_set _ w.heap.size 3 (.slice so (Dg.dg 65536 tn').length sc))).trans (but_set _ w.heap.size 4 (.int .i64 te))
   have cR : LocE (((((w3.setCell ⟨w.heap.size, 0, none⟩ (.int .i64 2)).setCell ⟨w.heap.size, 1, none⟩ (.bool ng)).setCell ⟨w.heap.size, 2, none⟩ (.bool ts)).setCell ⟨w.heap.size, 3, none⟩ (.slice so (Dg.dg 65536 tn').length sc)).setCell ⟨w.heap.size, 4, none⟩ (.int .i64 te)) w.heap.size 32 [.int .i64 2, .bool ng, .bool ts, .slice so (Dg.dg 65536 tn').length sc, .int .i64 te] := (((((q3.set 0 (.int .i64 2)).set 1 (.bool ng)).set 2 (.bool ts)).set 3 (.slice so (Dg.dg 65536 tn').length sc)).set 4 (.int .i64 te))
   have bR := bu.below b3 (Nat.le_refl _)
   have ov := rd_offE r3 (Dg.norm_dg _ _ (by omega)) q3 (fun x hx n hn => by simp at hx; rcases hx with rfl | rfl | rfl | rfl | rfl <;> simp; all_goals omega)
   have rR := bu.rd r3 ov
   have hl := run_loadVar_mid (P := Tryz.prog) _ w.heap.size 0 32 [.int .i64 2, .bool ng, .bool ts, .slice so (Dg.dg 65536 tn').length sc, .int .i64 te] _ cR.range Tryz.underlying32 rfl (by kernel_rfl)
   have HH : Hid (_ ∧ _ ∧ _) := ⟨hl, rR, bR⟩
   clear hl rR bR cR bu q3 b3 r3
   go_wp2
   obtain ⟨hl, rR, bR⟩ := HH.out
   exact bodyPost_ret (results_one Tryz.results115 rfl hl) rfl ⟨_, rfl, rR, bR, f2.out⟩
 ·have hnq : w1.heap.size ≠ w.heap.size := Nat.ne_of_gt F1.q.lt
  have hdb : w.heap.size ≤ w1.heap.size := Nat.le_of_lt F1.q.lt
  have bu3 := ((but_set w2 w1.heap.size 0 (.bool ts)).trans (but_set _ w1.heap.size 1 (.slice so (Dg.dg 65536 tn').length sc))).trans (but_set _ w1.heap.size 2 (.int .i64 te))
  have d3 : LocE (((w2.setCell ⟨w1.heap.size, 0, none⟩ (.bool ts)).setCell ⟨w1.heap.size, 1, none⟩ (.slice so (Dg.dg 65536 tn').length sc)).setCell ⟨w1.heap.size, 2, none⟩ (.int .i64 te)) w1.heap.size 30 [.bool ts, .slice so (Dg.dg 65536 tn').length sc, .int .i64 te] := (((d2.set 0 (.bool ts)).set 1 (.slice so (Dg.dg 65536 tn').length sc)).set 2 (.int .i64 te))
  have q3 := ((F2.q.off hnq 0 (.bool ts)).off hnq 1 (.slice so (Dg.dg 65536 tn').length sc)).off hnq 2 (.int .i64 te)
  have n3 := (bu3.cell (a := ⟨bn, 0, none⟩) (by show bn ≠ w1.heap.size; omega)).trans F2.n
  have b3 := bu3.below F2.b hdb
  have r3 := bu3.rd r2 (rd_offE r2 (Dg.norm_dg _ _ (by omega)) d2 (fun x hx n hn => by simp at hx; rcases hx with rfl | rfl | rfl <;> simp; all_goals omega))
  clear bu3
  generalize (((w2.setCell ⟨w1.heap.size, 0, none⟩ (.bool ts)).setCell ⟨w1.heap.size, 1, none⟩ (.slice so (Dg.dg 65536 tn').length sc)).setCell ⟨w1.heap.size, 2, none⟩ (.int .i64 te)) = w3 at *
  clear F0 F00 F0a d0a F1 F2 r2 x0 xa0 y0 z0 x1 xa1 y1 z1 x2 xa2 y2 z2 x3 xa3 y3 z3 x4 xa4 y4 z4 x5 xa5 y5 z5 x6 xa6 y6 z6 x7 xa7 y7 z7 x8 xa8 y8 z8 n0 na n1 n2 d2 e0 e1 e2 g0 g1 g2 d1b F1b
  generalize w1.heap.size = dq at *
  obtain ⟨cd0, cd1, cd2⟩ := d3.cs3; obtain ⟨cq0, cq1, cq2, cq3, cq4⟩ := q3.cs5; have j0 := q3.free 0; have j1 := q3.free 1; have j2 := q3.free 2; have j3 := q3.free 3; have j4 := q3.free 4
  by_cases hz : tn' = 0
  ·subst hz
   obtain ⟨hc1, hc2, hc3⟩ := HCL.out
   have hm0 := hc2.1 rfl
   obtain ⟨hc4, hc5⟩ := hc3 rfl
   rw [if_pos hm0] at hc1
   subst hc1 hc4 hc5
   have bu := ((((but_set w3 w.heap.size 0 (.int .i64 1)).trans (but_set _ w.heap.size 1 (.bool ng))).trans (but_set _ w.heap.size 2 (.bool false))).trans (but_set _ w.heap.size 3 (.slice none 0 0))).trans (but_set _ w.heap.size 4 (.int .i64 0))
   have cR : LocE (((((w3.setCell ⟨w.heap.size, 0, none⟩ (.int .i64 1)).setCell ⟨w.heap.size, 1, none⟩ (.bool ng)).setCell ⟨w.heap.size, 2, none⟩ (.bool false)).setCell ⟨w.heap.size, 3, none⟩ (.slice none 0 0)).setCell ⟨w.heap.size, 4, none⟩ (.int .i64 0)) w.heap.size 32 [.int .i64 1, .bool ng, .bool false, .slice none 0 0, .int .i64 0] := (((((q3.set 0 (.int .i64 1)).set 1 (.bool ng)).set 2 (.bool false)).set 3 (.slice none 0 0)).set 4 (.int .i64 0))
   have bR := bu.below b3 (Nat.le_refl _)
   have rR := rd_nil (((((w3.setCell ⟨w.heap.size, 0, none⟩ (.int .i64 1)).setCell ⟨w.heap.size, 1, none⟩ (.bool ng)).setCell ⟨w.heap.size, 2, none⟩ (.bool false)).setCell ⟨w.heap.size, 3, none⟩ (.slice none 0 0)).setCell ⟨w.heap.size, 4, none⟩ (.int .i64 0)) .i64
   have hl := run_loadVar_mid (P := Tryz.prog) _ w.heap.size 0 32 [.int .i64 1, .bool ng, .bool false, .slice none 0 0, .int .i64 0] _ cR.range Tryz.underlying32 rfl (by kernel_rfl)
   have HH : Hid (_ ∧ _ ∧ _) := ⟨hl, rR, bR⟩
   clear hl rR bR cR bu q3 b3 r3
   go_wp2
   obtain ⟨hl, rR, bR⟩ := HH.out
   exact bodyPost_ret (results_one Tryz.results115 rfl hl) rfl ⟨_, rfl, rR, bR, far_none _⟩
  ·have hz0 : (((Dg.dg 65536 tn').length : Int) == 0) = false := by simp [Dg.dg_nil_iff 65536 tn' (by omega)]; exact hz
   obtain ⟨hc1, hc2, -⟩ := HCL.out
   have hm0 : m ≠ 0 := fun h => hz (hc2.2 h)
   rw [if_neg hm0] at hc1
   subst hc1
   have bu := ((((but_set w3 w.heap.size 0 (.int .i64 2)).trans (but_set _ w.heap.size 1 (.bool ng))).trans (but_set _ w.heap.size 2 (.bool ts))).trans (but_set _ w.heap.size 3 (.slice so (Dg.dg 65536 tn').length sc))).trans (but_set _ w.heap.size 4 (.int .i64 te))
   have cR : LocE (((((w3.setCell ⟨w.heap.size, 0, none⟩ (.int .i64 2)).setCell ⟨w.heap.size, 1, none⟩ (.bool ng)).setCell ⟨w.heap.size, 2, none⟩ (.bool ts)).setCell ⟨w.heap.size, 3, none⟩ (.slice so (Dg.dg 65536 tn').length sc)).setCell ⟨w.heap.size, 4, none⟩ (.int .i64 te)) w.heap.size 32 [.int .i64 2, .bool ng, .bool ts, .slice so (Dg.dg 65536 tn').length sc, .int .i64 te] := (((((q3.set 0 (.int .i64 2)).set 1 (.bool ng)).set 2 (.bool ts)).set 3 (.slice so (Dg.dg 65536 tn').length sc)).set 4 (.int .i64 te))
   have bR := bu.below b3 (Nat.le_refl _)
   have ov := rd_offE r3 (Dg.norm_dg _ _ (by omega)) q3 (fun x hx n hn => by simp at hx; rcases hx with rfl | rfl | rfl | rfl | rfl <;> simp; all_goals omega)
   have rR := bu.rd r3 ov
   have hl := run_loadVar_mid (P := Tryz.prog) _ w.heap.size 0 32 [.int .i64 2, .bool ng, .bool ts, .slice so (Dg.dg 65536 tn').length sc, .int .i64 te] _ cR.range Tryz.underlying32 rfl (by kernel_rfl)
   have HH : Hid (_ ∧ _ ∧ _) := ⟨hl, rR, bR⟩
   clear hl rR bR cR bu q3 b3 r3
   go_wp2
   obtain ⟨hl, rR, bR⟩ := HH.out
   exact bodyPost_ret (results_one Tryz.results115 rfl hl) rfl ⟨_, rfl, rR, bR, f2.out⟩
 ·have hnq : (w.heap.size + 1) ≠ w.heap.size := Nat.succ_ne_self _
  have hdb : w.heap.size ≤ (w.heap.size + 1) := Nat.le_succ _
  have bu3 := ((but_set w2 (w.heap.size + 1) 0 (.bool ts)).trans (but_set _ (w.heap.size + 1) 1 (.slice so (Dg.dg 65536 tn').length sc))).trans (but_set _ (w.heap.size + 1) 2 (.int .i64 te))
  have d3 : LocE (((w2.setCell ⟨w.heap.size + 1, 0, none⟩ (.bool ts)).setCell ⟨w.heap.size + 1, 1, none⟩ (.slice so (Dg.dg 65536 tn').length sc)).setCell ⟨w.heap.size + 1, 2, none⟩ (.int .i64 te)) (w.heap.size + 1) 30 [.bool ts, .slice so (Dg.dg 65536 tn').length sc, .int .i64 te] := (((d2.set 0 (.bool ts)).set 1 (.slice so (Dg.dg 65536 tn').length sc)).set 2 (.int .i64 te))
  have q3 := ((F2.q.off hnq 0 (.bool ts)).off hnq 1 (.slice so (Dg.dg 65536 tn').length sc)).off hnq 2 (.int .i64 te)
  have n3 := (bu3.cell (a := ⟨bn, 0, none⟩) (by show bn ≠ (w.heap.size + 1); omega)).trans F2.n
  have b3 := bu3.below F2.b hdb
  have r3 := bu3.rd r2 (rd_offE r2 (Dg.norm_dg _ _ (by omega)) d2 (fun x hx n hn => by simp at hx; rcases hx with rfl | rfl | rfl <;> simp; all_goals omega))
  clear bu3
  generalize (((w2.setCell ⟨w.heap.size + 1, 0, none⟩ (.bool ts)).setCell ⟨w.heap.size + 1, 1, none⟩ (.slice so (Dg.dg 65536 tn').length sc)).setCell ⟨w.heap.size + 1, 2, none⟩ (.int .i64 te)) = w3 at *
  clear F0 F00 F0a d0a F1 F2 r2 x0 xa0 y0 z0 x1 xa1 y1 z1 x2 xa2 y2 z2 x3 xa3 y3 z3 x4 xa4 y4 z4 x5 xa5 y5 z5 x6 xa6 y6 z6 x7 xa7 y7 z7 x8 xa8 y8 z8 n0 na n1 n2 d2 e0 e1 e2 g0 g1 g2 d1
  generalize (w.heap.size + 1) = dq at *
  obtain ⟨cd0, cd1, cd2⟩ := d3.cs3; obtain ⟨cq0, cq1, cq2, cq3, cq4⟩ := q3.cs5; have j0 := q3.free 0; have j1 := q3.free 1; have j2 := q3.free 2; have j3 := q3.free 3; have j4 := q3.free 4
  by_cases hz : tn' = 0
  ·subst hz
   obtain ⟨hc1, hc2, hc3⟩ := HCL.out
   have hm0 := hc2.1 rfl
   obtain ⟨hc4, hc5⟩ := hc3 rfl
   rw [if_pos hm0] at hc1
   subst hc1 hc4 hc5
   have bu := ((((but_set w3 w.heap.size 0 (.int .i64 1)).trans (but_set _ w.heap.size 1 (.bool ng))).trans (but_set _ w.heap.size 2 (.bool false))).trans (but_set _ w.heap.size 3 (.slice none 0 0))).trans (but_set _ w.heap.size 4 (.int .i64 0))
   have cR : LocE (((((w3.setCell ⟨w.heap.size, 0, none⟩ (.int .i64 1)).setCell ⟨w.heap.size, 1, none⟩ (.bool ng)).setCell ⟨w.heap.size, 2, none⟩ (.bool false)).setCell ⟨w.heap.size, 3, none⟩ (.slice none 0 0)).setCell ⟨w.heap.size, 4, none⟩ (.int .i64 0)) w.heap.size 32 [.int .i64 1, .bool ng, .bool false, .slice none 0 0, .int .i64 0] := (((((q3.set 0 (.int .i64 1)).set 1 (.bool ng)).set 2 (.bool false)).set 3 (.slice none 0 0)).set 4 (.int .i64 0))
   have bR := bu.below b3 (Nat.le_refl _)
   have rR := rd_nil (((((w3.setCell ⟨w.heap.size, 0, none⟩ (.int .i64 1)).setCell ⟨w.heap.size, 1, none⟩ (.bool ng)).setCell ⟨w.heap.size, 2, none⟩ (.bool false)).setCell ⟨w.heap.size, 3, none⟩ (.slice none 0 0)).setCell ⟨w.heap.size, 4, none⟩ (.int .i64 0)) .i64
   have hl := run_loadVar_mid (P := Tryz.prog) _ w.heap.size 0 32 [.int .i64 1, .bool ng, .bool false, .slice none 0 0, .int .i64 0] _ cR.range Tryz.underlying32 rfl (by kernel_rfl)
   have HH : Hid (_ ∧ _ ∧ _) := ⟨hl, rR, bR⟩
   clear hl rR bR cR bu q3 b3 r3
   go_wp2
   obtain ⟨hl, rR, bR⟩ := HH.out
   exact bodyPost_ret (results_one Tryz.results115 rfl hl) rfl ⟨_, rfl, rR, bR, far_none _⟩
  ·have hz0 : (((Dg.dg 65536 tn').length : Int) == 0) = false := by simp [Dg.dg_nil_iff 65536 tn' (by omega)]; exact hz
   obtain ⟨hc1, hc2, -⟩ := HCL.out
   have hm0 : m ≠ 0 := fun h => hz (hc2.2 h)
   rw [if_neg hm0] at hc1
   subst hc1
   have bu := ((((but_set w3 w.heap.size 0 (.int .i64 2)).trans (but_set _ w.heap.size 1 (.bool ng))).trans (but_set _ w.heap.size 2 (.bool ts))).trans (but_set _ w.heap.size 3 (.slice so (Dg.dg 65536 tn').length sc))).trans (but_set _ w.heap.size 4 (.int .i64 te))
   have cR : LocE (((((w3.setCell ⟨w.heap.size, 0, none⟩ (.int .i64 2)).setCell ⟨w.heap.size, 1, none⟩ (.bool ng)).setCell ⟨w.heap.size, 2, none⟩ (.bool ts)).setCell ⟨w.heap.size, 3, none⟩ (.slice so (Dg.dg 65536 tn').length sc)).setCell ⟨w.heap.size, 4, none⟩ (.int .i64 te)) w.heap.size 32 [.int .i64 2, .bool ng, .bool ts, .slice so (Dg.dg 65536 tn').length sc, .int .i64 te] := (((((q3.set 0 (.int .i64 2)).set 1 (.bool ng)).set 2 (.bool ts)).set 3 (.slice so (Dg.dg 65536 tn').length sc)).set 4 (.int .i64 te))
   have bR := bu.below b3 (Nat.le_refl _)
   have ov := rd_offE r3 (Dg.norm_dg _ _ (by omega)) q3 (fun x hx n hn => by simp at hx; rcases hx with rfl | rfl | rfl | rfl | rfl <;> simp; all_goals omega)
   have rR := bu.rd r3 ov
   have hl := run_loadVar_mid (P := Tryz.prog) _ w.heap.size 0 32 [.int .i64 2, .bool ng, .bool ts, .slice so (Dg.dg 65536 tn').length sc, .int .i64 te] _ cR.range Tryz.underlying32 rfl (by kernel_rfl)
   have HH : Hid (_ ∧ _ ∧ _) := ⟨hl, rR, bR⟩
   clear hl rR bR cR bu q3 b3 r3
   go_wp2
   obtain ⟨hl, rR, bR⟩ := HH.out
   exact bodyPost_ret (results_one Tryz.results115 rfl hl) rfl ⟨_, rfl, rR, bR, f2.out⟩
end Go.Proofs.YtnhackdjplppjaaGreatDoor
namespace Go.Proofs.YtnhackdjplppjaaGreatDoor
open Go.RowKit
theorem format_flat (k : Nat) (hk : 1 ≤ k ∧ k ≤ 8) (w : World) : Calls Tryz.prog 35 #[.int .i64 (k : Int)] w fun z w' => z = .returned (.tuple #[.agg #[.int .i64 (szN k : Int), .int .i64 (exN k : Int), .int .i64 (frN k : Int), .int .i64 (rdN k : Int), .int .i64 (dgN k : Int), .int .i64 (lsI k), .int .i64 (gsI k), .bool (decide (k ≤ 3)), .int .i64 (fmN k : Int)], .bool true]) ∧ Below w.heap.size w w' := by
 have h := format_any k hk w
 rcases eight hk with rfl | rfl | rfl | rfl | rfl | rfl | rfl | rfl
 all_goals exact h
theorem wdI_nat (R : Int) : wdI R = (widthN R : Int) := by
 unfold wdI widthN
 split <;> rfl
theorem fmt_fit {k : Nat} (hk : 1 ≤ k ∧ k ≤ 8) : 1 ≤ exN k ∧ 1 ≤ frN k ∧ 1 ≤ dgN k ∧ dgN k ≤ 64 ∧ -16445 ≤ lsI k ∧ lsI k ≤ 0 ∧ lsI k ≤ gsI k ∧ gsI k ≤ 16320 ∧ widthN (rdN k : Int) * dgN k ≤ 64 ∧ widthN (rdN k : Int) ≤ 4 ∧ 1 ≤ widthN (rdN k : Int) ∧ gridC (rdN k : Int) (dgN k : Int) (lsI k) (gsI k) = 0 := by
 rcases eight hk with rfl | rfl | rfl | rfl | rfl | rfl | rfl | rfl <;> exact ⟨by decide, by decide, by decide, by decide, by decide, by decide, by decide, by decide, by decide, by decide, by decide, by decide⟩
theorem dg16_mono {a b : Nat} (h : a ≤ b) : (Dg.dg 65536 a).length ≤ (Dg.dg 65536 b).length := by
 refine Dg.dg_len_le 65536 a _ (by omega) (Nat.lt_of_le_of_lt h ?_)
 have := Dg.vl_lt 65536 (Dg.dg 65536 b) (Dg.small_dg 65536 b (by omega))
 rwa [Dg.vl_dg 65536 b (by omega)] at this
end Go.Proofs.YtnhackdjplppjaaGreatDoor
namespace Go.Proofs.YtnhackdjplppjaaGreatDoor
open Go.RowKit
structure DecF (w : World) (bn bf : Nat) (ng : Bool) (fv : List Value) (w' : World) : Prop where
 q : LocE w' w.heap.size 32 [.int .i64 0, .bool false, .bool false, .slice none 0 0, .int .i64 0]
 f : LocE w' bf 58 fv
 n : LocE w' bn 4 [.bool ng]
 b : Below w.heap.size w w'
theorem DecF.later {w w1 w2 : World} {bn bf : Nat} {ng : Bool} {fv : List Value} (h : DecF w bn bf ng fv w1) (b : Below w1.heap.size w1 w2) : DecF w bn bf ng fv w2 :=
 ⟨h.q.later b, h.f.later b, h.n.later b, below_trans h.b b⟩
def RDec (w : World) (c : Int) (g : Bool) (t : Trip) (ng : Bool) (z : Ending) (w' : World) : Prop :=
 ∃ s, z = .returned (.tuple #[.agg #[.int .i64 c, .bool g, .bool t.s, s, .int .i64 t.e], .bool ng]) ∧ Rd w' .i64 s (Dg.dg 65536 t.n) ∧ Below w.heap.size w w' ∧ Far w.heap.size s
theorem ownB_cell {w : World} {base : Nat} {v : Value} {bs : List Bool} (h : OwnB w base v bs) (hp : 0 < bs.length) : ∃ g cap, v = .slice (some ⟨g, 0, none⟩) bs.length cap ∧ bs.length ≤ cap ∧ cap ≤ maxLen ∧ ∀ i b, bs[i]? = some b → w.cell? ⟨g, i, none⟩ = some (.bool b) := by
 obtain ⟨hl, h2⟩ := h
 rcases h2 with ⟨hv, hn⟩ | ⟨g, cap, cur, hv, hb, hh, hnc, hcm, hcs, htake⟩
 ·omega
 ·refine ⟨g, cap, hv, hnc, hcm, fun i b hi => ?_⟩
  have hi' : i < bs.length := (List.getElem?_eq_some_iff.1 hi).1
  have hc := World.ownsRow.cellAt (w := w) (base := base) (e := 4) (size := 1) (g := g) (n := bs.length) (cap := cap) (xs := bs.map Value.bool) ⟨hl, .inr ⟨g, cap, cur, rfl, hb, hh, hnc, hcm, hcs, htake⟩⟩ i (by omega)
  rw [hc, List.getElem?_map, hi]
  rfl
theorem ones_step {x j : Nat} {b on : Bool} (h : on = decide (x + 1 = 2 ^ j)) : (on && b) = decide (2 * x + (if b then 1 else 0) + 1 = 2 ^ (j + 1)) := by
 rw [h, Nat.pow_succ]
 cases b
 ·simp
  omega
 ·simp only [Bool.and_true, if_true]
  congr 1
  apply propext
  omega
set_option maxHeartbeats 12800000 in
theorem decodeOf_two (n : Int) (sz ex fr lg : Nat) (R D L G wd : Int) (gr : Bool) (s : ByteArray) (ts : List Nat) (ng : Bool) (E FF : Nat) (w : World)
  (hng : ng = decide (bitB ts 0 = 1)) (hE : E = bitsV ts 1 ex) (hFF : FF = bitsV ts (1 + ex) fr) (hfr : 1 + ex + fr = 8 * sz) (hex : ex ≤ 15) (hex7 : 7 ≤ ex) (hsz : sz ≤ 10) (hfr64 : fr ≤ 64) (hfr1 : 1 ≤ fr) (hD : D = (lg : Int) + 1) (hlg : lg ≤ 63) (hL1 : -20000 ≤ L) (hL2 : L ≤ 0) (hw1 : 1 ≤ wd) (hw4 : wd ≤ 4)
  (HF : ∀ w1, Calls Tryz.prog 35 #[.int .i64 n] w1 fun z w' => z = .returned (.tuple #[.agg #[.int .i64 (sz : Int), .int .i64 (ex : Int), .int .i64 (fr : Int), .int .i64 R, .int .i64 D, .int .i64 L, .int .i64 G, .bool gr, .int .i64 2], .bool true]) ∧ Below w1.heap.size w1 w')
  (HB : ∀ w1, Calls Tryz.prog 112 #[.int .i64 n, .string s] w1 fun z w' => ∃ v, z = .returned v ∧ OwnB w' w1.heap.size v (bitsL ts (8 * sz)) ∧ Below w1.heap.size w1 w')
  (HWI : ∀ w1, Calls Tryz.prog 116 #[.agg #[.int .i64 R, .int .i64 D, .int .i64 L, .int .i64 G, .bool gr]] w1 fun z w' => z = .returned (.int .i64 wd) ∧ Below w1.heap.size w1 w') :
  Calls Tryz.prog 57 #[.int .i64 n, .string s] w (RDec w (if FF = 0 then 1 else 2) ng (bare ⟨ng, FF, wd * (L + E)⟩) ng) := by
 have HF' : Hid _ := HF
 have HB' : Hid _ := HB
 have HWI' : Hid _ := HWI
 have hEl : E < 32768 := by
  have h1 := bitsV_lt ts 1 ex
  have h2 : (2 : Nat) ^ ex ≤ 2 ^ 15 := Nat.pow_le_pow_right (by omega) hex
  omega
 have hFl : FF < 18446744073709551616 := by
  have h1 := bitsV_lt ts (1 + ex) fr
  have h2 : (2 : Nat) ^ fr ≤ 2 ^ 64 := Nat.pow_le_pow_right (by omega) hfr64
  omega
 have HM : Hid (_ ∧ _ ∧ _ ∧ _) := ⟨hng, hE, hFF, hfr⟩
 have b0 := below_alloc w (.cells #[.int .i64 0, .bool false, .bool false, .slice none 0 0, .int .i64 0] 32)
 have q0 := locE_new w [.int .i64 0, .bool false, .bool false, .slice none 0 0, .int .i64 0] 32
 have hDw : IntKind.i64.wrap (D - 1) = (lg : Int) := by rw [hD, show (lg : Int) + 1 - 1 = (lg : Int) from by omega]; exact IntWalk.i64_in _ ⟨by omega, by omega⟩
 clear HF HB HWI hng hE hFF hfr hD
 obtain ⟨cl, hcl0⟩ : ∃ x : Int, (if FF = 0 then 1 else 2) = x := ⟨_, rfl⟩
 rw [hcl0]
 have HC0 : Hid _ := hcl0
 obtain ⟨t6, ht6⟩ : ∃ t, bare ⟨ng, FF, wd * (L + (E : Int))⟩ = t := ⟨_, rfl⟩
 rw [ht6]
 have HT6 : Hid _ := ht6
 clear hcl0 ht6
 go_enter Tryz.func57, Tryz.ntmps57
 go_wp2_with fail
 refine (HF'.out _).mono ?_
 rintro z w1 ⟨rfl, b1⟩
 have ba := below_alloc w1 (.cells #[.int .i64 (sz : Int), .int .i64 (ex : Int), .int .i64 (fr : Int), .int .i64 R, .int .i64 D, .int .i64 L, .int .i64 G, .bool gr, .int .i64 2] 58)
 have f1 := locE_new w1 [.int .i64 (sz : Int), .int .i64 (ex : Int), .int .i64 (fr : Int), .int .i64 R, .int .i64 D, .int .i64 L, .int .i64 G, .bool gr, .int .i64 2] 58
 have q1 := (q0.later b1).later ba
 have b01 := below_trans (below_trans b0 b1) ba
 obtain ⟨bf, ebf⟩ : ∃ x, w1.heap.size = x := ⟨_, rfl⟩
 have hbf0 : w.heap.size < bf := by rw [← ebf]; exact (q0.later b1).lt
 rw [ebf] at f1
 clear b0 q0 b1 ba
 go_wp2_with fail
 refine (HB'.out _).mono ?_
 rintro z w2 ⟨v2, rfl, own2, b2⟩
 obtain ⟨hng, hE, hFF, hfr⟩ := HM.out
 have hbl := bitsL_len ts (8 * sz)
 obtain ⟨g, cap, hv2, hcap, hcapm, hcl⟩ := ownB_cell own2 (by omega)
 rw [hbl] at hv2 hcap
 subst hv2
 have hcl' : ∀ i, i < 8 * sz → w2.cell? ⟨g, i, none⟩ = some (.bool (decide (bitB ts i = 1))) := fun i hi => hcl i _ (bitsL_at ts _ i hi)
 have c0 := hcl' 0 (by omega)
 rw [← hng] at c0
 have bb := below_alloc w2 (.cells #[.bool ng] 4)
 have F2 : DecF w w2.heap.size bf ng [.int .i64 (sz : Int), .int .i64 (ex : Int), .int .i64 (fr : Int), .int .i64 R, .int .i64 D, .int .i64 L, .int .i64 G, .bool gr, .int .i64 2] (w2.alloc (.cells #[.bool ng] 4)) := ⟨(q1.later b2).later bb, (f1.later b2).later bb, locE_new w2 _ _, below_trans (below_trans b01 b2) bb⟩
 have HCL : Hid (∀ i, i < 8 * sz → (w2.alloc (.cells #[.bool ng] 4)).cell? ⟨g, i, none⟩ = some (.bool (decide (bitB ts i = 1)))) := fun i hi => cell_later bb (hcl' i hi)
 have hszI : (8 * sz : Nat) = (8 * sz : Nat) := rfl
 have y1 := F2.f.cell 1 rfl
 clear hcl hcl' own2 b2 q1 f1 b01 bb hng hE hFF hbl hszI
 obtain ⟨nb, hnb⟩ : ∃ x, 8 * sz = x := ⟨_, rfl⟩
 rw [hnb] at hcap HCL ⊢
 have hnb8 : 8 ≤ nb := by omega
 have hnbx : 1 + ex + fr = nb := by omega
 unfold maxLen at hcapm
 go_wp2
 go_loop [10, 11, 12] (fun ev ov iv => ∃ (j i x : Nat) (on : Bool), Hid (i = j + 1 ∧ x = bitsV ts 1 j ∧ on = decide (x + 1 = 2 ^ j)) ∧ i ≤ ex + 1 ∧ x < 32768 ∧ ev = .int .i64 (x : Int) ∧ ov = .bool on ∧ iv = .int .i64 (i : Int)) (fun _ _ iv => ((ex : Int) + 1 - intOf iv).toNat)
 case atStart => exact ⟨0, 1, 0, true, ⟨rfl, rfl, rfl⟩, by omega, by omega, rfl, rfl, rfl⟩
 case round =>
  obtain ⟨j, i, x, on, HX, hi, hxl, rfl, rfl, rfl⟩ := hrel
  by_cases hlt : i ≤ ex
  ·obtain ⟨hij, hx, hon⟩ := HX.out
   have ci := HCL.out i (by omega)
   obtain ⟨b, eb⟩ : ∃ b, decide (bitB ts i = 1) = b := ⟨_, rfl⟩
   rw [eb] at ci
   have hbt := bitB_lt ts i
   have hsu : bitsV ts 1 (j + 1) = 2 * x + (if b then 1 else 0) := by
    rw [bitsV, ← hx, show 1 + j = i from by omega, ← eb]
    by_cases h : bitB ts i = 1
    ·rw [h]; rfl
    ·rw [show bitB ts i = 0 from by omega]; rfl
   have hst := ones_step (b := b) hon
   have hl1 := bitsV_lt ts 1 (j + 1)
   have hl2 : (2 : Nat) ^ (j + 1) ≤ 2 ^ 15 := Nat.pow_le_pow_right (by omega) (by omega)
   have HS : Hid (_ ∧ _ ∧ _ ∧ _) := ⟨hij, hsu, hst, hl1⟩
   have hib : i < nb := by omega
   have hiI : (i : Int) ≤ (ex : Int) := by omega
   clear hij hx hon eb hbt hsu hst hl1 HX
   cases b <;> cases on
   all_goals go_wp2
   all_goals (obtain ⟨hij, hsu, hst, hl1⟩ := HS.out; simp only [Bool.false_eq_true, if_false, if_true] at hsu hst; refine ⟨⟨j + 1, i + 1, bitsV ts 1 (j + 1), _, ⟨by omega, rfl, by rw [hsu]; exact hst⟩, by omega, by omega, by rw [hsu]; first | rfl | (congr 1; done) | (congr 1; omega), rfl, by first | rfl | (congr 1; done) | (congr 1; omega)⟩, by simp only [intOf]; omega⟩)
  ·obtain ⟨hij, hx, hon⟩ := HX.out
   have hjx : j = ex := by omega
   obtain ⟨hng, hE, hFF, hfr⟩ := HM.out
   have hxE : x = E := by rw [hx, hE, hjx]
   subst hxE
   have HON : Hid (on = decide (x + 1 = 2 ^ ex)) := by rw [← hjx]; exact hon
   have hdI : ¬ ((i : Int) ≤ (ex : Int)) := by omega
   have hv := fun w1 (h : ∀ k, k < fr → w1.cell? ⟨g, 1 + ex + k, none⟩ = some (.bool (decide (bitB ts (1 + ex + k) = 1)))) => refValue_any g (1 + ex) fr (cap - (1 + ex)) (fun k => decide (bitB ts (1 + ex + k) = 1)) w1 hfr64 h
   rw [valB_bits, ← hFF] at hv
   have hvv := hv _ (fun k hk => HCL.out (1 + ex + k) (by omega))
   have HV : Hid (Calls Tryz.prog 113 #[.slice (some ⟨g, 1 + ex, none⟩) fr (cap - (1 + ex))] (w2.alloc (.cells #[.bool ng] 4)) (RNum (w2.alloc (.cells #[.bool ng] 4)) FF)) := hvv
   have HP : Hid (∀ w1, Calls Tryz.prog 114 #[.int .i64 (lg : Int)] w1 (RNum w1 (2 ^ lg))) := fun w1 => pow2_any lg (lg / 16) (lg % 16) w1 (by omega) (Nat.mod_lt _ (by omega)) (by omega)
   clear hv hvv hij hx hon hjx hng hE hFF hfr HX HCL hdI
   have hex1 : IntKind.i64.wrap (1 + (ex : Int)) = ((1 + ex : Nat) : Int) := by rw [show (1 : Int) + (ex : Int) = ((1 + ex : Nat) : Int) from by omega]; exact IntWalk.i64_in _ ⟨by omega, by omega⟩
   have hei : (ex : Int) < (i : Int) := by omega
   have hsub : nb - (1 + ex) = fr := by omega
   have hce : ¬ (1 + ex = cap) := by omega
   have hce2 : ¬ (cap = 1 + ex) := by omega
   have hce3 : 1 + ex < cap := by omega
   go_wp2_with fail
   refine Calls.mono HV.out ?_
   rintro z w4 ⟨v4, rfl, r4, b4⟩
   obtain ⟨ao, ca, hv4⟩ := r4.shape
   subst hv4
   have F4 := F2.later b4
   clear F2 HV b4 y1 c0
   obtain ⟨y0, y1, y2, y3, y4, y5, y6, y7, y8⟩ := F4.f.cs9
   go_wp2_with fail
   refine (HP.out _).mono ?_
   rintro z w5 ⟨v5, rfl, r5, b5⟩
   obtain ⟨lo, lc, hv5⟩ := r5.shape
   subst hv5
   have F5 := F4.later b5
   have r45 := r4.later b5
   clear y0 y1 y2 y3 y4 y5 y6 y7 y8 F4 r4 b5 HP
   obtain ⟨bn, ebn⟩ : ∃ x, w2.heap.size = x := ⟨_, rfl⟩
   rw [ebn] at F5 ⊢
   have hbn0 : w.heap.size ≠ bn := fun h => by
    have h1 := F5.q
    rw [h] at h1
    exact F5.n.ne h1 (.inl (by simp)) rfl
   clear ebn ebf
   have HNum : Hid (∀ (m : Nat) (p : Int) (v : Value) w1, Rd w1 .i64 v (Dg.dg 65536 m) → m < 340282366920938463463374607431768211456 → DecF w bn bf ng [.int .i64 (sz : Int), .int .i64 (ex : Int), .int .i64 (fr : Int), .int .i64 R, .int .i64 D, .int .i64 L, .int .i64 G, .bool gr, .int .i64 2] w1 → -100000 ≤ p → p ≤ 100000 → Calls Tryz.prog 115 #[v, .int .i64 p, .pointer (some ⟨bn, 0, none⟩), .pointer (some ⟨bf, 0, none⟩)] w1 (RVal w1 (if m = 0 then 1 else 2) ng (bare ⟨ng, m, wd * p⟩))) := fun m p v w1 h1 h2 h3 h4 h5 => refNumber_W sz ex fr _ _ _ _ _ wd gr ng bn bf m p v w1 h1 h2 (h3.n.cell 0 rfl) h3.f hw1 hw4 h4 h5 HWI'.out
   have hLw : IntKind.i64.wrap (L + (x : Int)) = L + (x : Int) := IntWalk.i64_in _ ⟨by omega, by omega⟩
   have n5 := F5.n.cell 0 rfl
   obtain ⟨y0, y1, y2, y3, y4, y5, y6, y7, y8⟩ := F5.f.cs9
   have hnum := fun w1 h1 h2 => HNum.out FF (L + (x : Int)) (.slice ao (Dg.dg 65536 FF).length ca) w1 h1 (by omega) h2 (by omega) (by omega)
   rw [HC0.out, HT6.out] at hnum
   have HN6 : Hid _ := hnum
   have F5d := F5.later (Below.refl _ _).drew
   have r5d := r45.later (Below.refl _ _).drew
   clear hnum HNum HWI'
   go_wp2_with fail
   go_region_held3 (fun wq => wq.cell? ⟨bn, 0, none⟩ = some (.bool ng)) (go_keep) (first
    | (go_at_call 115; refine (HN6.out _ r5d F5d).mono ?_; rintro z w6 ⟨s6, rfl, r6, b6, f6⟩; obtain ⟨so, sc, hs6⟩ := r6.shape; subst hs6; have F6 := F5d.later b6; replace f6 : Hid (Far w.heap.size _) := (fun a n c h => Nat.le_trans F5d.b.size (f6 a n c h) : Far w.heap.size _); have n6 := F6.n.cell 0 rfl; obtain ⟨q0, q1, q2, q3, q4⟩ := F6.q.cs5; have j0 := F6.q.free 0; have j1 := F6.q.free 1; have j2 := F6.q.free 2; have j3 := F6.q.free 3; have j4 := F6.q.free 4))
   have bu := ((((but_set w6 w.heap.size 0 (.int .i64 cl)).trans (but_set _ w.heap.size 1 (.bool ng))).trans (but_set _ w.heap.size 2 (.bool t6.s))).trans (but_set _ w.heap.size 3 (.slice so (Dg.dg 65536 t6.n).length sc))).trans (but_set _ w.heap.size 4 (.int .i64 t6.e))
   have cR : LocE (((((w6.setCell ⟨w.heap.size, 0, none⟩ (.int .i64 cl)).setCell ⟨w.heap.size, 1, none⟩ (.bool ng)).setCell ⟨w.heap.size, 2, none⟩ (.bool t6.s)).setCell ⟨w.heap.size, 3, none⟩ (.slice so (Dg.dg 65536 t6.n).length sc)).setCell ⟨w.heap.size, 4, none⟩ (.int .i64 t6.e)) w.heap.size 32 [.int .i64 cl, .bool ng, .bool t6.s, .slice so (Dg.dg 65536 t6.n).length sc, .int .i64 t6.e] := (((((F6.q.set 0 (.int .i64 cl)).set 1 (.bool ng)).set 2 (.bool t6.s)).set 3 (.slice so (Dg.dg 65536 t6.n).length sc)).set 4 (.int .i64 t6.e))
   have bR := bu.below F6.b (Nat.le_refl _)
   have ov := rd_offE r6 (Dg.norm_dg _ _ (by omega)) F6.q (fun x hx n hn => by simp at hx; rcases hx with rfl | rfl | rfl | rfl | rfl <;> simp; all_goals omega)
   have rR := bu.rd r6 ov
   have hl := run_loadVar_mid (P := Tryz.prog) _ w.heap.size 0 32 [.int .i64 cl, .bool ng, .bool t6.s, .slice so (Dg.dg 65536 t6.n).length sc, .int .i64 t6.e] _ cR.range Tryz.underlying32 rfl (by kernel_rfl)
   have HH : Hid (_ ∧ _ ∧ _) := ⟨hl, rR, bR⟩
   clear hl rR bR cR bu
   go_wp2
   obtain ⟨hl, rR, bR⟩ := HH.out
   exact bodyPost_ret (results_two Tryz.results57 rfl rfl hl) rfl ⟨_, rfl, rR, bR, f6.out⟩
end Go.Proofs.YtnhackdjplppjaaGreatDoor

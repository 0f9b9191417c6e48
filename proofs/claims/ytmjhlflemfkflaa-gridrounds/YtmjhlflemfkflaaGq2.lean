/-
  Grids: the contract of the reference's OfRatio.
-/
import Derived.Test.YtmjhlflemfkflaaGq1
import Derived.Test.YtmjhlflemfkflaaNd
import Derived.Test.YtmjhlflemfkflaaLk2
namespace Go.Proofs.Ytmjhlflemfkflaa
open Go.RowKit

/-- A ratio of the reference. -/
def QRes (w : World) (s : Bool) (N M : Nat) (E : Int) (e : Ending) (w' : World) : Prop :=
  ∃ ao ca bo cb, e = .returned (.agg #[.bool s, .slice ao (Dg.dg 65536 N).length ca, .slice bo (Dg.dg 65536 M).length cb, .int .i64 E]) ∧ Rd w' .i64 (.slice ao (Dg.dg 65536 N).length ca) (Dg.dg 65536 N) ∧ Rd w' .i64 (.slice bo (Dg.dg 65536 M).length cb) (Dg.dg 65536 M) ∧ Below w.heap.size w w'

set_option maxRecDepth 100000 in
set_option maxHeartbeats 1600000 in
theorem ofRatio_any (qs : Bool) (ao : Option Addr) (ca : Nat) (xs : List Nat) (bo : Option Addr) (cb : Nat) (ys : List Nat) (E : Int) (w : World) (ha : Rd w .u32 (.slice ao xs.length ca) xs) (hb : Rd w .u32 (.slice bo ys.length cb) ys) (sa : Dg.Small 4294967296 xs) (sb : Dg.Small 4294967296 ys) (hla : xs.length ≤ 20000) (hlb : ys.length ≤ 20000) :
    Calls Try.prog 31 #[.agg #[.bool qs, .slice ao xs.length ca, .slice bo ys.length cb, .int .i64 E]] w (QRes w qs (Dg.vl 4294967296 xs) (Dg.vl 4294967296 ys) E) := by
  have HOA : Hid (∀ w1, Below w.heap.size w w1 → Calls Try.prog 18 #[.slice ao xs.length ca] w1 (RNum w1 (Dg.vl 4294967296 xs))) := fun w1 b1 => of_any _ xs w1 (ha.later b1) sa (by omega)
  have HOB : Hid (∀ w1, Below w.heap.size w w1 → Calls Try.prog 18 #[.slice bo ys.length cb] w1 (RNum w1 (Dg.vl 4294967296 ys))) := fun w1 b1 => of_any _ ys w1 (hb.later b1) sb (by omega)
  obtain ⟨N, hN⟩ : ∃ n, Dg.vl 4294967296 xs = n := ⟨_, rfl⟩
  obtain ⟨M, hM⟩ : ∃ n, Dg.vl 4294967296 ys = n := ⟨_, rfl⟩
  rw [hN] at HOA ⊢
  rw [hM] at HOB ⊢
  obtain ⟨la, hla2⟩ : ∃ n, xs.length = n := ⟨_, rfl⟩
  obtain ⟨lb, hlb2⟩ : ∃ n, ys.length = n := ⟨_, rfl⟩
  rw [hla2] at HOA ⊢
  rw [hlb2] at HOB ⊢
  clear hN hM ha hb sa sb hla hlb hla2 hlb2
  have b1 := below_trans (below_alloc w (.cells #[.bool qs, .slice ao la ca, .slice bo lb cb, .int .i64 E] 51)) (below_alloc _ (.cells #[.bool false, .slice none 0 0, .slice none 0 0, .int .i64 0] 62))
  have q1 := (locE_new w [.bool qs, .slice ao la ca, .slice bo lb cb, .int .i64 E] 51).later (below_alloc _ (.cells #[.bool false, .slice none 0 0, .slice none 0 0, .int .i64 0] 62))
  have c1 := locE_new (w.alloc (.cells #[.bool qs, .slice ao la ca, .slice bo lb cb, .int .i64 E] 51)) [.bool false, .slice none 0 0, .slice none 0 0, .int .i64 0] 62
  simp only [World.size_alloc] at c1
  have q_2 := q1.later ((Below.refl _ _).drew)
  have c_2 := c1.later ((Below.refl _ _).drew)
  have b0_2 := below_trans b1 ((Below.refl _ _).drew)
  clear q1 c1 b1
  have y0 := q_2.cell 0 rfl
  have y1 := q_2.cell 1 rfl
  have y2 := q_2.cell 2 rfl
  have y3 := q_2.cell 3 rfl
  go_enter Try.func31, Try.ntmps31
  go_wp2_with fail
  go_region_held3 (fun wq => wq.cell? ⟨w.heap.size, 0, none⟩ = some (.bool qs) ∧ wq.cell? ⟨w.heap.size, 1, none⟩ = some (.slice ao la ca) ∧ wq.cell? ⟨w.heap.size, 2, none⟩ = some (.slice bo lb cb) ∧ wq.cell? ⟨w.heap.size, 3, none⟩ = some (.int .i64 E)) (go_keep) (first
    | (go_at_call 18; have hgd := b0_2; clear hgd; refine (HOA.out _ b0_2).mono ?_; rintro z wa ⟨v1, rfl, r1, bb_wa⟩; have b0_wa := below_trans b0_2 bb_wa; have q_wa := q_2.later bb_wa; have c_wa := c_2.later bb_wa; have ya0 := q_wa.cell 0 rfl; have ya1 := q_wa.cell 1 rfl; have ya2 := q_wa.cell 2 rfl; have ya3 := q_wa.cell 3 rfl; obtain ⟨uo, uc, hs1⟩ := r1.shape; subst hs1; clear b0_2)
    | (go_at_call 18; have hgd := b0_wa; clear hgd; refine (HOB.out _ b0_wa).mono ?_; rintro z wb ⟨v2, rfl, r2, bb_wb⟩; have b0_wb := below_trans b0_wa bb_wb; have q_wb := q_wa.later bb_wb; have c_wb := c_wa.later bb_wb; have r_wb := r1.later bb_wb; have yb0 := q_wb.cell 0 rfl; have yb1 := q_wb.cell 1 rfl; have yb2 := q_wb.cell 2 rfl; have yb3 := q_wb.cell 3 rfl; obtain ⟨vo, vc, hs2⟩ := r2.shape; subst hs2; have z0 := c_wb.cell 0 rfl; have g0 := c_wb.free 0; have z1 := c_wb.cell 1 rfl; have g1 := c_wb.free 1; have z2 := c_wb.cell 2 rfl; have g2 := c_wb.free 2; have z3 := c_wb.cell 3 rfl; have g3 := c_wb.free 3; clear b0_wa))
  all_goals go_wp2
  have bu : But (w.heap.size + 1) wb ((((wb.setCell ⟨w.heap.size + 1, 0, none⟩ (.bool qs)).setCell ⟨w.heap.size + 1, 1, none⟩ (.slice uo (Dg.dg 65536 N).length uc)).setCell ⟨w.heap.size + 1, 2, none⟩ (.slice vo (Dg.dg 65536 M).length vc)).setCell ⟨w.heap.size + 1, 3, none⟩ (.int .i64 E)) := (((but_set wb (w.heap.size + 1) 0 (.bool qs)).trans (but_set _ (w.heap.size + 1) 1 (.slice uo (Dg.dg 65536 N).length uc))).trans (but_set _ (w.heap.size + 1) 2 (.slice vo (Dg.dg 65536 M).length vc))).trans (but_set _ (w.heap.size + 1) 3 (.int .i64 E))
  have cX : LocE ((((wb.setCell ⟨w.heap.size + 1, 0, none⟩ (.bool qs)).setCell ⟨w.heap.size + 1, 1, none⟩ (.slice uo (Dg.dg 65536 N).length uc)).setCell ⟨w.heap.size + 1, 2, none⟩ (.slice vo (Dg.dg 65536 M).length vc)).setCell ⟨w.heap.size + 1, 3, none⟩ (.int .i64 E)) (w.heap.size + 1) 62 [.bool qs, .slice uo (Dg.dg 65536 N).length uc, .slice vo (Dg.dg 65536 M).length vc, .int .i64 E] := (((c_wb.set 0 (.bool qs)).set 1 (.slice uo (Dg.dg 65536 N).length uc)).set 2 (.slice vo (Dg.dg 65536 M).length vc)).set 3 (.int .i64 E)
  have hz : ∀ x ∈ ([.bool false, .slice none 0 0, .slice none 0 0, .int .i64 0] : List Value), ∀ n : Int, n ≠ 0 → x ≠ .int .i64 n := by simp; intro n hn h; exact hn h.symm
  have rX := bu.rd r_wb (rd_offE r_wb (Dg.norm_dg _ _ (by omega)) c_wb hz)
  have eX := bu.rd r2 (rd_offE r2 (Dg.norm_dg _ _ (by omega)) c_wb hz)
  have bX := bu.below b0_wb (show w.heap.size ≤ w.heap.size + 1 by omega)
  have s0 := cX.cell 0 rfl
  have s1 := cX.cell 1 rfl
  have s2 := cX.cell 2 rfl
  have s3 := cX.cell 3 rfl
  refine bodyPost_ret (v := .agg #[.bool qs, .slice uo (Dg.dg 65536 N).length uc, .slice vo (Dg.dg 65536 M).length vc, .int .i64 E]) (by simp [results, Try.results31, go_sem, s0, s1, s2, s3]) rfl ?_
  exact ⟨_, _, _, _, rfl, rX, eX, bX⟩
end Go.Proofs.Ytmjhlflemfkflaa

/-
  Grids: the contract of the reference's SamePlace, of what is the same.
-/
import Derived.Test.YtmjhlflemfkflaaGq2
namespace Go.Proofs.Ytmjhlflemfkflaa
open Go.RowKit

set_option maxRecDepth 100000 in
set_option maxHeartbeats 1600000 in
theorem samePlace_any (s : Bool) (p : Int) (ex ov un : Bool) (d : Nat) (ao : Option Addr) (la ca : Nat) (bo : Option Addr) (lb cb : Nat) (w : World) (ha : Rd w .u32 (.slice ao la ca) (Dg.dg 4294967296 d)) (hb : Rd w .i64 (.slice bo lb cb) (Dg.dg 65536 d)) (hl : (Dg.dg 65536 d).length ≤ 1000000) :
    Calls Try.prog 32 #[.agg #[.bool s, .slice ao la ca, .int .i64 p, .bool ex, .bool ov, .bool un], .agg #[.bool s, .slice bo lb cb, .int .i64 p, .bool ex, .bool ov, .bool un]] w fun z w' => z = .returned (.bool true) ∧ Below w.heap.size w w' := by
  have HTO : Hid (∀ w1, Below w.heap.size w w1 → Calls Try.prog 16 #[.slice bo lb cb] w1 (Num w1 d)) := fun w1 b1 => by
    have := to_any _ _ w1 (hb.later b1) (Dg.small_dg _ _ (by omega)) (Dg.norm_dg _ _ (by omega)) (by omega)
    rwa [Dg.vl_dg _ _ (by omega)] at this
  have HSN : Hid (∀ u w1, Below w.heap.size w w1 → Rd w1 .u32 u (Dg.dg 4294967296 d) → Calls Try.prog 14 #[.slice ao la ca, u] w1 fun e w' => e = .returned (.bool true) ∧ Below w1.heap.size w1 w') := fun u w1 b1 r => by
    have := same_any _ u _ _ w1 (ha.later b1) r
    rwa [decide_eq_true rfl] at this
  clear ha hb hl
  have b1 := below_trans (below_alloc w (.cells #[.bool s, .slice ao la ca, .int .i64 p, .bool ex, .bool ov, .bool un] 53)) (below_alloc _ (.cells #[.bool s, .slice bo lb cb, .int .i64 p, .bool ex, .bool ov, .bool un] 59))
  have q1 := (locE_new w [.bool s, .slice ao la ca, .int .i64 p, .bool ex, .bool ov, .bool un] 53).later (below_alloc _ (.cells #[.bool s, .slice bo lb cb, .int .i64 p, .bool ex, .bool ov, .bool un] 59))
  have c1 := locE_new (w.alloc (.cells #[.bool s, .slice ao la ca, .int .i64 p, .bool ex, .bool ov, .bool un] 53)) [.bool s, .slice bo lb cb, .int .i64 p, .bool ex, .bool ov, .bool un] 59
  simp only [World.size_alloc] at c1
  have q_2 := q1.later ((Below.refl _ _).drew)
  have c_2 := c1.later ((Below.refl _ _).drew)
  have b0_2 := below_trans b1 ((Below.refl _ _).drew)
  clear q1 c1 b1
  have y0 := q_2.cell 0 rfl
  have x0 := c_2.cell 0 rfl
  have y1 := q_2.cell 1 rfl
  have x1 := c_2.cell 1 rfl
  have y2 := q_2.cell 2 rfl
  have x2 := c_2.cell 2 rfl
  have y3 := q_2.cell 3 rfl
  have x3 := c_2.cell 3 rfl
  have y4 := q_2.cell 4 rfl
  have x4 := c_2.cell 4 rfl
  have y5 := q_2.cell 5 rfl
  have x5 := c_2.cell 5 rfl
  go_enter Try.func32, Try.ntmps32
  go_wp2_with fail
  go_region_held3 (fun wq => wq.cell? ⟨w.heap.size, 0, none⟩ = some (.bool s) ∧ wq.cell? ⟨w.heap.size, 1, none⟩ = some (.slice ao la ca) ∧ wq.cell? ⟨w.heap.size, 2, none⟩ = some (.int .i64 p) ∧ wq.cell? ⟨w.heap.size, 3, none⟩ = some (.bool ex) ∧ wq.cell? ⟨w.heap.size, 4, none⟩ = some (.bool ov) ∧ wq.cell? ⟨w.heap.size, 5, none⟩ = some (.bool un) ∧ wq.cell? ⟨w.heap.size + 1, 0, none⟩ = some (.bool s) ∧ wq.cell? ⟨w.heap.size + 1, 1, none⟩ = some (.slice bo lb cb) ∧ wq.cell? ⟨w.heap.size + 1, 2, none⟩ = some (.int .i64 p) ∧ wq.cell? ⟨w.heap.size + 1, 3, none⟩ = some (.bool ex) ∧ wq.cell? ⟨w.heap.size + 1, 4, none⟩ = some (.bool ov) ∧ wq.cell? ⟨w.heap.size + 1, 5, none⟩ = some (.bool un)) (go_keep) (first
    | (go_at_call 16; have hgd := b0_2; clear hgd; refine (HTO.out _ b0_2).mono ?_; rintro z wa ⟨v1, rfl, o1, bb_wa⟩; have b0_wa := below_trans b0_2 bb_wa; have q_wa := q_2.later bb_wa; have c_wa := c_2.later bb_wa; have ya0 := q_wa.cell 0 rfl; have ya1 := q_wa.cell 1 rfl; have ya2 := q_wa.cell 2 rfl; have ya3 := q_wa.cell 3 rfl; have ya4 := q_wa.cell 4 rfl; have ya5 := q_wa.cell 5 rfl; have xa0 := c_wa.cell 0 rfl; have xa1 := c_wa.cell 1 rfl; have xa2 := c_wa.cell 2 rfl; have xa3 := c_wa.cell 3 rfl; have xa4 := c_wa.cell 4 rfl; have xa5 := c_wa.cell 5 rfl; clear b0_2)
    | (go_at_call 14; have hgd := b0_wa; clear hgd; refine (HSN.out _ _ b0_wa o1.rd).mono ?_; rintro z wb ⟨rfl, bb_wb⟩; have b0_wb := below_trans b0_wa bb_wb; have q_wb := q_wa.later bb_wb; have c_wb := c_wa.later bb_wb; have yb0 := q_wb.cell 0 rfl; have yb1 := q_wb.cell 1 rfl; have yb2 := q_wb.cell 2 rfl; have yb3 := q_wb.cell 3 rfl; have yb4 := q_wb.cell 4 rfl; have yb5 := q_wb.cell 5 rfl; have xb0 := c_wb.cell 0 rfl; have xb1 := c_wb.cell 1 rfl; have xb2 := c_wb.cell 2 rfl; have xb3 := c_wb.cell 3 rfl; have xb4 := c_wb.cell 4 rfl; have xb5 := c_wb.cell 5 rfl; clear b0_wa))
  go_goals
  go_wp2
  go_ret
  exact ⟨by simp, b0_wb⟩
end Go.Proofs.Ytmjhlflemfkflaa

/-
  Grids: gridBegun.
-/
import Derived.Test.YtmjhlflemfkflaaDoorGr7
import Derived.Test.YtmjhlflemfkflaaDoorNc
namespace Go.Proofs.YtmjhlflemfkflaaDoor
open Go.RowKit

theorem gbegun_code : roundC [9] [1] 0 2 3 (-5) 5 1 = 0 := by kernel_rfl
theorem gbegun_place : roundP [9] [1] 0 2 3 (-5) 5 true false 1 = ⟨false, 4, 1, false, false, false⟩ := by kernel_rfl

theorem gbegun_four : Dg.dg 4294967296 4 = [4] := by kernel_rfl

theorem gbegun_res {w : World} {e : Ending} {w' : World} (h : PlaceAns w 0 ⟨false, 4, 1, false, false, false⟩ e w') : ∃ o k, e = .returned (.tuple #[.agg #[.bool false, .slice o 1 k, .int .i64 1, .bool false, .bool false, .bool false], .int .i64 0]) ∧ Own w' w.heap.size 69 .u32 (.slice o 1 k) [4] ∧ Below w.heap.size w w' := by
  obtain ⟨v, h1, h2, h3⟩ := h
  have h4 : Own w' w.heap.size 69 .u32 v [4] := gbegun_four ▸ h2
  obtain ⟨o, k, hv⟩ := h4.rd.shape
  exact ⟨o, k, hv ▸ h1, hv ▸ h4, h3⟩

set_option maxRecDepth 100000 in
set_option maxHeartbeats 1600000 in
theorem gbegun_any (w : World) : Calls Tryd.prog 21 #[] w fun z w' => z = .returned (.bool true) ∧ Below w.heap.size w w' := by
  have lg := locE_new w [.int .i64 2, .int .i64 3, .int .i64 (-5), .int .i64 5, .bool true] 39
  have bg := below_alloc w (.cells #[.int .i64 2, .int .i64 3, .int .i64 (-5), .int .i64 5, .bool true] 39)
  go_enter Tryd.func21, Tryd.ntmps21
  go_upto_region 2 with fail
  change LocE (w.alloc (.cells #[.int .i64 2, .int .i64 3, .int .i64 (-5), .int .i64 5, .bool true] 39)) w.heap.size 39 [.int .i64 2, .int .i64 3, .int .i64 (-5), .int .i64 5, .bool true] at lg
  generalize (w.alloc (.cells #[.int .i64 2, .int .i64 3, .int .i64 (-5), .int .i64 5, .bool true] 39)) = W1 at lg bg ⊢
  have a1 := below_alloc W1 (.cells #[.int .u32 9] 69)
  have a2 := below_alloc (W1.alloc (.cells #[.int .u32 9] 69)) (.cells #[.int .u32 1] 69)
  have r1 := (rd_new (w := W1) (k := .u32) (e := 69) [9] #[.int .u32 9] rfl (by unfold maxLen; simp)).later a2
  have r2 := rd_new (w := W1.alloc (.cells #[.int .u32 9] 69)) (k := .u32) (e := 69) [1] #[.int .u32 1] rfl (by unfold maxLen; simp)
  have hm := gRound_any false _ _ [9] _ _ [1] 0 2 3 (-5) 5 true 1 _ r1 r2 (Dg.small_cons.2 ⟨by omega, Dg.small_nil _ (by omega)⟩) (Dg.small_cons.2 ⟨by omega, Dg.small_nil _ (by omega)⟩)
  rw [gbegun_code, gbegun_place] at hm
  simp only [World.size_alloc, show [9].length = 1 from rfl, show [1].length = 1 from rfl] at hm
  have g2 := (lg.later a1).later a2
  have b2 := below_trans (below_trans bg a1) a2
  clear lg bg a1 a2 r1 r2
  have x0 := g2.cell 0 rfl
  have x1 := g2.cell 1 rfl
  have x2 := g2.cell 2 rfl
  have x3 := g2.cell 3 rfl
  have x4 := g2.cell 4 rfl
  go_wp2_with fail
  refine hm.mono ?_
  intro z w2 hz
  obtain ⟨vo, vk, rfl, ov, b⟩ := gbegun_res hz
  clear hz
  have b3 := below_trans b2 b
  clear hm b b2 g2 x0 x1 x2 x3 x4
  have lp := locE_new w2 [.bool false, .slice vo 1 vk, .int .i64 1, .bool false, .bool false, .bool false] 37
  have ap := below_alloc w2 (.cells #[.bool false, .slice vo 1 vk, .int .i64 1, .bool false, .bool false, .bool false] 37)
  have bp := below_trans b3 ap
  have op := ov.later ap
  go_upto_region 3 with fail
  clear ap ov b3
  change LocE (w2.alloc (.cells #[.bool false, .slice vo 1 vk, .int .i64 1, .bool false, .bool false, .bool false] 37)) w2.heap.size 37 [.bool false, .slice vo 1 vk, .int .i64 1, .bool false, .bool false, .bool false] at lp
  generalize (w2.alloc (.cells #[.bool false, .slice vo 1 vk, .int .i64 1, .bool false, .bool false, .bool false] 37)) = W3 at lp bp op ⊢
  generalize w2.heap.size = PB at lp ⊢
  have a4 := below_alloc W3 (.cells #[.int .u32 4] 69)
  have r4 := rd_new (w := W3) (k := .u32) (e := 69) [4] #[.int .u32 4] rfl (by unfold maxLen; simp)
  have hs := same_any _ _ _ _ _ (op.rd.later a4) r4
  have b5 := below_trans bp a4
  have p5 := lp.later a4
  rw [show decide ([4] = [4]) = true from rfl] at hs
  simp only [show [4].length = 1 from rfl] at hs
  have x1 := lp.cell 1 rfl
  have x2 := lp.cell 2 rfl
  have x3 := lp.cell 3 rfl
  go_wp2_with fail
  refine hs.mono ?_
  rintro z w5 ⟨rfl, b⟩
  have b6 := below_trans b5 b
  have p6 := p5.later b
  clear hs b b5 p5 x1 x2 x3
  have x2 := p6.cell 2 rfl
  have x3 := p6.cell 3 rfl
  go_wp2
  go_ret
  exact ⟨rfl, b6⟩
end Go.Proofs.YtmjhlflemfkflaaDoor

/-
  Grids: the walks of Holds and GridHolds.
-/
import Derived.Test.YtmjhlflemfkflaaDoorGh5
import Derived.Test.YtmjhlflemfkflaaDoorGr8
namespace Go.Proofs.YtmjhlflemfkflaaDoor
open Go.RowKit

set_option maxRecDepth 100000 in
set_option maxHeartbeats 1600000 in
theorem gHoldsW (R D L G : Int) (gr s : Bool) (ao : Option Addr) (la ca : Nat) (e c : Int) (hd : Bool) (rd : Nat) (rk : Int) (w : World)
    (HF : ∀ w1, Below w.heap.size w w1 → Calls Tryd.prog 60 #[.agg #[.bool s, .slice ao la ca, .int .i64 e], .agg #[.int .i64 R, .int .i64 D, .int .i64 L, .int .i64 G, .bool gr]] w1 (FindAns w1 hd rd rk c)) :
    Calls Tryd.prog 23 #[.agg #[.bool s, .slice ao la ca, .int .i64 e], .agg #[.int .i64 R, .int .i64 D, .int .i64 L, .int .i64 G, .bool gr]] w fun z w' => z = .returned (.tuple #[.bool hd, .int .i64 c]) ∧ Below w.heap.size w w' := by
  replace HF : Hid _ := HF
  have b1 := below_trans (below_alloc w (.cells #[.bool s, .slice ao la ca, .int .i64 e] 25)) (below_alloc _ (.cells #[.int .i64 R, .int .i64 D, .int .i64 L, .int .i64 G, .bool gr] 39))
  have q1 := (locE_new w [.bool s, .slice ao la ca, .int .i64 e] 25).later (below_alloc _ (.cells #[.int .i64 R, .int .i64 D, .int .i64 L, .int .i64 G, .bool gr] 39))
  have g1 := locE_new (w.alloc (.cells #[.bool s, .slice ao la ca, .int .i64 e] 25)) [.int .i64 R, .int .i64 D, .int .i64 L, .int .i64 G, .bool gr] 39
  simp only [World.size_alloc] at g1
  have x0 := g1.cell 0 rfl
  have x1 := g1.cell 1 rfl
  have x2 := g1.cell 2 rfl
  have x3 := g1.cell 3 rfl
  have x4 := g1.cell 4 rfl
  have y0 := q1.cell 0 rfl
  have y1 := q1.cell 1 rfl
  have y2 := q1.cell 2 rfl
  go_enter Tryd.func23, Tryd.ntmps23
  go_wp2_with fail
  refine (HF.out _ b1).mono ?_
  rintro z w2 ⟨u, rfl, ou, bb2⟩
  obtain ⟨so, sc, hu⟩ := ou.rd.shape
  subst hu
  clear ou x0 x1 x2 x3 x4 y0 y1 y2
  have b2 := below_trans b1 bb2
  have b3 := below_trans b2 (below_alloc w2 (.cells #[.slice so (Dg.dg 4294967296 rd).length sc, .int .i64 rk] 98))
  go_wp2
  go_ret2
  exact ⟨rfl, b3⟩

set_option maxRecDepth 100000 in
set_option maxHeartbeats 3200000 in
theorem gridHoldsW (R D L G : Int) (gr s : Bool) (ao : Option Addr) (la ca : Nat) (e c : Int) (hd : Bool) (T : Trip) (w : World)
    (HA : ¬c = 0 → hd = false)
    (HH : ∀ w1, Below w.heap.size w w1 → Calls Tryd.prog 23 #[.agg #[.bool s, .slice ao la ca, .int .i64 e], .agg #[.int .i64 R, .int .i64 D, .int .i64 L, .int .i64 G, .bool gr]] w1 fun z w' => z = .returned (.tuple #[.bool hd, .int .i64 c]) ∧ Below w1.heap.size w1 w')
    (HO : ∀ w1, Below w.heap.size w w1 → Calls Tryd.prog 24 #[.agg #[.bool s, .slice ao la ca, .int .i64 e], .agg #[.int .i64 R, .int .i64 D, .int .i64 L, .int .i64 G, .bool gr]] w1 fun z w' => z = .returned (.int .i64 c) ∧ Below w1.heap.size w1 w')
    (HB : ∀ w1, Calls Tryd.prog 21 #[] w1 fun z w' => z = .returned (.bool true) ∧ Below w1.heap.size w1 w')
    (HD : c = 0 → ∀ w1, Below w.heap.size w w1 → Calls Tryd.prog 26 #[.agg #[.bool s, .slice ao la ca, .int .i64 e]] w1 (RDRes w1 T))
    (HI : c = 0 → ∀ v w1, Rv w1 v T → Calls Tryd.prog 25 #[v, .agg #[.int .i64 R, .int .i64 D, .int .i64 L, .int .i64 G, .bool gr]] w1 fun z w' => z = .returned (.bool hd) ∧ Below w1.heap.size w1 w') :
    Calls Tryd.prog 5 #[.agg #[.bool s, .slice ao la ca, .int .i64 e], .agg #[.int .i64 R, .int .i64 D, .int .i64 L, .int .i64 G, .bool gr]] w fun z w' => z = .returned (.bool true) ∧ Below w.heap.size w w' := by
  replace HA : Hid _ := HA
  replace HH : Hid _ := HH
  replace HO : Hid _ := HO
  replace HB : Hid _ := HB
  replace HD : Hid _ := HD
  replace HI : Hid _ := HI
  have b1 := below_trans (below_alloc w (.cells #[.bool s, .slice ao la ca, .int .i64 e] 25)) (below_alloc _ (.cells #[.int .i64 R, .int .i64 D, .int .i64 L, .int .i64 G, .bool gr] 39))
  have q1 := (locE_new w [.bool s, .slice ao la ca, .int .i64 e] 25).later (below_alloc _ (.cells #[.int .i64 R, .int .i64 D, .int .i64 L, .int .i64 G, .bool gr] 39))
  have g1 := locE_new (w.alloc (.cells #[.bool s, .slice ao la ca, .int .i64 e] 25)) [.int .i64 R, .int .i64 D, .int .i64 L, .int .i64 G, .bool gr] 39
  simp only [World.size_alloc] at g1
  obtain ⟨ts, tn, te⟩ := T
  by_cases hc : c = 0
  · have HD1 : Hid _ := HD.out hc
    have HI1 : Hid _ := HI.out hc
    clear HA HD HI
    subst hc
    have x0 := g1.cell 0 rfl
    have x1 := g1.cell 1 rfl
    have x2 := g1.cell 2 rfl
    have x3 := g1.cell 3 rfl
    have x4 := g1.cell 4 rfl
    have y0 := q1.cell 0 rfl
    have y1 := q1.cell 1 rfl
    have y2 := q1.cell 2 rfl
    go_enter Tryd.func5, Tryd.ntmps5
    go_wp2_with fail
    refine (HH.out _ b1).mono ?_
    rintro z w2 ⟨rfl, bb2⟩
    clear x0 x1 x2 x3 x4 y0 y1 y2
    have g_2 := g1.later bb2
    have q_2 := q1.later bb2
    have b0_2 := below_trans b1 bb2
    clear g1 q1 b1 bb2
    have x0 := g_2.cell 0 rfl
    have x1 := g_2.cell 1 rfl
    have x2 := g_2.cell 2 rfl
    have x3 := g_2.cell 3 rfl
    have x4 := g_2.cell 4 rfl
    have y0 := q_2.cell 0 rfl
    have y1 := q_2.cell 1 rfl
    have y2 := q_2.cell 2 rfl
    go_wp2_with fail
    refine (HO.out _ b0_2).mono ?_
    rintro z w3 ⟨rfl, bb3⟩
    have g_3 := g_2.later bb3
    have q_3 := q_2.later bb3
    have b0_3 := below_trans b0_2 bb3
    clear g_2 q_2 b0_2 bb3
    clear x0 x1 x2 x3 x4 y0 y1 y2
    have bd_3 : Below w3.heap.size w3 w3.drew := (Below.refl _ _).drew
    have g_4 := g_3.later bd_3
    have q_4 := q_3.later bd_3
    have b0_4 := below_trans b0_3 bd_3
    clear g_3 q_3 b0_3 bd_3
    have x0 := g_4.cell 0 rfl
    have x1 := g_4.cell 1 rfl
    have x2 := g_4.cell 2 rfl
    have x3 := g_4.cell 3 rfl
    have x4 := g_4.cell 4 rfl
    have y0 := q_4.cell 0 rfl
    have y1 := q_4.cell 1 rfl
    have y2 := q_4.cell 2 rfl
    go_wp2_with fail
    go_region_held3 (fun wq => (wq.cell? ⟨w.heap.size + 1, 0, none⟩ = some (.int .i64 R) ∧ wq.cell? ⟨w.heap.size + 1, 1, none⟩ = some (.int .i64 D) ∧ wq.cell? ⟨w.heap.size + 1, 2, none⟩ = some (.int .i64 L) ∧ wq.cell? ⟨w.heap.size + 1, 3, none⟩ = some (.int .i64 G) ∧ wq.cell? ⟨w.heap.size + 1, 4, none⟩ = some (.bool gr)) ∧ wq.cell? ⟨w.heap.size, 0, none⟩ = some (.bool s) ∧ wq.cell? ⟨w.heap.size, 1, none⟩ = some (.slice ao la ca) ∧ wq.cell? ⟨w.heap.size, 2, none⟩ = some (.int .i64 e)) (go_keep) (first
      | (go_at_call 21; have hgd := b0_4; clear hgd; refine (HB.out _).mono ?_; rintro z wa ⟨rfl, bb_wa⟩; have b0_wa := below_trans b0_4 bb_wa; have g_wa := g_4.later bb_wa; have q_wa := q_4.later bb_wa; have xwa0 := g_wa.cell 0 rfl; have xwa1 := g_wa.cell 1 rfl; have xwa2 := g_wa.cell 2 rfl; have xwa3 := g_wa.cell 3 rfl; have xwa4 := g_wa.cell 4 rfl; have ywa0 := q_wa.cell 0 rfl; have ywa1 := q_wa.cell 1 rfl; have ywa2 := q_wa.cell 2 rfl; clear b0_4)
      | (go_at_call 26; have hgd := b0_wa; clear hgd; refine (HD1.out _ b0_wa).mono ?_; rintro z wb ⟨u, rfl, ru, bb_wb⟩; have b0_wb := below_trans b0_wa bb_wb; have g_wb := g_wa.later bb_wb; have q_wb := q_wa.later bb_wb; have xwb0 := g_wb.cell 0 rfl; have xwb1 := g_wb.cell 1 rfl; have xwb2 := g_wb.cell 2 rfl; have xwb3 := g_wb.cell 3 rfl; have xwb4 := g_wb.cell 4 rfl; have ywb0 := q_wb.cell 0 rfl; have ywb1 := q_wb.cell 1 rfl; have ywb2 := q_wb.cell 2 rfl; clear b0_wa)
      | (go_at_call 25; have hgd := b0_wb; clear hgd; refine (HI1.out _ _ ⟨_, rfl, ru⟩).mono ?_; rintro z wx ⟨rfl, bb_wx⟩; have b0_wx := below_trans b0_wb bb_wx; have g_wx := g_wb.later bb_wx; have q_wx := q_wb.later bb_wx; have xwx0 := g_wx.cell 0 rfl; have xwx1 := g_wx.cell 1 rfl; have xwx2 := g_wx.cell 2 rfl; have xwx3 := g_wx.cell 3 rfl; have xwx4 := g_wx.cell 4 rfl; have ywx0 := q_wx.cell 0 rfl; have ywx1 := q_wx.cell 1 rfl; have ywx2 := q_wx.cell 2 rfl; clear b0_wb))
    go_goals
    go_wp2
    go_ret
    exact ⟨by simp, b0_wx⟩
  · have hh := HA.out hc
    clear HA HD HI
    subst hh
    have hcf : (c == 0) = false := by simp [hc]
    have x0 := g1.cell 0 rfl
    have x1 := g1.cell 1 rfl
    have x2 := g1.cell 2 rfl
    have x3 := g1.cell 3 rfl
    have x4 := g1.cell 4 rfl
    have y0 := q1.cell 0 rfl
    have y1 := q1.cell 1 rfl
    have y2 := q1.cell 2 rfl
    go_enter Tryd.func5, Tryd.ntmps5
    go_wp2_with fail
    refine (HH.out _ b1).mono ?_
    rintro z w2 ⟨rfl, bb2⟩
    clear x0 x1 x2 x3 x4 y0 y1 y2
    have g_2 := g1.later bb2
    have q_2 := q1.later bb2
    have b0_2 := below_trans b1 bb2
    clear g1 q1 b1 bb2
    have x0 := g_2.cell 0 rfl
    have x1 := g_2.cell 1 rfl
    have x2 := g_2.cell 2 rfl
    have x3 := g_2.cell 3 rfl
    have x4 := g_2.cell 4 rfl
    have y0 := q_2.cell 0 rfl
    have y1 := q_2.cell 1 rfl
    have y2 := q_2.cell 2 rfl
    go_wp2_with fail
    refine (HO.out _ b0_2).mono ?_
    rintro z w3 ⟨rfl, bb3⟩
    have g_3 := g_2.later bb3
    have q_3 := q_2.later bb3
    have b0_3 := below_trans b0_2 bb3
    clear g_2 q_2 b0_2 bb3
    clear x0 x1 x2 x3 x4 y0 y1 y2
    have bd_3 : Below w3.heap.size w3 w3.drew := (Below.refl _ _).drew
    have g_4 := g_3.later bd_3
    have q_4 := q_3.later bd_3
    have b0_4 := below_trans b0_3 bd_3
    clear g_3 q_3 b0_3 bd_3
    have x0 := g_4.cell 0 rfl
    have x1 := g_4.cell 1 rfl
    have x2 := g_4.cell 2 rfl
    have x3 := g_4.cell 3 rfl
    have x4 := g_4.cell 4 rfl
    have y0 := q_4.cell 0 rfl
    have y1 := q_4.cell 1 rfl
    have y2 := q_4.cell 2 rfl
    go_wp2_with fail
    refine wp_region_any (by kernel_rfl) ?_
    refine wpAny_ready (rs := [0]) (by kernel_rfl) (by simp) ?_
    refine AllReady.cons rfl (fun K hK => ?_) ?_
    · go_simp
      refine (HB.out _).mono ?_
      rintro z wa ⟨rfl, bba⟩
      have b0_wa := below_trans b0_4 bba
      refine hK _ _ ?_
      clear hK K
      refine wpAny_take (i := 1) (v := .bool true) rfl (by kernel_rfl) (by kernel_rfl) (by kernel_rfl) (fun _ _ _ h => h) (Or.inl ⟨by kernel_rfl, fun w0 => by go_simp⟩) ?_
      refine wpAny_take (i := 2) (v := .int .i64 c) rfl (by kernel_rfl) (by kernel_rfl) (by kernel_rfl) (fun _ _ _ h => h) (Or.inl ⟨by kernel_rfl, fun w0 => by go_simp⟩) ?_
      refine wpAny_take (i := 3) (v := .int .i64 c) rfl (by kernel_rfl) (by kernel_rfl) (by kernel_rfl) (fun _ _ _ h => h) (Or.inl ⟨by kernel_rfl, fun w0 => by go_simp⟩) ?_
      refine wpAny_take (i := 4) (v := .bool true) rfl (by kernel_rfl) (by kernel_rfl) (by kernel_rfl) (fun _ _ _ h => h) (Or.inl ⟨by kernel_rfl, fun w0 => by go_simp⟩) ?_
      refine wpAny_take (i := 5) (v := .bool true) rfl (by kernel_rfl) (by kernel_rfl) (by kernel_rfl) (fun _ _ _ h => h) (Or.inl ⟨by kernel_rfl, fun w0 => by go_simp⟩) ?_
      refine wpAny_take (i := 6) (v := .bool true) rfl (by kernel_rfl) (by kernel_rfl) (by kernel_rfl) (fun _ _ _ h => h) (Or.inl ⟨by kernel_rfl, fun w0 => by go_simp⟩) ?_
      refine wpAny_take (i := 7) (v := .bool false) rfl (by kernel_rfl) (by kernel_rfl) (by kernel_rfl) (fun _ _ _ h => h) (Or.inl ⟨by kernel_rfl, fun w0 => by go_simp⟩) ?_
      refine wpAny_take (i := 8) (v := .int .i64 c) rfl (by kernel_rfl) (by kernel_rfl) (by kernel_rfl) (fun _ _ _ h => h) (Or.inl ⟨by kernel_rfl, fun w0 => by go_simp⟩) ?_
      refine wpAny_take (i := 9) (v := .bool false) rfl (by kernel_rfl) (by kernel_rfl) (by kernel_rfl) (fun _ _ _ h => h) (Or.inl ⟨by kernel_rfl, fun w0 => by go_simp⟩) ?_
      refine wpAny_take (i := 10) (v := .bool false) rfl (by kernel_rfl) (by kernel_rfl) (by kernel_rfl) (fun _ _ _ h => h) (Or.inl ⟨by kernel_rfl, fun w0 => by go_simp⟩) ?_
      refine wpAny_take (i := 11) (v := undef) rfl (by kernel_rfl) (by kernel_rfl) (by kernel_rfl) (fun _ _ _ h => h) (Or.inr ⟨by kernel_rfl, rfl⟩) ?_
      refine wpAny_take (i := 12) (v := undef) rfl (by kernel_rfl) (by kernel_rfl) (by kernel_rfl) (fun _ _ _ h => h) (Or.inr ⟨by kernel_rfl, rfl⟩) ?_
      refine wpAny_take (i := 13) (v := undef) rfl (by kernel_rfl) (by kernel_rfl) (by kernel_rfl) (fun _ _ _ h => h) (Or.inr ⟨by kernel_rfl, rfl⟩) ?_
      refine wpAny_take (i := 14) (v := undef) rfl (by kernel_rfl) (by kernel_rfl) (by kernel_rfl) (fun _ _ _ h => h) (Or.inr ⟨by kernel_rfl, rfl⟩) ?_
      refine wpAny_take (i := 15) (v := .bool false) rfl (by kernel_rfl) (by kernel_rfl) (by kernel_rfl) (fun _ _ _ h => h) (Or.inl ⟨by kernel_rfl, fun w0 => by go_simp⟩) ?_
      refine wpAny_take (i := 16) (v := .bool true) rfl (by kernel_rfl) (by kernel_rfl) (by kernel_rfl) (fun _ _ _ h => h) (Or.inl ⟨by kernel_rfl, fun w0 => by go_simp⟩) ?_
      refine wpAny_take (i := 17) (v := .bool true) rfl (by kernel_rfl) (by kernel_rfl) (by kernel_rfl) (fun _ _ _ h => h) (Or.inl ⟨by kernel_rfl, fun w0 => by go_simp⟩) ?_
      refine wpAny_take (i := 18) (v := .bool true) rfl (by kernel_rfl) (by kernel_rfl) (by kernel_rfl) (fun _ _ _ h => h) (Or.inl ⟨by kernel_rfl, fun w0 => by go_simp⟩) ?_
      simp only [Act.put, List.getElem_toArray, List.getElem_cons_succ, List.getElem_cons_zero, List.setIfInBounds_toArray, List.set_cons_zero, List.set_cons_succ]
      refine wpAny_done (by kernel_rfl) ?_ _
      go_wp2
      go_ret
      exact ⟨by first | rfl | simp, b0_wa⟩
    · exact AllReady.nil
end Go.Proofs.YtmjhlflemfkflaaDoor

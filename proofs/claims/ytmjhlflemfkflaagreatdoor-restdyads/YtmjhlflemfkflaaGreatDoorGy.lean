/-
  Texts laid together: Gr7, Gr8.
-/
import Derived.Test.YtmjhlflemfkflaaGreatDoorGr6
import Derived.Test.YtmjhlflemfkflaaGreatDoorNc
/-
  Grids: Round's contract.
-/
namespace Go.Proofs.YtmjhlflemfkflaaGreatDoor
open Go.RowKit

def wayF (way : Int) : FuncId := if way = 1 then 86 else if way = 2 then 87 else if way = 3 then 88 else if way = 4 then 89 else 90
def isWay (way : Int) : Bool := decide (1 ≤ way ∧ way ≤ 5)
def wayV (way : Int) : Value := if isWay way = true then .func (.func (wayF way)) #[] #[] else .nilFunc

theorem way_cases {way : Int} (h : isWay way = true) : way = 1 ∨ way = 2 ∨ way = 3 ∨ way = 4 ∨ way = 5 := by
  have := of_decide_eq_true h
  omega

theorem same_int (x y : Int) : Instr.sameNow (.int .i64) (.int .i64 x) (.int .i64 y) = some (decide (x = y)) := by
  simp [Instr.sameNow]
  by_cases h : x = y <;> simp [h]

theorem way_lookup (way : Int) (w1 : World) (r : Nat) (hm : w1.heap[r]? = some (.map wayE 5)) : (Instr.lookup 90 (.map (some r)) (.int .i64 way) false).run Tryz.prog w1 = .ok (wayV way) w1 := by
  by_cases h : isWay way = true
  · rcases way_cases h with rfl | rfl | rfl | rfl | rfl
    · exact find_run Tryz.underlying90 Tryz.underlying3 hm 1 rfl
    · exact find_run Tryz.underlying90 Tryz.underlying3 hm 2 rfl
    · exact find_run Tryz.underlying90 Tryz.underlying3 hm 3 rfl
    · exact find_run Tryz.underlying90 Tryz.underlying3 hm 4 rfl
    · exact find_run Tryz.underlying90 Tryz.underlying3 hm 5 rfl
  · have hn : ¬(1 ≤ way ∧ way ≤ 5) := fun c => h (decide_eq_true c)
    unfold wayV
    rw [if_neg h]
    refine miss_run Tryz.underlying90 Tryz.underlying3 hm way ?_ ?_
    · kernel_rfl
    · simp [wayE, Instr.findNow, same_int, show ¬way = 1 by omega, show ¬way = 2 by omega, show ¬way = 3 by omega, show ¬way = 4 by omega, show ¬way = 5 by omega]

theorem wayF_calls {way : Int} (h : isWay way = true) (half : Int) (odd neg : Bool) (w1 : World) : Calls Tryz.prog (wayF way) #[.agg #[.int .i64 half, .bool odd, .bool neg]] w1 fun z w' => z = .returned (.bool (awayB way half odd neg)) ∧ Below w1.heap.size w1 w' := by
  rcases way_cases h with rfl | rfl | rfl | rfl | rfl
  · exact way1_any half odd neg w1
  · exact way2_any half odd neg w1
  · exact way3_any half odd neg w1
  · exact way4_any half odd neg w1
  · exact way5_any half odd neg w1

theorem enter_of {P : Program} {f : FuncId} {fn : Func} {c : Code} (hf : P.funcs[f]? = some fn) (hname : (fn.name == "runtime.NumGoroutine") = false) (hb : fn.body = some c) (args : Array Value) (w : World) : Sem.run P (callFunc f args) w = .ok (.enter f args) w := by
  have hn : ¬fn.name = "runtime.NumGoroutine" := by simpa using hname
  simp [callFunc, hf, hn, hb]

theorem wayF_enter {way : Int} (h : isWay way = true) (args : Array Value) (W : World) : Sem.run Tryz.prog (callFunc (wayF way) args) W = .ok (.enter (wayF way) args) W := by
  rcases way_cases h with rfl | rfl | rfl | rfl | rfl
  · exact enter_of Tryz.func86 (by kernel_rfl) rfl args W
  · exact enter_of Tryz.func87 (by kernel_rfl) rfl args W
  · exact enter_of Tryz.func88 (by kernel_rfl) rfl args W
  · exact enter_of Tryz.func89 (by kernel_rfl) rfl args W
  · exact enter_of Tryz.func90 (by kernel_rfl) rfl args W

/-- What Round answers: an error's number, and a place. -/
def roundC (xs ys : List Nat) (E R D L G way : Int) : Int :=
  if wrongG (ratioC xs ys E) (gridC R D L G) = 0 then (if isWay way = true then 0 else 6) else wrongG (ratioC xs ys E) (gridC R D L G)
def roundP (xs ys : List Nat) (E R D L G : Int) (gr qs : Bool) (way : Int) : PlaceT :=
  if roundC xs ys E R D L G way = 0 then (if xs.length = 0 then ⟨false, 0, 0, true, false, false⟩ else roundT R D L G gr qs (Dg.vl 4294967296 xs) (Dg.vl 4294967296 ys) E way) else noPlace

theorem wrongG_zero {c d : Int} (h : wrongG c d = 0) : c = 0 ∧ d = 0 := by
  unfold wrongG at h
  split at h
  · exact ⟨by assumption, h⟩
  · exact absurd h (by assumption)

theorem ratioC_zero {xs ys : List Nat} {E : Int} (h : ratioC xs ys E = 0) : chk xs = 0 ∧ chk ys = 0 ∧ 0 < ys.length ∧ -20000 ≤ E ∧ E ≤ 20000 := by
  unfold ratioC at h
  by_cases h1 : chk xs = 0
  · rw [if_pos h1] at h
    by_cases h2 : chk ys = 0
    · rw [if_pos h2] at h
      by_cases h3 : ys.length = 0 ∨ farB 20000 E = true
      · rw [if_pos h3] at h
        cases h
      · have h4 : ¬farB 20000 E = true := fun c => h3 (Or.inr c)
        unfold farB at h4
        simp at h4
        refine ⟨h1, h2, ?_, by omega, by omega⟩
        have : ¬ys.length = 0 := fun c => h3 (Or.inl c)
        omega
    · rw [if_neg h2] at h
      exact absurd h h2
  · rw [if_neg h1] at h
    exact absurd h h1

theorem gRound_any (qs : Bool) (ao : Option Addr) (ca : Nat) (xs : List Nat) (bo : Option Addr) (cb : Nat) (ys : List Nat) (E R D L G : Int) (gr : Bool) (way : Int) (w : World) (ha : Rd w .u32 (.slice ao xs.length ca) xs) (hb : Rd w .u32 (.slice bo ys.length cb) ys) (sa : Dg.Small 4294967296 xs) (sb : Dg.Small 4294967296 ys) :
    Calls Tryz.prog 22 #[.agg #[.bool qs, .slice ao xs.length ca, .slice bo ys.length cb, .int .i64 E], .agg #[.int .i64 R, .int .i64 D, .int .i64 L, .int .i64 G, .bool gr], .int .i64 way] w (PlaceAns w (roundC xs ys E R D L G way) (roundP xs ys E R D L G gr qs way)) := by
  refine gRoundW_any R D L G gr qs ao xs.length ca bo ys.length cb E way (wrongG (ratioC xs ys E) (gridC R D L G)) (wayV way) (wayF way) (isWay way) ((xs.length : Int) == 0) (roundT R D L G gr qs (Dg.vl 4294967296 xs) (Dg.vl 4294967296 ys) E way) _ _ w ?_ ?_ rfl ?_ ?_ ?_ ?_ ?_ ?_ ?_
  · intro h
    exact if_pos h
  · intro h
    exact if_neg (by rw [h]; decide)
  · intro h
    have e : roundC xs ys E R D L G way = wrongG (ratioC xs ys E) (gridC R D L G) := if_neg h
    exact ⟨e, by unfold roundP; rw [e, if_neg h]⟩
  · intro h hw
    have e : roundC xs ys E R D L G way = 6 := (if_pos h).trans (if_neg (by rw [hw]; decide))
    exact ⟨e, by unfold roundP; rw [e]; rfl⟩
  · intro h hw hz
    have e : roundC xs ys E R D L G way = 0 := (if_pos h).trans (if_pos hw)
    have hx : xs.length = 0 := by simpa using hz
    exact ⟨e, by unfold roundP; rw [e, if_pos rfl, if_pos hx]⟩
  · intro h hw hz
    have e : roundC xs ys E R D L G way = 0 := (if_pos h).trans (if_pos hw)
    have hx : ¬xs.length = 0 := by simpa using hz
    exact ⟨e, by unfold roundP; rw [e, if_pos rfl, if_neg hx]⟩
  · intro w1 b
    exact gwrong_any qs ao ca xs bo cb ys E R D L G gr w1 (ha.later b) (hb.later b)
  · intro w1 r hm
    exact way_lookup way w1 r hm
  · intro h hw hz w1 b
    obtain ⟨h1, h2⟩ := wrongG_zero h
    obtain ⟨c1, c2, hl, e1, e2⟩ := ratioC_zero h1
    obtain ⟨nx, lx⟩ := chk_zero c1
    obtain ⟨ny, ly⟩ := chk_zero c2
    have ex : Dg.dg 4294967296 (Dg.vl 4294967296 xs) = xs := Dg.dg_vl _ (by omega) _ sa nx
    have ey : Dg.dg 4294967296 (Dg.vl 4294967296 ys) = ys := Dg.dg_vl _ (by omega) _ sb ny
    have hM : 0 < Dg.vl 4294967296 ys := by
      refine Nat.pos_of_ne_zero fun c => ?_
      rw [c] at ey
      rw [← ey] at hl
      exact absurd hl (by decide)
    have := ground_any R D L G gr qs ao ca bo cb (Dg.vl 4294967296 xs) (Dg.vl 4294967296 ys) E way (wayF way) w1 h2 (by rw [ex]; exact ha.later b) (by rw [ey]; exact hb.later b) (by rw [ex]; omega) (by rw [ey]; omega) hM e1 e2 (wayF_enter hw) (wayF_calls hw)
    rwa [ex, ey] at this
end Go.Proofs.YtmjhlflemfkflaaGreatDoor
/-
  Grids: gridBegun.
-/
namespace Go.Proofs.YtmjhlflemfkflaaGreatDoor
open Go.RowKit

theorem gbegun_code : roundC [9] [1] 0 2 3 (-5) 5 1 = 0 := by kernel_rfl
theorem gbegun_place : roundP [9] [1] 0 2 3 (-5) 5 true false 1 = ⟨false, 4, 1, false, false, false⟩ := by kernel_rfl

theorem gbegun_four : Dg.dg 4294967296 4 = [4] := by kernel_rfl

theorem gbegun_res {w : World} {e : Ending} {w' : World} (h : PlaceAns w 0 ⟨false, 4, 1, false, false, false⟩ e w') : ∃ o k, e = .returned (.tuple #[.agg #[.bool false, .slice o 1 k, .int .i64 1, .bool false, .bool false, .bool false], .int .i64 0]) ∧ Own w' w.heap.size 76 .u32 (.slice o 1 k) [4] ∧ Below w.heap.size w w' := by
  obtain ⟨v, h1, h2, h3⟩ := h
  have h4 : Own w' w.heap.size 76 .u32 v [4] := gbegun_four ▸ h2
  obtain ⟨o, k, hv⟩ := h4.rd.shape
  exact ⟨o, k, hv ▸ h1, hv ▸ h4, h3⟩

set_option maxRecDepth 100000 in
set_option maxHeartbeats 1600000 in
theorem gbegun_any (w : World) : Calls Tryz.prog 13 #[] w fun z w' => z = .returned (.bool true) ∧ Below w.heap.size w w' := by
  have lg := locE_new w [.int .i64 2, .int .i64 3, .int .i64 (-5), .int .i64 5, .bool true] 46
  have bg := below_alloc w (.cells #[.int .i64 2, .int .i64 3, .int .i64 (-5), .int .i64 5, .bool true] 46)
  go_enter Tryz.func13, Tryz.ntmps13
  go_upto_region 2 with fail
  change LocE (w.alloc (.cells #[.int .i64 2, .int .i64 3, .int .i64 (-5), .int .i64 5, .bool true] 46)) w.heap.size 46 [.int .i64 2, .int .i64 3, .int .i64 (-5), .int .i64 5, .bool true] at lg
  generalize (w.alloc (.cells #[.int .i64 2, .int .i64 3, .int .i64 (-5), .int .i64 5, .bool true] 46)) = W1 at lg bg ⊢
  have a1 := below_alloc W1 (.cells #[.int .u32 9] 76)
  have a2 := below_alloc (W1.alloc (.cells #[.int .u32 9] 76)) (.cells #[.int .u32 1] 76)
  have r1 := (rd_new (w := W1) (k := .u32) (e := 76) [9] #[.int .u32 9] rfl (by unfold maxLen; simp)).later a2
  have r2 := rd_new (w := W1.alloc (.cells #[.int .u32 9] 76)) (k := .u32) (e := 76) [1] #[.int .u32 1] rfl (by unfold maxLen; simp)
  have hm := gRound_any false _ _ [9] _ _ [1] 0 2 3 (-5) 5 true 1 _ r1 r2 (Dg.small_cons.2 ⟨by omega, Dg.small_nil _ (by omega)⟩) (Dg.small_cons.2 ⟨by omega, Dg.small_nil _ (by omega)⟩)
  rw [gbegun_code, gbegun_place] at hm
  simp only [World.size_alloc, show [9].length = 1 from rfl, show [1].length = 1 from rfl] at hm
  have g2 := (lg.later a1).later a2
  have b2 := below_trans (below_trans bg a1) a2
  clear lg bg a1 a2 r1 r2
  have x0 := g2.cell 0 rfl
  have x1 := g2.cell 1 rfl
  have x2 := g2.cell 2 rfl
  have x3 := g2.cell 3 rfl
  have x4 := g2.cell 4 rfl
  go_wp2_with fail
  refine hm.mono ?_
  intro z w2 hz
  obtain ⟨vo, vk, rfl, ov, b⟩ := gbegun_res hz
  clear hz
  have b3 := below_trans b2 b
  clear hm b b2 g2 x0 x1 x2 x3 x4
  have lp := locE_new w2 [.bool false, .slice vo 1 vk, .int .i64 1, .bool false, .bool false, .bool false] 59
  have ap := below_alloc w2 (.cells #[.bool false, .slice vo 1 vk, .int .i64 1, .bool false, .bool false, .bool false] 59)
  have bp := below_trans b3 ap
  have op := ov.later ap
  go_upto_region 3 with fail
  clear ap ov b3
  change LocE (w2.alloc (.cells #[.bool false, .slice vo 1 vk, .int .i64 1, .bool false, .bool false, .bool false] 59)) w2.heap.size 59 [.bool false, .slice vo 1 vk, .int .i64 1, .bool false, .bool false, .bool false] at lp
  generalize (w2.alloc (.cells #[.bool false, .slice vo 1 vk, .int .i64 1, .bool false, .bool false, .bool false] 59)) = W3 at lp bp op ⊢
  generalize w2.heap.size = PB at lp ⊢
  have a4 := below_alloc W3 (.cells #[.int .u32 4] 76)
  have r4 := rd_new (w := W3) (k := .u32) (e := 76) [4] #[.int .u32 4] rfl (by unfold maxLen; simp)
  have hs := same_any _ _ _ _ _ (op.rd.later a4) r4
  have b5 := below_trans bp a4
  have p5 := lp.later a4
  rw [show decide ([4] = [4]) = true from rfl] at hs
  simp only [show [4].length = 1 from rfl] at hs
  have x1 := lp.cell 1 rfl
  have x2 := lp.cell 2 rfl
  have x3 := lp.cell 3 rfl
  go_wp2_with fail
  refine hs.mono ?_
  rintro z w5 ⟨rfl, b⟩
  have b6 := below_trans b5 b
  have p6 := p5.later b
  clear hs b b5 p5 x1 x2 x3
  have x2 := p6.cell 2 rfl
  have x3 := p6.cell 3 rfl
  go_wp2
  go_ret
  exact ⟨rfl, b6⟩
end Go.Proofs.YtmjhlflemfkflaaGreatDoor

/-
  Contracts of the reference's SameDyad, CheckDyad, TwoDyads; dyadBegun; the law DyadChecks.
-/
import Derived.Test.YtmdjmjnnenddfaaDoorDy7
namespace Go.Proofs.YtmdjmjnnenddfaaDoor
open Go.RowKit

set_option maxRecDepth 100000 in
theorem sameDy_any (s : Bool) (ao : Option Addr) (ca : Nat) (xs : List Nat) (e : Int) (t : Bool) (bo : Option Addr) (cb : Nat) (ys : List Nat) (f : Int) (w : World)
    (hr : Rd w .u32 (.slice ao xs.length ca) xs) (hq : Rd w .u32 (.slice bo ys.length cb) ys) :
    Calls Tryd.prog 33 #[.agg #[.bool s, .slice ao xs.length ca, .int .i64 e], .agg #[.bool t, .slice bo ys.length cb, .int .i64 f]] w fun z w' => z = .returned (.bool (decide (s = t ∧ e = f ∧ xs = ys))) ∧ Below w.heap.size w w' := by
  have bA := below_alloc w (.cells #[.bool s, .slice ao xs.length ca, .int .i64 e] 25)
  have bB := below_trans bA (below_alloc _ (.cells #[.bool t, .slice bo ys.length cb, .int .i64 f] 25))
  by_cases h1 : s = t
  · by_cases h2 : e = f
    · subst h1 h2
      have hs := same_any _ _ xs ys _ (hr.later bB) (hq.later bB)
      rw [show decide (s = s ∧ e = e ∧ xs = ys) = decide (xs = ys) from by simp]
      obtain ⟨b, hb⟩ : ∃ b, decide (xs = ys) = b := ⟨_, rfl⟩
      rw [hb] at hs ⊢
      clear hb hr hq
      go_enter Tryd.func33, Tryd.ntmps33
      go_wp2_with fail
      refine hs.mono ?_
      rintro z w1 ⟨rfl, b1⟩
      have b2 := below_trans bB b1
      go_wp2
      go_ret
      exact ⟨rfl, b2⟩
    · rw [show decide (s = t ∧ e = f ∧ xs = ys) = false from by simp [h2]]
      have h3 : (e == f) = false := by simp [h2]
      subst h1
      clear hr hq
      go_enter Tryd.func33, Tryd.ntmps33
      go_wp2
      go_ret
      exact ⟨rfl, bB⟩
  · rw [show decide (s = t ∧ e = f ∧ xs = ys) = false from by simp [h1]]
    have h3 : (s == t) = false := by simp [h1]
    clear hr hq
    go_enter Tryd.func33, Tryd.ntmps33
    go_wp2
    go_ret
    exact ⟨rfl, bB⟩

set_option maxRecDepth 100000 in
theorem refcheckDy_any (s : Bool) (ao : Option Addr) (ca : Nat) (xs : List Nat) (e : Int) (w : World) (hr : Rd w .u32 (.slice ao xs.length ca) xs) :
    Calls Tryd.prog 15 #[.agg #[.bool s, .slice ao xs.length ca, .int .i64 e]] w fun z w' => z = .returned (.int .i64 (dchk xs e)) ∧ Below w.heap.size w w' := by
  have bA := below_alloc w (.cells #[.bool s, .slice ao xs.length ca, .int .i64 e] 25)
  have hk := checkNat_any _ xs _ (hr.later bA)
  unfold dchk
  obtain ⟨c, hc⟩ : ∃ c, chk xs = c := ⟨_, rfl⟩
  rw [hc] at hk ⊢
  clear hc hr
  by_cases h : c = 0
  · subst h
    rw [if_pos rfl]
    by_cases h1 : e < -20000
    · rw [if_pos (Or.inl h1)]
      go_enter Tryd.func15, Tryd.ntmps15
      go_wp2_with fail
      refine hk.mono ?_
      rintro z w' ⟨rfl, rfl⟩
      clear hk
      go_wp2
      go_ret
      exact ⟨rfl, bA⟩
    · by_cases h2 : 20000 < e
      · rw [if_pos (Or.inr h2)]
        go_enter Tryd.func15, Tryd.ntmps15
        go_wp2_with fail
        refine hk.mono ?_
        rintro z w' ⟨rfl, rfl⟩
        clear hk
        go_wp2
        go_ret
        exact ⟨rfl, bA⟩
      · rw [if_neg (by omega)]
        go_enter Tryd.func15, Tryd.ntmps15
        go_wp2_with fail
        refine hk.mono ?_
        rintro z w' ⟨rfl, rfl⟩
        clear hk
        go_wp2
        go_ret
        exact ⟨rfl, bA⟩
  · rw [if_neg h]
    have h0 : (c == 0) = false := by simp [h]
    go_enter Tryd.func15, Tryd.ntmps15
    go_wp2_with fail
    refine hk.mono ?_
    rintro z w' ⟨rfl, rfl⟩
    clear hk
    go_wp2
    go_ret
    exact ⟨rfl, bA⟩

theorem dbegun_value : dbothR (dchk2 [1] 0 [3] 0) (plusT ⟨false, Dg.vl 4294967296 [1], 0⟩ ⟨false, Dg.vl 4294967296 [3], 0⟩) = (⟨false, 1, 2⟩, 0) := by
  have e1 : dchk2 [1] 0 [3] 0 = 0 := by decide
  have e2 : plusT ⟨false, Dg.vl 4294967296 [1], 0⟩ ⟨false, Dg.vl 4294967296 [3], 0⟩ = ⟨false, 4, 0⟩ := rfl
  have e3 : bare ⟨false, 4, 0⟩ = ⟨false, 1, 2⟩ := rfl
  rw [e1, e2]
  unfold dbothR shortT
  rw [e3, if_pos rfl, if_neg (by decide), if_neg (by decide)]

set_option maxRecDepth 100000 in
set_option maxHeartbeats 800000 in
theorem dbegun_any (w : World) (hT : Tab w) : Calls Tryd.prog 13 #[] w fun z w' => z = .returned (.bool true) ∧ Below w.heap.size w w' := by
  have b1 := below_alloc w (.cells #[.int .u32 1] 56)
  have b2 := below_alloc (w.alloc (.cells #[.int .u32 1] 56)) (.cells #[.int .u32 3] 56)
  have r1 := (rd_new (w := w) (k := .u32) (e := 56) [1] #[.int .u32 1] rfl (by unfold maxLen; simp)).later b2
  have r2 := rd_new (w := w.alloc (.cells #[.int .u32 1] 56)) (k := .u32) (e := 56) [3] #[.int .u32 3] rfl (by unfold maxLen; simp)
  have b12 := below_trans b1 b2
  have s1 : Dg.Small 4294967296 [1] := Dg.small_cons.2 ⟨by omega, Dg.small_nil _ (by omega)⟩
  have s2 : Dg.Small 4294967296 [3] := Dg.small_cons.2 ⟨by omega, Dg.small_nil _ (by omega)⟩
  have hm := dadd_any false _ _ [1] 0 false _ _ [3] 0 _ r1 r2 s1 s2 (hT.later b12)
  rw [dbegun_value] at hm
  simp only [World.size_alloc, show [1].length = 1 from rfl, show [3].length = 1 from rfl] at hm
  clear r1 r2 b1 b2 s1 s2
  go_enter Tryd.func13, Tryd.ntmps13
  go_wp2_with fail
  refine hm.mono ?_
  rintro z w1 ⟨v, rfl, own, bel⟩
  have b3 := below_trans b12 bel
  obtain ⟨so, sc, hs⟩ := own.rd.shape
  subst hs
  clear hm
  have c1 := below_alloc w1 (.cells #[.bool false, .slice so (Dg.dg 4294967296 1).length sc, .int .i64 2] 25)
  have c2 := below_alloc (w1.alloc (.cells #[.bool false, .slice so (Dg.dg 4294967296 1).length sc, .int .i64 2] 25)) (.cells #[.int .u32 1] 56)
  have q2 := rd_new (w := w1.alloc (.cells #[.bool false, .slice so (Dg.dg 4294967296 1).length sc, .int .i64 2] 25)) (k := .u32) (e := 56) [1] #[.int .u32 1] rfl (by unfold maxLen; simp)
  have c12 := below_trans c1 c2
  have hsm := sameDy_any false _ _ (Dg.dg 4294967296 1) 2 false _ _ [1] 2 _ (own.rd.later c12) q2
  rw [show decide (false = false ∧ (2 : Int) = 2 ∧ Dg.dg 4294967296 1 = [1]) = true from decide_eq_true ⟨rfl, rfl, rfl⟩] at hsm
  simp only [World.size_alloc, show [1].length = 1 from rfl] at hsm
  have b4 := below_trans b3 c12
  clear c1 c2 c12 q2 own
  go_wp2_with fail
  refine hsm.mono ?_
  rintro z w2 ⟨rfl, b5⟩
  have b6 := b4.trans (b5.mono (by have := b3.size; omega))
  clear hsm
  go_wp2
  go_ret
  exact ⟨rfl, b6⟩

set_option maxRecDepth 100000 in
theorem dchecks_walk (s : Bool) (ao : Option Addr) (ca : Nat) (xs : List Nat) (e : Int) (w : World) (hr : Rd w .u32 (.slice ao xs.length ca) xs) (hT : Tab w) :
    Calls Tryd.prog 3 #[.agg #[.bool s, .slice ao xs.length ca, .int .i64 e]] w fun z w' => z = .returned (.bool true) ∧ Below w.heap.size w w' := by
  have b0 := below_alloc w (.cells #[.bool s, .slice ao xs.length ca, .int .i64 e] 25)
  have HC : Hid (∀ w1, Below w.heap.size w w1 → Calls Tryd.prog 14 #[.agg #[.bool s, .slice ao xs.length ca, .int .i64 e]] w1 fun z w' => z = .returned (.int .i64 (dchk xs e)) ∧ Below w1.heap.size w1 w') := fun w1 b1 => dcheck_any s ao ca xs e w1 (hr.later b1)
  have HR : Hid (∀ w1, Below w.heap.size w w1 → Calls Tryd.prog 15 #[.agg #[.bool s, .slice ao xs.length ca, .int .i64 e]] w1 fun z w' => z = .returned (.int .i64 (dchk xs e)) ∧ Below w1.heap.size w1 w') := fun w1 b1 => refcheckDy_any s ao ca xs e w1 (hr.later b1)
  obtain ⟨c, hc⟩ : ∃ c, dchk xs e = c := ⟨_, rfl⟩
  rw [hc] at HC HR
  have l0 := loc_new w (.bool s) (.slice ao xs.length ca) (.int .i64 e) 25
  have bd : Below (w.alloc (.cells #[.bool s, .slice ao xs.length ca, .int .i64 e] 25)).heap.size (w.alloc (.cells #[.bool s, .slice ao xs.length ca, .int .i64 e] 25)) (w.alloc (.cells #[.bool s, .slice ao xs.length ca, .int .i64 e] 25)).drew := (Below.refl _ _).drew
  have l0 := l0.later bd
  have b02 := below_trans b0 bd
  have hb := dbegun_any _ (hT.later b02)
  obtain ⟨-, ⟨c0, c1, c2⟩, -⟩ := id l0
  clear hc hr hT b0 bd
  go_enter Tryd.func3, Tryd.ntmps3
  go_wp2_with fail
  go_region_held3 (fun wq => wq.cell? ⟨w.heap.size, 0, none⟩ = some (.bool s) ∧ wq.cell? ⟨w.heap.size, 1, none⟩ = some (.slice ao xs.length ca) ∧ wq.cell? ⟨w.heap.size, 2, none⟩ = some (.int .i64 e)) (go_keep) (first
    | (go_at_call 13; refine hb.mono ?_; rintro z w3 ⟨rfl, b3⟩; have l3 := l0.later b3; have b03 := below_trans b02 b3; obtain ⟨-, ⟨p0, p1, p2⟩, -⟩ := id l3)
    | (go_at_call 14; refine (HC.out w3 b03).mono ?_; rintro z w4 ⟨rfl, b4⟩; have l4 := l3.later b4; have b04 := below_trans b03 b4; obtain ⟨-, ⟨q0, q1, q2⟩, -⟩ := id l4)
    | (go_at_call 15; refine (HR.out w4 b04).mono ?_; rintro z w5 ⟨rfl, b5⟩; have l5 := l4.later b5; have b05 := below_trans b04 b5; obtain ⟨-, ⟨t0, t1, t2⟩, -⟩ := id l5))
  all_goals go_wp2
  go_ret
  exact ⟨rfl, b05⟩
end Go.Proofs.YtmdjmjnnenddfaaDoor

/-
  Contracts of dyad.Check, dyad.wrong.
-/
import Derived.Test.YtmdjmjnnenddfaaDoorDy4
namespace Go.Proofs.YtmdjmjnnenddfaaDoor
open Go.RowKit

/-- What is wrong with a dyad. -/
def dchk (xs : List Nat) (e : Int) : Int := if chk xs = 0 then (if e < -20000 ∨ 20000 < e then 3 else 0) else chk xs

set_option maxRecDepth 100000 in
theorem dcheck_any (s : Bool) (ao : Option Addr) (ca : Nat) (xs : List Nat) (e : Int) (w : World) (hr : Rd w .u32 (.slice ao xs.length ca) xs) :
    Calls Tryd.prog 14 #[.agg #[.bool s, .slice ao xs.length ca, .int .i64 e]] w fun z w' => z = .returned (.int .i64 (dchk xs e)) ∧ Below w.heap.size w w' := by
  have bA := below_alloc w (.cells #[.bool s, .slice ao xs.length ca, .int .i64 e] 25)
  have hk := check_any _ xs _ (hr.later bA)
  unfold dchk
  obtain ⟨c, hc⟩ : ∃ c, chk xs = c := ⟨_, rfl⟩
  rw [hc] at hk ⊢
  clear hc hr
  by_cases h : c = 0
  · subst h
    rw [if_pos rfl]
    by_cases h1 : e < -20000
    · rw [if_pos (Or.inl h1)]
      go_enter Tryd.func14, Tryd.ntmps14
      go_wp2_with fail
      refine hk.mono ?_
      rintro z w' ⟨rfl, rfl⟩
      clear hk
      go_wp2
      go_ret
      exact ⟨rfl, bA⟩
    · by_cases h2 : 20000 < e
      · rw [if_pos (Or.inr h2)]
        go_enter Tryd.func14, Tryd.ntmps14
        go_wp2_with fail
        refine hk.mono ?_
        rintro z w' ⟨rfl, rfl⟩
        clear hk
        go_wp2
        go_ret
        exact ⟨rfl, bA⟩
      · rw [if_neg (by omega)]
        go_enter Tryd.func14, Tryd.ntmps14
        go_wp2_with fail
        refine hk.mono ?_
        rintro z w' ⟨rfl, rfl⟩
        clear hk
        go_wp2
        go_ret
        exact ⟨rfl, bA⟩
  · rw [if_neg h]
    go_enter Tryd.func14, Tryd.ntmps14
    go_wp2_with fail
    refine hk.mono ?_
    rintro z w' ⟨rfl, rfl⟩
    clear hk
    go_wp2
    go_ret
    exact ⟨rfl, bA⟩

def dchk2 (xs : List Nat) (e : Int) (ys : List Nat) (f : Int) : Int := if dchk xs e = 0 then dchk ys f else dchk xs e

set_option maxRecDepth 100000 in
theorem dwrong1_any (b : Nat) (s : Bool) (ao : Option Addr) (ca : Nat) (xs : List Nat) (e : Int) (w : World) (h0 : w.cell? ⟨b, 0, none⟩ = some (.bool s)) (h1 : w.cell? ⟨b, 1, none⟩ = some (.slice ao xs.length ca)) (h2 : w.cell? ⟨b, 2, none⟩ = some (.int .i64 e)) (hr : Rd w .u32 (.slice ao xs.length ca) xs) :
    Calls Tryd.prog 38 #[.slice (some ⟨b, 0, none⟩) 1 1] w fun z w' => z = .returned (.int .i64 (dchk xs e)) ∧ Below w.heap.size w w' := by
  obtain ⟨c, hc⟩ : ∃ c, dchk xs e = c := ⟨_, rfl⟩
  have bA := below_alloc w (.cells #[.bool s, .slice ao xs.length ca, .int .i64 e] 25)
  have hk := dcheck_any s ao ca xs e _ (hr.later bA)
  rw [hc] at hk ⊢
  clear hc
  by_cases h : c = 0
  · subst h
    go_enter Tryd.func38, Tryd.ntmps38
    go_wp2
    refine wp_loop_rounds 2 ?_
    rw [rounds_succ]
    go_wp2_with fail
    refine hk.mono ?_
    rintro z w' ⟨rfl, b1⟩
    have b01 := below_trans bA b1
    go_wp2
    rw [rounds_succ]
    go_wp2
    go_ret
    exact ⟨rfl, b01⟩
  · go_enter Tryd.func38, Tryd.ntmps38
    go_wp2
    refine wp_loop_rounds 2 ?_
    rw [rounds_succ]
    go_wp2_with fail
    refine hk.mono ?_
    rintro z w' ⟨rfl, b1⟩
    have b01 := below_trans bA b1
    go_wp2
    go_ret
    exact ⟨rfl, b01⟩

set_option maxRecDepth 100000 in
theorem dwrong2_any (b : Nat) (s : Bool) (ao : Option Addr) (ca : Nat) (xs : List Nat) (e : Int) (t : Bool) (bo : Option Addr) (cb : Nat) (ys : List Nat) (f : Int) (w : World) (h0 : w.cell? ⟨b, 0, none⟩ = some (.bool s)) (h1 : w.cell? ⟨b, 1, none⟩ = some (.slice ao xs.length ca)) (h2 : w.cell? ⟨b, 2, none⟩ = some (.int .i64 e))
    (h3 : w.cell? ⟨b, 3, none⟩ = some (.bool t)) (h4 : w.cell? ⟨b, 4, none⟩ = some (.slice bo ys.length cb)) (h5 : w.cell? ⟨b, 5, none⟩ = some (.int .i64 f)) (hr : Rd w .u32 (.slice ao xs.length ca) xs) (hq : Rd w .u32 (.slice bo ys.length cb) ys) :
    Calls Tryd.prog 38 #[.slice (some ⟨b, 0, none⟩) 2 2] w fun z w' => z = .returned (.int .i64 (dchk2 xs e ys f)) ∧ Below w.heap.size w w' := by
  unfold dchk2
  obtain ⟨c, hc⟩ : ∃ c, dchk xs e = c := ⟨_, rfl⟩
  obtain ⟨d, hd⟩ : ∃ d, dchk ys f = d := ⟨_, rfl⟩
  have bA := below_alloc w (.cells #[.bool s, .slice ao xs.length ca, .int .i64 e] 25)
  have hk := dcheck_any s ao ca xs e _ (hr.later bA)
  have HQ : Hid (∀ w1, Below w.heap.size w w1 → Calls Tryd.prog 14 #[.agg #[.bool t, .slice bo ys.length cb, .int .i64 f]] w1 fun z w' => z = .returned (.int .i64 d) ∧ Below w1.heap.size w1 w') := fun w1 b1 => by
    have := dcheck_any t bo cb ys f w1 (hq.later b1)
    rwa [hd] at this
  rw [hc] at hk ⊢
  rw [hd]
  clear hc hd hr hq
  by_cases h : c = 0
  · subst h
    rw [if_pos rfl]
    go_enter Tryd.func38, Tryd.ntmps38
    go_wp2
    refine wp_loop_rounds 3 ?_
    rw [rounds_succ]
    go_wp2_with fail
    refine hk.mono ?_
    rintro z w1 ⟨rfl, b1⟩
    have b01 := below_trans bA b1
    have k3 := cell_later b01 h3
    have k4 := cell_later b01 h4
    have k5 := cell_later b01 h5
    have b2 := below_trans b01 (below_alloc w1 (.cells #[.bool t, .slice bo ys.length cb, .int .i64 f] 25))
    clear hk bA b1
    go_wp2
    rw [rounds_succ]
    go_wp2_with fail
    refine (HQ.out _ b2).mono ?_
    rintro z w2 ⟨rfl, b3⟩
    have b03 := below_trans b2 b3
    by_cases h2 : d = 0
    · subst h2
      go_wp2
      rw [rounds_succ]
      go_wp2
      go_ret
      exact ⟨rfl, b03⟩
    · go_wp2
      go_ret
      exact ⟨rfl, b03⟩
  · rw [if_neg h]
    go_enter Tryd.func38, Tryd.ntmps38
    go_wp2
    refine wp_loop_rounds 3 ?_
    rw [rounds_succ]
    go_wp2_with fail
    refine hk.mono ?_
    rintro z w' ⟨rfl, b1⟩
    have b01 := below_trans bA b1
    go_wp2
    go_ret
    exact ⟨rfl, b01⟩
end Go.Proofs.YtmdjmjnnenddfaaDoor

/-
  Contracts of nat.wrong (one number, two numbers) and nat.short.
-/
import Derived.Test.YtmdjmjnnenddfaaDoorLeaf
namespace Go.Proofs.YtmdjmjnnenddfaaDoor
open Go.RowKit

/-- What is wrong with the first of two with which something is. -/
def chk2 (xs ys : List Nat) : Int := if chk xs = 0 then chk ys else chk xs

set_option maxRecDepth 100000 in
theorem wrong1_any (b : Nat) (va : Value) (xs : List Nat) (w : World) (h0 : w.cell? ⟨b, 0, none⟩ = some va) (ha : Rd w .u32 va xs) :
    Calls Tryd.prog 63 #[.slice (some ⟨b, 0, none⟩) 1 1] w fun e w' => e = .returned (.int .i64 (chk xs)) ∧ w' = w := by
  obtain ⟨c, hc⟩ : ∃ c, chk xs = c := ⟨_, rfl⟩
  have hk := check_any va xs w ha
  rw [hc] at hk ⊢
  clear hc
  by_cases h : c = 0
  · subst h
    go_enter Tryd.func63, Tryd.ntmps63
    go_wp2
    refine wp_loop_rounds 2 ?_
    rw [rounds_succ]
    go_wp2_with fail
    refine hk.mono ?_
    rintro e w' ⟨rfl, rfl⟩
    go_wp2
    rw [rounds_succ]
    go_wp2
    go_ret
    exact ⟨rfl, rfl⟩
  · go_enter Tryd.func63, Tryd.ntmps63
    go_wp2
    refine wp_loop_rounds 2 ?_
    rw [rounds_succ]
    go_wp2_with fail
    refine hk.mono ?_
    rintro e w' ⟨rfl, rfl⟩
    go_wp2
    go_ret
    exact ⟨rfl, rfl⟩

set_option maxRecDepth 100000 in
theorem wrong2_any (b : Nat) (va vb : Value) (xs ys : List Nat) (w : World) (h0 : w.cell? ⟨b, 0, none⟩ = some va) (h1 : w.cell? ⟨b, 1, none⟩ = some vb) (ha : Rd w .u32 va xs) (hb : Rd w .u32 vb ys) :
    Calls Tryd.prog 63 #[.slice (some ⟨b, 0, none⟩) 2 2] w fun e w' => e = .returned (.int .i64 (chk2 xs ys)) ∧ w' = w := by
  unfold chk2
  obtain ⟨c, hc⟩ : ∃ c, chk xs = c := ⟨_, rfl⟩
  obtain ⟨d, hd⟩ : ∃ d, chk ys = d := ⟨_, rfl⟩
  have hk := check_any va xs w ha
  have hl := check_any vb ys w hb
  rw [hc] at hk ⊢
  rw [hd] at hl ⊢
  clear hc hd
  by_cases h : c = 0
  · subst h
    rw [if_pos rfl]
    go_enter Tryd.func63, Tryd.ntmps63
    go_wp2
    refine wp_loop_rounds 3 ?_
    rw [rounds_succ]
    go_wp2_with fail
    refine hk.mono ?_
    rintro e w' ⟨rfl, rfl⟩
    go_wp2
    rw [rounds_succ]
    go_wp2_with fail
    refine hl.mono ?_
    rintro e w' ⟨rfl, rfl⟩
    by_cases h2 : d = 0
    · subst h2
      go_wp2
      rw [rounds_succ]
      go_wp2
      go_ret
      exact ⟨rfl, rfl⟩
    · go_wp2
      go_ret
      exact ⟨rfl, rfl⟩
  · rw [if_neg h]
    go_enter Tryd.func63, Tryd.ntmps63
    go_wp2
    refine wp_loop_rounds 3 ?_
    rw [rounds_succ]
    go_wp2_with fail
    refine hk.mono ?_
    rintro e w' ⟨rfl, rfl⟩
    go_wp2
    go_ret
    exact ⟨rfl, rfl⟩

set_option maxRecDepth 100000 in
theorem short_yes (v : Value) (zs : List Nat) (w : World) (h : Rd w .u32 v zs) (hl : zs.length ≤ 1200) :
    Calls Tryd.prog 78 #[v] w fun e w' => e = .returned (.tuple #[v, .int .i64 0]) ∧ w' = w := by
  obtain ⟨ao, cap, rfl, hlc, hm, hc⟩ := h
  unfold maxLen at hm
  go_enter Tryd.func78, Tryd.ntmps78
  go_wp2
  go_ret2
  exact ⟨rfl, rfl⟩

set_option maxRecDepth 100000 in
theorem short_no (v : Value) (zs : List Nat) (w : World) (h : Rd w .u32 v zs) (hl : 1200 < zs.length) :
    Calls Tryd.prog 78 #[v] w fun e w' => e = .returned (.tuple #[.slice none 0 0, .int .i64 2]) ∧ w' = w := by
  obtain ⟨ao, cap, rfl, hlc, hm, hc⟩ := h
  unfold maxLen at hm
  go_enter Tryd.func78, Tryd.ntmps78
  go_wp2
  go_ret2
  exact ⟨rfl, rfl⟩

/-- A number of at most 1200 digits, or ErrMany. -/
def capd (n : Nat) : List Nat × Int := if (Dg.dg 4294967296 n).length ≤ 1200 then (Dg.dg 4294967296 n, 0) else ([], 2)

/-- What a call answers that is handed numbers: what is wrong with them, or a number. -/
def natR (c : Int) (n : Nat) : List Nat × Int := if c = 0 then capd n else ([], c)

/-- The call answers a number and an errno. -/
def Ans (w : World) (r : List Nat × Int) (e : Ending) (w' : World) : Prop :=
  ∃ v, e = .returned (.tuple #[v, .int .i64 r.2]) ∧ Own w' w.heap.size 56 .u32 v r.1 ∧ Below w.heap.size w w'

/-- The call answers a number. -/
def Num (w : World) (n : Nat) (e : Ending) (w' : World) : Prop :=
  ∃ v, e = .returned v ∧ Own w' w.heap.size 56 .u32 v (Dg.dg 4294967296 n) ∧ Below w.heap.size w w'

theorem short_num (v : Value) (n : Nat) (w0 w : World) (h : Own w w0.heap.size 56 .u32 v (Dg.dg 4294967296 n)) (hb : Below w0.heap.size w0 w) :
    Calls Tryd.prog 78 #[v] w fun e w' => w' = w ∧ Ans w0 (capd n) e w' := by
  unfold capd
  by_cases hl : (Dg.dg 4294967296 n).length ≤ 1200
  · refine (short_yes v _ w h.rd hl).mono ?_
    rintro e w' ⟨rfl, rfl⟩
    rw [if_pos hl]
    exact ⟨rfl, v, rfl, h, hb⟩
  · refine (short_no v _ w h.rd (by omega)).mono ?_
    rintro e w' ⟨rfl, rfl⟩
    rw [if_neg hl]
    exact ⟨rfl, _, rfl, own_nil _ _ _ _, hb⟩

end Go.Proofs.YtmdjmjnnenddfaaDoor

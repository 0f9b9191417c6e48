/-
  Patterns: the fields of a pattern are read.
-/
import Derived.Test.YtgbccbmflokooaaGreatDoorCo9
import Derived.Test.YtgbccbmflokooaaGreatDoorCo7
import Derived.Test.YtgbccbmflokooaaGreatDoorCo8
namespace Go.Proofs.YtgbccbmflokooaaGreatDoor
open Go.RowKit

/-- Bytes as they lie, turned so that the greatest is first; and back. -/
def turnB (k : Nat) (zs : List Nat) : List Nat := if k = 3 then zs.reverse else if 6 ≤ k then turnW zs else zs

theorem turnB_len (k : Nat) (zs : List Nat) : (turnB k zs).length = zs.length := by
  unfold turnB
  split
  · simp
  · split
    · exact turnW_len zs
    · rfl

theorem turnB_small (k : Nat) (zs : List Nat) (h : Dg.Small 256 zs) : Dg.Small 256 (turnB k zs) := by
  unfold turnB
  split
  · intro i
    by_cases hi : i < zs.length
    · rw [List.getD_eq_getElem?_getD, List.getElem?_reverse hi, ← List.getD_eq_getElem?_getD]
      exact h _
    · rw [List.getD_eq_getElem?_getD, List.getElem?_eq_none (by simpa using hi)]
      simp
  · split
    · intro i
      by_cases hi : i < zs.length
      · rw [turnW_at zs i hi]
        exact h _
      · rw [List.getD_eq_getElem?_getD, List.getElem?_eq_none (by rw [turnW_len]; omega)]
        simp
    · exact h

set_option maxRecDepth 100000 in
theorem turn1_any (v : Value) (w : World) : Calls Tryz.prog 97 #[v] w fun e w' => e = .returned (.tuple #[]) ∧ w' = w := by
  go_enter Tryz.func97, Tryz.ntmps97
  go_wp2
  go_end0
  exact ⟨rfl, rfl⟩

set_option maxRecDepth 100000 in
set_option maxHeartbeats 1600000 in
theorem turn2_any (g cap : Nat) (zs : List Nat) (w : World) (ho : BRow w g zs) (hl : zs.length ≤ 1000000000) :
    Calls Tryz.prog 98 #[.slice (some ⟨g, 0, none⟩) zs.length cap] w fun e w' => e = .returned (.tuple #[]) ∧ BRow w' g zs.reverse ∧ w.grownBy w' (some g) := by
  have hr := breverse_any g cap zs w ho hl
  go_enter Tryz.func98, Tryz.ntmps98
  go_wp2_with fail
  refine hr.mono ?_
  rintro z w1 ⟨rfl, r1, g1⟩
  go_wp2
  go_end0
  exact ⟨rfl, r1, g1⟩

/-- Which function turns the bytes of a format. -/
def turnF (k : Nat) : Nat := if k = 3 then 98 else if 6 ≤ k then 100 else 97

theorem turnF_any (k : Nat) (g cap : Nat) (zs : List Nat) (w : World) (ho : BRow w g zs) (hl : zs.length ≤ 1000) (hev : ∃ m, zs.length = 2 * m) :
    Calls Tryz.prog (turnF k) #[.slice (some ⟨g, 0, none⟩) zs.length cap] w fun e w' => e = .returned (.tuple #[]) ∧ BRow w' g (turnB k zs) ∧ w.grownBy w' (some g) := by
  unfold turnF turnB
  by_cases h3 : k = 3
  · rw [if_pos h3, if_pos h3]
    exact turn2_any g cap zs w ho (by omega)
  · rw [if_neg h3, if_neg h3]
    by_cases h6 : 6 ≤ k
    · rw [if_pos h6, if_pos h6]
      obtain ⟨m, hm⟩ := hev
      exact words_any g cap m zs w ho (by omega) hm
    · rw [if_neg h6, if_neg h6]
      refine (turn1_any _ w).mono ?_
      rintro z w1 ⟨rfl, rfl⟩
      exact ⟨rfl, ho, grown_refl _ _⟩

theorem center_of {P : Program} {f : FuncId} {fn : Func} {c : Code} (hf : P.funcs[f]? = some fn) (hname : (fn.name == "runtime.NumGoroutine") = false) (hb : fn.body = some c) (args : Array Value) (w : World) : Sem.run P (callFunc f args) w = .ok (.enter f args) w := by
  have hn : ¬fn.name = "runtime.NumGoroutine" := by simpa using hname
  simp [callFunc, hf, hn, hb]

theorem turnF_enter (k : Nat) (args : Array Value) (W : World) : Sem.run Tryz.prog (callFunc (turnF k) args) W = .ok (.enter (turnF k) args) W := by
  unfold turnF
  split
  · exact center_of Tryz.func98 (by kernel_rfl) rfl args W
  · split
    · exact center_of Tryz.func100 (by kernel_rfl) rfl args W
    · exact center_of Tryz.func97 (by kernel_rfl) rfl args W

/-- A text made into bytes. -/
theorem bytes_run {P : Program} (W : World) (src dst e : TypeId) (s : ByteArray) (hs : P.underlying src = some .string) (hd : P.underlying dst = some (.slice e)) (he : P.underlying e = some (.int .u8)) :
    ∃ W1 cap, (convert src dst (.string s)).run P W = .ok (.slice (some ⟨W.heap.size, 0, none⟩) s.size cap) W1 ∧ BRow W1 W.heap.size (bytesOf s) ∧ Below W.heap.size W W1 := by
  refine ⟨_, _, run_bytes_of_string W src dst e s hs hd he, ?_, ?_⟩
  · refine ⟨fun i hi => ?_, fun i hi => ?_, ?_⟩
    · have hi' : i < s.data.size := by rw [bytesOf_len] at hi; exact hi
      rw [show W.heap.size = W.drew.heap.size from rfl, World.cell?_alloc_mark, bytesRow_at s _ i hi', bytesOf, List.getD_eq_getElem?_getD, List.getElem?_map, Array.getElem?_toList, Array.getElem?_eq_getElem hi']
      rfl
    · have hi' : i < s.data.size := by rw [bytesOf_len] at hi; exact hi
      rw [show W.heap.size = W.drew.heap.size from rfl, World.frozen?_alloc_mark]
      have : ¬ ((bytesRow s (grownCap W s.size 0 e)).size ≤ i) := by
        unfold bytesRow
        rw [Array.size_append, Array.size_map]
        omega
      simp [this]
    · show W.heap.size < (W.drew.alloc _).heap.size
      rw [World.size_alloc]
      exact Nat.lt_succ_self _
  · exact ((Below.refl _ _).drew).alloc (Nat.le_refl _) _
end Go.Proofs.YtgbccbmflokooaaGreatDoor

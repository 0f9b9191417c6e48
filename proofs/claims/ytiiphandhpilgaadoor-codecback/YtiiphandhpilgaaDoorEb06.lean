/-
  Texts laid together: Co2.
-/
import Derived.Deep.Cut
import Derived.Test.YtiiphandhpilgaaDoorEb05
namespace Go.Proofs.YtiiphandhpilgaaDoor
open Go.RowKit
/-- A layout, as it lies: that of none is all zero. -/
def layV : Nat → List Value
  | 1 => [.int .i64 2, .int .i64 24, .int .i64 (-149), .int .i64 104, .bool true, .int .i64 4, .int .i64 8, .int .i64 1, .func (.func 28) #[] #[]]
  | 2 => [.int .i64 2, .int .i64 53, .int .i64 (-1074), .int .i64 971, .bool true, .int .i64 8, .int .i64 11, .int .i64 1, .func (.func 28) #[] #[]]
  | 3 => [.int .i64 2, .int .i64 64, .int .i64 (-16445), .int .i64 16320, .bool true, .int .i64 10, .int .i64 15, .int .i64 1, .func (.func 29) #[] #[]]
  | 4 => [.int .i64 16, .int .i64 6, .int .i64 (-70), .int .i64 57, .bool false, .int .i64 4, .int .i64 7, .int .i64 2, .func (.func 28) #[] #[]]
  | 5 => [.int .i64 16, .int .i64 14, .int .i64 (-78), .int .i64 49, .bool false, .int .i64 8, .int .i64 7, .int .i64 2, .func (.func 28) #[] #[]]
  | 6 => [.int .i64 2, .int .i64 24, .int .i64 (-151), .int .i64 103, .bool false, .int .i64 4, .int .i64 8, .int .i64 3, .func (.func 31) #[] #[]]
  | 7 => [.int .i64 2, .int .i64 56, .int .i64 (-183), .int .i64 71, .bool false, .int .i64 8, .int .i64 8, .int .i64 3, .func (.func 31) #[] #[]]
  | 8 => [.int .i64 2, .int .i64 53, .int .i64 (-1076), .int .i64 970, .bool false, .int .i64 8, .int .i64 11, .int .i64 3, .func (.func 31) #[] #[]]
  | _ => [.int .i64 0, .int .i64 0, .int .i64 0, .int .i64 0, .bool false, .int .i64 0, .int .i64 0, .int .i64 0, .nilFunc]

def layAll : List Value := [.int .i64 0, .int .i64 0, .int .i64 0, .int .i64 0, .bool false, .int .i64 0, .int .i64 0, .int .i64 0, .nilFunc, .int .i64 2, .int .i64 24, .int .i64 (-149), .int .i64 104, .bool true, .int .i64 4, .int .i64 8, .int .i64 1, .func (.func 28) #[] #[], .int .i64 2, .int .i64 53, .int .i64 (-1074), .int .i64 971, .bool true, .int .i64 8, .int .i64 11, .int .i64 1, .func (.func 28) #[] #[], .int .i64 2, .int .i64 64, .int .i64 (-16445), .int .i64 16320, .bool true, .int .i64 10, .int .i64 15, .int .i64 1, .func (.func 29) #[] #[], .int .i64 16, .int .i64 6, .int .i64 (-70), .int .i64 57, .bool false, .int .i64 4, .int .i64 7, .int .i64 2, .func (.func 28) #[] #[], .int .i64 16, .int .i64 14, .int .i64 (-78), .int .i64 49, .bool false, .int .i64 8, .int .i64 7, .int .i64 2, .func (.func 28) #[] #[], .int .i64 2, .int .i64 24, .int .i64 (-151), .int .i64 103, .bool false, .int .i64 4, .int .i64 8, .int .i64 3, .func (.func 31) #[] #[], .int .i64 2, .int .i64 56, .int .i64 (-183), .int .i64 71, .bool false, .int .i64 8, .int .i64 8, .int .i64 3, .func (.func 31) #[] #[], .int .i64 2, .int .i64 53, .int .i64 (-1076), .int .i64 970, .bool false, .int .i64 8, .int .i64 11, .int .i64 3, .func (.func 31) #[] #[]]

/-- What a function hands back that has one result, a struct or an array that lies in a block. -/
theorem results_one {P : Program} {fn : Func} {a : Nat} {ty : TypeId} {tmps : Array Value} {w : World} {b : Nat} {v : Value} (hres : fn.results = #[.cell a ty]) (hp : tmps.getD a undef = .pointer (some ⟨b, 0, none⟩)) (hl : (loadVar ty ⟨b, 0, none⟩).run P w = .ok v w) : (results fn tmps).run P w = .ok v w := by
  rw [Array.getD_eq_getD_getElem?] at hp
  unfold results
  simp [hres, hp, asAddr, hl]

set_option maxHeartbeats 6400000 in
set_option maxRecDepth 20000 in
theorem layouts_any (w : World) : Calls Tryd.prog 17 #[] w fun z w' => z = .returned (.agg layAll.toArray) ∧ Below w.heap.size w w' := by
  have l0 : LocE (w.alloc (.cells Tryd.zeroCells56 56)) w.heap.size 56 Tryd.zeroCells56.toList := by
    have := locE_new w Tryd.zeroCells56.toList 56
    rwa [Array.toArray_toList] at this
  have th := l0.there 81 (by kernel_rfl)
  have cR := l0.sets layAll (by kernel_rfl)
  have bu := but_sets w.heap.size layAll 0 (w.alloc (.cells Tryd.zeroCells56 56))
  have bR := bu.below (below_alloc w (.cells Tryd.zeroCells56 56)) (Nat.le_refl _)
  have hl := run_loadVar_mid (P := Tryd.prog) _ w.heap.size 0 56 layAll _ cR.range Tryd.underlying56 rfl (by kernel_rfl)
  have HH : Hid (_ ∧ _) := ⟨hl, bR⟩
  clear hl bR cR bu l0
  go_enter Tryd.func17, Tryd.ntmps17
  go_wp2_with (refine wpList_store_mid rfl 56 (.tmp 0) (.tmp 28) rfl w.heap.size 0 #[.int .i64 0, .int .i64 0, .int .i64 0, .int .i64 0, .bool false, .int .i64 0, .int .i64 0, .int .i64 0, .nilFunc, .int .i64 2, .int .i64 24, .int .i64 (-149), .int .i64 104, .bool true, .int .i64 4, .int .i64 8, .int .i64 1, .func (.func 28) #[] #[], .int .i64 2, .int .i64 53, .int .i64 (-1074), .int .i64 971, .bool true, .int .i64 8, .int .i64 11, .int .i64 1, .func (.func 28) #[] #[], .int .i64 2, .int .i64 64, .int .i64 (-16445), .int .i64 16320, .bool true, .int .i64 10, .int .i64 15, .int .i64 1, .func (.func 29) #[] #[], .int .i64 16, .int .i64 6, .int .i64 (-70), .int .i64 57, .bool false, .int .i64 4, .int .i64 7, .int .i64 2, .func (.func 28) #[] #[], .int .i64 16, .int .i64 14, .int .i64 (-78), .int .i64 49, .bool false, .int .i64 8, .int .i64 7, .int .i64 2, .func (.func 28) #[] #[], .int .i64 2, .int .i64 24, .int .i64 (-151), .int .i64 103, .bool false, .int .i64 4, .int .i64 8, .int .i64 3, .func (.func 31) #[] #[], .int .i64 2, .int .i64 56, .int .i64 (-183), .int .i64 71, .bool false, .int .i64 8, .int .i64 8, .int .i64 3, .func (.func 31) #[] #[], .int .i64 2, .int .i64 53, .int .i64 (-1076), .int .i64 970, .bool false, .int .i64 8, .int .i64 11, .int .i64 3, .func (.func 31) #[] #[]] rfl rfl th (by kernel_rfl) (by simp [Value.oneCell']) ?_)
  change bodyPost _ _ _ _ _ (World.setCells (w.alloc (.cells Tryd.zeroCells56 56)) w.heap.size 0 layAll)
  obtain ⟨hl, bR⟩ := HH.out
  generalize World.setCells (w.alloc (.cells Tryd.zeroCells56 56)) w.heap.size 0 layAll = W at hl bR ⊢
  exact bodyPost_ret (v := .agg layAll.toArray) (results_one Tryd.results17 rfl hl) rfl ⟨rfl, bR⟩
end Go.Proofs.YtiiphandhpilgaaDoor

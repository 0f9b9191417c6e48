/-
  The contract of slices.Reverse over bytes: the row is turned round in its place.
-/
import Derived.Test.YtmdjmjnnenddfaaDoorDivBy
import Derived.BigRegion
namespace Go.Proofs.YtmdjmjnnenddfaaDoor
open Go.RowKit

theorem grown_drew (w : World) (g : Option Nat) : w.grownBy w.drew g := ⟨rfl, rfl, rfl, Nat.le_refl _, fun _ _ _ => rfl⟩

/-- i of each end are turned. -/
def RevI (zs cur : List Nat) (i : Nat) : Prop :=
  cur.length = zs.length ∧ 2 * i ≤ zs.length + 1 ∧ ∀ k, k < zs.length → cur.getD k 0 = if k < i ∨ zs.length - 1 - i < k then zs.getD (zs.length - 1 - k) 0 else zs.getD k 0

theorem revI_step {zs cur : List Nat} {i : Nat} (h : RevI zs cur i) (hi : i < zs.length - 1 - i) : RevI zs ((cur.set i (cur.getD (zs.length - 1 - i) 0)).set (zs.length - 1 - i) (cur.getD i 0)) (i + 1) := by
  obtain ⟨h1, h2, h3⟩ := h
  refine ⟨by simpa using h1, by omega, fun k hk => ?_⟩
  rw [Dg.getD_set _ _ _ _ (by simp; omega), Dg.getD_set _ _ _ _ (by omega)]
  by_cases e1 : zs.length - 1 - i = k
  · rw [if_pos e1, if_pos (by omega), h3 i (by omega), if_neg (by omega)]
    rw [← e1, show zs.length - 1 - (zs.length - 1 - i) = i from by omega]
  · rw [if_neg e1]
    by_cases e2 : i = k
    · rw [if_pos e2, if_pos (by omega), h3 _ (by omega), if_neg (by omega), ← e2]
    · rw [if_neg e2, h3 k hk]
      by_cases e3 : k < i ∨ zs.length - 1 - i < k
      · rw [if_pos e3, if_pos (by omega)]
      · rw [if_neg e3, if_neg (by omega)]

theorem revI_end {zs cur : List Nat} {i : Nat} (h : RevI zs cur i) (hi : ¬ i < zs.length - 1 - i) : cur = zs.reverse := by
  obtain ⟨h1, h2, h3⟩ := h
  apply List.ext_getElem (by simpa using h1)
  intro k hk1 hk2
  have hk : k < zs.length := by omega
  have := h3 k hk
  have e1 : cur.getD k 0 = cur[k] := by simp [List.getD_eq_getElem?_getD, hk1]
  have e2 : zs.reverse[k] = zs.getD (zs.length - 1 - k) 0 := by
    rw [List.getElem_reverse]
    simp [List.getD_eq_getElem?_getD, show zs.length - 1 - k < zs.length from by omega]
  rw [← e1, this, e2]
  by_cases e3 : k < i ∨ zs.length - 1 - i < k
  · rw [if_pos e3]
  · rw [if_neg e3, show zs.length - 1 - k = k from by omega]

end Go.Proofs.YtmdjmjnnenddfaaDoor

/-
  The contract of slices.Reverse over bytes: the row is turned round in its place.
-/
import Derived.Test.YtepcafhlhnlgaaaDivBy
import Derived.BigRegion
namespace Go.Proofs.Ytepcafhlhnlgaaa
open Go.RowKit

theorem grown_drew (w : World) (g : Option Nat) : w.grownBy w.drew g := ⟨rfl, rfl, rfl, Nat.le_refl _, fun _ _ _ => rfl⟩

/-- i of each end are turned. -/
def RevI (zs cur : List Nat) (i : Nat) : Prop :=
  cur.length = zs.length ∧ 2 * i ≤ zs.length + 1 ∧ ∀ k, k < zs.length → cur.getD k 0 = if k < i ∨ zs.length - 1 - i < k then zs.getD (zs.length - 1 - k) 0 else zs.getD k 0

theorem revI_step {zs cur : List Nat} {i : Nat} (h : RevI zs cur i) (hi : i < zs.length - 1 - i) : RevI zs ((cur.set i (cur.getD (zs.length - 1 - i) 0)).set (zs.length - 1 - i) (cur.getD i 0)) (i + 1) := by
  obtain ⟨h1, h2, h3⟩ := h
  refine ⟨by simpa using h1, by omega, fun k hk => ?_⟩
  rw [Dg.getD_set _ _ _ _ (by simp; omega), Dg.getD_set _ _ _ _ (by omega)]
  by_cases e1 : zs.length - 1 - i = k
  · rw [if_pos e1, if_pos (by omega), h3 i (by omega), if_neg (by omega)]
    rw [← e1, show zs.length - 1 - (zs.length - 1 - i) = i from by omega]
  · rw [if_neg e1]
    by_cases e2 : i = k
    · rw [if_pos e2, if_pos (by omega), h3 _ (by omega), if_neg (by omega), ← e2]
    · rw [if_neg e2, h3 k hk]
      by_cases e3 : k < i ∨ zs.length - 1 - i < k
      · rw [if_pos e3, if_pos (by omega)]
      · rw [if_neg e3, if_neg (by omega)]

theorem revI_end {zs cur : List Nat} {i : Nat} (h : RevI zs cur i) (hi : ¬ i < zs.length - 1 - i) : cur = zs.reverse := by
  obtain ⟨h1, h2, h3⟩ := h
  apply List.ext_getElem (by simpa using h1)
  intro k hk1 hk2
  have hk : k < zs.length := by omega
  have := h3 k hk
  have e1 : cur.getD k 0 = cur[k] := by simp [List.getD_eq_getElem?_getD, hk1]
  have e2 : zs.reverse[k] = zs.getD (zs.length - 1 - k) 0 := by
    rw [List.getElem_reverse]
    simp [List.getD_eq_getElem?_getD, show zs.length - 1 - k < zs.length from by omega]
  rw [← e1, this, e2]
  by_cases e3 : k < i ∨ zs.length - 1 - i < k
  · rw [if_pos e3]
  · rw [if_neg e3, show zs.length - 1 - k = k from by omega]

set_option maxHeartbeats 3200000 in
theorem reverse_any (g n cap base : Nat) (zs : List Nat) (w : World) (ho : Own w base 5 .u8 (.slice (some ⟨g, 0, none⟩) n cap) zs) (hl : zs.length ≤ 1000000000) :
    Calls Try.prog 82 #[.slice (some ⟨g, 0, none⟩) n cap] w fun e w' =>
      e = .returned (.tuple #[]) ∧ Own w' base 5 .u8 (.slice (some ⟨g, 0, none⟩) n cap) zs.reverse ∧ w.grownBy w' (some g) := by
  have hn := ho.len
  subst hn
  go_enter Try.func82, Try.ntmps82
  go_wp2
  go_loopw [2, 3] (fun iv jv wr => ∃ (i : Nat) (cur : List Nat), iv = .int .i64 i ∧ jv = .int .i64 ((zs.length : Int) - 1 - i) ∧ Own wr base 5 .u8 (.slice (some ⟨g, 0, none⟩) zs.length cap) cur ∧ RevI zs cur i ∧ w.grownBy wr (some g))
    (fun iv jv _ => (intOf jv + 1 - intOf iv).toNat)
  case atStart => exact ⟨0, zs, rfl, by go_num, ho, ⟨rfl, by omega, fun k hk => by rw [if_neg (by omega)]⟩, grown_refl _ _⟩
  case round =>
    obtain ⟨i, cur, rfl, rfl, own, hI, gr⟩ := hrel
    have h1 := hI.1
    have h2 := hI.2.1
    by_cases hij : i < zs.length - 1 - i
    · obtain ⟨j, hj⟩ : ∃ j, zs.length - 1 - i = j := ⟨_, rfl⟩
      have hjI : (zs.length : Int) - 1 - i = (j : Int) := by omega
      have ci := own.cell i (by omega)
      have cj := own.cell j (by omega)
      have fi := own.free i
      have fj := own.free j
      have hst := revI_step hI hij
      rw [hj] at hst hij
      rw [hjI]
      have hjl : j < zs.length := by omega
      have Hj : Hid ((zs.length : Int) - 1 - i = (j : Int)) := hjI
      obtain ⟨x, ex⟩ : ∃ x, cur.getD i 0 = x := ⟨_, rfl⟩
      obtain ⟨y, ey⟩ : ∃ y, cur.getD j 0 = y := ⟨_, rfl⟩
      rw [ex] at ci hst
      rw [ey] at cj hst
      clear hj hjI ex ey hI
      go_wp2
      go_region
      all_goals go_wp2
      all_goals go_roundw
      case rel => exact ⟨i + 1, _, by go_num, by have := Hj.out; go_num, (own.store i y).store j x, hst, grown_trans (grown_trans gr (grown_set _ _ _ _)) ((grown_trans (grown_set _ _ _ _) (grown_drew _ _)))⟩
      case measure => have := Hj.out; simp [intOf]; omega
    · have hd : ¬ ((i : Int) < (zs.length : Int) - 1 - i) := by omega
      go_wp2
      go_end0
      rw [← revI_end hI hij]
      exact ⟨rfl, own, gr⟩
end Go.Proofs.Ytepcafhlhnlgaaa

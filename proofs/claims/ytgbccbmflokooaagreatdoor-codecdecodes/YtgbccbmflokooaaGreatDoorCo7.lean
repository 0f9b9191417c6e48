/-
  Patterns: bytes turned round in their place, and by words.
-/
import Derived.Test.YtgbccbmflokooaaGreatDoorCo6
import Derived.Test.YtgbccbmflokooaaGreatDoorNa
namespace Go.Proofs.YtgbccbmflokooaaGreatDoor
open Go.RowKit

/-- Bytes by words: each two of them change their places. -/
def turnW (zs : List Nat) : List Nat := (List.range zs.length).map fun i => zs.getD (i + 1 - 2 * (i % 2)) 0

theorem turnW_len (zs : List Nat) : (turnW zs).length = zs.length := by simp [turnW]

theorem turnW_at (zs : List Nat) (i : Nat) (h : i < zs.length) : (turnW zs).getD i 0 = zs.getD (i + 1 - 2 * (i % 2)) 0 := by
  simp [turnW, List.getD_eq_getElem?_getD, h]

/-- i words are turned. -/
def WI (zs cur : List Nat) (i : Nat) : Prop :=
  cur.length = zs.length ∧ ∀ k, k < zs.length → cur.getD k 0 = if k < 2 * i then zs.getD (k + 1 - 2 * (k % 2)) 0 else zs.getD k 0

theorem wi_step {zs cur : List Nat} {i : Nat} (h : WI zs cur i) (hi : 2 * i + 1 < zs.length) : WI zs ((cur.set (2 * i) (cur.getD (2 * i + 1) 0)).set (2 * i + 1) (cur.getD (2 * i) 0)) (i + 1) := by
  obtain ⟨h1, h3⟩ := h
  refine ⟨by simpa using h1, fun k hk => ?_⟩
  rw [Dg.getD_set _ _ _ _ (by simp; omega), Dg.getD_set _ _ _ _ (by omega)]
  by_cases e1 : 2 * i + 1 = k
  · rw [if_pos e1, if_pos (by omega), h3 _ (by omega), if_neg (by omega), ← e1]
    congr 1
    omega
  · rw [if_neg e1]
    by_cases e2 : 2 * i = k
    · rw [if_pos e2, if_pos (by omega), h3 _ (by omega), if_neg (by omega), ← e2]
      congr 1
      omega
    · rw [if_neg e2, h3 k hk]
      by_cases e3 : k < 2 * i
      · rw [if_pos e3, if_pos (by omega)]
      · rw [if_neg e3, if_neg (by omega)]

theorem wi_end {zs cur : List Nat} {i : Nat} (h : WI zs cur i) (hi : zs.length ≤ 2 * i) : cur = turnW zs := by
  obtain ⟨h1, h3⟩ := h
  apply List.ext_getElem (by rw [turnW_len]; exact h1)
  intro k hk1 hk2
  have hk : k < zs.length := by omega
  have e1 : cur.getD k 0 = cur[k] := by simp [List.getD_eq_getElem?_getD, hk1]
  have e2 : (turnW zs).getD k 0 = (turnW zs)[k] := by simp only [List.getD_eq_getElem?_getD, List.getElem?_eq_getElem hk2, Option.getD_some]
  rw [← e1, ← e2, h3 k hk, if_pos (by omega), turnW_at zs k hk]

set_option maxRecDepth 100000 in
set_option maxHeartbeats 3200000 in
theorem breverse_any (g cap : Nat) (zs : List Nat) (w : World) (ho : BRow w g zs) (hl : zs.length ≤ 1000000000) :
    Calls Tryz.prog 99 #[.slice (some ⟨g, 0, none⟩) zs.length cap] w fun e w' =>
      e = .returned (.tuple #[]) ∧ BRow w' g zs.reverse ∧ w.grownBy w' (some g) := by
  go_enter Tryz.func99, Tryz.ntmps99
  go_wp2
  go_loopw [2, 3] (fun iv jv wr => ∃ (i : Nat) (cur : List Nat), iv = .int .i64 i ∧ jv = .int .i64 ((zs.length : Int) - 1 - i) ∧ BRow wr g cur ∧ RevI zs cur i ∧ w.grownBy wr (some g))
    (fun iv jv _ => (intOf jv + 1 - intOf iv).toNat)
  case atStart => exact ⟨0, zs, rfl, by go_num, ho, ⟨rfl, by omega, fun k hk => by rw [if_neg (by omega)]⟩, grown_refl _ _⟩
  case round =>
    obtain ⟨i, cur, rfl, rfl, own, hI, gr⟩ := hrel
    have h1 := hI.1
    have h2 := hI.2.1
    by_cases hij : i < zs.length - 1 - i
    · obtain ⟨j, hj⟩ : ∃ j, zs.length - 1 - i = j := ⟨_, rfl⟩
      have hjI : (zs.length : Int) - 1 - i = (j : Int) := by omega
      have ci := own.cell i (by omega)
      have cj := own.cell j (by omega)
      have fi := own.free i (by omega)
      have fj := own.free j (by omega)
      have hst := revI_step hI hij
      rw [hj] at hst hij
      rw [hjI]
      have hjl : j < zs.length := by omega
      have Hj : Hid ((zs.length : Int) - 1 - i = (j : Int)) := hjI
      obtain ⟨x, ex⟩ : ∃ x, cur.getD i 0 = x := ⟨_, rfl⟩
      obtain ⟨y, ey⟩ : ∃ y, cur.getD j 0 = y := ⟨_, rfl⟩
      rw [ex] at ci hst
      rw [ey] at cj hst
      clear hj hjI ex ey hI
      go_wp2
      go_region
      all_goals go_wp2
      all_goals go_roundw
      case rel => exact ⟨i + 1, _, by go_num, by have := Hj.out; go_num, ((own.store i y).store j x).drew, hst, grown_trans (grown_trans gr (grown_set _ _ _ _)) ((grown_trans (grown_set _ _ _ _) (grown_drew _ _)))⟩
      case measure => have := Hj.out; simp [intOf]; omega
    · have hd : ¬ ((i : Int) < (zs.length : Int) - 1 - i) := by omega
      go_wp2
      go_end0
      rw [← revI_end hI hij]
      exact ⟨rfl, own, gr⟩

set_option maxRecDepth 100000 in
set_option maxHeartbeats 3200000 in
theorem words_any (g cap m : Nat) (zs : List Nat) (w : World) (ho : BRow w g zs) (hl : zs.length ≤ 1000000000) (hm : zs.length = 2 * m) :
    Calls Tryz.prog 100 #[.slice (some ⟨g, 0, none⟩) zs.length cap] w fun e w' =>
      e = .returned (.tuple #[]) ∧ BRow w' g (turnW zs) ∧ w.grownBy w' (some g) := by
  go_enter Tryz.func100, Tryz.ntmps100
  go_wp2
  go_loopw [2] (fun iv wr => ∃ (i : Nat) (cur : List Nat), iv = .int .i64 ((2 * i : Nat) : Int) ∧ BRow wr g cur ∧ WI zs cur i ∧ i ≤ m ∧ w.grownBy wr (some g))
    (fun iv _ => ((zs.length : Int) - intOf iv).toNat)
  case atStart => exact ⟨0, zs, rfl, ho, ⟨rfl, fun k hk => by rw [if_neg (by omega)]⟩, by omega, grown_refl _ _⟩
  case round =>
    obtain ⟨i, cur, rfl, own, hI, him, gr⟩ := hrel
    have h1 := hI.1
    by_cases hij : i < m
    · obtain ⟨a, ha⟩ : ∃ a, 2 * i = a := ⟨_, rfl⟩
      have ci := own.cell a (by omega)
      have cj := own.cell (a + 1) (by omega)
      have fi := own.free a (by omega)
      have fj := own.free (a + 1) (by omega)
      have hst := wi_step hI (by omega)
      rw [ha] at hst ⊢
      have hal : a + 1 < zs.length := by omega
      have Ha : Hid (2 * i = a) := ha
      obtain ⟨x, ex⟩ : ∃ x, cur.getD a 0 = x := ⟨_, rfl⟩
      obtain ⟨y, ey⟩ : ∃ y, cur.getD (a + 1) 0 = y := ⟨_, rfl⟩
      rw [ex] at ci hst
      rw [ey] at cj hst
      clear ha ex ey hI hm
      go_wp2
      go_region
      all_goals go_wp2
      all_goals go_roundw
      case rel => exact ⟨i + 1, _, by have := Ha.out; go_num, ((own.store a y).store (a + 1) x).drew, hst, by omega, grown_trans (grown_trans gr (grown_set _ _ _ _)) ((grown_trans (grown_set _ _ _ _) (grown_drew _ _)))⟩
      case measure => simp [intOf]; omega
    · have hd : ¬ (((2 * i : Nat) : Int) + 1 < (zs.length : Int)) := by omega
      go_wp2
      go_end0
      rw [← wi_end hI (by omega)]
      exact ⟨rfl, own, gr⟩
end Go.Proofs.YtgbccbmflokooaaGreatDoor

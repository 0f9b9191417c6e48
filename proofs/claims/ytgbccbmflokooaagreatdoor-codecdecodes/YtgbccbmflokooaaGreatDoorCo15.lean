/-
  Numbers of one word.
-/
import Derived.Test.YtgbccbmflokooaaGreatDoorCo12
import Derived.Test.YtgbccbmflokooaaGreatDoorCo14
namespace Go.Proofs.YtgbccbmflokooaaGreatDoor
open Go.RowKit

theorem word_digits (x : Nat) : Dg.vl 4294967296 [x % 4294967296, x / 4294967296] = x := by
  simp only [Dg.vl]
  omega

set_option maxRecDepth 100000 in
set_option maxHeartbeats 1600000 in
theorem fromWord_any (x : Nat) (hx : x < 18446744073709551616) (w : World) :
    Calls Tryz.prog 61 #[.int .u64 (x : Int)] w fun z w' => ∃ v, z = .returned v ∧ Own w' w.heap.size 84 .u32 v (Dg.dg 4294967296 x) ∧ Below w.heap.size w w' := by
  have hlo : (x : Int) % 4294967296 = ((x % 4294967296 : Nat) : Int) := by omega
  have hhi : (x : Int) / 4294967296 = ((x / 4294967296 : Nat) : Int) := by omega
  have hx2 : x / 4294967296 < 4294967296 := by omega
  have hx1 : x % 4294967296 < 4294967296 := Nat.mod_lt _ (by omega)
  have hd := word_digits x
  obtain ⟨lo, elo⟩ : ∃ n, x % 4294967296 = n := ⟨_, rfl⟩
  obtain ⟨hi, ehi⟩ : ∃ n, x / 4294967296 = n := ⟨_, rfl⟩
  rw [elo] at hlo hd hx1
  rw [ehi] at hhi hd hx2
  have own : Own (w.alloc (.cells #[.int .u32 (lo : Int), .int .u32 (hi : Int)] 84)) w.heap.size 84 .u32 (.slice (some ⟨w.heap.size, 0, none⟩) 2 2) [lo, hi] :=
    own_of_heap (zs := [lo, hi]) (heap_alloc_new _ _) (Nat.le_refl _) (by unfold maxLen; simp)
  have htr := trim_any (some ⟨w.heap.size, 0, none⟩) 2 2 [lo, hi] _ own.rd
  have hsm : Dg.Small 4294967296 [lo, hi] := by
    intro i
    match i with
    | 0 => exact hx1
    | 1 => exact hx2
    | i + 2 => simp
  have b0 := below_alloc w (.cells #[.int .u32 (lo : Int), .int .u32 (hi : Int)] 84)
  have HH : Hid (_ ∧ _) := ⟨hd, hsm⟩
  have hxI : (x : Int) < 18446744073709551616 := by omega
  clear elo ehi hd hsm
  go_enter Tryz.func61, Tryz.ntmps61
  go_wp2_with fail
  refine htr.mono ?_
  rintro z w1 ⟨n, rfl, ht, rfl⟩
  go_wp2
  go_ret
  obtain ⟨hd, hsm⟩ := HH.out
  refine ⟨_, rfl, ?_, b0⟩
  have := Dg.trim_eq 4294967296 (by omega) [lo, hi] n hsm ht.1 ht.2.1 ht.2.2
  rw [hd] at this
  rw [← this]
  exact own.take n ht.1
end Go.Proofs.YtgbccbmflokooaaGreatDoor

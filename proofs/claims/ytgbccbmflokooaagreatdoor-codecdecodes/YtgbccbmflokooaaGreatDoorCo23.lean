/-
  Patterns: what must be in any case.
-/
import Derived.Test.YtgbccbmflokooaaGreatDoorCo22
namespace Go.Proofs.YtgbccbmflokooaaGreatDoor
open Go.RowKit

/-- Two patterns. -/
def patA : ByteArray := strOf [64, 64, 0, 0]
def patB : ByteArray := strOf [0, 128, 0, 0]

theorem patA_ok : patC 1 patA = 0 ∧ decC 1 patA = 2 ∧ decG 1 patA = false ∧ decM 1 patA = 3 ∧ decP 1 patA = 0 := by
  refine ⟨?_, ?_, ?_, ?_, ?_⟩ <;> kernel_rfl

theorem patB_ok : encOE 6 5 0 0 false 0 = 0 ∧ encOS 6 5 0 0 false 0 = patB := by
  refine ⟨?_, ?_⟩ <;> kernel_rfl

theorem dg3 : Dg.dg 4294967296 3 = [3] := by
  have := Dg.dg_vl 4294967296 (by omega) [3] (fun i => by
    match i with
    | 0 => decide
    | i + 1 => simp) (fun _ => by simp)
  simpa [Dg.vl] using this

theorem made_run {P : Program} (W : World) (e src dst : TypeId) (zs : List Nat) (hs : P.underlying src = some (.slice e)) (he : P.underlying e = some (.int .u8)) (hd : P.underlying dst = some .string) (hm : zs.length ≤ maxLen) :
    (convert src dst (.slice (some ⟨W.heap.size, 0, none⟩) zs.length zs.length)).run P (W.alloc (.cells (zs.map (fun n : Nat => Value.int .u8 (n : Int))).toArray e)) = .ok (.string (strOf zs)) (W.alloc (.cells (zs.map (fun n : Nat => Value.int .u8 (n : Int))).toArray e)) :=
  convert_bytes src dst hs he hd (own_of_heap (base := W.heap.size) (heap_alloc_new _ _) (Nat.le_refl _) hm)

set_option maxRecDepth 100000 in
set_option maxHeartbeats 6400000 in
theorem codecBegun_any (w : World) : Calls Tryz.prog 12 #[] w fun z w' => z = .returned (.bool true) ∧ Below w.heap.size w w' := by
  have hcA : ∀ W : World, (convert 82 9 (.slice (some ⟨W.heap.size, 0, none⟩) 4 4)).run Tryz.prog (W.alloc (.cells #[.int .u8 64, .int .u8 64, .int .u8 0, .int .u8 0] 5)) = .ok (.string patA) (W.alloc (.cells #[.int .u8 64, .int .u8 64, .int .u8 0, .int .u8 0] 5)) := fun W => made_run W 5 82 9 [64, 64, 0, 0] Tryz.underlying82 Tryz.underlying5 Tryz.underlying9 (by unfold maxLen; simp)
  have hcB : ∀ W : World, (convert 82 9 (.slice (some ⟨W.heap.size, 0, none⟩) 4 4)).run Tryz.prog (W.alloc (.cells #[.int .u8 0, .int .u8 128, .int .u8 0, .int .u8 0] 5)) = .ok (.string patB) (W.alloc (.cells #[.int .u8 0, .int .u8 128, .int .u8 0, .int .u8 0] 5)) := fun W => made_run W 5 82 9 [0, 128, 0, 0] Tryz.underlying82 Tryz.underlying5 Tryz.underlying9 (by unfold maxLen; simp)
  have HD : Hid (∀ w1, Calls Tryz.prog 8 #[.int .i64 1, .string patA] w1 (DecRes w1 2 false 3 0 0)) := fun w1 => by
    have := decode_any 1 patA w1
    obtain ⟨h1, h2, h3, h4, h5⟩ := patA_ok
    rw [h1, h2, h3, h4, h5] at this
    exact this
  have HE : Hid (∀ w1, Calls Tryz.prog 15 #[.int .i64 6, .agg #[.int .i64 5, .bool false, .slice none 0 0, .int .i64 0]] w1 fun z w' => z = .returned (.tuple #[.string patB, .int .i64 0]) ∧ Below w1.heap.size w1 w') := fun w1 => by
    have := encode_other 6 5 (by omega) false none 0 0 0 0 w1 (fun w2 _ => (check_any _ [] w2 (rd_nil _ _)).mono (fun _ _ h => ⟨h.1, by rw [h.2]; exact Below.refl _ _⟩))
    rw [patB_ok.1, patB_ok.2] at this
    exact this
  generalize patA = pA at *
  generalize patB = pB at *
  have b1 := below_alloc w (.cells #[.int .u8 64, .int .u8 64, .int .u8 0, .int .u8 0] 5)
  go_enter Tryz.func12, Tryz.ntmps12
  go_wp2_with fail
  refine (HD.out _).mono ?_
  rintro z w2 ⟨v, rfl, r2, b2⟩
  rw [dg3] at r2
  obtain ⟨vo, vc, hv⟩ := r2.shape
  subst hv
  have b3 := below_alloc w2 (.cells #[.int .i64 2, .bool false, .slice vo 1 vc, .int .i64 0] 25)
  have q3 := locE_new w2 [.int .i64 2, .bool false, .slice vo 1 vc, .int .i64 0] 25
  have b03 := below_trans (below_trans b1 b2) b3
  have r3 := r2.later b3
  go_wp2_with fail
  refine (HE.out _).mono ?_
  rintro z w4 ⟨rfl, b4⟩
  have q4 := q3.later b4
  have r4 := r3.later b4
  have b04 := below_trans b03 b4
  have x0 := q4.cell 0 rfl
  have x1 := q4.cell 1 rfl
  have x2 := q4.cell 2 rfl
  have x3 := q4.cell 3 rfl
  have b5 := below_alloc w4 (.cells #[.int .u32 3] 84)
  have own5 : Own (w4.alloc (.cells #[.int .u32 3] 84)) w4.heap.size 84 .u32 (.slice (some ⟨w4.heap.size, 0, none⟩) 1 1) [3] := own_of_heap (zs := [3]) (heap_alloc_new _ _) (Nat.le_refl _) (by unfold maxLen; simp)
  have hsn := same_any _ _ _ [3] (w4.alloc (.cells #[.int .u32 3] 84)) (r4.later b5) own5.rd
  have HN : Hid _ := hsn
  have b05 := below_trans b04 b5
  have hx0 := World.new_ne w4 _ x0
  clear b1 b2 b3 b03 r2 r3 q3 HD HE hsn r4 b4 b04 own5
  go_wp2_with fail
  refine Calls.mono HN.out ?_
  rintro z w6 ⟨rfl, b6⟩
  have y3 := (q4.later b5).later b6 |>.cell 3 rfl
  have b06 := below_trans b05 b6
  go_wp2
  go_ret
  exact ⟨rfl, below_trans b06 (below_alloc _ _)⟩
end Go.Proofs.YtgbccbmflokooaaGreatDoor

/-
  Contracts of nat.printed and grow.
-/
import Derived.Test.YtepcafhlhnlgaaaNb
import Derived.Lib.Strings
namespace Go.Proofs.Ytepcafhlhnlgaaa
open Go.RowKit

/-- Byte i of a text. -/
def byt (s : ByteArray) (i : Nat) : Nat := (s[i]?.getD 0).toNat

theorem byt_lt (s : ByteArray) (i : Nat) : byt s i < 256 := by unfold byt; exact UInt8.toNat_lt _

theorem byt_get (s : ByteArray) (i : Nat) (h : i < s.size) : (s[i]'h).toNat = byt s i := by
  unfold byt; rw [getElem?_pos s i h]; rfl

theorem index_byt (s : ByteArray) (i : Nat) (h : i < s.size) : ∀ w, (Instr.index 9 (.string s) (.int .i64 (i : Int))).run Try.prog w = .ok (.int .u8 ((byt s i : Nat) : Int)) w := by
  intro w
  rw [run_index_string w 9 s .i64 (i : Int) Try.underlying9, dif_pos ⟨by omega, by omega⟩]
  have := byt_get s i h
  simp only [Int.toNat_natCast]
  rw [this]

/-- Could a text have been printed? -/
def Pr (s : ByteArray) : Prop := s.size ≠ 0 ∧ (byt s 0 = 48 → s.size = 1) ∧ ∀ i, i < s.size → 48 ≤ byt s i ∧ byt s i ≤ 57

theorem size_zero (s : ByteArray) (h : s.size = 0) : s = ⟨#[]⟩ := by
  obtain ⟨d⟩ := s
  simp only [ByteArray.size] at h
  have := Array.eq_empty_of_size_eq_zero h
  rw [this]

theorem list_empty (s : ByteArray) (h : s.size ≠ 0) : s.toList.isEmpty = false := by
  rw [Lib.toList_data]
  rw [List.isEmpty_eq_false_iff]
  intro e
  apply h
  have := congrArg List.length e
  rw [Array.length_toList] at this
  exact this

theorem list_one (s : ByteArray) (h0 : byt s 0 = 48) (h1 : s.size = 1) : (s.toList == [48]) = true := by
  rw [Lib.toList_data, beq_iff_eq]
  apply List.ext_getElem
  · rw [Array.length_toList]; exact h1
  · intro i a b
    have hi : i = 0 := by simpa using b
    subst hi
    have := byt_get s 0 (by omega)
    rw [h0] at this
    have e : s.data.toList[0] = s[0]'(by omega) := rfl
    rw [e]
    exact UInt8.toNat_inj.1 this

theorem list_more (s : ByteArray) (h1 : s.size ≠ 1) : (s.toList == [48]) = false := by
  rw [Lib.toList_data, beq_eq_false_iff_ne]
  intro e
  apply h1
  have := congrArg List.length e
  rw [Array.length_toList] at this
  exact this

/-- What printed answers. -/
def PrAns (s : ByteArray) (w : World) (e : Ending) (w' : World) : Prop := ∃ b : Bool, e = .returned (.bool b) ∧ (b = true ↔ Pr s) ∧ w' = w

set_option maxRecDepth 100000 in
set_option maxHeartbeats 1600000 in
theorem printed_any (s : ByteArray) (w : World) (hs : s.size ≤ 12000) :
    Calls Try.prog 68 #[.string s] w (PrAns s w) := by
  by_cases h0 : s.size = 0
  · have := size_zero s h0
    subst this
    go_enter Try.func68, Try.ntmps68
    go_wp2
    go_ret
    exact ⟨false, rfl, ⟨fun h => by simp at h, fun h => absurd rfl h.1⟩, rfl⟩
  · have hi0 := index_byt s 0 (by omega)
    have hemp := list_empty s h0
    obtain ⟨x, hx⟩ : ∃ x, byt s 0 = x := ⟨_, rfl⟩
    rw [hx] at hi0
    have HX : Hid (byt s 0 = x) := hx
    have hi0' : ∀ w, (Instr.index 9 (.string s) (.int .i64 0)).run Try.prog w = .ok (.int .u8 (x : Int)) w := hi0
    have hx8 : x < 256 := by rw [← hx]; exact byt_lt s 0
    clear hx hi0
    by_cases hC : x = 48 ∧ s.size ≠ 1
    · obtain ⟨rfl, hC2⟩ := hC
      have hm := list_more s hC2
      have hi0 : ∀ w, (Instr.index 9 (.string s) (.int .i64 0)).run Try.prog w = .ok (.int .u8 48) w := hi0'
      clear hi0'
      go_enter Try.func68, Try.ntmps68
      go_wp2
      go_ret
      exact ⟨false, rfl, ⟨fun h => by simp at h, fun h => absurd (h.2.1 HX.out) hC2⟩, rfl⟩
    · have hp : (byt s 0 = 48 → s.size = 1) := fun h => by
        rw [HX.out] at h
        by_cases e : s.size = 1
        · exact e
        · exact absurd ⟨h, e⟩ hC
      have HP : Hid (byt s 0 = 48 → s.size = 1) := hp
      have hone : x = 48 → (s.toList == [48]) = true := fun h => list_one s (HX.out.trans h) (hp (HX.out.trans h))
      clear hp
      have rest : ∀ b : Bool, (b = true ↔ Pr s) → True := fun _ _ => trivial
      clear rest hC
      by_cases hx48 : x = 48
      · subst hx48
        have hl1 := hone rfl
        clear hone
        have hi0 : ∀ w, (Instr.index 9 (.string s) (.int .i64 0)).run Try.prog w = .ok (.int .u8 48) w := hi0'
        clear hi0'
        go_enter Try.func68, Try.ntmps68
        go_wp2
        go_loop [17] (fun iv => ∃ k : Nat, k ≤ s.size ∧ iv = .int .i64 k ∧ Hid (∀ i, i < k → 48 ≤ byt s i ∧ byt s i ≤ 57)) (fun iv => s.size - (intOf iv).toNat)
        case atStart => exact ⟨0, Nat.zero_le _, rfl, fun i hi => by omega⟩
        case round =>
          obtain ⟨k, hk, rfl, hall⟩ := hrel
          by_cases hlt : k < s.size
          · have hik := index_byt s k hlt
            obtain ⟨y, hy⟩ : ∃ y, byt s k = y := ⟨_, rfl⟩
            rw [hy] at hik
            have HY : Hid (byt s k = y) := hy
            have hy8 : y < 256 := by rw [← hy]; exact byt_lt s k
            clear hy
            by_cases h1 : y < 48
            · go_wp2
              go_ret
              exact ⟨false, rfl, ⟨fun h => by simp at h, fun h => by have := (h.2.2 k hlt).1; rw [HY.out] at this; omega⟩, rfl⟩
            · by_cases h2 : 57 < y
              · go_wp2
                go_ret
                exact ⟨false, rfl, ⟨fun h => by simp at h, fun h => by have := (h.2.2 k hlt).2; rw [HY.out] at this; omega⟩, rfl⟩
              · go_wp2
                go_round
                case rel => exact ⟨k + 1, by omega, by go_num, fun i hi => by
                  by_cases e : i = k
                  · rw [e, HY.out]; omega
                  · exact hall i (by omega)⟩
                case measure => simp [intOf]; omega
          · go_wp2
            go_ret
            exact ⟨true, rfl, ⟨fun _ => ⟨h0, HP.out, fun i hi => hall i (by omega)⟩, fun _ => rfl⟩, rfl⟩
      · have hx48b : ((x : Int) == 48) = false := by simp; omega
        clear hone
        go_enter Try.func68, Try.ntmps68
        go_wp2
        go_loop [17] (fun iv => ∃ k : Nat, k ≤ s.size ∧ iv = .int .i64 k ∧ Hid (∀ i, i < k → 48 ≤ byt s i ∧ byt s i ≤ 57)) (fun iv => s.size - (intOf iv).toNat)
        case atStart => exact ⟨0, Nat.zero_le _, rfl, fun i hi => by omega⟩
        case round =>
          obtain ⟨k, hk, rfl, hall⟩ := hrel
          by_cases hlt : k < s.size
          · have hik := index_byt s k hlt
            obtain ⟨y, hy⟩ : ∃ y, byt s k = y := ⟨_, rfl⟩
            rw [hy] at hik
            have HY : Hid (byt s k = y) := hy
            have hy8 : y < 256 := by rw [← hy]; exact byt_lt s k
            clear hy
            by_cases h1 : y < 48
            · go_wp2
              go_ret
              exact ⟨false, rfl, ⟨fun h => by simp at h, fun h => by have := (h.2.2 k hlt).1; rw [HY.out] at this; omega⟩, rfl⟩
            · by_cases h2 : 57 < y
              · go_wp2
                go_ret
                exact ⟨false, rfl, ⟨fun h => by simp at h, fun h => by have := (h.2.2 k hlt).2; rw [HY.out] at this; omega⟩, rfl⟩
              · go_wp2
                go_round
                case rel => exact ⟨k + 1, by omega, by go_num, fun i hi => by
                  by_cases e : i = k
                  · rw [e, HY.out]; omega
                  · exact hall i (by omega)⟩
                case measure => simp [intOf]; omega
          · go_wp2
            go_ret
            exact ⟨true, rfl, ⟨fun _ => ⟨h0, HP.out, fun i hi => hall i (by omega)⟩, fun _ => rfl⟩, rfl⟩
end Go.Proofs.Ytepcafhlhnlgaaa

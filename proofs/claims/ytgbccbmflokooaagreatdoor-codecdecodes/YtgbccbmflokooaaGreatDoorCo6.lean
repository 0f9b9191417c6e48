/-
  Patterns: bytes that lie in a block and may be written; their bits.
-/
import Derived.Test.YtgbccbmflokooaaGreatDoorCo1
import Derived.Laws.IdiomStrings
namespace Go.Proofs.YtgbccbmflokooaaGreatDoor
open Go.RowKit

/-- The block g begins with these bytes, and they may be written. -/
structure BRow (w : World) (g : Nat) (zs : List Nat) : Prop where
  cell : ∀ i, i < zs.length → w.cell? ⟨g, i, none⟩ = some (.int .u8 ((zs.getD i 0 : Nat) : Int))
  free : ∀ i, i < zs.length → w.frozen? ⟨g, i, none⟩ = false
  lt : g < w.heap.size

theorem frozen_of_heap {w w' : World} {g i : Nat} (h : w'.heap[g]? = w.heap[g]?) : w'.frozen? ⟨g, i, none⟩ = w.frozen? ⟨g, i, none⟩ := by
  unfold World.frozen?
  simp only [h]

theorem BRow.later {w w' : World} {g : Nat} {zs : List Nat} (h : BRow w g zs) (hb : Below w.heap.size w w') : BRow w' g zs :=
  ⟨fun i hi => cell_later hb (h.cell i hi), fun i hi => (frozen_of_heap (hb.block g h.lt)).trans (h.free i hi), Nat.lt_of_lt_of_le h.lt hb.size⟩

theorem BRow.drew {w : World} {g : Nat} {zs : List Nat} (h : BRow w g zs) : BRow w.drew g zs := h.later (Below.refl _ _).drew

theorem frozen_set (w : World) (b o : Nat) (v : Value) (g i : Nat) : (w.setCell ⟨b, o, none⟩ v).frozen? ⟨g, i, none⟩ = w.frozen? ⟨g, i, none⟩ :=
  World.frozen?_setCells b [v] o w ⟨g, i, none⟩

theorem BRow.store {w : World} {g : Nat} {zs : List Nat} (h : BRow w g zs) (j x : Nat) : BRow (w.setCell ⟨g, j, none⟩ (.int .u8 (x : Int))) g (zs.set j x) := by
  refine ⟨fun i hi => ?_, fun i hi => ?_, by simpa [World.setCell] using h.lt⟩
  · rw [List.length_set] at hi
    by_cases e : j = i
    · subst e
      rw [World.cell?_setCell_same (h := h.cell j hi)]
      simp [List.getD_eq_getElem?_getD, hi]
    · rw [World.cell?_setCell_other (h := by intro k; cases k; exact e rfl), h.cell i hi]
      simp [List.getD_eq_getElem?_getD, e]
  · rw [List.length_set] at hi
    rw [frozen_set]
    exact h.free i hi

theorem own_brow {w : World} {base e : Nat} {g n cap : Nat} {zs : List Nat} (h : Own w base e .u8 (.slice (some ⟨g, 0, none⟩) n cap) zs) : BRow w g zs :=
  ⟨fun i hi => h.cell i hi, fun i _ => h.free i, h.block.2⟩

/-- The bytes of a text. -/
def bytesOf (s : ByteArray) : List Nat := s.data.toList.map (fun b => b.toNat)

theorem bytesOf_len (s : ByteArray) : (bytesOf s).length = s.size := by
  unfold bytesOf
  rw [List.length_map, Array.length_toList]
  rfl

theorem bytesOf_small (s : ByteArray) : Dg.Small 256 (bytesOf s) := by
  intro i
  unfold bytesOf
  simp only [List.getD_eq_getElem?_getD, List.getElem?_map]
  cases h : s.data.toList[i]? with
  | none => simp
  | some b => simpa using b.toNat_lt

/-- Bit i of bytes, from the uppermost on. -/
def bitB (zs : List Nat) (i : Nat) : Nat := zs.getD (i / 8) 0 / 2 ^ (7 - i % 8) % 2

/-- So many bits, from one on. -/
def bitsV (zs : List Nat) (f : Nat) : Nat → Nat
  | 0 => 0
  | n + 1 => 2 * bitsV zs f n + bitB zs (f + n)

theorem bitB_lt (zs : List Nat) (i : Nat) : bitB zs i < 2 := Nat.mod_lt _ (by omega)

theorem bitsV_lt (zs : List Nat) (f : Nat) : ∀ n, bitsV zs f n < 2 ^ n
  | 0 => by simp [bitsV]
  | n + 1 => by
    have h1 := bitsV_lt zs f n
    have h2 := bitB_lt zs (f + n)
    rw [Nat.pow_succ]
    simp only [bitsV]
    omega
end Go.Proofs.YtgbccbmflokooaaGreatDoor

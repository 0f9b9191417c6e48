/-
  What a slice of integers reads as, what the call's own row reads as, and that both stay where nothing that was there is written.
-/
import Derived.WalkKit
import Derived.WalkSpells
import Derived.Deep.QuietTactic
import Derived.BigQuiet
import Derived.Test.YtgbccbmflokooaaGreatDoorMath
namespace Go.Proofs.YtgbccbmflokooaaGreatDoor
open Go.RowKit

/-- The slice value v reads, in the world w, as the numbers zs. -/
def Rd (w : World) (k : IntKind) (v : Value) (zs : List Nat) : Prop :=
  ∃ ao cap, v = .slice ao zs.length cap ∧ zs.length ≤ cap ∧ cap ≤ maxLen ∧
    (0 < zs.length → ∃ b off, ao = some ⟨b, off, none⟩ ∧ ∀ i, i < zs.length → w.cell? ⟨b, off + i, none⟩ = some (.int k ((zs.getD i 0 : Nat) : Int)))

/-- The slice value v is the call's own row of the numbers zs. -/
def Own (w : World) (base e : Nat) (k : IntKind) (v : Value) (zs : List Nat) : Prop :=
  w.ownsRow base e 1 v zs.length (zs.map (fun n : Nat => Value.int k (n : Int)))

theorem Rd.later {w w' : World} {k : IntKind} {v : Value} {zs : List Nat} (h : Rd w k v zs) (hb : Below w.heap.size w w') : Rd w' k v zs := by
  obtain ⟨ao, cap, hv, h1, h2, h3⟩ := h
  refine ⟨ao, cap, hv, h1, h2, fun hp => ?_⟩
  obtain ⟨b, off, ha, hc⟩ := h3 hp
  exact ⟨b, off, ha, fun i hi => cell_later hb (hc i hi)⟩

theorem Rd.shape {w : World} {k : IntKind} {v : Value} {zs : List Nat} (h : Rd w k v zs) : ∃ ao cap, v = .slice ao zs.length cap := by
  obtain ⟨ao, cap, hv, _⟩ := h
  exact ⟨ao, cap, hv⟩

theorem below_trans {w w1 w2 : World} (h : Below w.heap.size w w1) (k : Below w1.heap.size w1 w2) : Below w.heap.size w w2 :=
  h.trans (k.mono h.size)

theorem below_drewN {w w1 : World} {B : Nat} (h : Below B w w1) (n : Nat) : Below B w (w1.drewN n) := ⟨h.os, h.tape, h.output, h.size, h.block⟩

theorem Own.rd {w : World} {base e : Nat} {k : IntKind} {v : Value} {zs : List Nat} (h : Own w base e k v zs) : Rd w k v zs := by
  obtain ⟨hl, h2⟩ := h
  rcases h2 with ⟨hv, hn⟩ | ⟨g, cap, cur, hv, hb, hh, hnc, hcm, hcs, htake⟩
  · refine ⟨none, 0, by rw [hv, hn], by omega, by unfold maxLen; omega, fun hp => by omega⟩
  · refine ⟨_, cap, hv, hnc, hcm, fun hp => ⟨g, 0, rfl, fun i hi => ?_⟩⟩
    have hc := World.ownsRow.cellAt (w := w) (base := base) (e := e) (size := 1) (g := g) (n := zs.length) (cap := cap) (xs := zs.map (fun n : Nat => Value.int k (n : Int))) ⟨hl, .inr ⟨g, cap, cur, rfl, hb, hh, hnc, hcm, hcs, htake⟩⟩ i (by omega)
    rw [Nat.zero_add, hc, List.getElem?_map, List.getElem?_eq_getElem hi]
    simp [List.getD_eq_getElem?_getD, hi]

theorem Own.later {w w' : World} {base e : Nat} {k : IntKind} {v : Value} {zs : List Nat} (h : Own w base e k v zs) (hb : Below w.heap.size w w') : Own w' base e k v zs := by
  obtain ⟨hl, h2⟩ := h
  refine ⟨hl, ?_⟩
  rcases h2 with h2 | ⟨g, cap, cur, hv, hbg, hh, r⟩
  · exact .inl h2
  · refine .inr ⟨g, cap, cur, hv, hbg, ?_, r⟩
    rw [hb.block g ?_]
    · exact hh
    · rw [Array.getElem?_eq_some_iff] at hh
      exact hh.1

theorem Own.len {w : World} {base e : Nat} {k : IntKind} {g n cap : Nat} {zs : List Nat} (h : Own w base e k (.slice (some ⟨g, 0, none⟩) n cap) zs) : n = zs.length := by
  rcases h.2 with ⟨hv, _⟩ | ⟨g', cap', cur, hv, _⟩
  · simp at hv
  · simp at hv; exact hv.2.1

theorem Own.cell {w : World} {base e : Nat} {k : IntKind} {g n cap : Nat} {zs : List Nat} (h : Own w base e k (.slice (some ⟨g, 0, none⟩) n cap) zs) (j : Nat) (hj : j < zs.length) :
    w.cell? ⟨g, j, none⟩ = some (.int k ((zs.getD j 0 : Nat) : Int)) := by
  have hn := h.len
  subst hn
  have hc := World.ownsRow.cellAt h j (by omega)
  rw [hc, List.getElem?_map, List.getElem?_eq_getElem hj]
  simp [List.getD_eq_getElem?_getD, hj]

theorem Own.free {w : World} {base e : Nat} {k : IntKind} {g n cap : Nat} {zs : List Nat} (h : Own w base e k (.slice (some ⟨g, 0, none⟩) n cap) zs) (j : Nat) : w.frozen? ⟨g, j, none⟩ = false := by
  have hn := h.len
  subst hn
  exact World.ownsRow.frozenAt h j

theorem Own.block {w : World} {base e : Nat} {k : IntKind} {g n cap : Nat} {zs : List Nat} (h : Own w base e k (.slice (some ⟨g, 0, none⟩) n cap) zs) : base ≤ g ∧ g < w.heap.size := by
  have hn := h.len
  subst hn
  exact World.ownsRow.lt h g rfl

theorem Own.store {w : World} {base e : Nat} {k : IntKind} {g n cap : Nat} {zs : List Nat} (h : Own w base e k (.slice (some ⟨g, 0, none⟩) n cap) zs) (j x : Nat) :
    Own (w.setCell ⟨g, j, none⟩ (.int k (x : Int))) base e k (.slice (some ⟨g, 0, none⟩) n cap) (zs.set j x) := by
  have hn := h.len
  subst hn
  have := (World.ownsRow.stored h j (.int k (x : Int))).1
  unfold Own
  rw [List.length_set, List.map_set]
  exact this

/-- Fewer of the row: still the call's own. -/
theorem Own.take {w : World} {base e : Nat} {k : IntKind} {g n cap : Nat} {zs : List Nat} (h : Own w base e k (.slice (some ⟨g, 0, none⟩) n cap) zs) (m : Nat) (hm : m ≤ zs.length) :
    Own w base e k (.slice (some ⟨g, 0, none⟩) m cap) (zs.take m) := by
  have hn := h.len
  subst hn
  obtain ⟨h1, h2⟩ := h
  refine ⟨by simp, ?_⟩
  rcases h2 with ⟨hv, _⟩ | ⟨g', cap', cur, hv, hb, hh, hnc, hcm, hcs, htake⟩
  · simp at hv
  · simp only [Value.slice.injEq, Option.some.injEq, Addr.mk.injEq, and_true, true_and] at hv
    obtain ⟨rfl, rfl⟩ := hv
    refine .inr ⟨g, cap, cur, ?_, hb, hh, by simp; omega, hcm, hcs, ?_⟩
    · simp [Nat.min_eq_left hm]
    · rw [List.map_take, ← htake]
      simp only [Nat.mul_one, List.length_take, List.take_take]

theorem Own.lower {w : World} {base base' e : Nat} {k : IntKind} {v : Value} {zs : List Nat} (h : Own w base e k v zs) (hb : base' ≤ base) : Own w base' e k v zs := by
  obtain ⟨h1, h2⟩ := h
  refine ⟨h1, ?_⟩
  rcases h2 with h2 | ⟨g, cap, cur, hv, hbg, r⟩
  · exact .inl h2
  · exact .inr ⟨g, cap, cur, hv, by omega, r⟩

theorem own_nil (w : World) (base e : Nat) (k : IntKind) : Own w base e k (.slice none 0 0) [] := World.ownsRow_nil w base e 1

theorem own_made {w : World} {base e : Nat} {k : IntKind} {v : Value} {n : Nat} (h : w.ownsRow base e 1 v n (madeCells #[Value.int k 0] n).toList) : Own w base e k v (List.replicate n 0) := by
  rw [toList_madeCells_one] at h
  simpa [Own] using h

end Go.Proofs.YtgbccbmflokooaaGreatDoor

/-
  Blocks of a struct, by all that lies in them: what they hold, what a store makes of them, and that rows of numbers do not lie there.
-/
import Derived.Test.YtgbccbmflokooaaGreatDoorDa
namespace Go.Proofs.YtgbccbmflokooaaGreatDoor
open Go.RowKit

/-- The block b is just these values, of that type. -/
def LocE (w : World) (b : Nat) (ty : TypeId) (vs : List Value) : Prop := w.heap[b]? = some (.cells vs.toArray ty (0, 0))

theorem LocE.lt {w : World} {b : Nat} {ty : TypeId} {vs : List Value} (h : LocE w b ty vs) : b < w.heap.size := (Array.getElem?_eq_some_iff.1 h).1

theorem LocE.later {w w' : World} {b : Nat} {ty : TypeId} {vs : List Value} (h : LocE w b ty vs) (hb : Below w.heap.size w w') : LocE w' b ty vs := (hb.block b h.lt).trans h

theorem LocE.drew {w : World} {b : Nat} {ty : TypeId} {vs : List Value} (h : LocE w b ty vs) : LocE w.drew b ty vs := h.later (Below.refl _ _).drew

theorem locE_new (w : World) (vs : List Value) (ty : TypeId) : LocE (w.alloc (.cells vs.toArray ty)) w.heap.size ty vs := heap_alloc_new _ _

theorem LocE.cell {w : World} {b : Nat} {ty : TypeId} {vs : List Value} (h : LocE w b ty vs) (i : Nat) {v : Value} (hv : vs[i]? = some v) : w.cell? ⟨b, i, none⟩ = some v := by
  unfold World.cell?
  simp only
  rw [h]
  simpa using hv

theorem LocE.free {w : World} {b : Nat} {ty : TypeId} {vs : List Value} (h : LocE w b ty vs) (i : Nat) : w.frozen? ⟨b, i, none⟩ = false := by
  unfold World.frozen?
  simp only
  rw [h]
  simp

theorem LocE.set {w : World} {b : Nat} {ty : TypeId} {vs : List Value} (h : LocE w b ty vs) (i : Nat) (x : Value) : LocE (w.setCell ⟨b, i, none⟩ x) b ty (vs.set i x) := by
  have hlt := h.lt
  have h' : w.heap[b] = .cells vs.toArray ty (0, 0) := by simpa [LocE, Array.getElem?_eq_getElem hlt] using h
  show (w.heap.modify b _)[b]? = _
  rw [Array.getElem?_eq_getElem (by simpa using hlt), Array.getElem_modify_self, h']
  simp

theorem LocE.off {w : World} {b c : Nat} {ty : TypeId} {vs : List Value} (h : LocE w b ty vs) (hne : c ≠ b) (i : Nat) (x : Value) : LocE (w.setCell ⟨c, i, none⟩ x) b ty vs := by
  unfold LocE
  rw [Below.heap_setCell _ _ _ _ (fun e => hne e.symm)]
  exact h

theorem LocE.ne {w : World} {b c : Nat} {ty tz : TypeId} {vs us : List Value} (h : LocE w b ty vs) (g : LocE w c tz us) (hn : vs ≠ us ∨ ty ≠ tz) : c ≠ b := fun e => by
  subst e
  unfold LocE at h g
  rw [h] at g
  simp only [Option.some.injEq, Obj.cells.injEq] at g
  rcases hn with hn | hn
  · exact hn (by simpa using congrArg Array.toList g.1)
  · exact hn g.2.1

/-- A row that is not empty does not lie in the block b. -/
def OffB (b : Nat) (v : Value) (zs : List Nat) : Prop := 0 < zs.length → ∀ a n c, v = .slice (some a) n c → a.block ≠ b

theorem rd_offNew {w : World} {k : IntKind} {v : Value} {zs : List Nat} (h : Rd w k v zs) {b : Nat} (hb : w.heap.size ≤ b) : OffB b v zs := fun hp a n c hv => by
  obtain ⟨ao, cap, rfl, _, _, h3⟩ := h
  obtain ⟨g, off, rfl, hc⟩ := h3 hp
  cases hv
  have h0 := hc 0 hp
  show g ≠ b
  intro e
  subst e
  unfold World.cell? at h0
  simp only at h0
  rw [Array.getElem?_eq_none hb] at h0
  cases h0

theorem rd_offE {w : World} {k : IntKind} {v : Value} {zs : List Nat} (h : Rd w k v zs) (hn : Dg.Norm zs) {b : Nat} {ty : TypeId} {vs : List Value} (hl : LocE w b ty vs) (hv0 : ∀ x ∈ vs, ∀ n : Int, n ≠ 0 → x ≠ .int k n) : OffB b v zs := fun hp a n c hv => by
  obtain ⟨ao, cap, rfl, _, _, h3⟩ := h
  obtain ⟨g, off, rfl, hc⟩ := h3 hp
  cases hv
  have h0 := hc (zs.length - 1) (by omega)
  show g ≠ b
  intro e
  subst e
  have hnn : zs.getD (zs.length - 1) 0 ≠ 0 := hn (by intro h; rw [h] at hp; simp at hp)
  unfold World.cell? at h0
  simp only at h0
  rw [hl] at h0
  simp only [Option.isSome_none, Bool.false_eq_true, if_false, List.getElem?_toArray] at h0
  exact hv0 _ (List.mem_of_getElem? h0) _ (by omega) rfl

/-- Numbers of 32 bits lie in no struct without such a field. -/
theorem rd_offU {w : World} {k : IntKind} {v : Value} {zs : List Nat} (h : Rd w k v zs) {b : Nat} {ty : TypeId} {vs : List Value} (hl : LocE w b ty vs) (hv0 : ∀ x ∈ vs, ∀ n : Int, x ≠ .int k n) : OffB b v zs := fun hp a n c hv => by
  obtain ⟨ao, cap, rfl, _, _, h3⟩ := h
  obtain ⟨g, off, rfl, hc⟩ := h3 hp
  cases hv
  have h0 := hc 0 hp
  show g ≠ b
  intro e
  subst e
  unfold World.cell? at h0
  simp only at h0
  rw [hl] at h0
  simp only [Option.isSome_none, Bool.false_eq_true, if_false, List.getElem?_toArray] at h0
  exact hv0 _ (List.mem_of_getElem? h0) _ rfl

theorem own_off {w : World} {base e : Nat} {k : IntKind} {v : Value} {zs : List Nat} (h : Own w base e k v zs) {b : Nat} (hb : b < base) : OffB b v zs := fun hp a n c hv => by
  rcases h.2 with ⟨h1, h2⟩ | ⟨g, cap, cur, h1, hg, _⟩
  · rw [h1] at hv; cases hv
  · rw [h1] at hv
    cases hv
    show g ≠ b
    omega

theorem Rd.set {w : World} {k : IntKind} {v : Value} {zs : List Nat} (h : Rd w k v zs) {b : Nat} (ho : OffB b v zs) (i : Nat) (x : Value) : Rd (w.setCell ⟨b, i, none⟩ x) k v zs := by
  obtain ⟨ao, cap, rfl, h1, h2, h3⟩ := h
  refine ⟨ao, cap, rfl, h1, h2, fun hp => ?_⟩
  obtain ⟨g, off, rfl, hc⟩ := h3 hp
  have hne := ho hp _ _ _ rfl
  refine ⟨g, off, rfl, fun j hj => ?_⟩
  have hne2 : g ≠ b := hne
  unfold World.cell?
  simp only
  rw [Below.heap_setCell _ _ _ _ hne2]
  exact hc j hj

theorem Own.setE {w : World} {base e : Nat} {k : IntKind} {v : Value} {zs : List Nat} (h : Own w base e k v zs) {b : Nat} {ty : TypeId} {vs : List Value} (hl : LocE w b ty vs) (hty : ty ≠ e) (i : Nat) (x : Value) : Own (w.setCell ⟨b, i, none⟩ x) base e k v zs := by
  obtain ⟨h0, h2⟩ := h
  refine ⟨h0, ?_⟩
  rcases h2 with h2 | ⟨g', cap', cur, hv, hbg, hh, r⟩
  · exact .inl h2
  · refine .inr ⟨g', cap', cur, hv, hbg, ?_, r⟩
    have hne : g' ≠ b := by
      intro e
      subst e
      unfold LocE at hl
      rw [hl] at hh
      simp only [Option.some.injEq, Obj.cells.injEq] at hh
      exact hty hh.2.1
    rw [Below.heap_setCell _ _ _ _ hne]
    exact hh

theorem Loc.ofE {w : World} {b : Nat} {ty : TypeId} {v0 v1 v2 : Value} (h : LocE w b ty [v0, v1, v2]) : Loc w b v0 v1 v2 :=
  ⟨h.lt, ⟨h.cell 0 rfl, h.cell 1 rfl, h.cell 2 rfl⟩, h.free 0, h.free 1, h.free 2⟩
end Go.Proofs.YtgbccbmflokooaaGreatDoor

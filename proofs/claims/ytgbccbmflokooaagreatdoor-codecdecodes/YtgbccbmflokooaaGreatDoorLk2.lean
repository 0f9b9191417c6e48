/-
  A struct loaded from, and stored into, its own block as a whole: equations for the walk.
-/
import Derived.Test.YtgbccbmflokooaaGreatDoorLk
import Derived.Deep.MidRow
namespace Go.Proofs.YtgbccbmflokooaaGreatDoor
open Go.RowKit

/-- What a store into the block b alone leaves as it was. -/
structure But (b : Nat) (w w' : World) : Prop where
  os : w'.os = w.os
  tape : w'.tape = w.tape
  output : w'.output = w.output
  size : w'.heap.size = w.heap.size
  block : ∀ k, k ≠ b → w'.heap[k]? = w.heap[k]?

theorem but_set (w : World) (b i : Nat) (x : Value) : But b w (w.setCell ⟨b, i, none⟩ x) :=
  ⟨rfl, rfl, rfl, by simp [World.setCell], fun _ hk => Below.heap_setCell _ _ _ _ hk⟩

theorem But.trans {b : Nat} {w w1 w2 : World} (h : But b w w1) (k : But b w1 w2) : But b w w2 :=
  ⟨k.os.trans h.os, k.tape.trans h.tape, k.output.trans h.output, k.size.trans h.size, fun i hi => (k.block i hi).trans (h.block i hi)⟩

theorem but_sets (b : Nat) : ∀ (vs : List Value) (o : Nat) (w : World), But b w (w.setCells b o vs)
  | [], _, w => ⟨rfl, rfl, rfl, rfl, fun _ _ => rfl⟩
  | v :: r, o, w => by
    rw [World.setCells]
    exact (but_set w b o v).trans (but_sets b r (o + 1) _)

theorem But.below {b B : Nat} {w0 w w' : World} (h : But b w w') (k : Below B w0 w) (hb : B ≤ b) : Below B w0 w' :=
  ⟨h.os.trans k.os, h.tape.trans k.tape, h.output.trans k.output, by rw [h.size]; exact k.size, fun i hi => (h.block i (by omega)).trans (k.block i hi)⟩

theorem But.loc {b c : Nat} {w w' : World} {ty : TypeId} {vs : List Value} (h : But b w w') (k : LocE w c ty vs) (hne : c ≠ b) : LocE w' c ty vs := (h.block c hne).trans k

theorem But.cell {b : Nat} {w w' : World} (h : But b w w') {a : Addr} (ha : a.block ≠ b) : w'.cell? a = w.cell? a := by
  unfold World.cell?
  rw [h.block a.block ha]

theorem But.rd {b : Nat} {w w' : World} {k : IntKind} {v : Value} {zs : List Nat} (h : But b w w') (r : Rd w k v zs) (ho : OffB b v zs) : Rd w' k v zs := by
  obtain ⟨ao, cap, rfl, h1, h2, h3⟩ := r
  refine ⟨ao, cap, rfl, h1, h2, fun hp => ?_⟩
  obtain ⟨g, off, rfl, hc⟩ := h3 hp
  have hne := ho hp _ _ _ rfl
  exact ⟨g, off, rfl, fun j hj => (h.cell (a := ⟨g, off + j, none⟩) hne).trans (hc j hj)⟩

theorem But.own {b : Nat} {w w' : World} {base e : Nat} {k : IntKind} {v : Value} {zs : List Nat} (h : But b w w') (r : Own w base e k v zs) {ty : TypeId} {vs : List Value} (hl : LocE w b ty vs) (hty : ty ≠ e) : Own w' base e k v zs := by
  obtain ⟨h0, h2⟩ := r
  refine ⟨h0, ?_⟩
  rcases h2 with h2 | ⟨g', cap', cur, hv, hbg, hh, r⟩
  · exact .inl h2
  · refine .inr ⟨g', cap', cur, hv, hbg, ?_, r⟩
    have hne : g' ≠ b := by
      intro e
      subst e
      unfold LocE at hl
      rw [hl] at hh
      simp only [Option.some.injEq, Obj.cells.injEq] at hh
      exact hty hh.2.1
    rw [h.block g' hne]
    exact hh

theorem locE_sets (b : Nat) (ty : TypeId) : ∀ (vs us pre : List Value) (w : World), LocE w b ty (pre ++ us) → us.length = vs.length → LocE (w.setCells b pre.length vs) b ty (pre ++ vs)
  | [], us, pre, w, h, hl => by
    obtain rfl : us = [] := List.eq_nil_of_length_eq_zero hl
    exact h
  | v :: r, us, pre, w, h, hl => by
    obtain ⟨u, us', rfl⟩ : ∃ u us', us = u :: us' := by
      cases us with
      | nil => simp at hl
      | cons u us' => exact ⟨u, us', rfl⟩
    rw [World.setCells]
    have h1 := h.set pre.length v
    have e1 : (pre ++ u :: us').set pre.length v = (pre ++ [v]) ++ us' := by simp
    rw [e1] at h1
    have h2 := locE_sets b ty r us' (pre ++ [v]) _ h1 (by simpa using hl)
    have e2 : (pre ++ [v]).length = pre.length + 1 := by simp
    rw [e2] at h2
    have e3 : pre ++ [v] ++ r = pre ++ v :: r := by simp
    rw [e3] at h2
    exact h2

theorem LocE.range {w : World} {b : Nat} {tb : TypeId} {vs : List Value} (h : LocE w b tb vs) : w.rangeAt b 0 vs := fun j _ hv => by rw [Nat.zero_add]; exact h.cell j hv

theorem LocE.there {w : World} {b : Nat} {tb : TypeId} {us : List Value} (h : LocE w b tb us) (n : Nat) (hn : n = us.length) : w.there b 0 n := fun j hj => by
  have hj' : j < us.length := by omega
  rw [Nat.zero_add]
  exact ⟨by rw [h.cell j (List.getElem?_eq_getElem hj')]; rfl, h.free j⟩

theorem LocE.sets {w : World} {b : Nat} {tb : TypeId} {us : List Value} (h : LocE w b tb us) (vs : List Value) (hl : us.length = vs.length) : LocE (w.setCells b 0 vs) b tb vs := by
  have := locE_sets b tb vs us [] w h hl
  simpa using this

theorem LocE.loadEq {P : Program} {w : World} {b : Nat} {tb : TypeId} {vs : List Value} (h : LocE w b tb vs) (ty : TypeId) {d : TypeDesc} (hu : P.underlying ty = some d) (hd : d.isRow = true) (hi : (P.info? ty).map (·.size) = some vs.length) :
    (Instr.loadAt ty (.pointer (some ⟨b, 0, none⟩))).run P w = .ok (.agg vs.toArray) w :=
  run_loadAt_mid w b 0 ty vs d (fun j v hv => by rw [Nat.zero_add]; exact h.cell j hv) hu hd hi

theorem LocE.storeEq {P : Program} {w : World} {b : Nat} {tb : TypeId} {us : List Value} (h : LocE w b tb us) (ty : TypeId) (vs : List Value) (hl : us.length = vs.length) (hi : (P.info? ty).map (·.size) = some vs.length) (h1 : vs.all (·.oneCell') = true) :
    ∃ W, (Instr.storeAt ty (.pointer (some ⟨b, 0, none⟩)) (.agg vs.toArray)).run P w = .ok () W ∧ LocE W b tb vs ∧ But b w W := by
  refine ⟨w.setCells b 0 vs, ?_, ?_, but_sets b vs 0 w⟩
  · have := run_storeAt_mid (P := P) w b 0 ty vs.toArray (fun j hj => ?_) (by simpa using hi) (by simpa using h1)
    · simpa using this
    · have hj' : j < us.length := by simpa [hl] using hj
      rw [Nat.zero_add]
      exact ⟨by rw [h.cell j (List.getElem?_eq_getElem hj')]; rfl, h.free j⟩
  · have := locE_sets b tb vs us [] w h hl
    simpa using this
end Go.Proofs.YtgbccbmflokooaaGreatDoor

/-
  Texts laid together: Aw0.
-/
import Derived.Test.YtnhackdjplppjaaGreatDoorAt23
namespace Go.Proofs.YtnhackdjplppjaaGreatDoor
open Go.RowKit
theorem ent1 (w : World) (c0 : List Value) (t0 : TypeId) : ∃ W, w.alloc (.cells c0.toArray t0) = W ∧ LocE W w.heap.size t0 c0 ∧ Below w.heap.size w W :=
 ⟨_, rfl, locE_new w c0 t0, below_alloc w _⟩
theorem ent2 (w : World) (c0 : List Value) (t0 : TypeId) (c1 : List Value) (t1 : TypeId) : ∃ W, (w.alloc (.cells c0.toArray t0)).alloc (.cells c1.toArray t1) = W ∧ LocE W w.heap.size t0 c0 ∧ LocE W (w.heap.size + 1) t1 c1 ∧ Below w.heap.size w W := by
 obtain ⟨W, rfl, h0, b0⟩ := ent1 w c0 t0
 have h1 := locE_new (w.alloc (.cells c0.toArray t0)) c1 t1
 have b1 := below_alloc (w.alloc (.cells c0.toArray t0)) (.cells c1.toArray t1)
 rw [World.size_alloc] at h1
 exact ⟨_, rfl, h0.later b1, h1, below_trans b0 b1⟩
theorem ent3 (w : World) (c0 : List Value) (t0 : TypeId) (c1 : List Value) (t1 : TypeId) (c2 : List Value) (t2 : TypeId) : ∃ W, ((w.alloc (.cells c0.toArray t0)).alloc (.cells c1.toArray t1)).alloc (.cells c2.toArray t2) = W ∧ LocE W w.heap.size t0 c0 ∧ LocE W (w.heap.size + 1) t1 c1 ∧ LocE W (w.heap.size + 1 + 1) t2 c2 ∧ Below w.heap.size w W := by
 obtain ⟨W, rfl, h0, h1, b0⟩ := ent2 w c0 t0 c1 t1
 have h2 := locE_new ((w.alloc (.cells c0.toArray t0)).alloc (.cells c1.toArray t1)) c2 t2
 have b2 := below_alloc ((w.alloc (.cells c0.toArray t0)).alloc (.cells c1.toArray t1)) (.cells c2.toArray t2)
 rw [World.size_alloc, World.size_alloc] at h2
 exact ⟨_, rfl, h0.later b2, h1.later b2, h2, below_trans b0 b2⟩
theorem ent4 (w : World) (c0 : List Value) (t0 : TypeId) (c1 : List Value) (t1 : TypeId) (c2 : List Value) (t2 : TypeId) (c3 : List Value) (t3 : TypeId) : ∃ W, (((w.alloc (.cells c0.toArray t0)).alloc (.cells c1.toArray t1)).alloc (.cells c2.toArray t2)).alloc (.cells c3.toArray t3) = W ∧ LocE W w.heap.size t0 c0 ∧ LocE W (w.heap.size + 1) t1 c1 ∧ LocE W (w.heap.size + 1 + 1) t2 c2 ∧ LocE W (w.heap.size + 1 + 1 + 1) t3 c3 ∧ Below w.heap.size w W := by
 obtain ⟨W, rfl, h0, h1, h2, b0⟩ := ent3 w c0 t0 c1 t1 c2 t2
 have h3 := locE_new (((w.alloc (.cells c0.toArray t0)).alloc (.cells c1.toArray t1)).alloc (.cells c2.toArray t2)) c3 t3
 have b3 := below_alloc (((w.alloc (.cells c0.toArray t0)).alloc (.cells c1.toArray t1)).alloc (.cells c2.toArray t2)) (.cells c3.toArray t3)
 rw [World.size_alloc, World.size_alloc, World.size_alloc] at h3
 exact ⟨_, rfl, h0.later b3, h1.later b3, h2.later b3, h3, below_trans b0 b3⟩
theorem fin5 {P : Program} {w0 w : World} {n b : Nat} {ty : TypeId} {z0 z1 z2 z3 z4 : Value} {d : TypeDesc} (h : LocE w b ty [z0, z1, z2, z3, z4]) (hb : Below n w0 w) (hn : n ≤ b) (hu : P.underlying ty = some d) (hd : d.isRow = true) (hi : (P.info? ty).map (·.size) = some 5) (v0 v1 v2 v3 v4 : Value) :
  (loadVar ty ⟨b, 0, none⟩).run P (((((w.setCell ⟨b, 0, none⟩ v0).setCell ⟨b, 1, none⟩ v1).setCell ⟨b, 2, none⟩ v2).setCell ⟨b, 3, none⟩ v3).setCell ⟨b, 4, none⟩ v4) = .ok (.agg #[v0, v1, v2, v3, v4]) (((((w.setCell ⟨b, 0, none⟩ v0).setCell ⟨b, 1, none⟩ v1).setCell ⟨b, 2, none⟩ v2).setCell ⟨b, 3, none⟩ v3).setCell ⟨b, 4, none⟩ v4) ∧ Below n w0 (((((w.setCell ⟨b, 0, none⟩ v0).setCell ⟨b, 1, none⟩ v1).setCell ⟨b, 2, none⟩ v2).setCell ⟨b, 3, none⟩ v3).setCell ⟨b, 4, none⟩ v4) ∧ But b w (((((w.setCell ⟨b, 0, none⟩ v0).setCell ⟨b, 1, none⟩ v1).setCell ⟨b, 2, none⟩ v2).setCell ⟨b, 3, none⟩ v3).setCell ⟨b, 4, none⟩ v4) := by
 have cR : LocE (((((w.setCell ⟨b, 0, none⟩ v0).setCell ⟨b, 1, none⟩ v1).setCell ⟨b, 2, none⟩ v2).setCell ⟨b, 3, none⟩ v3).setCell ⟨b, 4, none⟩ v4) b ty [v0, v1, v2, v3, v4] := (((((h.set 0 v0).set 1 v1).set 2 v2).set 3 v3).set 4 v4)
 have bu := ((((but_set w b 0 v0).trans (but_set _ b 1 v1)).trans (but_set _ b 2 v2)).trans (but_set _ b 3 v3)).trans (but_set _ b 4 v4)
 exact ⟨run_loadVar_mid (P := P) _ b 0 ty [v0, v1, v2, v3, v4] _ cR.range hu hd hi, bu.below hb hn, bu⟩
theorem csf5 {w : World} {b : Nat} {ty : TypeId} {z0 z1 z2 z3 z4 : Value} (h : LocE w b ty [z0, z1, z2, z3, z4]) : (w.cell? ⟨b, 0, none⟩ = some z0 ∧ w.cell? ⟨b, 1, none⟩ = some z1 ∧ w.cell? ⟨b, 2, none⟩ = some z2 ∧ w.cell? ⟨b, 3, none⟩ = some z3 ∧ w.cell? ⟨b, 4, none⟩ = some z4) ∧ w.frozen? ⟨b, 0, none⟩ = false ∧ w.frozen? ⟨b, 1, none⟩ = false ∧ w.frozen? ⟨b, 2, none⟩ = false ∧ w.frozen? ⟨b, 3, none⟩ = false ∧ w.frozen? ⟨b, 4, none⟩ = false :=
 ⟨⟨h.cell 0 rfl, h.cell 1 rfl, h.cell 2 rfl, h.cell 3 rfl, h.cell 4 rfl⟩, h.free 0, h.free 1, h.free 2, h.free 3, h.free 4⟩
theorem range_mid {w : World} {b : Nat} {ty : TypeId} {vs cs : List Value} (h : LocE w b ty vs) (o n : Nat) (e : (vs.drop o).take n = cs) : w.rangeAt b o cs := fun j v hj => by
 subst e
 refine h.cell (o + j) ?_
 rw [List.getElem?_take] at hj
 split at hj
 ·rw [List.getElem?_drop] at hj
  exact hj
 ·cases hj
theorem but_range {w w' : World} {b g o : Nat} {cs : List Value} (bu : But b w w') (h : w.rangeAt g o cs) (hg : g ≠ b) : w'.rangeAt g o cs := fun j v hj => by rw [bu.cell (by exact hg)]; exact h j v hj
theorem tk {P : Program} {md : Region.Mode} {ops : Array Oper} {Q : Exit → Act → World → Prop} {S : World → Prop} {oi : Oper} {fuel : Nat} {listed : Array Bool} {a : Act} {w : World} (i : Nat) (v : Value) (hi : ops[i]? = some oi)
  (hb : (Region.noSelect ops && (Region.free md ops listed i && ((Region.ready md ops listed).contains i && Region.wanted oi (yielded ops a.tmps)))) = true)
  (hQ : ∀ c a w, Q (.panic c) (a.put oi.dst v) w → Q (.panic c) a w) (hv : ∀ w0, S w0 → (execOp a.eval oi).run P w0 = .ok (.value v) w0) (hS : S w)
  (h : wpAnyH P md ops Q S fuel (listed.setIfInBounds i true) (a.put oi.dst v) w) : wpAnyH P md ops Q S (fuel + 1) listed a w := by
 simp only [Bool.and_eq_true] at hb
 exact wpAnyH_take hi hb.1 hb.2.1 hb.2.2.1 hQ (Or.inl ⟨hb.2.2.2, hv⟩) hS h
end Go.Proofs.YtnhackdjplppjaaGreatDoor

/-
  Texts laid together: Lk2, Co1, Co2.
-/
import Derived.Deep.MidRow
import Derived.Deep.Cut
import Derived.Test.YtiiphandhpilgaaGreatDoorEa08
namespace Go.Proofs.YtiiphandhpilgaaGreatDoor
open Go.RowKit
/-- What a store into the block b alone leaves as it was. -/
structure But (b : Nat) (w w' : World) : Prop where
  os : w'.os = w.os
  tape : w'.tape = w.tape
  output : w'.output = w.output
  size : w'.heap.size = w.heap.size
  block : ∀ k, k ≠ b → w'.heap[k]? = w.heap[k]?

theorem but_set (w : World) (b i : Nat) (x : Value) : But b w (w.setCell ⟨b, i, none⟩ x) :=
  ⟨rfl, rfl, rfl, by simp [World.setCell], fun _ hk => Below.heap_setCell _ _ _ _ hk⟩

theorem But.trans {b : Nat} {w w1 w2 : World} (h : But b w w1) (k : But b w1 w2) : But b w w2 :=
  ⟨k.os.trans h.os, k.tape.trans h.tape, k.output.trans h.output, k.size.trans h.size, fun i hi => (k.block i hi).trans (h.block i hi)⟩

theorem but_sets (b : Nat) : ∀ (vs : List Value) (o : Nat) (w : World), But b w (w.setCells b o vs)
  | [], _, w => ⟨rfl, rfl, rfl, rfl, fun _ _ => rfl⟩
  | v :: r, o, w => by
    rw [World.setCells]
    exact (but_set w b o v).trans (but_sets b r (o + 1) _)

theorem But.below {b B : Nat} {w0 w w' : World} (h : But b w w') (k : Below B w0 w) (hb : B ≤ b) : Below B w0 w' :=
  ⟨h.os.trans k.os, h.tape.trans k.tape, h.output.trans k.output, by rw [h.size]; exact k.size, fun i hi => (h.block i (by omega)).trans (k.block i hi)⟩

theorem But.loc {b c : Nat} {w w' : World} {ty : TypeId} {vs : List Value} (h : But b w w') (k : LocE w c ty vs) (hne : c ≠ b) : LocE w' c ty vs := (h.block c hne).trans k

theorem But.cell {b : Nat} {w w' : World} (h : But b w w') {a : Addr} (ha : a.block ≠ b) : w'.cell? a = w.cell? a := by
  unfold World.cell?
  rw [h.block a.block ha]

theorem But.rd {b : Nat} {w w' : World} {k : IntKind} {v : Value} {zs : List Nat} (h : But b w w') (r : Rd w k v zs) (ho : OffB b v zs) : Rd w' k v zs := by
  obtain ⟨ao, cap, rfl, h1, h2, h3⟩ := r
  refine ⟨ao, cap, rfl, h1, h2, fun hp => ?_⟩
  obtain ⟨g, off, rfl, hc⟩ := h3 hp
  have hne := ho hp _ _ _ rfl
  exact ⟨g, off, rfl, fun j hj => (h.cell (a := ⟨g, off + j, none⟩) hne).trans (hc j hj)⟩

theorem But.own {b : Nat} {w w' : World} {base e : Nat} {k : IntKind} {v : Value} {zs : List Nat} (h : But b w w') (r : Own w base e k v zs) {ty : TypeId} {vs : List Value} (hl : LocE w b ty vs) (hty : ty ≠ e) : Own w' base e k v zs := by
  obtain ⟨h0, h2⟩ := r
  refine ⟨h0, ?_⟩
  rcases h2 with h2 | ⟨g', cap', cur, hv, hbg, hh, r⟩
  · exact .inl h2
  · refine .inr ⟨g', cap', cur, hv, hbg, ?_, r⟩
    have hne : g' ≠ b := by
      intro e
      subst e
      unfold LocE at hl
      rw [hl] at hh
      simp only [Option.some.injEq, Obj.cells.injEq] at hh
      exact hty hh.2.1
    rw [h.block g' hne]
    exact hh

theorem locE_sets (b : Nat) (ty : TypeId) : ∀ (vs us pre : List Value) (w : World), LocE w b ty (pre ++ us) → us.length = vs.length → LocE (w.setCells b pre.length vs) b ty (pre ++ vs)
  | [], us, pre, w, h, hl => by
    obtain rfl : us = [] := List.eq_nil_of_length_eq_zero hl
    exact h
  | v :: r, us, pre, w, h, hl => by
    obtain ⟨u, us', rfl⟩ : ∃ u us', us = u :: us' := by
      cases us with
      | nil => simp at hl
      | cons u us' => exact ⟨u, us', rfl⟩
    rw [World.setCells]
    have h1 := h.set pre.length v
    have e1 : (pre ++ u :: us').set pre.length v = (pre ++ [v]) ++ us' := by simp
    rw [e1] at h1
    have h2 := locE_sets b ty r us' (pre ++ [v]) _ h1 (by simpa using hl)
    have e2 : (pre ++ [v]).length = pre.length + 1 := by simp
    rw [e2] at h2
    have e3 : pre ++ [v] ++ r = pre ++ v :: r := by simp
    rw [e3] at h2
    exact h2

theorem LocE.range {w : World} {b : Nat} {tb : TypeId} {vs : List Value} (h : LocE w b tb vs) : w.rangeAt b 0 vs := fun j _ hv => by rw [Nat.zero_add]; exact h.cell j hv

theorem LocE.there {w : World} {b : Nat} {tb : TypeId} {us : List Value} (h : LocE w b tb us) (n : Nat) (hn : n = us.length) : w.there b 0 n := fun j hj => by
  have hj' : j < us.length := by omega
  rw [Nat.zero_add]
  exact ⟨by rw [h.cell j (List.getElem?_eq_getElem hj')]; rfl, h.free j⟩

theorem LocE.sets {w : World} {b : Nat} {tb : TypeId} {us : List Value} (h : LocE w b tb us) (vs : List Value) (hl : us.length = vs.length) : LocE (w.setCells b 0 vs) b tb vs := by
  have := locE_sets b tb vs us [] w h hl
  simpa using this

end Go.Proofs.YtiiphandhpilgaaGreatDoor
namespace Go.Proofs.YtiiphandhpilgaaGreatDoor
open Go.RowKit
/-- The family of a format. -/
def famC (n : Int) : Int := if n < 1 ∨ 8 < n then 0 else if n ≤ 3 then 1 else if n ≤ 5 then 2 else 3

set_option maxRecDepth 100000 in
theorem family_any (n : Int) (w : World) : Calls Tryz.prog 53 #[.int .i64 n] w fun z w' => z = .returned (.int .i64 (famC n)) ∧ w' = w := by
  unfold famC
  by_cases h1 : n < 1
  · rw [if_pos (.inl h1)]
    go_enter Tryz.func53, Tryz.ntmps53
    go_wp2
    go_ret
    exact ⟨rfl, rfl⟩
  · by_cases h2 : 8 < n
    · rw [if_pos (.inr h2)]
      go_enter Tryz.func53, Tryz.ntmps53
      go_wp2
      go_ret
      exact ⟨rfl, rfl⟩
    · rw [if_neg (by omega)]
      by_cases h3 : n ≤ 3
      · rw [if_pos h3]
        go_enter Tryz.func53, Tryz.ntmps53
        go_wp2
        go_ret
        exact ⟨rfl, rfl⟩
      · rw [if_neg h3]
        by_cases h4 : n ≤ 5
        · rw [if_pos h4]
          go_enter Tryz.func53, Tryz.ntmps53
          go_wp2
          go_ret
          exact ⟨rfl, rfl⟩
        · rw [if_neg h4]
          go_enter Tryz.func53, Tryz.ntmps53
          go_wp2
          go_ret
          exact ⟨rfl, rfl⟩
end Go.Proofs.YtiiphandhpilgaaGreatDoor
namespace Go.Proofs.YtiiphandhpilgaaGreatDoor
open Go.RowKit
/-- A layout, as it lies: that of none is all zero. -/
def layV : Nat → List Value
  | 1 => [.int .i64 2, .int .i64 24, .int .i64 (-149), .int .i64 104, .bool true, .int .i64 4, .int .i64 8, .int .i64 1, .func (.func 84) #[] #[]]
  | 2 => [.int .i64 2, .int .i64 53, .int .i64 (-1074), .int .i64 971, .bool true, .int .i64 8, .int .i64 11, .int .i64 1, .func (.func 84) #[] #[]]
  | 3 => [.int .i64 2, .int .i64 64, .int .i64 (-16445), .int .i64 16320, .bool true, .int .i64 10, .int .i64 15, .int .i64 1, .func (.func 85) #[] #[]]
  | 4 => [.int .i64 16, .int .i64 6, .int .i64 (-70), .int .i64 57, .bool false, .int .i64 4, .int .i64 7, .int .i64 2, .func (.func 84) #[] #[]]
  | 5 => [.int .i64 16, .int .i64 14, .int .i64 (-78), .int .i64 49, .bool false, .int .i64 8, .int .i64 7, .int .i64 2, .func (.func 84) #[] #[]]
  | 6 => [.int .i64 2, .int .i64 24, .int .i64 (-151), .int .i64 103, .bool false, .int .i64 4, .int .i64 8, .int .i64 3, .func (.func 87) #[] #[]]
  | 7 => [.int .i64 2, .int .i64 56, .int .i64 (-183), .int .i64 71, .bool false, .int .i64 8, .int .i64 8, .int .i64 3, .func (.func 87) #[] #[]]
  | 8 => [.int .i64 2, .int .i64 53, .int .i64 (-1076), .int .i64 970, .bool false, .int .i64 8, .int .i64 11, .int .i64 3, .func (.func 87) #[] #[]]
  | _ => [.int .i64 0, .int .i64 0, .int .i64 0, .int .i64 0, .bool false, .int .i64 0, .int .i64 0, .int .i64 0, .nilFunc]

def layAll : List Value := [.int .i64 0, .int .i64 0, .int .i64 0, .int .i64 0, .bool false, .int .i64 0, .int .i64 0, .int .i64 0, .nilFunc, .int .i64 2, .int .i64 24, .int .i64 (-149), .int .i64 104, .bool true, .int .i64 4, .int .i64 8, .int .i64 1, .func (.func 84) #[] #[], .int .i64 2, .int .i64 53, .int .i64 (-1074), .int .i64 971, .bool true, .int .i64 8, .int .i64 11, .int .i64 1, .func (.func 84) #[] #[], .int .i64 2, .int .i64 64, .int .i64 (-16445), .int .i64 16320, .bool true, .int .i64 10, .int .i64 15, .int .i64 1, .func (.func 85) #[] #[], .int .i64 16, .int .i64 6, .int .i64 (-70), .int .i64 57, .bool false, .int .i64 4, .int .i64 7, .int .i64 2, .func (.func 84) #[] #[], .int .i64 16, .int .i64 14, .int .i64 (-78), .int .i64 49, .bool false, .int .i64 8, .int .i64 7, .int .i64 2, .func (.func 84) #[] #[], .int .i64 2, .int .i64 24, .int .i64 (-151), .int .i64 103, .bool false, .int .i64 4, .int .i64 8, .int .i64 3, .func (.func 87) #[] #[], .int .i64 2, .int .i64 56, .int .i64 (-183), .int .i64 71, .bool false, .int .i64 8, .int .i64 8, .int .i64 3, .func (.func 87) #[] #[], .int .i64 2, .int .i64 53, .int .i64 (-1076), .int .i64 970, .bool false, .int .i64 8, .int .i64 11, .int .i64 3, .func (.func 87) #[] #[]]

/-- What a function hands back that has one result, a struct or an array that lies in a block. -/
theorem results_one {P : Program} {fn : Func} {a : Nat} {ty : TypeId} {tmps : Array Value} {w : World} {b : Nat} {v : Value} (hres : fn.results = #[.cell a ty]) (hp : tmps.getD a undef = .pointer (some ⟨b, 0, none⟩)) (hl : (loadVar ty ⟨b, 0, none⟩).run P w = .ok v w) : (results fn tmps).run P w = .ok v w := by
  rw [Array.getD_eq_getD_getElem?] at hp
  unfold results
  simp [hres, hp, asAddr, hl]

set_option maxHeartbeats 6400000 in
set_option maxRecDepth 20000 in
theorem layouts_any (w : World) : Calls Tryz.prog 54 #[] w fun z w' => z = .returned (.agg layAll.toArray) ∧ Below w.heap.size w w' := by
  have l0 : LocE (w.alloc (.cells Tryz.zeroCells113 113)) w.heap.size 113 Tryz.zeroCells113.toList := by
    have := locE_new w Tryz.zeroCells113.toList 113
    rwa [Array.toArray_toList] at this
  have th := l0.there 81 (by kernel_rfl)
  have cR := l0.sets layAll (by kernel_rfl)
  have bu := but_sets w.heap.size layAll 0 (w.alloc (.cells Tryz.zeroCells113 113))
  have bR := bu.below (below_alloc w (.cells Tryz.zeroCells113 113)) (Nat.le_refl _)
  have hl := run_loadVar_mid (P := Tryz.prog) _ w.heap.size 0 113 layAll _ cR.range Tryz.underlying113 rfl (by kernel_rfl)
  have HH : Hid (_ ∧ _) := ⟨hl, bR⟩
  clear hl bR cR bu l0
  go_enter Tryz.func54, Tryz.ntmps54
  go_wp2_with (refine wpList_store_mid rfl 113 (.tmp 0) (.tmp 28) rfl w.heap.size 0 #[.int .i64 0, .int .i64 0, .int .i64 0, .int .i64 0, .bool false, .int .i64 0, .int .i64 0, .int .i64 0, .nilFunc, .int .i64 2, .int .i64 24, .int .i64 (-149), .int .i64 104, .bool true, .int .i64 4, .int .i64 8, .int .i64 1, .func (.func 84) #[] #[], .int .i64 2, .int .i64 53, .int .i64 (-1074), .int .i64 971, .bool true, .int .i64 8, .int .i64 11, .int .i64 1, .func (.func 84) #[] #[], .int .i64 2, .int .i64 64, .int .i64 (-16445), .int .i64 16320, .bool true, .int .i64 10, .int .i64 15, .int .i64 1, .func (.func 85) #[] #[], .int .i64 16, .int .i64 6, .int .i64 (-70), .int .i64 57, .bool false, .int .i64 4, .int .i64 7, .int .i64 2, .func (.func 84) #[] #[], .int .i64 16, .int .i64 14, .int .i64 (-78), .int .i64 49, .bool false, .int .i64 8, .int .i64 7, .int .i64 2, .func (.func 84) #[] #[], .int .i64 2, .int .i64 24, .int .i64 (-151), .int .i64 103, .bool false, .int .i64 4, .int .i64 8, .int .i64 3, .func (.func 87) #[] #[], .int .i64 2, .int .i64 56, .int .i64 (-183), .int .i64 71, .bool false, .int .i64 8, .int .i64 8, .int .i64 3, .func (.func 87) #[] #[], .int .i64 2, .int .i64 53, .int .i64 (-1076), .int .i64 970, .bool false, .int .i64 8, .int .i64 11, .int .i64 3, .func (.func 87) #[] #[]] rfl rfl th (by kernel_rfl) (by simp [Value.oneCell']) ?_)
  change bodyPost _ _ _ _ _ (World.setCells (w.alloc (.cells Tryz.zeroCells113 113)) w.heap.size 0 layAll)
  obtain ⟨hl, bR⟩ := HH.out
  generalize World.setCells (w.alloc (.cells Tryz.zeroCells113 113)) w.heap.size 0 layAll = W at hl bR ⊢
  exact bodyPost_ret (v := .agg layAll.toArray) (results_one Tryz.results54 rfl hl) rfl ⟨rfl, bR⟩
end Go.Proofs.YtiiphandhpilgaaGreatDoor

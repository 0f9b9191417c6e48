/-
  Rest: twin and spoil.
-/
import Derived.Test.YtmjhlflemfkflaaGreatDoorIt
import Derived.Test.YtmjhlflemfkflaaGreatDoorLk2
namespace Go.Proofs.YtmjhlflemfkflaaGreatDoor
open Go.RowKit

/-- A slice that may be written: it lies from 'base' on. -/
def Wr (w : World) (base : Nat) (v : Value) : Prop :=
  ∃ ao n c, v = .slice ao n c ∧ n ≤ c ∧ c ≤ maxLen ∧ (0 < n → ∃ g ty vs, ao = some ⟨g, 0, none⟩ ∧ base ≤ g ∧ LocE w g ty vs ∧ n ≤ vs.length ∧ ∀ i, i < n → ∃ z : Int, vs[i]? = some (.int .u32 z))

theorem Wr.set {w : World} {B : Nat} {u : Value} (h : Wr w B u) (g k : Nat) (z0 : Int) : Wr (w.setCell ⟨g, k, none⟩ (.int .u32 z0)) B u := by
  obtain ⟨ao, n, c, rfl, hc, hm, h⟩ := h
  refine ⟨ao, n, c, rfl, hc, hm, fun hn => ?_⟩
  obtain ⟨b, ty, vs, rfl, hb, hl, hlen, hi⟩ := h hn
  by_cases e : g = b
  · subst e
    refine ⟨g, ty, vs.set k (.int .u32 z0), rfl, hb, hl.set k _, by simpa using hlen, fun i hin => ?_⟩
    by_cases e2 : k = i
    · subst e2
      exact ⟨z0, by rw [List.getElem?_set_self (by omega)]⟩
    · rw [List.getElem?_set_ne e2]
      exact hi i hin
  · exact ⟨b, ty, vs, rfl, hb, hl.off e k _, hlen, hi⟩

theorem Wr.later {w w' : World} {B : Nat} {u : Value} (h : Wr w B u) (hb : Below w.heap.size w w') : Wr w' B u := by
  obtain ⟨ao, n, c, rfl, hc, hm, h⟩ := h
  refine ⟨ao, n, c, rfl, hc, hm, fun hn => ?_⟩
  obtain ⟨b, ty, vs, h1, h2, hl, h3⟩ := h hn
  exact ⟨b, ty, vs, h1, h2, hl.later hb, h3⟩

theorem own_wr {w : World} {base e : Nat} {v : Value} {zs : List Nat} (h : Own w base e .u32 v zs) {B : Nat} (hB : B ≤ base) : Wr w B v := by
  have hr := h.rd
  obtain ⟨-, h2⟩ := h
  rcases h2 with ⟨hv, hn⟩ | ⟨g, cap, cur, hv, hb, hh, hnc, hcm, hcs, htake⟩
  · exact ⟨none, 0, 0, by rw [hv], Nat.le_refl _, Nat.zero_le _, fun h => absurd h (Nat.lt_irrefl _)⟩
  · refine ⟨some ⟨g, 0, none⟩, zs.length, cap, hv, hnc, hcm, fun hn => ⟨g, e, cur.toList, rfl, Nat.le_trans hB hb, hh, ?_, fun i hi => ?_⟩⟩
    · have hl2 : cur.toList.length = cur.size := Array.length_toList
      omega
    · obtain ⟨ao, c2, e1, -, -, h3⟩ := hr
      obtain ⟨b, off, rfl, hc⟩ := h3 hn
      rw [hv] at e1
      cases e1
      have hl : LocE w g e cur.toList := hh
      have := hc i hi
      unfold World.cell? at this
      simp only at this
      rw [hh] at this
      rw [Nat.zero_add] at this
      exact ⟨((zs.getD i 0 : Nat) : Int), by simpa using this⟩

set_option maxRecDepth 100000 in
set_option maxHeartbeats 1600000 in
theorem spoil_any (v : Value) (base : Nat) (w : World) (h : Wr w base v) :
    Calls Tryz.prog 20 #[v] w fun e w' => (∃ z, e = .returned z) ∧ Below base w w' ∧ ∀ B u, Wr w B u → Wr w' B u := by
  obtain ⟨ao, n, c, rfl, hc, hm, -⟩ := id h
  have hn2 : n ≤ 9223372036854775807 := by unfold maxLen at hm; omega
  go_enter Tryz.func20, Tryz.ntmps20
  go_wp2
  go_loopw [2] (fun iv wr => ∃ k : Nat, k ≤ n ∧ iv = .int .i64 k ∧ Below base w wr ∧ Hid (∀ B u, Wr w B u → Wr wr B u)) (fun iv _ => n - (intOf iv).toNat)
  case atStart => exact ⟨0, Nat.zero_le _, rfl, Below.refl _ _, fun _ _ h => h⟩
  case round =>
    obtain ⟨k, hk, rfl, bel, HW⟩ := hrel
    by_cases hlt : k < n
    · obtain ⟨ao', n', c', e1, -, -, hx⟩ := HW.out _ _ h
      cases e1
      obtain ⟨g, ty, vs, rfl, hg, hl, hlen, hi⟩ := hx (by omega)
      obtain ⟨z, hz⟩ := hi k hlt
      have h1 := hl.cell k hz
      have h2 := hl.free k
      have b2 := (but_set wr g k (.int .u32 77)).below bel hg
      have HW2 : Hid (∀ B u, Wr w B u → Wr (wr.setCell ⟨g, k, none⟩ (.int .u32 77)) B u) := fun B u hu => (HW.out B u hu).set g k 77
      clear hi hz hl hlen hx
      go_wp2
      go_roundw
      case rel => exact ⟨k + 1, by omega, by go_num, b2, HW2⟩
      case measure => simp [intOf]; omega
    · go_wp2
      go_end0
      exact ⟨⟨_, rfl⟩, bel, HW.out⟩

/-- append(v, u...) where v is one's own and u is read, of any length that may come in: what comes is one's own. -/
theorem append_rd_big {P : Program} {w : World} {base e : Nat} {k : IntKind} {v u : Value} {xs ys : List Nat} (t ty : Nat) (i : TypeInfo) (bytes : Nat) (ht : P.underlying t = some (.slice e)) (hi : P.info? e = some i)
    (hz : i.zero = some (.int k 0)) (hsize : i.size = 1) (hby : i.bytes = bytes)
    (ho : Own w base e k v xs) (hr : Rd w k u ys) (hm : xs.length + ys.length ≤ maxLen) (hl : (xs.length + ys.length) * bytes ≤ 140737488355328) (hbase : base ≤ w.heap.size) :
    ∃ v' w', (Builtin.append_ #[t, t] ty #[v, u]).run P w = .ok v' w' ∧ Own w' base e k v' (xs ++ ys) ∧ w.grownBy w' v.ownBlock := by
  by_cases hsm : ys.length = 0
  · have hyn : ys = [] := List.length_eq_zero_iff.1 hsm
    subst hyn
    obtain ⟨ao, cap, rfl, h1, h2, h3⟩ := hr
    cases ao with
    | none =>
      refine ⟨v, w, ?_, by rw [List.append_nil]; exact ho, grown_refl _ _⟩
      rcases ho.2 with ⟨rfl, _⟩ | ⟨g, cap', cur, rfl, _, _, hnc, _⟩
      · simp [Builtin.append_, run_underlying ht, sizeOf, typeInfo, hi, Builtin.lenOf, Builtin.firstCells]
      · simp [Builtin.append_, run_underlying ht, sizeOf, typeInfo, hi, Builtin.lenOf, Builtin.firstCells, hnc, storeCells]
    | some ad =>
      obtain ⟨v', w', r1, r2, r3, _⟩ := run_append_own (P := P) (w := w) base t ty e i (.int k 0) 1 bytes ht hi hz hsize hby rfl (by omega) v xs.length _ ho ad 0 cap [] (by simp) (fun j u hj => by simp at hj) (fun u hu => by simp at hu) hm hl hbase
      exact ⟨v', w', r1, by rw [List.append_nil]; unfold Own; rw [List.append_nil] at r2; exact r2, r3⟩
  · obtain ⟨ao, cap, rfl, h1, h2, h3⟩ := hr
    obtain ⟨b, off, rfl, hc⟩ := h3 (by omega)
    obtain ⟨v', w', r1, r2, r3, _⟩ := run_append_own (P := P) (w := w) base t ty e i (.int k 0) 1 bytes ht hi hz hsize hby rfl (by omega) v xs.length _ ho ⟨b, off, none⟩ ys.length cap (ys.map (fun n : Nat => Value.int k (n : Int))) (by simp) (fun j u hj => by
        have hjl : j < ys.length := by
          have := (List.getElem?_eq_some_iff.1 hj).1
          simpa using this
        rw [addr_add, hc j hjl]
        rw [← hj, getD_map_cell k ys j hjl]) (fun u hu => by
        obtain ⟨n, _, rfl⟩ := List.mem_map.1 hu
        rfl) hm hl hbase
    exact ⟨v', w', r1, by unfold Own; rw [List.map_append, List.length_append]; exact r2, r3⟩

set_option maxRecDepth 100000 in
set_option maxHeartbeats 1600000 in
theorem twin_any (va : Value) (xs : List Nat) (w : World) (ha : Rd w .u32 va xs) (hl : xs.length * 4 ≤ 140737488355328) :
    Calls Tryz.prog 14 #[va] w fun e w' => ∃ v, e = .returned v ∧ Own w' w.heap.size 76 .u32 v xs ∧ Below w.heap.size w w' := by
  obtain ⟨i0, hi, hz0, hz1, hz2⟩ := info_parts Tryz.infoU32
  have a1 : Below w.heap.size w (w.alloc (.cells #[] 76)) := (Below.refl _ _).alloc (Nat.le_refl _) _
  have own1 : Own (w.alloc (.cells #[] 76)) w.heap.size 76 .u32 (.slice (some ⟨w.heap.size, 0, none⟩) 0 0) [] := World.ownsRow_lit (e := 76) (size := 1) (base := w.heap.size) w #[] 0 (Nat.le_refl _) (by unfold maxLen; omega) rfl
  obtain ⟨v1, w1, hrun, own2, gr⟩ := append_rd_big (P := Tryz.prog) 23 23 i0 4 Tryz.underlying23 hi hz0 hz1 hz2 own1 (ha.later a1) (by unfold maxLen; simp only [List.length_nil]; omega) (by simp only [List.length_nil]; omega) (by simp)
  have b1 : Below w.heap.size w w1 := a1.grown gr a1.size (fun k hk => by cases hk; exact Nat.le_refl _)
  rw [List.nil_append] at own2
  clear gr own1 a1
  obtain ⟨ao, ca, rfl⟩ := ha.shape
  go_enter Tryz.func14, Tryz.ntmps14
  go_wp2_with (at_builtin; refine wpList_append_run (by rfl) _ _ 23 (by rfl) _ _ _ w1 (by rfl) (by rfl) hrun ?_)
  go_wp2
  go_ret
  exact ⟨_, rfl, own2, b1⟩
end Go.Proofs.YtmjhlflemfkflaaGreatDoor

/-
  Appending a slice that is read onto one's own: the run.
-/
import Derived.Test.YtfajoaopfedokaaDoorRef7
import Derived.Test.YtfajoaopfedokaaDoorFro
import Derived.Test.YtfajoaopfedokaaDoorIntoM
import Derived.Laws.OwnMore
namespace Go.Proofs.YtfajoaopfedokaaDoor
open Go.RowKit

/-- append(v, u...) where v is one's own and u is read: what comes is one's own. -/
theorem append_rd_run {P : Program} {w : World} {base e : Nat} {k : IntKind} {v u : Value} {xs ys : List Nat} (t ty : Nat) (i : TypeInfo) (bytes : Nat) (ht : P.underlying t = some (.slice e)) (hi : P.info? e = some i)
    (hz : i.zero = some (.int k 0)) (hsize : i.size = 1) (hby : i.bytes = bytes) (hb8 : bytes ≤ 8)
    (ho : Own w base e k v xs) (hr : Rd w k u ys) (hl : xs.length + ys.length ≤ 3000000) (hbase : base ≤ w.heap.size) :
    ∃ v' w', (Builtin.append_ #[t, t] ty #[v, u]).run P w = .ok v' w' ∧ Own w' base e k v' (xs ++ ys) ∧ w.grownBy w' v.ownBlock := by
  obtain ⟨ao, cap, rfl, h1, h2, h3⟩ := hr
  cases ao with
  | none =>
    have hy : ys.length = 0 := by
      rcases Nat.eq_zero_or_pos ys.length with e | e
      · exact e
      · obtain ⟨b, off, e2, _⟩ := h3 e; cases e2
    have hyn : ys = [] := List.length_eq_zero_iff.1 hy
    subst hyn
    refine ⟨v, w, ?_, by rw [List.append_nil]; exact ho, grown_refl _ _⟩
    rcases ho.2 with ⟨rfl, _⟩ | ⟨g, cap', cur, rfl, _, _, hnc, _⟩
    · simp [Builtin.append_, run_underlying ht, sizeOf, typeInfo, hi, Builtin.lenOf, Builtin.firstCells]
    · simp [Builtin.append_, run_underlying ht, sizeOf, typeInfo, hi, Builtin.lenOf, Builtin.firstCells, hnc, storeCells]
  | some ad =>
    obtain ⟨v', w', r1, r2, r3, _⟩ := run_append_own (P := P) (w := w) base t ty e i (.int k 0) 1 bytes ht hi hz hsize hby rfl (by omega) v xs.length _ ho ad ys.length cap (ys.map (fun n : Nat => Value.int k (n : Int))) (by simp) (fun j u hj => by
        have hjl : j < ys.length := by
          have := (List.getElem?_eq_some_iff.1 hj).1
          simpa using this
        obtain ⟨b, off, e2, hc⟩ := h3 (by omega)
        cases e2
        rw [addr_add, hc j hjl]
        rw [← hj, getD_map_cell k ys j hjl]) (fun u hu => by
        obtain ⟨n, _, rfl⟩ := List.mem_map.1 hu
        rfl) (by unfold maxLen; omega) (Nat.le_trans (Nat.mul_le_mul (show xs.length + ys.length ≤ 3000000 from hl) hb8) (by omega)) hbase
    exact ⟨v', w', r1, by unfold Own; rw [List.map_append, List.length_append]; exact r2, r3⟩

/-- append by its run. -/
theorem wpList_append_run {P : Program} {ops : Array Oper} {rest : List Oper} {o : Oper} {a : Act} {w : World} {Q : Exit → Act → World → Prop} (hgd : o.guard = none) (s x : Operand) (t : TypeId)
    (ho : o.op = .call { callee := .builtin .append, args := #[s, x], argTypes := #[t, t] }) (v u v' : Value) (w' : World) (hs : a.eval s = v) (hx : a.eval x = u)
    (hr : (Builtin.append_ #[t, t] o.type #[v, u]).run P w = .ok v' w') (h : wpList P ops Q rest (a.put o.dst v') w') : wpList P ops Q (o :: rest) a w := by
  refine wpList_plain hgd fun K hK => ?_
  unfold Oper.wp execOp
  simp only [ho, resolve, invoke, builtin, Sem.run_bind, Sem.run_pure, Result.andThen_ok, List.map_toArray, List.map_cons, List.map_nil, hs, hx, hr]
  exact hK _ _ h
end Go.Proofs.YtfajoaopfedokaaDoor

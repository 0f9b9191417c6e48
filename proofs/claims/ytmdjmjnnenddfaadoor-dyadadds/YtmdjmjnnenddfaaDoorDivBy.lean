/-
  The contract of divideBy: the row is divided in its place by one digit.
-/
import Derived.Test.YtmdjmjnnenddfaaDoorDiv1
namespace Go.Proofs.YtmdjmjnnenddfaaDoor
open Go.RowKit

theorem grown_of_below {w w' : World} (g : Option Nat) (h : Below w.heap.size w w') : w.grownBy w' g := ⟨h.os, h.tape, h.output, h.size, fun k hk _ => h.block k hk⟩
theorem grown_refl (w : World) (g : Option Nat) : w.grownBy w g := ⟨rfl, rfl, rfl, Nat.le_refl _, fun _ _ _ => rfl⟩
theorem grown_trans {w w1 w2 : World} {g : Option Nat} (h : w.grownBy w1 g) (k : w1.grownBy w2 g) : w.grownBy w2 g :=
  ⟨k.os.trans h.os, k.tape.trans h.tape, k.output.trans h.output, Nat.le_trans h.size k.size, fun i hi hne => (k.block i (Nat.lt_of_lt_of_le hi h.size) hne).trans (h.block i hi hne)⟩
theorem grown_set (w : World) (g j : Nat) (u : Value) : w.grownBy (w.setCell ⟨g, j, none⟩ u) (some g) :=
  ⟨rfl, rfl, rfl, by simp [World.setCell], fun k _ hk => Below.heap_setCell w ⟨g, j, none⟩ u k (fun e => hk (by rw [e]))⟩

/-- What the loop keeps: from k on it is divided. -/
def DivI (zs cur : List Nat) (d k r : Nat) : Prop :=
  cur.length = zs.length ∧ Dg.Small 4294967296 cur ∧ r < d ∧ (∀ j, j < k → cur.getD j 0 = zs.getD j 0) ∧ Dg.vl 4294967296 (zs.drop k) = Dg.vl 4294967296 (cur.drop k) * d + r

theorem drop_eq (l : List Nat) (k : Nat) (h : k < l.length) : l.drop k = l.getD k 0 :: l.drop (k + 1) := by
  rw [List.drop_eq_getElem_cons h]; simp [List.getD_eq_getElem?_getD, h]

theorem divI_step {zs cur : List Nat} {d k r t : Nat} (h : DivI zs cur d (k + 1) r) (hk : k < zs.length) (ht : t = r * 4294967296 + zs.getD k 0) (hd : 0 < d) (hq : t / d < 4294967296) :
    DivI zs (cur.set k (t / d)) d k (t % d) := by
  obtain ⟨h1, h2, h3, h4, h5⟩ := h
  refine ⟨by simpa using h1, Dg.small_set h2 _ _ hq, Nat.mod_lt _ hd, fun j hj => ?_, ?_⟩
  · rw [Dg.getD_set _ _ _ _ (by omega), if_neg (by omega)]; exact h4 j (by omega)
  · rw [drop_eq zs k hk, drop_eq (cur.set k (t / d)) k (by simpa using (by omega : k < cur.length)), Dg.getD_set _ _ _ _ (by omega), if_pos rfl, List.drop_set_of_lt (by omega)]
    simp only [Dg.vl]
    rw [h5]
    have := Nat.div_add_mod t d
    rw [Nat.add_mul, Nat.mul_comm (t / d) d, Nat.mul_assoc, Nat.mul_add]
    have e : r * 4294967296 = 4294967296 * r := Nat.mul_comm _ _
    omega

end Go.Proofs.YtmdjmjnnenddfaaDoor

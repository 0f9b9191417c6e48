/-
  Contract of grow: the row becomes scale times what it was, and more.
-/
import Derived.Test.YtfajoaopfedokaaDoorNc
namespace Go.Proofs.YtfajoaopfedokaaDoor
open Go.RowKit

def GrowI (zs cur : List Nat) (sc mo k c : Nat) : Prop :=
  cur.length = zs.length ∧ Dg.Small 4294967296 cur ∧ c < 4294967296 ∧ (∀ j, k ≤ j → cur.getD j 0 = zs.getD j 0) ∧ Dg.vl 4294967296 (cur.take k) + 4294967296 ^ k * c = Dg.vl 4294967296 (zs.take k) * sc + mo

theorem grow_step {zs cur : List Nat} {sc mo k c x : Nat} (h : GrowI zs cur sc mo k c) (hk : k < zs.length) (hx : zs.getD k 0 = x) (hxl : x < 4294967296) (hsc : sc < 4294967296) :
    GrowI zs (cur.set k ((c + x * sc) % 4294967296)) sc mo (k + 1) ((c + x * sc) / 4294967296) := by
  obtain ⟨h1, h2, h3, h4, h5⟩ := h
  have hb := mul_bound hxl hsc
  refine ⟨by simpa using h1, Dg.small_set h2 _ _ (Nat.mod_lt _ (by omega)), by omega, fun j hj => ?_, ?_⟩
  · rw [Dg.getD_set _ _ _ _ (by omega), if_neg (by omega)]; exact h4 j (by omega)
  · rw [vl_take_set _ _ _ (by omega), Dg.vl_take_succ _ _ _ hk, hx, Nat.add_mul]
    generalize ht : c + x * sc = t
    have e : 4294967296 ^ (k + 1) * (t / 4294967296) = 4294967296 ^ k * (4294967296 * (t / 4294967296)) := by rw [Nat.pow_succ, Nat.mul_assoc]
    have e2 : 4294967296 ^ k * t = 4294967296 ^ k * (t % 4294967296) + 4294967296 ^ k * (4294967296 * (t / 4294967296)) := by rw [← Nat.mul_add, Nat.mod_add_div]
    have e3 : 4294967296 ^ k * t = 4294967296 ^ k * c + 4294967296 ^ k * x * sc := by rw [← ht, Nat.mul_add, Nat.mul_assoc]
    rw [e]
    omega

theorem grow_end {zs cur : List Nat} {sc mo c m : Nat} (h : GrowI zs cur sc mo zs.length c) (hz : zs = Dg.dg 4294967296 m) (hsc : 1 ≤ sc) (hc : c = 0 ∨ 0 < c) :
    (if c = 0 then cur else cur ++ [c]) = Dg.dg 4294967296 (m * sc + mo) := by
  obtain ⟨h1, h2, h3, h4, h5⟩ := h
  rw [List.take_of_length_le (by omega), List.take_of_length_le (Nat.le_refl _)] at h5
  have hm : Dg.vl 4294967296 zs = m := by rw [hz, Dg.vl_dg _ _ (by omega)]
  rw [hm] at h5
  by_cases e : c = 0
  · subst e
    rw [if_pos rfl]
    refine Dg.eq_dg 4294967296 (by omega) _ _ h2 (Dg.norm_of_ge 4294967296 cur h2 (fun hne => ?_)) (by omega)
    have hzne : zs ≠ [] := by intro e; rw [e] at h1; exact hne (List.eq_nil_of_length_eq_zero h1)
    have := Dg.vl_ge 4294967296 zs hzne (by rw [hz]; exact Dg.norm_dg _ _ (by omega))
    rw [h1]
    have h6 : m ≤ m * sc := Nat.le_mul_of_pos_right _ (by omega)
    omega
  · rw [if_neg e]
    refine Dg.eq_dg 4294967296 (by omega) _ _ (small_snoc h2 h3) (fun _ => ?_) ?_
    · simp [List.getD_eq_getElem?_getD]; exact e
    · rw [Dg.vl_append, h1]
      simp only [Dg.vl, Nat.mul_zero, Nat.add_zero]
      omega

/-- A row of the call's own, grown by one. -/
theorem own_grow1 {w0 wr w3 : World} {e x : Nat} {k : IntKind} {es : List Nat} {lv v' : Value} (bel : Below w0.heap.size w0 wr) (ownL : Own wr w0.heap.size e k lv es)
    (hown' : w3.ownsRow w0.heap.size e 1 v' (es.length + 1) ((es.map (fun n : Nat => Value.int k (n : Int))) ++ [.int k (x : Int)]))
    (hgrow : (wr.alloc (.cells #[.int k (x : Int)] e)).grownBy w3 lv.ownBlock) :
    Own w3 w0.heap.size e k v' (es ++ [x]) ∧ Below w0.heap.size w0 w3 := own_append1 bel ownL hown' hgrow

theorem cast_g1 (c x s : Nat) : ((c : Int) + (x : Int) * (s : Int)) % 4294967296 = (((c + x * s) % 4294967296 : Nat) : Int) := by rw [← Int.natCast_mul]; omega
theorem cast_g2 (c x s : Nat) : ((c : Int) + (x : Int) * (s : Int)) / 4294967296 = (((c + x * s) / 4294967296 : Nat) : Int) := by rw [← Int.natCast_mul]; omega

end Go.Proofs.YtfajoaopfedokaaDoor

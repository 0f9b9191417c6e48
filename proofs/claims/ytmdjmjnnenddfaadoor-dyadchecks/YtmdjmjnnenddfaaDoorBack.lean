/-
  Contracts of putBack, LeadingZeros32 and guess.
-/
import Derived.Test.YtmdjmjnnenddfaaDoorTake
import Derived.Test.YtmdjmjnnenddfaaDoorShift
namespace Go.Proofs.YtmdjmjnnenddfaaDoor
open Go.RowKit

def BackI (R cur ys : List Nat) (i k c : Nat) : Prop :=
  cur.length = R.length ∧ Dg.Small 4294967296 cur ∧ c ≤ 1 ∧ (∀ j, i + k ≤ j → cur.getD j 0 = R.getD j 0) ∧ Dg.vl 4294967296 cur + 4294967296 ^ (i + k) * c = Dg.vl 4294967296 R + 4294967296 ^ i * Dg.vl 4294967296 (ys.take k)

theorem back_step {R cur ys : List Nat} {i k c y p : Nat} (h : BackI R cur ys i k c) (hl : i + k < R.length) (hy : ys.getD k 0 = y) (hp : R.getD (i + k) 0 = p) (hpl : p < 4294967296) (hyl : y < 4294967296) :
    BackI R (cur.set (i + k) ((p + y + c) % 4294967296)) ys i (k + 1) ((p + y + c) / 4294967296) := by
  obtain ⟨h1, h2, h3, h5, h6⟩ := h
  refine ⟨by simpa using h1, Dg.small_set h2 _ _ (Nat.mod_lt _ (by omega)), by omega, fun j hj => ?_, ?_⟩
  · rw [Dg.getD_set _ _ _ _ (by omega), if_neg (by omega)]; exact h5 j (by omega)
  · have hs := Dg.vl_set 4294967296 cur (i + k) ((p + y + c) % 4294967296) (by omega)
    rw [h5 _ (Nat.le_refl _), hp] at hs
    rw [vl_take_any, hy]
    generalize hT : p + y + c = T at *
    have e1 : 4294967296 ^ i * (Dg.vl 4294967296 (ys.take k) + 4294967296 ^ k * y) = 4294967296 ^ i * Dg.vl 4294967296 (ys.take k) + 4294967296 ^ (i + k) * y := by rw [Nat.mul_add, Nat.pow_add, Nat.mul_assoc]
    have e2 : 4294967296 ^ (i + (k + 1)) * (T / 4294967296) = 4294967296 ^ (i + k) * (4294967296 * (T / 4294967296)) := by rw [show i + (k + 1) = i + k + 1 from by omega, Nat.pow_succ, Nat.mul_assoc]
    have e3 : 4294967296 ^ (i + k) * T = 4294967296 ^ (i + k) * (T % 4294967296) + 4294967296 ^ (i + k) * (4294967296 * (T / 4294967296)) := by rw [← Nat.mul_add, Nat.mod_add_div]
    have e4 : 4294967296 ^ (i + k) * T = 4294967296 ^ (i + k) * p + 4294967296 ^ (i + k) * y + 4294967296 ^ (i + k) * c := by rw [← hT, Nat.mul_add, Nat.mul_add]
    rw [e1, e2]
    omega

/-- What putting back does to the row. -/
def Backed (R cur ys : List Nat) (i o : Nat) : Prop :=
  cur.length = R.length ∧ Dg.Small 4294967296 cur ∧ (∀ j, i + ys.length < j → cur.getD j 0 = R.getD j 0) ∧ o ≤ 1 ∧ Dg.vl 4294967296 cur + 4294967296 ^ (i + ys.length + 1) * o = Dg.vl 4294967296 R + 4294967296 ^ i * Dg.vl 4294967296 ys

theorem back_last {R cur ys : List Nat} {i c p : Nat} (h : BackI R cur ys i ys.length c) (hl : i + ys.length < R.length) (hp : R.getD (i + ys.length) 0 = p) (hpl : p < 4294967296) :
    Backed R (cur.set (i + ys.length) ((p + c) % 4294967296)) ys i ((p + c) / 4294967296) := by
  obtain ⟨h1, h2, h3, h5, h6⟩ := h
  refine ⟨by simpa using h1, Dg.small_set h2 _ _ (Nat.mod_lt _ (by omega)), fun j hj => ?_, by omega, ?_⟩
  · rw [Dg.getD_set _ _ _ _ (by omega), if_neg (by omega)]; exact h5 j (by omega)
  · have hs := Dg.vl_set 4294967296 cur (i + ys.length) ((p + c) % 4294967296) (by omega)
    rw [h5 _ (Nat.le_refl _), hp] at hs
    rw [List.take_of_length_le (Nat.le_refl _)] at h6
    generalize hT : p + c = T at *
    have e2 : 4294967296 ^ (i + ys.length + 1) * (T / 4294967296) = 4294967296 ^ (i + ys.length) * (4294967296 * (T / 4294967296)) := by rw [Nat.pow_succ, Nat.mul_assoc]
    have e3 : 4294967296 ^ (i + ys.length) * T = 4294967296 ^ (i + ys.length) * (T % 4294967296) + 4294967296 ^ (i + ys.length) * (4294967296 * (T / 4294967296)) := by rw [← Nat.mul_add, Nat.mod_add_div]
    have e4 : 4294967296 ^ (i + ys.length) * T = 4294967296 ^ (i + ys.length) * p + 4294967296 ^ (i + ys.length) * c := by rw [← hT, Nat.mul_add]
    rw [e2]
    omega

def msr (v : Value) : Nat := (intOf v).toNat

def GsR (w : World) (g at0 top d1 d0 p0 : Nat) (gv rv : Value) (wr : World) : Prop :=
  ∃ (t r : Nat), gv = .int .u64 t ∧ rv = .int .u64 r ∧ Hid (GsI top d1 d0 p0 t r) ∧ r < 4294967296 ∧ t ≤ 4294967297 ∧ wr.cell? ⟨g, at0, none⟩ = some (.int .u32 (p0 : Int)) ∧ Below w.heap.size w wr

theorem emod_small {x : Nat} (h : x < 4294967296) : (x : Int) % 4294967296 = (x : Int) := by omega

/-- Where the loop ends because the rest has outgrown a digit. -/
theorem gs_break {top d1 d0 p0 p1 p2 g r : Nat} (h : GsI top d1 d0 p0 g r) (hr : 4294967296 ≤ r) (_hd : 0 < d1) (ht : p2 * 4294967296 + p1 = top) (hle : p2 ≤ d1) (hp : p1 < 4294967296) (h0 : d0 < 4294967296) :
    g < 4294967296 ∧ g * (d1 * 4294967296 + d0) ≤ top * 4294967296 + p0 := by
  have hg : g < 4294967296 := by
    rcases Nat.lt_or_ge g 4294967296 with e | e
    · exact e
    · exfalso
      have h1 := h.1
      have h2 : 4294967296 * d1 ≤ g * d1 := Nat.mul_le_mul_right _ e
      omega
  refine ⟨hg, gs_end h ?_⟩
  have : g * d0 ≤ 4294967296 * 4294967296 := Nat.mul_le_mul (by omega) (by omega)
  omega

end Go.Proofs.YtmdjmjnnenddfaaDoor

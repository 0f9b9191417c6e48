/-
  Contracts of takeTimes and putBack over a part of the call's own row.
-/
import Derived.Test.YtmdjmjnnenddfaaDoorKnuth
import Derived.Test.YtmdjmjnnenddfaaDoorRead2
namespace Go.Proofs.YtmdjmjnnenddfaaDoor
open Go.RowKit

def TakeI (R cur ys : List Nat) (i t k c b : Nat) : Prop :=
  cur.length = R.length ∧ Dg.Small 4294967296 cur ∧ c < 4294967296 ∧ b ≤ 1 ∧ (∀ j, i + k ≤ j → cur.getD j 0 = R.getD j 0) ∧ Dg.vl 4294967296 cur + 4294967296 ^ i * (Dg.vl 4294967296 (ys.take k) * t) = Dg.vl 4294967296 R + 4294967296 ^ (i + k) * (b + c)

theorem take_step {R cur ys : List Nat} {i t k c b y p ct : Nat} (h : TakeI R cur ys i t k c b) (_hk : k < ys.length) (hl : i + k < R.length) (hy : ys.getD k 0 = y) (hp : R.getD (i + k) 0 = p) (hpl : p < 4294967296) (hct : ct = c + y * t) (hcl : ct / 4294967296 < 4294967296) :
    TakeI R (cur.set (i + k) ((p + 4294967296 - ct % 4294967296 - b) % 4294967296)) ys i t (k + 1) (ct / 4294967296) (brw p (ct % 4294967296) b) := by
  obtain ⟨h1, h2, h3, h4, h5, h6⟩ := h
  refine ⟨by simpa using h1, Dg.small_set h2 _ _ (Nat.mod_lt _ (by omega)), hcl, brw_le _ _ _, fun j hj => ?_, ?_⟩
  · rw [Dg.getD_set _ _ _ _ (by omega), if_neg (by omega)]; exact h5 j (by omega)
  · have hs := Dg.vl_set 4294967296 cur (i + k) ((p + 4294967296 - ct % 4294967296 - b) % 4294967296) (by omega)
    rw [h5 _ (Nat.le_refl _), hp] at hs
    have hlo : ct % 4294967296 < 4294967296 := Nat.mod_lt _ (by omega)
    have eb : p + 4294967296 * brw p (ct % 4294967296) b = (p + 4294967296 - ct % 4294967296 - b) % 4294967296 + ct % 4294967296 + b := by unfold brw; split <;> omega
    generalize hnew : (p + 4294967296 - ct % 4294967296 - b) % 4294967296 = new at *
    generalize brw p (ct % 4294967296) b = b' at *
    rw [vl_take_any, hy]
    have e1 : 4294967296 ^ i * ((Dg.vl 4294967296 (ys.take k) + 4294967296 ^ k * y) * t) = 4294967296 ^ i * (Dg.vl 4294967296 (ys.take k) * t) + 4294967296 ^ (i + k) * (y * t) := by
      rw [Nat.add_mul, Nat.mul_add, Nat.pow_add, Nat.mul_assoc, Nat.mul_assoc]
    have e2 : 4294967296 ^ (i + (k + 1)) * (b' + ct / 4294967296) = 4294967296 ^ (i + k) * (4294967296 * b' + 4294967296 * (ct / 4294967296)) := by
      rw [show i + (k + 1) = i + k + 1 from by omega, Nat.pow_succ, Nat.mul_assoc, Nat.mul_add]
    have e3 := Nat.mod_add_div ct 4294967296
    have e4 : 4294967296 ^ (i + k) * (4294967296 * b' + 4294967296 * (ct / 4294967296) + p) = 4294967296 ^ (i + k) * (new + b + c + y * t) := by congr 1; omega
    rw [Nat.mul_add, Nat.mul_add, Nat.mul_add, Nat.mul_add, Nat.mul_add] at e4
    rw [Nat.mul_add] at h6
    rw [e1, e2, Nat.mul_add]
    omega

theorem take_last {R cur ys : List Nat} {i t c b p : Nat} (h : TakeI R cur ys i t ys.length c b) (hl : i + ys.length < R.length) (hp : R.getD (i + ys.length) 0 = p) (hpl : p < 4294967296) :
    (cur.set (i + ys.length) ((p + 4294967296 - c - b) % 4294967296)).length = R.length ∧ Dg.Small 4294967296 (cur.set (i + ys.length) ((p + 4294967296 - c - b) % 4294967296)) ∧ (∀ j, i + ys.length < j → (cur.set (i + ys.length) ((p + 4294967296 - c - b) % 4294967296)).getD j 0 = R.getD j 0) ∧
      Dg.vl 4294967296 (cur.set (i + ys.length) ((p + 4294967296 - c - b) % 4294967296)) + 4294967296 ^ i * (Dg.vl 4294967296 ys * t) = Dg.vl 4294967296 R + 4294967296 ^ (i + ys.length + 1) * brw p c b := by
  obtain ⟨h1, h2, h3, h4, h5, h6⟩ := h
  refine ⟨by simpa using h1, Dg.small_set h2 _ _ (Nat.mod_lt _ (by omega)), fun j hj => ?_, ?_⟩
  · rw [Dg.getD_set _ _ _ _ (by omega), if_neg (by omega)]; exact h5 j (by omega)
  · have hs := Dg.vl_set 4294967296 cur (i + ys.length) ((p + 4294967296 - c - b) % 4294967296) (by omega)
    rw [h5 _ (Nat.le_refl _), hp] at hs
    have eb : p + 4294967296 * brw p c b = (p + 4294967296 - c - b) % 4294967296 + c + b := by unfold brw; split <;> omega
    generalize (p + 4294967296 - c - b) % 4294967296 = new at *
    generalize brw p c b = b' at *
    rw [List.take_of_length_le (Nat.le_refl _)] at h6
    have e2 : 4294967296 ^ (i + ys.length + 1) * b' = 4294967296 ^ (i + ys.length) * (4294967296 * b') := by rw [Nat.pow_succ, Nat.mul_assoc]
    have e4 : 4294967296 ^ (i + ys.length) * (p + 4294967296 * b') = 4294967296 ^ (i + ys.length) * (new + c + b) := by rw [eb]
    rw [Nat.mul_add, Nat.mul_add, Nat.mul_add] at e4
    rw [Nat.mul_add] at h6
    rw [e2]
    omega

/-- What taking so many times does to the row. -/
def Took (R cur ys : List Nat) (i t b : Nat) : Prop :=
  cur.length = R.length ∧ Dg.Small 4294967296 cur ∧ (∀ j, i + ys.length < j → cur.getD j 0 = R.getD j 0) ∧ b ≤ 1 ∧ Dg.vl 4294967296 cur + 4294967296 ^ i * (Dg.vl 4294967296 ys * t) = Dg.vl 4294967296 R + 4294967296 ^ (i + ys.length + 1) * b

end Go.Proofs.YtmdjmjnnenddfaaDoor

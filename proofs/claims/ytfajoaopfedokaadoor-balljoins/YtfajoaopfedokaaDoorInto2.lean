/-
  Contract of the reference's Into, whole.
-/
import Derived.Test.YtfajoaopfedokaaDoorInto1
namespace Go.Proofs.YtfajoaopfedokaaDoor
open Go.RowKit

/-- The call answers two numbers of the reference. -/
def RTwo (w : World) (q r : Nat) (e : Ending) (w' : World) : Prop :=
  ∃ vq vr, e = .returned (.tuple #[vq, vr]) ∧ Rd w' .i64 vq (Dg.dg 65536 q) ∧ Rd w' .i64 vr (Dg.dg 65536 r) ∧ Below w.heap.size w w'

theorem into_any (va vb : Value) (a b : Nat) (w : World) (ha : Rd w .i64 va (Dg.dg 65536 a)) (hb : Rd w .i64 vb (Dg.dg 65536 b)) (hla : (Dg.dg 65536 a).length ≤ 900000) (hlb : (Dg.dg 65536 b).length ≤ 900000) (hb0 : 0 < b) :
    Calls Tryd.prog 92 #[va, vb] w (RTwo w (a / b) (a % b)) := by
  have hne : ¬(Dg.dg 65536 b).length = 0 := by rw [List.length_eq_zero_iff, Dg.dg_nil_iff _ _ (by omega)]; omega
  by_cases h1 : (Dg.dg 65536 b).length = 1
  · obtain ⟨d, hd⟩ : ∃ d, Dg.dg 65536 b = [d] := List.length_eq_one_iff.1 h1
    have hs := Dg.small_dg 65536 b (by omega)
    have hv := Dg.vl_dg 65536 b (by omega)
    rw [hd] at hs hv
    have hdb : d = b := by simpa [Dg.vl] using hv
    subst hdb
    have := into1_any va _ vb d w ha (by rw [← hd]; exact hb) (Dg.small_dg _ _ (by omega)) (by omega) hb0 (Dg.small_cons.1 hs).1
    rw [Dg.vl_dg _ _ (by omega)] at this
    exact this
  · have := intoN_any va vb _ _ w ha hb (Dg.small_dg _ _ (by omega)) (Dg.small_dg _ _ (by omega)) (Dg.norm_dg _ _ (by omega)) hla hlb (by omega)
    rw [Dg.vl_dg _ _ (by omega), Dg.vl_dg _ _ (by omega)] at this
    exact this
end Go.Proofs.YtfajoaopfedokaaDoor

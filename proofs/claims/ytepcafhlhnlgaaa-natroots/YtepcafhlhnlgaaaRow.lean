/-
  From a slice of digits that came in to what it reads as.
-/
import Derived.Test.YtepcafhlhnlgaaaBegun
import Derived.OpenShut
namespace Go.Proofs.Ytepcafhlhnlgaaa
open Go.RowKit

theorem rd_of_row {w : World} {a : Option Addr} {len cap : Nat} {zs : List Int}
    (h : (a = none ∧ len = 0 ∧ cap = 0 ∧ zs = []) ∨ ∃ x, a = some x ∧ len ≤ cap ∧ cap ≤ maxLen ∧ zs.length = cap ∧ (∀ i, i < zs.length → w.cell? (x.add i) = some (.int .u32 (zs.getD i 0))) ∧ ∀ n ∈ zs, (Lit.int .u32 n).wf = true) :
    ∃ xs, Rd w .u32 (.slice a len cap) xs ∧ Dg.Small 4294967296 xs := by
  rcases h with ⟨rfl, rfl, rfl, rfl⟩ | ⟨x, rfl, hl, hm, hz, hcell, hwz⟩
  · exact ⟨[], ⟨none, 0, rfl, by simp, by unfold maxLen; omega, fun h => by simp at h⟩, Dg.small_nil _ (by omega)⟩
  · obtain ⟨b, off, spot⟩ := x
    have hb : ∀ i, i < zs.length → 0 ≤ zs.getD i 0 ∧ zs.getD i 0 < 4294967296 := fun i hi => by
      have := bounds_u32 (hwz (zs.getD i 0) (by simp [List.getD_eq_getElem?_getD, hi]))
      omega
    have hlen : ((zs.take len).map Int.toNat).length = len := by simp; omega
    have hget : ∀ i, i < len → (((zs.take len).map Int.toNat).getD i 0 : Nat) = (zs.getD i 0).toNat := fun i hi => by
      have h1 : i < zs.length := by omega
      simp [List.getD_eq_getElem?_getD, hi, h1]
    refine ⟨(zs.take len).map Int.toNat, ⟨_, cap, by rw [hlen], by rw [hlen]; exact hl, hm, fun hp => ?_⟩, fun i => ?_⟩
    · rw [hlen] at hp
      have h0 := hcell 0 (by omega)
      have hspot : spot = none := by simpa [Addr.add] using World.cell?_spot h0
      subst hspot
      refine ⟨b, off, rfl, fun i hi => ?_⟩
      rw [hlen] at hi
      have := hcell i (by omega)
      rw [addr_add] at this
      rw [this, hget i hi]
      have := (hb i (by omega)).1
      congr 2
      omega
    · by_cases hi : i < len
      · rw [hget i hi]; have := hb i (by omega); omega
      · rw [Dg.getD_of_le _ _ (by rw [hlen]; omega)]; omega

theorem checks_walk (va : Value) (xs : List Nat) (w : World) (ha : Rd w .u32 va xs) :
    Calls Try.prog 3 #[va] w fun e w' => e = .returned (.bool true) ∧ Below w.heap.size w w' := by
  have hb := begun_any w
  go_enter Try.func3, Try.ntmps3
  go_wp2_with fail
  refine hb.mono ?_
  rintro e w1 ⟨rfl, bel⟩
  have h1 := check_any va xs w1 (ha.later bel)
  have h2 := checkNat_any va xs w1 (ha.later bel)
  go_wp2_with fail
  refine h1.mono ?_
  rintro e w' ⟨rfl, rfl⟩
  go_wp2_with fail
  refine h2.mono ?_
  rintro e w' ⟨rfl, rfl⟩
  go_wp2
  go_ret
  exact ⟨rfl, bel⟩
end Go.Proofs.Ytepcafhlhnlgaaa

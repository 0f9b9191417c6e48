/-
  Texts laid together: Oq5.
-/
import Derived.Test.YtnhackdjplppjaaGreatDoorAt31
namespace Go.Proofs.YtnhackdjplppjaaGreatDoor
open Go.RowKit
theorem patC_one {n : Int} {p : ByteArray} (hf : famC n ≠ 0) (h : patC n p ≠ 0) : patC n p = 1 := by
 unfold patC at h ⊢
 rw [if_neg hf] at h ⊢
 by_cases c : p.size = szN n.toNat
 ·rw [if_pos c] at h
  exact absurd rfl h
 ·rw [if_neg c]
theorem errL_one {n : Int} (hf : famC n ≠ 0) : ∀ ps : List ByteArray, errL n ps ≠ 0 → errL n ps = 1
 | [], h => absurd rfl h
 | p :: ps, h => by
  unfold errL at h ⊢
  by_cases c : patC n p = 0
  ·rw [if_pos c] at h ⊢
   exact errL_one hf ps h
  ·rw [if_neg c]
   exact patC_one hf c
theorem errL_zero {n : Int} : ∀ {ps : List ByteArray}, errL n ps = 0 → ∀ p ∈ ps, patC n p = 0
 | [], _, p, hp => by simp at hp
 | q :: ps, h, p, hp => by
  unfold errL at h
  by_cases c : patC n q = 0
  ·rw [if_pos c] at h
   rcases List.mem_cons.1 hp with rfl | h2
   ·exact c
   ·exact errL_zero h p h2
  ·rw [if_neg c] at h
   exact absurd h c
theorem decC_in {n : Int} {p : ByteArray} (h : patC n p = 0) : 1 ≤ decC n p ∧ decC n p ≤ 5 := by
 unfold decC
 rw [if_pos h]
 have := clsN_in n.toNat (fldN n.toNat p) (fldE n.toNat p) (fldF n.toNat p)
 omega
theorem rf_num {k : Nat} (hk : 1 ≤ k ∧ k ≤ 8) (s : ByteArray) (hc : clsN k (fldN k s) (fldE k s) (fldF k s) = 1 ∨ clsN k (fldN k s) (fldE k s) (fldF k s) = 2) : dchk (Dg.dg 4294967296 (nxT k s).n) (nxT k s).e = 0 ∧ bare (nxT k s) = nxT k s := by
 obtain ⟨h1, h2⟩ := en_short (num_is hk s hc)
 refine ⟨h2, ?_⟩
 rw [h1]
 exact bare_bare _
end Go.Proofs.YtnhackdjplppjaaGreatDoor

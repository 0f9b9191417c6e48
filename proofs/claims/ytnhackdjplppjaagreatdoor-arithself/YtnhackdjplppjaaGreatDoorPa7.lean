/-
  Arithmetic, paid: Div.
-/
import Derived.Test.YtnhackdjplppjaaGreatDoorPa6
namespace Go.Proofs.YtnhackdjplppjaaGreatDoor
open Go.RowKit
def divF (n : Int) (a b : ByteArray) : Int × Bool × Trip × Int := quotV n.toNat ((decC n a : Nat) : Int) (decG n a) (opT n a) ((decC n b : Nat) : Int) (decG n b) (opT n b)
theorem pole_near {k : Nat} (hk : 1 ≤ k ∧ k ≤ 8) {ng : Bool} (h : (poleV k ng).1 = 2) : (poleV k ng).2.2.1.n ≠ 0 ∧ Near (poleV k ng).2.2.1 := by
 obtain ⟨f1, f2, f3, f4, f5, f6⟩ := spot_fits (fmt_fit hk).2.2.2.2.2.2.2.2.2.2.2 (great_spot hk)
 unfold poleV at h ⊢
 by_cases c1 : famC (k : Int) = 1
 ·rw [if_pos c1] at h
  simp at h
 rw [if_neg c1] at h ⊢
 by_cases c2 : famC (k : Int) = 2
 ·rw [if_pos c2] at h ⊢
  refine num_near (sg := ng) ?_ h
  have hb : bitLen (rdN k ^ dgN k - 1) ≤ 32 * 15 := bitLen_of_len2 f1
  have hp : rdN k ^ dgN k - 1 ≠ 0 := by rcases eight hk with rfl | rfl | rfl | rfl | rfl | rfl | rfl | rfl <;> decide
  obtain ⟨t1, t2, t3⟩ := bare_top (t := ⟨ng, rdN k ^ dgN k - 1, (widthN (rdN k : Int) : Int) * gsI k⟩) hp
  refine ⟨?_, ?_⟩
  ·rw [t2]
   show -50000 ≤ (widthN (rdN k : Int) : Int) * gsI k + ((tz (rdN k ^ dgN k - 1) : Nat) : Int)
   omega
  ·rw [t3]
   show (widthN (rdN k : Int) : Int) * gsI k + ((bitLen (rdN k ^ dgN k - 1) : Nat) : Int) ≤ 50000
   omega
 ·rw [if_neg c2] at h
  exact (no_near h).elim
theorem quot_near {k : Nat} (hk : 1 ≤ k ∧ k ≤ 8) {cx cy : Int} {gx gy : Bool} {x y : Trip} (hn : Near (overT x y 128)) (h : (quotV k cx gx x cy gy y).1 = 2) : (quotV k cx gx x cy gy y).2.2.1.n ≠ 0 ∧ Near (quotV k cx gx x cy gy y).2.2.1 := by
 unfold quotV at h ⊢
 by_cases c1 : cx = 3 ∧ cy = 3 ∨ cx = 1 ∧ cy = 1
 ·rw [if_pos c1] at h
  exact (no_near h).elim
 rw [if_neg c1] at h ⊢
 by_cases c2 : cx = 3
 ·rw [if_pos c2] at h
  simp at h
 rw [if_neg c2] at h ⊢
 by_cases c3 : cy = 3
 ·rw [if_pos c3] at h
  simp at h
 rw [if_neg c3] at h ⊢
 by_cases c4 : cy = 1
 ·rw [if_pos c4] at h ⊢
  exact pole_near hk h
 ·rw [if_neg c4] at h ⊢
  exact num_near hn h
theorem div_any (n way : Int) (a b : ByteArray) (w : World) (hT : Tab w) : Calls Tryz.prog 26 #[.int .i64 n, .string a, .string b, .int .i64 way] w (ans3 (recT n way [a, b] (divF n a b)) w) := by
 refine div_W n way _ _ a b _ w (fun pb w1 b1 hl => ?_)
 refine reckon_any n way [a, b] _ _ pb w1 (by simp) (by simp) hl (enter_of Tryz.func68 (by kernel_rfl) rfl) (hT.later b1) (fun k hk hn he hN => ?_)
 subst hn
 unfold divF
 rw [Int.toNat_natCast]
 have hpb := errL_zero he b (by simp)
 obtain ⟨sa, -, -⟩ := op_small hk (errL_zero he a (by simp))
 obtain ⟨sb, -, zb⟩ := op_small hk hpb
 have cb := decC_in hpb
 have nb : noNum (k : Int) b = false := by
  simp only [List.any_cons, List.any_nil, Bool.or_false, Bool.or_eq_false_iff] at hN
  exact hN.2
 have nb' : ¬ (decC (k : Int) b = 4 ∨ decC (k : Int) b = 5) := by
  unfold noNum at nb
  exact of_decide_eq_false nb
 refine ⟨fun h => quot_near hk (over_near sa sb) h, fun g cap w2 b2 h => ?_⟩
 obtain ⟨xo, xc, r0, k0⟩ := h.each 0 a rfl
 obtain ⟨yo, yc, r1, k1⟩ := h.each 1 b rfl
 exact div1_W _ _ _ _ _ _ _ _ _ _ _ _ _ _ _ _ _ _ _ _ _ _ _ _ w2 r0 r1 (fun w3 b3 => dquotient_any k hk way _ _ _ _ _ _ _ _ _ _ w3 (k0.later b3) (k1.later b3) sa sb (fun h1 h3 => zb (by omega)) ((hT.later b1).later (below_trans b2 b3)))
end Go.Proofs.YtnhackdjplppjaaGreatDoor

/-
  The walk of the law NatPrints.
-/
import Derived.Test.YtepcafhlhnlgaaaRef8
namespace Go.Proofs.Ytepcafhlhnlgaaa
open Go.RowKit

set_option maxRecDepth 100000 in
theorem prints_walk (va : Value) (xs : List Nat) (w : World) (ha : Rd w .u32 va xs) (sa : Dg.Small 4294967296 xs) :
    Calls Try.prog 12 #[va] w fun e w' => e = .returned (.bool true) ∧ Below w.heap.size w w' := by
  have h1 := print_nat va xs w ha sa
  unfold prS at h1
  have hck := fun w1 (b : Below w.heap.size w w1) => checkNat_any va xs w1 (ha.later b)
  have hz := fun h : chk xs = 0 => chk_zero h
  have hl16 := fun h : chk xs = 0 => of_len sa h
  obtain ⟨c, hc⟩ : ∃ c, chk xs = c := ⟨_, rfl⟩
  rw [hc] at h1 hz hl16
  simp only [hc] at hck
  have HC : Hid (∀ w1, Below w.heap.size w w1 → Calls Try.prog 21 #[va] w1 fun e w' => e = .returned (.int .i64 c) ∧ w' = w1) := hck
  clear hck hc
  by_cases h : c = 0
  · subst h
    rw [if_pos rfl] at h1
    have hla := (hz rfl).2
    have hl := hl16 rfl
    clear hz hl16
    obtain ⟨S, hS⟩ : ∃ S, decS (Dg.vl 4294967296 xs) = S := ⟨_, rfl⟩
    rw [hS] at h1
    have HS : Hid (decS (Dg.vl 4294967296 xs) = S) := hS
    clear hS
    go_enter Try.func12, Try.ntmps12
    go_wp2_with fail
    refine h1.mono ?_
    rintro e w1 ⟨rfl, b1⟩
    clear h1
    go_wp2_with fail
    refine (HC.out w1 b1).mono ?_
    rintro e w' ⟨rfl, rfl⟩
    go_wp2_with fail
    refine (of_any va xs _ (ha.later b1) sa (by omega)).mono ?_
    rintro e w2 ⟨v1, rfl, r1, b2⟩
    have b12 := below_trans b1 b2
    have hd := decimals_any v1 _ 2400 w2 r1 hl (by omega)
    rw [HS.out] at hd
    go_wp2_with fail
    refine hd.mono ?_
    rintro e w3 ⟨rfl, b3⟩
    have b13 := below_trans b12 b3
    clear hd
    go_wp2_with fail
    refine (begun_any _).mono ?_
    rintro e w5 ⟨rfl, b5⟩
    have b15 := below_trans b13 b5
    go_wp2
    go_ret
    exact ⟨rfl, b15⟩
  · rw [if_neg h] at h1
    clear hz hl16
    go_enter Try.func12, Try.ntmps12
    go_wp2_with fail
    refine h1.mono ?_
    rintro e w1 ⟨rfl, b1⟩
    clear h1
    go_wp2_with fail
    refine (HC.out w1 b1).mono ?_
    rintro e w' ⟨rfl, rfl⟩
    go_wp2_with fail
    refine (begun_any _).mono ?_
    rintro e w5 ⟨rfl, b5⟩
    have b15 := below_trans b1 b5
    go_wp2
    go_ret
    exact ⟨rfl, b15⟩
end Go.Proofs.Ytepcafhlhnlgaaa

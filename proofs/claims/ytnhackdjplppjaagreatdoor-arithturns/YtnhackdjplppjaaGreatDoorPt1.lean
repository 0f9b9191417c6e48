/-
  The law ArithTurns.
-/
import Derived.Test.YtnhackdjplppjaaGreatDoorPa5
set_option maxRecDepth 100000
namespace Go.Proofs.YtnhackdjplppjaaGreatDoor
open Go.RowKit
set_option maxHeartbeats 3200000 in
theorem turns_W (n way n1 n2 n3 e1 e2 e3 : Int) (a b c s1 s2 s3 : ByteArray) (w : World)
  (HB : ∀ w1, Below w.heap.size w w1 → Calls Tryz.prog 20 #[] w1 fun z w' => z = .returned (.bool true) ∧ Below w1.heap.size w1 w')
  (HA : ∀ w1, Below w.heap.size w w1 → Calls Tryz.prog 17 #[.int .i64 n, .string a, .string b, .int .i64 way] w1 fun z w' => z = .returned (.tuple #[.string s1, .int .i64 n1, .int .i64 e1]) ∧ Below w1.heap.size w1 w')
  (HC : ∀ w1, Below w.heap.size w w1 → Calls Tryz.prog 17 #[.int .i64 n, .string b, .string a, .int .i64 way] w1 fun z w' => z = .returned (.tuple #[.string s1, .int .i64 n1, .int .i64 e1]) ∧ Below w1.heap.size w1 w')
  (HD : ∀ w1, Below w.heap.size w w1 → Calls Tryz.prog 24 #[.int .i64 n, .string a, .string b, .int .i64 way] w1 fun z w' => z = .returned (.tuple #[.string s2, .int .i64 n2, .int .i64 e2]) ∧ Below w1.heap.size w1 w')
  (HE : ∀ w1, Below w.heap.size w w1 → Calls Tryz.prog 24 #[.int .i64 n, .string b, .string a, .int .i64 way] w1 fun z w' => z = .returned (.tuple #[.string s2, .int .i64 n2, .int .i64 e2]) ∧ Below w1.heap.size w1 w')
  (HF : ∀ w1, Below w.heap.size w w1 → Calls Tryz.prog 28 #[.int .i64 n, .string a, .string b, .string c, .int .i64 way] w1 fun z w' => z = .returned (.tuple #[.string s3, .int .i64 n3, .int .i64 e3]) ∧ Below w1.heap.size w1 w')
  (HG : ∀ w1, Below w.heap.size w w1 → Calls Tryz.prog 28 #[.int .i64 n, .string b, .string a, .string c, .int .i64 way] w1 fun z w' => z = .returned (.tuple #[.string s3, .int .i64 n3, .int .i64 e3]) ∧ Below w1.heap.size w1 w') :
  Calls Tryz.prog 11 #[.int .i64 n, .string a, .string b, .string c, .int .i64 way] w fun z w' => z = .returned (.bool true) ∧ Below w.heap.size w w' := by
 replace HB : Hid _ := HB
 replace HA : Hid _ := HA
 replace HC : Hid _ := HC
 replace HD : Hid _ := HD
 replace HE : Hid _ := HE
 replace HF : Hid _ := HF
 replace HG : Hid _ := HG
 go_enter Tryz.func11, Tryz.ntmps11
 have b0 := Below.refl w.heap.size w
 go_wp2_with fail
 refine (HB.out _ b0).mono ?_
 rintro zz w1 ⟨rfl, bb2⟩
 have b3 := below_trans b0 bb2
 clear b0 bb2 HB
 go_wp2_with fail
 refine (HA.out _ b3).mono ?_
 rintro zz w4 ⟨rfl, bb5⟩
 have b6 := below_trans b3 bb5
 clear b3 bb5 HA
 go_wp2_with fail
 refine (HC.out _ b6).mono ?_
 rintro zz w7 ⟨rfl, bb8⟩
 have b9 := below_trans b6 bb8
 clear b6 bb8 HC
 go_wp2_with fail
 refine (HD.out _ b9).mono ?_
 rintro zz w10 ⟨rfl, bb11⟩
 have b12 := below_trans b9 bb11
 clear b9 bb11 HD
 go_wp2_with fail
 refine (HE.out _ b12).mono ?_
 rintro zz w13 ⟨rfl, bb14⟩
 have b15 := below_trans b12 bb14
 clear b12 bb14 HE
 go_wp2_with fail
 refine (HF.out _ b15).mono ?_
 rintro zz w16 ⟨rfl, bb17⟩
 have b18 := below_trans b15 bb17
 clear b15 bb17 HF
 go_wp2_with fail
 refine (HG.out _ b18).mono ?_
 rintro zz w19 ⟨rfl, bb20⟩
 have b21 := below_trans b18 bb20
 clear b18 bb20 HG
 go_wp2
 go_ret
 exact ⟨by simp, b21⟩
theorem errL_turn {n : Int} (hf : famC n ≠ 0) (a b : ByteArray) (l : List ByteArray) : errL n (a :: b :: l) = errL n (b :: a :: l) := by
 have h : ∀ x y : Int, (x = 0 ∨ x = 1) → (y = 0 ∨ y = 1) → ∀ z : Int, (if x = 0 then (if y = 0 then z else y) else x) = if y = 0 then (if x = 0 then z else x) else y := fun x y hx hy z => by
  rcases hx with rfl | rfl <;> rcases hy with rfl | rfl <;> simp
 have hp : ∀ p, patC n p = 0 ∨ patC n p = 1 := fun p => by
  by_cases c : patC n p = 0
  ·exact .inl c
  ·exact .inr (patC_one hf c)
 exact h _ _ (hp a) (hp b) (errL n l)
theorem any_turn (f : ByteArray → Bool) (a b : ByteArray) (l : List ByteArray) : (a :: b :: l).any f = (b :: a :: l).any f := by
 simp only [List.any_cons, ← Bool.or_assoc]
 rw [Bool.or_comm (f a)]
theorem rec_turn (n way : Int) (a b : ByteArray) (l : List ByteArray) (f g : Int × Bool × Trip × Int) (h : ∀ k : Nat, 1 ≤ k ∧ k ≤ 8 → n = (k : Int) → errL n (a :: b :: l) = 0 → f = g) : recT n way (a :: b :: l) f = recT n way (b :: a :: l) g := by
 unfold recT
 by_cases hf : famC n = 0
 ·rw [if_pos hf, if_pos hf]
 rw [if_neg hf, if_neg hf, errL_turn hf a b l, any_turn]
 by_cases he : errL n (b :: a :: l) ≠ 0
 ·rw [if_pos he, if_pos he]
 ·rw [if_neg he, if_neg he]
  obtain ⟨k1, k2, k3⟩ := famC_in hf
  rw [h n.toNat ⟨k1, k2⟩ k3.symm (by rw [errL_turn hf]; omega)]
theorem inf_zero {k : Nat} (hk : 1 ≤ k ∧ k ≤ 8) {p : ByteArray} (h : patC (k : Int) p = 0) (c : ((decC (k : Int) p : Nat) : Int) = 3) : opT (k : Int) p = ⟨false, 0, 0⟩ := (op_small hk h).2.1 (by omega)
theorem arithTurns_walk (n : Int) (a b c : ByteArray) (way : Int) (w : World) (hT : Tab w) : Calls Tryz.prog 11 #[.int .i64 n, .string a, .string b, .string c, .int .i64 way] w fun z w' => z = .returned (.bool true) ∧ Below w.heap.size w w' := by
 have ea : recT n way [b, a] (addF n way b a) = recT n way [a, b] (addF n way a b) := rec_turn n way b a [] _ _ (fun k hk hn he => by
  subst hn
  exact sum_turn _ _ _ _ _ _ _ _ (inf_zero hk (errL_zero he b (by simp))) (inf_zero hk (errL_zero he a (by simp))))
 have em : recT n way [b, a] (mulF n b a) = recT n way [a, b] (mulF n a b) := rec_turn n way b a [] _ _ (fun _ _ _ _ => prod_turn _ _ _ _ _ _ _)
 have ef : recT n way [b, a, c] (fusF n way b a c) = recT n way [a, b, c] (fusF n way a b c) := rec_turn n way b a [c] _ _ (fun _ _ _ _ => by
  unfold fusF
  rw [show mulF n b a = mulF n a b from prod_turn _ _ _ _ _ _ _])
 refine turns_W n way _ _ _ _ _ _ a b c _ _ _ w (fun w1 b1 => arithBegun_any w1 (hT.later b1)) (fun w1 b1 => add_any n way a b w1 (hT.later b1)) (fun w1 b1 => ?_) (fun w1 b1 => mul_any n way a b w1 (hT.later b1)) (fun w1 b1 => ?_) (fun w1 b1 => fused_any n way a b c w1 (hT.later b1)) (fun w1 b1 => ?_)
 ·have := add_any n way b a w1 (hT.later b1)
  rw [ea] at this
  exact this
 ·have := mul_any n way b a w1 (hT.later b1)
  rw [em] at this
  exact this
 ·have := fused_any n way b a c w1 (hT.later b1)
  rw [ef] at this
  exact this
end Go.Proofs.YtnhackdjplppjaaGreatDoor

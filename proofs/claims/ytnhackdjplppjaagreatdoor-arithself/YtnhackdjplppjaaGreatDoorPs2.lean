/-
  ArithSelf, paid.
-/
import Derived.Test.YtnhackdjplppjaaGreatDoorPa5
import Derived.Test.YtnhackdjplppjaaGreatDoorPa7
import Derived.Test.YtnhackdjplppjaaGreatDoorPs1
namespace Go.Proofs.YtnhackdjplppjaaGreatDoor
open Go.RowKit
theorem enc_noth {k : Nat} (hk : 1 ≤ k ∧ k ≤ 8) : encE (k : Int) (notC (famC (k : Int))) false [] 0 = 0 := by
 rcases eight hk with rfl | rfl | rfl | rfl | rfl | rfl | rfl | rfl <;> kernel_rfl
theorem enc_nil {k : Nat} (hk : 1 ≤ k ∧ k ≤ 8) (g : Bool) : encE (k : Int) 1 (g && decide (famC (k : Int) = 1)) [] 0 = 0 := by
 cases g <;> rcases eight hk with rfl | rfl | rfl | rfl | rfl | rfl | rfl | rfl <;> kernel_rfl
theorem encT_ok {k : Nat} {c : Int} {g : Bool} {m : Nat} {p fl : Int} (h : encE (k : Int) c g (Dg.dg 4294967296 m) p = 0) : encT k c g m p fl = (encS (k : Int) c g (Dg.dg 4294967296 m) p, fl, 0) := if_pos h
theorem ans_none {k : Nat} (hk : 1 ≤ k ∧ k ≤ 8) (way fl : Int) : ∃ s, ansT k way (notC (famC (k : Int))) false ⟨false, 0, 0⟩ fl = (s, fl, 0) := by
 unfold ansT
 rw [if_neg (show ¬ notC (famC (k : Int)) = 2 from fun h => no_near (k := k) (fl := 0) h)]
 by_cases h1 : notC (famC (k : Int)) = 1
 ·rw [if_pos h1, Bool.false_and]
  have := enc_noth hk
  rw [h1] at this
  exact ⟨_, encT_ok this⟩
 ·rw [if_neg h1]
  exact ⟨_, encT_ok (enc_noth hk)⟩
theorem ans_zero {k : Nat} (hk : 1 ≤ k ∧ k ≤ 8) (way : Int) (g : Bool) (t : Trip) (fl : Int) : ∃ s, ansT k way 1 g t fl = (s, fl, 0) ∧ patC (k : Int) s = 0 ∧ decC (k : Int) s = 1 := by
 unfold ansT
 rw [if_neg (by decide), if_pos rfl]
 have h := enc_nil hk g
 refine ⟨encS (k : Int) 1 (g && decide (famC (k : Int) = 1)) [] 0, encT_ok h, ?_⟩
 obtain ⟨e1, e2, -⟩ := enc_dec hk (Dg.small_nil _ (by omega)) h
 have hf : famC (k : Int) ≠ 0 := by rcases fam_cases hk with h | h | h <;> omega
 have hp : patC (k : Int) (encS (k : Int) 1 (g && decide (famC (k : Int) = 1)) [] 0) = 0 := by
  unfold patC
  rw [if_neg hf, Int.toNat_natCast, if_pos e1]
 refine ⟨hp, ?_⟩
 unfold decC
 rw [if_pos hp, Int.toNat_natCast]
 omega
theorem self_minus (t : Trip) : (plusT t (oppT t)).n = 0 := by
 unfold plusT oppT
 simp only
 rw [if_neg (by cases t.s <;> simp), if_neg (by omega)]
 exact Nat.sub_self _
theorem self_over {t : Trip} (h : t.n ≠ 0) : overT t t 128 = ⟨false, 2 ^ 128 * 2, -129⟩ := by
 have hS : overS t t 128 = 128 := by unfold overS; omega
 unfold overT endlessT
 rw [hS, Nat.mul_mod_right, Nat.mul_div_cancel_left _ (Nat.pos_of_ne_zero h)]
 have : (t.s != t.s) = false := by cases t.s <;> rfl
 rw [this]
 congr 1
 omega
theorem one_place {k : Nat} (hk : 1 ≤ k ∧ k ≤ 8) (way : Int) : encT k (setV k way (plcT k way ⟨false, 2 ^ 128 * 2, -129⟩)).1 (setV k way (plcT k way ⟨false, 2 ^ 128 * 2, -129⟩)).2.1 (setV k way (plcT k way ⟨false, 2 ^ 128 * 2, -129⟩)).2.2.1 (setV k way (plcT k way ⟨false, 2 ^ 128 * 2, -129⟩)).2.2.2.1 (bits .or .i64 0 (setV k way (plcT k way ⟨false, 2 ^ 128 * 2, -129⟩)).2.2.2.2) = (encS (k : Int) 2 false [1] 0, 0, 0) ∧ encE (k : Int) 2 false [1] 0 = 0 := by
 have h : ∃ d p, plcT k way ⟨false, 2 ^ 128 * 2, -129⟩ = ⟨false, d, p, true, false, false⟩ ∧ d ≠ 0 ∧ encE (k : Int) 2 false (Dg.dg 4294967296 d) p = 0 ∧ encS (k : Int) 2 false (Dg.dg 4294967296 d) p = encS (k : Int) 2 false [1] 0 ∧ encE (k : Int) 2 false [1] 0 = 0 := by
  rcases eight hk with rfl | rfl | rfl | rfl | rfl | rfl | rfl | rfl
  ·exact ⟨8388608, -23, by kernel_rfl, by decide, by kernel_rfl, by kernel_rfl, by kernel_rfl⟩
  ·exact ⟨4503599627370496, -52, by kernel_rfl, by decide, by kernel_rfl, by kernel_rfl, by kernel_rfl⟩
  ·exact ⟨9223372036854775808, -63, by kernel_rfl, by decide, by kernel_rfl, by kernel_rfl, by kernel_rfl⟩
  ·exact ⟨1048576, -5, by kernel_rfl, by decide, by kernel_rfl, by kernel_rfl, by kernel_rfl⟩
  ·exact ⟨4503599627370496, -13, by kernel_rfl, by decide, by kernel_rfl, by kernel_rfl, by kernel_rfl⟩
  ·exact ⟨8388608, -23, by kernel_rfl, by decide, by kernel_rfl, by kernel_rfl, by kernel_rfl⟩
  ·exact ⟨36028797018963968, -55, by kernel_rfl, by decide, by kernel_rfl, by kernel_rfl, by kernel_rfl⟩
  ·exact ⟨4503599627370496, -52, by kernel_rfl, by decide, by kernel_rfl, by kernel_rfl, by kernel_rfl⟩
 obtain ⟨d, p, h1, h2, h3, h4, h5⟩ := h
 refine ⟨?_, h5⟩
 rw [h1]
 have hs : setV k way ⟨false, d, p, true, false, false⟩ = (2, false, d, p, 0) := by
  unfold setV
  rw [if_neg (fun c => by cases c), if_neg (fun c => by cases c.1), if_neg h2, if_pos rfl]
 rw [hs]
 show encT k 2 false d p (bits .or .i64 0 0) = _
 rw [encT_ok h3, h4]
 rfl
theorem lawclass_any (n : Int) (s : ByteArray) (w : World) (h : patC n s = 0) : Calls Tryz.prog 41 #[.int .i64 n, .string s] w fun z w' => z = .returned (.int .i64 ((decC n s : Nat) : Int)) ∧ Below w.heap.size w w' :=
 lclass_ok n _ _ s w (fun w1 => by have := class_any n s w1; rw [h] at this; exact this)
theorem oneOf_any (k : Nat) (hk : 1 ≤ k ∧ k ≤ 8) (w : World) (hT : Tab w) : Calls Tryz.prog 42 #[.int .i64 (k : Int)] w fun z w' => z = .returned (.tuple #[.string (encS (k : Int) 2 false [1] 0), .int .i64 0]) ∧ Below w.heap.size w w' :=
 oneOf_W (k : Int) 0 _ w (fun q w1 b hl => by
  have := encode_any (k : Int) 2 false (some ⟨q, 0, none⟩) 1 [1] 0 w1 (rd_one (hl.cell 0 rfl)) (Dg.small_cons.2 ⟨by omega, Dg.small_nil _ (by omega)⟩) (hT.later b)
  rw [(one_place hk 1).2] at this
  exact this)
theorem arithSelf_walk (n : Int) (a : ByteArray) (way : Int) (w : World) (hT : Tab w) : Calls Tryz.prog 12 #[.int .i64 n, .string a, .int .i64 way] w fun z w' => z = .returned (.bool true) ∧ Below w.heap.size w w' := by
 have HB := fun w1 (b : Below w.heap.size w w1) => arithBegun_any w1 (hT.later b)
 have HS := fun w1 (b : Below w.heap.size w w1) => sub_any n way a a w1 (hT.later b)
 have HD := fun w1 (b : Below w.heap.size w w1) => div_any n way a a w1 (hT.later b)
 unfold recT at HS HD
 by_cases hf : famC n = 0
 ·simp only [if_pos hf] at HS
  exact self_err6 _ _ n way a w HB HS
 simp only [if_neg hf] at HS HD
 obtain ⟨k1, k2, k3⟩ := famC_in hf
 obtain ⟨k, rfl⟩ : ∃ k : Nat, n = (k : Int) := ⟨n.toNat, k3.symm⟩
 rw [Int.toNat_natCast] at k1 k2
 have hk : 1 ≤ k ∧ k ≤ 8 := ⟨k1, k2⟩
 by_cases he : errL (k : Int) [a, a] ≠ 0
 ·simp only [errL_one hf [a, a] he] at HS
  exact self_err1 _ _ (k : Int) way a w HB HS
 simp only [if_neg he] at HS HD
 have he' : errL (k : Int) [a, a] = 0 := by omega
 have hp := errL_zero he' a (by simp)
 have HC := fun w1 (_ : Below w.heap.size w w1) => lawclass_any (k : Int) a w1 hp
 have hc := decC_in hp
 by_cases hw : way < 1 ∨ 5 < way
 ·simp only [if_pos hw] at HS
  exact self_err6 _ _ (k : Int) way a w HB HS
 simp only [if_neg hw, Int.toNat_natCast] at HS HD
 by_cases hN : [a, a].any (noNum (k : Int)) = true
 ·simp only [if_pos hN] at HS
  obtain ⟨s, hs⟩ := ans_none hk way (if famC (k : Int) = 1 then 0 else 16)
  simp only [hs] at HS
  have h4 : 2 < ((decC (k : Int) a : Nat) : Int) := by
   have : noNum (k : Int) a = true := by simpa using hN
   unfold noNum at this
   have := of_decide_eq_true this
   omega
  exact self_off _ _ _ (k : Int) way a w h4 HB HS HC
 simp only [if_neg hN] at HS HD
 have h3 : decC (k : Int) a ≤ 3 := by
  have h5 : noNum (k : Int) a = false := by simpa using hN
  unfold noNum at h5
  have := of_decide_eq_false h5
  omega
 unfold subF at HS
 unfold divF at HD
 simp only [Int.toNat_natCast] at HS HD
 by_cases c3 : decC (k : Int) a = 3
 ·have e : sumV k way ((decC (k : Int) a : Nat) : Int) (decG (k : Int) a) (opT (k : Int) a) ((decC (k : Int) a : Nat) : Int) (!decG (k : Int) a) (oppT (opT (k : Int) a)) = noV k 16 := sumV_no ⟨by omega, by omega, by cases decG (k : Int) a <;> simp⟩
  simp only [e] at HS
  obtain ⟨s, hs⟩ := ans_none hk way 16
  have hs' : ansT k way (noV k 16).1 (noV k 16).2.1 (noV k 16).2.2.1 (noV k 16).2.2.2 = (s, 16, 0) := hs
  simp only [hs'] at HS
  exact self_off _ _ _ (k : Int) way a w (by omega) HB HS HC
 have e := sumV_n (k := k) (wy := way) (cx := ((decC (k : Int) a : Nat) : Int)) (cy := ((decC (k : Int) a : Nat) : Int)) (gx := decG (k : Int) a) (gy := !decG (k : Int) a) (x := opT (k : Int) a) (y := oppT (opT (k : Int) a)) (by omega) (by omega)
 simp only [e] at HS
 have z := self_minus (opT (k : Int) a)
 obtain ⟨s, s1, s2, s3⟩ := ans_zero hk way (if decG (k : Int) a = !decG (k : Int) a then decG (k : Int) a else decide (way = 5)) ⟨false, 0, 0⟩ 0
 have hs' : ∀ sg, sg = (if decG (k : Int) a = !decG (k : Int) a then decG (k : Int) a else decide (way = 5)) → ansT k way (numV (plusT (opT (k : Int) a) (oppT (opT (k : Int) a))) sg).1 (numV (plusT (opT (k : Int) a) (oppT (opT (k : Int) a))) sg).2.1 (numV (plusT (opT (k : Int) a) (oppT (opT (k : Int) a))) sg).2.2.1 (numV (plusT (opT (k : Int) a) (oppT (opT (k : Int) a))) sg).2.2.2 = (s, 0, 0) := fun sg hsg => by
  unfold numV numC numG numT
  simp only [if_pos z]
  rw [hsg]
  exact s1
 simp only [hs' _ rfl] at HS
 have HK := fun w1 (_ : Below w.heap.size w w1) => lawclass_any (k : Int) s w1 s2
 rw [s3] at HK
 have HO := fun w1 (b : Below w.heap.size w w1) => oneOf_any k hk w1 (hT.later b)
 by_cases c1 : decC (k : Int) a = 1
 ·have e2 : quotV k ((decC (k : Int) a : Nat) : Int) (decG (k : Int) a) (opT (k : Int) a) ((decC (k : Int) a : Nat) : Int) (decG (k : Int) a) (opT (k : Int) a) = noV k 16 := if_pos (.inr ⟨by omega, by omega⟩)
  simp only [e2] at HD
  obtain ⟨q, hq⟩ := ans_none hk way 16
  have hq' : ansT k way (noV k 16).1 (noV k 16).2.1 (noV k 16).2.2.1 (noV k 16).2.2.2 = (q, 16, 0) := hq
  simp only [hq'] at HD
  rw [c1] at HC
  exact self_zero s q _ (k : Int) way a w HB HS HC HK HD HO
 ·have c2 : decC (k : Int) a = 2 := by omega
  have h0 := (op_small hk hp).2.2 c2
  have e2 : quotV k ((decC (k : Int) a : Nat) : Int) (decG (k : Int) a) (opT (k : Int) a) ((decC (k : Int) a : Nat) : Int) (decG (k : Int) a) (opT (k : Int) a) = numV (overT (opT (k : Int) a) (opT (k : Int) a) 128) (decG (k : Int) a != decG (k : Int) a) := by
   unfold quotV
   rw [if_neg (by omega), if_neg (by omega), if_neg (by omega), if_neg (by omega)]
  rw [self_over h0] at e2
  have e3 : numV ⟨false, 2 ^ 128 * 2, -129⟩ (decG (k : Int) a != decG (k : Int) a) = (2, false, ⟨false, 2 ^ 128 * 2, -129⟩, 0) := by
   unfold numV numC numG numT
   simp only [if_neg (show ¬ (2 ^ 128 * 2 : Nat) = 0 by decide)]
  simp only [e2, e3] at HD
  have hq : ansT k way 2 false ⟨false, 2 ^ 128 * 2, -129⟩ 0 = (encS (k : Int) 2 false [1] 0, 0, 0) := by
   unfold ansT
   rw [if_pos rfl]
   exact (one_place hk way).1
  simp only [hq] at HD
  rw [c2] at HC
  exact self_num s _ (k : Int) way a w HB HS HC HK HD HO
end Go.Proofs.YtnhackdjplppjaaGreatDoor

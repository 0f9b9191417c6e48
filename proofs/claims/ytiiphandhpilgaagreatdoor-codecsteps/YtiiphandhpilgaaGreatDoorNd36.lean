/-
  Texts laid together: Cr2, Cr3, Ce3, Ce4, Ce9, Co23, Cr4, Cr10, Cr5, Cr9.
-/
import Derived.Test.YtiiphandhpilgaaGreatDoorNd35
import Derived.Test.YtiiphandhpilgaaGreatDoorNd18
import Derived.Test.YtiiphandhpilgaaGreatDoorNd28
set_option maxRecDepth 100000
namespace Go.Proofs.YtiiphandhpilgaaGreatDoor
open Go.RowKit
def OwnB (w : World) (base : Nat) (v : Value) (bs : List Bool) : Prop := w.ownsRow base 4 1 v bs.length (bs.map Value.bool)
theorem Tryz.infoB : (Tryz.prog.info? 4).map (fun i => (i.zero, i.size, i.bytes)) = some (some (.bool false), 1, 1) := by kernel_rfl
theorem OwnB.later {w w' : World} {base : Nat} {v : Value} {bs : List Bool} (h : OwnB w base v bs) (hb : Below w.heap.size w w') : OwnB w' base v bs := by
 obtain ⟨hl, h2⟩ := h
 refine ⟨hl, ?_⟩
 rcases h2 with h2 | ⟨g, cap, cur, hv, hbg, hh, r⟩
 ·exact .inl h2
 ·refine .inr ⟨g, cap, cur, hv, hbg, ?_, r⟩
  rw [hb.block g ?_]
  ·exact hh
  ·rw [Array.getElem?_eq_some_iff] at hh
   exact hh.1
end Go.Proofs.YtiiphandhpilgaaGreatDoor
namespace Go.Proofs.YtiiphandhpilgaaGreatDoor
open Go.RowKit
def valB (bf : Nat → Bool) : Nat → Nat
 | 0 => 0
 | n + 1 => valB bf n * 2 + if bf n then 1 else 0
theorem valB_lt (bf : Nat → Bool) : ∀ n, valB bf n < 2 ^ n
 | 0 => by simp [valB]
 | n + 1 => by
  have := valB_lt bf n
  rw [valB, Nat.pow_succ]
  split <;> omega
end Go.Proofs.YtiiphandhpilgaaGreatDoor
namespace Go.Proofs.YtiiphandhpilgaaGreatDoor
open Go.RowKit
def byL (bf : Nat → Bool) (n : Nat) : List Nat := (List.range n).map fun i => valB (fun j => bf (8 * i + j)) 8
theorem byL_len (bf : Nat → Bool) (n : Nat) : (byL bf n).length = n := by simp [byL]
theorem byL_at (bf : Nat → Bool) (n i : Nat) (h : i < n) : (byL bf n).getD i 0 = valB (fun j => bf (8 * i + j)) 8 := by
 simp [byL, List.getD_eq_getElem?_getD, h]
theorem plN_twice {k i : Nat} (hk : 1 ≤ k ∧ k ≤ 8) (hi : i < szN k) : plN k (plN k i) = i := by
 obtain ⟨m, hm⟩ := (sizes_fit hk).2.2.2.2.1
 unfold plN
 by_cases h3 : k = 3
 ·rw [if_pos h3, if_pos h3]
  omega
 ·rw [if_neg h3, if_neg h3]
  by_cases h6 : 6 ≤ k
  ·rw [if_pos h6, if_pos h6]
   omega
  ·rw [if_neg h6, if_neg h6]
end Go.Proofs.YtiiphandhpilgaaGreatDoor
namespace Go.Proofs.YtiiphandhpilgaaGreatDoor
open Go.RowKit
theorem bitB_test (zs : List Nat) (i : Nat) : bitB zs i = ((zs.getD (i / 8) 0).testBit (7 - i % 8)).toNat := by
 unfold bitB
 rw [Nat.testBit_eq_decide_div_mod_eq]
 have h := Nat.mod_lt (zs.getD (i / 8) 0 / 2 ^ (7 - i % 8)) (show 0 < 2 by omega)
 rcases (show zs.getD (i / 8) 0 / 2 ^ (7 - i % 8) % 2 = 0 ∨ zs.getD (i / 8) 0 / 2 ^ (7 - i % 8) % 2 = 1 by omega) with e | e <;> rw [e] <;> rfl
theorem testBit_put (y b t u : Nat) (hb : b < 2) : (y ||| b * 2 ^ t).testBit u = (y.testBit u || (decide (b = 1) && decide (t = u))) := by
 rw [Nat.testBit_or]
 rcases (show b = 0 ∨ b = 1 by omega) with rfl | rfl
 ·simp
 ·rw [Nat.one_mul, Nat.testBit_two_pow]
  simp
theorem bitB_put (zs : List Nat) (p b i : Nat) (hb : b < 2) (hp : p / 8 < zs.length) : bitB (zs.set (p / 8) (zs.getD (p / 8) 0 ||| b * 2 ^ (7 - p % 8))) i = if i = p then (if b = 1 then 1 else bitB zs i) else bitB zs i := by
 rw [bitB_test, bitB_test, Dg.getD_set _ _ _ _ hp]
 by_cases h8 : p / 8 = i / 8
 ·rw [if_pos h8, testBit_put _ _ _ _ hb, h8]
  by_cases hi : i = p
  ·subst hi
   rw [if_pos rfl]
   rcases (show b = 0 ∨ b = 1 by omega) with rfl | rfl
   ·simp
   ·simp
  ·rw [if_neg hi, decide_eq_false (show ¬ 7 - p % 8 = 7 - i % 8 by omega)]
   simp
 ·rw [if_neg h8, if_neg (show ¬ i = p from fun e => h8 (by rw [e]))]
theorem bitB_setB (f : Nat) : ∀ (c x : Nat) (zs : List Nat) (i : Nat), f + c ≤ 8 * zs.length → bitB (setB f c x zs) i = if f ≤ i ∧ i < f + c then (if x / 2 ^ (f + c - 1 - i) % 2 = 1 then 1 else bitB zs i) else bitB zs i
 | 0, x, zs, i, _ => by
  rw [setB, if_neg (by omega)]
 | c + 1, x, zs, i, h => by
  rw [setB, bitB_setB f c (x / 2) _ i (by rw [List.length_set]; omega), bitB_put _ _ _ _ (Nat.mod_lt _ (by omega)) (by omega)]
  by_cases h1 : f ≤ i ∧ i < f + c
  ·rw [if_pos h1, if_pos (show f ≤ i ∧ i < f + (c + 1) by omega), if_neg (show ¬ i = f + c by omega), Nat.div_div_eq_div_mul, ← Nat.pow_succ', show (f + c - 1 - i).succ = f + (c + 1) - 1 - i from by omega]
  ·rw [if_neg h1]
   by_cases h2 : i = f + c
   ·rw [if_pos h2, if_pos (show f ≤ i ∧ i < f + (c + 1) by omega), show f + (c + 1) - 1 - i = 0 from by omega, Nat.pow_zero, Nat.div_one]
   ·rw [if_neg h2, if_neg (show ¬ (f ≤ i ∧ i < f + (c + 1)) by omega)]
theorem byte_bits (y : Nat) (h : y < 256) : valB (fun j => decide (y / 2 ^ (7 - j) % 2 = 1)) 8 = y := by
 have e : ∀ n, (if decide (n % 2 = 1) = true then 1 else 0) = n % 2 := fun n => by
  rcases (show n % 2 = 0 ∨ n % 2 = 1 by omega) with h | h <;> rw [h] <;> rfl
 simp only [valB, e]
 omega
theorem valB_congr {f g : Nat → Bool} : ∀ n, (∀ j, j < n → f j = g j) → valB f n = valB g n
 | 0, _ => rfl
 | n + 1, h => by
  rw [valB, valB, valB_congr n (fun j hj => h j (by omega)), h n (by omega)]
theorem bytes_bits (zs : List Nat) (hs : Dg.Small 256 zs) : zs = byL (fun i => decide (bitB zs i = 1)) zs.length := by
 apply List.ext_getElem (by rw [byL_len])
 intro p hp1 hp2
 have e1 : zs.getD p 0 = zs[p] := by simp [List.getD_eq_getElem?_getD, hp1]
 have e2 : (byL (fun i => decide (bitB zs i = 1)) zs.length).getD p 0 = (byL (fun i => decide (bitB zs i = 1)) zs.length)[p] := by simp only [List.getD_eq_getElem?_getD, List.getElem?_eq_getElem hp2, Option.getD_some]
 rw [← e1, ← e2, byL_at _ _ _ hp1]
 refine (byte_bits (zs.getD p 0) (hs p)).symm.trans (valB_congr 8 (fun j hj => ?_))
 unfold bitB
 rw [show (8 * p + j) / 8 = p from by omega, show (8 * p + j) % 8 = j from by omega]
theorem byL_congr {f g : Nat → Bool} (n : Nat) (h : ∀ i, i < 8 * n → f i = g i) : byL f n = byL g n := by
 unfold byL
 apply List.map_congr_left
 intro i hi
 have := List.mem_range.1 hi
 exact valB_congr 8 (fun j hj => h _ (by omega))
theorem bitB_zeros (n i : Nat) : bitB (List.replicate n 0) i = 0 := by
 unfold bitB
 have : (List.replicate n 0).getD (i / 8) 0 = 0 := by
  by_cases h : i / 8 < n
  ·simp [List.getD_eq_getElem?_getD, h]
  ·simp [List.getD_eq_getElem?_getD, h]
 rw [this]
 simp
def patF (ex fr : Nat) (ng : Bool) (e f : Nat) (i : Nat) : Bool :=
 if i = 0 then ng else if i ≤ ex then decide (e / 2 ^ (ex - i) % 2 = 1) else decide (f / 2 ^ (ex + fr - i) % 2 = 1)
theorem wrtB_bits {k : Nat} (hk : 1 ≤ k ∧ k ≤ 8) (ng : Bool) (e f : Nat) : wrtB k ng e f = turnB k (byL (patF (exN k) (frN k) ng e f) (szN k)) := by
 obtain ⟨h1, h2, h3, h4, -, h7⟩ := sizes_fit hk
 unfold wrtB
 congr 1
 have sm0 : Dg.Small 256 (List.replicate (szN k) 0) := by
  intro i
  by_cases hi : i < szN k
  ·simp [List.getD_eq_getElem?_getD, hi]
  ·simp [List.getD_eq_getElem?_getD, hi]
 have key : ∀ zs : List Nat, zs.length = szN k → Dg.Small 256 zs → (∀ i, bitB zs i = if i = 0 ∧ ng = true then 1 else 0) → setB (1 + exN k) (frN k) f (setB 1 (exN k) e zs) = byL (patF (exN k) (frN k) ng e f) (szN k) := fun zs hl hs hb => by
  have hl2 : (setB (1 + exN k) (frN k) f (setB 1 (exN k) e zs)).length = szN k := by rw [setB_len, setB_len, hl]
  rw [bytes_bits _ (setB_small _ _ _ _ (setB_small _ _ _ _ hs)), hl2]
  refine byL_congr _ (fun i hi => ?_)
  rw [bitB_setB _ _ _ _ _ (by rw [setB_len]; omega), bitB_setB _ _ _ _ _ (by omega), hb i]
  unfold patF
  by_cases h0 : i = 0
  ·subst h0
   rw [if_neg (by omega), if_neg (by omega), if_pos rfl]
   cases ng <;> rfl
  ·rw [if_neg h0]
   have hz : (if i = 0 ∧ ng = true then 1 else 0) = 0 := if_neg (fun h => h0 h.1)
   rw [hz]
   by_cases hx : i ≤ exN k
   ·rw [if_pos hx, if_neg (by omega), if_pos (show 1 ≤ i ∧ i < 1 + exN k by omega), show 1 + exN k - 1 - i = exN k - i from by omega]
    split
    ·rename_i h; rw [h]
    ·rename_i h; rw [decide_eq_false h]; rfl
   ·rw [if_neg hx, if_pos (show 1 + exN k ≤ i ∧ i < 1 + exN k + frN k by omega), if_neg (show ¬ (1 ≤ i ∧ i < 1 + exN k) by omega), show 1 + exN k + frN k - 1 - i = exN k + frN k - i from by omega]
    split
    ·rename_i h; rw [h]
    ·rename_i h; rw [decide_eq_false h]; rfl
 cases ng
 ·rw [if_neg (by simp)]
  exact key _ List.length_replicate sm0 (fun i => by rw [bitB_zeros]; simp)
 ·rw [if_pos rfl]
  refine key _ (by rw [setB_len]; exact List.length_replicate) (setB_small _ _ _ _ sm0) (fun i => ?_)
  rw [bitB_setB _ _ _ _ _ (by rw [List.length_replicate]; omega), bitB_zeros]
  by_cases h0 : i = 0
  ·subst h0
   rfl
  ·rw [if_neg (by omega), if_neg (fun h => h0 h.1)]
end Go.Proofs.YtiiphandhpilgaaGreatDoor
namespace Go.Proofs.YtiiphandhpilgaaGreatDoor
open Go.RowKit
theorem turnB_twice {k : Nat} (hk : 1 ≤ k ∧ k ≤ 8) (zs : List Nat) (hl : zs.length = szN k) : turnB k (turnB k zs) = zs := by
 apply List.ext_getElem (by rw [turnB_len, turnB_len])
 intro p hp1 hp2
 have e1 : (turnB k (turnB k zs)).getD p 0 = (turnB k (turnB k zs))[p] := by simp only [List.getD_eq_getElem?_getD, List.getElem?_eq_getElem hp1, Option.getD_some]
 have e2 : zs.getD p 0 = zs[p] := by simp only [List.getD_eq_getElem?_getD, List.getElem?_eq_getElem hp2, Option.getD_some]
 have hp : p < szN k := by omega
 rw [← e1, ← e2, plN_at k _ p (by rw [turnB_len]; exact hl) (by rw [turnB_len]; exact hp2), plN_at k zs _ hl (by rw [hl]; exact plN_lt hk hp), plN_twice hk hp]
theorem bytesOf_strOf (zs : List Nat) (hs : Dg.Small 256 zs) : bytesOf (strOf zs) = zs := by
 unfold bytesOf strOf
 apply List.ext_getElem (by simp)
 intro p hp1 hp2
 have h := hs p
 rw [List.getD_eq_getElem?_getD, List.getElem?_eq_getElem hp2, Option.getD_some] at h
 simp
 exact h
theorem valB_bit (bf : Nat → Bool) : ∀ n r, r < n → valB bf n / 2 ^ (n - 1 - r) % 2 = if bf r then 1 else 0
 | 0, _, h => absurd h (Nat.not_lt_zero _)
 | n + 1, r, h => by
  rw [valB]
  by_cases e : r = n
  ·subst e
   rw [show r + 1 - 1 - r = 0 from by omega, Nat.pow_zero, Nat.div_one]
   split <;> omega
  ·have ih := valB_bit bf n r (by omega)
   rw [show n + 1 - 1 - r = (n - 1 - r) + 1 from by omega, Nat.pow_succ, Nat.mul_comm (2 ^ (n - 1 - r)) 2, ← Nat.div_div_eq_div_mul]
   rw [show (valB bf n * 2 + if bf n = true then 1 else 0) / 2 = valB bf n from by split <;> omega]
   exact ih
theorem bitB_byL (bf : Nat → Bool) (n i : Nat) (h : i < 8 * n) : bitB (byL bf n) i = if bf i then 1 else 0 := by
 unfold bitB
 rw [byL_at bf n _ (by omega)]
 have := valB_bit (fun j => bf (8 * (i / 8) + j)) 8 (i % 8) (by omega)
 rw [show 8 - 1 - i % 8 = 7 - i % 8 from by omega, show 8 * (i / 8) + i % 8 = i from by omega] at this
 exact this
theorem bitsV_byL (bf : Nat → Bool) (m f : Nat) : ∀ n, f + n ≤ 8 * m → bitsV (byL bf m) f n = valB (fun j => bf (f + j)) n
 | 0, _ => rfl
 | n + 1, h => by
  rw [bitsV, valB, bitsV_byL bf m f n (by omega), bitB_byL bf m (f + n) (by omega)]
  omega
theorem valB_num : ∀ (n e : Nat), valB (fun j => decide (e / 2 ^ (n - 1 - j) % 2 = 1)) n = e % 2 ^ n
 | 0, e => by simp [valB, Nat.mod_one]
 | n + 1, e => by
  rw [valB, valB_congr (g := fun j => decide (e / 2 / 2 ^ (n - 1 - j) % 2 = 1)) n (fun j hj => by
   rw [Nat.div_div_eq_div_mul, ← Nat.pow_succ', show (n - 1 - j).succ = n + 1 - 1 - j from by omega]), valB_num n (e / 2), show n + 1 - 1 - n = 0 from by omega, Nat.pow_zero, Nat.div_one, Nat.pow_succ]
  have h1 : e % (2 ^ n * 2) = e / 2 % 2 ^ n * 2 + e % 2 := by
   rw [Nat.mul_comm (2 ^ n) 2, Nat.mod_mul]
   omega
  rw [h1]
  rcases (show e % 2 = 0 ∨ e % 2 = 1 by omega) with h | h <;> rw [h] <;> rfl
theorem byL_small (bf : Nat → Bool) (n : Nat) : Dg.Small 256 (byL bf n) := by
 intro i
 by_cases h : i < n
 ·rw [byL_at bf n i h]
  exact valB_lt _ 8
 ·rw [List.getD_eq_getElem?_getD, List.getElem?_eq_none (by rw [byL_len]; omega)]
  simp
theorem fldB_written {k : Nat} (hk : 1 ≤ k ∧ k ≤ 8) (ng : Bool) (e f : Nat) : fldB k (strOf (wrtB k ng e f)) = byL (patF (exN k) (frN k) ng e f) (szN k) := by
 unfold fldB
 rw [wrtB_bits hk, bytesOf_strOf _ (turnB_small k _ (byL_small _ _)), turnB_twice hk _ (byL_len _ _)]
theorem strOf_size (zs : List Nat) : (strOf zs).size = zs.length := by
 unfold strOf
 show (zs.map (fun n => UInt8.ofNat n)).toArray.size = _
 simp
theorem fields_written {k : Nat} (hk : 1 ≤ k ∧ k ≤ 8) (ng : Bool) (e f : Nat) :
  fldN k (strOf (wrtB k ng e f)) = ng ∧ fldE k (strOf (wrtB k ng e f)) = e % 2 ^ exN k ∧ fldF k (strOf (wrtB k ng e f)) = f % 2 ^ frN k ∧ (strOf (wrtB k ng e f)).size = szN k := by
 obtain ⟨h1, h2, h3, h4, -, h7⟩ := sizes_fit hk
 unfold fldN fldE fldF
 rw [fldB_written hk]
 refine ⟨?_, ?_, ?_, ?_⟩
 ·rw [bitsV_byL _ _ _ _ (by omega)]
  simp only [valB, patF]
  cases ng <;> simp
 ·rw [bitsV_byL _ _ _ _ (by omega), ← valB_num (exN k) e]
  refine valB_congr _ (fun j hj => ?_)
  unfold patF
  rw [if_neg (by omega), if_pos (show 1 + j ≤ exN k by omega), show exN k - (1 + j) = exN k - 1 - j from by omega]
 ·rw [bitsV_byL _ _ _ _ (by omega), ← valB_num (frN k) f]
  refine valB_congr _ (fun j hj => ?_)
  unfold patF
  rw [if_neg (by omega), if_neg (show ¬ 1 + exN k + j ≤ exN k by omega), show exN k + frN k - (1 + exN k + j) = frN k - 1 - j from by omega]
 ·rw [strOf_size, wrtB_len]
end Go.Proofs.YtiiphandhpilgaaGreatDoor
namespace Go.Proofs.YtiiphandhpilgaaGreatDoor
open Go.RowKit
def patA : ByteArray := strOf [64, 64, 0, 0]
def patB : ByteArray := strOf [0, 128, 0, 0]
theorem patA_ok : patC 1 patA = 0 ∧ decC 1 patA = 2 ∧ decG 1 patA = false ∧ decM 1 patA = 3 ∧ decP 1 patA = 0 := by
 refine ⟨?_, ?_, ?_, ?_, ?_⟩ <;> kernel_rfl
theorem patB_ok : encOE 6 5 0 0 false 0 = 0 ∧ encOS 6 5 0 0 false 0 = patB := by
 refine ⟨?_, ?_⟩ <;> kernel_rfl
theorem dg3 : Dg.dg 4294967296 3 = [3] := by
 have := Dg.dg_vl 4294967296 (by omega) [3] (fun i => by
  match i with
  | 0 => decide
  | i + 1 => simp) (fun _ => by simp)
 simpa [Dg.vl] using this
theorem made_run {P : Program} (W : World) (e src dst : TypeId) (zs : List Nat) (hs : P.underlying src = some (.slice e)) (he : P.underlying e = some (.int .u8)) (hd : P.underlying dst = some .string) (hm : zs.length ≤ maxLen) :
  (convert src dst (.slice (some ⟨W.heap.size, 0, none⟩) zs.length zs.length)).run P (W.alloc (.cells (zs.map (fun n : Nat => Value.int .u8 (n : Int))).toArray e)) = .ok (.string (strOf zs)) (W.alloc (.cells (zs.map (fun n : Nat => Value.int .u8 (n : Int))).toArray e)) :=
 convert_bytes src dst hs he hd (own_of_heap (base := W.heap.size) (heap_alloc_new _ _) (Nat.le_refl _) hm)
set_option maxHeartbeats 6400000 in
theorem codecBegun_any (w : World) : Calls Tryz.prog 9 #[] w fun z w' => z = .returned (.bool true) ∧ Below w.heap.size w w' := by
 have hcA : ∀ W : World, (convert 77 9 (.slice (some ⟨W.heap.size, 0, none⟩) 4 4)).run Tryz.prog (W.alloc (.cells #[.int .u8 64, .int .u8 64, .int .u8 0, .int .u8 0] 5)) = .ok (.string patA) (W.alloc (.cells #[.int .u8 64, .int .u8 64, .int .u8 0, .int .u8 0] 5)) := fun W => made_run W 5 77 9 [64, 64, 0, 0] Tryz.underlying77 Tryz.underlying5 Tryz.underlying9 (by unfold maxLen; simp)
 have hcB : ∀ W : World, (convert 77 9 (.slice (some ⟨W.heap.size, 0, none⟩) 4 4)).run Tryz.prog (W.alloc (.cells #[.int .u8 0, .int .u8 128, .int .u8 0, .int .u8 0] 5)) = .ok (.string patB) (W.alloc (.cells #[.int .u8 0, .int .u8 128, .int .u8 0, .int .u8 0] 5)) := fun W => made_run W 5 77 9 [0, 128, 0, 0] Tryz.underlying77 Tryz.underlying5 Tryz.underlying9 (by unfold maxLen; simp)
 have HD : Hid (∀ w1, Calls Tryz.prog 17 #[.int .i64 1, .string patA] w1 (DecRes w1 2 false 3 0 0)) := fun w1 => by
  have := decode_any 1 patA w1
  obtain ⟨h1, h2, h3, h4, h5⟩ := patA_ok
  rw [h1, h2, h3, h4, h5] at this
  exact this
 have HE : Hid (∀ w1, Calls Tryz.prog 6 #[.int .i64 6, .agg #[.int .i64 5, .bool false, .slice none 0 0, .int .i64 0]] w1 fun z w' => z = .returned (.tuple #[.string patB, .int .i64 0]) ∧ Below w1.heap.size w1 w') := fun w1 => by
  have := encode_other 6 5 (by omega) false none 0 0 0 0 w1 (fun w2 _ => (check_any _ [] w2 (rd_nil _ _)).mono (fun _ _ h => ⟨h.1, by rw [h.2]; exact Below.refl _ _⟩))
  rw [patB_ok.1, patB_ok.2] at this
  exact this
 generalize patA = pA at *
 generalize patB = pB at *
 have b1 := below_alloc w (.cells #[.int .u8 64, .int .u8 64, .int .u8 0, .int .u8 0] 5)
 go_enter Tryz.func9, Tryz.ntmps9
 go_wp2_with fail
 refine (HD.out _).mono ?_
 rintro z w2 ⟨v, rfl, r2, b2⟩
 rw [dg3] at r2
 obtain ⟨vo, vc, hv⟩ := r2.shape
 subst hv
 have b3 := below_alloc w2 (.cells #[.int .i64 2, .bool false, .slice vo 1 vc, .int .i64 0] 25)
 have q3 := locE_new w2 [.int .i64 2, .bool false, .slice vo 1 vc, .int .i64 0] 25
 have b03 := below_trans (below_trans b1 b2) b3
 have r3 := r2.later b3
 go_wp2_with fail
 refine (HE.out _).mono ?_
 rintro z w4 ⟨rfl, b4⟩
 have q4 := q3.later b4
 have r4 := r3.later b4
 have b04 := below_trans b03 b4
 obtain ⟨x0, x1, x2, x3⟩ := q4.cs4
 have b5 := below_alloc w4 (.cells #[.int .u32 3] 79)
 have own5 : Own (w4.alloc (.cells #[.int .u32 3] 79)) w4.heap.size 79 .u32 (.slice (some ⟨w4.heap.size, 0, none⟩) 1 1) [3] := own_of_heap (zs := [3]) (heap_alloc_new _ _) (Nat.le_refl _) (by unfold maxLen; simp)
 have hsn := same_any _ _ _ [3] (w4.alloc (.cells #[.int .u32 3] 79)) (r4.later b5) own5.rd
 have HN : Hid _ := hsn
 have b05 := below_trans b04 b5
 have hx0 := World.new_ne w4 _ x0
 clear b1 b2 b3 b03 r2 r3 q3 HD HE hsn r4 b4 b04 own5
 go_wp2_with fail
 refine Calls.mono HN.out ?_
 rintro z w6 ⟨rfl, b6⟩
 have y3 := (q4.later b5).later b6 |>.cell 3 rfl
 have b06 := below_trans b05 b6
 go_wp2
 go_ret
 exact ⟨rfl, below_trans b06 (below_alloc _ _)⟩
end Go.Proofs.YtiiphandhpilgaaGreatDoor
namespace Go.Proofs.YtiiphandhpilgaaGreatDoor
open Go.RowKit
def wdI (R : Int) : Int := if R = 16 then 4 else 1
structure NumF (w : World) (bn bf : Nat) (ng : Bool) (fv : List Value) (v : Value) (m : Nat) (w' : World) : Prop where
 q : LocE w' w.heap.size 33 [.int .i64 0, .bool false, .bool false, .slice none 0 0, .int .i64 0]
 f : LocE w' bf 44 fv
 n : w'.cell? ⟨bn, 0, none⟩ = some (.bool ng)
 b : Below w.heap.size w w'
 r : Rd w' .i64 v (Dg.dg 65536 m)
theorem NumF.later {w w1 w2 : World} {bn bf : Nat} {ng : Bool} {fv : List Value} {v : Value} {m : Nat} (h : NumF w bn bf ng fv v m w1) (b : Below w1.heap.size w1 w2) : NumF w bn bf ng fv v m w2 :=
 ⟨h.q.later b, h.f.later b, cell_later b h.n, below_trans h.b b, h.r.later b⟩
end Go.Proofs.YtiiphandhpilgaaGreatDoor
namespace Go.Proofs.YtiiphandhpilgaaGreatDoor
open Go.RowKit
set_option maxHeartbeats 3200000 in
theorem sameValue_true (c p : Int) (g : Bool) (ao bo : Option Addr) (zs : List Nat) (ca cb : Nat) (w : World) (ha : Rd w .u32 (.slice ao zs.length ca) zs) (hb : Rd w .u32 (.slice bo zs.length cb) zs) :
  Calls Tryz.prog 19 #[.agg #[.int .i64 c, .bool g, .slice ao zs.length ca, .int .i64 p], .agg #[.int .i64 c, .bool g, .slice bo zs.length cb, .int .i64 p]] w fun z w' => z = .returned (.bool true) ∧ Below w.heap.size w w' := by
 have b0 := below_trans (below_alloc w (.cells #[.int .i64 c, .bool g, .slice ao zs.length ca, .int .i64 p] 25)) (below_alloc _ (.cells #[.int .i64 c, .bool g, .slice bo zs.length cb, .int .i64 p] 25))
 have hs := same_any _ _ zs zs _ (ha.later b0) (hb.later b0)
 rw [decide_eq_true (rfl : zs = zs)] at hs
 have HS : Hid (Calls Tryz.prog 36 #[.slice ao zs.length ca, .slice bo zs.length cb] ((w.alloc (.cells #[.int .i64 c, .bool g, .slice ao zs.length ca, .int .i64 p] 25)).alloc (.cells #[.int .i64 c, .bool g, .slice bo zs.length cb, .int .i64 p] 25)) fun e w' => e = .returned (.bool true) ∧ Below ((w.alloc (.cells #[.int .i64 c, .bool g, .slice ao zs.length ca, .int .i64 p] 25)).alloc (.cells #[.int .i64 c, .bool g, .slice bo zs.length cb, .int .i64 p] 25)).heap.size ((w.alloc (.cells #[.int .i64 c, .bool g, .slice ao zs.length ca, .int .i64 p] 25)).alloc (.cells #[.int .i64 c, .bool g, .slice bo zs.length cb, .int .i64 p] 25)) w') := hs
 clear hs ha hb
 cases g
 all_goals go_enter Tryz.func19, Tryz.ntmps19
 all_goals go_wp2_with fail
 all_goals (refine Calls.mono HS.out ?_; rintro z w1 ⟨rfl, b1⟩; go_wp2; go_ret; exact ⟨rfl, below_trans b0 b1⟩)
end Go.Proofs.YtiiphandhpilgaaGreatDoor
namespace Go.Proofs.YtiiphandhpilgaaGreatDoor
open Go.RowKit
structure DecF (w : World) (bn bf : Nat) (ng : Bool) (fv : List Value) (w' : World) : Prop where
 q : LocE w' w.heap.size 33 [.int .i64 0, .bool false, .bool false, .slice none 0 0, .int .i64 0]
 f : LocE w' bf 44 fv
 n : LocE w' bn 4 [.bool ng]
 b : Below w.heap.size w w'
theorem DecF.later {w w1 w2 : World} {bn bf : Nat} {ng : Bool} {fv : List Value} (h : DecF w bn bf ng fv w1) (b : Below w1.heap.size w1 w2) : DecF w bn bf ng fv w2 :=
 ⟨h.q.later b, h.f.later b, h.n.later b, below_trans h.b b⟩
end Go.Proofs.YtiiphandhpilgaaGreatDoor
namespace Go.Proofs.YtiiphandhpilgaaGreatDoor
open Go.RowKit
def refG (k : Nat) (ng : Bool) (E FF : Nat) : Bool :=
 if k = 3 then (if E + 1 = 2 ^ exN k then (if FF = 2 ^ (dgN k - 1) then ng else false) else if 0 < E ∧ FF < 2 ^ (dgN k - 1) then false else ng)
 else if k ≤ 2 then (if E + 1 = 2 ^ exN k then (if FF = 0 then ng else false) else ng)
 else if k ≤ 5 then ng
 else (if E = 0 then false else ng)
def refT (k : Nat) (ng : Bool) (E FF : Nat) : Trip :=
 if k = 3 then (if E + 1 = 2 ^ exN k ∨ 0 < E ∧ FF < 2 ^ (dgN k - 1) then ⟨false, 0, 0⟩ else bare ⟨ng, FF, wdI (rdN k : Int) * (lsI k + (((E - 1 : Nat) : Nat) : Int))⟩)
 else if k ≤ 2 then (if E + 1 = 2 ^ exN k then ⟨false, 0, 0⟩ else bare ⟨ng, FF + (if 0 < E then 2 ^ (dgN k - 1) else 0), wdI (rdN k : Int) * (lsI k + (((E - 1 : Nat) : Nat) : Int))⟩)
 else if k ≤ 5 then bare ⟨ng, FF, wdI (rdN k : Int) * (lsI k + (E : Int))⟩
 else (if E = 0 then ⟨false, 0, 0⟩ else bare ⟨ng, FF + 2 ^ (dgN k - 1), wdI (rdN k : Int) * (lsI k + (E : Int) - 1)⟩)
end Go.Proofs.YtiiphandhpilgaaGreatDoor

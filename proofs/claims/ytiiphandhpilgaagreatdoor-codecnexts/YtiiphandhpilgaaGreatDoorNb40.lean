/-
  Texts laid together: Ce4, Em1, Ef2, Eg1, Dn2, Gk3, Gk6, Eg2, Eb2, Eb3, Eb4.
-/
import Derived.Test.YtiiphandhpilgaaGreatDoorNb39
namespace Go.Proofs.YtiiphandhpilgaaGreatDoor
open Go.RowKit
theorem bitB_test (zs : List Nat) (i : Nat) : bitB zs i = ((zs.getD (i / 8) 0).testBit (7 - i % 8)).toNat := by
 unfold bitB
 rw [Nat.testBit_eq_decide_div_mod_eq]
 have h := Nat.mod_lt (zs.getD (i / 8) 0 / 2 ^ (7 - i % 8)) (show 0 < 2 by omega)
 rcases (show zs.getD (i / 8) 0 / 2 ^ (7 - i % 8) % 2 = 0 ∨ zs.getD (i / 8) 0 / 2 ^ (7 - i % 8) % 2 = 1 by omega) with e | e <;> rw [e] <;> rfl
theorem testBit_put (y b t u : Nat) (hb : b < 2) : (y ||| b * 2 ^ t).testBit u = (y.testBit u || (decide (b = 1) && decide (t = u))) := by
 rw [Nat.testBit_or]
 rcases (show b = 0 ∨ b = 1 by omega) with rfl | rfl
 ·simp
 ·rw [Nat.one_mul, Nat.testBit_two_pow]
  simp
theorem bitB_put (zs : List Nat) (p b i : Nat) (hb : b < 2) (hp : p / 8 < zs.length) : bitB (zs.set (p / 8) (zs.getD (p / 8) 0 ||| b * 2 ^ (7 - p % 8))) i = if i = p then (if b = 1 then 1 else bitB zs i) else bitB zs i := by
 rw [bitB_test, bitB_test, Dg.getD_set _ _ _ _ hp]
 by_cases h8 : p / 8 = i / 8
 ·rw [if_pos h8, testBit_put _ _ _ _ hb, h8]
  by_cases hi : i = p
  ·subst hi
   rw [if_pos rfl]
   rcases (show b = 0 ∨ b = 1 by omega) with rfl | rfl
   ·simp
   ·simp
  ·rw [if_neg hi, decide_eq_false (show ¬ 7 - p % 8 = 7 - i % 8 by omega)]
   simp
 ·rw [if_neg h8, if_neg (show ¬ i = p from fun e => h8 (by rw [e]))]
theorem bitB_setB (f : Nat) : ∀ (c x : Nat) (zs : List Nat) (i : Nat), f + c ≤ 8 * zs.length → bitB (setB f c x zs) i = if f ≤ i ∧ i < f + c then (if x / 2 ^ (f + c - 1 - i) % 2 = 1 then 1 else bitB zs i) else bitB zs i
 | 0, x, zs, i, _ => by
  rw [setB, if_neg (by omega)]
 | c + 1, x, zs, i, h => by
  rw [setB, bitB_setB f c (x / 2) _ i (by rw [List.length_set]; omega), bitB_put _ _ _ _ (Nat.mod_lt _ (by omega)) (by omega)]
  by_cases h1 : f ≤ i ∧ i < f + c
  ·rw [if_pos h1, if_pos (show f ≤ i ∧ i < f + (c + 1) by omega), if_neg (show ¬ i = f + c by omega), Nat.div_div_eq_div_mul, ← Nat.pow_succ', show (f + c - 1 - i).succ = f + (c + 1) - 1 - i from by omega]
  ·rw [if_neg h1]
   by_cases h2 : i = f + c
   ·rw [if_pos h2, if_pos (show f ≤ i ∧ i < f + (c + 1) by omega), show f + (c + 1) - 1 - i = 0 from by omega, Nat.pow_zero, Nat.div_one]
   ·rw [if_neg h2, if_neg (show ¬ (f ≤ i ∧ i < f + (c + 1)) by omega)]
theorem byte_bits (y : Nat) (h : y < 256) : valB (fun j => decide (y / 2 ^ (7 - j) % 2 = 1)) 8 = y := by
 have e : ∀ n, (if decide (n % 2 = 1) = true then 1 else 0) = n % 2 := fun n => by
  rcases (show n % 2 = 0 ∨ n % 2 = 1 by omega) with h | h <;> rw [h] <;> rfl
 simp only [valB, e]
 omega
theorem valB_congr {f g : Nat → Bool} : ∀ n, (∀ j, j < n → f j = g j) → valB f n = valB g n
 | 0, _ => rfl
 | n + 1, h => by
  rw [valB, valB, valB_congr n (fun j hj => h j (by omega)), h n (by omega)]
theorem bytes_bits (zs : List Nat) (hs : Dg.Small 256 zs) : zs = byL (fun i => decide (bitB zs i = 1)) zs.length := by
 apply List.ext_getElem (by rw [byL_len])
 intro p hp1 hp2
 have e1 : zs.getD p 0 = zs[p] := by simp [List.getD_eq_getElem?_getD, hp1]
 have e2 : (byL (fun i => decide (bitB zs i = 1)) zs.length).getD p 0 = (byL (fun i => decide (bitB zs i = 1)) zs.length)[p] := by simp only [List.getD_eq_getElem?_getD, List.getElem?_eq_getElem hp2, Option.getD_some]
 rw [← e1, ← e2, byL_at _ _ _ hp1]
 refine (byte_bits (zs.getD p 0) (hs p)).symm.trans (valB_congr 8 (fun j hj => ?_))
 unfold bitB
 rw [show (8 * p + j) / 8 = p from by omega, show (8 * p + j) % 8 = j from by omega]
theorem byL_congr {f g : Nat → Bool} (n : Nat) (h : ∀ i, i < 8 * n → f i = g i) : byL f n = byL g n := by
 unfold byL
 apply List.map_congr_left
 intro i hi
 have := List.mem_range.1 hi
 exact valB_congr 8 (fun j hj => h _ (by omega))
theorem bitB_zeros (n i : Nat) : bitB (List.replicate n 0) i = 0 := by
 unfold bitB
 have : (List.replicate n 0).getD (i / 8) 0 = 0 := by
  by_cases h : i / 8 < n
  ·simp [List.getD_eq_getElem?_getD, h]
  ·simp [List.getD_eq_getElem?_getD, h]
 rw [this]
 simp
def patF (ex fr : Nat) (ng : Bool) (e f : Nat) (i : Nat) : Bool :=
 if i = 0 then ng else if i ≤ ex then decide (e / 2 ^ (ex - i) % 2 = 1) else decide (f / 2 ^ (ex + fr - i) % 2 = 1)
theorem wrtB_bits {k : Nat} (hk : 1 ≤ k ∧ k ≤ 8) (ng : Bool) (e f : Nat) : wrtB k ng e f = turnB k (byL (patF (exN k) (frN k) ng e f) (szN k)) := by
 obtain ⟨h1, h2, h3, h4, -, h7⟩ := sizes_fit hk
 unfold wrtB
 congr 1
 have sm0 : Dg.Small 256 (List.replicate (szN k) 0) := by
  intro i
  by_cases hi : i < szN k
  ·simp [List.getD_eq_getElem?_getD, hi]
  ·simp [List.getD_eq_getElem?_getD, hi]
 have key : ∀ zs : List Nat, zs.length = szN k → Dg.Small 256 zs → (∀ i, bitB zs i = if i = 0 ∧ ng = true then 1 else 0) → setB (1 + exN k) (frN k) f (setB 1 (exN k) e zs) = byL (patF (exN k) (frN k) ng e f) (szN k) := fun zs hl hs hb => by
  have hl2 : (setB (1 + exN k) (frN k) f (setB 1 (exN k) e zs)).length = szN k := by rw [setB_len, setB_len, hl]
  rw [bytes_bits _ (setB_small _ _ _ _ (setB_small _ _ _ _ hs)), hl2]
  refine byL_congr _ (fun i hi => ?_)
  rw [bitB_setB _ _ _ _ _ (by rw [setB_len]; omega), bitB_setB _ _ _ _ _ (by omega), hb i]
  unfold patF
  by_cases h0 : i = 0
  ·subst h0
   rw [if_neg (by omega), if_neg (by omega), if_pos rfl]
   cases ng <;> rfl
  ·rw [if_neg h0]
   have hz : (if i = 0 ∧ ng = true then 1 else 0) = 0 := if_neg (fun h => h0 h.1)
   rw [hz]
   by_cases hx : i ≤ exN k
   ·rw [if_pos hx, if_neg (by omega), if_pos (show 1 ≤ i ∧ i < 1 + exN k by omega), show 1 + exN k - 1 - i = exN k - i from by omega]
    split
    ·rename_i h; rw [h]
    ·rename_i h; rw [decide_eq_false h]; rfl
   ·rw [if_neg hx, if_pos (show 1 + exN k ≤ i ∧ i < 1 + exN k + frN k by omega), if_neg (show ¬ (1 ≤ i ∧ i < 1 + exN k) by omega), show 1 + exN k + frN k - 1 - i = exN k + frN k - i from by omega]
    split
    ·rename_i h; rw [h]
    ·rename_i h; rw [decide_eq_false h]; rfl
 cases ng
 ·rw [if_neg (by simp)]
  exact key _ List.length_replicate sm0 (fun i => by rw [bitB_zeros]; simp)
 ·rw [if_pos rfl]
  refine key _ (by rw [setB_len]; exact List.length_replicate) (setB_small _ _ _ _ sm0) (fun i => ?_)
  rw [bitB_setB _ _ _ _ _ (by rw [List.length_replicate]; omega), bitB_zeros]
  by_cases h0 : i = 0
  ·subst h0
   rfl
  ·rw [if_neg (by omega), if_neg (fun h => h0 h.1)]
end Go.Proofs.YtiiphandhpilgaaGreatDoor
namespace Go.Proofs.YtiiphandhpilgaaGreatDoor
open Go.RowKit
theorem bnL_at (a many i : Nat) (h : i < many) : (bnL a many).getD i false = decide (a / 2 ^ (many - 1 - i) % 2 = 1) := by
 simp [bnL, List.getD_eq_getElem?_getD, h]
theorem pat_row (ex fr e f : Nat) (ng : Bool) (i : Nat) (h : i < 1 + ex + fr) : ((ng :: bnL e ex) ++ bnL f fr).getD i false = patF ex fr ng e f i := by
 unfold patF
 by_cases h0 : i = 0
 ·subst h0
  rfl
 ·rw [if_neg h0]
  obtain ⟨j, rfl⟩ : ∃ j, i = j + 1 := ⟨i - 1, by omega⟩
  rw [List.cons_append, List.getD_cons_succ]
  by_cases hx : j + 1 ≤ ex
  ·rw [if_pos hx, List.getD_eq_getElem?_getD, List.getElem?_append_left (by rw [bnL_len]; omega), ← List.getD_eq_getElem?_getD, bnL_at _ _ _ (by omega), show ex - 1 - j = ex - (j + 1) from by omega]
  ·rw [if_neg hx, List.getD_eq_getElem?_getD, List.getElem?_append_right (by rw [bnL_len]; omega), ← List.getD_eq_getElem?_getD, bnL_len, bnL_at _ _ _ (by omega), show fr - 1 - (j - ex) = ex + fr - (j + 1) from by omega]
theorem bit_less {f p j : Nat} (h : 2 ^ p ≤ f) (hj : j < p) : (f - 2 ^ p) / 2 ^ j % 2 = f / 2 ^ j % 2 := by
 obtain ⟨r, rfl⟩ : ∃ r, f = r + 2 ^ p := ⟨f - 2 ^ p, by omega⟩
 obtain ⟨q, rfl⟩ : ∃ q, p = j + 1 + q := ⟨p - j - 1, by omega⟩
 rw [Nat.add_sub_cancel, show 2 ^ (j + 1 + q) = 2 ^ j * (2 * 2 ^ q) from by rw [Nat.pow_add, Nat.pow_succ, Nat.mul_assoc], Nat.add_mul_div_left _ _ (Nat.pow_pos (by omega)), Nat.add_mul_mod_self_left]
theorem wrtB_less {k : Nat} (hk : 1 ≤ k ∧ k ≤ 8) (ng : Bool) (e f : Nat) (h : 2 ^ frN k ≤ f) : wrtB k ng e (f - 2 ^ frN k) = wrtB k ng e f := by
 obtain ⟨h1, h2, h3, h4, -, h7⟩ := sizes_fit hk
 rw [wrtB_bits hk, wrtB_bits hk]
 congr 1
 refine byL_congr _ (fun i hi => ?_)
 unfold patF
 by_cases h0 : i = 0
 ·rw [if_pos h0, if_pos h0]
 ·rw [if_neg h0, if_neg h0]
  by_cases hx : i ≤ exN k
  ·rw [if_pos hx, if_pos hx]
  ·rw [if_neg hx, if_neg hx, bit_less h (by omega)]
theorem parts_one (n : Nat) (x : Int) : numP n x / denP 1 x = shN n x := by
 unfold numP denP shN
 by_cases h : x < 0
 ·rw [if_pos h, if_pos h, if_pos h, Nat.one_mul]
 ·rw [if_neg h, if_neg h, if_neg h, Nat.div_one]
theorem held_place {R D L G : Int} {gr s : Bool} {n : Nat} {e way : Int} (h1 : 1 ≤ D) (hLG : L ≤ G) (h0 : n ≠ 0) (hh : heldB R D L G gr n e = true) :
  (roundT R D L G gr s n 1 e way).s = s ∧ (roundT R D L G gr s n 1 e way).d = shN n (e - (widthN R : Int) * spotK R D L gr n e) ∧ (roundT R D L G gr s n 1 e way).p = spotK R D L gr n e ∧ shN n (e - (widthN R : Int) * spotK R D L gr n e) ≠ 0 := by
 have hM : (1 : Nat) ≠ 0 := by omega
 have hb := (held_round (s := s) (way := way) h1 hLG h0 hh).2.2
 have hs : L ≤ spotK R D L gr n e ∧ spotK R D L gr n e ≤ G ∧ (widthN R : Int) * spotK R D L gr n e ≤ e + (tz n : Int) := by
  unfold heldB at hh
  rcases of_decide_eq_true hh with h | h
  ·exact absurd h h0
  ·exact h
 have hc : cutP R D L gr n 1 e = spotK R D L gr n e := by
  unfold cutP spotK
  rw [topQ_one h0]
 obtain ⟨p1, -⟩ := one_parts s n e ((widthN R : Int) * spotK R D L gr n e) hs.2.2
 have hl : leftP R D L gr n 1 e = 0 := by
  unfold leftP shP
  rw [hc]
  exact p1
 have hd : digP R D L gr s n 1 e way = wholeP R D L gr n 1 e := by
  unfold digP
  rw [if_neg]
  rintro ⟨c, -⟩
  exact of_decide_eq_false c hl
 obtain ⟨c1, c2⟩ := dig_short R D L gr n 1 e h1 h0 hM (cutP R D L gr n 1 e)
 have hw : wholeP R D L gr n 1 e = shN n (e - (widthN R : Int) * spotK R D L gr n e) := by
  unfold wholeP shP
  rw [hc, parts_one]
 have hdn : (roundT R D L G gr s n 1 e way).d ≠ 0 := fun hz => by
  have h2 : (bare ⟨(roundT R D L G gr s n 1 e way).s, (roundT R D L G gr s n 1 e way).d, (widthN R : Int) * (roundT R D L G gr s n 1 e way).p⟩).n = 0 := (bareN_nil _).2 hz
  rw [hb] at h2
  exact h0 ((bareN_nil _).1 h2)
 rw [roundT_flat gr s n 1 e way h1 hLG h0 hM, hd, c1, c2, hc] at hdn ⊢
 simp only at hdn ⊢
 rw [if_neg hdn]
 rw [hw] at hdn ⊢
 exact ⟨trivial, rfl, rfl, hdn⟩
theorem held_power {R D L G : Int} {gr : Bool} {n : Nat} {e : Int} (h0 : n ≠ 0) (hh : heldB R D L G gr n e = true) : spotK R D L gr n e = max L (powerR R D (e + (bitLen n : Int) - 1)) := by
 have hs : L ≤ spotK R D L gr n e := by
  unfold heldB at hh
  rcases of_decide_eq_true hh with h | h
  ·exact absurd h h0
  ·exact h.1
 have he : (bitLen n : Int) - 1 + e = e + (bitLen n : Int) - 1 := by omega
 unfold spotK at hs ⊢
 rw [he] at hs ⊢
 by_cases hc : (decide (powerR R D (e + (bitLen n : Int) - 1) < L) && gr) = true
 ·rw [if_pos hc]
  have := of_decide_eq_true (Bool.and_eq_true_iff.1 hc).1
  rw [Int.max_eq_left (by omega)]
 ·rw [if_neg hc] at hs ⊢
  rw [Int.max_eq_right hs]
end Go.Proofs.YtiiphandhpilgaaGreatDoor
namespace Go.Proofs.YtiiphandhpilgaaGreatDoor
open Go.RowKit
theorem format_flat (k : Nat) (hk : 1 ≤ k ∧ k ≤ 8) (w : World) : Calls Tryz.prog 12 #[.int .i64 (k : Int)] w fun z w' => z = .returned (.tuple #[.agg #[.int .i64 (szN k : Int), .int .i64 (exN k : Int), .int .i64 (frN k : Int), .int .i64 (rdN k : Int), .int .i64 (dgN k : Int), .int .i64 (lsI k), .int .i64 (gsI k), .bool (decide (k ≤ 3)), .int .i64 (fmN k : Int)], .bool true]) ∧ Below w.heap.size w w' := by
 have h := format_any k hk w
 rcases eight hk with rfl | rfl | rfl | rfl | rfl | rfl | rfl | rfl
 all_goals exact h
theorem wdI_nat (R : Int) : wdI R = (widthN R : Int) := by
 unfold wdI widthN
 split <;> rfl
theorem pow2_small (m : Nat) (hm : m ≤ 200) (w : World) : Calls Tryz.prog 31 #[.int .i64 (m : Int)] w (RNum w (2 ^ m)) :=
 pow2_any m (m / 16) (m % 16) w (by omega) (Nat.mod_lt _ (by omega)) (by omega)
theorem fmt_fit {k : Nat} (hk : 1 ≤ k ∧ k ≤ 8) : 1 ≤ exN k ∧ 1 ≤ frN k ∧ 1 ≤ dgN k ∧ dgN k ≤ 64 ∧ -16445 ≤ lsI k ∧ lsI k ≤ 0 ∧ lsI k ≤ gsI k ∧ gsI k ≤ 16320 ∧ widthN (rdN k : Int) * dgN k ≤ 64 ∧ widthN (rdN k : Int) ≤ 4 ∧ 1 ≤ widthN (rdN k : Int) ∧ gridC (rdN k : Int) (dgN k : Int) (lsI k) (gsI k) = 0 := by
 rcases eight hk with rfl | rfl | rfl | rfl | rfl | rfl | rfl | rfl <;> exact ⟨by decide, by decide, by decide, by decide, by decide, by decide, by decide, by decide, by decide, by decide, by decide, by decide⟩
def rfK (k : Nat) (n : Nat) (e : Int) : Int := max (lsI k) (powerR (rdN k : Int) (dgN k : Int) (e + (bitLen n : Int) - 1))
theorem reflen_small (v : Value) (a : Nat) (w : World) (h : Rd w .i64 v (Dg.dg 65536 a)) (hl : (Dg.dg 65536 a).length ≤ 2000000) : Calls Tryz.prog 28 #[v] w fun z w' => z = .returned (.int .i64 (bitLen a : Int)) ∧ Below w.heap.size w w' := by
 have := reflen_any _ _ w h (Dg.small_dg _ _ (by omega)) (Dg.norm_dg _ _ (by omega)) (by omega)
 rw [Dg.vl_dg _ _ (by omega)] at this
 refine this.mono ?_
 rintro z w' ⟨rfl, rfl⟩
 exact ⟨rfl, Below.refl _ _⟩
theorem dg16_mono {a b : Nat} (h : a ≤ b) : (Dg.dg 65536 a).length ≤ (Dg.dg 65536 b).length := by
 refine Dg.dg_len_le 65536 a _ (by omega) (Nat.lt_of_le_of_lt h ?_)
 have := Dg.vl_lt 65536 (Dg.dg 65536 b) (Dg.small_dg 65536 b (by omega))
 rwa [Dg.vl_dg 65536 b (by omega)] at this
theorem lead_le {d j : Nat} (h : bitLen d = j + 1) : 2 ^ j ≤ d := by
 rcases Nat.lt_or_ge d (2 ^ j) with c | c
 ·have := bitLen_le_of d j c
  omega
 ·exact c
set_option maxHeartbeats 1600000 in
theorem encodeOf_pay (k : Nat) (hk : 1 ≤ k ∧ k ≤ 8) (c : Int) (g ts : Bool) (so : Option Addr) (tn sc : Nat) (te : Int) (E F : Nat) (ng : Bool) (K : Int) (d : Nat) (w : World) (hE : E < 65536) (hF : F < 340282366920938463463374607431768211456) (hd : d < 340282366920938463463374607431768211456)
  (HN : c = 2 → Rd w .i64 (.slice so (Dg.dg 65536 tn).length sc) (Dg.dg 65536 tn) ∧ (Dg.dg 65536 tn).length ≤ 20000 ∧ -79000 ≤ te ∧ te ≤ 200000 ∧ K = rfK k tn te ∧ d = shN tn (te - (widthN (rdN k : Int) : Int) * K) ∧ K - lsI k < 65536)
  (HC : (c = 1 ∧ E = 0 ∧ F = 0 ∧ ng = g) ∨ (c = 5 ∧ E = 0 ∧ F = 0 ∧ ng = true) ∨ (c = 3 ∧ (k : Int) = 3 ∧ E + 1 = 2 ^ exN k ∧ F = 2 ^ 63 ∧ ng = g) ∨ (c = 3 ∧ (k : Int) ≠ 3 ∧ E + 1 = 2 ^ exN k ∧ F = 0 ∧ ng = g) ∨ (c = 4 ∧ (k : Int) = 3 ∧ E + 1 = 2 ^ exN k ∧ F = 2 ^ 63 + 2 ^ 62 ∧ ng = g) ∨ (c = 4 ∧ (k : Int) ≠ 3 ∧ E + 1 = 2 ^ exN k ∧ F = 2 ^ (frN k - 1) ∧ ng = g) ∨ (c = 2 ∧ ng = g ∧ (((fmN k : Int) = 2 ∧ E = (K - lsI k).toNat ∧ F = d) ∨ ((fmN k : Int) ≠ 2 ∧ (bitLen d : Int) ≠ (dgN k : Int) ∧ E = (K - lsI k).toNat ∧ F = d) ∨ ((fmN k : Int) ≠ 2 ∧ (bitLen d : Int) = (dgN k : Int) ∧ (k : Int) = 3 ∧ E = (K - lsI k).toNat + 1 ∧ F = d) ∨ ((fmN k : Int) ≠ 2 ∧ (bitLen d : Int) = (dgN k : Int) ∧ (k : Int) ≠ 3 ∧ E = (K - lsI k).toNat + 1 ∧ F = d - 2 ^ (dgN k - 1))))) :
  Calls Tryz.prog 8 #[.int .i64 (k : Int), .agg #[.int .i64 c, .bool g, .bool ts, .slice so (Dg.dg 65536 tn).length sc, .int .i64 te]] w fun z w' => z = .returned (.string (strOf (wrtB k ng E F))) ∧ Below w.heap.size w w' := by
 obtain ⟨s1, s2, s3, s4, -, s7⟩ := sizes_fit hk
 obtain ⟨f1, f2, f3, f4, f5, f6, f7, f8, f9, f10, f11, -⟩ := fmt_fit hk
 have hdl := Dg.dg_len_le 65536 d 8 (by omega) hd
 have hw0 : ¬ ((widthN (rdN k : Int) : Nat) : Int) = 0 := by omega
 refine encodeOf_W (k : Int) (szN k) (exN k) (frN k) (8 * szN k) (rdN k : Int) (dgN k : Int) (lsI k) (gsI k) (fmN k : Int) (widthN (rdN k : Int) : Int) (decide (k ≤ 3)) c g ts so tn sc te E F ng (strOf (wrtB k ng E F)) (2 ^ 63) (2 ^ 62) (2 ^ 63 + 2 ^ 62) (2 ^ (frN k - 1)) (2 ^ (dgN k - 1)) (bitLen tn : Int) K (powerR (rdN k : Int) (dgN k : Int) (te + (bitLen tn : Int) - 1)) ((te + (bitLen tn : Int) - 1 + 80000).tdiv (widthN (rdN k : Int) : Int)) ((80000 : Int).tdiv (widthN (rdN k : Int) : Int)) (bitLen d : Int) d (K - lsI k).toNat w
  s2 f1 s4 f2 s1 hE (by omega) (by omega) (by simpa using hw0) hw0 ?_ (fun w1 => format_flat k hk w1) ?_ (fun w1 => pow2_small 63 (by omega) w1) (fun w1 => pow2_small 62 (by omega) w1) ?_ ?_ ?_ ?_ ?_ (fun v w1 h => reflen_small v d w1 h (by omega)) ?_ (fun w1 => from_any E w1 hE) (fun v w1 h => bitsOfN_any v E (exN k) w1 h (by omega) (by omega) f1) (fun v w1 h => bitsOfN_any v F (frN k) w1 h hF (by omega) f2) ?_ HC
 ·intro h2
  obtain ⟨hr, hl, e1, e2, hK, -, hKL⟩ := HN h2
  have hbl : bitLen tn ≤ 16 * 20000 := gbits16 hl
  have hsk := inR_seek (rdN k : Int) (dgN k : Int) te (bitLen tn) (by omega)
  have q1 := Int.natAbs_tdiv_le_natAbs (te + (bitLen tn : Int) - 1 + 80000) (widthN (rdN k : Int) : Int)
  have q2 := Int.natAbs_tdiv_le_natAbs (80000 : Int) (widthN (rdN k : Int) : Int)
  have hKK : K = max (lsI k) (powerR (rdN k : Int) (dgN k : Int) (te + (bitLen tn : Int) - 1)) := hK
  have hK1 : lsI k ≤ K := by rw [hKK]; exact Int.le_max_left _ _
  have hwK : -100000 ≤ (widthN (rdN k : Int) : Int) * K ∧ (widthN (rdN k : Int) : Int) * K ≤ 500000 := by
   rcases (show widthN (rdN k : Int) = 1 ∨ widthN (rdN k : Int) = 4 from by unfold widthN; split <;> omega) with h | h <;> rw [h] <;> omega
  refine ⟨IntWalk.i64_in _ ⟨by omega, by omega⟩, IntWalk.i64_in _ ⟨by omega, by omega⟩, IntWalk.i64_in _ ⟨by omega, by omega⟩, rfl, rfl, IntWalk.i64_in _ ⟨by omega, by omega⟩, IntWalk.i64_in _ ⟨by omega, by omega⟩, IntWalk.i64_in _ ⟨by omega, by omega⟩, IntWalk.i64_in _ ⟨by omega, by omega⟩, ?_, hKK.symm, IntWalk.i64_in _ ⟨by omega, by omega⟩, IntWalk.i64_in _ ⟨by omega, by omega⟩, ?_, by omega⟩
  ·rw [hsk]
   exact IntWalk.i64_in _ ⟨by omega, by omega⟩
  ·rw [Int.toNat_of_nonneg (by omega)]
   exact IntWalk.i64_in _ ⟨by omega, by omega⟩
 ·intro w1
  have := cwidth_any (rdN k : Int) (dgN k : Int) (lsI k) (gsI k) (decide (k ≤ 3)) w1
  rwa [wdI_nat] at this
 ·intro v u w1 h1 h2
  have := refplus_any v u _ _ w1 h1 h2 (Dg.small_dg _ _ (by omega)) (Dg.small_dg _ _ (by omega)) (Dg.norm_dg _ _ (by omega)) (Dg.norm_dg _ _ (by omega)) (Nat.le_trans (Dg.dg_len_le 65536 (2 ^ 63) 8 (by omega) (by decide)) (by omega)) (Nat.le_trans (Dg.dg_len_le 65536 (2 ^ 62) 8 (by omega) (by decide)) (by omega))
  rwa [Dg.vl_dg _ _ (by omega), Dg.vl_dg _ _ (by omega)] at this
 ·intro w1
  rw [show (frN k : Int) - 1 = ((frN k - 1 : Nat) : Int) from by omega]
  exact pow2_small (frN k - 1) (by omega) w1
 ·intro w1
  rw [show (dgN k : Int) - 1 = ((dgN k - 1 : Nat) : Int) from by omega]
  exact pow2_small (dgN k - 1) (by omega) w1
 ·intro h2 w1 b1
  obtain ⟨hr, hl, -⟩ := HN h2
  exact reflen_small _ tn w1 (hr.later b1) (by omega)
 ·intro h2 w1 b1
  obtain ⟨hr, hl, e1, e2, hK, hdd, hKL⟩ := HN h2
  have hK1 : lsI k ≤ K := by rw [hK]; exact Int.le_max_left _ _
  have hwK : -100000 ≤ (widthN (rdN k : Int) : Int) * K ∧ (widthN (rdN k : Int) : Int) * K ≤ 500000 := by
   rcases (show widthN (rdN k : Int) = 1 ∨ widthN (rdN k : Int) = 4 from by unfold widthN; split <;> omega) with h | h <;> rw [h] <;> omega
  have := floorOf_any _ ⟨false, tn, te - (widthN (rdN k : Int) : Int) * K⟩ w1 ⟨_, rfl, hr.later b1⟩ (by show (Dg.dg 65536 tn).length ≤ 100000; omega) (by show -1000000 ≤ te - (widthN (rdN k : Int) : Int) * K; omega) (by show te - (widthN (rdN k : Int) : Int) * K ≤ 1000000; omega)
  rw [hdd]
  exact this
 ·intro hlen v u w1 h1 h2
  have hle : 2 ^ (dgN k - 1) ≤ d := lead_le (by omega)
  have := refless_any v u _ _ w1 h1 h2 (Dg.small_dg _ _ (by omega)) (Dg.small_dg _ _ (by omega)) (by omega) (dg16_mono hle) (by rw [Dg.vl_dg _ _ (by omega), Dg.vl_dg _ _ (by omega)]; exact hle)
  rwa [Dg.vl_dg _ _ (by omega), Dg.vl_dg _ _ (by omega)] at this
 ·intro gg cap w1 hcell
  have := patternOf_any k hk gg 0 cap (patF (exN k) (frN k) ng E F) w1 (fun i hi => by
   rw [Nat.zero_add, hcell i hi, pat_row _ _ _ _ _ _ (by omega)])
  rwa [← wrtB_bits hk] at this
theorem encodeOf_oth (k m : Nat) (hk : 1 ≤ k ∧ k ≤ 8) (hm : m = 1 ∨ m = 3 ∨ m = 4 ∨ m = 5) (hs : spcOk k m = true) (g ts : Bool) (so : Option Addr) (tn sc : Nat) (te : Int) (w : World) :
  Calls Tryz.prog 8 #[.int .i64 (k : Int), .agg #[.int .i64 (m : Int), .bool g, .bool ts, .slice so (Dg.dg 65536 tn).length sc, .int .i64 te]] w fun z w' => z = .returned (.string (strOf (wrtB k (spcG k m || g) (spcE k m) (spcF k m)))) ∧ Below w.heap.size w w' := by
 refine encodeOf_pay k hk (m : Int) g ts so tn sc te (spcE k m) (spcF k m) (spcG k m || g) 0 0 w (spcE_small m hk) (Nat.lt_trans (spcF_small m hk) (by decide)) (by decide) (fun h => by omega) ?_
 rcases hm with rfl | rfl | rfl | rfl
 ·exact .inl ⟨rfl, if_neg (fun h => by omega), by unfold spcF; simp, rfl⟩
 ·refine .inr (.inr ?_)
  have h3 : k ≤ 3 := by simpa [spcOk] using hs
  rcases (show k = 1 ∨ k = 2 ∨ k = 3 from by omega) with rfl | rfl | rfl
  ·exact .inr (.inl ⟨rfl, by decide, by decide, by decide, rfl⟩)
  ·exact .inr (.inl ⟨rfl, by decide, by decide, by decide, rfl⟩)
  ·exact .inl ⟨rfl, by decide, by decide, by decide, rfl⟩
 ·refine .inr (.inr (.inr (.inr ?_)))
  have h3 : k ≤ 3 := by simpa [spcOk] using hs
  rcases (show k = 1 ∨ k = 2 ∨ k = 3 from by omega) with rfl | rfl | rfl
  ·exact .inr (.inl ⟨rfl, by decide, by decide, by decide, rfl⟩)
  ·exact .inr (.inl ⟨rfl, by decide, by decide, by decide, rfl⟩)
  ·exact .inl ⟨rfl, by decide, by decide, by decide, rfl⟩
 ·have h6 : 6 ≤ k := by simpa [spcOk] using hs
  refine .inr (.inl ⟨rfl, if_neg (fun h => by omega), ?_, ?_⟩)
  ·unfold spcF
   rw [if_neg (by omega)]
  ·simp [spcG, h6]
theorem and_lead {d j : Nat} (h : d < 2 ^ (j + 1)) : d &&& 2 ^ j ≠ 0 ↔ bitLen d = j + 1 := by
 have hb := bitLen_le_of d (j + 1) h
 rw [and_bit]
 have hp : 0 < 2 ^ j := Nat.pow_pos (by omega)
 by_cases hc : 2 ^ j ≤ d
 ·have h1 : bitLen d = j + 1 := by
   have := (lt_bits d j).1
   have h2 : ¬ bitLen d < j + 1 := fun c => this c hc
   omega
  have ht : d.testBit j = true := by
   rw [Nat.testBit_eq_decide_div_mod_eq]
   have : d / 2 ^ j = 1 := by
    rw [Nat.pow_succ] at h
    have h3 : 1 ≤ d / 2 ^ j := (Nat.le_div_iff_mul_le hp).2 (by omega)
    have h4 : d / 2 ^ j < 2 := (Nat.div_lt_iff_lt_mul hp).2 (by omega)
    omega
   rw [this]
   rfl
  rw [if_pos ht]
  exact ⟨fun _ => h1, fun _ => by omega⟩
 ·have h1 : bitLen d < j + 1 := (lt_bits d j).2 hc
  have ht : d.testBit j = false := by
   rw [Nat.testBit_eq_decide_div_mod_eq, Nat.div_eq_of_lt (by omega)]
   rfl
  rw [if_neg (by rw [ht]; simp)]
  exact ⟨fun c => absurd rfl c, fun c => by omega⟩
set_option maxHeartbeats 1600000 in
theorem encodeOf_num (k : Nat) (hk : 1 ≤ k ∧ k ≤ 8) (g s ts : Bool) (so : Option Addr) (tn sc : Nat) (te : Int) (w : World) (hr : Rd w .i64 (.slice so (Dg.dg 65536 tn).length sc) (Dg.dg 65536 tn)) (hl : (Dg.dg 65536 tn).length ≤ 20000) (e1 : -79000 ≤ te) (e2 : te ≤ 200000) (h0 : tn ≠ 0)
  (hh : heldB (rdN k : Int) (dgN k : Int) (lsI k) (gsI k) (decide (k ≤ 3)) tn te = true) :
  Calls Tryz.prog 8 #[.int .i64 (k : Int), .agg #[.int .i64 2, .bool g, .bool ts, .slice so (Dg.dg 65536 tn).length sc, .int .i64 te]] w fun z w' => z = .returned (.string (strOf (wrtB k g (heE (rdN k : Int) (lsI k) (leadN k) (plT k s tn te)) (plT k s tn te).d))) ∧ Below w.heap.size w w' := by
 obtain ⟨f1, f2, f3, f4, f5, f6, f7, f8, f9, f10, f11, hgc⟩ := fmt_fit hk
 obtain ⟨-, hpd, hpp, hne⟩ := held_place (s := s) (way := 3) (by omega) f7 h0 hh
 have hK : spotK (rdN k : Int) (dgN k : Int) (lsI k) (decide (k ≤ 3)) tn te = rfK k tn te := held_power h0 hh
 obtain ⟨ho, hu, -⟩ := held_round (s := s) (way := 3) (by omega) f7 h0 hh
 have hsp := (round_spot (by omega) f7 h0 (by omega) ho hu).resolve_left (fun c => hne (by rw [← hpd]; exact c.1))
 have hp : (plT k s tn te).p = rfK k tn te := by rw [← hK]; exact hpp
 have hdd : (plT k s tn te).d = shN tn (te - (widthN (rdN k : Int) : Int) * rfK k tn te) := by rw [← hK]; exact hpd
 obtain ⟨-, hp1, hp2, hdlt, -⟩ := hsp
 change lsI k ≤ (plT k s tn te).p at hp1
 change (plT k s tn te).p ≤ gsI k at hp2
 change (plT k s tn te).d < _ at hdlt
 rw [hp] at hp1 hp2
 have hd64 : (plT k s tn te).d < 2 ^ 64 := Nat.lt_of_lt_of_le hdlt (Nat.pow_le_pow_right (by omega) (by rw [Int.toNat_natCast]; exact f9))
 unfold heE
 rw [hp]
 generalize plT k s tn te = pt at *
 generalize hKK : rfK k tn te = K at *
 have HN : (2 : Int) = 2 → Rd w .i64 (.slice so (Dg.dg 65536 tn).length sc) (Dg.dg 65536 tn) ∧ (Dg.dg 65536 tn).length ≤ 20000 ∧ -79000 ≤ te ∧ te ≤ 200000 ∧ K = rfK k tn te ∧ pt.d = shN tn (te - (widthN (rdN k : Int) : Int) * K) ∧ K - lsI k < 65536 := fun _ => ⟨hr, hl, e1, e2, hKK.symm, hdd, by omega⟩
 have hdb : pt.d < 340282366920938463463374607431768211456 := Nat.lt_trans hd64 (by decide)
 by_cases hR : (rdN k : Int) = 2
 ·have hfm : (fmN k : Int) ≠ 2 := by
   rcases eight hk with rfl | rfl | rfl | rfl | rfl | rfl | rfl | rfl <;> revert hR <;> decide
  have hw1 : widthN (rdN k : Int) = 1 := by rw [hR]; rfl
  rw [hw1, Nat.one_mul, Int.toNat_natCast] at hdlt
  have hdj : dgN k - 1 + 1 = dgN k := by omega
  have hal := and_lead (d := pt.d) (j := dgN k - 1) (by rw [hdj]; exact hdlt)
  rw [hdj] at hal
  by_cases hb : bitLen pt.d = dgN k
  ·rw [if_pos ⟨hR, hal.2 hb⟩]
   by_cases h3 : k = 3
   ·exact encodeOf_pay k hk 2 g ts so tn sc te _ _ g K pt.d w (by omega) hdb hdb HN (.inr (.inr (.inr (.inr (.inr (.inr ⟨rfl, rfl, .inr (.inr (.inl ⟨hfm, by omega, by omega, rfl, rfl⟩))⟩))))))
   ·have hfr : dgN k - 1 = frN k := by
     rcases eight hk with rfl | rfl | rfl | rfl | rfl | rfl | rfl | rfl <;> revert hR h3 <;> decide
    have hle : 2 ^ frN k ≤ pt.d := by rw [← hfr]; exact lead_le (by omega)
    rw [← wrtB_less hk g _ pt.d hle]
    exact encodeOf_pay k hk 2 g ts so tn sc te _ _ g K pt.d w (by omega) (Nat.lt_of_le_of_lt (Nat.sub_le _ _) hdb) hdb HN (.inr (.inr (.inr (.inr (.inr (.inr ⟨rfl, rfl, .inr (.inr (.inr ⟨hfm, by omega, by omega, rfl, by rw [hfr]⟩))⟩))))))
  ·rw [if_neg (fun c => hb (hal.1 c.2)), Nat.add_zero]
   exact encodeOf_pay k hk 2 g ts so tn sc te _ _ g K pt.d w (by omega) hdb hdb HN (.inr (.inr (.inr (.inr (.inr (.inr ⟨rfl, rfl, .inr (.inl ⟨hfm, by omega, rfl, rfl⟩)⟩))))))
 ·have hfm : (fmN k : Int) = 2 := by
   rcases eight hk with rfl | rfl | rfl | rfl | rfl | rfl | rfl | rfl <;> revert hR <;> decide
  rw [if_neg (fun c => hR c.1), Nat.add_zero]
  exact encodeOf_pay k hk 2 g ts so tn sc te _ _ g K pt.d w (by omega) hdb hdb HN (.inr (.inr (.inr (.inr (.inr (.inr ⟨rfl, rfl, .inl ⟨hfm, rfl, rfl⟩⟩))))))
end Go.Proofs.YtiiphandhpilgaaGreatDoor
namespace Go.Proofs.YtiiphandhpilgaaGreatDoor
open Go.RowKit
structure EnF (w : World) (bf : Nat) (vv fl : List Value) (W : World) : Prop where
 v : LocE W w.heap.size 25 vv
 z : LocE W (w.heap.size + 1) 33 [.int .i64 0, .bool false, .bool false, .slice none 0 0, .int .i64 0]
 f : LocE W bf 44 fl
 b : Below w.heap.size w W
theorem EnF.later {w W W' : World} {bf : Nat} {vv fl : List Value} (h : EnF w bf vv fl W) (b : Below W.heap.size W W') : EnF w bf vv fl W' :=
 ⟨h.v.later b, h.z.later b, h.f.later b, below_trans h.b b⟩
theorem EnF.lt {w W : World} {bf : Nat} {vv fl : List Value} (h : EnF w bf vv fl W) : w.heap.size + 1 < W.heap.size ∧ bf < W.heap.size := ⟨h.z.lt, h.f.lt⟩
end Go.Proofs.YtiiphandhpilgaaGreatDoor
namespace Go.Proofs.YtiiphandhpilgaaGreatDoor
open Go.RowKit
theorem short_of {t : Trip} (h1 : (Dg.dg 4294967296 (bare t).n).length ≤ 1200) (h2 : -20000 ≤ (bare t).e) (h3 : (bare t).e ≤ 20000) : shortT t = (bare t, 0) := by
 unfold shortT
 rw [if_neg (by omega), if_neg (by omega)]
theorem bare_e_ge {t : Trip} (h : t.n ≠ 0) : t.e ≤ (bare t).e ∧ (bare t).e = t.e + tz t.n := by
 unfold bare
 rw [if_neg h]
 exact ⟨by show t.e ≤ t.e + (tz t.n : Int); omega, rfl⟩
end Go.Proofs.YtiiphandhpilgaaGreatDoor
namespace Go.Proofs.YtiiphandhpilgaaGreatDoor
open Go.RowKit
theorem gvl_ne {xs : List Nat} (sa : Dg.Small 4294967296 xs) (h : chk xs = 0) (hl : ¬xs.length = 0) : Dg.vl 4294967296 xs ≠ 0 := fun c => by
 have ex : Dg.dg 4294967296 (Dg.vl 4294967296 xs) = xs := Dg.dg_vl _ (by omega) _ sa (chk_zero h).1
 rw [c] at ex
 rw [← ex] at hl
 exact hl rfl
def InSpot (R D L G : Int) (gr : Bool) (d : Nat) (p : Int) : Prop :=
 (d = 0 ∧ p = 0) ∨ (d ≠ 0 ∧ L ≤ p ∧ p ≤ G ∧ d < 2 ^ (widthN R * D.toNat) ∧ (2 ^ (widthN R * (D - 1).toNat) ≤ d ∨ (gr = true ∧ p = L)))
theorem two_len {d k L : Nat} (h : d < 2 ^ k) (hk : k ≤ 32 * L) : (Dg.dg 4294967296 d).length ≤ L := by
 refine Dg.dg_len_le 4294967296 _ _ (by omega) (Nat.lt_of_lt_of_le h ?_)
 rw [show (4294967296 : Nat) = 2 ^ 32 from by decide, ← Nat.pow_mul]
 exact Nat.pow_le_pow_right (by omega) hk
theorem spot_fits {R D L G : Int} {gr : Bool} {d : Nat} {p : Int} (hg : gridC R D L G = 0) (h : InSpot R D L G gr d p) :
  (Dg.dg 4294967296 d).length ≤ 15 ∧ -17000 ≤ p ∧ p ≤ 17000 ∧ -17000 ≤ (widthN R : Int) * p ∧ (widthN R : Int) * p ≤ 17000 ∧ tz d ≤ 480 := by
 obtain ⟨hR, d1, d2, l1, l2, g1, g2, lg, l16⟩ := gridC_zero hg
 rcases h with ⟨rfl, rfl⟩ | ⟨h0, h1, h2, h3, -⟩
 ·refine ⟨Nat.zero_le _, by omega, by omega, by simp, by simp, ?_⟩
  exact Nat.le_trans (tz_fits 0 0 (Nat.le_refl _)) (by omega)
 ·have hw := Nat.mul_le_mul (widthN_le R).2 (show D.toNat ≤ 120 by omega)
  have hl : (Dg.dg 4294967296 d).length ≤ 15 := two_len h3 (by omega)
  have := tz_fits d 15 hl
  refine ⟨hl, by omega, by omega, ?_, ?_, by omega⟩ <;> (unfold widthN; split <;> simp <;> omega)
theorem spot_short {R D L G : Int} {gr s : Bool} {d : Nat} {p : Int} (hg : gridC R D L G = 0) (h : InSpot R D L G gr d p) :
  dbothR (placeC (Dg.dg 4294967296 d) p R D L G) ⟨s, Dg.vl 4294967296 (Dg.dg 4294967296 d), (widthN R : Int) * p⟩ = (bare ⟨s, d, (widthN R : Int) * p⟩, 0) := by
 obtain ⟨l, p1, p2, w1, w2, tzl⟩ := spot_fits hg h
 have hp : placeC (Dg.dg 4294967296 d) p R D L G = 0 := placeC_fine ((dchk_zero (dchk_of (n := d) (e := 0) (by omega) (by omega) (by omega))).1) hg (by unfold farB; simp; omega)
 rw [hp, Dg.vl_dg _ _ (by omega)]
 show shortT _ = _
 refine short_of ?_ ?_ ?_
 ·exact Nat.le_trans (dg_len_mono _ _ d (by omega) (bare_n_le _)) (by omega)
 ·by_cases h0 : d = 0
  ·simp [bare, h0]
  ·have := (bare_e_ge (t := ⟨s, d, (widthN R : Int) * p⟩) h0).2
   simp only at this
   omega
 ·by_cases h0 : d = 0
  ·simp [bare, h0]
  ·have := (bare_e_ge (t := ⟨s, d, (widthN R : Int) * p⟩) h0).2
   simp only at this
   omega
end Go.Proofs.YtiiphandhpilgaaGreatDoor
namespace Go.Proofs.YtiiphandhpilgaaGreatDoor
open Go.RowKit
theorem held_bare {R D L G : Int} (gr : Bool) (t : Trip) (hLG : L ≤ G) : heldB R D L G gr (bare t).n (bare t).e = heldB R D L G gr t.n t.e := by
 rw [← held_in gr t hLG, ← held_in gr (bare t) hLG, bare_bare]
theorem spot_held {R D L G : Int} {gr s : Bool} {d : Nat} {p : Int} (hg : gridC R D L G = 0) (h : InSpot R D L G gr d p) : heldB R D L G gr (bare ⟨s, d, (widthN R : Int) * p⟩).n (bare ⟨s, d, (widthN R : Int) * p⟩).e = true := by
 obtain ⟨-, d1, -, -, -, -, -, lg, -⟩ := gridC_zero hg
 rw [held_bare gr _ lg]
 rcases h with ⟨rfl, rfl⟩ | ⟨h0, h1, h2, h3, h4⟩
 ·exact held_zero R D L G gr _
 ·rw [held_spot d1 h3 h1 h4 h0]
  exact decide_eq_true h2
theorem spot_dchk {R D L G : Int} {gr s : Bool} {d : Nat} {p : Int} (hg : gridC R D L G = 0) (h : InSpot R D L G gr d p) : dchk (Dg.dg 4294967296 (bare ⟨s, d, (widthN R : Int) * p⟩).n) (bare ⟨s, d, (widthN R : Int) * p⟩).e = 0 := by
 obtain ⟨l, p1, p2, w1, w2, tzl⟩ := spot_fits hg h
 refine dchk_of ?_ ?_ ?_
 ·exact Nat.le_trans (dg_len_mono _ _ d (by omega) (bare_n_le _)) (by omega)
 ·by_cases h0 : d = 0
  ·simp [bare, h0]
  ·have := (bare_e_ge (t := ⟨s, d, (widthN R : Int) * p⟩) h0).2
   simp only at this
   omega
 ·by_cases h0 : d = 0
  ·simp [bare, h0]
  ·have := (bare_e_ge (t := ⟨s, d, (widthN R : Int) * p⟩) h0).2
   simp only at this
   omega
end Go.Proofs.YtiiphandhpilgaaGreatDoor
namespace Go.Proofs.YtiiphandhpilgaaGreatDoor
open Go.RowKit
theorem bare_small {t : Trip} (h0 : t.n ≠ 0) : (Dg.dg 65536 (bare t).n).length ≤ (Dg.dg 65536 t.n).length ∧ t.e ≤ (bare t).e ∧ (bare t).e ≤ t.e + (bitLen t.n : Int) := by
 obtain ⟨-, h2, h3⟩ := bare_top h0
 refine ⟨dg16_mono (bare_n_le t), by omega, by omega⟩
end Go.Proofs.YtiiphandhpilgaaGreatDoor
namespace Go.Proofs.YtiiphandhpilgaaGreatDoor
open Go.RowKit
theorem bare_own {s : Bool} {a : Trip} (h : a.n ≠ 0) (hs : a.s = s) : (⟨s, (bare a).n, (bare a).e⟩ : Trip) = bare a := by
 unfold bare
 rw [if_neg h, ← hs]
theorem back_value {k : Nat} (hk : 1 ≤ k ∧ k ≤ 8) {ng : Bool} {E F : Nat} (hE : E < 2 ^ exN k) (hF : F < 2 ^ frN k) (hF64 : F < 2 ^ 64) (hc : clsN k ng E F = 2) (h0 : plcN k E F ≠ 0) :
  bare ⟨ng, valM k ng E F, (widthN (rdN k : Int) : Int) * valP k ng E F⟩ = bare ⟨ng, plcN k E F, (widthN (rdN k : Int) : Int) * plcP k E⟩ := by
 have hT := refT_num hk hE hF hc
 rw [wdI_nat] at hT
 by_cases hr : rdN k = 2
 ·obtain ⟨v1, v2⟩ := val2 hk hE hF hF64 hc hr
  have hw : widthN (rdN k : Int) = 1 := by rw [hr]; rfl
  rw [v1, v2, hT, hw, show ((1 : Nat) : Int) * (bare ⟨ng, plcN k E F, ((1 : Nat) : Int) * plcP k E⟩).e = (bare ⟨ng, plcN k E F, ((1 : Nat) : Int) * plcP k E⟩).e from by omega, bare_own (a := ⟨ng, plcN k E F, ((1 : Nat) : Int) * plcP k E⟩) h0 rfl, bare_bare]
 ·have hr16 : rdN k = 16 := by rcases eight hk with rfl | rfl | rfl | rfl | rfl | rfl | rfl | rfl <;> revert hr <;> decide
  obtain ⟨v1, v2, v3⟩ := val16 hk hE hF hF64 hc hr16
  have hw : widthN (rdN k : Int) = 4 := by rw [hr16]; rfl
  rw [hw] at hT ⊢
  rw [v3, hT]
  rw [hT] at v1
  have hp := (one_parts ng (bare ⟨ng, plcN k E F, ((4 : Nat) : Int) * plcP k E⟩).n (bare ⟨ng, plcN k E F, ((4 : Nat) : Int) * plcP k E⟩).e (((4 : Nat) : Int) * valP k ng E F) (by omega)).2
  rw [parts_one] at hp
  rw [show (4 : Int) * valP k ng E F = ((4 : Nat) : Int) * valP k ng E F from rfl, hp, bare_own (a := ⟨ng, plcN k E F, ((4 : Nat) : Int) * plcP k E⟩) h0 rfl, bare_bare]
theorem frN_64 {k : Nat} (hk : 1 ≤ k ∧ k ≤ 8) {f : Nat} (h : f < 2 ^ frN k) : f < 2 ^ 64 :=
 Nat.lt_of_lt_of_le h (Nat.pow_le_pow_right (by omega) (sizes_fit hk).2.2.2.1)
end Go.Proofs.YtiiphandhpilgaaGreatDoor
namespace Go.Proofs.YtiiphandhpilgaaGreatDoor
open Go.RowKit
theorem strip_le (r : Nat) : ∀ (n d : Nat) (p : Int), (stripF r n d p).1 ≤ d
 | 0, d, p => Nat.le_refl _
 | n + 1, d, p => by
  unfold stripF
  split
  ·exact Nat.le_trans (strip_le r n _ _) (Nat.div_le_self _ _)
  ·exact Nat.le_refl _
end Go.Proofs.YtiiphandhpilgaaGreatDoor
namespace Go.Proofs.YtiiphandhpilgaaGreatDoor
open Go.RowKit
theorem fld_lt (k : Nat) (s : ByteArray) : fldE k s < 2 ^ exN k ∧ fldF k s < 2 ^ frN k := ⟨bitsV_lt _ _ _, bitsV_lt _ _ _⟩
end Go.Proofs.YtiiphandhpilgaaGreatDoor

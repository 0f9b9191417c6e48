/-
  Texts laid together: Co25, Cr9, Df1, Cr11, DyCom, Ref7, Fro.
-/
import Derived.Test.YtiiphandhpilgaaGreatDoorRows
import Derived.Test.YtiiphandhpilgaaGreatDoorTie
import Derived.Test.YtiiphandhpilgaaGreatDoorCards
import Derived.ProofKit
import Derived.ShutString
import Derived.ChangeOld
import Derived.Below
import Derived.LaidMore
import Derived.SevenTiedAt
import Derived.Lib.SmallJoins
import Derived.Lib.LaidTab
import Derived.Deep.RegionWith
import Derived.Test.YtiiphandhpilgaaGreatDoorNb33
import Derived.Test.YtiiphandhpilgaaGreatDoorNb34
import Derived.Test.YtiiphandhpilgaaGreatDoorNb35
set_option maxRecDepth 100000
namespace Go.Proofs.YtiiphandhpilgaaGreatDoor
open Go.RowKit
def clsG (n : Int) (s : ByteArray) : Bool := if patC n s = 0 then fldN n.toNat s else false
end Go.Proofs.YtiiphandhpilgaaGreatDoor
namespace Go.Proofs.YtiiphandhpilgaaGreatDoor
open Go.RowKit
def refC (k : Nat) (ng : Bool) (E FF : Nat) : Int :=
 if k = 3 then (if E + 1 = 2 ^ exN k then (if FF = 2 ^ (dgN k - 1) then 3 else 4) else if 0 < E ∧ FF < 2 ^ (dgN k - 1) then 4 else if FF = 0 then 1 else 2)
 else if k ≤ 2 then (if E + 1 = 2 ^ exN k then (if FF = 0 then 3 else 4) else if FF + (if 0 < E then 2 ^ (dgN k - 1) else 0) = 0 then 1 else 2)
 else if k ≤ 5 then (if FF = 0 then 1 else 2)
 else (if E = 0 then (if ng then 5 else 1) else 2)
def refG (k : Nat) (ng : Bool) (E FF : Nat) : Bool :=
 if k = 3 then (if E + 1 = 2 ^ exN k then (if FF = 2 ^ (dgN k - 1) then ng else false) else if 0 < E ∧ FF < 2 ^ (dgN k - 1) then false else ng)
 else if k ≤ 2 then (if E + 1 = 2 ^ exN k then (if FF = 0 then ng else false) else ng)
 else if k ≤ 5 then ng
 else (if E = 0 then false else ng)
def refT (k : Nat) (ng : Bool) (E FF : Nat) : Trip :=
 if k = 3 then (if E + 1 = 2 ^ exN k ∨ 0 < E ∧ FF < 2 ^ (dgN k - 1) then ⟨false, 0, 0⟩ else bare ⟨ng, FF, wdI (rdN k : Int) * (lsI k + (((E - 1 : Nat) : Nat) : Int))⟩)
 else if k ≤ 2 then (if E + 1 = 2 ^ exN k then ⟨false, 0, 0⟩ else bare ⟨ng, FF + (if 0 < E then 2 ^ (dgN k - 1) else 0), wdI (rdN k : Int) * (lsI k + (((E - 1 : Nat) : Nat) : Int))⟩)
 else if k ≤ 5 then bare ⟨ng, FF, wdI (rdN k : Int) * (lsI k + (E : Int))⟩
 else (if E = 0 then ⟨false, 0, 0⟩ else bare ⟨ng, FF + 2 ^ (dgN k - 1), wdI (rdN k : Int) * (lsI k + (E : Int) - 1)⟩)
theorem more_fit {k : Nat} (hk : 1 ≤ k ∧ k ≤ 8) : 1 ≤ frN k ∧ dgN k - 1 ≤ 63 ∧ -20000 ≤ lsI k ∧ lsI k ≤ 0 ∧ 1 ≤ wdI (rdN k : Int) ∧ wdI (rdN k : Int) ≤ 4 := by
 rcases eight hk with rfl | rfl | rfl | rfl | rfl | rfl | rfl | rfl <;> exact ⟨by decide, by decide, by decide, by decide, by decide, by decide⟩
theorem decodeOf_any (k : Nat) (hk : 1 ≤ k ∧ k ≤ 8) (s : ByteArray) (w : World) (hs : s.size = szN k) :
  Calls Tryz.prog 13 #[.int .i64 (k : Int), .string s] w (RDec w (refC k (fldN k s) (fldE k s) (fldF k s)) (refG k (fldN k s) (fldE k s) (fldF k s)) (refT k (fldN k s) (fldE k s) (fldF k s)) (fldN k s)) := by
 obtain ⟨h1, h2, h3, h4, -, h7⟩ := sizes_fit hk
 obtain ⟨g1, g2, g3, g4, g5, g6⟩ := more_fit hk
 have HF := fun w1 => format_any k hk w1
 have HB := fun w1 => bitsOf_any k hk s w1 hs
 have hng : fldN k s = decide (bitB (fldB k s) 0 = 1) := by
  unfold fldN
  rw [show bitsV (fldB k s) 0 1 = bitB (fldB k s) 0 from by simp [bitsV]]
 have hE : fldE k s = bitsV (fldB k s) 1 (exN k) := rfl
 have hFF : fldF k s = bitsV (fldB k s) (1 + exN k) (frN k) := rfl
 generalize fldN k s = ng at *
 generalize fldE k s = E at *
 generalize fldF k s = FF at *
 generalize fldB k s = ts at *
 rcases eight hk with rfl | rfl | rfl | rfl | rfl | rfl | rfl | rfl
 ·unfold refC refG refT
  rw [if_neg (show ¬ 1 = 3 by decide), if_pos (show 1 ≤ 2 by decide), if_neg (show ¬ 1 = 3 by decide), if_pos (show 1 ≤ 2 by decide), if_neg (show ¬ 1 = 3 by decide), if_pos (show 1 ≤ 2 by decide)]
  exact decodeOf_one 1 (szN 1) (exN 1) (frN 1) (dgN 1 - 1) 2 24 (lsI 1) 104 (wdI ((rdN 1 : Nat) : Int)) true s ts ng E FF w hng hE hFF h1 h2 h7 h3 h4 g1 (by decide) g2 g3 g4 g5 g6 HF HB (fun w1 => cwidth_any 2 24 (lsI 1) 104 true w1) (by decide)
 ·unfold refC refG refT
  rw [if_neg (show ¬ 2 = 3 by decide), if_pos (show 2 ≤ 2 by decide), if_neg (show ¬ 2 = 3 by decide), if_pos (show 2 ≤ 2 by decide), if_neg (show ¬ 2 = 3 by decide), if_pos (show 2 ≤ 2 by decide)]
  exact decodeOf_one 2 (szN 2) (exN 2) (frN 2) (dgN 2 - 1) 2 53 (lsI 2) 971 (wdI ((rdN 2 : Nat) : Int)) true s ts ng E FF w hng hE hFF h1 h2 h7 h3 h4 g1 (by decide) g2 g3 g4 g5 g6 HF HB (fun w1 => cwidth_any 2 53 (lsI 2) 971 true w1) (by decide)
 ·unfold refC refG refT
  rw [if_pos (show 3 = 3 from rfl), if_pos (show 3 = 3 from rfl), if_pos (show 3 = 3 from rfl)]
  exact decodeOf_ext (szN 3) (exN 3) (frN 3) (dgN 3 - 1) 2 64 (lsI 3) 16320 (wdI ((rdN 3 : Nat) : Int)) true s ts ng E FF w hng hE hFF h1 h2 h7 h3 h4 g1 (by decide) g2 g3 g4 g5 g6 HF HB (fun w1 => cwidth_any 2 64 (lsI 3) 16320 true w1)
 ·unfold refC refG refT
  rw [if_neg (show ¬ 4 = 3 by decide), if_neg (show ¬ 4 ≤ 2 by decide), if_pos (show 4 ≤ 5 by decide), if_neg (show ¬ 4 = 3 by decide), if_neg (show ¬ 4 ≤ 2 by decide), if_pos (show 4 ≤ 5 by decide), if_neg (show ¬ 4 = 3 by decide), if_neg (show ¬ 4 ≤ 2 by decide), if_pos (show 4 ≤ 5 by decide)]
  exact decodeOf_two 4 (szN 4) (exN 4) (frN 4) (dgN 4 - 1) 16 6 (lsI 4) 57 (wdI ((rdN 4 : Nat) : Int)) false s ts ng E FF w hng hE hFF h1 h2 h7 h3 h4 g1 (by decide) g2 g3 g4 g5 g6 HF HB (fun w1 => cwidth_any 16 6 (lsI 4) 57 false w1)
 ·unfold refC refG refT
  rw [if_neg (show ¬ 5 = 3 by decide), if_neg (show ¬ 5 ≤ 2 by decide), if_pos (show 5 ≤ 5 by decide), if_neg (show ¬ 5 = 3 by decide), if_neg (show ¬ 5 ≤ 2 by decide), if_pos (show 5 ≤ 5 by decide), if_neg (show ¬ 5 = 3 by decide), if_neg (show ¬ 5 ≤ 2 by decide), if_pos (show 5 ≤ 5 by decide)]
  exact decodeOf_two 5 (szN 5) (exN 5) (frN 5) (dgN 5 - 1) 16 14 (lsI 5) 49 (wdI ((rdN 5 : Nat) : Int)) false s ts ng E FF w hng hE hFF h1 h2 h7 h3 h4 g1 (by decide) g2 g3 g4 g5 g6 HF HB (fun w1 => cwidth_any 16 14 (lsI 5) 49 false w1)
 ·unfold refC refG refT
  rw [if_neg (show ¬ 6 = 3 by decide), if_neg (show ¬ 6 ≤ 2 by decide), if_neg (show ¬ 6 ≤ 5 by decide), if_neg (show ¬ 6 = 3 by decide), if_neg (show ¬ 6 ≤ 2 by decide), if_neg (show ¬ 6 ≤ 5 by decide), if_neg (show ¬ 6 = 3 by decide), if_neg (show ¬ 6 ≤ 2 by decide), if_neg (show ¬ 6 ≤ 5 by decide)]
  exact decodeOf_three 6 (szN 6) (exN 6) (frN 6) (dgN 6 - 1) 2 24 (lsI 6) 103 (wdI ((rdN 6 : Nat) : Int)) false s ts ng E FF w hng hE hFF h1 h2 h7 h3 h4 g1 (by decide) g2 g3 g4 g5 g6 HF HB (fun w1 => cwidth_any 2 24 (lsI 6) 103 false w1)
 ·unfold refC refG refT
  rw [if_neg (show ¬ 7 = 3 by decide), if_neg (show ¬ 7 ≤ 2 by decide), if_neg (show ¬ 7 ≤ 5 by decide), if_neg (show ¬ 7 = 3 by decide), if_neg (show ¬ 7 ≤ 2 by decide), if_neg (show ¬ 7 ≤ 5 by decide), if_neg (show ¬ 7 = 3 by decide), if_neg (show ¬ 7 ≤ 2 by decide), if_neg (show ¬ 7 ≤ 5 by decide)]
  exact decodeOf_three 7 (szN 7) (exN 7) (frN 7) (dgN 7 - 1) 2 56 (lsI 7) 71 (wdI ((rdN 7 : Nat) : Int)) false s ts ng E FF w hng hE hFF h1 h2 h7 h3 h4 g1 (by decide) g2 g3 g4 g5 g6 HF HB (fun w1 => cwidth_any 2 56 (lsI 7) 71 false w1)
 ·unfold refC refG refT
  rw [if_neg (show ¬ 8 = 3 by decide), if_neg (show ¬ 8 ≤ 2 by decide), if_neg (show ¬ 8 ≤ 5 by decide), if_neg (show ¬ 8 = 3 by decide), if_neg (show ¬ 8 ≤ 2 by decide), if_neg (show ¬ 8 ≤ 5 by decide), if_neg (show ¬ 8 = 3 by decide), if_neg (show ¬ 8 ≤ 2 by decide), if_neg (show ¬ 8 ≤ 5 by decide)]
  exact decodeOf_three 8 (szN 8) (exN 8) (frN 8) (dgN 8 - 1) 2 53 (lsI 8) 970 (wdI ((rdN 8 : Nat) : Int)) false s ts ng E FF w hng hE hFF h1 h2 h7 h3 h4 g1 (by decide) g2 g3 g4 g5 g6 HF HB (fun w1 => cwidth_any 2 53 (lsI 8) 970 false w1)
theorem refC_cls (k : Nat) (hk : 1 ≤ k ∧ k ≤ 8) (ng : Bool) (E FF : Nat) : refC k ng E FF = ((clsN k ng E FF : Nat) : Int) := by
 unfold refC clsN
 have ho : onesN k = 2 ^ exN k - 1 := rfl
 have hp : 0 < 2 ^ exN k := Nat.pow_pos (by omega)
 have hd : 0 < 2 ^ (dgN k - 1) := Nat.pow_pos (by omega)
 have h1 : 2 ≤ 2 ^ exN k := by
  have h7 := (sizes_fit hk).2.2.2.2.2
  have : 2 ^ 1 ≤ 2 ^ exN k := Nat.pow_le_pow_right (by omega) (by omega)
  omega
 by_cases h3 : k = 3
 ·have hd3 : 2 ^ (dgN k - 1) = 2 ^ 63 := by rw [h3]; rfl
  rw [if_pos h3, if_pos (show k ≤ 3 by omega), ho, hd3, if_pos h3]
  generalize (2 : Nat) ^ exN k = px at *
  generalize (2 : Nat) ^ 63 = p63 at *
  by_cases e0 : E = 0
  ·rw [if_neg (show ¬ E + 1 = px by omega), if_pos e0, if_neg (show ¬ (0 < E ∧ FF < p63) by omega)]
   split <;> rfl
  ·rw [if_neg e0]
   by_cases e1 : E + 1 = px
   ·rw [if_pos e1, if_pos (show E = px - 1 by omega)]
    split <;> rfl
   ·rw [if_neg e1, if_neg (show ¬ E = px - 1 by omega)]
    by_cases ef : FF < p63
    ·rw [if_pos (show 0 < E ∧ FF < p63 by omega), if_pos (show k = 3 ∧ FF < p63 from ⟨h3, ef⟩)]
     rfl
    ·rw [if_neg (show ¬ (0 < E ∧ FF < p63) by omega), if_neg (show ¬ (k = 3 ∧ FF < p63) from fun h => ef h.2), if_neg (show ¬ FF = 0 by omega)]
     rfl
 ·rw [if_neg h3]
  by_cases h2 : k ≤ 2
  ·rw [if_pos h2, if_pos (show k ≤ 3 by omega), ho, if_neg h3]
   generalize (2 : Nat) ^ exN k = px at *
   generalize (2 : Nat) ^ (dgN k - 1) = pd at *
   by_cases e0 : E = 0
   ·rw [if_neg (show ¬ E + 1 = px by omega), if_pos e0, if_neg (show ¬ 0 < E by omega), Nat.add_zero]
    split <;> rfl
   ·rw [if_neg e0]
    by_cases e1 : E + 1 = px
    ·rw [if_pos e1, if_pos (show E = px - 1 by omega)]
     split <;> rfl
    ·rw [if_neg e1, if_neg (show ¬ E = px - 1 by omega), if_pos (show 0 < E by omega), if_neg (show ¬ FF + pd = 0 by omega), if_neg (show ¬ (k = 3 ∧ FF < 2 ^ 63) from fun h => h3 h.1)]
     rfl
  ·rw [if_neg h2, if_neg (show ¬ k ≤ 3 by omega)]
   by_cases h5 : k ≤ 5
   ·rw [if_pos h5, if_pos h5]
    split <;> rfl
   ·rw [if_neg h5, if_neg h5]
    split
    ·split <;> rfl
    ·rfl
theorem open_any (n : Int) (s : ByteArray) (w : World) : Calls Tryz.prog 11 #[.int .i64 n, .string s] w fun z w' => z = .returned (.int .i64 (patC n s)) ∧ Below w.heap.size w w' := by
 unfold patC
 by_cases hf : famC n = 0
 ·rw [if_pos hf]
  exact open_none n s w hf
 ·rw [if_neg hf]
  obtain ⟨h1, h2, h3⟩ := famC_in hf
  obtain ⟨k, rfl⟩ : ∃ k : Nat, n = (k : Int) := ⟨n.toNat, h3.symm⟩
  rw [Int.toNat_natCast] at h1 h2 ⊢
  have HF := fun w1 => format_any k ⟨h1, h2⟩ w1
  rcases eight ⟨h1, h2⟩ with rfl | rfl | rfl | rfl | rfl | rfl | rfl | rfl
  all_goals exact open_W _ _ _ _ _ _ _ _ _ _ s w HF
theorem decodeOf_pat (n : Int) (s : ByteArray) (w : World) (h : patC n s = 0) :
  Calls Tryz.prog 13 #[.int .i64 n, .string s] w (RDec w ((decC n s : Nat) : Int) (refG n.toNat (fldN n.toNat s) (fldE n.toNat s) (fldF n.toNat s)) (refT n.toNat (fldN n.toNat s) (fldE n.toNat s) (fldF n.toNat s)) (clsG n s)) := by
 have hf : famC n ≠ 0 := fun hf => by
  unfold patC at h
  rw [if_pos hf] at h
  omega
 have hs : s.size = szN n.toNat := by
  unfold patC at h
  rw [if_neg hf] at h
  by_cases c : s.size = szN n.toNat
  ·exact c
  ·rw [if_neg c] at h
   omega
 obtain ⟨h1, h2, h3⟩ := famC_in hf
 have := decodeOf_any n.toNat ⟨h1, h2⟩ s w hs
 rw [refC_cls _ ⟨h1, h2⟩, h3] at this
 unfold decC clsG
 rw [if_pos h, if_pos h]
 exact this
end Go.Proofs.YtiiphandhpilgaaGreatDoor
namespace Go.Proofs.YtiiphandhpilgaaGreatDoor
open Go.RowKit
set_option maxHeartbeats 800000 in
theorem floorOf_any (v : Value) (t : Trip) (w : World) (hv : Rv w v t) (hL : (Dg.dg 65536 t.n).length ≤ 100000) (h1 : -1000000 ≤ t.e) (h2 : t.e ≤ 1000000) :
  Calls Tryz.prog 29 #[v] w (RNum w (shN t.n t.e)) := by
 obtain ⟨s0, rfl, hr⟩ := hv
 have HU : Hid (¬t.e < 0 → ∀ w1, Below w.heap.size w w1 → Calls Tryz.prog 61 #[s0, .int .i64 t.e] w1 (RNum w1 (shN t.n t.e))) := fun h w1 b => by
  unfold shN
  rw [if_neg h]
  obtain ⟨m, hm⟩ : ∃ m : Nat, t.e = (m : Int) := ⟨t.e.toNat, by omega⟩
  rw [hm, Int.toNat_natCast]
  have := up_any s0 _ m w1 (hr.later b) (Dg.small_dg _ _ (by omega)) (by omega) (by omega)
  rwa [Dg.vl_dg _ _ (by omega)] at this
 have HD : Hid (t.e < 0 → ∀ w1, Below w.heap.size w w1 → Calls Tryz.prog 59 #[s0, .int .i64 (-t.e)] w1 (RNum w1 (shN t.n t.e))) := fun h w1 b => by
  unfold shN
  rw [if_pos h]
  obtain ⟨m, hm⟩ : ∃ m : Nat, -t.e = (m : Int) := ⟨(-t.e).toNat, by omega⟩
  rw [hm, Int.toNat_natCast]
  have := down_any s0 _ m (m / 16) (m % 16) (2 ^ (m % 16)) (2 ^ (16 - m % 16)) w1 (hr.later b) (Dg.small_dg _ _ (by omega)) (by omega) (by omega) (by omega) (by omega) rfl rfl
  rwa [Dg.vl_dg _ _ (by omega)] at this
 obtain ⟨ao, ca, rfl⟩ := hr.shape
 obtain ⟨ts, n, e⟩ := t
 simp only at HU HD h1 h2 ⊢
 obtain ⟨R, hR⟩ : ∃ R, shN n e = R := ⟨_, rfl⟩
 rw [hR] at HU HD ⊢
 obtain ⟨m, hm⟩ : ∃ m, (Dg.dg 65536 n).length = m := ⟨_, rfl⟩
 rw [hm] at HU HD ⊢
 have bA := below_alloc w (.cells #[.bool ts, .slice ao m ca, .int .i64 e] 31)
 clear hr hL hR hm
 by_cases h : e < 0
 ·have h3 : ¬0 ≤ e := by omega
  go_enter Tryz.func29, Tryz.ntmps29
  go_wp2_with fail
  refine (HD.out h _ bA).mono ?_
  rintro z w1 ⟨v1, rfl, r1, b1⟩
  have b01 := below_trans bA b1
  go_wp2
  go_ret
  exact ⟨_, rfl, r1, b01⟩
 ·have h3 : 0 ≤ e := by omega
  go_enter Tryz.func29, Tryz.ntmps29
  go_wp2_with fail
  refine (HU.out h _ bA).mono ?_
  rintro z w1 ⟨v1, rfl, r1, b1⟩
  have b01 := below_trans bA b1
  go_wp2
  go_ret
  exact ⟨_, rfl, r1, b01⟩
end Go.Proofs.YtiiphandhpilgaaGreatDoor
namespace Go.Proofs.YtiiphandhpilgaaGreatDoor
open Go.RowKit
theorem strip_eq (r : Nat) (hr : 2 ≤ r) : ∀ (j n q : Nat) (p : Int), q % r ≠ 0 → r ^ j * q < 2 ^ n → stripF r n (r ^ j * q) p = (q, p + (j : Int))
 | 0, n, q, p, hq, hn => by
  rw [Nat.pow_zero, Nat.one_mul] at hn ⊢
  cases n with
  | zero =>
   have : q = 0 := by simpa using hn
   subst this
   simp at hq
  | succ n =>
   rw [stripF, if_neg hq]
   simp
 | j + 1, n, q, p, hq, hn => by
  have e1 : r ^ (j + 1) * q = r * (r ^ j * q) := by rw [Nat.pow_succ, Nat.mul_comm (r ^ j) r, Nat.mul_assoc]
  rw [e1] at hn ⊢
  cases n with
  | zero =>
   exfalso
   have h0 : r * (r ^ j * q) = 0 := by simpa using hn
   have hq0 : q ≠ 0 := fun h => hq (by rw [h]; simp)
   have h1 : 0 < r ^ j * q := Nat.mul_pos (Nat.pow_pos (by omega)) (Nat.pos_of_ne_zero hq0)
   have h2 : 0 < r * (r ^ j * q) := Nat.mul_pos (by omega) h1
   omega
  | succ n =>
   rw [stripF, if_pos (Nat.mul_mod_right _ _), Nat.mul_div_cancel_left _ (by omega)]
   have hlt : r ^ j * q < 2 ^ n := by
    have h2 : 2 * (r ^ j * q) ≤ r * (r ^ j * q) := Nat.mul_le_mul_right _ hr
    rw [Nat.pow_succ] at hn
    omega
   rw [strip_eq r hr j n q (p + 1) hq hlt]
   congr 1
   push_cast
   omega
theorem or_add {f n : Nat} (h : f < 2 ^ n) : f ||| 2 ^ n = f + 2 ^ n := by
 rw [Nat.or_comm, nat_join n (2 ^ n) f (Nat.mod_self _) h]
 omega
theorem or_top {f n : Nat} (h1 : 2 ^ n ≤ f) (h2 : f < 2 ^ (n + 1)) : f ||| 2 ^ n = f := by
 rw [Nat.pow_succ] at h2
 have e : f = 2 ^ n ||| (f - 2 ^ n) := by
  rw [nat_join n (2 ^ n) (f - 2 ^ n) (Nat.mod_self _) (by omega)]
  omega
 rw [e, Nat.or_comm, ← Nat.or_assoc, Nat.or_self]
theorem refT_num {k : Nat} (hk : 1 ≤ k ∧ k ≤ 8) {ng : Bool} {E F : Nat} (hE : E < 2 ^ exN k) (hF : F < 2 ^ frN k) (hc : clsN k ng E F = 2) : refT k ng E F = bare ⟨ng, plcN k E F, wdI (rdN k : Int) * plcP k E⟩ := by
 unfold refT
 by_cases h3 : k = 3
 ·subst h3
  rw [if_pos rfl]
  unfold clsN at hc
  rw [if_pos (show 3 ≤ 3 by omega), show onesN 3 = 2 ^ exN 3 - 1 from rfl] at hc
  have hp : 2 ≤ 2 ^ exN 3 := by decide
  have hF' : F < 2 ^ 64 := hF
  have hlead : leadN 3 = 2 ^ 63 := rfl
  unfold plcN plcP
  rw [if_neg (show ¬ rdN 3 = 16 by decide), if_neg (show ¬ rdN 3 = 16 by decide), hlead]
  generalize (2 : Nat) ^ exN 3 = px at *
  by_cases e0 : E = 0
  ·rw [if_neg (show ¬ (E + 1 = px ∨ 0 < E ∧ F < 2 ^ (dgN 3 - 1)) by omega), if_pos e0, if_pos e0]
   subst e0
   simp
  ·rw [if_neg e0] at hc
   by_cases e1 : E = px - 1
   ·rw [if_pos e1] at hc
    by_cases hz : F = (if 3 = 3 then 2 ^ 63 else 0)
    ·rw [if_pos hz] at hc
     omega
    ·rw [if_neg hz] at hc
     omega
   ·rw [if_neg e1] at hc
    have hf : ¬ F < 2 ^ 63 := fun hf => by
     rw [if_pos ⟨rfl, hf⟩] at hc
     omega
    rw [if_neg (show ¬ (E + 1 = px ∨ 0 < E ∧ F < 2 ^ (dgN 3 - 1)) from fun h => by
     rcases h with h | h
     ·omega
     ·exact hf h.2), if_neg e0, if_neg e0, or_top (by omega) hF', show lsI 3 + (((E - 1 : Nat) : Nat) : Int) = lsI 3 + (E : Int) - 1 from by omega]
 ·rw [if_neg h3]
  by_cases h2 : k ≤ 2
  ·rw [if_pos h2]
   have hfd : frN k = dgN k - 1 ∧ rdN k = 2 ∧ 2 ≤ 2 ^ exN k := by rcases (show k = 1 ∨ k = 2 by omega) with rfl | rfl <;> decide
   unfold clsN at hc
   rw [if_pos (show k ≤ 3 by omega), show onesN k = 2 ^ exN k - 1 from rfl, if_neg h3] at hc
   rw [hfd.1] at hF
   unfold plcN plcP
   rw [if_neg (show ¬ rdN k = 16 by omega), if_neg (show ¬ rdN k = 16 by omega)]
   have hp := hfd.2.2
   have hL : leadN k = 2 ^ (dgN k - 1) := rfl
   rw [hL]
   by_cases e0 : E = 0
   ·rw [if_neg (show ¬ E + 1 = 2 ^ exN k by omega), if_pos e0, if_pos e0, if_neg (show ¬ 0 < E by omega)]
    subst e0
    simp
   ·rw [if_neg e0] at hc
    by_cases e1 : E = 2 ^ exN k - 1
    ·rw [if_pos e1] at hc
     split at hc <;> omega
    ·rw [if_neg (show ¬ E + 1 = 2 ^ exN k by omega), if_neg e0, if_neg e0, if_pos (show 0 < E by omega), or_add hF, show lsI k + (((E - 1 : Nat) : Nat) : Int) = lsI k + (E : Int) - 1 from by omega]
  ·rw [if_neg h2]
   by_cases h5 : k ≤ 5
   ·rw [if_pos h5]
    have hr : rdN k = 16 := by rcases (show k = 4 ∨ k = 5 by omega) with rfl | rfl <;> rfl
    unfold plcN plcP
    rw [if_pos hr, if_pos hr]
   ·rw [if_neg h5]
    have hfd : frN k = dgN k - 1 ∧ rdN k = 2 := by rcases (show k = 6 ∨ k = 7 ∨ k = 8 by omega) with rfl | rfl | rfl <;> decide
    rw [hfd.1] at hF
    unfold clsN at hc
    rw [if_neg (show ¬ k ≤ 3 by omega), if_neg h5] at hc
    have e0 : E ≠ 0 := fun e0 => by
     rw [if_pos e0] at hc
     split at hc <;> omega
    unfold plcN plcP
    rw [if_neg (show ¬ rdN k = 16 by omega), if_neg (show ¬ rdN k = 16 by omega), if_neg e0, if_neg e0, if_neg e0, show leadN k = 2 ^ (dgN k - 1) from rfl, or_add hF]
theorem val2 {k : Nat} (hk : 1 ≤ k ∧ k ≤ 8) {ng : Bool} {E F : Nat} (hE : E < 2 ^ exN k) (hF : F < 2 ^ frN k) (hF64 : F < 2 ^ 64) (hc : clsN k ng E F = 2) (hr : rdN k = 2) :
  valM k ng E F = (refT k ng E F).n ∧ valP k ng E F = (refT k ng E F).e := by
 rw [refT_num hk hE hF hc]
 unfold valM valP
 rw [if_pos hc, if_pos hc, hr]
 have h0 := plcN_pos hc
 have hl := plcN_lt hk E hF64
 generalize plcN k E F = D at *
 generalize plcP k E = P at *
 obtain ⟨m, hm⟩ := tz_spec (n := D) (by omega)
 have hd := div_tz hm
 have hs := strip_eq 2 (by omega) (tz D) 64 (2 * m + 1) P (by omega) (by rw [← hm]; exact hl)
 rw [← hm] at hs
 rw [hs]
 unfold bare
 rw [if_neg (by show ¬ D = 0; omega)]
 refine ⟨hd.symm, ?_⟩
 show P + (tz D : Int) = wdI ((2 : Nat) : Int) * P + (tz D : Int)
 rw [show wdI ((2 : Nat) : Int) = 1 from by decide, Int.one_mul]
theorem val16 {k : Nat} (hk : 1 ≤ k ∧ k ≤ 8) {ng : Bool} {E F : Nat} (hE : E < 2 ^ exN k) (hF : F < 2 ^ frN k) (hF64 : F < 2 ^ 64) (hc : clsN k ng E F = 2) (hr : rdN k = 16) :
  4 * valP k ng E F ≤ (refT k ng E F).e ∧ (refT k ng E F).e < 4 * valP k ng E F + 4 ∧ valM k ng E F = shN (refT k ng E F).n ((refT k ng E F).e - 4 * valP k ng E F) := by
 rw [refT_num hk hE hF hc]
 unfold valM valP
 rw [if_pos hc, if_pos hc, hr]
 have h0 := plcN_pos hc
 have hl := plcN_lt hk E hF64
 generalize plcN k E F = D at *
 generalize plcP k E = P at *
 obtain ⟨m, hm⟩ := tz_spec (n := D) (by omega)
 have hd := div_tz hm
 obtain ⟨a, b, hab, hb⟩ : ∃ a b, tz D = 4 * a + b ∧ b < 4 := ⟨tz D / 4, tz D % 4, by omega, Nat.mod_lt _ (by omega)⟩
 have e16 : D = 16 ^ a * (2 ^ b * (2 * m + 1)) := by
  rw [hm, hab, Nat.pow_add, Nat.pow_mul, Nat.mul_assoc]
 have hq : 2 ^ b * (2 * m + 1) % 16 ≠ 0 := by
  rcases (show b = 0 ∨ b = 1 ∨ b = 2 ∨ b = 3 by omega) with rfl | rfl | rfl | rfl <;> omega
 have hs := strip_eq 16 (by omega) a 64 (2 ^ b * (2 * m + 1)) P hq (by rw [← e16]; exact hl)
 rw [← e16] at hs
 rw [hs]
 unfold bare
 rw [if_neg (by show ¬ D = 0; omega), show wdI ((16 : Nat) : Int) = 4 from by decide]
 simp only
 rw [hab]
 refine ⟨by push_cast; omega, by push_cast; omega, ?_⟩
 rw [show 4 * P + ((4 * a + b : Nat) : Int) - 4 * (P + (a : Int)) = (b : Int) from by push_cast; omega]
 unfold shN
 rw [if_neg (by omega), Int.toNat_natCast, ← hab, hd, Nat.mul_comm]
end Go.Proofs.YtiiphandhpilgaaGreatDoor
namespace Go.Proofs.YtiiphandhpilgaaGreatDoor.dy
open Go.ChangeShapes Go.WideShapes Go.ChangeAt Go.RowKit Go.Joins
theorem own : ownKnob Tryz.prog.godebug = none := by kernel_rfl
theorem laidOut : laidOutB Tryz.prog = true := by kernel_rfl
theorem cellsT : Tryz.prog.cellsOf 193 = 32 := by kernel_rfl
theorem cellsU : Tryz.prog.cellsOf 5 = 1 := by kernel_rfl
theorem gTab : Tryz.prog.globalNamed (Rows.codecEncodesRow.laid.headD (Rows.codecEncodesRow.func, .nil)).1 = some 0 := by kernel_rfl
theorem tTab : (Tryz.prog.globals[0]?).map (·.type) = some 193 := by kernel_rfl
theorem door_met (os : Os) (args : Array Value) : laidMetH Tryz.prog Rows.codecEncodesRow.laid ((World.doorLaid Tryz.prog 400 os).forCall (fun _ _ => 0) ⟨#[], args, []⟩).memory :=
 laidMetH_of_parts3 (fuel := 8) (laidMet_of_run' 8 (by kernel_rfl) (by kernel_rfl)) (by kernel_rfl) (by kernel_rfl)
theorem tab_of_laid {W : World} (h : laidMetH Tryz.prog Rows.codecEncodesRow.laid W) : Tab W := by
 rw [MakeChecks.laidMetH_plain _ _ _ (by kernel_rfl)] at h
 obtain ⟨ps, ⟨g0, t0, cs0, f0, p0, q0, hg0, ht0, hv0, hd0, _⟩, _⟩ := h
 obtain rfl := Option.some.inj (gTab.symm.trans hg0)
 obtain rfl := Option.some.inj (tTab.symm.trans ht0)
 intro j hj
 have hc := Lib.cells_of_tab (zs := Lib.deBruijn32tab.map (fun n : Nat => (n : Int))) Tryz.underlying193 Tryz.underlying5 cellsU cellsT hd0
 have hv := World.var?_cell hg0 hv0 j
 have hl : j < Lib.deBruijn32tab.length := hj
 rw [hv, ← Array.getElem?_toList, hc, List.getElem?_map, List.getElem?_map, List.getElem?_eq_getElem hl]
 simp [List.getD_eq_getElem?_getD, List.getElem?_eq_getElem hl]
theorem open_int' {H : Type} {enc : TypeId × Value → H} {W : World} {base : Nat} {v : Value} {d : DataW H} {p : List MemPlace} (hv : Value.okWide Tryz.prog W .any base 3 v) (h : DataW.Trod enc Tryz.prog W 0 (fun _ => true) true 3 v d p) :
  ∃ n : Int, v = .int .i64 n ∧ (Lit.int .i64 n).wf = true := by
 obtain ⟨n, rfl, -, -, hw⟩ := open_int Tryz.underlying3 hv h
 exact ⟨n, rfl, hw⟩
theorem open_bool' {H : Type} {enc : TypeId × Value → H} {W : World} {base : Nat} {v : Value} {d : DataW H} {p : List MemPlace} (hv : Value.okWide Tryz.prog W .any base 4 v) (h : DataW.Trod enc Tryz.prog W 0 (fun _ => true) true 4 v d p) :
  ∃ b : Bool, v = .bool b := by
 obtain ⟨b, rfl, -, -⟩ := open_bool Tryz.underlying4 hv h
 exact ⟨b, rfl⟩
theorem and_mk {a b : Bool} (ha : a = true) (hb : b = true) : (a && b) = true := by rw [ha, hb]; rfl
theorem words_cut (a r : List Char) (h : ∀ c ∈ a, c ≠ Char.ofNat 32) : wordsSigns (a ++ Char.ofNat 32 :: r) = a :: wordsSigns r := by
 induction a with
 | nil => rfl
 | cons c a ih =>
  have h1 : c ≠ Char.ofNat 32 := h c (by simp)
  have h2 := ih (fun x hx => h x (by simp [hx]))
  show wordsSigns (c :: (a ++ Char.ofNat 32 :: r)) = _
  rw [wordsSigns]
  ·rw [h2]
  ·intro e; exact h1 e
theorem initS : Tryz.prog.initOrder = "harness" ++ (" " ++ ("a5ff61f701ec08b3012c7e39738bb1abb900ba7929daee748ee7e213b8517aae" ++ (" " ++ ("cut" ++ (" " ++ "at slipstick/slipsticklaw.CodecEncodes slipstick/slipsticklaw.CodecNexts slipstick/slipsticklaw.CodecSteps"))))) := by kernel_rfl
theorem blank : (" " : String).toList = [Char.ofNat 32] := by decide +kernel
theorem no_blank1 : ∀ c ∈ ("harness" : String).toList, c ≠ Char.ofNat 32 := by decide +kernel
theorem no_blank2 : ∀ c ∈ ("a5ff61f701ec08b3012c7e39738bb1abb900ba7929daee748ee7e213b8517aae" : String).toList, c ≠ Char.ofNat 32 := by decide +kernel
theorem no_blank3 : ∀ c ∈ ("cut" : String).toList, c ≠ Char.ofNat 32 := by decide +kernel
theorem sum_signs : isSumSigns ("a5ff61f701ec08b3012c7e39738bb1abb900ba7929daee748ee7e213b8517aae" : String).toList = true := by decide +kernel
theorem words_of {P : Program} {s r : String} (h : P.initOrder = "harness" ++ (" " ++ (s ++ (" " ++ ("cut" ++ (" " ++ r)))))) (hn : ∀ c ∈ s.toList, c ≠ Char.ofNat 32) :
  wordsSigns P.initOrder.toList = ("harness" : String).toList :: s.toList :: ("cut" : String).toList :: wordsSigns r.toList := by
 rw [h, String.toList_append, String.toList_append, String.toList_append, String.toList_append, String.toList_append, String.toList_append, blank]
 simp only [List.singleton_append]
 rw [words_cut _ _ no_blank1, words_cut _ _ hn, words_cut _ _ no_blank3]
theorem main_of {P : Program} {s : List Char} {ws : List (List Char)} (h : wordsSigns P.initOrder.toList = ("harness" : String).toList :: s :: ws) (hs : isSumSigns s = true) : P.mainIs = some (true, s) := by
 unfold Program.mainIs
 rw [h]
 simp only [hs, Bool.not_true, Bool.false_eq_true, if_false, beq_self_eq_true, if_true]
theorem behind_of {P : Program} {s : List Char} {ws : List (List Char)} (h : wordsSigns P.initOrder.toList = ("harness" : String).toList :: s :: ws) (hs : isSumSigns s = true) : behindMainWord (wordsSigns P.initOrder.toList) = ws := by
 rw [h]
 unfold behindMainWord
 simp only [hs, beq_self_eq_true, Bool.true_or, Bool.and_true, if_true]
theorem strip_none (w : List Char) (ws : List (List Char)) : ∀ os : List String, (∀ o ∈ os, (w == o.toList) = false) → stripLifts os (w :: ws) = ([], w :: ws)
 | [], _ => rfl
 | o :: os, h => by
  rw [stripLifts, if_neg (by rw [h o (by simp)]; decide)]
  exact strip_none w ws os (fun x hx => h x (by simp [hx]))
theorem cut_none : ∀ o ∈ liftWords, (("cut" : String).toList == o.toList) = false := by decide +kernel
theorem cut_gc : (("cut" : String).toList == ("gc" : String).toList) = false := by decide +kernel
theorem cut_spec : (("cut" : String).toList == ("spec" : String).toList) = false := by decide +kernel
theorem lifts_of {P : Program} {s : List Char} {ws : List (List Char)} (h : wordsSigns P.initOrder.toList = ("harness" : String).toList :: s :: ("cut" : String).toList :: ws) (hs : isSumSigns s = true) : P.headLifts = [] := by
 unfold Program.headLifts
 rw [behind_of h hs, strip_none _ _ _ cut_none]
 simp
theorem make_of {P : Program} {s : List Char} {ws : List (List Char)} (h : wordsSigns P.initOrder.toList = ("harness" : String).toList :: s :: ("cut" : String).toList :: ws) (hs : isSumSigns s = true) : P.make = some .cut := by
 unfold Program.make
 rw [behind_of h hs]
 simp only [cut_gc, cut_spec, Bool.or_self, Bool.false_eq_true, if_false, beq_self_eq_true, Bool.true_or, if_true]
theorem final_of {P : Program} {s : List Char} {ws : List (List Char)} (h : wordsSigns P.initOrder.toList = ("harness" : String).toList :: s :: ("cut" : String).toList :: ws) (hs : isSumSigns s = true) : P.liftsFinal = false := by
 unfold Program.liftsFinal
 rw [behind_of h hs, lifts_of h hs]
 have e : ((some ("cut" : String).toList : Option (List Char)) == some ("carried" : String).toList) = false := by decide +kernel
 simp only [List.head?_cons, e, Bool.false_and, List.contains_nil, Bool.or_self]
theorem enter_of {P : Program} {s : List Char} {ws : List (List Char)} (h : wordsSigns P.initOrder.toList = ("harness" : String).toList :: s :: ("cut" : String).toList :: ws) (hs : isSumSigns s = true)
  (h1 : P.laysLater = false) (h2 : P.bearsReflect = false) (h3 : P.doorFits [] = true) : P.mayEnter = true := by
 unfold Program.mayEnter
 rw [behind_of h hs]
 simp only [strip_none _ _ _ cut_none, h1, h2, h3, List.head?_cons, beq_self_eq_true, List.contains_nil, Bool.not_false, Bool.or_true, Bool.and_self]
theorem words_is : wordsSigns Tryz.prog.initOrder.toList = ("harness" : String).toList :: ("a5ff61f701ec08b3012c7e39738bb1abb900ba7929daee748ee7e213b8517aae" : String).toList :: ("cut" : String).toList :: wordsSigns ("at slipstick/slipsticklaw.CodecEncodes slipstick/slipsticklaw.CodecNexts slipstick/slipsticklaw.CodecSteps" : String).toList := words_of initS no_blank2
theorem main_is : Tryz.prog.mainIs = some (true, ("a5ff61f701ec08b3012c7e39738bb1abb900ba7929daee748ee7e213b8517aae" : String).toList) := main_of words_is sum_signs
theorem make_is : Tryz.prog.make = some .cut := make_of words_is sum_signs
theorem final_is : Tryz.prog.liftsFinal = false := final_of words_is sum_signs
theorem enter_is : Tryz.prog.mayEnter = true := enter_of words_is sum_signs (by kernel_rfl) (by kernel_rfl) (by kernel_rfl)
end Go.Proofs.YtiiphandhpilgaaGreatDoor.dy
namespace Go.Proofs.YtiiphandhpilgaaGreatDoor
open Go.RowKit
def RDivI (xs cur : List Nat) (d k r : Nat) : Prop :=
 cur.length = xs.length ∧ Dg.Small 65536 cur ∧ r < d ∧ Dg.vl 65536 (xs.drop k) = Dg.vl 65536 (cur.drop k) * d + r
theorem rdivI_step {xs cur : List Nat} {d k r t : Nat} (h : RDivI xs cur d (k + 1) r) (hk : k < xs.length) (ht : t = 65536 * r + xs.getD k 0) (hd : 0 < d) (hq : t / d < 65536) :
  RDivI xs (cur.set k (t / d)) d k (t % d) := by
 obtain ⟨h1, h2, h3, h5⟩ := h
 refine ⟨by simpa using h1, Dg.small_set h2 _ _ hq, Nat.mod_lt _ hd, ?_⟩
 rw [drop_eq xs k hk, drop_eq (cur.set k (t / d)) k (by simpa using (by omega : k < cur.length)), Dg.getD_set _ _ _ _ (by omega), if_pos rfl, List.drop_set_of_lt (by omega)]
 simp only [Dg.vl]
 rw [h5]
 have := Nat.div_add_mod t d
 rw [Nat.add_mul, Nat.mul_comm (t / d) d, Nat.mul_assoc, Nat.mul_add]
 omega
theorem div_small16 {t d r x : Nat} (h1 : r < d) (h2 : x < 65536) (ht : t = 65536 * r + x) : t / d < 65536 := by
 rw [Nat.div_lt_iff_lt_mul (by omega)]
 have : (r + 1) * 65536 ≤ d * 65536 := Nat.mul_le_mul_right _ h1
 rw [Nat.mul_comm 65536 d]
 omega
theorem one_digit (d : Nat) (h : d < 65536) : Dg.dg 65536 d = if d = 0 then [] else [d] := by
 by_cases e : d = 0
 ·subst e; rfl
 ·rw [if_neg e]
  exact (Dg.eq_dg 65536 (by omega) [d] d (Dg.small_cons.2 ⟨h, Dg.small_nil _ (by omega)⟩) (by intro _; simpa using e) (by simp [Dg.vl])).symm
set_option maxHeartbeats 3200000 in
theorem into1_any (va : Value) (xs : List Nat) (vb : Value) (d : Nat) (w : World) (ha : Rd w .i64 va xs) (hb : Rd w .i64 vb [d]) (sa : Dg.Small 65536 xs) (hla : xs.length ≤ 1000000) (hd0 : 0 < d) (hd : d < 65536) :
  Calls Tryz.prog 62 #[va, vb] w fun e w' => ∃ vq vr, e = .returned (.tuple #[vq, vr]) ∧ Rd w' .i64 vq (Dg.dg 65536 (Dg.vl 65536 xs / d)) ∧ Rd w' .i64 vr (Dg.dg 65536 (Dg.vl 65536 xs % d)) ∧ Below w.heap.size w w' := by
 obtain ⟨i0, hi, hz0, hz1, hz2⟩ := info_parts Tryz.infoI64
 obtain ⟨ao, ca, rfl, -, -, hca⟩ := ha
 obtain ⟨bo, cb, rfl, -, -, hcb⟩ := hb
 obtain ⟨bb, boff, rfl, hcellb⟩ := hcb (by simp)
 have hcb0 := hcellb 0 (by simp)
 simp only [List.getD_cons_zero, Nat.add_zero] at hcb0
 have hlen1 : ([d] : List Nat).length = 1 := rfl
 rw [hlen1]
 clear hcellb hcb hlen1
 go_enter Tryz.func62, Tryz.ntmps62
 go_wp2_with (at_make; refine wpList_make_full _ rfl _ _ 29 rfl w.heap.size 3 i0 (.int .i64 0) 1 Tryz.underlying29 hi hz0 hz1 _ _ _ _ xs.length rfl rfl (by omega) (by omega) ?b2 ?b3 (Nat.le_refl _) ?_)
 case b2 => rw [hz2]; omega
 case b3 => unfold maxLen; omega
 intro w0 hown0 hgrow0
 have own0 := own_made hown0
 have bel0 : Below w.heap.size w w0 := (Below.refl _ _).grown hgrow0 (Nat.le_refl _) (fun k h => by cases h)
 clear hown0 hgrow0
 go_wp2
 go_loopw [7, 8] (fun rv iv wr => ∃ (k r : Nat) (cur : List Nat), k ≤ xs.length ∧ iv = .int .i64 ((k : Int) - 1) ∧ rv = .int .i64 r ∧ Own wr w.heap.size 3 .i64 (.slice (some ⟨w.heap.size, 0, none⟩) xs.length xs.length) cur ∧ RDivI xs cur d k r ∧ Below w.heap.size w wr)
  (fun _ iv _ => (intOf iv + 1).toNat)
 case atStart => exact ⟨xs.length, 0, _, Nat.le_refl _, rfl, rfl, own0, ⟨by simp, Dg.small_replicate _ _ (by omega), hd0, by simp [Dg.vl]⟩, bel0⟩
 case round =>
  clear own0 bel0
  obtain ⟨k, r, cur, hk, rfl, rfl, own, hI, bel⟩ := hrel
  have hlen := hI.1
  have hr := hI.2.2.1
  by_cases hk0 : k = 0
  ·subst hk0
   obtain ⟨h1, h2, h3, h5⟩ := hI
   simp only [List.drop_zero] at h5
   have e1 : Dg.vl 65536 xs / d = Dg.vl 65536 cur := by
    rw [h5, Nat.mul_comm, Nat.mul_add_div hd0, Nat.div_eq_of_lt h3]; omega
   have e2 : Dg.vl 65536 xs % d = r := by
    rw [h5, Nat.mul_comm, Nat.mul_add_mod, Nat.mod_eq_of_lt h3]
   have HE1 : Hid (Dg.vl 65536 xs / d = Dg.vl 65536 cur) := e1
   have HE2 : Hid (Dg.vl 65536 xs % d = r) := e2
   have hcl : cur.length ≤ 1000000 := by omega
   clear h5 e1 e2 hlen h1
   go_wp2_with fail
   refine (reftrim_any _ _ _ cur _ own.rd).mono ?_
   rintro e w' ⟨m, rfl, hm, rfl⟩
   have rq := rd_own_trim own h2 hm (by omega)
   have a1 : Below w'.heap.size w' (w'.alloc (.cells #[.int .i64 (r : Int)] 3)) := (Below.refl _ _).alloc (Nat.le_refl _) _
   have r1 := rd_new (w := w') (k := .i64) (e := 3) [r] #[.int .i64 (r : Int)] rfl (by unfold maxLen; simp)
   go_wp2_with fail
   refine (reftrim_any _ _ _ [r] _ r1).mono ?_
   rintro e w2 ⟨m2, rfl, hm2, rfl⟩
   have hml := hm2.1
   simp only [List.length_cons, List.length_nil] at hml
   have rr := rd_trim (cap' := m2) 65536 (by omega) r1 (Dg.small_cons.2 ⟨by omega, Dg.small_nil _ (by omega)⟩) hm2 (Nat.le_refl _) (by unfold maxLen; omega)
   have ev : Dg.vl 65536 [r] = r := by simp [Dg.vl]
   rw [ev] at rr
   have rq2 := rq.later a1
   have bel2 := below_trans bel a1
   clear hm hm2 r1 ev
   go_wp2
   go_ret2
   exact ⟨_, _, rfl, by rw [HE1.out]; exact rq2, by rw [HE2.out]; exact rr, bel2⟩
  ·obtain ⟨m, rfl⟩ : ∃ m, k = m + 1 := ⟨k - 1, by omega⟩
   obtain ⟨b, off, rfl, hcell⟩ := hca (by omega)
   have hx := cell_later bel (hcell m (by omega))
   have hbb := cell_later bel hcb0
   have hxl := sa m
   have hq := own.cell m (by omega)
   have hf := own.free m
   obtain ⟨x, ex⟩ : ∃ x, xs.getD m 0 = x := ⟨_, rfl⟩
   rw [ex] at hx hxl
   have hql := div_small16 (t := 65536 * r + x) hr hxl rfl
   have hst := rdivI_step hI (by omega) (by rw [ex]) hd0 hql
   have hrl : (65536 * r + x) % d < d := Nat.mod_lt _ hd0
   obtain ⟨t, ht⟩ : ∃ t, 65536 * r + x = t := ⟨_, rfl⟩
   have htl : t < 4294967296 := by omega
   rw [ht] at hst hql hrl
   have htI : 65536 * (r : Int) + (x : Int) = (t : Int) := by omega
   obtain ⟨q1, hq1⟩ : ∃ q1, t / d = q1 := ⟨_, rfl⟩
   obtain ⟨m1, hm1⟩ : ∃ m1, t % d = m1 := ⟨_, rfl⟩
   have e1 : (t : Int).tdiv (d : Int) = (q1 : Int) := by rw [Int.tdiv_eq_ediv_of_nonneg (by omega), ← hq1]; exact (Int.natCast_ediv t d).symm
   have e2 : (t : Int).tmod (d : Int) = (m1 : Int) := by rw [Int.tmod_eq_emod_of_nonneg (by omega), ← hm1]; exact (Int.natCast_emod t d).symm
   have e3 : (t : Int) / (d : Int) = (q1 : Int) := by rw [← hq1]; exact (Int.natCast_ediv t d).symm
   have e4 : (t : Int) % (d : Int) = (m1 : Int) := by rw [← hm1]; exact (Int.natCast_emod t d).symm
   rw [hq1] at hst hql
   rw [hm1] at hst hrl
   have e5 : IntKind.i64.wrap (q1 : Int) = (q1 : Int) := IntWalk.i64_in _ ⟨by omega, by omega⟩
   have hdne : ((d : Int) == 0) = false := by simp; omega
   clear ex hcell hca hI hq1 hm1 ht hlen
   go_wp2
   go_region
   all_goals go_wp2
   all_goals go_roundw
   case rel => exact ⟨m, _, _, by omega, by go_num, rfl, Own.later (own.store m _) (Below.drew (Below.refl _ _)), hst, (bel.setCell (by exact Nat.le_refl _) _).drew⟩
   case measure => simp [intOf]
end Go.Proofs.YtiiphandhpilgaaGreatDoor
namespace Go.Proofs.YtiiphandhpilgaaGreatDoor
open Go.RowKit
theorem from_any (d : Nat) (w : World) (hd : d < 65536) : Calls Tryz.prog 34 #[.int .i64 d] w (RNum w d) := by
 obtain ⟨i0, hi, hz0, hz1, hz2⟩ := info_parts Tryz.infoI64
 have hone := one_digit d hd
 by_cases h : d = 0
 ·subst h
  go_enter Tryz.func34, Tryz.ntmps34
  go_wp2
  refine wp_loop_rounds 1 ?_
  rw [rounds_succ]
  go_wp2
  go_ret
  exact ⟨_, rfl, (own_nil _ 0 0 _).rd, Below.refl _ _⟩
 ·rw [if_neg h] at hone
  have HO : Hid (Dg.dg 65536 d = [d]) := hone
  have e1 : (d : Int) % 65536 = (d : Int) := by omega
  have e2 : (d : Int) / 65536 = 0 := by omega
  have hpos : (0 : Int) < (d : Int) := by omega
  clear hone
  go_enter Tryz.func34, Tryz.ntmps34
  go_wp2
  refine wp_loop_rounds 2 ?_
  rw [rounds_succ]
  go_wp2_with (at_builtin; refine wpList_append_own _ rfl _ _ 29 rfl w.heap.size 3 i0 (.int .i64 0) 1 8 Tryz.underlying29 hi hz0 hz1 hz2 rfl (by decide) _ _ _ rfl (World.ownsRow.alloc (World.ownsRow_nil w w.heap.size 3 1) _) ⟨w.heap.size, 0, none⟩ 1 1 [.int .i64 (d : Int)] rfl rfl ?c1 ?c2 ?c3 ?c4 ?c5 ?_)
  case c1 => exact cell_one_new _ _ _
  case c2 => intro u hu; simp at hu; subst hu; rfl
  case c3 => unfold maxLen; omega
  case c4 => omega
  case c5 => simp
  intro v' w3 hown' hgrow _
  have R := own_append1 (Below.refl w.heap.size w) (own_nil w w.heap.size 3 .i64) hown' hgrow
  clear hown' hgrow
  rw [List.nil_append, ← HO.out] at R
  go_wp2
  rw [rounds_succ]
  go_wp2
  go_ret
  exact ⟨_, rfl, R.1.rd, R.2⟩
end Go.Proofs.YtiiphandhpilgaaGreatDoor

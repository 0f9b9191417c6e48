/-
  The reference's DecodeOf; the law of classes.
-/
import Derived.Test.YtgbccbmflokooaaGreatDoorCr6
import Derived.Test.YtgbccbmflokooaaGreatDoorCr7
import Derived.Test.YtgbccbmflokooaaGreatDoorCr8
import Derived.Test.YtgbccbmflokooaaGreatDoorCo25
import Derived.Test.YtgbccbmflokooaaGreatDoorCo23
namespace Go.Proofs.YtgbccbmflokooaaGreatDoor
open Go.RowKit

/-- What DecodeOf tells: a class, a sign, a number. -/
def refC (k : Nat) (ng : Bool) (E FF : Nat) : Int :=
  if k = 3 then (if E + 1 = 2 ^ exN k then (if FF = 2 ^ (dgN k - 1) then 3 else 4) else if 0 < E ∧ FF < 2 ^ (dgN k - 1) then 4 else if FF = 0 then 1 else 2)
  else if k ≤ 2 then (if E + 1 = 2 ^ exN k then (if FF = 0 then 3 else 4) else if FF + (if 0 < E then 2 ^ (dgN k - 1) else 0) = 0 then 1 else 2)
  else if k ≤ 5 then (if FF = 0 then 1 else 2)
  else (if E = 0 then (if ng then 5 else 1) else 2)
def refG (k : Nat) (ng : Bool) (E FF : Nat) : Bool :=
  if k = 3 then (if E + 1 = 2 ^ exN k then (if FF = 2 ^ (dgN k - 1) then ng else false) else if 0 < E ∧ FF < 2 ^ (dgN k - 1) then false else ng)
  else if k ≤ 2 then (if E + 1 = 2 ^ exN k then (if FF = 0 then ng else false) else ng)
  else if k ≤ 5 then ng
  else (if E = 0 then false else ng)
def refT (k : Nat) (ng : Bool) (E FF : Nat) : Trip :=
  if k = 3 then (if E + 1 = 2 ^ exN k ∨ 0 < E ∧ FF < 2 ^ (dgN k - 1) then ⟨false, 0, 0⟩ else bare ⟨ng, FF, wdI (rdN k : Int) * (lsI k + (((E - 1 : Nat) : Nat) : Int))⟩)
  else if k ≤ 2 then (if E + 1 = 2 ^ exN k then ⟨false, 0, 0⟩ else bare ⟨ng, FF + (if 0 < E then 2 ^ (dgN k - 1) else 0), wdI (rdN k : Int) * (lsI k + (((E - 1 : Nat) : Nat) : Int))⟩)
  else if k ≤ 5 then bare ⟨ng, FF, wdI (rdN k : Int) * (lsI k + (E : Int))⟩
  else (if E = 0 then ⟨false, 0, 0⟩ else bare ⟨ng, FF + 2 ^ (dgN k - 1), wdI (rdN k : Int) * (lsI k + (E : Int) - 1)⟩)

theorem more_fit {k : Nat} (hk : 1 ≤ k ∧ k ≤ 8) : 1 ≤ frN k ∧ dgN k - 1 ≤ 63 ∧ -20000 ≤ lsI k ∧ lsI k ≤ 0 ∧ 1 ≤ wdI (rdN k : Int) ∧ wdI (rdN k : Int) ≤ 4 := by
  rcases eight hk with rfl | rfl | rfl | rfl | rfl | rfl | rfl | rfl <;> exact ⟨by decide, by decide, by decide, by decide, by decide, by decide⟩

theorem decodeOf_any (k : Nat) (hk : 1 ≤ k ∧ k ≤ 8) (s : ByteArray) (w : World) (hs : s.size = szN k) :
    Calls Tryz.prog 10 #[.int .i64 (k : Int), .string s] w (RDec w (refC k (fldN k s) (fldE k s) (fldF k s)) (refG k (fldN k s) (fldE k s) (fldF k s)) (refT k (fldN k s) (fldE k s) (fldF k s)) (fldN k s)) := by
  obtain ⟨h1, h2, h3, h4, -, h7⟩ := sizes_fit hk
  obtain ⟨g1, g2, g3, g4, g5, g6⟩ := more_fit hk
  have HF := fun w1 => format_any k hk w1
  have HB := fun w1 => bitsOf_any k hk s w1 hs
  have hng : fldN k s = decide (bitB (fldB k s) 0 = 1) := by
    unfold fldN
    rw [show bitsV (fldB k s) 0 1 = bitB (fldB k s) 0 from by simp [bitsV]]
  have hE : fldE k s = bitsV (fldB k s) 1 (exN k) := rfl
  have hFF : fldF k s = bitsV (fldB k s) (1 + exN k) (frN k) := rfl
  generalize fldN k s = ng at *
  generalize fldE k s = E at *
  generalize fldF k s = FF at *
  generalize fldB k s = ts at *
  rcases eight hk with rfl | rfl | rfl | rfl | rfl | rfl | rfl | rfl
  · unfold refC refG refT
    rw [if_neg (show ¬ 1 = 3 by decide), if_pos (show 1 ≤ 2 by decide), if_neg (show ¬ 1 = 3 by decide), if_pos (show 1 ≤ 2 by decide), if_neg (show ¬ 1 = 3 by decide), if_pos (show 1 ≤ 2 by decide)]
    exact decodeOf_one 1 (szN 1) (exN 1) (frN 1) (dgN 1 - 1) 2 24 (lsI 1) 104 (wdI ((rdN 1 : Nat) : Int)) true s ts ng E FF w hng hE hFF h1 h2 h7 h3 h4 g1 (by decide) g2 g3 g4 g5 g6 HF HB (fun w1 => cwidth_any 2 24 (lsI 1) 104 true w1) (by decide)
  · unfold refC refG refT
    rw [if_neg (show ¬ 2 = 3 by decide), if_pos (show 2 ≤ 2 by decide), if_neg (show ¬ 2 = 3 by decide), if_pos (show 2 ≤ 2 by decide), if_neg (show ¬ 2 = 3 by decide), if_pos (show 2 ≤ 2 by decide)]
    exact decodeOf_one 2 (szN 2) (exN 2) (frN 2) (dgN 2 - 1) 2 53 (lsI 2) 971 (wdI ((rdN 2 : Nat) : Int)) true s ts ng E FF w hng hE hFF h1 h2 h7 h3 h4 g1 (by decide) g2 g3 g4 g5 g6 HF HB (fun w1 => cwidth_any 2 53 (lsI 2) 971 true w1) (by decide)
  · unfold refC refG refT
    rw [if_pos (show 3 = 3 from rfl), if_pos (show 3 = 3 from rfl), if_pos (show 3 = 3 from rfl)]
    exact decodeOf_ext (szN 3) (exN 3) (frN 3) (dgN 3 - 1) 2 64 (lsI 3) 16320 (wdI ((rdN 3 : Nat) : Int)) true s ts ng E FF w hng hE hFF h1 h2 h7 h3 h4 g1 (by decide) g2 g3 g4 g5 g6 HF HB (fun w1 => cwidth_any 2 64 (lsI 3) 16320 true w1)
  · unfold refC refG refT
    rw [if_neg (show ¬ 4 = 3 by decide), if_neg (show ¬ 4 ≤ 2 by decide), if_pos (show 4 ≤ 5 by decide), if_neg (show ¬ 4 = 3 by decide), if_neg (show ¬ 4 ≤ 2 by decide), if_pos (show 4 ≤ 5 by decide), if_neg (show ¬ 4 = 3 by decide), if_neg (show ¬ 4 ≤ 2 by decide), if_pos (show 4 ≤ 5 by decide)]
    exact decodeOf_two 4 (szN 4) (exN 4) (frN 4) (dgN 4 - 1) 16 6 (lsI 4) 57 (wdI ((rdN 4 : Nat) : Int)) false s ts ng E FF w hng hE hFF h1 h2 h7 h3 h4 g1 (by decide) g2 g3 g4 g5 g6 HF HB (fun w1 => cwidth_any 16 6 (lsI 4) 57 false w1)
  · unfold refC refG refT
    rw [if_neg (show ¬ 5 = 3 by decide), if_neg (show ¬ 5 ≤ 2 by decide), if_pos (show 5 ≤ 5 by decide), if_neg (show ¬ 5 = 3 by decide), if_neg (show ¬ 5 ≤ 2 by decide), if_pos (show 5 ≤ 5 by decide), if_neg (show ¬ 5 = 3 by decide), if_neg (show ¬ 5 ≤ 2 by decide), if_pos (show 5 ≤ 5 by decide)]
    exact decodeOf_two 5 (szN 5) (exN 5) (frN 5) (dgN 5 - 1) 16 14 (lsI 5) 49 (wdI ((rdN 5 : Nat) : Int)) false s ts ng E FF w hng hE hFF h1 h2 h7 h3 h4 g1 (by decide) g2 g3 g4 g5 g6 HF HB (fun w1 => cwidth_any 16 14 (lsI 5) 49 false w1)
  · unfold refC refG refT
    rw [if_neg (show ¬ 6 = 3 by decide), if_neg (show ¬ 6 ≤ 2 by decide), if_neg (show ¬ 6 ≤ 5 by decide), if_neg (show ¬ 6 = 3 by decide), if_neg (show ¬ 6 ≤ 2 by decide), if_neg (show ¬ 6 ≤ 5 by decide), if_neg (show ¬ 6 = 3 by decide), if_neg (show ¬ 6 ≤ 2 by decide), if_neg (show ¬ 6 ≤ 5 by decide)]
    exact decodeOf_three 6 (szN 6) (exN 6) (frN 6) (dgN 6 - 1) 2 24 (lsI 6) 103 (wdI ((rdN 6 : Nat) : Int)) false s ts ng E FF w hng hE hFF h1 h2 h7 h3 h4 g1 (by decide) g2 g3 g4 g5 g6 HF HB (fun w1 => cwidth_any 2 24 (lsI 6) 103 false w1)
  · unfold refC refG refT
    rw [if_neg (show ¬ 7 = 3 by decide), if_neg (show ¬ 7 ≤ 2 by decide), if_neg (show ¬ 7 ≤ 5 by decide), if_neg (show ¬ 7 = 3 by decide), if_neg (show ¬ 7 ≤ 2 by decide), if_neg (show ¬ 7 ≤ 5 by decide), if_neg (show ¬ 7 = 3 by decide), if_neg (show ¬ 7 ≤ 2 by decide), if_neg (show ¬ 7 ≤ 5 by decide)]
    exact decodeOf_three 7 (szN 7) (exN 7) (frN 7) (dgN 7 - 1) 2 56 (lsI 7) 71 (wdI ((rdN 7 : Nat) : Int)) false s ts ng E FF w hng hE hFF h1 h2 h7 h3 h4 g1 (by decide) g2 g3 g4 g5 g6 HF HB (fun w1 => cwidth_any 2 56 (lsI 7) 71 false w1)
  · unfold refC refG refT
    rw [if_neg (show ¬ 8 = 3 by decide), if_neg (show ¬ 8 ≤ 2 by decide), if_neg (show ¬ 8 ≤ 5 by decide), if_neg (show ¬ 8 = 3 by decide), if_neg (show ¬ 8 ≤ 2 by decide), if_neg (show ¬ 8 ≤ 5 by decide), if_neg (show ¬ 8 = 3 by decide), if_neg (show ¬ 8 ≤ 2 by decide), if_neg (show ¬ 8 ≤ 5 by decide)]
    exact decodeOf_three 8 (szN 8) (exN 8) (frN 8) (dgN 8 - 1) 2 53 (lsI 8) 970 (wdI ((rdN 8 : Nat) : Int)) false s ts ng E FF w hng hE hFF h1 h2 h7 h3 h4 g1 (by decide) g2 g3 g4 g5 g6 HF HB (fun w1 => cwidth_any 2 53 (lsI 8) 970 false w1)

theorem refC_cls (k : Nat) (hk : 1 ≤ k ∧ k ≤ 8) (ng : Bool) (E FF : Nat) : refC k ng E FF = ((clsN k ng E FF : Nat) : Int) := by
  unfold refC clsN
  have ho : onesN k = 2 ^ exN k - 1 := rfl
  have hp : 0 < 2 ^ exN k := Nat.pow_pos (by omega)
  have hd : 0 < 2 ^ (dgN k - 1) := Nat.pow_pos (by omega)
  have h1 : 2 ≤ 2 ^ exN k := by
    have h7 := (sizes_fit hk).2.2.2.2.2
    have : 2 ^ 1 ≤ 2 ^ exN k := Nat.pow_le_pow_right (by omega) (by omega)
    omega
  by_cases h3 : k = 3
  · have hd3 : 2 ^ (dgN k - 1) = 2 ^ 63 := by rw [h3]; rfl
    rw [if_pos h3, if_pos (show k ≤ 3 by omega), ho, hd3, if_pos h3]
    generalize (2 : Nat) ^ exN k = px at *
    generalize (2 : Nat) ^ 63 = p63 at *
    by_cases e0 : E = 0
    · rw [if_neg (show ¬ E + 1 = px by omega), if_pos e0, if_neg (show ¬ (0 < E ∧ FF < p63) by omega)]
      split <;> rfl
    · rw [if_neg e0]
      by_cases e1 : E + 1 = px
      · rw [if_pos e1, if_pos (show E = px - 1 by omega)]
        split <;> rfl
      · rw [if_neg e1, if_neg (show ¬ E = px - 1 by omega)]
        by_cases ef : FF < p63
        · rw [if_pos (show 0 < E ∧ FF < p63 by omega), if_pos (show k = 3 ∧ FF < p63 from ⟨h3, ef⟩)]
          rfl
        · rw [if_neg (show ¬ (0 < E ∧ FF < p63) by omega), if_neg (show ¬ (k = 3 ∧ FF < p63) from fun h => ef h.2), if_neg (show ¬ FF = 0 by omega)]
          rfl
  · rw [if_neg h3]
    by_cases h2 : k ≤ 2
    · rw [if_pos h2, if_pos (show k ≤ 3 by omega), ho, if_neg h3]
      generalize (2 : Nat) ^ exN k = px at *
      generalize (2 : Nat) ^ (dgN k - 1) = pd at *
      by_cases e0 : E = 0
      · rw [if_neg (show ¬ E + 1 = px by omega), if_pos e0, if_neg (show ¬ 0 < E by omega), Nat.add_zero]
        split <;> rfl
      · rw [if_neg e0]
        by_cases e1 : E + 1 = px
        · rw [if_pos e1, if_pos (show E = px - 1 by omega)]
          split <;> rfl
        · rw [if_neg e1, if_neg (show ¬ E = px - 1 by omega), if_pos (show 0 < E by omega), if_neg (show ¬ FF + pd = 0 by omega), if_neg (show ¬ (k = 3 ∧ FF < 2 ^ 63) from fun h => h3 h.1)]
          rfl
    · rw [if_neg h2, if_neg (show ¬ k ≤ 3 by omega)]
      by_cases h5 : k ≤ 5
      · rw [if_pos h5, if_pos h5]
        split <;> rfl
      · rw [if_neg h5, if_neg h5]
        split
        · split <;> rfl
        · rfl

theorem open_any (n : Int) (s : ByteArray) (w : World) : Calls Tryz.prog 9 #[.int .i64 n, .string s] w fun z w' => z = .returned (.int .i64 (patC n s)) ∧ Below w.heap.size w w' := by
  unfold patC
  by_cases hf : famC n = 0
  · rw [if_pos hf]
    exact open_none n s w hf
  · rw [if_neg hf]
    obtain ⟨h1, h2, h3⟩ := famC_in hf
    obtain ⟨k, rfl⟩ : ∃ k : Nat, n = (k : Int) := ⟨n.toNat, h3.symm⟩
    rw [Int.toNat_natCast] at h1 h2 ⊢
    have HF := fun w1 => format_any k ⟨h1, h2⟩ w1
    rcases eight ⟨h1, h2⟩ with rfl | rfl | rfl | rfl | rfl | rfl | rfl | rfl
    all_goals exact open_W _ _ _ _ _ _ _ _ _ _ s w HF

theorem decodeOf_pat (n : Int) (s : ByteArray) (w : World) (h : patC n s = 0) :
    Calls Tryz.prog 10 #[.int .i64 n, .string s] w (RDec w ((decC n s : Nat) : Int) (refG n.toNat (fldN n.toNat s) (fldE n.toNat s) (fldF n.toNat s)) (refT n.toNat (fldN n.toNat s) (fldE n.toNat s) (fldF n.toNat s)) (clsG n s)) := by
  have hf : famC n ≠ 0 := fun hf => by
    unfold patC at h
    rw [if_pos hf] at h
    omega
  have hs : s.size = szN n.toNat := by
    unfold patC at h
    rw [if_neg hf] at h
    by_cases c : s.size = szN n.toNat
    · exact c
    · rw [if_neg c] at h
      omega
  obtain ⟨h1, h2, h3⟩ := famC_in hf
  have := decodeOf_any n.toNat ⟨h1, h2⟩ s w hs
  rw [refC_cls _ ⟨h1, h2⟩, h3] at this
  unfold decC clsG
  rw [if_pos h, if_pos h]
  exact this

set_option maxRecDepth 100000 in
set_option maxHeartbeats 6400000 in
theorem codecClasses_walk (n : Int) (s : ByteArray) (w : World) : Calls Tryz.prog 4 #[.int .i64 n, .string s] w fun z w' => z = .returned (.bool true) ∧ Below w.heap.size w w' := by
  have HC : Hid (∀ w1, Calls Tryz.prog 14 #[.int .i64 n, .string s] w1 fun z w' => z = .returned (.tuple #[.int .i64 ((decC n s : Nat) : Int), .bool (clsG n s), .int .i64 (patC n s)]) ∧ Below w1.heap.size w1 w') := fun w1 => class_any n s w1
  have HO : Hid (∀ w1, Calls Tryz.prog 9 #[.int .i64 n, .string s] w1 fun z w' => z = .returned (.int .i64 (patC n s)) ∧ Below w1.heap.size w1 w') := fun w1 => open_any n s w1
  have HB : Hid (∀ w1, Calls Tryz.prog 12 #[] w1 fun z w' => z = .returned (.bool true) ∧ Below w1.heap.size w1 w') := codecBegun_any
  by_cases h : patC n s = 0
  · have hd := fun w1 => decodeOf_pat n s w1 h
    generalize refG n.toNat (fldN n.toNat s) (fldE n.toNat s) (fldF n.toNat s) = g at *
    generalize refT n.toNat (fldN n.toNat s) (fldE n.toNat s) (fldF n.toNat s) = t at *
    generalize decC n s = c at *
    generalize clsG n s = gg at *
    rw [h] at HC HO
    have HD : Hid (∀ w1, Calls Tryz.prog 10 #[.int .i64 n, .string s] w1 (RDec w1 (c : Int) g t gg)) := hd
    clear hd h
    go_enter Tryz.func4, Tryz.ntmps4
    go_wp2_with fail
    refine (HC.out _).mono ?_
    rintro z w1 ⟨rfl, b1⟩
    go_wp2_with fail
    refine (HO.out _).mono ?_
    rintro z w2 ⟨rfl, b2⟩
    go_wp2_with fail
    refine (HD.out _).mono ?_
    rintro z w3 ⟨s3, rfl, r3, b3⟩
    obtain ⟨so, sc, hs3⟩ := r3.shape
    subst hs3
    have b03 := below_trans (below_trans (below_trans b1 b2) b3) (below_alloc w3 (.cells #[.int .i64 (c : Int), .bool g, .bool t.s, .slice so (Dg.dg 65536 t.n).length sc, .int .i64 t.e] 34))
    clear HC HO HD b1 b2 b3 r3
    go_wp2_with fail
    refine (HB.out _).mono ?_
    rintro z w4 ⟨rfl, b4⟩
    go_wp2
    go_ret
    exact ⟨rfl, below_trans b03 b4⟩
  · have hc : decC n s = 0 := by unfold decC; rw [if_neg h]
    have hg : clsG n s = false := by unfold clsG; rw [if_neg h]
    rw [hc, hg] at HC
    have hp : (patC n s == 0) = false := by simpa using h
    generalize patC n s = p at *
    clear h hc hg
    go_enter Tryz.func4, Tryz.ntmps4
    go_wp2_with fail
    refine (HC.out _).mono ?_
    rintro z w1 ⟨rfl, b1⟩
    go_wp2_with fail
    refine (HO.out _).mono ?_
    rintro z w2 ⟨rfl, b2⟩
    go_wp2_with fail
    refine (HB.out _).mono ?_
    rintro z w4 ⟨rfl, b4⟩
    go_wp2
    go_ret
    exact ⟨rfl, below_trans (below_trans b1 b2) b4⟩
end Go.Proofs.YtgbccbmflokooaaGreatDoor

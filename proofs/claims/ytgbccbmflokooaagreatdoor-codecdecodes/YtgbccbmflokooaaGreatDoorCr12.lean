/-
  The law of decoding: the walk.
-/
import Derived.Test.YtgbccbmflokooaaGreatDoorCr11
namespace Go.Proofs.YtgbccbmflokooaaGreatDoor
open Go.RowKit

/-- The bounds of a number's power. -/
theorem refT_in {k : Nat} (hk : 1 ≤ k ∧ k ≤ 8) {ng : Bool} {E F : Nat} (hE : E < 2 ^ exN k) (hF : F < 2 ^ frN k) (hF64 : F < 2 ^ 64) (hc : clsN k ng E F = 2) :
    (refT k ng E F).n < 340282366920938463463374607431768211456 ∧ -79000 ≤ (refT k ng E F).e ∧ (refT k ng E F).e ≤ 100000 := by
  rw [refT_num hk hE hF hc]
  have h0 := plcN_pos hc
  have hl := plcN_lt hk E hF64
  have hp : -20000 ≤ wdI (rdN k : Int) * plcP k E ∧ wdI (rdN k : Int) * plcP k E ≤ 40000 := by
    unfold plcP
    rcases eight hk with rfl | rfl | rfl | rfl | rfl | rfl | rfl | rfl
    all_goals simp only [exN, rdN, lsI, wdI] at hE ⊢
    all_goals (simp at hE ⊢)
    all_goals (first | omega | (split <;> omega))
  generalize plcN k E F = D at *
  generalize wdI (rdN k : Int) * plcP k E = P at *
  obtain ⟨m, hm⟩ := tz_spec (n := D) (by omega)
  have htz : tz D < 64 := by
    have h1 : 2 ^ tz D ≤ D := by
      have : 2 ^ tz D * 1 ≤ 2 ^ tz D * (2 * m + 1) := Nat.mul_le_mul_left _ (by omega)
      rw [← hm] at this
      omega
    exact (Nat.pow_lt_pow_iff_right (by omega : 1 < 2)).1 (Nat.lt_of_le_of_lt h1 hl)
  unfold bare
  rw [if_neg (by show ¬ D = 0; omega)]
  refine ⟨?_, by show -79000 ≤ P + (tz D : Int); omega, by show P + (tz D : Int) ≤ 100000; omega⟩
  show D / 2 ^ tz D < _
  have := Nat.div_le_self D (2 ^ tz D)
  omega

/-- ToValue of what DecodeOf tells is what Decode tells. -/
theorem toValue_pat (n : Int) (s : ByteArray) (so : Option Addr) (sc : Nat) (w : World) (h : patC n s = 0)
    (hr : Rd w .i64 (.slice so (Dg.dg 65536 (refT n.toNat (fldN n.toNat s) (fldE n.toNat s) (fldF n.toNat s)).n).length sc) (Dg.dg 65536 (refT n.toNat (fldN n.toNat s) (fldE n.toNat s) (fldF n.toNat s)).n)) :
    Calls Tryz.prog 11 #[.int .i64 n, .agg #[.int .i64 ((decC n s : Nat) : Int), .bool (refG n.toNat (fldN n.toNat s) (fldE n.toNat s) (fldF n.toNat s)), .bool (refT n.toNat (fldN n.toNat s) (fldE n.toNat s) (fldF n.toNat s)).s, .slice so (Dg.dg 65536 (refT n.toNat (fldN n.toNat s) (fldE n.toNat s) (fldF n.toNat s)).n).length sc, .int .i64 (refT n.toNat (fldN n.toNat s) (fldE n.toNat s) (fldF n.toNat s)).e]] w (ValRes w ((decC n s : Nat) : Int) (decG n s) (decM n s) (decP n s)) := by
  have hf : famC n ≠ 0 := fun hf => by
    unfold patC at h
    rw [if_pos hf] at h
    omega
  obtain ⟨h1, h2, h3⟩ := famC_in hf
  unfold decC decG decM decP
  rw [if_pos h, if_pos h, if_pos h, if_pos h]
  clear h hf
  obtain ⟨k, rfl⟩ : ∃ k : Nat, n = (k : Int) := ⟨n.toNat, h3.symm⟩
  rw [Int.toNat_natCast] at h1 h2 hr ⊢
  have hk : 1 ≤ k ∧ k ≤ 8 := ⟨h1, h2⟩
  have hE := fldE_lt (k := k) s
  have hF := fldF_lt (k := k) s
  have hF64 := fldF_small hk s
  rw [refG_val hk]
  generalize fldN k s = ng at *
  generalize fldE k s = E at *
  generalize fldF k s = F at *
  by_cases hc : clsN k ng E F = 2
  · obtain ⟨g1, g2, g3⟩ := refT_in hk hE hF hF64 hc
    rw [hc]
    have HF := fun w1 => format_any k hk w1
    by_cases hr16 : rdN k = 16
    · obtain ⟨a1, a2, a3⟩ := val16 hk hE hF hF64 hc hr16
      generalize refT k ng E F = t at *
      generalize valG k ng E F = g at *
      generalize valM k ng E F = m at *
      generalize valP k ng E F = p at *
      rcases (show k = 4 ∨ k = 5 by
        rcases eight hk with rfl | rfl | rfl | rfl | rfl | rfl | rfl | rfl
        all_goals (first | omega | (exfalso; revert hr16; decide))) with rfl | rfl
      · exact toValue_4 _ _ _ _ _ _ _ _ _ _ g t.s so t.n sc t.e p m w hr g1 g2 g3 ⟨a1, a2⟩ a3 HF (fun w1 => cwidth_any 16 6 (-70) 57 false w1)
      · exact toValue_4 _ _ _ _ _ _ _ _ _ _ g t.s so t.n sc t.e p m w hr g1 g2 g3 ⟨a1, a2⟩ a3 HF (fun w1 => cwidth_any 16 14 (-78) 49 false w1)
    · have hr2 : rdN k = 2 := by
        rcases eight hk with rfl | rfl | rfl | rfl | rfl | rfl | rfl | rfl
        all_goals (first | rfl | (exfalso; exact hr16 rfl))
      obtain ⟨a1, a2⟩ := val2 hk hE hF hF64 hc hr2
      rw [a1, a2]
      generalize refT k ng E F = t at *
      generalize valG k ng E F = g at *
      clear a1 a2
      rcases (show k = 1 ∨ k = 2 ∨ k = 3 ∨ k = 6 ∨ k = 7 ∨ k = 8 by
        rcases eight hk with rfl | rfl | rfl | rfl | rfl | rfl | rfl | rfl
        all_goals (first | omega | (exfalso; revert hr2; decide))) with rfl | rfl | rfl | rfl | rfl | rfl
      · exact toValue_1 _ _ _ _ _ _ _ _ _ _ g t.s so t.n sc t.e t.n w hr g1 g2 g3 rfl HF (fun w1 => cwidth_any 2 24 (-149) 104 true w1)
      · exact toValue_1 _ _ _ _ _ _ _ _ _ _ g t.s so t.n sc t.e t.n w hr g1 g2 g3 rfl HF (fun w1 => cwidth_any 2 53 (-1074) 971 true w1)
      · exact toValue_1 _ _ _ _ _ _ _ _ _ _ g t.s so t.n sc t.e t.n w hr g1 g2 g3 rfl HF (fun w1 => cwidth_any 2 64 (-16445) 16320 true w1)
      · exact toValue_1 _ _ _ _ _ _ _ _ _ _ g t.s so t.n sc t.e t.n w hr g1 g2 g3 rfl HF (fun w1 => cwidth_any 2 24 (-151) 103 false w1)
      · exact toValue_1 _ _ _ _ _ _ _ _ _ _ g t.s so t.n sc t.e t.n w hr g1 g2 g3 rfl HF (fun w1 => cwidth_any 2 56 (-183) 71 false w1)
      · exact toValue_1 _ _ _ _ _ _ _ _ _ _ g t.s so t.n sc t.e t.n w hr g1 g2 g3 rfl HF (fun w1 => cwidth_any 2 53 (-1076) 970 false w1)
  · have hm : valM k ng E F = 0 := by unfold valM; rw [if_neg hc]
    have hp : valP k ng E F = 0 := by unfold valP; rw [if_neg hc]
    rw [hm, hp]
    generalize refT k ng E F = t at *
    refine (toValue_other _ _ _ t.s so t.n sc t.e w (by omega)).mono ?_
    rintro z w1 ⟨rfl, b1⟩
    exact ⟨_, rfl, rd_nil _ _, b1⟩
end Go.Proofs.YtgbccbmflokooaaGreatDoor

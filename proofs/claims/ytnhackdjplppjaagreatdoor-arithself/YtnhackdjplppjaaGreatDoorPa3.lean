/-
  Arithmetic, paid: operands, sums, products.
-/
import Derived.Test.YtnhackdjplppjaaGreatDoorAt37
import Derived.Test.YtnhackdjplppjaaGreatDoorPa1
namespace Go.Proofs.YtnhackdjplppjaaGreatDoor
open Go.RowKit
def Small64 (t : Trip) : Prop := t.n < 2 ^ 64 ∧ -16500 ≤ t.e ∧ t.e ≤ 16500
theorem small_bits {t : Trip} (h : Small64 t) : bitLen t.n ≤ 64 := bitLen_le_of _ _ h.1
theorem num_small {k : Nat} (hk : 1 ≤ k ∧ k ≤ 8) (s : ByteArray) (hc : clsN k (fldN k s) (fldE k s) (fldF k s) = 2) : (refT k (fldN k s) (fldE k s) (fldF k s)).n < 2 ^ 64 ∧ -16445 ≤ (refT k (fldN k s) (fldE k s) (fldF k s)).e ∧ (refT k (fldN k s) (fldE k s) (fldF k s)).e ≤ 16464 ∧ (refT k (fldN k s) (fldE k s) (fldF k s)).n ≠ 0 := by
 obtain ⟨s1, s2⟩ := fld_lt k s
 have h64 := frN_64 hk s2
 obtain ⟨v1, v2, -, -⟩ := valP_in hk s1 s2 hc
 have hb := back_value hk s1 s2 h64 hc (Nat.ne_of_gt (plcN_pos hc))
 have hT := refT_num hk s1 s2 hc
 rw [wdI_is hk] at hT
 refine ⟨?_, v1, v2, ?_⟩
 ·rw [hT, ← hb]
  exact Nat.lt_of_le_of_lt (bare_n_le _) (valM_lt hk _ _ h64)
 ·rw [hT]
  exact (bare_top (t := ⟨_, _, _⟩) (Nat.ne_of_gt (plcN_pos hc))).1
theorem op_small {k : Nat} (hk : 1 ≤ k ∧ k ≤ 8) {p : ByteArray} (h : patC (k : Int) p = 0) : Small64 (opT (k : Int) p) ∧ (decC (k : Int) p ≠ 2 → opT (k : Int) p = ⟨false, 0, 0⟩) ∧ (decC (k : Int) p = 2 → (opT (k : Int) p).n ≠ 0) := by
 have e : opT (k : Int) p = refT k (fldN k p) (fldE k p) (fldF k p) := by
  unfold opT nxT
  rw [if_pos h, Int.toNat_natCast]
 have ec : decC (k : Int) p = clsN k (fldN k p) (fldE k p) (fldF k p) := by
  unfold decC
  rw [if_pos h, Int.toNat_natCast]
 rw [e, ec]
 by_cases hc : clsN k (fldN k p) (fldE k p) (fldF k p) = 2
 ·obtain ⟨s1, s2, s3, s4⟩ := num_small hk p hc
  exact ⟨⟨s1, by omega, by omega⟩, fun c => absurd hc c, fun _ => s4⟩
 ·have := refT_other hk (ng := fldN k p) (E := fldE k p) (F := fldF k p) hc
  rw [this]
  exact ⟨⟨by show (0 : Nat) < 2 ^ 64; exact Nat.two_pow_pos 64, by show (-16500 : Int) ≤ 0; omega, by show (0 : Int) ≤ 16500; omega⟩, fun _ => rfl, fun c => absurd c hc⟩
def noV (k : Nat) (fl : Int) : Int × Bool × Trip × Int := (notC (famC (k : Int)), false, ⟨false, 0, 0⟩, fl)
def numV (t : Trip) (sg : Bool) : Int × Bool × Trip × Int := (numC t, numG t sg, numT t, 0)
def sumV (k : Nat) (wy cx : Int) (gx : Bool) (x : Trip) (cy : Int) (gy : Bool) (y : Trip) : Int × Bool × Trip × Int :=
 if cx = 3 ∧ cy = 3 ∧ gx ≠ gy then noV k 16 else if cx = 3 then (3, gx, x, 0) else if cy = 3 then (3, gy, y, 0) else numV (plusT x y) (if gx = gy then gx else decide (wy = 5))
def prodV (k : Nat) (cx : Int) (gx : Bool) (x : Trip) (cy : Int) (gy : Bool) (y : Trip) : Int × Bool × Trip × Int :=
 if cx = 3 ∧ cy = 1 ∨ cx = 1 ∧ cy = 3 then noV k 16 else if cx = 3 ∨ cy = 3 then (3, gx != gy, ⟨false, 0, 0⟩, 0) else numV (timesT x y) (gx != gy)
abbrev opV (c : Int) (g : Bool) (t : Trip) (o : Option Addr) (k : Nat) : Value := .agg #[.int .i64 c, .bool g, .bool t.s, .slice o (Dg.dg 4294967296 t.n).length k, .int .i64 t.e]
abbrev rdT (w : World) (t : Trip) (o : Option Addr) (k : Nat) : Prop := Rd w .u32 (.slice o (Dg.dg 4294967296 t.n).length k) (Dg.dg 4294967296 t.n)
abbrev resV (w : World) (f : Int × Bool × Trip × Int) : Ending → World → Prop := OpRes2 w f.1 f.2.1 f.2.2.1 f.2.2.2
theorem noth_any (k : Nat) (hk : 1 ≤ k ∧ k ≤ 8) (wy fl : Int) (w : World) : Calls Tryz.prog 108 #[dsk k wy, .int .i64 fl] w fun z w' => z = .returned (.tuple #[.agg #[.int .i64 (notC (famC (k : Int))), .bool false, .bool false, .slice none 0 0, .int .i64 0], .int .i64 fl]) ∧ Below w.heap.size w w' :=
 dnothing_W _ _ _ _ _ _ _ _ _ _ w (fun w1 => fnothing_any _ (fam_cases hk) w1)
def Mid (t : Trip) : Prop := (Dg.dg 4294967296 t.n).length ≤ 100000 ∧ -100000 ≤ t.e ∧ t.e ≤ 100000
theorem ne3 {c : Int} (h : c ≠ 3) : (c == 3) = false := by simpa using h
theorem ne1 {c : Int} (h : c ≠ 1) : (c == 1) = false := by simpa using h
theorem dsum_any (k : Nat) (hk : 1 ≤ k ∧ k ≤ 8) (wy cx cy : Int) (gx gy : Bool) (x y : Trip) (xo yo : Option Addr) (xc yc : Nat) (w : World) (rx : rdT w x xo xc) (ry : rdT w y yo yc) (mx : Mid x) (my : Mid y) :
  Calls Tryz.prog 55 #[dsk k wy, opV cx gx x xo xc, opV cy gy y yo yc] w (resV w (sumV k wy cx gx x cy gy y)) := by
 unfold sumV
 by_cases hx : cx = 3
 ·subst hx
  by_cases hy : cy = 3
  ·subst hy
   cases gx <;> cases gy
   ·rw [if_neg (by simp), if_pos rfl]
    exact dsum_xx _ _ _ _ _ _ _ _ _ _ _ _ _ _ _ w rx
   ·rw [if_pos (by simp)]
    exact dsum_no_ft _ _ _ _ _ _ _ _ _ _ _ _ _ _ _ w (fun w1 => noth_any k hk wy 16 w1)
   ·rw [if_pos (by simp)]
    exact dsum_no_tf _ _ _ _ _ _ _ _ _ _ _ _ _ _ _ w (fun w1 => noth_any k hk wy 16 w1)
   ·rw [if_neg (by simp), if_pos rfl]
    exact dsum_xx _ _ _ _ _ _ _ _ _ _ _ _ _ _ _ w rx
  ·rw [if_neg (fun c => hy c.2.1), if_pos rfl]
   exact dsum_x _ _ _ _ _ _ _ _ _ _ _ _ _ _ _ _ _ w (ne3 hy) rx
 ·rw [if_neg (fun c => hx c.1), if_neg hx]
  by_cases hy : cy = 3
  ·subst hy
   rw [if_pos rfl]
   exact dsum_y _ _ _ _ _ _ _ _ _ _ _ _ _ _ _ _ _ w (ne3 hx) ry
  ·rw [if_neg hy]
   exact dsum_num _ _ _ _ _ _ _ _ _ _ _ _ _ _ _ _ _ _ _ w rfl (ne3 hx) (ne3 hy) (fun w1 b => dplus_any _ _ x y w1 ⟨_, rfl, rx.later b⟩ ⟨_, rfl, ry.later b⟩ mx.1 my.1 mx.2.1 mx.2.2 my.2.1 my.2.2)
theorem dproduct_any (k : Nat) (hk : 1 ≤ k ∧ k ≤ 8) (wy cx cy : Int) (gx gy : Bool) (x y : Trip) (xo yo : Option Addr) (xc yc : Nat) (w : World) (rx : rdT w x xo xc) (ry : rdT w y yo yc) (mx : Mid x) (my : Mid y) :
  Calls Tryz.prog 65 #[dsk k wy, opV cx gx x xo xc, opV cy gy y yo yc] w (resV w (prodV k cx gx x cy gy y)) := by
 have HT := fun w1 (b : Below w.heap.size w w1) => dtimes_any _ _ x y w1 ⟨_, rfl, rx.later b⟩ ⟨_, rfl, ry.later b⟩ mx.1 my.1 mx.2.1 mx.2.2 my.2.1 my.2.2
 have HM := fun uo uc w1 h => numberOf_any (timesT x y) (gx != gy) uo uc w1 h
 unfold prodV
 by_cases hx : cx = 3
 ·subst hx
  by_cases hy : cy = 1
  ·subst hy
   rw [if_pos (.inl ⟨rfl, rfl⟩)]
   exact dproduct_31 _ _ _ _ _ _ _ _ _ _ _ _ _ _ _ _ _ w (fun w1 => noth_any k hk wy 16 w1)
  ·rw [if_neg (by omega), if_pos (.inl rfl)]
   exact dproduct_3y _ _ _ _ _ _ _ _ _ _ _ _ _ _ _ _ _ w (ne1 hy)
 ·by_cases hy : cy = 3
  ·subst hy
   by_cases h1 : cx = 1
   ·subst h1
    rw [if_pos (.inr ⟨rfl, rfl⟩)]
    exact dproduct_13 _ _ _ _ _ _ _ _ _ _ _ _ _ _ _ _ _ w (fun w1 => noth_any k hk wy 16 w1)
   ·rw [if_neg (by omega), if_pos (.inr rfl)]
    exact dproduct_x3 _ _ _ _ _ _ _ _ _ _ _ _ _ _ _ _ _ w (ne3 hx) (ne1 h1)
  ·rw [if_neg (by omega), if_neg (by omega)]
   by_cases h1 : cx = 1
   ·subst h1
    exact dproduct_n1 _ _ _ _ _ _ _ _ _ _ _ _ _ _ _ _ _ _ _ _ _ w (ne3 hy) HT HM
   ·exact dproduct_num _ _ _ _ _ _ _ _ _ _ _ _ _ _ _ _ _ _ _ _ _ _ w (ne3 hx) (ne1 h1) (ne3 hy) HT HM
end Go.Proofs.YtnhackdjplppjaaGreatDoor

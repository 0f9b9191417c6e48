/-
  Arithmetic, paid: Sub, Div.
-/
import Derived.Test.YtnhackdjplppjaaGreatDoorAt39
import Derived.Test.YtnhackdjplppjaaGreatDoorPa4
import Derived.Test.YtnhackdjplppjaaGreatDoorAt42
namespace Go.Proofs.YtnhackdjplppjaaGreatDoor
open Go.RowKit
def oppT (t : Trip) : Trip := ⟨!t.s, t.n, t.e⟩
def subF (n way : Int) (a b : ByteArray) : Int × Bool × Trip × Int := sumV n.toNat way ((decC n a : Nat) : Int) (decG n a) (opT n a) ((decC n b : Nat) : Int) (!decG n b) (oppT (opT n b))
theorem sub_any (n way : Int) (a b : ByteArray) (w : World) (hT : Tab w) : Calls Tryz.prog 22 #[.int .i64 n, .string a, .string b, .int .i64 way] w (ans3 (recT n way [a, b] (subF n way a b)) w) := by
 refine sub_W n way _ _ a b _ w (fun pb w1 b1 hl => ?_)
 refine reckon_any n way [a, b] _ _ pb w1 (by simp) (by simp) hl (enter_of Tryz.func62 (by kernel_rfl) rfl) (hT.later b1) (fun k hk hn he hN => ?_)
 subst hn
 unfold subF
 rw [Int.toNat_natCast]
 obtain ⟨sa, -, -⟩ := op_small hk (errL_zero he a (by simp))
 obtain ⟨sb, -, -⟩ := op_small hk (errL_zero he b (by simp))
 have sb' : Small64 (oppT (opT (k : Int) b)) := sb
 refine ⟨fun h => sum_near (small_near sa sb').1 h, fun g cap w2 b2 h => ?_⟩
 obtain ⟨xo, xc, r0, k0⟩ := h.each 0 a rfl
 obtain ⟨yo, yc, r1, k1⟩ := h.each 1 b rfl
 exact sub1_W _ _ _ _ _ _ _ _ _ _ _ _ _ _ _ _ _ _ _ _ _ _ _ _ w2 r0 r1 (fun w3 b3 => oopposite_any _ _ _ _ _ w3 (k1.later b3)) (fun qo qc w3 b3 hq => dsum_any k hk way _ _ _ _ _ (oppT (opT (k : Int) b)) _ _ _ _ w3 (k0.later b3) hq (small_mid sa) (small_mid sb'))
def poleV (k : Nat) (ng : Bool) : Int × Bool × Trip × Int :=
 if famC (k : Int) = 1 then (3, ng, ⟨false, 0, 0⟩, 8) else if famC (k : Int) = 2 then ((numV (bare ⟨ng, rdN k ^ dgN k - 1, (widthN (rdN k : Int) : Int) * gsI k⟩) ng).1, (numV (bare ⟨ng, rdN k ^ dgN k - 1, (widthN (rdN k : Int) : Int) * gsI k⟩) ng).2.1, (numV (bare ⟨ng, rdN k ^ dgN k - 1, (widthN (rdN k : Int) : Int) * gsI k⟩) ng).2.2.1, 8) else noV k 8
def quotV (k : Nat) (cx : Int) (gx : Bool) (x : Trip) (cy : Int) (gy : Bool) (y : Trip) : Int × Bool × Trip × Int :=
 if cx = 3 ∧ cy = 3 ∨ cx = 1 ∧ cy = 1 then noV k 16 else if cx = 3 then (3, gx != gy, ⟨false, 0, 0⟩, 0) else if cy = 3 then (1, gx != gy, ⟨false, 0, 0⟩, 0) else if cy = 1 then poleV k (gx != gy) else numV (overT x y 128) (gx != gy)
theorem great_spot {k : Nat} (hk : 1 ≤ k ∧ k ≤ 8) : InSpot (rdN k : Int) (dgN k : Int) (lsI k) (gsI k) (decide (k ≤ 3)) (rdN k ^ dgN k - 1) (gsI k) := by
 refine .inr ?_
 rcases eight hk with rfl | rfl | rfl | rfl | rfl | rfl | rfl | rfl <;> decide
theorem dbyZero_any (k : Nat) (hk : 1 ≤ k ∧ k ≤ 8) (wy : Int) (ng : Bool) (w : World) (hT : Tab w) : Calls Tryz.prog 128 #[dsk k wy, .bool ng] w (resV w (poleV k ng)) := by
 unfold poleV
 have HG := fun w1 => greatest_any k hk wy ng w1
 have HN := fun w1 => noth_any k hk wy 8 w1
 unfold dsk at HG HN ⊢
 rcases fam_cases hk with h | h | h
 ·rw [h, if_pos rfl]
  exact dbyZero_1 _ _ _ _ _ _ _ _ w
 ·rw [h] at HG ⊢
  rw [if_neg (by decide), if_pos rfl]
  refine dbyZero_2 _ _ (rdN k ^ dgN k - 1) (bare ⟨ng, rdN k ^ dgN k - 1, (widthN (rdN k : Int) : Int) * gsI k⟩) _ _ _ _ _ _ _ _ _ w (fun w1 _ => HG w1) (fun mo mc w1 b r => ?_) (fun xo xc w1 => of_dy _ _ _ _ _ w1) (fun xo xc w1 r => numberOf_any _ ng xo xc w1 r)
  have hg := (fmt_fit hk).2.2.2.2.2.2.2.2.2.2.2
  have hs := spot_short (s := ng) hg (great_spot hk)
  refine (wnumber_W _ _ _ _ _ _ 0 _ _ _ _ _ (bare ⟨ng, rdN k ^ dgN k - 1, (widthN (rdN k : Int) : Int) * gsI k⟩) w1 (fun w2 b2 => ?_)).mono (fun z w' hz => ?_)
  ·have := gNumber_any (rdN k : Int) (dgN k : Int) (lsI k) (gsI k) (decide (k ≤ 3)) ng mo mc (Dg.dg 4294967296 (rdN k ^ dgN k - 1)) (gsI k) false false false w2 (r.later b2) (Dg.small_dg _ _ (by omega)) (hT.later (below_trans b b2))
   rw [hs] at this
   exact this
  ·obtain ⟨v, h1, h2, -, h3⟩ := hz
   exact ⟨v, h1, h2, h3⟩
 ·rw [h, if_neg (by decide), if_neg (by decide)]
  unfold noV
  rw [h] at HN ⊢
  exact dbyZero_3 _ _ _ _ _ _ _ _ _ w HN
theorem over_near {x y : Trip} (hx : Small64 x) (hy : Small64 y) : Near (overT x y 128) := by
 obtain ⟨x1, x2, x3⟩ := hx
 obtain ⟨y1, y2, y3⟩ := hy
 have hb := bitLen_le_of _ _ y1
 have ha := bitLen_le_of _ _ x1
 have hS : overS x y 128 ≤ 192 ∧ bitLen x.n + overS x y 128 ≤ 192 := by unfold overS; omega
 have h1 : x.n * 2 ^ overS x y 128 / y.n < 2 ^ 192 := by
  refine Nat.lt_of_le_of_lt (Nat.div_le_self _ _) ?_
  refine pow_le_of (a := bitLen x.n + overS x y 128) ?_ hS.2
  rw [Nat.pow_add]
  exact Nat.mul_lt_mul_of_pos_right (bit_lt (Nat.le_refl _)) (two_pos _)
 have h2 : (overT x y 128).n < 2 ^ 193 := by
  show x.n * 2 ^ overS x y 128 / y.n * 2 + (if _ then 1 else 0) < 2 ^ 193
  have e : 2 ^ 193 = 2 ^ 192 * 2 := Nat.pow_succ ..
  split <;> omega
 have h3 := bitLen_le_of _ _ h2
 have he : (overT x y 128).e = x.e - y.e - (overS x y 128 : Int) - 1 := rfl
 exact ⟨by omega, by omega⟩
theorem dquotient_any (k : Nat) (hk : 1 ≤ k ∧ k ≤ 8) (wy cx cy : Int) (gx gy : Bool) (x y : Trip) (xo yo : Option Addr) (xc yc : Nat) (w : World) (rx : rdT w x xo xc) (ry : rdT w y yo yc) (sx : Small64 x) (sy : Small64 y) (hy0 : cy ≠ 1 → cy ≠ 3 → y.n ≠ 0) (hT : Tab w) :
  Calls Tryz.prog 69 #[dsk k wy, opV cx gx x xo xc, opV cy gy y yo yc] w (resV w (quotV k cx gx x cy gy y)) := by
 have HT := fun (h : y.n ≠ 0) w1 (b : Below w.heap.size w w1) => dover_any _ _ x y 128 w1 ⟨_, rfl, rx.later b⟩ ⟨_, rfl, ry.later b⟩ (Nat.pos_of_ne_zero h) (two_len sx.1 (by omega)) (two_len sy.1 (by omega)) (by have := sx.2; omega) (by have := sx.2; omega) (by have := sy.2; omega) (by have := sy.2; omega) (by omega)
 have HM := fun uo uc w1 h => numberOf_any (overT x y 128) (gx != gy) uo uc w1 h
 unfold quotV
 by_cases hx : cx = 3
 ·subst hx
  by_cases hy : cy = 3
  ·subst hy
   rw [if_pos (.inl ⟨rfl, rfl⟩)]
   exact dquotient_33 _ _ _ _ _ _ _ _ _ _ _ _ _ _ _ _ _ w (fun w1 => noth_any k hk wy 16 w1)
  ·rw [if_neg (by omega), if_pos rfl]
   exact dquotient_3y _ _ _ _ _ _ _ _ _ _ _ _ _ _ _ _ _ w (ne3 hy)
 ·by_cases hy : cy = 3
  ·subst hy
   rw [if_neg (by omega), if_neg hx, if_pos rfl]
   by_cases h1 : cx = 1
   ·subst h1
    exact dquotient_13 _ _ _ _ _ _ _ _ _ _ _ _ _ _ _ _ w
   ·exact dquotient_x3 _ _ _ _ _ _ _ _ _ _ _ _ _ _ _ _ _ w (ne3 hx) (ne1 h1)
  ·by_cases h1 : cy = 1
   ·subst h1
    by_cases h2 : cx = 1
    ·subst h2
     rw [if_pos (.inr ⟨rfl, rfl⟩)]
     exact dquotient_11 _ _ _ _ _ _ _ _ _ _ _ _ _ _ _ _ _ w (fun w1 => noth_any k hk wy 16 w1)
    ·rw [if_neg (by omega), if_neg hx, if_neg hy, if_pos rfl]
     exact dquotient_x1 _ _ _ _ _ _ _ _ _ _ _ _ _ _ _ _ _ _ _ _ _ w (ne3 hx) (ne1 h2) (fun w1 b => dbyZero_any k hk wy (gx != gy) w1 (hT.later b))
   ·rw [if_neg (by omega), if_neg hx, if_neg hy, if_neg h1]
    by_cases h2 : cx = 1
    ·subst h2
     exact dquotient_n1 _ _ _ _ _ _ _ _ _ _ _ _ _ _ _ _ _ _ _ _ _ w (ne3 hy) (ne1 h1) (HT (hy0 h1 hy)) HM
    ·exact dquotient_num _ _ _ _ _ _ _ _ _ _ _ _ _ _ _ _ _ _ _ _ _ _ w (ne3 hx) (ne1 h2) (ne3 hy) (ne1 h1) (HT (hy0 h1 hy)) HM
end Go.Proofs.YtnhackdjplppjaaGreatDoor

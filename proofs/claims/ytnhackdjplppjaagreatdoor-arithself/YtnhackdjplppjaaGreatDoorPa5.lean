/-
  Arithmetic, paid: Add, Mul, Fused as a whole; who is first does not matter.
-/
import Derived.Test.YtnhackdjplppjaaGreatDoorAt39
import Derived.Test.YtnhackdjplppjaaGreatDoorPa4
import Derived.Test.YtnhackdjplppjaaGreatDoorAt42
namespace Go.Proofs.YtnhackdjplppjaaGreatDoor
open Go.RowKit
def addF (n way : Int) (a b : ByteArray) : Int × Bool × Trip × Int := sumV n.toNat way ((decC n a : Nat) : Int) (decG n a) (opT n a) ((decC n b : Nat) : Int) (decG n b) (opT n b)
def mulF (n : Int) (a b : ByteArray) : Int × Bool × Trip × Int := prodV n.toNat ((decC n a : Nat) : Int) (decG n a) (opT n a) ((decC n b : Nat) : Int) (decG n b) (opT n b)
def fusF (n way : Int) (a b c : ByteArray) : Int × Bool × Trip × Int :=
 if (mulF n a b).2.2.2 = 0 then sumV n.toNat way (mulF n a b).1 (mulF n a b).2.1 (mulF n a b).2.2.1 ((decC n c : Nat) : Int) (decG n c) (opT n c) else mulF n a b
theorem add_any (n way : Int) (a b : ByteArray) (w : World) (hT : Tab w) : Calls Tryz.prog 17 #[.int .i64 n, .string a, .string b, .int .i64 way] w (ans3 (recT n way [a, b] (addF n way a b)) w) := by
 refine add_W n way _ _ a b _ w (fun pb w1 b1 hl => ?_)
 refine reckon_any n way [a, b] _ _ pb w1 (by simp) (by simp) hl (enter_of Tryz.func54 (by kernel_rfl) rfl) (hT.later b1) (fun k hk hn he hN => ?_)
 subst hn
 unfold addF
 rw [Int.toNat_natCast]
 obtain ⟨sa, -, -⟩ := op_small hk (errL_zero he a (by simp))
 obtain ⟨sb, -, -⟩ := op_small hk (errL_zero he b (by simp))
 refine ⟨fun h => sum_near (small_near sa sb).1 h, fun g cap w2 b2 h => ?_⟩
 obtain ⟨xo, xc, r0, k0⟩ := h.each 0 a rfl
 obtain ⟨yo, yc, r1, k1⟩ := h.each 1 b rfl
 exact add1_W _ _ _ _ _ _ _ _ _ _ _ _ _ _ _ _ _ _ _ _ _ _ _ _ w2 r0 r1 (fun w3 b3 => dsum_any k hk way _ _ _ _ _ _ _ _ _ _ w3 (k0.later b3) (k1.later b3) (small_mid sa) (small_mid sb))
theorem mul_any (n way : Int) (a b : ByteArray) (w : World) (hT : Tab w) : Calls Tryz.prog 24 #[.int .i64 n, .string a, .string b, .int .i64 way] w (ans3 (recT n way [a, b] (mulF n a b)) w) := by
 refine mul_W n way _ _ a b _ w (fun pb w1 b1 hl => ?_)
 refine reckon_any n way [a, b] _ _ pb w1 (by simp) (by simp) hl (enter_of Tryz.func64 (by kernel_rfl) rfl) (hT.later b1) (fun k hk hn he hN => ?_)
 subst hn
 unfold mulF
 rw [Int.toNat_natCast]
 obtain ⟨sa, -, -⟩ := op_small hk (errL_zero he a (by simp))
 obtain ⟨sb, -, -⟩ := op_small hk (errL_zero he b (by simp))
 refine ⟨fun h => prod_near (small_near sa sb).2.1 h, fun g cap w2 b2 h => ?_⟩
 obtain ⟨xo, xc, r0, k0⟩ := h.each 0 a rfl
 obtain ⟨yo, yc, r1, k1⟩ := h.each 1 b rfl
 exact mul1_W _ _ _ _ _ _ _ _ _ _ _ _ _ _ _ _ _ _ _ _ _ _ _ _ w2 r0 r1 (fun w3 b3 => dproduct_any k hk way _ _ _ _ _ _ _ _ _ _ w3 (k0.later b3) (k1.later b3) (small_mid sa) (small_mid sb))
theorem prod_mid {k : Nat} {cx cy : Int} {gx gy : Bool} {x y z : Trip} (hx : Small64 x) (hy : Small64 y) (hz : Small64 z) : Mid (prodV k cx gx x cy gy y).2.2.1 ∧ Near (plusT (prodV k cx gx x cy gy y).2.2.1 z) := by
 obtain ⟨-, -, t1, t2, t3⟩ := small_near hx hy
 have key : (prodV k cx gx x cy gy y).2.2.1.n < 2 ^ 128 ∧ -33000 ≤ (prodV k cx gx x cy gy y).2.2.1.e ∧ (prodV k cx gx x cy gy y).2.2.1.e ≤ 33000 := by
  have h0 : (0 : Nat) < 2 ^ 128 := two_pos _
  unfold prodV
  split
  ·exact ⟨h0, by show (-33000 : Int) ≤ 0; omega, by show (0 : Int) ≤ 33000; omega⟩
  ·split
   ·exact ⟨h0, by show (-33000 : Int) ≤ 0; omega, by show (0 : Int) ≤ 33000; omega⟩
   ·show (numT _).n < _ ∧ _ ≤ (numT _).e ∧ (numT _).e ≤ _
    unfold numT
    split
    ·exact ⟨h0, by show (-33000 : Int) ≤ 0; omega, by show (0 : Int) ≤ 33000; omega⟩
    ·exact ⟨t1, t2, t3⟩
 obtain ⟨k1, k2, k3⟩ := key
 obtain ⟨z1, z2, z3⟩ := hz
 have hp := plus_near (H := 33128) k1 z1 (by omega) (by omega)
 exact ⟨⟨two_len k1 (by omega), by omega, by omega⟩, ⟨by omega, by omega⟩⟩
theorem fused_any (n way : Int) (a b c : ByteArray) (w : World) (hT : Tab w) : Calls Tryz.prog 28 #[.int .i64 n, .string a, .string b, .string c, .int .i64 way] w (ans3 (recT n way [a, b, c] (fusF n way a b c)) w) := by
 refine fused_W n way _ _ a b c _ w (fun pb w1 b1 hl => ?_)
 refine reckon_any n way [a, b, c] _ _ pb w1 (by simp) (by simp) hl (enter_of Tryz.func71 (by kernel_rfl) rfl) (hT.later b1) (fun k hk hn he hN => ?_)
 subst hn
 obtain ⟨sa, -, -⟩ := op_small hk (errL_zero he a (by simp))
 obtain ⟨sb, -, -⟩ := op_small hk (errL_zero he b (by simp))
 obtain ⟨sc, -, -⟩ := op_small hk (errL_zero he c (by simp))
 have hm : mulF (k : Int) a b = prodV k ((decC (k : Int) a : Nat) : Int) (decG (k : Int) a) (opT (k : Int) a) ((decC (k : Int) b : Nat) : Int) (decG (k : Int) b) (opT (k : Int) b) := by unfold mulF; rw [Int.toNat_natCast]
 obtain ⟨m1, m2⟩ := prod_mid (k := k) (cx := ((decC (k : Int) a : Nat) : Int)) (cy := ((decC (k : Int) b : Nat) : Int)) (gx := decG (k : Int) a) (gy := decG (k : Int) b) sa sb sc
 rw [← hm] at m1 m2
 unfold fusF
 rw [Int.toNat_natCast]
 by_cases h0 : (mulF (k : Int) a b).2.2.2 = 0
 ·rw [if_pos h0]
  refine ⟨fun h => sum_near m2 h, fun g cap w2 b2 h => ?_⟩
  obtain ⟨xo, xc, r0, k0⟩ := h.each 0 a rfl
  obtain ⟨yo, yc, r1, k1⟩ := h.each 1 b rfl
  obtain ⟨zo, zc, r2, k2⟩ := h.each 2 c rfl
  refine fused1_W _ _ _ _ _ _ _ _ _ _ _ _ _ _ _ _ _ _ _ _ _ _ _ _ _ _ _ _ _ _ _ _ w2 r0 r1 r2 (fun w3 b3 => ?_) (fun po pc w3 b3 hp => dsum_any k hk way _ _ _ _ _ _ _ _ _ _ w3 hp (k2.later b3) m1 (small_mid sc))
  have := dproduct_any k hk way ((decC (k : Int) a : Nat) : Int) ((decC (k : Int) b : Nat) : Int) (decG (k : Int) a) (decG (k : Int) b) (opT (k : Int) a) (opT (k : Int) b) xo yo xc yc w3 (k0.later b3) (k1.later b3) (small_mid sa) (small_mid sb)
  rw [← hm] at this
  unfold resV at this
  rw [h0] at this
  exact this
 ·rw [if_neg h0]
  refine ⟨fun h => by rw [hm] at h ⊢; exact prod_near (small_near sa sb).2.1 h, fun g cap w2 b2 h => ?_⟩
  obtain ⟨xo, xc, r0, k0⟩ := h.each 0 a rfl
  obtain ⟨yo, yc, r1, k1⟩ := h.each 1 b rfl
  obtain ⟨zo, zc, r2, k2⟩ := h.each 2 c rfl
  refine fused1_flag _ _ _ _ _ _ _ _ _ _ _ _ _ _ _ _ _ _ _ _ _ _ _ _ _ _ _ _ _ w2 (by simpa using h0) r0 r1 r2 (fun w3 b3 => ?_)
  have := dproduct_any k hk way ((decC (k : Int) a : Nat) : Int) ((decC (k : Int) b : Nat) : Int) (decG (k : Int) a) (decG (k : Int) b) (opT (k : Int) a) (opT (k : Int) b) xo yo xc yc w3 (k0.later b3) (k1.later b3) (small_mid sa) (small_mid sb)
  rw [← hm] at this
  exact this
theorem num_turn (x y : Trip) (sg : Bool) : numV (plusT x y) sg = numV (plusT y x) sg := by
 have hn : (plusT x y).n = (plusT y x).n ∧ (plusT x y).e = (plusT y x).e ∧ ((plusT x y).n ≠ 0 → (plusT x y).s = (plusT y x).s) := by
  unfold plusT
  simp only
  rw [Int.min_comm y.e x.e]
  generalize x.n * 2 ^ (x.e - min x.e y.e).toNat = u
  generalize y.n * 2 ^ (y.e - min x.e y.e).toNat = v
  by_cases hs : x.s = y.s
  ·rw [if_pos hs, if_pos hs.symm]
   exact ⟨Nat.add_comm _ _, rfl, fun _ => hs⟩
  ·rw [if_neg hs, if_neg (show ¬ y.s = x.s from fun c => hs c.symm)]
   by_cases h1 : u < v
   ·rw [if_pos h1, if_neg (by omega)]
    exact ⟨rfl, rfl, fun _ => rfl⟩
   ·rw [if_neg h1]
    by_cases h2 : v < u
    ·rw [if_pos h2]
     exact ⟨rfl, rfl, fun _ => rfl⟩
    ·rw [if_neg h2]
     have : u = v := by omega
     subst this
     exact ⟨rfl, rfl, fun c => absurd (Nat.sub_self u) c⟩
 obtain ⟨h1, h2, h3⟩ := hn
 unfold numV numC numG numT
 by_cases h0 : (plusT x y).n = 0
 ·rw [if_pos h0, if_pos h0, if_pos h0, if_pos (h1 ▸ h0), if_pos (h1 ▸ h0), if_pos (h1 ▸ h0)]
 ·have h0' : ¬ (plusT y x).n = 0 := h1 ▸ h0
  have e : plusT x y = plusT y x := by
   have := h3 h0
   generalize plusT x y = p at *
   generalize plusT y x = q at *
   cases p
   cases q
   simp_all
  rw [if_neg h0, if_neg h0, if_neg h0, if_neg h0', if_neg h0', if_neg h0', e]
theorem sumV_no {k : Nat} {wy cx cy : Int} {gx gy : Bool} {x y : Trip} (h : cx = 3 ∧ cy = 3 ∧ gx ≠ gy) : sumV k wy cx gx x cy gy y = noV k 16 := if_pos h
theorem sumV_x {k : Nat} {wy cx cy : Int} {gx gy : Bool} {x y : Trip} (h1 : cx = 3) (h : ¬ (cy = 3 ∧ gx ≠ gy)) : sumV k wy cx gx x cy gy y = (3, gx, x, 0) := by
 unfold sumV
 rw [if_neg (show ¬ (cx = 3 ∧ cy = 3 ∧ gx ≠ gy) from fun c => h c.2), if_pos h1]
theorem sumV_y {k : Nat} {wy cx cy : Int} {gx gy : Bool} {x y : Trip} (h1 : cx ≠ 3) (h2 : cy = 3) : sumV k wy cx gx x cy gy y = (3, gy, y, 0) := by
 unfold sumV
 rw [if_neg (show ¬ (cx = 3 ∧ cy = 3 ∧ gx ≠ gy) from fun c => h1 c.1), if_neg h1, if_pos h2]
theorem sumV_n {k : Nat} {wy cx cy : Int} {gx gy : Bool} {x y : Trip} (h1 : cx ≠ 3) (h2 : cy ≠ 3) : sumV k wy cx gx x cy gy y = numV (plusT x y) (if gx = gy then gx else decide (wy = 5)) := by
 unfold sumV
 rw [if_neg (show ¬ (cx = 3 ∧ cy = 3 ∧ gx ≠ gy) from fun c => h1 c.1), if_neg h1, if_neg h2]
theorem sum_turn (k : Nat) (wy cx cy : Int) (gx gy : Bool) (x y : Trip) (hx : cx = 3 → x = ⟨false, 0, 0⟩) (hy : cy = 3 → y = ⟨false, 0, 0⟩) : sumV k wy cx gx x cy gy y = sumV k wy cy gy y cx gx x := by
 by_cases h1 : cx = 3
 ·by_cases h2 : cy = 3
  ·by_cases h3 : gx = gy
   ·rw [sumV_x h1 (fun c => c.2 h3), sumV_x h2 (fun c => c.2 h3.symm), h3, hx h1, hy h2]
   ·rw [sumV_no ⟨h1, h2, h3⟩, sumV_no ⟨h2, h1, fun c => h3 c.symm⟩]
  ·rw [sumV_x h1 (fun c => h2 c.1), sumV_y h2 h1]
 ·by_cases h2 : cy = 3
  ·rw [sumV_y h1 h2, sumV_x h2 (fun c => h1 c.1)]
  ·rw [sumV_n h1 h2, sumV_n h2 h1, num_turn x y]
   by_cases h3 : gx = gy
   ·rw [if_pos h3, if_pos h3.symm, h3]
   ·rw [if_neg h3, if_neg (fun c => h3 c.symm)]
theorem bne_turn (a b : Bool) : (a != b) = (b != a) := by cases a <;> cases b <;> rfl
theorem prod_turn (k : Nat) (cx cy : Int) (gx gy : Bool) (x y : Trip) : prodV k cx gx x cy gy y = prodV k cy gy y cx gx x := by
 have ht : timesT x y = timesT y x := by
  unfold timesT
  rw [bne_turn x.s, Nat.mul_comm, Int.add_comm]
 unfold prodV
 rw [ht, bne_turn gx]
 by_cases h1 : cx = 3 ∧ cy = 1 ∨ cx = 1 ∧ cy = 3
 ·rw [if_pos h1, if_pos (show cy = 3 ∧ cx = 1 ∨ cy = 1 ∧ cx = 3 by omega)]
 ·rw [if_neg h1, if_neg (show ¬ (cy = 3 ∧ cx = 1 ∨ cy = 1 ∧ cx = 3) by omega)]
  by_cases h2 : cx = 3 ∨ cy = 3
  ·rw [if_pos h2, if_pos (show cy = 3 ∨ cx = 3 by omega)]
  ·rw [if_neg h2, if_neg (show ¬ (cy = 3 ∨ cx = 3) by omega)]
end Go.Proofs.YtnhackdjplppjaaGreatDoor

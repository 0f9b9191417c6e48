/-
  Texts laid together: Gr1.
-/
import Derived.Test.YtiiphandhpilgaaGreatDoorNd14
set_option maxRecDepth 100000
namespace Go.Proofs.YtiiphandhpilgaaGreatDoor
open Go.RowKit
def farB (m n : Int) : Bool := decide (n < -m) || decide (m < n)
theorem beyond_any (n m : Int) (w : World) (h0 : 0 ≤ m) (h1 : m ≤ 1000000) : Calls Tryz.prog 98 #[.int .i64 n, .int .i64 m] w fun z w' => z = .returned (.bool (farB m n)) ∧ w' = w := by
 have hw : IntKind.i64.wrap (-m) = -m := IntWalk.i64_in _ ⟨by omega, by omega⟩
 unfold farB
 by_cases h : n < -m
 ·go_enter Tryz.func98, Tryz.ntmps98
  go_wp2
  go_ret
  simp [h]
 ·go_enter Tryz.func98, Tryz.ntmps98
  go_wp2
  go_ret
  simp
  omega
def mostR (R : Int) : Int := if R = 16 then 4000 else 17000
def gridC (R D L G : Int) : Int := if R = 2 ∨ R = 16 then (if D < 1 ∨ 120 < D ∨ farB (mostR R) L = true ∨ farB (mostR R) G = true ∨ G < L then 3 else 0) else 6
theorem gridC_kind {R D L G : Int} (h1 : ¬R = 2) (h2 : ¬R = 16) : gridC R D L G = 6 := if_neg (fun h => h.elim h1 h2)
theorem gridC_bad {R D L G : Int} (h : R = 2 ∨ R = 16) (hb : D < 1 ∨ 120 < D ∨ farB (mostR R) L = true ∨ farB (mostR R) G = true ∨ G < L) : gridC R D L G = 3 := (if_pos h).trans (if_pos hb)
theorem gridC_ok {R D L G : Int} (h : R = 2 ∨ R = 16) (hb : ¬(D < 1 ∨ 120 < D ∨ farB (mostR R) L = true ∨ farB (mostR R) G = true ∨ G < L)) : gridC R D L G = 0 := (if_pos h).trans (if_neg hb)
theorem gridC_zero {R D L G : Int} (h : gridC R D L G = 0) : (R = 2 ∨ R = 16) ∧ 1 ≤ D ∧ D ≤ 120 ∧ -17000 ≤ L ∧ L ≤ 17000 ∧ -17000 ≤ G ∧ G ≤ 17000 ∧ L ≤ G ∧ (R = 16 → -4000 ≤ L ∧ G ≤ 4000) := by
 unfold gridC at h
 split at h
 ·rename_i h1
  split at h
  ·omega
  ·rename_i h2
   have f1 : farB (mostR R) L = false := by
    cases hc : farB (mostR R) L
    ·rfl
    ·exact absurd (.inr (.inr (.inl hc))) h2
   have f2 : farB (mostR R) G = false := by
    cases hc : farB (mostR R) G
    ·rfl
    ·exact absurd (.inr (.inr (.inr (.inl hc)))) h2
   unfold farB mostR at f1 f2
   simp only [Bool.or_eq_false_iff, decide_eq_false_iff_not] at f1 f2
   refine ⟨h1, by omega, by omega, ?_⟩
   split at f1 <;> split at f2 <;> first | omega | (refine ⟨by omega, by omega, by omega, by omega, by omega, fun _ => by omega⟩)
 ·omega
set_option maxHeartbeats 3200000 in
theorem gcheck2_any (D L G : Int) (gr : Bool) (w : World) :
  Calls Tryz.prog 97 #[.agg #[.int .i64 2, .int .i64 D, .int .i64 L, .int .i64 G, .bool gr]] w fun z w' => z = .returned (.int .i64 (gridC 2 D L G)) ∧ Below w.heap.size w w' := by
 have bA := below_alloc w (.cells #[.int .i64 2, .int .i64 D, .int .i64 L, .int .i64 G, .bool gr] 42)
 have l1 := locE_new w [.int .i64 2, .int .i64 D, .int .i64 L, .int .i64 G, .bool gr] 42
 have c1 := l1.cell 1 rfl
 have c2 := l1.cell 2 rfl
 have c3 := l1.cell 3 rfl
 obtain ⟨C, hC⟩ : ∃ C, gridC 2 D L G = C := ⟨_, rfl⟩
 have HC3 : Hid (D < 1 ∨ 120 < D ∨ farB 17000 L = true ∨ farB 17000 G = true ∨ G < L → 3 = C) := fun h => by rw [← hC]; exact (gridC_bad (R := 2) (by omega) h).symm
 have HC0 : Hid (¬(D < 1 ∨ 120 < D ∨ farB 17000 L = true ∨ farB 17000 G = true ∨ G < L) → 0 = C) := fun h => by rw [← hC]; exact (gridC_ok (R := 2) (by omega) h).symm
 rw [hC]
 have H1 : Hid (∀ w1, Calls Tryz.prog 98 #[.int .i64 L, .int .i64 17000] w1 fun z w' => z = .returned (.bool (farB 17000 L)) ∧ w' = w1) := fun w1 => beyond_any L 17000 w1 (by omega) (by omega)
 have H2 : Hid (∀ w1, Calls Tryz.prog 98 #[.int .i64 G, .int .i64 17000] w1 fun z w' => z = .returned (.bool (farB 17000 G)) ∧ w' = w1) := fun w1 => beyond_any G 17000 w1 (by omega) (by omega)
 obtain ⟨bl, hbl⟩ : ∃ b, farB 17000 L = b := ⟨_, rfl⟩
 obtain ⟨bg, hbg⟩ : ∃ b, farB 17000 G = b := ⟨_, rfl⟩
 rw [hbl] at H1 HC3 HC0
 rw [hbg] at H2 HC3 HC0
 clear hC hbl hbg
 by_cases d1 : D < 1
 ·obtain rfl := HC3.out (.inl d1)
  go_enter Tryz.func97, Tryz.ntmps97
  go_wp2
  go_ret
  exact ⟨rfl, bA⟩
 ·by_cases d2 : 120 < D
  ·obtain rfl := HC3.out (.inr (.inl d2))
   go_enter Tryz.func97, Tryz.ntmps97
   go_wp2
   go_ret
   exact ⟨rfl, bA⟩
  ·cases bl
   ·cases bg
    ·by_cases d3 : G < L
     ·obtain rfl := HC3.out (.inr (.inr (.inr (.inr d3))))
      go_enter Tryz.func97, Tryz.ntmps97
      go_wp2_with fail
      refine (H1.out _).mono ?_
      rintro z w2 ⟨rfl, rfl⟩
      go_wp2_with fail
      refine (H2.out _).mono ?_
      rintro z w3 ⟨rfl, rfl⟩
      go_wp2
      go_ret
      exact ⟨rfl, bA⟩
     ·obtain rfl := HC0.out (by simp [d1, d2, d3])
      go_enter Tryz.func97, Tryz.ntmps97
      go_wp2_with fail
      refine (H1.out _).mono ?_
      rintro z w2 ⟨rfl, rfl⟩
      go_wp2_with fail
      refine (H2.out _).mono ?_
      rintro z w3 ⟨rfl, rfl⟩
      go_wp2
      go_ret
      exact ⟨rfl, bA⟩
    ·obtain rfl := HC3.out (.inr (.inr (.inr (.inl rfl))))
     go_enter Tryz.func97, Tryz.ntmps97
     go_wp2_with fail
     refine (H1.out _).mono ?_
     rintro z w2 ⟨rfl, rfl⟩
     go_wp2_with fail
     refine (H2.out _).mono ?_
     rintro z w3 ⟨rfl, rfl⟩
     go_wp2
     go_ret
     exact ⟨rfl, bA⟩
   ·obtain rfl := HC3.out (.inr (.inr (.inl rfl)))
    go_enter Tryz.func97, Tryz.ntmps97
    go_wp2_with fail
    refine (H1.out _).mono ?_
    rintro z w2 ⟨rfl, rfl⟩
    go_wp2
    go_ret
    exact ⟨rfl, bA⟩
set_option maxHeartbeats 3200000 in
theorem gcheck16_any (D L G : Int) (gr : Bool) (w : World) :
  Calls Tryz.prog 97 #[.agg #[.int .i64 16, .int .i64 D, .int .i64 L, .int .i64 G, .bool gr]] w fun z w' => z = .returned (.int .i64 (gridC 16 D L G)) ∧ Below w.heap.size w w' := by
 have bA := below_alloc w (.cells #[.int .i64 16, .int .i64 D, .int .i64 L, .int .i64 G, .bool gr] 42)
 have l1 := locE_new w [.int .i64 16, .int .i64 D, .int .i64 L, .int .i64 G, .bool gr] 42
 have c1 := l1.cell 1 rfl
 have c2 := l1.cell 2 rfl
 have c3 := l1.cell 3 rfl
 obtain ⟨C, hC⟩ : ∃ C, gridC 16 D L G = C := ⟨_, rfl⟩
 have HC3 : Hid (D < 1 ∨ 120 < D ∨ farB 4000 L = true ∨ farB 4000 G = true ∨ G < L → 3 = C) := fun h => by rw [← hC]; exact (gridC_bad (R := 16) (by omega) h).symm
 have HC0 : Hid (¬(D < 1 ∨ 120 < D ∨ farB 4000 L = true ∨ farB 4000 G = true ∨ G < L) → 0 = C) := fun h => by rw [← hC]; exact (gridC_ok (R := 16) (by omega) h).symm
 rw [hC]
 have H1 : Hid (∀ w1, Calls Tryz.prog 98 #[.int .i64 L, .int .i64 4000] w1 fun z w' => z = .returned (.bool (farB 4000 L)) ∧ w' = w1) := fun w1 => beyond_any L 4000 w1 (by omega) (by omega)
 have H2 : Hid (∀ w1, Calls Tryz.prog 98 #[.int .i64 G, .int .i64 4000] w1 fun z w' => z = .returned (.bool (farB 4000 G)) ∧ w' = w1) := fun w1 => beyond_any G 4000 w1 (by omega) (by omega)
 obtain ⟨bl, hbl⟩ : ∃ b, farB 4000 L = b := ⟨_, rfl⟩
 obtain ⟨bg, hbg⟩ : ∃ b, farB 4000 G = b := ⟨_, rfl⟩
 rw [hbl] at H1 HC3 HC0
 rw [hbg] at H2 HC3 HC0
 clear hC hbl hbg
 by_cases d1 : D < 1
 ·obtain rfl := HC3.out (.inl d1)
  go_enter Tryz.func97, Tryz.ntmps97
  go_wp2
  go_ret
  exact ⟨rfl, bA⟩
 ·by_cases d2 : 120 < D
  ·obtain rfl := HC3.out (.inr (.inl d2))
   go_enter Tryz.func97, Tryz.ntmps97
   go_wp2
   go_ret
   exact ⟨rfl, bA⟩
  ·cases bl
   ·cases bg
    ·by_cases d3 : G < L
     ·obtain rfl := HC3.out (.inr (.inr (.inr (.inr d3))))
      go_enter Tryz.func97, Tryz.ntmps97
      go_wp2_with fail
      refine (H1.out _).mono ?_
      rintro z w2 ⟨rfl, rfl⟩
      go_wp2_with fail
      refine (H2.out _).mono ?_
      rintro z w3 ⟨rfl, rfl⟩
      go_wp2
      go_ret
      exact ⟨rfl, bA⟩
     ·obtain rfl := HC0.out (by simp [d1, d2, d3])
      go_enter Tryz.func97, Tryz.ntmps97
      go_wp2_with fail
      refine (H1.out _).mono ?_
      rintro z w2 ⟨rfl, rfl⟩
      go_wp2_with fail
      refine (H2.out _).mono ?_
      rintro z w3 ⟨rfl, rfl⟩
      go_wp2
      go_ret
      exact ⟨rfl, bA⟩
    ·obtain rfl := HC3.out (.inr (.inr (.inr (.inl rfl))))
     go_enter Tryz.func97, Tryz.ntmps97
     go_wp2_with fail
     refine (H1.out _).mono ?_
     rintro z w2 ⟨rfl, rfl⟩
     go_wp2_with fail
     refine (H2.out _).mono ?_
     rintro z w3 ⟨rfl, rfl⟩
     go_wp2
     go_ret
     exact ⟨rfl, bA⟩
   ·obtain rfl := HC3.out (.inr (.inr (.inl rfl)))
    go_enter Tryz.func97, Tryz.ntmps97
    go_wp2_with fail
    refine (H1.out _).mono ?_
    rintro z w2 ⟨rfl, rfl⟩
    go_wp2
    go_ret
    exact ⟨rfl, bA⟩
theorem gcheck_any (R D L G : Int) (gr : Bool) (w : World) :
  Calls Tryz.prog 97 #[.agg #[.int .i64 R, .int .i64 D, .int .i64 L, .int .i64 G, .bool gr]] w fun z w' => z = .returned (.int .i64 (gridC R D L G)) ∧ Below w.heap.size w w' := by
 by_cases h2 : R = 2
 ·subst h2
  exact gcheck2_any D L G gr w
 ·by_cases h16 : R = 16
  ·subst h16
   exact gcheck16_any D L G gr w
  ·rw [gridC_kind h2 h16]
   have bA := below_alloc w (.cells #[.int .i64 R, .int .i64 D, .int .i64 L, .int .i64 G, .bool gr] 42)
   have e1 : (R != 2) = true := by simp; exact h2
   have e2 : (R != 16) = true := by simp; exact h16
   go_enter Tryz.func97, Tryz.ntmps97
   go_wp2
   go_ret
   exact ⟨rfl, bA⟩
def widthR (R : Int) : Int := if R = 16 then 4 else 1
theorem width_any (R D L G : Int) (gr : Bool) (w : World) :
  Calls Tryz.prog 108 #[.agg #[.int .i64 R, .int .i64 D, .int .i64 L, .int .i64 G, .bool gr]] w fun z w' => z = .returned (.int .i64 (widthR R)) ∧ Below w.heap.size w w' := by
 have bA := below_alloc w (.cells #[.int .i64 R, .int .i64 D, .int .i64 L, .int .i64 G, .bool gr] 140)
 unfold widthR
 by_cases h : R = 16
 ·rw [if_pos h]
  subst h
  go_enter Tryz.func108, Tryz.ntmps108
  go_wp2
  go_ret
  exact ⟨rfl, bA⟩
 ·rw [if_neg h]
  have e : (R == 16) = false := by simp; exact h
  go_enter Tryz.func108, Tryz.ntmps108
  go_wp2
  go_ret
  exact ⟨rfl, bA⟩
def widthN (R : Int) : Nat := if R = 16 then 4 else 1
theorem widthR_nat (R : Int) : widthR R = (widthN R : Int) := by unfold widthR widthN; split <;> rfl
theorem widthN_le (R : Int) : 1 ≤ widthN R ∧ widthN R ≤ 4 := by unfold widthN; split <;> omega
set_option maxHeartbeats 800000 in
theorem graised_any (R D L G : Int) (gr : Bool) (n : Nat) (w : World) (hn : n ≤ 1000) :
  Calls Tryz.prog 124 #[.agg #[.int .i64 R, .int .i64 D, .int .i64 L, .int .i64 G, .bool gr], .int .i64 n] w (Num w (2 ^ (widthN R * n))) := by
 have b1 := below_alloc w (.cells #[.int .i64 R, .int .i64 D, .int .i64 L, .int .i64 G, .bool gr] 140)
 have b2 := below_trans b1 (below_alloc _ (.cells #[.int .u32 ((1 : Nat) : Int)] 79))
 have r2 := rd_new (w := w.alloc (.cells #[.int .i64 R, .int .i64 D, .int .i64 L, .int .i64 G, .bool gr] 140)) (k := .u32) (e := 79) [1] #[.int .u32 ((1 : Nat) : Int)] rfl (by unfold maxLen; simp)
 rw [World.size_alloc] at r2
 have HW : Hid (∀ w1, Calls Tryz.prog 108 #[.agg #[.int .i64 R, .int .i64 D, .int .i64 L, .int .i64 G, .bool gr]] w1 fun z w' => z = .returned (.int .i64 (widthR R)) ∧ Below w1.heap.size w1 w') := fun w1 => width_any R D L G gr w1
 have hwl := widthN_le R
 rw [widthR_nat] at HW
 obtain ⟨wd, hwd⟩ : ∃ k, widthN R = k := ⟨_, rfl⟩
 rw [hwd] at HW hwl ⊢
 have hml : wd * n ≤ 4000 := Nat.le_trans (Nat.mul_le_mul hwl.2 hn) (by omega)
 have HS : Hid (∀ v w1, Rd w1 .u32 v [1] → Calls Tryz.prog 122 #[v, .int .i64 ((wd : Int) * (n : Int))] w1 (Num w1 (2 ^ (wd * n)))) := fun v w1 r => by
  have := shifted_any v [1] ((wd * n : Nat) : Int) w1 r (Dg.small_cons.2 ⟨by omega, Dg.small_nil _ (by omega)⟩) (by simp) (by omega) (by omega)
  rw [shN_up _ _ (by omega), Int.toNat_natCast, show Dg.vl 4294967296 [1] = 1 from rfl, Nat.one_mul] at this
  rwa [Int.natCast_mul] at this
 have hmi : (wd : Int) * (n : Int) ≤ 4000 := by exact_mod_cast hml
 have hm0 : 0 ≤ (wd : Int) * (n : Int) := by exact_mod_cast Nat.zero_le _
 have hw1 : IntKind.i64.wrap ((wd : Int) * (n : Int)) = (wd : Int) * (n : Int) := IntWalk.i64_in _ ⟨by omega, by omega⟩
 clear hwd
 go_enter Tryz.func124, Tryz.ntmps124
 go_wp2_with fail
 refine (HW.out _).mono ?_
 rintro z w3 ⟨rfl, b3⟩
 have b03 := below_trans b2 b3
 have r3 := r2.later b3
 clear b1 b2 r2 b3
 go_wp2_with fail
 refine (HS.out _ _ r3).mono ?_
 rintro z w4 ⟨v4, rfl, o4, b4⟩
 have b04 := below_trans b03 b4
 have o5 := o4.lower b03.size
 go_wp2
 go_ret
 exact ⟨_, rfl, o5, b04⟩
theorem gfirst_any (R D L G : Int) (gr : Bool) (w : World) (h1 : 1 ≤ D) (h2 : D ≤ 120) :
  Calls Tryz.prog 102 #[.agg #[.int .i64 R, .int .i64 D, .int .i64 L, .int .i64 G, .bool gr]] w (Num w (2 ^ (widthN R * (D - 1).toNat))) := by
 obtain ⟨d, rfl⟩ : ∃ d : Nat, D = (d : Int) + 1 := ⟨(D - 1).toNat, by omega⟩
 have e0 : ((d : Int) + 1 - 1).toNat = d := by omega
 rw [e0]
 have b1 := below_alloc w (.cells #[.int .i64 R, .int .i64 ((d : Int) + 1), .int .i64 L, .int .i64 G, .bool gr] 140)
 have HR : Hid (∀ w1, Calls Tryz.prog 124 #[.agg #[.int .i64 R, .int .i64 ((d : Int) + 1), .int .i64 L, .int .i64 G, .bool gr], .int .i64 d] w1 (Num w1 (2 ^ (widthN R * d)))) := fun w1 => graised_any R _ L G gr d w1 (by omega)
 go_enter Tryz.func102, Tryz.ntmps102
 go_wp2_with fail
 refine (HR.out _).mono ?_
 rintro z w4 ⟨v4, rfl, o4, b4⟩
 have b04 := below_trans b1 b4
 have o5 := o4.lower b1.size
 go_wp2
 go_ret
 exact ⟨_, rfl, o5, b04⟩
theorem gend_any (R D L G : Int) (gr : Bool) (w : World) (h1 : 1 ≤ D) (h2 : D ≤ 120) :
  Calls Tryz.prog 104 #[.agg #[.int .i64 R, .int .i64 D, .int .i64 L, .int .i64 G, .bool gr]] w (Num w (2 ^ (widthN R * D.toNat))) := by
 obtain ⟨d, rfl⟩ : ∃ d : Nat, D = (d : Int) := ⟨D.toNat, by omega⟩
 rw [Int.toNat_natCast]
 have b1 := below_alloc w (.cells #[.int .i64 R, .int .i64 (d : Int), .int .i64 L, .int .i64 G, .bool gr] 140)
 have HR : Hid (∀ w1, Calls Tryz.prog 124 #[.agg #[.int .i64 R, .int .i64 (d : Int), .int .i64 L, .int .i64 G, .bool gr], .int .i64 d] w1 (Num w1 (2 ^ (widthN R * d)))) := fun w1 => graised_any R _ L G gr d w1 (by omega)
 go_enter Tryz.func104, Tryz.ntmps104
 go_wp2_with fail
 refine (HR.out _).mono ?_
 rintro z w4 ⟨v4, rfl, o4, b4⟩
 have b04 := below_trans b1 b4
 have o5 := o4.lower b1.size
 go_wp2
 go_ret
 exact ⟨_, rfl, o5, b04⟩
def powerR (R D top : Int) : Int := top / (widthN R : Int) - (D - 1)
theorem tdiv_floor (a : Int) (k : Nat) (hk : 0 < k) : (a < a.tdiv k * k → a / (k : Int) = a.tdiv k - 1) ∧ (¬a < a.tdiv k * k → a / (k : Int) = a.tdiv k) := by
 have e := Int.tmod_add_mul_tdiv a k
 have h1 : a.tmod k < k := Int.tmod_lt_of_pos a (by omega)
 have h2 : -(k : Int) < a.tmod k := by
  have h := Int.tmod_lt_of_pos (-a) (b := (k : Int)) (by omega)
  rw [Int.neg_tmod] at h
  omega
 have e2 : (k : Int) * a.tdiv k = a.tdiv k * k := Int.mul_comm _ _
 rw [e2] at e
 constructor
 ·intro h
  have h3 : a = (a.tmod k + k) + (k : Int) * (a.tdiv k - 1) := by
   rw [Int.mul_sub, e2]
   omega
  rw [h3, Int.add_mul_ediv_left _ _ (by omega), Int.ediv_eq_zero_of_lt (by omega) (by omega)]
  rw [← h3]
  omega
 ·intro h
  have h3 : a = a.tmod k + (k : Int) * a.tdiv k := by
   rw [e2]
   omega
  rw [h3, Int.add_mul_ediv_left _ _ (by omega), Int.ediv_eq_zero_of_lt (by omega) (by omega)]
  rw [← h3]
  omega
set_option maxHeartbeats 800000 in
theorem gpower_any (R D L G : Int) (gr : Bool) (top : Int) (w : World) (h1 : 1 ≤ D) (h2 : D ≤ 120) (t1 : -1000000 ≤ top) (t2 : top ≤ 1000000) :
  Calls Tryz.prog 119 #[.agg #[.int .i64 R, .int .i64 D, .int .i64 L, .int .i64 G, .bool gr], .int .i64 top] w fun z w' => z = .returned (.int .i64 (powerR R D top)) ∧ Below w.heap.size w w' := by
 have b1 := below_alloc w (.cells #[.int .i64 R, .int .i64 D, .int .i64 L, .int .i64 G, .bool gr] 140)
 have l1 := locE_new w [.int .i64 R, .int .i64 D, .int .i64 L, .int .i64 G, .bool gr] 140
 have HW : Hid (∀ w1, Calls Tryz.prog 108 #[.agg #[.int .i64 R, .int .i64 D, .int .i64 L, .int .i64 G, .bool gr]] w1 fun z w' => z = .returned (.int .i64 (widthR R)) ∧ Below w1.heap.size w1 w') := fun w1 => width_any R D L G gr w1
 have hwl := widthN_le R
 have hfl := tdiv_floor top (widthN R) (by omega)
 unfold powerR
 rw [widthR_nat] at HW
 obtain ⟨wd, hwd⟩ : ∃ k, widthN R = k := ⟨_, rfl⟩
 rw [hwd] at HW hwl hfl ⊢
 have hne : ((wd : Int) == 0) = false := by simp; omega
 have hne2 : ¬(wd : Int) = 0 := by omega
 have q1 : -1000000 ≤ top.tdiv wd ∧ top.tdiv wd ≤ 1000000 := by
  have := Int.natAbs_tdiv_le_natAbs top wd
  omega
 have q2 : -1000004 ≤ top.tdiv wd * wd ∧ top.tdiv wd * wd ≤ 1000004 := by
  have e := Int.tmod_add_mul_tdiv top wd
  have e2 : (wd : Int) * top.tdiv wd = top.tdiv wd * wd := Int.mul_comm _ _
  have hx := Int.tmod_lt_of_pos top (b := (wd : Int)) (by omega)
  have hy := Int.tmod_lt_of_pos (-top) (b := (wd : Int)) (by omega)
  rw [Int.neg_tmod] at hy
  omega
 obtain ⟨q, hq⟩ : ∃ q, top.tdiv wd = q := ⟨_, rfl⟩
 rw [hq] at hfl q1 q2
 obtain ⟨m, hm⟩ : ∃ m, q * (wd : Int) = m := ⟨_, rfl⟩
 rw [hm] at hfl q2
 have w0 : IntKind.i64.wrap q = q := IntWalk.i64_in _ ⟨by omega, by omega⟩
 have w1 : IntKind.i64.wrap m = m := IntWalk.i64_in _ ⟨by omega, by omega⟩
 have w2 : IntKind.i64.wrap (D - 1) = D - 1 := IntWalk.i64_in _ ⟨by omega, by omega⟩
 clear hwd
 by_cases hlt : top < m
 ·rw [hfl.1 hlt]
  have w3 : IntKind.i64.wrap (q - 1) = q - 1 := IntWalk.i64_in _ ⟨by omega, by omega⟩
  have w4 : IntKind.i64.wrap (q - 1 - (D - 1)) = q - 1 - (D - 1) := IntWalk.i64_in _ ⟨by omega, by omega⟩
  clear hfl
  go_enter Tryz.func119, Tryz.ntmps119
  go_wp2_with fail
  refine (HW.out _).mono ?_
  rintro z w3' ⟨rfl, b3⟩
  have b03 := below_trans b1 b3
  have c1 := (l1.later b3).cell 1 rfl
  go_wp2
  go_ret
  exact ⟨rfl, b03⟩
 ·rw [hfl.2 hlt]
  have hltf : decide (top < m) = false := by simp; omega
  have w4 : IntKind.i64.wrap (q - (D - 1)) = q - (D - 1) := IntWalk.i64_in _ ⟨by omega, by omega⟩
  clear hfl
  go_enter Tryz.func119, Tryz.ntmps119
  go_wp2_with fail
  refine (HW.out _).mono ?_
  rintro z w3' ⟨rfl, b3⟩
  have b03 := below_trans b1 b3
  have c1 := (l1.later b3).cell 1 rfl
  go_wp2
  go_ret
  exact ⟨rfl, b03⟩
def ratioC (xs ys : List Nat) (E : Int) : Int := if chk xs = 0 then (if chk ys = 0 then (if ys.length = 0 ∨ farB 20000 E = true then 3 else 0) else chk ys) else chk xs
def wrongG (c d : Int) : Int := if c = 0 then d else c
def wrongL (cx cy : Int) (ly : Nat) (fe : Bool) (gc : Int) : Int := if cx = 0 then (if cy = 0 then (if ly = 0 ∨ fe = true then 3 else gc) else cy) else cx
theorem wrongL_eq (xs ys : List Nat) (E gc : Int) : wrongG (ratioC xs ys E) gc = wrongL (chk xs) (chk ys) ys.length (farB 20000 E) gc := by
 unfold wrongG ratioC wrongL
 by_cases h1 : chk xs = 0
 ·rw [if_pos h1, if_pos h1]
  by_cases h2 : chk ys = 0
  ·rw [if_pos h2, if_pos h2]
   by_cases h3 : ys.length = 0 ∨ farB 20000 E = true
   ·rw [if_pos h3, if_pos h3, if_neg (by omega)]
   ·rw [if_neg h3, if_neg h3, if_pos rfl]
  ·rw [if_neg h2, if_neg h2, if_neg h2]
 ·rw [if_neg h1, if_neg h1, if_neg h1]
set_option maxHeartbeats 1600000 in
theorem gwrongW_any (qs : Bool) (ao : Option Addr) (ca la : Nat) (bo : Option Addr) (cb lb : Nat) (E R D L G : Int) (gr : Bool) (cx cy : Int) (fe : Bool) (gc : Int) (w : World)
  (H1 : ∀ w1, Below w.heap.size w w1 → Calls Tryz.prog 21 #[.slice ao la ca] w1 fun z w' => z = .returned (.int .i64 cx) ∧ w' = w1)
  (H2 : ∀ w1, Below w.heap.size w w1 → Calls Tryz.prog 21 #[.slice bo lb cb] w1 fun z w' => z = .returned (.int .i64 cy) ∧ w' = w1)
  (H3 : ∀ w1, Calls Tryz.prog 98 #[.int .i64 E, .int .i64 20000] w1 fun z w' => z = .returned (.bool fe) ∧ w' = w1)
  (H4 : ∀ w1, Calls Tryz.prog 97 #[.agg #[.int .i64 R, .int .i64 D, .int .i64 L, .int .i64 G, .bool gr]] w1 fun z w' => z = .returned (.int .i64 gc) ∧ Below w1.heap.size w1 w') :
  Calls Tryz.prog 110 #[.agg #[.bool qs, .slice ao la ca, .slice bo lb cb, .int .i64 E], .agg #[.int .i64 R, .int .i64 D, .int .i64 L, .int .i64 G, .bool gr]] w fun z w' => z = .returned (.int .i64 (wrongL cx cy lb fe gc)) ∧ Below w.heap.size w w' := by
 replace H1 : Hid _ := H1
 replace H2 : Hid _ := H2
 replace H3 : Hid _ := H3
 replace H4 : Hid _ := H4
 have b1 := below_trans (below_alloc w (.cells #[.bool qs, .slice ao la ca, .slice bo lb cb, .int .i64 E] 147)) (below_alloc _ (.cells #[.int .i64 R, .int .i64 D, .int .i64 L, .int .i64 G, .bool gr] 42))
 by_cases hx : cx = 0
 ·subst hx
  by_cases hy : cy = 0
  ·subst hy
   by_cases hl : lb = 0
   ·subst hl
    rw [show wrongL 0 0 0 fe gc = 3 from by unfold wrongL; simp]
    go_enter Tryz.func110, Tryz.ntmps110
    go_wp2_with fail
    refine (H1.out _ b1).mono ?_
    rintro z w2 ⟨rfl, rfl⟩
    go_wp2_with fail
    refine (H2.out _ b1).mono ?_
    rintro z w2 ⟨rfl, rfl⟩
    go_wp2
    go_ret
    exact ⟨rfl, b1⟩
   ·have hlf : ((lb : Int) == 0) = false := by simp; exact hl
    cases fe
    ·rw [show wrongL 0 0 lb false gc = gc from by unfold wrongL; simp [hl]]
     go_enter Tryz.func110, Tryz.ntmps110
     go_wp2_with fail
     refine (H1.out _ b1).mono ?_
     rintro z w2 ⟨rfl, rfl⟩
     go_wp2_with fail
     refine (H2.out _ b1).mono ?_
     rintro z w2 ⟨rfl, rfl⟩
     go_wp2_with fail
     refine (H3.out _).mono ?_
     rintro z w2 ⟨rfl, rfl⟩
     go_wp2_with fail
     refine (H4.out _).mono ?_
     rintro z w4 ⟨rfl, b4⟩
     have b04 := below_trans b1 b4
     go_wp2
     go_ret
     exact ⟨rfl, b04⟩
    ·rw [show wrongL 0 0 lb true gc = 3 from by unfold wrongL; simp]
     go_enter Tryz.func110, Tryz.ntmps110
     go_wp2_with fail
     refine (H1.out _ b1).mono ?_
     rintro z w2 ⟨rfl, rfl⟩
     go_wp2_with fail
     refine (H2.out _ b1).mono ?_
     rintro z w2 ⟨rfl, rfl⟩
     go_wp2_with fail
     refine (H3.out _).mono ?_
     rintro z w2 ⟨rfl, rfl⟩
     go_wp2
     go_ret
     exact ⟨rfl, b1⟩
  ·have hyf : (cy == 0) = false := by simp; exact hy
   rw [show wrongL 0 cy lb fe gc = cy from by unfold wrongL; simp [hy]]
   go_enter Tryz.func110, Tryz.ntmps110
   go_wp2_with fail
   refine (H1.out _ b1).mono ?_
   rintro z w2 ⟨rfl, rfl⟩
   go_wp2_with fail
   refine (H2.out _ b1).mono ?_
   rintro z w2 ⟨rfl, rfl⟩
   go_wp2
   go_ret
   exact ⟨rfl, b1⟩
 ·have hxf : (cx == 0) = false := by simp; exact hx
  rw [show wrongL cx cy lb fe gc = cx from by unfold wrongL; simp [hx]]
  go_enter Tryz.func110, Tryz.ntmps110
  go_wp2_with fail
  refine (H1.out _ b1).mono ?_
  rintro z w2 ⟨rfl, rfl⟩
  go_wp2
  go_ret
  exact ⟨rfl, b1⟩
theorem gwrong_any (qs : Bool) (ao : Option Addr) (ca : Nat) (xs : List Nat) (bo : Option Addr) (cb : Nat) (ys : List Nat) (E R D L G : Int) (gr : Bool) (w : World) (ha : Rd w .u32 (.slice ao xs.length ca) xs) (hb : Rd w .u32 (.slice bo ys.length cb) ys) :
  Calls Tryz.prog 110 #[.agg #[.bool qs, .slice ao xs.length ca, .slice bo ys.length cb, .int .i64 E], .agg #[.int .i64 R, .int .i64 D, .int .i64 L, .int .i64 G, .bool gr]] w fun z w' => z = .returned (.int .i64 (wrongG (ratioC xs ys E) (gridC R D L G))) ∧ Below w.heap.size w w' := by
 rw [wrongL_eq]
 exact gwrongW_any qs ao ca xs.length bo cb ys.length E R D L G gr _ _ _ _ w (fun w1 b1 => check_any _ _ w1 (ha.later b1)) (fun w1 b1 => check_any _ _ w1 (hb.later b1)) (fun w1 => beyond_any E 20000 w1 (by omega) (by omega)) (fun w1 => gcheck_any R D L G gr w1)
end Go.Proofs.YtiiphandhpilgaaGreatDoor

/-
  Contract of nat.Div; the walk of the law NatDivides.
-/
import Derived.Test.YtepcafhlhnlgaaaOver
import Derived.Test.YtepcafhlhnlgaaaLaws2
namespace Go.Proofs.Ytepcafhlhnlgaaa
open Go.RowKit

/-- What Div tells of two numbers. -/
def divE (xs ys : List Nat) : Int := if chk2 xs ys = 0 then (if ys = [] then 3 else 0) else chk2 xs ys

def DivA (w : World) (e : Ending) (w' : World) (q r : List Nat) (c : Int) : Prop :=
  ∃ v1 v2, e = .returned (.tuple #[v1, v2, .int .i64 c]) ∧ Own w' w.heap.size 58 .u32 v1 q ∧ Own w' w.heap.size 58 .u32 v2 r ∧ Below w.heap.size w w'

theorem div_yes (va vb : Value) (xs ys : List Nat) (w : World) (ha : Rd w .u32 va xs) (hb : Rd w .u32 vb ys) (sa : Dg.Small 4294967296 xs) (sb : Dg.Small 4294967296 ys) (hc : chk2 xs ys = 0) (hne : ys ≠ []) :
    Calls Try.prog 36 #[va, vb] w fun e w' => DivA w e w' (Dg.dg 4294967296 (Dg.vl 4294967296 xs / Dg.vl 4294967296 ys)) (Dg.dg 4294967296 (Dg.vl 4294967296 xs % Dg.vl 4294967296 ys)) 0 := by
  have hz := chk2_zero hc
  have z1 := chk_zero hz.1
  have z2 := chk_zero hz.2
  obtain ⟨ao, ca, rfl⟩ := ha.shape
  obtain ⟨bo, cb, rfl⟩ := hb.shape
  have b1 : Below w.heap.size w (w.alloc (.cells #[.slice ao xs.length ca, .slice bo ys.length cb] 23)) := (Below.refl _ _).alloc (Nat.le_refl _) _
  have hw := wrong2_any w.heap.size _ _ xs ys (w.alloc (.cells #[.slice ao xs.length ca, .slice bo ys.length cb] 23)) (by rw [World.cell?_alloc_at _ _ _ _ rfl]; rfl) (by rw [World.cell?_alloc_at _ _ _ _ rfl]; rfl) (ha.later b1) (hb.later b1)
  rw [hc] at hw
  have ho := over_any _ _ xs ys _ (ha.later b1) (hb.later b1) sa sb z1.1 z2.1 hne (by omega)
  obtain ⟨q, hq⟩ : ∃ q, Dg.vl 4294967296 xs / Dg.vl 4294967296 ys = q := ⟨_, rfl⟩
  obtain ⟨m, hm⟩ : ∃ m, Dg.vl 4294967296 xs % Dg.vl 4294967296 ys = m := ⟨_, rfl⟩
  rw [hq, hm] at ho ⊢
  have h0 : ((ys.length : Int) == 0) = false := by simp; exact hne
  clear hq hm hc hz z1 z2 ha hb sa sb hne
  go_enter Try.func36, Try.ntmps36
  go_wp2_with fail
  refine hw.mono ?_
  rintro e w' ⟨rfl, rfl⟩
  go_wp2_with fail
  refine ho.mono ?_
  rintro e w2 ⟨v1, v2, rfl, o1, o2, b2⟩
  have o1 := o1.lower b1.size
  have o2 := o2.lower b1.size
  have b12 := below_trans b1 b2
  clear b1 b2 ho hw
  go_wp2
  go_ret3
  exact ⟨_, _, rfl, o1, o2, b12⟩

theorem div_no (va vb : Value) (xs ys : List Nat) (w : World) (ha : Rd w .u32 va xs) (hb : Rd w .u32 vb ys) (hn : divE xs ys ≠ 0) :
    Calls Try.prog 36 #[va, vb] w fun e w' => DivA w e w' [] [] (divE xs ys) := by
  obtain ⟨ao, ca, rfl⟩ := ha.shape
  obtain ⟨bo, cb, rfl⟩ := hb.shape
  have b1 : Below w.heap.size w (w.alloc (.cells #[.slice ao xs.length ca, .slice bo ys.length cb] 23)) := (Below.refl _ _).alloc (Nat.le_refl _) _
  have hw := wrong2_any w.heap.size _ _ xs ys (w.alloc (.cells #[.slice ao xs.length ca, .slice bo ys.length cb] 23)) (by rw [World.cell?_alloc_at _ _ _ _ rfl]; rfl) (by rw [World.cell?_alloc_at _ _ _ _ rfl]; rfl) (ha.later b1) (hb.later b1)
  unfold divE at hn ⊢
  obtain ⟨c, hc⟩ : ∃ c, chk2 xs ys = c := ⟨_, rfl⟩
  rw [hc] at hw hn ⊢
  clear hc
  by_cases h : c = 0
  · subst h
    rw [if_pos rfl] at hn ⊢
    by_cases h2 : ys = []
    · subst h2
      rw [if_pos rfl]
      clear hn ha hb
      go_enter Try.func36, Try.ntmps36
      go_wp2_with fail
      refine hw.mono ?_
      rintro e w' ⟨rfl, rfl⟩
      clear hw
      go_wp2
      go_ret3
      exact ⟨_, _, rfl, own_nil _ _ _ _, own_nil _ _ _ _, b1⟩
    · rw [if_neg h2] at hn; exact absurd rfl hn
  · rw [if_neg h]
    clear hn ha hb
    go_enter Try.func36, Try.ntmps36
    go_wp2_with fail
    refine hw.mono ?_
    rintro e w' ⟨rfl, rfl⟩
    clear hw
    go_wp2
    go_ret3
    exact ⟨_, _, rfl, own_nil _ _ _ _, own_nil _ _ _ _, b1⟩

theorem divE_zero {xs ys : List Nat} (h : divE xs ys = 0) : chk2 xs ys = 0 ∧ ys ≠ [] := by
  unfold divE at h
  by_cases h1 : chk2 xs ys = 0
  · rw [if_pos h1] at h
    refine ⟨h1, fun e => ?_⟩
    rw [if_pos e] at h
    omega
  · rw [if_neg h1] at h; exact absurd h h1

set_option maxHeartbeats 1600000 in
theorem divides_walk (va vb : Value) (xs ys : List Nat) (w : World) (ha : Rd w .u32 va xs) (hb : Rd w .u32 vb ys) (sa : Dg.Small 4294967296 xs) (sb : Dg.Small 4294967296 ys) :
    Calls Try.prog 15 #[va, vb] w fun e w' => e = .returned (.bool true) ∧ Below w.heap.size w w' := by
  by_cases h : divE xs ys = 0
  · obtain ⟨hc, hne⟩ := divE_zero h
    have hz := chk2_zero hc
    have z1 := chk_zero hz.1
    have z2 := chk_zero hz.2
    have hY0 : 0 < Dg.vl 4294967296 ys := Nat.pos_of_ne_zero (Dg.vl_ne_zero 4294967296 (by omega) ys hne z2.1)
    have hxd := Dg.eq_dg 4294967296 (by omega) xs _ sa z1.1 rfl
    have HD : Hid (∀ w1, Below w.heap.size w w1 → Calls Try.prog 36 #[va, vb] w1 fun e w' => DivA w1 e w' (Dg.dg 4294967296 (Dg.vl 4294967296 xs / Dg.vl 4294967296 ys)) (Dg.dg 4294967296 (Dg.vl 4294967296 xs % Dg.vl 4294967296 ys)) 0) := fun w1 b1 =>
      div_yes va vb xs ys w1 (ha.later b1) (hb.later b1) sa sb hc hne
    have HB : Hid (∀ w1, Below w.heap.size w w1 → Rd w1 .u32 vb ys) := fun w1 b1 => hb.later b1
    have HA : Hid (∀ w1, Below w.heap.size w w1 → Rd w1 .u32 va xs) := fun w1 b1 => ha.later b1
    have hdm := Nat.div_add_mod (Dg.vl 4294967296 xs) (Dg.vl 4294967296 ys)
    have hml := Nat.mod_lt (Dg.vl 4294967296 xs) hY0
    have hyd := Dg.eq_dg 4294967296 (by omega) ys _ sb z2.1 rfl
    obtain ⟨X, hX⟩ : ∃ X, Dg.vl 4294967296 xs = X := ⟨_, rfl⟩
    obtain ⟨Y, hY⟩ : ∃ Y, Dg.vl 4294967296 ys = Y := ⟨_, rfl⟩
    rw [hX, hY] at HD hdm hml
    rw [hX] at hxd
    rw [hY] at hyd hY0
    obtain ⟨q, hq⟩ : ∃ q, X / Y = q := ⟨_, rfl⟩
    obtain ⟨m, hm⟩ : ∃ m, X % Y = m := ⟨_, rfl⟩
    rw [hq, hm] at HD hdm
    rw [hm] at hml
    have lX : (Dg.dg 4294967296 X).length ≤ 1200 := by rw [← hxd]; exact z1.2
    have lq : (Dg.dg 4294967296 q).length ≤ 1200 := Nat.le_trans (dg_len_mono _ _ X (by omega) (by rw [← hq]; exact Nat.div_le_self _ _)) lX
    have lm : (Dg.dg 4294967296 m).length ≤ 1200 := Nat.le_trans (dg_len_mono _ _ X (by omega) (by rw [← hm]; exact Nat.mod_le _ _)) lX
    have lqy : (Dg.dg 4294967296 (q * Y)).length ≤ 1200 := Nat.le_trans (dg_len_mono _ _ X (by omega) (by rw [Nat.mul_comm]; omega)) lX
    have HM : Hid (∀ v1 w1, Below w.heap.size w w1 → Rd w1 .u32 v1 (Dg.dg 4294967296 q) → Calls Try.prog 34 #[v1, vb] w1 (Ans w1 (Dg.dg 4294967296 (q * Y), 0))) := fun v1 w1 b hv => by
      have := mul_nat v1 vb _ ys w1 hv (HB.out w1 b) (Dg.small_dg _ _ (by omega)) sb
      rwa [Dg.vl_dg _ _ (by omega), hY, natR_yes (chk2_of (chk_dg lq) hz.2) lqy] at this
    have HS : Hid (∀ v1 v2 w1, Rd w1 .u32 v1 (Dg.dg 4294967296 (q * Y)) → Rd w1 .u32 v2 (Dg.dg 4294967296 m) → Calls Try.prog 28 #[v1, v2] w1 (Ans w1 (Dg.dg 4294967296 X, 0))) := fun v1 v2 w1 h1 h2 => by
      have := add_nat v1 v2 _ _ w1 h1 h2 (Dg.small_dg _ _ (by omega)) (Dg.small_dg _ _ (by omega))
      rwa [Dg.vl_dg _ _ (by omega), Dg.vl_dg _ _ (by omega), show q * Y + m = X from by rw [Nat.mul_comm]; exact hdm, natR_yes (chk2_of (chk_dg lqy) (chk_dg lm)) lX] at this
    have HC : Hid (∀ v1 w1, Below w.heap.size w w1 → Rd w1 .u32 v1 (Dg.dg 4294967296 m) → Calls Try.prog 22 #[v1, vb] w1 fun e w' => e = .returned (.tuple #[.int .i64 (-1), .int .i64 0]) ∧ Below w1.heap.size w1 w') := fun v1 w1 b hv => by
      have := compare_nat v1 vb _ ys w1 hv (HB.out w1 b) (Dg.small_dg _ _ (by omega)) sb
      rw [chk2_of (chk_dg lm) hz.2] at this
      unfold cmpR at this
      rw [chk2_of (chk_dg lm) hz.2, if_pos rfl, Dg.vl_dg _ _ (by omega), hY, cmpI_lt (by omega)] at this
      exact this
    have HX : Hid (xs = Dg.dg 4294967296 X) := hxd
    clear h hc hne hz z1 z2 hY0 hxd hyd hdm hml hX hY hq hm lX lq lm lqy ha hb sa sb
    go_enter Try.func15, Try.ntmps15
    go_wp2_with fail
    refine (begun_any _).mono ?_
    rintro e w0 ⟨rfl, b0⟩
    go_wp2_with fail
    refine (HD.out w0 b0).mono ?_
    rintro e w1 ⟨v1, v2, rfl, o1, o2, k1⟩
    have b1 := below_trans b0 k1
    go_wp2_with fail
    refine (HM.out v1 w1 b1 o1.rd).mono ?_
    rintro e w2 ⟨v3, rfl, o3, k2⟩
    have b2 := below_trans b1 k2
    go_wp2_with fail
    refine (HS.out v3 v2 w2 o3.rd (o2.later k2).rd).mono ?_
    rintro e w3 ⟨v4, rfl, o4, k3⟩
    have b3 := below_trans b2 k3
    go_wp2_with fail
    refine (HC.out v2 w3 b3 ((o2.later k2).later k3).rd).mono ?_
    rintro e w4 ⟨rfl, k4⟩
    have b4 := below_trans b3 k4
    have hs := same_any v4 va _ _ w4 (o4.later k4).rd (HA.out w4 b4)
    rw [decide_eq_true HX.out.symm] at hs
    go_wp2_with fail
    refine hs.mono ?_
    rintro e w5 ⟨rfl, k5⟩
    have b5 := below_trans b4 k5
    clear hs
    go_wp2
    go_ret
    exact ⟨rfl, b5⟩
  · have HD : Hid (∀ w1, Below w.heap.size w w1 → Calls Try.prog 36 #[va, vb] w1 fun e w' => DivA w1 e w' [] [] (divE xs ys)) := fun w1 b1 =>
      div_no va vb xs ys w1 (ha.later b1) (hb.later b1) h
    obtain ⟨c, hc⟩ : ∃ c, divE xs ys = c := ⟨_, rfl⟩
    rw [hc] at HD h
    clear hc ha hb sa sb
    go_enter Try.func15, Try.ntmps15
    go_wp2_with fail
    refine (begun_any _).mono ?_
    rintro e w0 ⟨rfl, b0⟩
    go_wp2_with fail
    refine (HD.out w0 b0).mono ?_
    rintro e w1 ⟨v1, v2, rfl, o1, o2, k1⟩
    have b1 := below_trans b0 k1
    go_wp2
    go_ret
    exact ⟨rfl, b1⟩
end Go.Proofs.Ytepcafhlhnlgaaa

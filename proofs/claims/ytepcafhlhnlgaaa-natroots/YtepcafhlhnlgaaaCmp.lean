/-
  Contracts of digits.Number.Compare, nat.Compare, nat.Sub.
-/
import Derived.Test.YtepcafhlhnlgaaaMinus
namespace Go.Proofs.Ytepcafhlhnlgaaa
open Go.RowKit

theorem cmpI_lt {a b : Int} (h : a < b) : cmpI a b = -1 := by unfold cmpI; rw [if_pos h]
theorem cmpI_gt {a b : Int} (h : b < a) : cmpI a b = 1 := by unfold cmpI; rw [if_neg (by omega), if_pos h]
theorem cmpI_eq (a : Int) : cmpI a a = 0 := by unfold cmpI; rw [if_neg (by omega), if_neg (by omega)]

set_option maxHeartbeats 1600000 in
theorem compare_any (va vb : Value) (xs ys : List Nat) (w : World) (ha : Rd w .u32 va xs) (hb : Rd w .u32 vb ys) (sa : Dg.Small 4294967296 xs) (sb : Dg.Small 4294967296 ys) (na : Dg.Norm xs) (nb : Dg.Norm ys) :
    Calls Try.prog 54 #[va, vb] w fun e w' => e = .returned (.int .i64 (cmpI (Dg.vl 4294967296 xs) (Dg.vl 4294967296 ys))) ∧ Below w.heap.size w w' := by
  obtain ⟨ao, ca, rfl, hla, hma, hca⟩ := ha
  obtain ⟨bo, cb, rfl, hlb, hmb, hcb⟩ := hb
  unfold maxLen at hma hmb
  obtain ⟨r, hr⟩ : ∃ r, cmpI (Dg.vl 4294967296 xs) (Dg.vl 4294967296 ys) = r := ⟨_, rfl⟩
  have hc0 := cmpInt_any (xs.length : Int) (ys.length : Int) w
  by_cases h1 : xs.length < ys.length
  · have hv := Dg.vl_lt_of_len 4294967296 (by omega) xs ys sa nb h1
    rw [cmpI_lt (by omega)] at hr
    subst hr
    rw [cmpI_lt (by omega)] at hc0
    rw [cmpI_lt (by omega)]
    go_enter Try.func54, Try.ntmps54
    go_wp2_with fail
    refine hc0.mono ?_
    rintro e w' ⟨rfl, rfl⟩
    go_wp2
    go_ret
    exact ⟨rfl, Below.refl _ _⟩
  · by_cases h2 : ys.length < xs.length
    · have hv := Dg.vl_lt_of_len 4294967296 (by omega) ys xs sb na h2
      rw [cmpI_gt (by omega)] at hc0
      rw [cmpI_gt (by omega)]
      clear hr
      go_enter Try.func54, Try.ntmps54
      go_wp2_with fail
      refine hc0.mono ?_
      rintro e w' ⟨rfl, rfl⟩
      go_wp2
      go_ret
      exact ⟨rfl, Below.refl _ _⟩
    · have hle : xs.length = ys.length := by omega
      rw [hle, cmpI_eq] at hc0
      rw [hr]
      have HR : Hid (cmpI (Dg.vl 4294967296 xs) (Dg.vl 4294967296 ys) = r) := hr
      have HL : Hid (xs.length = ys.length) := hle
      rw [hle] at hla hca ⊢
      clear hr hle h1 h2
      go_enter Try.func54, Try.ntmps54
      go_wp2_with fail
      refine hc0.mono ?_
      rintro e w' ⟨rfl, rfl⟩
      clear hc0
      go_wp2
      go_loopw [6] (fun iv wr => ∃ k : Nat, k ≤ ys.length ∧ iv = .int .i64 ((k : Int) - 1) ∧ Hid (∀ j, k ≤ j → xs.getD j 0 = ys.getD j 0) ∧ Below w'.heap.size w' wr) (fun iv _ => (intOf iv + 1).toNat)
      case atStart => exact ⟨ys.length, Nat.le_refl _, rfl, fun j hj => by rw [Dg.getD_of_le xs j (by rw [HL.out]; exact hj), Dg.getD_of_le ys j hj], Below.refl _ _⟩
      case round =>
        obtain ⟨k, hk, rfl, hall, bel⟩ := hrel
        by_cases hk0 : k = 0
        · subst hk0
          have he := Dg.eq_of_all xs ys HL.out (fun j => hall j (by omega))
          have hr0 : r = 0 := by rw [← HR.out, he, cmpI_eq]
          subst hr0
          clear he
          go_wp2
          go_ret
          exact ⟨rfl, bel⟩
        · obtain ⟨m, rfl⟩ : ∃ m, k = m + 1 := ⟨k - 1, by omega⟩
          obtain ⟨b, off, rfl, hcell⟩ := hca (by omega)
          obtain ⟨b2, off2, rfl, hcell2⟩ := hcb (by omega)
          have hx := cell_later bel (hcell m (by omega))
          have hy := cell_later bel (hcell2 m (by omega))
          have hst : xs.getD m 0 < ys.getD m 0 → cmpI (Dg.vl 4294967296 xs) (Dg.vl 4294967296 ys) = -1 := fun h =>
            cmpI_lt (by have := Dg.vl_lt_of_digit 4294967296 xs ys m HL.out (by rw [HL.out]; omega) hall h sa; omega)
          have hst2 : ys.getD m 0 < xs.getD m 0 → cmpI (Dg.vl 4294967296 xs) (Dg.vl 4294967296 ys) = 1 := fun h =>
            cmpI_gt (by have := Dg.vl_lt_of_digit 4294967296 ys xs m HL.out.symm (by omega) (fun j hj => (hall j hj).symm) h sb; omega)
          rw [HR.out] at hst hst2
          obtain ⟨x, ex⟩ : ∃ x, xs.getD m 0 = x := ⟨_, rfl⟩
          obtain ⟨y, ey⟩ : ∃ y, ys.getD m 0 = y := ⟨_, rfl⟩
          have HX : Hid (xs.getD m 0 = x) := ex
          have HY : Hid (ys.getD m 0 = y) := ey
          rw [ex] at hx hst hst2
          rw [ey] at hy hst hst2
          clear ex ey hcell hcell2 hca hcb
          have hcm := fun wx => cmpU32_any (x : Int) (y : Int) wx
          have hmI : ((m + 1 : Nat) : Int) - 1 = (m : Int) := by omega
          by_cases hxy : x < y
          · have hr1 := hst hxy
            subst hr1
            rw [cmpI_lt (by omega)] at hcm
            clear hst hst2
            go_wp2
            go_quiet ((go_at_call 71; exact Calls.quiet_of_same (hcm _)))
            go_wp2
            go_ret
            exact ⟨rfl, below_drewN bel _⟩
          · by_cases hyx : y < x
            · have hr1 := hst2 hyx
              subst hr1
              rw [cmpI_gt (by omega)] at hcm
              clear hst hst2
              go_wp2
              go_quiet ((go_at_call 71; exact Calls.quiet_of_same (hcm _)))
              go_wp2
              go_ret
              exact ⟨rfl, below_drewN bel _⟩
            · have hxe : x = y := by omega
              subst hxe
              rw [cmpI_eq] at hcm
              clear hst hst2
              go_wp2
              go_quiet ((go_at_call 71; exact Calls.quiet_of_same (hcm _)))
              go_wp2
              go_roundw
              case rel => exact ⟨m, by omega, by go_num, fun j hj => by
                by_cases e : j = m
                · rw [e]; exact HX.out.trans HY.out.symm
                · exact hall j (by omega), below_drewN bel _⟩
              case measure => simp [intOf]
end Go.Proofs.Ytepcafhlhnlgaaa

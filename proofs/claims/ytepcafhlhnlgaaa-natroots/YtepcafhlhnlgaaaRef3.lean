/-
  Contracts of the reference's Cmp and TwoNats, and of the laws' long and natIs.
-/
import Derived.Test.YtepcafhlhnlgaaaRef2
namespace Go.Proofs.Ytepcafhlhnlgaaa
open Go.RowKit

theorem twoNats_any (va vb : Value) (xs ys : List Nat) (w : World) (ha : Rd w .u32 va xs) (hb : Rd w .u32 vb ys) :
    Calls Try.prog 23 #[va, vb] w fun e w' => e = .returned (.int .i64 (chk2 xs ys)) ∧ w' = w := by
  have h1 := checkNat_any va xs w ha
  have h2 := checkNat_any vb ys w hb
  unfold chk2
  obtain ⟨c, hc⟩ : ∃ c, chk xs = c := ⟨_, rfl⟩
  rw [hc] at h1 ⊢
  clear hc
  by_cases h : c = 0
  · subst h
    rw [if_pos rfl]
    go_enter Try.func23, Try.ntmps23
    go_wp2_with fail
    refine h1.mono ?_
    rintro e w' ⟨rfl, rfl⟩
    go_wp2_with fail
    refine h2.mono ?_
    rintro e w' ⟨rfl, rfl⟩
    go_wp2
    go_ret
    exact ⟨rfl, rfl⟩
  · rw [if_neg h]
    go_enter Try.func23, Try.ntmps23
    go_wp2_with fail
    refine h1.mono ?_
    rintro e w' ⟨rfl, rfl⟩
    go_wp2
    go_ret
    exact ⟨rfl, rfl⟩

theorem to_num (vw : Value) (n : Nat) (w : World) (hw : Rd w .i64 vw (Dg.dg 65536 n)) (hn : (Dg.dg 65536 n).length ≤ 3000000) :
    Calls Try.prog 51 #[vw] w (Num w n) := by
  have := to_any vw (Dg.dg 65536 n) w hw (Dg.small_dg _ _ (by omega)) (Dg.norm_dg _ _ (by omega)) hn
  rwa [Dg.vl_dg _ _ (by omega)] at this

theorem long_any (vw : Value) (n : Nat) (w : World) (hw : Rd w .i64 vw (Dg.dg 65536 n)) (hn : (Dg.dg 65536 n).length ≤ 3000000) :
    Calls Try.prog 30 #[.int .i64 0, vw] w fun e w' => e = .returned (.int .i64 (capd n).2) ∧ Below w.heap.size w w' := by
  have ht := to_num vw n w hw hn
  clear hn
  unfold capd
  by_cases hl : (Dg.dg 4294967296 n).length ≤ 1200
  · rw [if_pos hl]
    go_enter Try.func30, Try.ntmps30
    go_wp2_with fail
    refine ht.mono ?_
    rintro e w1 ⟨v, rfl, hown, bel⟩
    obtain ⟨ao, ca, rfl⟩ := hown.rd.shape
    go_wp2
    go_ret
    exact ⟨rfl, bel⟩
  · rw [if_neg hl]
    go_enter Try.func30, Try.ntmps30
    go_wp2_with fail
    refine ht.mono ?_
    rintro e w1 ⟨v, rfl, hown, bel⟩
    obtain ⟨ao, ca, rfl⟩ := hown.rd.shape
    go_wp2
    go_ret
    exact ⟨rfl, bel⟩

theorem natIs_true (va vw : Value) (xs : List Nat) (c : Int) (n : Nat) (w : World) (ha : Rd w .u32 va xs) (hw : Rd w .i64 vw (Dg.dg 65536 n)) (hn : (Dg.dg 65536 n).length ≤ 3000000) (hx : xs = if c = 0 then Dg.dg 4294967296 n else []) :
    Calls Try.prog 31 #[va, .int .i64 c, .int .i64 c, vw] w fun e w' => e = .returned (.bool true) ∧ Below w.heap.size w w' := by
  by_cases h : c = 0
  · subst h
    rw [if_pos rfl] at hx
    have ht := to_num vw n w hw hn
    clear hn
    go_enter Try.func31, Try.ntmps31
    go_wp2_with fail
    refine ht.mono ?_
    rintro e w1 ⟨v, rfl, hown, bel⟩
    have hs := same_any va v xs _ w1 (ha.later bel) hown.rd
    rw [decide_eq_true hx] at hs
    clear hx ht
    go_wp2_with fail
    refine hs.mono ?_
    rintro e w2 ⟨rfl, bel2⟩
    have b2 := below_trans bel bel2
    go_wp2
    go_ret
    exact ⟨rfl, b2⟩
  · rw [if_neg h] at hx
    have ht := to_num (.slice none 0 0) 0 w ⟨none, 0, rfl, by simp [Dg.dg_zero], by unfold maxLen; omega, fun h => by simp [Dg.dg_zero] at h⟩ (by simp [Dg.dg_zero])
    clear hn
    go_enter Try.func31, Try.ntmps31
    go_wp2_with fail
    refine ht.mono ?_
    rintro e w1 ⟨v, rfl, hown, bel⟩
    have hs := same_any va v xs _ w1 (ha.later bel) hown.rd
    rw [decide_eq_true (by rw [hx, Dg.dg_zero])] at hs
    clear hx ht
    go_wp2_with fail
    refine hs.mono ?_
    rintro e w2 ⟨rfl, bel2⟩
    have b2 := below_trans bel bel2
    go_wp2
    go_ret
    exact ⟨rfl, b2⟩

set_option maxHeartbeats 1600000 in
theorem refcmp_any (va vb : Value) (xs ys : List Nat) (w : World) (ha : Rd w .i64 va xs) (hb : Rd w .i64 vb ys) (sa : Dg.Small 65536 xs) (sb : Dg.Small 65536 ys) (na : Dg.Norm xs) (nb : Dg.Norm ys) :
    Calls Try.prog 24 #[va, vb] w fun e w' => e = .returned (.int .i64 (cmpI (Dg.vl 65536 xs) (Dg.vl 65536 ys))) ∧ Below w.heap.size w w' := by
  obtain ⟨ao, ca, rfl, hla, hma, hca⟩ := ha
  obtain ⟨bo, cb, rfl, hlb, hmb, hcb⟩ := hb
  unfold maxLen at hma hmb
  by_cases h1 : xs.length < ys.length
  · have hv := Dg.vl_lt_of_len 65536 (by omega) xs ys sa nb h1
    rw [cmpI_lt (by omega)]
    have hne : ((xs.length : Int) != (ys.length : Int)) = true := by rw [bne_iff_ne]; omega
    go_enter Try.func24, Try.ntmps24
    go_wp2
    go_ret
    exact ⟨rfl, Below.refl _ _⟩
  · by_cases h2 : ys.length < xs.length
    · have hv := Dg.vl_lt_of_len 65536 (by omega) ys xs sb na h2
      rw [cmpI_gt (by omega)]
      have hne : ((xs.length : Int) != (ys.length : Int)) = true := by rw [bne_iff_ne]; omega
      go_enter Try.func24, Try.ntmps24
      go_wp2
      go_ret
      exact ⟨rfl, Below.refl _ _⟩
    · have hle : xs.length = ys.length := by omega
      obtain ⟨r, hr⟩ : ∃ r, cmpI (Dg.vl 65536 xs) (Dg.vl 65536 ys) = r := ⟨_, rfl⟩
      rw [hr]
      have HR : Hid (cmpI (Dg.vl 65536 xs) (Dg.vl 65536 ys) = r) := hr
      have HL : Hid (xs.length = ys.length) := hle
      rw [hle] at hla hca ⊢
      clear hr hle h1 h2
      go_enter Try.func24, Try.ntmps24
      go_wp2
      go_loopw [5] (fun iv wr => ∃ k : Nat, k ≤ ys.length ∧ iv = .int .i64 ((k : Int) - 1) ∧ Hid (∀ j, k ≤ j → xs.getD j 0 = ys.getD j 0) ∧ Below w.heap.size w wr) (fun iv _ => (intOf iv + 1).toNat)
      case atStart => exact ⟨ys.length, Nat.le_refl _, rfl, fun j hj => by rw [Dg.getD_of_le xs j (by rw [HL.out]; exact hj), Dg.getD_of_le ys j hj], Below.refl _ _⟩
      case round =>
        obtain ⟨k, hk, rfl, hall, bel⟩ := hrel
        by_cases hk0 : k = 0
        · subst hk0
          have he := Dg.eq_of_all xs ys HL.out (fun j => hall j (by omega))
          have hr0 : r = 0 := by rw [← HR.out, he, cmpI_eq]
          subst hr0
          clear he
          go_wp2
          go_ret
          exact ⟨rfl, bel⟩
        · obtain ⟨m, rfl⟩ : ∃ m, k = m + 1 := ⟨k - 1, by omega⟩
          obtain ⟨b, off, rfl, hcell⟩ := hca (by omega)
          obtain ⟨b2, off2, rfl, hcell2⟩ := hcb (by omega)
          have hx := cell_later bel (hcell m (by omega))
          have hy := cell_later bel (hcell2 m (by omega))
          have hst : xs.getD m 0 < ys.getD m 0 → cmpI (Dg.vl 65536 xs) (Dg.vl 65536 ys) = -1 := fun h =>
            cmpI_lt (by have := Dg.vl_lt_of_digit 65536 xs ys m HL.out (by rw [HL.out]; omega) hall h sa; omega)
          have hst2 : ys.getD m 0 < xs.getD m 0 → cmpI (Dg.vl 65536 xs) (Dg.vl 65536 ys) = 1 := fun h =>
            cmpI_gt (by have := Dg.vl_lt_of_digit 65536 ys xs m HL.out.symm (by omega) (fun j hj => (hall j hj).symm) h sb; omega)
          rw [HR.out] at hst hst2
          obtain ⟨x, ex⟩ : ∃ x, xs.getD m 0 = x := ⟨_, rfl⟩
          obtain ⟨y, ey⟩ : ∃ y, ys.getD m 0 = y := ⟨_, rfl⟩
          have HX : Hid (xs.getD m 0 = x) := ex
          have HY : Hid (ys.getD m 0 = y) := ey
          rw [ex] at hx hst hst2
          rw [ey] at hy hst hst2
          clear ex ey hcell hcell2 hca hcb
          have hmI : ((m + 1 : Nat) : Int) - 1 = (m : Int) := by omega
          rw [hmI]
          clear hmI
          by_cases hxy : x < y
          · have hr1 := hst hxy
            subst hr1
            clear hst hst2
            go_wp2
            go_quiet (fail)
            go_wp2
            go_ret
            exact ⟨rfl, below_drewN bel _⟩
          · by_cases hyx : y < x
            · have hr1 := hst2 hyx
              subst hr1
              clear hst hst2
              go_wp2
              go_quiet (fail)
              go_wp2
              go_quiet (fail)
              go_wp2
              go_ret
              exact ⟨rfl, below_drewN (below_drewN bel _) _⟩
            · have hxe : x = y := by omega
              subst hxe
              clear hst hst2
              go_wp2
              go_quiet (fail)
              go_wp2
              go_quiet (fail)
              go_wp2
              go_roundw
              case rel => exact ⟨m, by omega, by go_num, fun j hj => by
                by_cases e : j = m
                · rw [e]; exact HX.out.trans HY.out.symm
                · exact hall j (by omega), below_drewN bel _⟩
              case measure => simp [intOf]
end Go.Proofs.Ytepcafhlhnlgaaa

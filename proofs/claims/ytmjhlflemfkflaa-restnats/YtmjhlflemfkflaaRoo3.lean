/-
  Contracts of the program's Root, of nat.Root; of the reference's Power.
-/
import Derived.Test.YtmjhlflemfkflaaRoo2
namespace Go.Proofs.Ytmjhlflemfkflaa
open Go.RowKit

/-- The call answers a root. -/
def RootA (w : World) (a k : Nat) (e : Ending) (w' : World) : Prop :=
  ∃ x v, e = .returned v ∧ IsRoot a k x ∧ Own w' w.heap.size 26 .u32 v (Dg.dg 4294967296 x) ∧ Below w.heap.size w w'

theorem pow_split (n : Nat) : (2 : Nat) ^ n < 4294967296 ^ (n / 32 + 1) := by
  have e : (4294967296 : Nat) = 2 ^ 32 := by decide
  rw [e, ← Nat.pow_mul]
  exact Nat.pow_lt_pow_right (by omega) (by omega)

theorem up_div (b k : Nat) (hk : 0 < k) : b ≤ (b + k - 1) / k * k := by
  have h1 := Nat.div_add_mod (b + k - 1) k
  have h2 := Nat.mod_lt (b + k - 1) hk
  rw [Nat.mul_comm] at h1
  omega

theorem bitLen_of_len {a L : Nat} (h : (Dg.dg 4294967296 a).length ≤ L) : bitLen a ≤ 32 * L := by
  refine bitLen_le_of a _ ?_
  rw [Nat.pow_mul]
  exact lt_pow_of_len h

theorem cmpI_nonneg {a b : Int} (h : b ≤ a) : (0 : Int) ≤ cmpI a b := by
  unfold cmpI
  rw [if_neg (by omega)]
  split <;> omega

set_option maxRecDepth 100000 in
set_option maxHeartbeats 1600000 in
theorem root_any (va : Value) (a k : Nat) (w : World) (ha : Rd w .u32 va (Dg.dg 4294967296 a)) (hk1 : 1 ≤ k) (hk2 : k ≤ 10) (hla : (Dg.dg 4294967296 a).length ≤ 1300) :
    Calls Try.prog 41 #[va, .int .i64 k] w (RootA w a k) := by
  have hcp := copy_any va _ w ha (by omega)
  have hnl := Dg.dg_nil_iff 4294967296 a (by omega)
  by_cases hk : k = 1
  · subst hk
    obtain ⟨ao, ca, rfl⟩ := ha.shape
    obtain ⟨ds, hds⟩ : ∃ ds, Dg.dg 4294967296 a = ds := ⟨_, rfl⟩
    rw [hds] at hcp ⊢
    have HD : Hid (Dg.dg 4294967296 a = ds) := hds
    clear ha hla hds hnl
    go_enter Try.func41, Try.ntmps41
    go_wp2_with fail
    refine hcp.mono ?_
    rintro e w1 ⟨rfl, o1, b1⟩
    clear hcp
    go_wp2
    go_ret
    exact ⟨a, _, rfl, root_one a, HD.out ▸ o1, b1⟩
  · have hk3 : ((k : Int) == 1) = false := by simp; omega
    by_cases ha0 : a = 0
    · subst ha0
      obtain ⟨ao, ca, rfl⟩ := ha.shape
      have hl0 : (Dg.dg 4294967296 0).length = 0 := rfl
      rw [hl0] at hcp ⊢
      clear ha hla hnl hl0
      go_enter Try.func41, Try.ntmps41
      go_wp2_with fail
      refine hcp.mono ?_
      rintro e w1 ⟨rfl, o1, b1⟩
      clear hcp
      go_wp2
      go_ret
      exact ⟨0, _, rfl, root_zero (by omega), o1, b1⟩
    · obtain ⟨m, rfl⟩ : ∃ m, k = m + 1 := ⟨k - 1, by omega⟩
      have hbt := fun wr (b : Below w.heap.size w wr) => bits_any va _ wr (ha.later b) (Dg.small_dg _ _ (by omega)) (Dg.norm_dg _ _ (by omega)) (by omega)
      rw [Dg.vl_dg _ _ (by omega)] at hbt
      have hb1 := (bitLen_spec a).1
      have hb2 : bitLen a ≤ 32 * 1300 := bitLen_of_len hla
      obtain ⟨bt, hbte⟩ : ∃ bt, bitLen a = bt := ⟨_, rfl⟩
      rw [hbte] at hbt hb1 hb2
      have hup := up_div bt (m + 1) (by omega)
      have hnle : (bt + (m + 1) - 1) / (m + 1) ≤ 50000 := Nat.le_trans (Nat.div_le_self _ _) (by omega)
      have hni : (((bt : Int) + ((m : Int) + 1) - 1).tdiv ((m : Int) + 1)) = (((bt + (m + 1) - 1) / (m + 1) : Nat) : Int) := by
        rw [Int.tdiv_eq_ediv_of_nonneg (by omega)]
        have : ((bt : Int) + ((m : Int) + 1) - 1) = ((bt + (m + 1) - 1 : Nat) : Int) := by omega
        rw [this]
        exact (Int.natCast_ediv _ (m + 1)).symm
      have hni2 : (((bt : Int) + ((m : Int) + 1) - 1) / ((m : Int) + 1)) = (((bt + (m + 1) - 1) / (m + 1) : Nat) : Int) := by
        have : ((bt : Int) + ((m : Int) + 1) - 1) = ((bt + (m + 1) - 1 : Nat) : Int) := by omega
        rw [this]
        exact (Int.natCast_ediv _ (m + 1)).symm
      obtain ⟨n, hn⟩ : ∃ n, (bt + (m + 1) - 1) / (m + 1) = n := ⟨_, rfl⟩
      rw [hn] at hup hnle hni hni2
      have HAB : Hid (Above a (m + 1) (2 ^ n)) := above_start hb1 hup
      have HX0 : Hid ((2 : Nat) ^ n < 4294967296 ^ (n / 32 + 1)) := pow_split n
      have hL : n / 32 + 1 ≤ 5000 := by omega
      obtain ⟨L, hLe⟩ : ∃ L, n / 32 + 1 = L := ⟨_, rfl⟩
      rw [hLe] at HX0 hL
      have HR : Hid (∀ v wr, Rd wr .u32 v [1] → Calls Try.prog 65 #[v, .int .i64 n] wr (Num wr (2 ^ n))) := fun v wr r => by
        have := raised_any v [1] n (n / 32) (n % 32) (2 ^ (n % 32)) wr r (Dg.small_cons.2 ⟨by omega, Dg.small_nil _ (by omega)⟩) (by simp) (by omega) (by omega) rfl (by omega) (by simp)
        rw [show Dg.vl 4294967296 [1] = 1 from rfl, Nat.one_mul] at this
        exact this
      have HN : Hid (∀ v x wr, Below w.heap.size w wr → Rd wr .u32 v (Dg.dg 4294967296 x) → 0 < x → x < 4294967296 ^ L → Calls Try.prog 67 #[va, v, .int .i64 ((m : Int) + 1)] wr (Num wr (meanN a x m))) := fun v x wr b r hx hxl =>
        nearer_any va v a x m L wr (ha.later b) r hx (by omega) (by omega) (by omega) hxl hL
      have HBT : Hid (∀ wr, Below w.heap.size w wr → Calls Try.prog 66 #[va] wr fun e w' => e = .returned (.int .i64 (bt : Nat)) ∧ w' = wr) := hbt
      obtain ⟨ao, ca, rfl⟩ := ha.shape
      have hm0 : ¬(Dg.dg 4294967296 a).length = 0 := by rw [List.length_eq_zero_iff, hnl]; exact ha0
      obtain ⟨ma, hma⟩ : ∃ m, (Dg.dg 4294967296 a).length = m := ⟨_, rfl⟩
      rw [hma] at hm0 HN HBT ⊢
      have hml : ((ma : Int) == 0) = false := by simp; exact hm0
      have HA0 : Hid (0 < a) := Nat.pos_of_ne_zero ha0
      have b1 : Below w.heap.size w (w.alloc (.cells #[.int .u32 ((1 : Nat) : Int)] 26)) := (Below.refl _ _).alloc (Nat.le_refl _) _
      have od := (own_digit w w.heap.size 26 1 (Nat.le_refl _)).rd
      clear ha hcp hnl hla hma hbt hbte hn hLe hup hb1 ha0
      go_enter Try.func41, Try.ntmps41
      go_wp2_with fail
      refine (HBT.out _ b1).mono ?_
      rintro e w1 ⟨rfl, rfl⟩
      clear HBT
      go_wp2_with fail
      refine (HR.out _ _ od).mono ?_
      rintro e w2 ⟨v2, rfl, o2, b2⟩
      have b02 := below_trans b1 b2
      have o2 := o2.lower b1.size
      clear od b1 b2 HR
      go_wp2
      go_loopw [5] (fun rv wr => ∃ x, Own wr w.heap.size 26 .u32 rv (Dg.dg 4294967296 x) ∧ Above a (m + 1) x ∧ x < 4294967296 ^ L ∧ Below w.heap.size w wr) (fun rv wr => numOf wr rv)
      case atStart => exact ⟨2 ^ n, o2, HAB.out, HX0.out, b02⟩
      case round =>
        clear o2 b02 HAB HX0
        obtain ⟨x, own, hab, hxl, bel⟩ := hrel
        have hx := above_pos hab HA0.out
        have hst := above_step (a := a) (m := m) hx
        have hcm := fun v wr (r : Rd wr .u32 v (Dg.dg 4294967296 (meanN a x m))) v' (r' : Rd wr .u32 v' (Dg.dg 4294967296 x)) => compare_any v v' _ _ wr r r' (Dg.small_dg _ _ (by omega)) (Dg.small_dg _ _ (by omega)) (Dg.norm_dg _ _ (by omega)) (Dg.norm_dg _ _ (by omega))
        simp only [Dg.vl_dg _ _ (show 2 ≤ 4294967296 by omega)] at hcm
        have hnr := HN.out _ x _ bel own.rd hx hxl
        have HEN : Hid (x ≤ meanN a x m → IsRoot a (m + 1) x) := fun h => root_end hab hx h
        obtain ⟨y, hy⟩ : ∃ y, meanN a x m = y := ⟨_, rfl⟩
        rw [hy] at hnr hcm HEN hst
        have HCM : Hid _ := hcm
        clear hcm hy
        by_cases hlt : y < x
        · go_wp2_with fail
          refine hnr.mono ?_
          rintro e w3 ⟨v3, rfl, o3, b3⟩
          have b03 := below_trans bel b3
          go_wp2_with fail
          refine (HCM.out _ _ o3.rd _ (own.later b3).rd).mono ?_
          rintro e w4 ⟨rfl, b4⟩
          rw [cmpI_lt (by omega)]
          have b04 := below_trans b03 b4
          have o4 := (o3.lower bel.size).later b4
          have e1 := numOf_eq own.rd
          have e2 := numOf_eq o4.rd
          go_wp2
          go_roundw
          case rel => exact ⟨y, o4, hst, Nat.lt_trans hlt hxl, b04⟩
          case measure => rw [e1, e2]; exact hlt
        · go_wp2_with fail
          refine hnr.mono ?_
          rintro e w3 ⟨v3, rfl, o3, b3⟩
          have b03 := below_trans bel b3
          go_wp2_with fail
          refine (HCM.out _ _ o3.rd _ (own.later b3).rd).mono ?_
          rintro e w4 ⟨rfl, b4⟩
          have hge := cmpI_nonneg (a := (y : Int)) (b := (x : Int)) (by omega)
          obtain ⟨r, hr⟩ : ∃ r, cmpI (y : Int) (x : Int) = r := ⟨_, rfl⟩
          rw [hr] at hge ⊢
          have b04 := below_trans b03 b4
          have o4 := (own.later b3).later b4
          go_wp2
          go_ret
          exact ⟨x, _, rfl, HEN.out (by omega), o4, b04⟩
end Go.Proofs.Ytmjhlflemfkflaa

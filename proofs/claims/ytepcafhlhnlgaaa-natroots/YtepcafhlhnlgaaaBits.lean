/-
  Contracts of bits.Len32, digits.Number.Bits, nat.Bits and the reference's Len.
-/
import Derived.Test.YtepcafhlhnlgaaaLaws1
import Derived.Laws.MathBits
import Derived.Lib.BitFns
import Derived.Lib.Walk
import Derived.Lib.Small
namespace Go.Proofs.Ytepcafhlhnlgaaa
open Go.RowKit

theorem bitLen_zero : bitLen 0 = 0 := rfl

theorem bitLen_two (x : Nat) (h : x ≠ 0) : bitLen x = 1 + bitLen (x / 2) := by
  by_cases h1 : x / 2 = 0
  · have : x = 1 := by omega
    subst this; rfl
  · exact bitLen_shift x 1 h1

theorem libBit (x : Nat) (h : x < 18446744073709551616) : Lib.bitLen x = bitLen x := by
  induction x using Nat.strongRecOn with
  | _ x ih =>
    by_cases h0 : x = 0
    · subst h0; rfl
    · rw [Lib.bitLen_half x h0 h, bitLen_two x h0, ih (x / 2) (by omega) (by omega)]

theorem tab_at (i : Nat) (h : i < Lib.len8tab.size) : (Lib.len8tab[i]'h).toNat = bitLen i := by
  have hs := Lib.len8tab_size
  have := Lib.len8_eq ⟨i, by omega⟩
  simp only [Lib.len8, Int.toNat_natCast] at this
  rw [getElem?_pos Lib.len8tab i h] at this
  simp only [Option.getD_some] at this
  rw [libBit i (by omega)] at this
  omega

theorem close_len (k q x : Nat) (h : bitLen x = k + bitLen q) (hq : q < 256 ∧ k ≤ 24) : RowKit.wrap64 ((k : Int) + RowKit.wrap64 ((bitLen q : Nat) : Int)) = ((bitLen x : Nat) : Int) := by
  have hb := bitLen_le8 q hq.1
  have e1 := IntWalk.wrap64_in ((bitLen q : Nat) : Int) ⟨by omega, by omega⟩
  rw [e1, IntWalk.wrap64_in _ ⟨by omega, by omega⟩, h]
  omega

set_option maxHeartbeats 4000000 in
set_option maxRecDepth 100000 in
theorem len32_int (x : Int) (w : World) (h0 : 0 ≤ x) (h1 : x ≤ 4294967295) :
    Calls Try.prog 72 #[.int .u32 x] w fun e w' => e = .returned (.int .i64 (bitLen x.toNat : Nat)) ∧ w' = w := by
  go_enter Try.func72, Try.ntmps72
  go_wp2
  all_goals try (exfalso; have hz := Lib.len8tab_size; omega)
  all_goals (go_ret; refine ⟨congrArg Ending.returned (congrArg (Value.int IntKind.i64) ?_), rfl⟩)
  all_goals simp only [tab_at]
  · exact close_len 24 _ x.toNat (by have := bitLen_shift x.toNat 24 (by omega); rw [this]; congr 2; omega) (by omega)
  · exact close_len 16 _ x.toNat (by have := bitLen_shift x.toNat 16 (by omega); rw [this]; congr 2; omega) (by omega)
  · exact close_len 8 _ x.toNat (by have := bitLen_shift x.toNat 8 (by omega); rw [this]; congr 2; omega) (by omega)
  · have hb := bitLen_le8 x.toNat (by omega)
    have e1 := IntWalk.wrap64_in ((bitLen x.toNat : Nat) : Int) ⟨by omega, by omega⟩
    rw [e1, e1]

theorem len32_any (x : Nat) (w : World) (h : x < 4294967296) :
    Calls Try.prog 72 #[.int .u32 x] w fun e w' => e = .returned (.int .i64 (bitLen x : Nat)) ∧ w' = w := by
  have := len32_int (x : Int) w (by omega) (by omega)
  rw [Int.toNat_natCast] at this
  exact this

theorem bitLen_vl (B : Nat) (b : Nat) (hb : B = 2 ^ b) (h1 : 1 < B) (zs : List Nat) (hs : Dg.Small B zs) (hn : Dg.Norm zs) (hne : zs ≠ []) : bitLen (Dg.vl B zs) = b * (zs.length - 1) + bitLen (zs.getD (zs.length - 1) 0) := by
  have hl : 0 < zs.length := List.length_pos_iff.2 hne
  have hsp := Dg.vl_split B zs (zs.length - 1) (by omega)
  rw [show zs.length - 1 + 1 = zs.length from by omega, List.drop_of_length_le (Nat.le_refl _)] at hsp
  simp only [Dg.vl, Nat.mul_zero, Nat.add_zero] at hsp
  have hlt := Dg.vl_lt B (zs.take (zs.length - 1)) (Dg.small_take hs _ (by omega))
  rw [List.length_take, Nat.min_eq_left (by omega)] at hlt
  have hpw : B ^ (zs.length - 1) = 2 ^ (b * (zs.length - 1)) := by rw [hb, Nat.pow_mul]
  have hdiv : Dg.vl B zs / 2 ^ (b * (zs.length - 1)) = zs.getD (zs.length - 1) 0 := by
    rw [← hpw, hsp, Nat.add_comm, Nat.mul_add_div (Nat.pow_pos (by omega)), Nat.div_eq_of_lt hlt, Nat.add_zero]
  have hnz := hn hne
  rw [bitLen_shift _ (b * (zs.length - 1)) (by rw [hdiv]; exact hnz), hdiv]

theorem bitLen_le_of (x k : Nat) (h : x < 2 ^ k) : bitLen x ≤ k := by
  by_cases h0 : x = 0
  · subst h0; rw [bitLen_zero]; omega
  · have := (bitLen_spec x).2 h0
    have := (Nat.pow_lt_pow_iff_right (by omega : 1 < 2)).1 (Nat.lt_of_le_of_lt this h)
    omega

theorem bits_any (va : Value) (xs : List Nat) (w : World) (ha : Rd w .u32 va xs) (sa : Dg.Small 4294967296 xs) (na : Dg.Norm xs) (hla : xs.length ≤ 1000000) :
    Calls Try.prog 56 #[va] w fun e w' => e = .returned (.int .i64 (bitLen (Dg.vl 4294967296 xs) : Nat)) ∧ w' = w := by
  obtain ⟨ao, ca, rfl, -, -, hca⟩ := ha
  by_cases h0 : xs.length = 0
  · obtain rfl : xs = [] := List.eq_nil_of_length_eq_zero h0
    go_enter Try.func56, Try.ntmps56
    go_wp2
    go_ret
    exact ⟨rfl, rfl⟩
  · have hne : xs ≠ [] := by intro e; subst e; simp at h0
    obtain ⟨b, off, rfl, hcell⟩ := hca (by omega)
    have hc := hcell (xs.length - 1) (by omega)
    have hs := sa (xs.length - 1)
    rw [bitLen_vl 4294967296 32 (by decide) (by omega) xs sa na hne]
    obtain ⟨x, ex⟩ : ∃ x, xs.getD (xs.length - 1) 0 = x := ⟨_, rfl⟩
    rw [ex] at hc hs ⊢
    have hbl := bitLen_le_of x 32 (by omega)
    have h3 := len32_any x w hs
    obtain ⟨l, hl⟩ : ∃ l, bitLen x = l := ⟨_, rfl⟩
    rw [hl] at h3 hbl ⊢
    have h00 : ((xs.length : Int) == 0) = false := by simp; intro e; subst e; simp at h0
    clear ex hcell hca hne hl
    go_enter Try.func56, Try.ntmps56
    go_wp2_with fail
    refine h3.mono ?_
    rintro e w' ⟨rfl, rfl⟩
    go_wp2
    go_ret
    exact ⟨by go_num, rfl⟩
theorem bits_nat (va : Value) (xs : List Nat) (w : World) (ha : Rd w .u32 va xs) (sa : Dg.Small 4294967296 xs) :
    Calls Try.prog 26 #[va] w fun e w' => e = .returned (.tuple #[.int .i64 ((if chk xs = 0 then bitLen (Dg.vl 4294967296 xs) else 0 : Nat) : Int), .int .i64 (chk xs)]) ∧ Below w.heap.size w w' := by
  obtain ⟨ao, ca, rfl⟩ := ha.shape
  have b1 : Below w.heap.size w (w.alloc (.cells #[.slice ao xs.length ca] 23)) := (Below.refl _ _).alloc (Nat.le_refl _) _
  have hw := wrong1_any w.heap.size _ xs (w.alloc (.cells #[.slice ao xs.length ca] 23)) (by rw [World.cell?_alloc_at _ _ _ _ rfl]; rfl) (ha.later b1)
  obtain ⟨c, hc⟩ : ∃ c, chk xs = c := ⟨_, rfl⟩
  by_cases h : c = 0
  · have hz := chk_zero (hc.trans h)
    rw [hc, h] at hw
    rw [hc, h, if_pos rfl]
    have hd := bits_any _ xs _ (ha.later b1) sa hz.1 (by omega)
    clear hc
    go_enter Try.func26, Try.ntmps26
    go_wp2_with fail
    refine hw.mono ?_
    rintro e w' ⟨rfl, rfl⟩
    go_wp2_with fail
    refine hd.mono ?_
    rintro e w2 ⟨rfl, rfl⟩
    go_wp2
    go_ret2
    exact ⟨rfl, b1⟩
  · rw [hc] at hw
    rw [hc, if_neg h]
    clear hc
    go_enter Try.func26, Try.ntmps26
    go_wp2_with fail
    refine hw.mono ?_
    rintro e w' ⟨rfl, rfl⟩
    go_wp2
    go_ret2
    exact ⟨rfl, b1⟩

set_option maxHeartbeats 1000000 in
theorem reflen_any (va : Value) (xs : List Nat) (w : World) (ha : Rd w .i64 va xs) (sa : Dg.Small 65536 xs) (na : Dg.Norm xs) (hla : xs.length ≤ 3000000) :
    Calls Try.prog 27 #[va] w fun e w' => e = .returned (.int .i64 (bitLen (Dg.vl 65536 xs) : Nat)) ∧ w' = w := by
  obtain ⟨ao, ca, rfl, -, -, hca⟩ := ha
  by_cases h0 : xs.length = 0
  · obtain rfl : xs = [] := List.eq_nil_of_length_eq_zero h0
    go_enter Try.func27, Try.ntmps27
    go_wp2
    go_ret
    exact ⟨rfl, rfl⟩
  · have hne : xs ≠ [] := by intro e; subst e; simp at h0
    obtain ⟨b, off, rfl, hcell⟩ := hca (by omega)
    have hc := hcell (xs.length - 1) (by omega)
    have hs := sa (xs.length - 1)
    rw [bitLen_vl 65536 16 (by decide) (by omega) xs sa na hne]
    obtain ⟨x, ex⟩ : ∃ x, xs.getD (xs.length - 1) 0 = x := ⟨_, rfl⟩
    rw [ex] at hc hs ⊢
    have hbl := bitLen_le_of x 16 (by omega)
    have h00 : ((xs.length : Int) == 0) = false := by simp; intro e; subst e; simp at h0
    clear ex hcell hca hne
    obtain ⟨T, hT⟩ : ∃ T, 16 * (xs.length - 1) + bitLen x = T := ⟨_, rfl⟩
    rw [hT]
    have HT : Hid (16 * (xs.length - 1) + bitLen x = T) := hT
    clear hT
    go_enter Try.func27, Try.ntmps27
    go_wp2
    go_loop [3, 4] (fun nv dv => ∃ m d : Nat, nv = .int .i64 m ∧ dv = .int .i64 d ∧ d < 65536 ∧ m ≤ 100000000 ∧ Hid (m + bitLen d = T)) (fun _ dv => (intOf dv).toNat)
    case atStart => exact ⟨16 * (xs.length - 1), x, by go_num, rfl, hs, by omega, HT⟩
    case round =>
      obtain ⟨m, d, rfl, rfl, hd, hm, hmd⟩ := hrel
      by_cases hd0 : d = 0
      · subst hd0
        have he : m = T := by have := hmd.out; rw [bitLen_zero] at this; omega
        subst he
        go_wp2
        go_ret
        exact ⟨rfl, rfl⟩
      · have hb2 := bitLen_two d hd0
        have hmT : m + 1 + bitLen (d / 2) = T := by have := hmd.out; omega
        have hT2 : T ≤ 60000000 := by have := HT.out; omega
        have HM : Hid (m + 1 + bitLen (d / 2) = T) := hmT
        have hm2 : m < 60000000 := by omega
        clear hb2 hmT
        go_wp2
        go_round
        case rel => exact ⟨m + 1, d / 2, by go_num, by go_num, by omega, by omega, HM⟩
        case measure => simp [intOf]; omega

theorem bits_walk (va : Value) (xs : List Nat) (w : World) (ha : Rd w .u32 va xs) (sa : Dg.Small 4294967296 xs) :
    Calls Try.prog 5 #[va] w fun e w' => e = .returned (.bool true) ∧ Below w.heap.size w w' := by
  have h1 := bits_nat va xs w ha sa
  have hck := fun w1 (b : Below w.heap.size w w1) => checkNat_any va xs w1 (ha.later b)
  have hz := fun h : chk xs = 0 => chk_zero h
  have hl16 := fun h : chk xs = 0 => of_len sa h
  obtain ⟨c, hc⟩ : ∃ c, chk xs = c := ⟨_, rfl⟩
  rw [hc] at h1 hz hl16
  simp only [hc] at hck
  have HC : Hid (∀ w1, Below w.heap.size w w1 → Calls Try.prog 21 #[va] w1 fun e w' => e = .returned (.int .i64 c) ∧ w' = w1) := hck
  clear hck hc
  by_cases h : c = 0
  · subst h
    rw [if_pos rfl] at h1
    have hla := (hz rfl).2
    have hl := hl16 rfl
    clear hz hl16
    obtain ⟨L, hL⟩ : ∃ L, bitLen (Dg.vl 4294967296 xs) = L := ⟨_, rfl⟩
    rw [hL] at h1
    have HL : Hid (bitLen (Dg.vl 4294967296 xs) = L) := hL
    clear hL
    go_enter Try.func5, Try.ntmps5
    go_wp2_with fail
    refine h1.mono ?_
    rintro e w1 ⟨rfl, b1⟩
    clear h1
    go_wp2_with fail
    refine (HC.out w1 b1).mono ?_
    rintro e w' ⟨rfl, rfl⟩
    go_wp2_with fail
    refine (of_any va xs _ (ha.later b1) sa (by omega)).mono ?_
    rintro e w2 ⟨v1, rfl, r1, b2⟩
    have b12 := below_trans b1 b2
    have hln := reflen_any v1 _ w2 r1 (Dg.small_dg _ _ (by omega)) (Dg.norm_dg _ _ (by omega)) (by omega)
    rw [Dg.vl_dg _ _ (by omega), HL.out] at hln
    go_wp2_with fail
    refine hln.mono ?_
    rintro e w' ⟨rfl, rfl⟩
    clear hln
    go_wp2_with fail
    refine (begun_any _).mono ?_
    rintro e w5 ⟨rfl, b5⟩
    have b15 := below_trans b12 b5
    go_wp2
    go_ret
    exact ⟨rfl, b15⟩
  · rw [if_neg h] at h1
    clear hz hl16
    go_enter Try.func5, Try.ntmps5
    go_wp2_with fail
    refine h1.mono ?_
    rintro e w1 ⟨rfl, b1⟩
    clear h1
    go_wp2_with fail
    refine (HC.out w1 b1).mono ?_
    rintro e w' ⟨rfl, rfl⟩
    go_wp2_with fail
    refine (begun_any _).mono ?_
    rintro e w5 ⟨rfl, b5⟩
    have b15 := below_trans b1 b5
    go_wp2
    go_ret
    exact ⟨rfl, b15⟩
end Go.Proofs.Ytepcafhlhnlgaaa

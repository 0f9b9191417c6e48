/-
  Texts laid together: Ref1, Ref2, Laws2, Bits.
-/
import Derived.Deep.RegionLaw
import Derived.WalkSmall
import Derived.OpenShut
import Derived.Laws.MathBits
import Derived.Lib.BitFns
import Derived.Lib.Walk
import Derived.Lib.Small
import Derived.Test.YtiiphandhpilgaaGreatDoorNd02
set_option maxRecDepth 100000
namespace Go.Proofs.YtiiphandhpilgaaGreatDoor
open Go.RowKit
theorem Tryz.infoI64 : (Tryz.prog.info? 3).map (fun i => (i.zero, i.size, i.bytes)) = some (some (.int .i64 0), 1, 8) := by kernel_rfl
def Far (B : Nat) (v : Value) : Prop := ∀ a n c, v = .slice (some a) n c → B ≤ a.block
theorem own_far {w : World} {base e : Nat} {k : IntKind} {v : Value} {zs : List Nat} (h : Own w base e k v zs) : Far base v := fun a n c hv => by
 rcases h.2 with ⟨e1, _⟩ | ⟨g, cap, cur, e1, hg, _⟩
 ·rw [e1] at hv; cases hv
 ·rw [e1] at hv
  cases hv
  exact hg
theorem Far.mono {B B' : Nat} {v : Value} (h : Far B v) (hb : B' ≤ B) : Far B' v := fun a n c hv => Nat.le_trans hb (h a n c hv)
end Go.Proofs.YtiiphandhpilgaaGreatDoor
namespace Go.Proofs.YtiiphandhpilgaaGreatDoor
open Go.RowKit
theorem vl_take_any (B : Nat) (l : List Nat) (k : Nat) : Dg.vl B (l.take (k + 1)) = Dg.vl B (l.take k) + B ^ k * l.getD k 0 := by
 by_cases h : k < l.length
 ·exact Dg.vl_take_succ _ _ _ h
 ·rw [List.take_of_length_le (by omega), List.take_of_length_le (by omega), Dg.getD_of_le _ _ (by omega)]; omega
theorem pow_two (k : Nat) : (65536 : Nat) ^ (2 * k) = 4294967296 ^ k := by rw [Nat.pow_mul]
set_option maxHeartbeats 1600000 in
theorem same_any (va vb : Value) (xs ys : List Nat) (w : World) (ha : Rd w .u32 va xs) (hb : Rd w .u32 vb ys) :
  Calls Tryz.prog 36 #[va, vb] w fun e w' => e = .returned (.bool (decide (xs = ys))) ∧ Below w.heap.size w w' := by
 obtain ⟨ao, ca, rfl, hla, hma, hca⟩ := ha
 obtain ⟨bo, cb, rfl, hlb, hmb, hcb⟩ := hb
 unfold maxLen at hma hmb
 obtain ⟨r, hr⟩ : ∃ r, decide (xs = ys) = r := ⟨_, rfl⟩
 rw [hr]
 by_cases hle : xs.length = ys.length
 ·have HR : Hid _ := hr
  have HL : Hid _ := hle
  rw [hle] at hla hca ⊢
  clear hr hle
  go_enter Tryz.func36, Tryz.ntmps36
  go_wp2
  go_loopw [5] (fun iv wr => ∃ k : Nat, k ≤ ys.length ∧ iv = .int .i64 k ∧ Hid (∀ j, j < k → xs.getD j 0 = ys.getD j 0) ∧ Below w.heap.size w wr) (fun iv _ => ys.length - (intOf iv).toNat)
  case atStart => exact ⟨0, Nat.zero_le _, rfl, fun j hj => by omega, Below.refl _ _⟩
  case round =>
   obtain ⟨k, hk, rfl, hall, bel⟩ := hrel
   by_cases hlt : k < ys.length
   ·obtain ⟨b, off, rfl, hcell⟩ := hca (by omega)
    obtain ⟨b2, off2, rfl, hcell2⟩ := hcb (by omega)
    have hx := cell_later bel (hcell k hlt)
    have hy := cell_later bel (hcell2 k hlt)
    have hst : xs.getD k 0 ≠ ys.getD k 0 → decide (xs = ys) = false := fun h => by
     rw [decide_eq_false]; intro e; rw [e] at h; exact h rfl
    rw [HR.out] at hst
    obtain ⟨x, ex⟩ : ∃ x, xs.getD k 0 = x := ⟨_, rfl⟩
    obtain ⟨y, ey⟩ : ∃ y, ys.getD k 0 = y := ⟨_, rfl⟩
    have HX : Hid _ := ex
    have HY : Hid _ := ey
    rw [ex] at hx hst
    rw [ey] at hy hst
    clear ex ey hcell hcell2 hca hcb
    by_cases hxy : x = y
    ·subst hxy
     clear hst
     go_wp2
     go_quiet (fail)
     go_wp2
     go_roundw
     case rel => exact ⟨k + 1, by omega, by go_num, fun j hj => by
      by_cases e : j = k
      ·rw [e]; exact HX.out.trans HY.out.symm
      ·exact hall j (by omega), below_drewN bel _⟩
     case measure => simp [intOf]; omega
    ·have hrf := hst hxy
     subst hrf
     have hne : ((x : Int) != (y : Int)) = true := by rw [bne_iff_ne]; omega
     go_wp2
     go_quiet (fail)
     go_wp2
     go_ret
     exact ⟨rfl, below_drewN bel _⟩
   ·have he : xs = ys := Dg.eq_of_all xs ys HL.out (fun j => by
     by_cases hj : j < k
     ·exact hall j hj
     ·rw [Dg.getD_of_le xs j (by rw [HL.out]; omega), Dg.getD_of_le ys j (by omega)])
    have hrt : r = true := by rw [← HR.out]; exact decide_eq_true he
    subst hrt
    clear he
    go_wp2
    go_ret
    exact ⟨rfl, bel⟩
 ·have hrf : r = false := by rw [← hr]; apply decide_eq_false; intro e; rw [e] at hle; exact hle rfl
  subst hrf
  clear hr
  have hne : ((xs.length : Int) != (ys.length : Int)) = true := by rw [bne_iff_ne]; omega
  go_enter Tryz.func36, Tryz.ntmps36
  go_wp2
  go_ret
  exact ⟨rfl, Below.refl _ _⟩
end Go.Proofs.YtiiphandhpilgaaGreatDoor
namespace Go.Proofs.YtiiphandhpilgaaGreatDoor
open Go.RowKit
theorem dg_len_mono (B n m : Nat) (hB : 2 ≤ B) (h : n ≤ m) : (Dg.dg B n).length ≤ (Dg.dg B m).length := by
 refine Dg.dg_len_le B n _ hB ?_
 have := Dg.vl_lt B (Dg.dg B m) (Dg.small_dg B m hB)
 rw [Dg.vl_dg B m hB] at this
 omega
end Go.Proofs.YtiiphandhpilgaaGreatDoor
namespace Go.Proofs.YtiiphandhpilgaaGreatDoor
open Go.RowKit
theorem bitLen_zero : bitLen 0 = 0 := rfl
theorem bitLen_two (x : Nat) (h : x ≠ 0) : bitLen x = 1 + bitLen (x / 2) := by
 by_cases h1 : x / 2 = 0
 ·have : x = 1 := by omega
  subst this; rfl
 ·exact bitLen_shift x 1 h1
theorem libBit (x : Nat) (h : x < 18446744073709551616) : Lib.bitLen x = bitLen x := by
 induction x using Nat.strongRecOn with
 | _ x ih =>
  by_cases h0 : x = 0
  ·subst h0; rfl
  ·rw [Lib.bitLen_half x h0 h, bitLen_two x h0, ih (x / 2) (by omega) (by omega)]
theorem tab_at (i : Nat) (h : i < Lib.len8tab.size) : (Lib.len8tab[i]'h).toNat = bitLen i := by
 have hs := Lib.len8tab_size
 have := Lib.len8_eq ⟨i, by omega⟩
 simp only [Lib.len8, Int.toNat_natCast] at this
 rw [getElem?_pos Lib.len8tab i h] at this
 simp only [Option.getD_some] at this
 rw [libBit i (by omega)] at this
 omega
theorem close_len (k q x : Nat) (h : bitLen x = k + bitLen q) (hq : q < 256 ∧ k ≤ 24) : RowKit.wrap64 ((k : Int) + RowKit.wrap64 ((bitLen q : Nat) : Int)) = ((bitLen x : Nat) : Int) := by
 have hb := bitLen_le8 q hq.1
 have e1 := IntWalk.wrap64_in ((bitLen q : Nat) : Int) ⟨by omega, by omega⟩
 rw [e1, IntWalk.wrap64_in _ ⟨by omega, by omega⟩, h]
 omega
set_option maxHeartbeats 4000000 in
theorem len32_int (x : Int) (w : World) (h0 : 0 ≤ x) (h1 : x ≤ 4294967295) :
  Calls Tryz.prog 138 #[.int .u32 x] w fun e w' => e = .returned (.int .i64 (bitLen x.toNat : Nat)) ∧ w' = w := by
 go_enter Tryz.func138, Tryz.ntmps138
 go_wp2
 all_goals try (exfalso; have hz := Lib.len8tab_size; omega)
 all_goals (go_ret; refine ⟨congrArg Ending.returned (congrArg (Value.int IntKind.i64) ?_), rfl⟩)
 all_goals simp only [tab_at]
 ·exact close_len 24 _ x.toNat (by have := bitLen_shift x.toNat 24 (by omega); rw [this]; congr 2; omega) (by omega)
 ·exact close_len 16 _ x.toNat (by have := bitLen_shift x.toNat 16 (by omega); rw [this]; congr 2; omega) (by omega)
 ·exact close_len 8 _ x.toNat (by have := bitLen_shift x.toNat 8 (by omega); rw [this]; congr 2; omega) (by omega)
 ·have hb := bitLen_le8 x.toNat (by omega)
  have e1 := IntWalk.wrap64_in ((bitLen x.toNat : Nat) : Int) ⟨by omega, by omega⟩
  rw [e1, e1]
theorem len32_any (x : Nat) (w : World) (h : x < 4294967296) :
  Calls Tryz.prog 138 #[.int .u32 x] w fun e w' => e = .returned (.int .i64 (bitLen x : Nat)) ∧ w' = w := by
 have := len32_int (x : Int) w (by omega) (by omega)
 rw [Int.toNat_natCast] at this
 exact this
theorem bitLen_vl (B : Nat) (b : Nat) (hb : B = 2 ^ b) (h1 : 1 < B) (zs : List Nat) (hs : Dg.Small B zs) (hn : Dg.Norm zs) (hne : zs ≠ []) : bitLen (Dg.vl B zs) = b * (zs.length - 1) + bitLen (zs.getD (zs.length - 1) 0) := by
 have hl : 0 < zs.length := List.length_pos_iff.2 hne
 have hsp := Dg.vl_split B zs (zs.length - 1) (by omega)
 rw [show zs.length - 1 + 1 = zs.length from by omega, List.drop_of_length_le (Nat.le_refl _)] at hsp
 simp only [Dg.vl, Nat.mul_zero, Nat.add_zero] at hsp
 have hlt := Dg.vl_lt B (zs.take (zs.length - 1)) (Dg.small_take hs _ (by omega))
 rw [List.length_take, Nat.min_eq_left (by omega)] at hlt
 have hpw : B ^ (zs.length - 1) = 2 ^ (b * (zs.length - 1)) := by rw [hb, Nat.pow_mul]
 have hdiv : Dg.vl B zs / 2 ^ (b * (zs.length - 1)) = zs.getD (zs.length - 1) 0 := by
  rw [← hpw, hsp, Nat.add_comm, Nat.mul_add_div (Nat.pow_pos (by omega)), Nat.div_eq_of_lt hlt, Nat.add_zero]
 have hnz := hn hne
 rw [bitLen_shift _ (b * (zs.length - 1)) (by rw [hdiv]; exact hnz), hdiv]
theorem bitLen_le_of (x k : Nat) (h : x < 2 ^ k) : bitLen x ≤ k := by
 by_cases h0 : x = 0
 ·subst h0; rw [bitLen_zero]; omega
 ·have := (bitLen_spec x).2 h0
  have := (Nat.pow_lt_pow_iff_right (by omega : 1 < 2)).1 (Nat.lt_of_le_of_lt this h)
  omega
theorem bits_any (va : Value) (xs : List Nat) (w : World) (ha : Rd w .u32 va xs) (sa : Dg.Small 4294967296 xs) (na : Dg.Norm xs) (hla : xs.length ≤ 1000000) :
  Calls Tryz.prog 121 #[va] w fun e w' => e = .returned (.int .i64 (bitLen (Dg.vl 4294967296 xs) : Nat)) ∧ w' = w := by
 obtain ⟨ao, ca, rfl, -, -, hca⟩ := ha
 by_cases h0 : xs.length = 0
 ·obtain rfl : xs = [] := List.eq_nil_of_length_eq_zero h0
  go_enter Tryz.func121, Tryz.ntmps121
  go_wp2
  go_ret
  exact ⟨rfl, rfl⟩
 ·have hne : xs ≠ [] := by intro e; subst e; simp at h0
  obtain ⟨b, off, rfl, hcell⟩ := hca (by omega)
  have hc := hcell (xs.length - 1) (by omega)
  have hs := sa (xs.length - 1)
  rw [bitLen_vl 4294967296 32 (by decide) (by omega) xs sa na hne]
  obtain ⟨x, ex⟩ : ∃ x, xs.getD (xs.length - 1) 0 = x := ⟨_, rfl⟩
  rw [ex] at hc hs ⊢
  have hbl := bitLen_le_of x 32 (by omega)
  have h3 := len32_any x w hs
  obtain ⟨l, hl⟩ : ∃ l, bitLen x = l := ⟨_, rfl⟩
  rw [hl] at h3 hbl ⊢
  have h00 : ((xs.length : Int) == 0) = false := by simp; intro e; subst e; simp at h0
  clear ex hcell hca hne hl
  go_enter Tryz.func121, Tryz.ntmps121
  go_wp2_with fail
  refine h3.mono ?_
  rintro e w' ⟨rfl, rfl⟩
  go_wp2
  go_ret
  exact ⟨by go_num, rfl⟩
end Go.Proofs.YtiiphandhpilgaaGreatDoor

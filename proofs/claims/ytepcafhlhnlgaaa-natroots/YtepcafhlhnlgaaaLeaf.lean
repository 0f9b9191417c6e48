/-
  Contracts of the leaves: Check, CheckNat, trim, Trim, cmp.Compare.
-/
import Derived.Test.YtepcafhlhnlgaaaChecked
import Derived.Test.YtepcafhlhnlgaaaMem
import Derived.Handy
namespace Go.Proofs.Ytepcafhlhnlgaaa
open Go.RowKit

/-- What Check answers. -/
def chk (zs : List Nat) : Int := if 0 < zs.length ∧ zs.getD (zs.length - 1) 0 = 0 then 1 else if 1200 < zs.length then 2 else 0

theorem chk_form {zs : List Nat} (h : 0 < zs.length) (hz : zs.getD (zs.length - 1) 0 = 0) : chk zs = 1 := by unfold chk; rw [if_pos ⟨h, hz⟩]
theorem chk_many {zs : List Nat} (hz : zs.getD (zs.length - 1) 0 ≠ 0) (h : 1200 < zs.length) : chk zs = 2 := by unfold chk; rw [if_neg (fun c => hz c.2), if_pos h]
theorem chk_ok {zs : List Nat} (hz : zs.getD (zs.length - 1) 0 ≠ 0) (h : ¬ 1200 < zs.length) : chk zs = 0 := by unfold chk; rw [if_neg (fun c => hz c.2), if_neg h]
theorem chk_nil : chk [] = 0 := rfl

theorem rd_len {w : World} {k : IntKind} {ao : Option Addr} {len cap : Nat} {zs : List Nat} (h : Rd w k (.slice ao len cap) zs) : len = zs.length := by
  obtain ⟨ao', cap', hv, _⟩ := h
  simp only [Value.slice.injEq] at hv
  exact hv.2.1

theorem rd_open {w : World} {k : IntKind} {ao : Option Addr} {cap : Nat} {zs : List Nat} (h : Rd w k (.slice ao zs.length cap) zs) :
    zs.length ≤ cap ∧ cap ≤ 9223372036854775807 ∧ (0 < zs.length → ∃ b off, ao = some ⟨b, off, none⟩ ∧ ∀ i, i < zs.length → w.cell? ⟨b, off + i, none⟩ = some (.int k ((zs.getD i 0 : Nat) : Int))) := by
  obtain ⟨ao', cap', hv, hlc, hm, hc⟩ := h
  simp only [Value.slice.injEq, true_and] at hv
  obtain ⟨rfl, rfl⟩ := hv
  unfold maxLen at hm
  exact ⟨hlc, hm, hc⟩

theorem check_any (v : Value) (zs : List Nat) (w : World) (h : Rd w .u32 v zs) :
    Calls Try.prog 20 #[v] w fun e w' => e = .returned (.int .i64 (chk zs)) ∧ w' = w := by
  obtain ⟨ao, cap, rfl, hlc, hm, hc⟩ := h
  unfold maxLen at hm
  by_cases h0 : zs.length = 0
  · have hz : zs = [] := List.eq_nil_of_length_eq_zero h0
    subst hz
    go_enter Try.func20, Try.ntmps20
    go_wp2
    go_ret
    exact ⟨rfl, rfl⟩
  · obtain ⟨b, off, rfl, hcell⟩ := hc (by omega)
    have h1 := hcell (zs.length - 1) (by omega)
    by_cases hz : zs.getD (zs.length - 1) 0 = 0
    · have e1 : chk zs = 1 := chk_form (by omega) hz
      rw [e1]
      rw [hz] at h1
      clear hcell hc e1 hz
      go_enter Try.func20, Try.ntmps20
      go_wp2
      go_ret
      exact ⟨rfl, rfl⟩
    · obtain ⟨d, hd⟩ : ∃ d, zs.getD (zs.length - 1) 0 = d := ⟨_, rfl⟩
      by_cases hg : 1200 < zs.length
      · rw [chk_many hz hg]
        rw [hd] at h1 hz
        clear hcell hc hd
        go_enter Try.func20, Try.ntmps20
        go_wp2
        go_ret
        exact ⟨rfl, rfl⟩
      · rw [chk_ok hz hg]
        rw [hd] at h1 hz
        clear hcell hc hd
        go_enter Try.func20, Try.ntmps20
        go_wp2
        go_ret
        exact ⟨rfl, rfl⟩

theorem checkNat_any (v : Value) (zs : List Nat) (w : World) (h : Rd w .u32 v zs) :
    Calls Try.prog 21 #[v] w fun e w' => e = .returned (.int .i64 (chk zs)) ∧ w' = w := by
  obtain ⟨ao, cap, rfl, hlc, hm, hc⟩ := h
  unfold maxLen at hm
  by_cases h0 : zs.length = 0
  · have hz : zs = [] := List.eq_nil_of_length_eq_zero h0
    subst hz
    go_enter Try.func21, Try.ntmps21
    go_wp2
    go_ret
    exact ⟨rfl, rfl⟩
  · obtain ⟨b, off, rfl, hcell⟩ := hc (by omega)
    have h1 := hcell (zs.length - 1) (by omega)
    by_cases hz : zs.getD (zs.length - 1) 0 = 0
    · have e1 : chk zs = 1 := chk_form (by omega) hz
      rw [e1]
      rw [hz] at h1
      clear hcell hc e1 hz
      go_enter Try.func21, Try.ntmps21
      go_wp2
      go_ret
      exact ⟨rfl, rfl⟩
    · obtain ⟨d, hd⟩ : ∃ d, zs.getD (zs.length - 1) 0 = d := ⟨_, rfl⟩
      by_cases hg : 1200 < zs.length
      · rw [chk_many hz hg]
        rw [hd] at h1 hz
        clear hcell hc hd
        go_enter Try.func21, Try.ntmps21
        go_wp2
        go_ret
        exact ⟨rfl, rfl⟩
      · rw [chk_ok hz hg]
        rw [hd] at h1 hz
        clear hcell hc hd
        go_enter Try.func21, Try.ntmps21
        go_wp2
        go_ret
        exact ⟨rfl, rfl⟩

/-- n digits are left when noughts at the upper end are dropped. -/
def TrimR (zs : List Nat) (n : Nat) : Prop := n ≤ zs.length ∧ (∀ i, n ≤ i → zs.getD i 0 = 0) ∧ (0 < n → zs.getD (n - 1) 0 ≠ 0)

theorem trim_any (ao : Option Addr) (len cap : Nat) (zs : List Nat) (w : World) (h : Rd w .u32 (.slice ao len cap) zs) :
    Calls Try.prog 74 #[.slice ao len cap] w fun e w' => ∃ n, e = .returned (.slice ao n cap) ∧ TrimR zs n ∧ w' = w := by
  obtain rfl := rd_len h
  obtain ⟨hlc, hm, hc⟩ := rd_open h
  go_enter Try.func74, Try.ntmps74
  go_wp2
  go_loop [3] (fun i => ∃ k : Nat, k ≤ zs.length ∧ i = .int .i64 k ∧ Hid (∀ i, k ≤ i → zs.getD i 0 = 0)) (fun i => (intOf i).toNat)
  case atStart => exact ⟨zs.length, Nat.le_refl _, rfl, fun i hi => Dg.getD_of_le _ _ hi⟩
  case round =>
    obtain ⟨k, hk, rfl, hz⟩ := hrel
    by_cases hk0 : k = 0
    · subst hk0
      go_wp2
      go_ret
      exact ⟨0, rfl, ⟨Nat.zero_le _, hz, fun h => absurd h (by omega)⟩, rfl⟩
    · obtain ⟨b, off, rfl, hcell⟩ := hc (by omega)
      have h1 := hcell (k - 1) (by omega)
      obtain ⟨d, hd⟩ : ∃ d, zs.getD (k - 1) 0 = d := ⟨_, rfl⟩
      rw [hd] at h1
      have Hd : Hid (zs.getD (k - 1) 0 = d) := hd
      clear hd hcell hc h
      by_cases hd0 : d = 0
      · subst hd0
        go_wp2
        go_round
        case rel => exact ⟨k - 1, by omega, by go_num, fun i hi => by
          by_cases e : i = k - 1
          · rw [e]; exact Hd.out
          · exact hz i (by omega)⟩
        case measure => simp [intOf]; omega
      · go_wp2
        go_ret
        exact ⟨k, rfl, ⟨hk, hz, fun _ => by rw [Hd.out]; exact hd0⟩, rfl⟩

theorem reftrim_any (ao : Option Addr) (len cap : Nat) (zs : List Nat) (w : World) (h : Rd w .i64 (.slice ao len cap) zs) :
    Calls Try.prog 55 #[.slice ao len cap] w fun e w' => ∃ n, e = .returned (.slice ao n n) ∧ TrimR zs n ∧ w' = w := by
  obtain rfl := rd_len h
  obtain ⟨hlc, hm, hc⟩ := rd_open h
  go_enter Try.func55, Try.ntmps55
  go_wp2
  go_loop [3] (fun i => ∃ k : Nat, k ≤ zs.length ∧ i = .int .i64 k ∧ Hid (∀ i, k ≤ i → zs.getD i 0 = 0)) (fun i => (intOf i).toNat)
  case atStart => exact ⟨zs.length, Nat.le_refl _, rfl, fun i hi => Dg.getD_of_le _ _ hi⟩
  case round =>
    obtain ⟨k, hk, rfl, hz⟩ := hrel
    by_cases hk0 : k = 0
    · subst hk0
      go_wp2
      go_ret
      exact ⟨0, rfl, ⟨Nat.zero_le _, hz, fun h => absurd h (by omega)⟩, rfl⟩
    · obtain ⟨b, off, rfl, hcell⟩ := hc (by omega)
      have h1 := hcell (k - 1) (by omega)
      obtain ⟨d, hd⟩ : ∃ d, zs.getD (k - 1) 0 = d := ⟨_, rfl⟩
      rw [hd] at h1
      have Hd : Hid (zs.getD (k - 1) 0 = d) := hd
      clear hd hcell hc h
      by_cases hd0 : d = 0
      · subst hd0
        go_wp2
        go_round
        case rel => exact ⟨k - 1, by omega, by go_num, fun i hi => by
          by_cases e : i = k - 1
          · rw [e]; exact Hd.out
          · exact hz i (by omega)⟩
        case measure => simp [intOf]; omega
      · go_wp2
        go_ret
        exact ⟨k, rfl, ⟨hk, hz, fun _ => by rw [Hd.out]; exact hd0⟩, rfl⟩

/-- How two numbers stand to each other. -/
def cmpI (a b : Int) : Int := if a < b then -1 else if b < a then 1 else 0

theorem cmpInt_any (a b : Int) (w : World) : Calls Try.prog 70 #[.int .i64 a, .int .i64 b] w fun e w' => e = .returned (.int .i64 (cmpI a b)) ∧ w' = w := by
  unfold cmpI
  by_cases h1 : a < b
  · rw [if_pos h1]
    go_enter Try.func70, Try.ntmps70
    go_wp2
    go_ret
    exact ⟨rfl, rfl⟩
  · by_cases h2 : b < a
    · rw [if_neg h1, if_pos h2]
      go_enter Try.func70, Try.ntmps70
      go_wp2
      go_ret
      exact ⟨rfl, rfl⟩
    · rw [if_neg h1, if_neg h2]
      go_enter Try.func70, Try.ntmps70
      go_wp2
      go_ret
      exact ⟨rfl, rfl⟩

theorem cmpU32_any (a b : Int) (w : World) : Calls Try.prog 71 #[.int .u32 a, .int .u32 b] w fun e w' => e = .returned (.int .i64 (cmpI a b)) ∧ w' = w := by
  unfold cmpI
  by_cases h1 : a < b
  · rw [if_pos h1]
    go_enter Try.func71, Try.ntmps71
    go_wp2
    go_ret
    exact ⟨rfl, rfl⟩
  · by_cases h2 : b < a
    · rw [if_neg h1, if_pos h2]
      go_enter Try.func71, Try.ntmps71
      go_wp2
      go_ret
      exact ⟨rfl, rfl⟩
    · rw [if_neg h1, if_neg h2]
      go_enter Try.func71, Try.ntmps71
      go_wp2
      go_ret
      exact ⟨rfl, rfl⟩

end Go.Proofs.Ytepcafhlhnlgaaa

/-
  Texts laid together: Leaf, Mul, Wrong, Div1, DivBy, Rev.
-/
import Derived.Test.YtgbccbmflokooaaGreatDoorChecked
import Derived.Test.YtgbccbmflokooaaGreatDoorMem
import Derived.Handy
import Derived.Laws.CopyOwn
import Derived.BigRegion
/-
  Contracts of the leaves: Check, CheckNat, trim, Trim, cmp.Compare.
-/
namespace Go.Proofs.YtgbccbmflokooaaGreatDoor
open Go.RowKit

/-- What Check answers. -/
def chk (zs : List Nat) : Int := if 0 < zs.length ∧ zs.getD (zs.length - 1) 0 = 0 then 1 else if 1200 < zs.length then 2 else 0

theorem chk_form {zs : List Nat} (h : 0 < zs.length) (hz : zs.getD (zs.length - 1) 0 = 0) : chk zs = 1 := by unfold chk; rw [if_pos ⟨h, hz⟩]
theorem chk_many {zs : List Nat} (hz : zs.getD (zs.length - 1) 0 ≠ 0) (h : 1200 < zs.length) : chk zs = 2 := by unfold chk; rw [if_neg (fun c => hz c.2), if_pos h]
theorem chk_ok {zs : List Nat} (hz : zs.getD (zs.length - 1) 0 ≠ 0) (h : ¬ 1200 < zs.length) : chk zs = 0 := by unfold chk; rw [if_neg (fun c => hz c.2), if_neg h]
theorem chk_nil : chk [] = 0 := rfl

theorem rd_len {w : World} {k : IntKind} {ao : Option Addr} {len cap : Nat} {zs : List Nat} (h : Rd w k (.slice ao len cap) zs) : len = zs.length := by
  obtain ⟨ao', cap', hv, _⟩ := h
  simp only [Value.slice.injEq] at hv
  exact hv.2.1

theorem rd_open {w : World} {k : IntKind} {ao : Option Addr} {cap : Nat} {zs : List Nat} (h : Rd w k (.slice ao zs.length cap) zs) :
    zs.length ≤ cap ∧ cap ≤ 9223372036854775807 ∧ (0 < zs.length → ∃ b off, ao = some ⟨b, off, none⟩ ∧ ∀ i, i < zs.length → w.cell? ⟨b, off + i, none⟩ = some (.int k ((zs.getD i 0 : Nat) : Int))) := by
  obtain ⟨ao', cap', hv, hlc, hm, hc⟩ := h
  simp only [Value.slice.injEq, true_and] at hv
  obtain ⟨rfl, rfl⟩ := hv
  unfold maxLen at hm
  exact ⟨hlc, hm, hc⟩

set_option maxRecDepth 100000 in
theorem check_any (v : Value) (zs : List Nat) (w : World) (h : Rd w .u32 v zs) :
    Calls Tryz.prog 39 #[v] w fun e w' => e = .returned (.int .i64 (chk zs)) ∧ w' = w := by
  obtain ⟨ao, cap, rfl, hlc, hm, hc⟩ := h
  unfold maxLen at hm
  by_cases h0 : zs.length = 0
  · have hz : zs = [] := List.eq_nil_of_length_eq_zero h0
    subst hz
    go_enter Tryz.func39, Tryz.ntmps39
    go_wp2
    go_ret
    exact ⟨rfl, rfl⟩
  · obtain ⟨b, off, rfl, hcell⟩ := hc (by omega)
    have h1 := hcell (zs.length - 1) (by omega)
    by_cases hz : zs.getD (zs.length - 1) 0 = 0
    · have e1 : chk zs = 1 := chk_form (by omega) hz
      rw [e1]
      rw [hz] at h1
      clear hcell hc e1 hz
      go_enter Tryz.func39, Tryz.ntmps39
      go_wp2
      go_ret
      exact ⟨rfl, rfl⟩
    · obtain ⟨d, hd⟩ : ∃ d, zs.getD (zs.length - 1) 0 = d := ⟨_, rfl⟩
      by_cases hg : 1200 < zs.length
      · rw [chk_many hz hg]
        rw [hd] at h1 hz
        clear hcell hc hd
        go_enter Tryz.func39, Tryz.ntmps39
        go_wp2
        go_ret
        exact ⟨rfl, rfl⟩
      · rw [chk_ok hz hg]
        rw [hd] at h1 hz
        clear hcell hc hd
        go_enter Tryz.func39, Tryz.ntmps39
        go_wp2
        go_ret
        exact ⟨rfl, rfl⟩

set_option maxRecDepth 100000 in
theorem checkNat_any (v : Value) (zs : List Nat) (w : World) (h : Rd w .u32 v zs) :
    Calls Tryz.prog 42 #[v] w fun e w' => e = .returned (.int .i64 (chk zs)) ∧ w' = w := by
  obtain ⟨ao, cap, rfl, hlc, hm, hc⟩ := h
  unfold maxLen at hm
  by_cases h0 : zs.length = 0
  · have hz : zs = [] := List.eq_nil_of_length_eq_zero h0
    subst hz
    go_enter Tryz.func42, Tryz.ntmps42
    go_wp2
    go_ret
    exact ⟨rfl, rfl⟩
  · obtain ⟨b, off, rfl, hcell⟩ := hc (by omega)
    have h1 := hcell (zs.length - 1) (by omega)
    by_cases hz : zs.getD (zs.length - 1) 0 = 0
    · have e1 : chk zs = 1 := chk_form (by omega) hz
      rw [e1]
      rw [hz] at h1
      clear hcell hc e1 hz
      go_enter Tryz.func42, Tryz.ntmps42
      go_wp2
      go_ret
      exact ⟨rfl, rfl⟩
    · obtain ⟨d, hd⟩ : ∃ d, zs.getD (zs.length - 1) 0 = d := ⟨_, rfl⟩
      by_cases hg : 1200 < zs.length
      · rw [chk_many hz hg]
        rw [hd] at h1 hz
        clear hcell hc hd
        go_enter Tryz.func42, Tryz.ntmps42
        go_wp2
        go_ret
        exact ⟨rfl, rfl⟩
      · rw [chk_ok hz hg]
        rw [hd] at h1 hz
        clear hcell hc hd
        go_enter Tryz.func42, Tryz.ntmps42
        go_wp2
        go_ret
        exact ⟨rfl, rfl⟩

/-- n digits are left when noughts at the upper end are dropped. -/
def TrimR (zs : List Nat) (n : Nat) : Prop := n ≤ zs.length ∧ (∀ i, n ≤ i → zs.getD i 0 = 0) ∧ (0 < n → zs.getD (n - 1) 0 ≠ 0)

set_option maxRecDepth 100000 in
theorem trim_any (ao : Option Addr) (len cap : Nat) (zs : List Nat) (w : World) (h : Rd w .u32 (.slice ao len cap) zs) :
    Calls Tryz.prog 94 #[.slice ao len cap] w fun e w' => ∃ n, e = .returned (.slice ao n cap) ∧ TrimR zs n ∧ w' = w := by
  obtain rfl := rd_len h
  obtain ⟨hlc, hm, hc⟩ := rd_open h
  go_enter Tryz.func94, Tryz.ntmps94
  go_wp2
  go_loop [3] (fun i => ∃ k : Nat, k ≤ zs.length ∧ i = .int .i64 k ∧ Hid (∀ i, k ≤ i → zs.getD i 0 = 0)) (fun i => (intOf i).toNat)
  case atStart => exact ⟨zs.length, Nat.le_refl _, rfl, fun i hi => Dg.getD_of_le _ _ hi⟩
  case round =>
    obtain ⟨k, hk, rfl, hz⟩ := hrel
    by_cases hk0 : k = 0
    · subst hk0
      go_wp2
      go_ret
      exact ⟨0, rfl, ⟨Nat.zero_le _, hz, fun h => absurd h (by omega)⟩, rfl⟩
    · obtain ⟨b, off, rfl, hcell⟩ := hc (by omega)
      have h1 := hcell (k - 1) (by omega)
      obtain ⟨d, hd⟩ : ∃ d, zs.getD (k - 1) 0 = d := ⟨_, rfl⟩
      rw [hd] at h1
      have Hd : Hid (zs.getD (k - 1) 0 = d) := hd
      clear hd hcell hc h
      by_cases hd0 : d = 0
      · subst hd0
        go_wp2
        go_round
        case rel => exact ⟨k - 1, by omega, by go_num, fun i hi => by
          by_cases e : i = k - 1
          · rw [e]; exact Hd.out
          · exact hz i (by omega)⟩
        case measure => simp [intOf]; omega
      · go_wp2
        go_ret
        exact ⟨k, rfl, ⟨hk, hz, fun _ => by rw [Hd.out]; exact hd0⟩, rfl⟩

set_option maxRecDepth 100000 in
theorem reftrim_any (ao : Option Addr) (len cap : Nat) (zs : List Nat) (w : World) (h : Rd w .i64 (.slice ao len cap) zs) :
    Calls Tryz.prog 74 #[.slice ao len cap] w fun e w' => ∃ n, e = .returned (.slice ao n n) ∧ TrimR zs n ∧ w' = w := by
  obtain rfl := rd_len h
  obtain ⟨hlc, hm, hc⟩ := rd_open h
  go_enter Tryz.func74, Tryz.ntmps74
  go_wp2
  go_loop [3] (fun i => ∃ k : Nat, k ≤ zs.length ∧ i = .int .i64 k ∧ Hid (∀ i, k ≤ i → zs.getD i 0 = 0)) (fun i => (intOf i).toNat)
  case atStart => exact ⟨zs.length, Nat.le_refl _, rfl, fun i hi => Dg.getD_of_le _ _ hi⟩
  case round =>
    obtain ⟨k, hk, rfl, hz⟩ := hrel
    by_cases hk0 : k = 0
    · subst hk0
      go_wp2
      go_ret
      exact ⟨0, rfl, ⟨Nat.zero_le _, hz, fun h => absurd h (by omega)⟩, rfl⟩
    · obtain ⟨b, off, rfl, hcell⟩ := hc (by omega)
      have h1 := hcell (k - 1) (by omega)
      obtain ⟨d, hd⟩ : ∃ d, zs.getD (k - 1) 0 = d := ⟨_, rfl⟩
      rw [hd] at h1
      have Hd : Hid (zs.getD (k - 1) 0 = d) := hd
      clear hd hcell hc h
      by_cases hd0 : d = 0
      · subst hd0
        go_wp2
        go_round
        case rel => exact ⟨k - 1, by omega, by go_num, fun i hi => by
          by_cases e : i = k - 1
          · rw [e]; exact Hd.out
          · exact hz i (by omega)⟩
        case measure => simp [intOf]; omega
      · go_wp2
        go_ret
        exact ⟨k, rfl, ⟨hk, hz, fun _ => by rw [Hd.out]; exact hd0⟩, rfl⟩

/-- How two numbers stand to each other. -/
def cmpI (a b : Int) : Int := if a < b then -1 else if b < a then 1 else 0

set_option maxRecDepth 100000 in
theorem cmpInt_any (a b : Int) (w : World) : Calls Tryz.prog 88 #[.int .i64 a, .int .i64 b] w fun e w' => e = .returned (.int .i64 (cmpI a b)) ∧ w' = w := by
  unfold cmpI
  by_cases h1 : a < b
  · rw [if_pos h1]
    go_enter Tryz.func88, Tryz.ntmps88
    go_wp2
    go_ret
    exact ⟨rfl, rfl⟩
  · by_cases h2 : b < a
    · rw [if_neg h1, if_pos h2]
      go_enter Tryz.func88, Tryz.ntmps88
      go_wp2
      go_ret
      exact ⟨rfl, rfl⟩
    · rw [if_neg h1, if_neg h2]
      go_enter Tryz.func88, Tryz.ntmps88
      go_wp2
      go_ret
      exact ⟨rfl, rfl⟩

set_option maxRecDepth 100000 in
theorem cmpU32_any (a b : Int) (w : World) : Calls Tryz.prog 128 #[.int .u32 a, .int .u32 b] w fun e w' => e = .returned (.int .i64 (cmpI a b)) ∧ w' = w := by
  unfold cmpI
  by_cases h1 : a < b
  · rw [if_pos h1]
    go_enter Tryz.func128, Tryz.ntmps128
    go_wp2
    go_ret
    exact ⟨rfl, rfl⟩
  · by_cases h2 : b < a
    · rw [if_neg h1, if_pos h2]
      go_enter Tryz.func128, Tryz.ntmps128
      go_wp2
      go_ret
      exact ⟨rfl, rfl⟩
    · rw [if_neg h1, if_neg h2]
      go_enter Tryz.func128, Tryz.ntmps128
      go_wp2
      go_ret
      exact ⟨rfl, rfl⟩

end Go.Proofs.YtgbccbmflokooaaGreatDoor
/-
  The contract of digits.Number.Times: the digits of the product.
-/
namespace Go.Proofs.YtgbccbmflokooaaGreatDoor
open Go.RowKit

theorem Tryz.infoU32 : (Tryz.prog.info? 84).map (fun i => (i.zero, i.size, i.bytes)) = some (some (.int .u32 0), 1, 4) := by kernel_rfl

/-- What the outer loop keeps. -/
def MulO (xs ys ps : List Nat) (i : Nat) : Prop :=
  ps.length = xs.length + ys.length ∧ Dg.Small 4294967296 ps ∧ (∀ j, i + ys.length ≤ j → ps.getD j 0 = 0) ∧ Dg.vl 4294967296 ps = Dg.vl 4294967296 (xs.take i) * Dg.vl 4294967296 ys

/-- What the inner loop keeps. -/
def MulI (xs ys ps : List Nat) (i j c : Nat) : Prop :=
  ps.length = xs.length + ys.length ∧ Dg.Small 4294967296 ps ∧ c < 4294967296 ∧ (∀ j, i + ys.length ≤ j → ps.getD j 0 = 0) ∧
    Dg.vl 4294967296 ps + 4294967296 ^ (i + j) * c = Dg.vl 4294967296 (xs.take i) * Dg.vl 4294967296 ys + 4294967296 ^ i * (xs.getD i 0 * Dg.vl 4294967296 (ys.take j))

theorem mulO_start (xs ys : List Nat) : MulO xs ys (List.replicate (xs.length + ys.length) 0) 0 := by
  refine ⟨by simp, Dg.small_replicate _ _ (by omega), fun j _ => ?_, ?_⟩
  · by_cases h : j < xs.length + ys.length <;> simp [List.getD_eq_getElem?_getD, h]
  · simp [Dg.vl_replicate_zero, Dg.vl]

theorem mulI_start {xs ys ps : List Nat} {i : Nat} (h : MulO xs ys ps i) : MulI xs ys ps i 0 0 :=
  ⟨h.1, h.2.1, by omega, h.2.2.1, by rw [h.2.2.2]; simp [Dg.vl]⟩

theorem mulI_step {xs ys ps : List Nat} {i j c : Nat} (h : MulI xs ys ps i j c) (hi : i < xs.length) (hj : j < ys.length) (t : Nat) (ht : t = c + (xs.getD i 0 * ys.getD j 0 + ps.getD (i + j) 0)) (hlt : t < 18446744073709551616) :
    MulI xs ys (ps.set (i + j) (t % 4294967296)) i (j + 1) (t / 4294967296) := by
  obtain ⟨h1, h2, h3, h4, h5⟩ := h
  have hl : i + j < ps.length := by omega
  refine ⟨by simpa using h1, Dg.small_set h2 _ _ (Nat.mod_lt _ (by omega)), by omega, fun k hk => ?_, ?_⟩
  · rw [Dg.getD_set _ _ _ _ hl, if_neg (by omega)]; exact h4 k hk
  · have hs := Dg.vl_set 4294967296 ps (i + j) (t % 4294967296) hl
    rw [Dg.vl_take_succ _ _ _ hj]
    have hp : 4294967296 ^ (i + (j + 1)) * (t / 4294967296) = 4294967296 ^ (i + j) * (4294967296 * (t / 4294967296)) := by
      rw [show i + (j + 1) = (i + j) + 1 from by omega, Nat.pow_succ, Nat.mul_assoc]
    have hm : 4294967296 ^ (i + j) * t = 4294967296 ^ (i + j) * (t % 4294967296) + 4294967296 ^ (i + j) * (4294967296 * (t / 4294967296)) := by
      rw [← Nat.mul_add, Nat.mod_add_div]
    have he : 4294967296 ^ (i + j) * t = 4294967296 ^ (i + j) * c + 4294967296 ^ (i + j) * (xs.getD i 0 * ys.getD j 0) + 4294967296 ^ (i + j) * ps.getD (i + j) 0 := by
      rw [ht, Nat.mul_add, Nat.mul_add, Nat.add_assoc]
    have hd : 4294967296 ^ i * (xs.getD i 0 * (Dg.vl 4294967296 (ys.take j) + 4294967296 ^ j * ys.getD j 0)) = 4294967296 ^ i * (xs.getD i 0 * Dg.vl 4294967296 (ys.take j)) + 4294967296 ^ (i + j) * (xs.getD i 0 * ys.getD j 0) := by
      rw [Nat.mul_add, Nat.mul_add, Nat.pow_add]
      congr 1
      rw [Nat.mul_assoc, Nat.mul_left_comm (xs.getD i 0)]
    rw [hp, hd]
    omega

theorem mulO_step {xs ys ps : List Nat} {i c : Nat} (h : MulI xs ys ps i ys.length c) (hi : i < xs.length) : MulO xs ys (ps.set (i + ys.length) c) (i + 1) := by
  obtain ⟨h1, h2, h3, h4, h5⟩ := h
  have hl : i + ys.length < ps.length := by omega
  refine ⟨by simpa using h1, Dg.small_set h2 _ _ h3, fun k hk => ?_, ?_⟩
  · rw [Dg.getD_set _ _ _ _ hl, if_neg (by omega)]; exact h4 k (by omega)
  · have hs := Dg.vl_set 4294967296 ps (i + ys.length) c hl
    rw [h4 _ (Nat.le_refl _)] at hs
    rw [Dg.vl_take_succ _ _ _ hi, Nat.add_mul, Nat.mul_assoc]
    rw [List.take_of_length_le (Nat.le_refl _)] at h5
    omega

theorem mul_bound {x y : Nat} (hx : x < 4294967296) (hy : y < 4294967296) : x * y ≤ 18446744065119617025 := by
  have := Nat.mul_le_mul (Nat.le_sub_one_of_lt hx) (Nat.le_sub_one_of_lt hy)
  simpa using this

theorem cast_mod (c x y p : Nat) : ((c : Int) + ((x : Int) * (y : Int) + (p : Int))) % 4294967296 = (((c + (x * y + p)) % 4294967296 : Nat) : Int) := by
  rw [← Int.natCast_mul]; omega
theorem cast_div (c x y p : Nat) : ((c : Int) + ((x : Int) * (y : Int) + (p : Int))) / 4294967296 = (((c + (x * y + p)) / 4294967296 : Nat) : Int) := by
  rw [← Int.natCast_mul]; omega

/-- What trim leaves of the call's own row. -/
theorem own_trim {w : World} {base e : Nat} {k : IntKind} {g n cap m : Nat} {zs : List Nat} (B : Nat) (hB : 2 ≤ B) (h : Own w base e k (.slice (some ⟨g, 0, none⟩) n cap) zs) (hs : Dg.Small B zs) (ht : TrimR zs m) :
    Own w base e k (.slice (some ⟨g, 0, none⟩) m cap) (Dg.dg B (Dg.vl B zs)) := by
  rw [← Dg.trim_eq B hB zs m hs ht.1 ht.2.1 ht.2.2]
  exact h.take m ht.1

end Go.Proofs.YtgbccbmflokooaaGreatDoor
/-
  Contracts of nat.wrong (one number, two numbers) and nat.short.
-/
namespace Go.Proofs.YtgbccbmflokooaaGreatDoor
open Go.RowKit

/-- What is wrong with the first of two with which something is. -/
def chk2 (xs ys : List Nat) : Int := if chk xs = 0 then chk ys else chk xs

/-- A number of at most 1200 digits, or ErrMany. -/
def capd (n : Nat) : List Nat × Int := if (Dg.dg 4294967296 n).length ≤ 1200 then (Dg.dg 4294967296 n, 0) else ([], 2)

/-- What a call answers that is handed numbers: what is wrong with them, or a number. -/
def natR (c : Int) (n : Nat) : List Nat × Int := if c = 0 then capd n else ([], c)

/-- The call answers a number and an errno. -/
def Ans (w : World) (r : List Nat × Int) (e : Ending) (w' : World) : Prop :=
  ∃ v, e = .returned (.tuple #[v, .int .i64 r.2]) ∧ Own w' w.heap.size 84 .u32 v r.1 ∧ Below w.heap.size w w'

/-- The call answers a number. -/
def Num (w : World) (n : Nat) (e : Ending) (w' : World) : Prop :=
  ∃ v, e = .returned v ∧ Own w' w.heap.size 84 .u32 v (Dg.dg 4294967296 n) ∧ Below w.heap.size w w'

end Go.Proofs.YtgbccbmflokooaaGreatDoor
/-
  Contracts of bits.Div32, Copy, divideBy.
-/
namespace Go.Proofs.YtgbccbmflokooaaGreatDoor
open Go.RowKit

theorem or_join (hi lo : Nat) (h1 : hi < 4294967296) (h2 : lo < 4294967296) : bits .or .u64 ((hi : Int) * 4294967296) (lo : Int) = ((hi * 4294967296 + lo : Nat) : Int) := by
  have e : ((hi : Int) * 4294967296) = ((hi * 4294967296 : Nat) : Int) := by omega
  rw [e, u64_or_nat _ _ (by omega) (by omega)]
  have := nat_join 32 (hi * 4294967296) lo (by omega) (by omega)
  rw [this]

theorem div_small {t y : Nat} {hi lo : Nat} (h1 : hi < y) (h2 : lo < 4294967296) (ht : t = hi * 4294967296 + lo) : t / y < 4294967296 := by
  rw [Nat.div_lt_iff_lt_mul (by omega)]
  have : (hi + 1) * 4294967296 ≤ y * 4294967296 := Nat.mul_le_mul_right _ h1
  rw [Nat.mul_comm 4294967296 y]
  omega

set_option maxRecDepth 100000 in
set_option maxHeartbeats 800000 in
theorem div32_any (hi lo y : Nat) (w : World) (h1 : hi < y) (h2 : lo < 4294967296) (h3 : y < 4294967296) :
    Calls Tryz.prog 153 #[.int .u32 hi, .int .u32 lo, .int .u32 y] w fun e w' => e = .returned (.tuple #[.int .u32 ((hi * 4294967296 + lo) / y : Nat), .int .u32 ((hi * 4294967296 + lo) % y : Nat)]) ∧ Below w.heap.size w w' := by
  have hor := or_join hi lo (by omega) h2
  obtain ⟨t, ht⟩ : ∃ t, hi * 4294967296 + lo = t := ⟨_, rfl⟩
  have hq1 := div_small h1 h2 ht.symm
  have htb : t < 18446744073709551616 := by omega
  rw [ht] at hor ⊢
  have hr1 : t % y < y := Nat.mod_lt _ (by omega)
  obtain ⟨q, hq⟩ : ∃ q, t / y = q := ⟨_, rfl⟩
  obtain ⟨r, hr⟩ : ∃ r, t % y = r := ⟨_, rfl⟩
  have hqI : (t : Int) / (y : Int) = (q : Int) := by rw [← hq]; exact (Int.natCast_ediv t y).symm
  have hrI : (t : Int) % (y : Int) = (r : Int) := by rw [← hr]; exact (Int.natCast_emod t y).symm
  rw [hq] at hq1 ⊢
  rw [hr] at hr1 ⊢
  clear hq hr ht
  have hd : decide (y ≤ hi) = false := by simp; omega
  have hy : ((y : Int) != 0) = true := by rw [bne_iff_ne]; omega
  go_enter Tryz.func153, Tryz.ntmps153
  go_wp2
  go_quiet (fail)
  go_wp2
  go_ret2
  exact ⟨rfl, below_drewN (Below.refl _ _) _⟩

theorem Own.heap {w : World} {base e : Nat} {k : IntKind} {g n : Nat} {zs : List Nat} (h : Own w base e k (.slice (some ⟨g, 0, none⟩) n n) zs) :
    w.heap[g]? = some (.cells (zs.map (fun n : Nat => Value.int k (n : Int))).toArray e (0, 0)) := by
  have hn := h.len
  subst hn
  rcases h.2 with ⟨hv, _⟩ | ⟨g', cap', cur, hv, hb, hh, hnc, hcm, hcs, htake⟩
  · simp at hv
  · simp only [Value.slice.injEq, Option.some.injEq, Addr.mk.injEq, and_true, true_and] at hv
    obtain ⟨rfl, rfl⟩ := hv
    rw [hh, ← htake, List.take_of_length_le (by rw [Array.length_toList, hcs]; omega)]

theorem own_of_heap {w : World} {base e : Nat} {k : IntKind} {g : Nat} {zs : List Nat} (h : w.heap[g]? = some (.cells (zs.map (fun n : Nat => Value.int k (n : Int))).toArray e (0, 0))) (hb : base ≤ g) (hm : zs.length ≤ maxLen) :
    Own w base e k (.slice (some ⟨g, 0, none⟩) zs.length zs.length) zs := by
  refine ⟨by simp, .inr ⟨g, _, _, rfl, hb, h, Nat.le_refl _, hm, by simp, ?_⟩⟩
  simp only [Nat.mul_one]
  exact List.take_of_length_le (by simp)

theorem addr_add (b off j : Nat) : (⟨b, off, none⟩ : Addr).add j = ⟨b, off + j, none⟩ := by
  simp only [Addr.add]
  split
  · rename_i h; subst h; rfl
  · rfl

theorem setRow_same (w : World) (g : Nat) (old cs : Array Value) (t : TypeId) (hg : w.heap[g]? = some (.cells old t (0, 0))) : (w.setRow g cs).heap[g]? = some (.cells cs t (0, 0)) := by
  simp [World.setRow, Array.getElem?_modify, hg]

theorem getD_map_cell (k : IntKind) (zs : List Nat) (j : Nat) (hj : j < zs.length) : (zs.map (fun n : Nat => Value.int k (n : Int)))[j]? = some (.int k ((zs.getD j 0 : Nat) : Int)) := by
  rw [List.getElem?_map, List.getElem?_eq_getElem hj]
  simp [List.getD_eq_getElem?_getD, hj]

/-- copy(dst, src), dst the call's own and at least as long. -/
theorem copy_run {P : Program} {w : World} {base e : Nat} {k : IntKind} {g n m cap : Nat} {ao : Option Addr} {ds zs : List Nat} (dT sT ty : Nat) (hu : P.underlying dT = some (.slice e)) (hsz : (P.info? e).map (·.size) = some 1)
    (ho : Own w base e k (.slice (some ⟨g, 0, none⟩) n n) ds) (hr : Rd w k (.slice ao m cap) zs) (hle : zs.length ≤ ds.length) :
    ∃ w1, (Builtin.copy_ #[dT, sT] ty #[.slice (some ⟨g, 0, none⟩) n n, .slice ao m cap]).run P w = .ok (.int .i64 (m : Int)) w1 ∧ Own w1 base e k (.slice (some ⟨g, 0, none⟩) n n) (zs ++ ds.drop zs.length) ∧ w.grownBy w1 (some g) := by
  have hn := ho.len
  have hm := rd_len hr
  subst hn hm
  have hh := ho.heap
  have hbl := ho.block
  have hml : ds.length ≤ maxLen := by
    rcases ho.2 with ⟨hv, _⟩ | ⟨g', cap', cur, hv, hb, hh, hnc, hcm, hcs, htake⟩
    · simp at hv
    · omega
  by_cases h0 : zs.length = 0
  · obtain rfl : zs = [] := List.eq_nil_of_length_eq_zero h0
    refine ⟨w, run_copy_none (P := P) w dT sT ty e _ _ _ _ _ _ hu hsz (by simp), by simpa using ho, ⟨rfl, rfl, rfl, Nat.le_refl _, fun _ _ _ => rfl⟩⟩
  · obtain ⟨-, -, hc⟩ := rd_open hr
    obtain ⟨b, off, rfl, hcell⟩ := hc (by omega)
    have hrun := run_copy_row (P := P) w dT sT ty e g 0 ds.length ds.length ⟨b, off, none⟩ zs.length cap _ e (zs.map (fun n : Nat => Value.int k (n : Int))) hu hsz hh (by rw [List.length_map]; exact (Nat.min_eq_left hle).symm)
      (by
        intro j u hj
        have hjl : j < zs.length := by have := (List.getElem?_eq_some_iff.1 hj).1; simpa using this
        rw [getD_map_cell k zs j hjl] at hj
        rw [addr_add, hcell j hjl]; exact hj)
      (by simpa using hle) (by intro u hu; simp at hu; obtain ⟨a, _, rfl⟩ := hu; rfl)
    refine ⟨w.setRow g (zs.map (fun n : Nat => Value.int k (n : Int)) ++ (ds.map (fun n : Nat => Value.int k (n : Int))).drop zs.length).toArray, by rw [hrun]; simp [goInt], ?_, ⟨rfl, rfl, rfl, by simp [World.setRow], fun j _ hj => setRow_other w g j _ (fun e => hj (by rw [e]))⟩⟩
    have hlen : (zs ++ ds.drop zs.length).length = ds.length := by simp; omega
    have := own_of_heap (w := w.setRow g (zs.map (fun n : Nat => Value.int k (n : Int)) ++ (ds.map (fun n : Nat => Value.int k (n : Int))).drop zs.length).toArray) (base := base) (e := e) (k := k) (g := g) (zs := zs ++ ds.drop zs.length)
      (by rw [setRow_same w g _ _ e hh]; simp [List.map_drop]) hbl.1 (by omega)
    rw [hlen] at this
    simpa using this

set_option maxRecDepth 100000 in
set_option maxHeartbeats 800000 in
theorem copy_any (v : Value) (zs : List Nat) (w : World) (h : Rd w .u32 v zs) (hl : zs.length ≤ 1000000) :
    Calls Tryz.prog 150 #[v] w fun e w' => e = .returned (.slice (some ⟨w.heap.size, 0, none⟩) zs.length zs.length) ∧ Own w' w.heap.size 84 .u32 (.slice (some ⟨w.heap.size, 0, none⟩) zs.length zs.length) zs ∧ Below w.heap.size w w' := by
  obtain ⟨i0, hi, hz0, hz1, hz2⟩ := info_parts Tryz.infoU32
  have hsz : (Tryz.prog.info? 84).map (·.size) = some 1 := by rw [hi]; simp [hz1]
  obtain ⟨ao, ca, rfl⟩ := h.shape
  go_enter Tryz.func150, Tryz.ntmps150
  go_wp2_with (at_make; refine wpList_make_full _ rfl _ _ 119 rfl w.heap.size 84 i0 (.int .u32 0) 1 Tryz.underlying119 hi hz0 hz1 _ _ _ _ zs.length rfl rfl (by omega) (by omega) ?b2 ?b3 (Nat.le_refl _) ?_)
  case b2 => rw [hz2]; omega
  case b3 => unfold maxLen; omega
  intro w0 hown0 hgrow0
  have own0 := own_made hown0
  have bel0 : Below w.heap.size w w0 := (Below.refl _ _).grown hgrow0 (Nat.le_refl _) (fun k h => by cases h)
  obtain ⟨w1, hrun, own1, gr1⟩ := copy_run 119 119 3 Tryz.underlying119 hsz own0 (h.later bel0) (by simp)
  have bel1 := bel0.grown gr1 bel0.size (fun k hk => by cases hk; exact Nat.le_refl _)
  clear hown0 hgrow0 hsz
  go_wp2
  go_ret
  refine ⟨rfl, ?_, bel1⟩
  have e : zs ++ (List.replicate zs.length 0).drop zs.length = zs := by simp
  rw [e] at own1
  exact own1
end Go.Proofs.YtgbccbmflokooaaGreatDoor
/-
  The contract of divideBy: the row is divided in its place by one digit.
-/
namespace Go.Proofs.YtgbccbmflokooaaGreatDoor
open Go.RowKit

theorem grown_of_below {w w' : World} (g : Option Nat) (h : Below w.heap.size w w') : w.grownBy w' g := ⟨h.os, h.tape, h.output, h.size, fun k hk _ => h.block k hk⟩
theorem grown_refl (w : World) (g : Option Nat) : w.grownBy w g := ⟨rfl, rfl, rfl, Nat.le_refl _, fun _ _ _ => rfl⟩
theorem grown_trans {w w1 w2 : World} {g : Option Nat} (h : w.grownBy w1 g) (k : w1.grownBy w2 g) : w.grownBy w2 g :=
  ⟨k.os.trans h.os, k.tape.trans h.tape, k.output.trans h.output, Nat.le_trans h.size k.size, fun i hi hne => (k.block i (Nat.lt_of_lt_of_le hi h.size) hne).trans (h.block i hi hne)⟩
theorem grown_set (w : World) (g j : Nat) (u : Value) : w.grownBy (w.setCell ⟨g, j, none⟩ u) (some g) :=
  ⟨rfl, rfl, rfl, by simp [World.setCell], fun k _ hk => Below.heap_setCell w ⟨g, j, none⟩ u k (fun e => hk (by rw [e]))⟩

/-- What the loop keeps: from k on it is divided. -/
def DivI (zs cur : List Nat) (d k r : Nat) : Prop :=
  cur.length = zs.length ∧ Dg.Small 4294967296 cur ∧ r < d ∧ (∀ j, j < k → cur.getD j 0 = zs.getD j 0) ∧ Dg.vl 4294967296 (zs.drop k) = Dg.vl 4294967296 (cur.drop k) * d + r

theorem drop_eq (l : List Nat) (k : Nat) (h : k < l.length) : l.drop k = l.getD k 0 :: l.drop (k + 1) := by
  rw [List.drop_eq_getElem_cons h]; simp [List.getD_eq_getElem?_getD, h]

theorem divI_step {zs cur : List Nat} {d k r t : Nat} (h : DivI zs cur d (k + 1) r) (hk : k < zs.length) (ht : t = r * 4294967296 + zs.getD k 0) (hd : 0 < d) (hq : t / d < 4294967296) :
    DivI zs (cur.set k (t / d)) d k (t % d) := by
  obtain ⟨h1, h2, h3, h4, h5⟩ := h
  refine ⟨by simpa using h1, Dg.small_set h2 _ _ hq, Nat.mod_lt _ hd, fun j hj => ?_, ?_⟩
  · rw [Dg.getD_set _ _ _ _ (by omega), if_neg (by omega)]; exact h4 j (by omega)
  · rw [drop_eq zs k hk, drop_eq (cur.set k (t / d)) k (by simpa using (by omega : k < cur.length)), Dg.getD_set _ _ _ _ (by omega), if_pos rfl, List.drop_set_of_lt (by omega)]
    simp only [Dg.vl]
    rw [h5]
    have := Nat.div_add_mod t d
    rw [Nat.add_mul, Nat.mul_comm (t / d) d, Nat.mul_assoc, Nat.mul_add]
    have e : r * 4294967296 = 4294967296 * r := Nat.mul_comm _ _
    omega

set_option maxRecDepth 100000 in
set_option maxHeartbeats 1600000 in
theorem divideBy_any (g n cap base : Nat) (zs : List Nat) (d : Nat) (w : World) (ho : Own w base 84 .u32 (.slice (some ⟨g, 0, none⟩) n cap) zs) (hs : Dg.Small 4294967296 zs) (hd : 0 < d) (hd2 : d < 4294967296) (hl : zs.length ≤ 1000000) :
    Calls Tryz.prog 151 #[.slice (some ⟨g, 0, none⟩) n cap, .int .u32 d] w fun e w' =>
      ∃ qs, e = .returned (.int .u32 ((Dg.vl 4294967296 zs % d : Nat) : Int)) ∧ Own w' base 84 .u32 (.slice (some ⟨g, 0, none⟩) n cap) qs ∧ qs.length = zs.length ∧ Dg.Small 4294967296 qs ∧ Dg.vl 4294967296 qs = Dg.vl 4294967296 zs / d ∧ w.grownBy w' (some g) := by
  have hn := ho.len
  subst hn
  go_enter Tryz.func151, Tryz.ntmps151
  go_wp2
  go_loopw [5, 6] (fun rv iv wr => ∃ (k r : Nat) (cur : List Nat), k ≤ zs.length ∧ iv = .int .i64 ((k : Int) - 1) ∧ rv = .int .u32 r ∧ Own wr base 84 .u32 (.slice (some ⟨g, 0, none⟩) zs.length cap) cur ∧ DivI zs cur d k r ∧ w.grownBy wr (some g))
    (fun _ iv _ => (intOf iv + 1).toNat)
  case atStart => exact ⟨zs.length, 0, zs, Nat.le_refl _, rfl, rfl, ho, ⟨rfl, hs, hd, fun _ _ => rfl, by simp [Dg.vl]⟩, grown_refl _ _⟩
  case round =>
    obtain ⟨k, r, cur, hk, rfl, rfl, own, hI, gr⟩ := hrel
    by_cases hk0 : k = 0
    · subst hk0
      go_wp2
      go_ret
      obtain ⟨h1, h2, h3, h4, h5⟩ := hI
      simp only [List.drop_zero] at h5
      have e1 : Dg.vl 4294967296 zs / d = Dg.vl 4294967296 cur := by
        rw [h5, Nat.mul_comm, Nat.mul_add_div hd, Nat.div_eq_of_lt h3]; omega
      have e2 : Dg.vl 4294967296 zs % d = r := by
        rw [h5, Nat.mul_comm, Nat.mul_add_mod, Nat.mod_eq_of_lt h3]
      exact ⟨cur, by rw [e2]; rfl, own, h1, h2, e1.symm, gr⟩
    · obtain ⟨m, rfl⟩ : ∃ m, k = m + 1 := ⟨k - 1, by omega⟩
      have hlen := hI.1
      have hz := own.cell m (by omega)
      have hf := own.free m
      have hr := hI.2.2.1
      have hzs := hs m
      rw [hI.2.2.2.1 m (by omega)] at hz
      obtain ⟨z, ez⟩ : ∃ z, zs.getD m 0 = z := ⟨_, rfl⟩
      rw [ez] at hz hzs
      have Hz : Hid (zs.getD m 0 = z) := ez
      clear ez
      have hq := div_small (t := r * 4294967296 + z) hr hzs rfl
      go_wp2_with fail
      refine (div32_any r z d wr hr hzs hd2).mono ?_
      rintro e w1 ⟨rfl, bel⟩
      have own1 := own.later bel
      have hz1 := own1.cell m (by omega)
      have hf1 := own1.free m
      have gr1 := grown_trans gr (grown_of_below (some g) bel)
      go_wp2
      go_roundw
      case rel => exact ⟨m, _, _, by omega, by go_num, rfl, own1.store m _, divI_step hI (by omega) (by rw [Hz.out]) hd hq, grown_trans gr1 (grown_set _ _ _ _)⟩
      case measure => simp [intOf]
end Go.Proofs.YtgbccbmflokooaaGreatDoor
/-
  The contract of slices.Reverse over bytes: the row is turned round in its place.
-/
namespace Go.Proofs.YtgbccbmflokooaaGreatDoor
open Go.RowKit

theorem grown_drew (w : World) (g : Option Nat) : w.grownBy w.drew g := ⟨rfl, rfl, rfl, Nat.le_refl _, fun _ _ _ => rfl⟩

/-- i of each end are turned. -/
def RevI (zs cur : List Nat) (i : Nat) : Prop :=
  cur.length = zs.length ∧ 2 * i ≤ zs.length + 1 ∧ ∀ k, k < zs.length → cur.getD k 0 = if k < i ∨ zs.length - 1 - i < k then zs.getD (zs.length - 1 - k) 0 else zs.getD k 0

theorem revI_step {zs cur : List Nat} {i : Nat} (h : RevI zs cur i) (hi : i < zs.length - 1 - i) : RevI zs ((cur.set i (cur.getD (zs.length - 1 - i) 0)).set (zs.length - 1 - i) (cur.getD i 0)) (i + 1) := by
  obtain ⟨h1, h2, h3⟩ := h
  refine ⟨by simpa using h1, by omega, fun k hk => ?_⟩
  rw [Dg.getD_set _ _ _ _ (by simp; omega), Dg.getD_set _ _ _ _ (by omega)]
  by_cases e1 : zs.length - 1 - i = k
  · rw [if_pos e1, if_pos (by omega), h3 i (by omega), if_neg (by omega)]
    rw [← e1, show zs.length - 1 - (zs.length - 1 - i) = i from by omega]
  · rw [if_neg e1]
    by_cases e2 : i = k
    · rw [if_pos e2, if_pos (by omega), h3 _ (by omega), if_neg (by omega), ← e2]
    · rw [if_neg e2, h3 k hk]
      by_cases e3 : k < i ∨ zs.length - 1 - i < k
      · rw [if_pos e3, if_pos (by omega)]
      · rw [if_neg e3, if_neg (by omega)]

theorem revI_end {zs cur : List Nat} {i : Nat} (h : RevI zs cur i) (hi : ¬ i < zs.length - 1 - i) : cur = zs.reverse := by
  obtain ⟨h1, h2, h3⟩ := h
  apply List.ext_getElem (by simpa using h1)
  intro k hk1 hk2
  have hk : k < zs.length := by omega
  have := h3 k hk
  have e1 : cur.getD k 0 = cur[k] := by simp [List.getD_eq_getElem?_getD, hk1]
  have e2 : zs.reverse[k] = zs.getD (zs.length - 1 - k) 0 := by
    rw [List.getElem_reverse]
    simp [List.getD_eq_getElem?_getD, show zs.length - 1 - k < zs.length from by omega]
  rw [← e1, this, e2]
  by_cases e3 : k < i ∨ zs.length - 1 - i < k
  · rw [if_pos e3]
  · rw [if_neg e3, show zs.length - 1 - k = k from by omega]

set_option maxRecDepth 100000 in
set_option maxHeartbeats 3200000 in
theorem reverse_any (g n cap base : Nat) (zs : List Nat) (w : World) (ho : Own w base 5 .u8 (.slice (some ⟨g, 0, none⟩) n cap) zs) (hl : zs.length ≤ 1000000000) :
    Calls Tryz.prog 99 #[.slice (some ⟨g, 0, none⟩) n cap] w fun e w' =>
      e = .returned (.tuple #[]) ∧ Own w' base 5 .u8 (.slice (some ⟨g, 0, none⟩) n cap) zs.reverse ∧ w.grownBy w' (some g) := by
  have hn := ho.len
  subst hn
  go_enter Tryz.func99, Tryz.ntmps99
  go_wp2
  go_loopw [2, 3] (fun iv jv wr => ∃ (i : Nat) (cur : List Nat), iv = .int .i64 i ∧ jv = .int .i64 ((zs.length : Int) - 1 - i) ∧ Own wr base 5 .u8 (.slice (some ⟨g, 0, none⟩) zs.length cap) cur ∧ RevI zs cur i ∧ w.grownBy wr (some g))
    (fun iv jv _ => (intOf jv + 1 - intOf iv).toNat)
  case atStart => exact ⟨0, zs, rfl, by go_num, ho, ⟨rfl, by omega, fun k hk => by rw [if_neg (by omega)]⟩, grown_refl _ _⟩
  case round =>
    obtain ⟨i, cur, rfl, rfl, own, hI, gr⟩ := hrel
    have h1 := hI.1
    have h2 := hI.2.1
    by_cases hij : i < zs.length - 1 - i
    · obtain ⟨j, hj⟩ : ∃ j, zs.length - 1 - i = j := ⟨_, rfl⟩
      have hjI : (zs.length : Int) - 1 - i = (j : Int) := by omega
      have ci := own.cell i (by omega)
      have cj := own.cell j (by omega)
      have fi := own.free i
      have fj := own.free j
      have hst := revI_step hI hij
      rw [hj] at hst hij
      rw [hjI]
      have hjl : j < zs.length := by omega
      have Hj : Hid ((zs.length : Int) - 1 - i = (j : Int)) := hjI
      obtain ⟨x, ex⟩ : ∃ x, cur.getD i 0 = x := ⟨_, rfl⟩
      obtain ⟨y, ey⟩ : ∃ y, cur.getD j 0 = y := ⟨_, rfl⟩
      rw [ex] at ci hst
      rw [ey] at cj hst
      clear hj hjI ex ey hI
      go_wp2
      go_region
      all_goals go_wp2
      all_goals go_roundw
      case rel => exact ⟨i + 1, _, by go_num, by have := Hj.out; go_num, (own.store i y).store j x, hst, grown_trans (grown_trans gr (grown_set _ _ _ _)) ((grown_trans (grown_set _ _ _ _) (grown_drew _ _)))⟩
      case measure => have := Hj.out; simp [intOf]; omega
    · have hd : ¬ ((i : Int) < (zs.length : Int) - 1 - i) := by omega
      go_wp2
      go_end0
      rw [← revI_end hI hij]
      exact ⟨rfl, own, gr⟩
end Go.Proofs.YtgbccbmflokooaaGreatDoor

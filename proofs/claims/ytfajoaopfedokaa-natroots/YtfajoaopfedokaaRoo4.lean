/-
  Contracts of nat.Root and of the reference's Power; the law NatRoots.
-/
import Derived.Test.YtfajoaopfedokaaRoo3
import Derived.Test.YtfajoaopfedokaaLaws4
namespace Go.Proofs.Ytfajoaopfedokaa
open Go.RowKit

/-- What is wrong with a number, or with which root is asked for. -/
def rootE (xs : List Nat) (k : Int) : Int := if chk xs = 0 then (if k < 1 ∨ 10 < k then 3 else 0) else chk xs

theorem rootE_zero {xs : List Nat} {k : Int} (h : rootE xs k = 0) : chk xs = 0 ∧ 1 ≤ k ∧ k ≤ 10 := by
  unfold rootE at h
  by_cases h1 : chk xs = 0
  · rw [if_pos h1] at h
    by_cases h2 : k < 1 ∨ 10 < k
    · rw [if_pos h2] at h; omega
    · exact ⟨h1, by omega, by omega⟩
  · rw [if_neg h1] at h; exact absurd h h1

set_option maxRecDepth 100000 in
set_option maxHeartbeats 800000 in
theorem root_no (va : Value) (xs : List Nat) (k : Int) (w : World) (ha : Rd w .u32 va xs) (hn : rootE xs k ≠ 0) :
    Calls Try.prog 7 #[va, .int .i64 k] w fun e w' => e = .returned (.tuple #[.slice none 0 0, .int .i64 (rootE xs k)]) ∧ Below w.heap.size w w' := by
  obtain ⟨ao, ca, rfl⟩ := ha.shape
  have b1 : Below w.heap.size w (w.alloc (.cells #[.slice ao xs.length ca] 23)) := (Below.refl _ _).alloc (Nat.le_refl _) _
  have hw := wrong1_any w.heap.size _ xs (w.alloc (.cells #[.slice ao xs.length ca] 23)) (by rw [World.cell?_alloc_at _ _ _ _ rfl]; rfl) (ha.later b1)
  unfold rootE at hn ⊢
  obtain ⟨c, hc⟩ : ∃ c, chk xs = c := ⟨_, rfl⟩
  rw [hc] at hw hn ⊢
  clear hc
  by_cases h : c = 0
  · subst h
    rw [if_pos rfl] at hn ⊢
    by_cases hr : k < 1 ∨ 10 < k
    · rw [if_pos hr]
      clear hn
      rcases hr with hr | hr
      · go_enter Try.func7, Try.ntmps7
        go_wp2_with fail
        refine hw.mono ?_
        rintro e w' ⟨rfl, rfl⟩
        go_wp2
        go_ret2
        exact ⟨rfl, b1⟩
      · have hr2 : ¬ k < 1 := by omega
        go_enter Try.func7, Try.ntmps7
        go_wp2_with fail
        refine hw.mono ?_
        rintro e w' ⟨rfl, rfl⟩
        go_wp2
        go_ret2
        exact ⟨rfl, b1⟩
    · rw [if_neg hr] at hn
      exact absurd rfl hn
  · rw [if_neg h]
    clear hn
    go_enter Try.func7, Try.ntmps7
    go_wp2_with fail
    refine hw.mono ?_
    rintro e w' ⟨rfl, rfl⟩
    go_wp2
    go_ret2
    exact ⟨rfl, b1⟩

/-- nat.Root answers a root. -/
def RootR (w : World) (a k : Nat) (e : Ending) (w' : World) : Prop :=
  ∃ x v, e = .returned (.tuple #[v, .int .i64 0]) ∧ IsRoot a k x ∧ Own w' w.heap.size 36 .u32 v (Dg.dg 4294967296 x) ∧ Below w.heap.size w w'

theorem dg_len_mono32 {x y : Nat} (h : x ≤ y) : (Dg.dg 4294967296 x).length ≤ (Dg.dg 4294967296 y).length :=
  Dg.dg_len_le 4294967296 _ _ (by omega) (Nat.lt_of_le_of_lt h (lt_pow_of_len (Nat.le_refl _)))

set_option maxRecDepth 100000 in
set_option maxHeartbeats 800000 in
theorem root_yes (va : Value) (xs : List Nat) (k : Nat) (w : World) (ha : Rd w .u32 va xs) (sa : Dg.Small 4294967296 xs) (hz : chk xs = 0) (hk1 : 1 ≤ k) (hk2 : k ≤ 10) :
    Calls Try.prog 7 #[va, .int .i64 k] w (RootR w (Dg.vl 4294967296 xs) k) := by
  obtain ⟨nx, lx⟩ := chk_zero hz
  have hx := Dg.eq_dg 4294967296 (by omega) xs _ sa nx rfl
  obtain ⟨ao, ca, rfl⟩ := ha.shape
  have b1 : Below w.heap.size w (w.alloc (.cells #[.slice ao xs.length ca] 23)) := (Below.refl _ _).alloc (Nat.le_refl _) _
  have hw := wrong1_any w.heap.size _ xs (w.alloc (.cells #[.slice ao xs.length ca] 23)) (by rw [World.cell?_alloc_at _ _ _ _ rfl]; rfl) (ha.later b1)
  have hrt := root_any (.slice ao xs.length ca) (Dg.vl 4294967296 xs) k _ (by rw [← hx]; exact ha.later b1) hk1 hk2 (by rw [← hx]; omega)
  have HLE : Hid (∀ x, IsRoot (Dg.vl 4294967296 xs) k x → (Dg.dg 4294967296 x).length ≤ 1200) := fun x h => by
    have := dg_len_mono32 (root_le (by omega) h)
    rw [← hx] at this
    omega
  obtain ⟨a, haa⟩ : ∃ a, Dg.vl 4294967296 xs = a := ⟨_, rfl⟩
  rw [haa] at hrt HLE ⊢
  rw [hz] at hw
  have h1 : ¬ (k : Int) < 1 := by omega
  have h2 : ¬ 10 < (k : Int) := by omega
  clear hx haa hz nx lx sa ha
  go_enter Try.func7, Try.ntmps7
  go_wp2_with fail
  refine hw.mono ?_
  rintro e w' ⟨rfl, rfl⟩
  go_wp2_with fail
  refine hrt.mono ?_
  rintro e w2 ⟨x, v, rfl, hroot, hown, hbel⟩
  have b2 := below_trans b1 hbel
  have own2 := hown.lower b1.size
  have hl := HLE.out x hroot
  go_wp2_with fail
  refine (short_yes v _ w2 own2.rd hl).mono ?_
  rintro e w3 ⟨rfl, rfl⟩
  go_wp2
  go_ret2
  exact ⟨x, _, rfl, hroot, own2, b2⟩

theorem pow_len16 {n L j : Nat} (h : n < 65536 ^ L) : (Dg.dg 65536 (n ^ j)).length ≤ L * j + 1 := by
  refine Dg.dg_len_le 65536 _ _ (by omega) ?_
  rw [Nat.pow_succ, Nat.pow_mul]
  have h1 : n ^ j ≤ (65536 ^ L) ^ j := Nat.pow_le_pow_left (by omega) j
  have h2 : 0 < (65536 ^ L) ^ j := Nat.pow_pos (Nat.pow_pos (by omega))
  omega

theorem dg16_one : Dg.dg 65536 1 = [1] := rfl

set_option maxRecDepth 100000 in
set_option maxHeartbeats 800000 in
theorem refpower_any (va : Value) (n k L : Nat) (w : World) (ha : Rd w .i64 va (Dg.dg 65536 n)) (hL : n < 65536 ^ L) (hLl : L ≤ 10000) (hk : k ≤ 10) :
    Calls Try.prog 12 #[va, .int .i64 k] w (RNum w (n ^ k)) := by
  have HT : Hid (∀ j v wr, j ≤ k → Below w.heap.size w wr → Rd wr .i64 v (Dg.dg 65536 (n ^ j)) → Calls Try.prog 23 #[v, va] wr (RNum wr (n ^ (j + 1)))) := fun j v wr hj b r => by
    have hp := pow_len16 (j := j) hL
    have hlj : L * j ≤ 10000 * 10 := Nat.mul_le_mul hLl (by omega)
    have hnl : (Dg.dg 65536 n).length ≤ L := Dg.dg_len_le 65536 n L (by omega) hL
    have := reftimes_any v va _ _ wr r (ha.later b) (Dg.small_dg _ _ (by omega)) (Dg.small_dg _ _ (by omega)) (by omega) (by omega)
    rw [Dg.vl_dg _ _ (by omega), Dg.vl_dg _ _ (by omega), ← Nat.pow_succ] at this
    exact this
  have r1 := rd_new (w := w) (k := .i64) (e := 3) [1] #[.int .i64 ((1 : Nat) : Int)] rfl (by unfold maxLen; simp)
  have b1 : Below w.heap.size w (w.alloc (.cells #[.int .i64 ((1 : Nat) : Int)] 3)) := (Below.refl _ _).alloc (Nat.le_refl _) _
  obtain ⟨ao, ca, rfl⟩ := ha.shape
  obtain ⟨ma, hma⟩ : ∃ m, (Dg.dg 65536 n).length = m := ⟨_, rfl⟩
  rw [hma] at HT ⊢
  clear ha hma
  go_enter Try.func12, Try.ntmps12
  go_wp2
  go_loopw [5, 1] (fun pv iv wr => ∃ j i : Nat, j + i = k ∧ iv = .int .i64 i ∧ Rd wr .i64 pv (Dg.dg 65536 (n ^ j)) ∧ Below w.heap.size w wr) (fun _ iv _ => (intOf iv).toNat)
  case atStart => exact ⟨0, k, by omega, rfl, r1, b1⟩
  case round =>
    clear r1 b1
    obtain ⟨j, i, hj, rfl, rd, bel⟩ := hrel
    by_cases hlt : 0 < i
    · go_wp2_with fail
      refine (HT.out j _ _ (by omega) bel rd).mono ?_
      rintro e w2 ⟨v2, rfl, r2, b2⟩
      have b3 := below_trans bel b2
      go_wp2
      go_roundw
      case rel => exact ⟨j + 1, i - 1, by omega, by go_num, r2, b3⟩
      case measure => simp [intOf]; omega
    · have hjk : j = k := by omega
      subst hjk
      go_wp2
      go_ret
      exact ⟨_, rfl, rd, bel⟩
end Go.Proofs.Ytfajoaopfedokaa

/-
  Contracts of nat.Root and of the reference's Power; the law NatRoots.
-/
import Derived.Test.YtmjhlflemfkflaaRoo3
import Derived.Test.YtmjhlflemfkflaaLaws4
namespace Go.Proofs.Ytmjhlflemfkflaa
open Go.RowKit

/-- What is wrong with a number, or with which root is asked for. -/
def rootE (xs : List Nat) (k : Int) : Int := if chk xs = 0 then (if k < 1 ∨ 10 < k then 3 else 0) else chk xs

theorem rootE_zero {xs : List Nat} {k : Int} (h : rootE xs k = 0) : chk xs = 0 ∧ 1 ≤ k ∧ k ≤ 10 := by
  unfold rootE at h
  by_cases h1 : chk xs = 0
  · rw [if_pos h1] at h
    by_cases h2 : k < 1 ∨ 10 < k
    · rw [if_pos h2] at h; omega
    · exact ⟨h1, by omega, by omega⟩
  · rw [if_neg h1] at h; exact absurd h h1

set_option maxRecDepth 100000 in
set_option maxHeartbeats 800000 in
theorem root_no (va : Value) (xs : List Nat) (k : Int) (w : World) (ha : Rd w .u32 va xs) (hn : rootE xs k ≠ 0) :
    Calls Try.prog 13 #[va, .int .i64 k] w fun e w' => e = .returned (.tuple #[.slice none 0 0, .int .i64 (rootE xs k)]) ∧ Below w.heap.size w w' := by
  obtain ⟨ao, ca, rfl⟩ := ha.shape
  have b1 : Below w.heap.size w (w.alloc (.cells #[.slice ao xs.length ca] 23)) := (Below.refl _ _).alloc (Nat.le_refl _) _
  have hw := wrong1_any w.heap.size _ xs (w.alloc (.cells #[.slice ao xs.length ca] 23)) (by rw [World.cell?_alloc_at _ _ _ _ rfl]; rfl) (ha.later b1)
  unfold rootE at hn ⊢
  obtain ⟨c, hc⟩ : ∃ c, chk xs = c := ⟨_, rfl⟩
  rw [hc] at hw hn ⊢
  clear hc
  by_cases h : c = 0
  · subst h
    rw [if_pos rfl] at hn ⊢
    by_cases hr : k < 1 ∨ 10 < k
    · rw [if_pos hr]
      clear hn
      rcases hr with hr | hr
      · go_enter Try.func13, Try.ntmps13
        go_wp2_with fail
        refine hw.mono ?_
        rintro e w' ⟨rfl, rfl⟩
        go_wp2
        go_ret2
        exact ⟨rfl, b1⟩
      · have hr2 : ¬ k < 1 := by omega
        go_enter Try.func13, Try.ntmps13
        go_wp2_with fail
        refine hw.mono ?_
        rintro e w' ⟨rfl, rfl⟩
        go_wp2
        go_ret2
        exact ⟨rfl, b1⟩
    · rw [if_neg hr] at hn
      exact absurd rfl hn
  · rw [if_neg h]
    clear hn
    go_enter Try.func13, Try.ntmps13
    go_wp2_with fail
    refine hw.mono ?_
    rintro e w' ⟨rfl, rfl⟩
    go_wp2
    go_ret2
    exact ⟨rfl, b1⟩

/-- nat.Root answers a root. -/
def RootR (w : World) (a k : Nat) (e : Ending) (w' : World) : Prop :=
  ∃ x v, e = .returned (.tuple #[v, .int .i64 0]) ∧ IsRoot a k x ∧ Own w' w.heap.size 26 .u32 v (Dg.dg 4294967296 x) ∧ Below w.heap.size w w'

theorem dg_len_mono32 {x y : Nat} (h : x ≤ y) : (Dg.dg 4294967296 x).length ≤ (Dg.dg 4294967296 y).length :=
  Dg.dg_len_le 4294967296 _ _ (by omega) (Nat.lt_of_le_of_lt h (lt_pow_of_len (Nat.le_refl _)))

set_option maxRecDepth 100000 in
set_option maxHeartbeats 800000 in
theorem root_yes (va : Value) (xs : List Nat) (k : Nat) (w : World) (ha : Rd w .u32 va xs) (sa : Dg.Small 4294967296 xs) (hz : chk xs = 0) (hk1 : 1 ≤ k) (hk2 : k ≤ 10) :
    Calls Try.prog 13 #[va, .int .i64 k] w (RootR w (Dg.vl 4294967296 xs) k) := by
  obtain ⟨nx, lx⟩ := chk_zero hz
  have hx := Dg.eq_dg 4294967296 (by omega) xs _ sa nx rfl
  obtain ⟨ao, ca, rfl⟩ := ha.shape
  have b1 : Below w.heap.size w (w.alloc (.cells #[.slice ao xs.length ca] 23)) := (Below.refl _ _).alloc (Nat.le_refl _) _
  have hw := wrong1_any w.heap.size _ xs (w.alloc (.cells #[.slice ao xs.length ca] 23)) (by rw [World.cell?_alloc_at _ _ _ _ rfl]; rfl) (ha.later b1)
  have hrt := root_any (.slice ao xs.length ca) (Dg.vl 4294967296 xs) k _ (by rw [← hx]; exact ha.later b1) hk1 hk2 (by rw [← hx]; omega)
  have HLE : Hid (∀ x, IsRoot (Dg.vl 4294967296 xs) k x → (Dg.dg 4294967296 x).length ≤ 1200) := fun x h => by
    have := dg_len_mono32 (root_le (by omega) h)
    rw [← hx] at this
    omega
  obtain ⟨a, haa⟩ : ∃ a, Dg.vl 4294967296 xs = a := ⟨_, rfl⟩
  rw [haa] at hrt HLE ⊢
  rw [hz] at hw
  have h1 : ¬ (k : Int) < 1 := by omega
  have h2 : ¬ 10 < (k : Int) := by omega
  clear hx haa hz nx lx sa ha
  go_enter Try.func13, Try.ntmps13
  go_wp2_with fail
  refine hw.mono ?_
  rintro e w' ⟨rfl, rfl⟩
  go_wp2_with fail
  refine hrt.mono ?_
  rintro e w2 ⟨x, v, rfl, hroot, hown, hbel⟩
  have b2 := below_trans b1 hbel
  have own2 := hown.lower b1.size
  have hl := HLE.out x hroot
  go_wp2_with fail
  refine (short_yes v _ w2 own2.rd hl).mono ?_
  rintro e w3 ⟨rfl, rfl⟩
  go_wp2
  go_ret2
  exact ⟨x, _, rfl, hroot, own2, b2⟩

theorem pow_len16 {n L j : Nat} (h : n < 65536 ^ L) : (Dg.dg 65536 (n ^ j)).length ≤ L * j + 1 := by
  refine Dg.dg_len_le 65536 _ _ (by omega) ?_
  rw [Nat.pow_succ, Nat.pow_mul]
  have h1 : n ^ j ≤ (65536 ^ L) ^ j := Nat.pow_le_pow_left (by omega) j
  have h2 : 0 < (65536 ^ L) ^ j := Nat.pow_pos (Nat.pow_pos (by omega))
  omega

theorem dg16_one : Dg.dg 65536 1 = [1] := rfl

end Go.Proofs.Ytmjhlflemfkflaa

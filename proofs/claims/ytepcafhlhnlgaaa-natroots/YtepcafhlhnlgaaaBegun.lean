/-
  Contracts of nat.Mul, nat.Print, and natBegun.
-/
import Derived.Test.YtepcafhlhnlgaaaDecW
namespace Go.Proofs.Ytepcafhlhnlgaaa
open Go.RowKit

theorem chk_zero {zs : List Nat} (h : chk zs = 0) : Dg.Norm zs ∧ zs.length ≤ 1200 := by
  unfold chk at h
  by_cases h1 : 0 < zs.length ∧ zs.getD (zs.length - 1) 0 = 0
  · rw [if_pos h1] at h; omega
  · rw [if_neg h1] at h
    by_cases h2 : 1200 < zs.length
    · rw [if_pos h2] at h; omega
    · refine ⟨fun hne e => h1 ⟨List.length_pos_iff.2 hne, e⟩, by omega⟩

theorem chk_of {zs : List Nat} (h : Dg.Norm zs) (hl : zs.length ≤ 1200) : chk zs = 0 := by
  unfold chk
  rw [if_neg (fun c => h (List.length_pos_iff.1 c.1) c.2), if_neg (by omega)]

theorem chk2_zero {xs ys : List Nat} (h : chk2 xs ys = 0) : chk xs = 0 ∧ chk ys = 0 := by
  unfold chk2 at h
  by_cases h1 : chk xs = 0
  · rw [if_pos h1] at h; exact ⟨h1, h⟩
  · rw [if_neg h1] at h; exact absurd h h1

theorem mul_nat (va vb : Value) (xs ys : List Nat) (w : World) (ha : Rd w .u32 va xs) (hb : Rd w .u32 vb ys) (sa : Dg.Small 4294967296 xs) (sb : Dg.Small 4294967296 ys) :
    Calls Try.prog 34 #[va, vb] w (Ans w (natR (chk2 xs ys) (Dg.vl 4294967296 xs * Dg.vl 4294967296 ys))) := by
  have hbo := both_times va vb xs ys (Dg.vl 4294967296 xs * Dg.vl 4294967296 ys) w ha hb (fun h w1 b1 => by
    have h2 := chk2_zero h
    have h3 := (chk_zero h2.1).2
    have h4 := (chk_zero h2.2).2
    exact times_any va vb xs ys w1 (ha.later b1) (hb.later b1) sa sb (by omega) (by omega))
  go_enter Try.func34, Try.ntmps34
  go_wp2_with fail
  refine hbo.mono ?_
  rintro e w' ⟨v, rfl, hown, hbel⟩
  go_wp2
  go_ret2
  exact ⟨_, rfl, hown, hbel⟩

/-- What Print answers. -/
def prS (zs : List Nat) : ByteArray := if chk zs = 0 then decS (Dg.vl 4294967296 zs) else ⟨#[]⟩

theorem print_nat (va : Value) (xs : List Nat) (w : World) (ha : Rd w .u32 va xs) (sa : Dg.Small 4294967296 xs) :
    Calls Try.prog 43 #[va] w fun e w' => e = .returned (.tuple #[.string (prS xs), .int .i64 (chk xs)]) ∧ Below w.heap.size w w' := by
  obtain ⟨ao, ca, rfl⟩ := ha.shape
  have b1 : Below w.heap.size w (w.alloc (.cells #[.slice ao xs.length ca] 23)) := (Below.refl _ _).alloc (Nat.le_refl _) _
  have hw := wrong1_any w.heap.size _ xs (w.alloc (.cells #[.slice ao xs.length ca] 23)) (by rw [World.cell?_alloc_at _ _ _ _ rfl]; rfl) (ha.later b1)
  unfold prS
  obtain ⟨c, hc⟩ : ∃ c, chk xs = c := ⟨_, rfl⟩
  by_cases h : c = 0
  · have hz := chk_zero (hc.trans h)
    rw [hc, h] at hw
    rw [hc, h, if_pos rfl]
    have hd := decimal_any _ xs _ (ha.later b1) sa hz.1 hz.2
    clear hc
    go_enter Try.func43, Try.ntmps43
    go_wp2_with fail
    refine hw.mono ?_
    rintro e w' ⟨rfl, rfl⟩
    go_wp2_with fail
    refine hd.mono ?_
    rintro e w2 ⟨rfl, bel⟩
    have b2 := below_trans b1 bel
    go_wp2
    go_ret2
    exact ⟨rfl, b2⟩
  · rw [hc] at hw
    rw [hc, if_neg h]
    clear hc
    go_enter Try.func43, Try.ntmps43
    go_wp2_with fail
    refine hw.mono ?_
    rintro e w' ⟨rfl, rfl⟩
    go_wp2
    go_ret2
    exact ⟨rfl, b1⟩

theorem rd_new {w : World} {k : IntKind} {e : Nat} (zs : List Nat) (cs : Array Value) (hcs : cs = (zs.map (fun n : Nat => Value.int k (n : Int))).toArray) (hl : zs.length ≤ maxLen) :
    Rd (w.alloc (.cells cs e)) k (.slice (some ⟨w.heap.size, 0, none⟩) zs.length zs.length) zs := by
  refine ⟨_, zs.length, rfl, Nat.le_refl _, hl, fun _ => ⟨w.heap.size, 0, rfl, fun i hi => ?_⟩⟩
  rw [World.cell?_alloc_at _ _ _ _ rfl, hcs, Nat.zero_add]
  simp only [List.getElem?_toArray]
  exact getD_map_cell k zs i hi

theorem begun_digits : Dg.dg 4294967296 12884901888 = [0, 3] :=
  (Dg.eq_dg 4294967296 (by omega) [0, 3] 12884901888 (Dg.small_cons.2 ⟨by omega, Dg.small_cons.2 ⟨by omega, Dg.small_nil _ (by omega)⟩⟩) (by intro _; decide) (by decide)).symm

theorem begun_dec : Dg.dg 10 12884901888 = [8, 8, 8, 1, 0, 9, 4, 8, 8, 2, 1] :=
  (Dg.eq_dg 10 (by omega) [8, 8, 8, 1, 0, 9, 4, 8, 8, 2, 1] 12884901888 (by
    repeat (first | exact Dg.small_nil _ (by omega) | refine Dg.small_cons.2 ⟨by omega, ?_⟩)) (by intro _; decide) (by decide)).symm

theorem begun_text : prS (Dg.dg 4294967296 12884901888) = ⟨#[49, 50, 56, 56, 52, 57, 48, 49, 56, 56, 56]⟩ := by
  unfold prS
  rw [chk_of (Dg.norm_dg _ _ (by omega)) (by rw [begun_digits]; decide), if_pos rfl, Dg.vl_dg _ _ (by omega)]
  unfold decS
  rw [if_neg (by omega), begun_dec]
  rfl

theorem begun_any (w : World) : Calls Try.prog 19 #[] w fun e w' => e = .returned (.bool true) ∧ Below w.heap.size w w' := by
  have b1 : Below w.heap.size w (w.alloc (.cells #[.int .u32 0, .int .u32 1] 58)) := (Below.refl _ _).alloc (Nat.le_refl _) _
  have b2 : Below (w.alloc (.cells #[.int .u32 0, .int .u32 1] 58)).heap.size (w.alloc (.cells #[.int .u32 0, .int .u32 1] 58)) ((w.alloc (.cells #[.int .u32 0, .int .u32 1] 58)).alloc (.cells #[.int .u32 3] 58)) := (Below.refl _ _).alloc (Nat.le_refl _) _
  have r1 := rd_new (w := w) (k := .u32) (e := 58) [0, 1] #[.int .u32 0, .int .u32 1] rfl (by unfold maxLen; simp)
  have r2 := rd_new (w := w.alloc (.cells #[.int .u32 0, .int .u32 1] 58)) (k := .u32) (e := 58) [3] #[.int .u32 3] rfl (by unfold maxLen; simp)
  have s1 : Dg.Small 4294967296 [0, 1] := Dg.small_cons.2 ⟨by omega, Dg.small_cons.2 ⟨by omega, Dg.small_nil _ (by omega)⟩⟩
  have s2 : Dg.Small 4294967296 [3] := Dg.small_cons.2 ⟨by omega, Dg.small_nil _ (by omega)⟩
  have hm := mul_nat _ _ _ _ _ (r1.later b2) r2 s1 s2
  have hr : natR (chk2 [0, 1] [3]) (Dg.vl 4294967296 [0, 1] * Dg.vl 4294967296 [3]) = (Dg.dg 4294967296 12884901888, 0) := by
    have e1 : chk2 [0, 1] [3] = 0 := by decide
    have e2 : Dg.vl 4294967296 [0, 1] * Dg.vl 4294967296 [3] = 12884901888 := by decide
    rw [e1, e2]
    unfold natR capd
    rw [if_pos rfl, if_pos (by rw [begun_digits]; decide)]
  rw [hr] at hm
  have ht := begun_text
  have hk : chk (Dg.dg 4294967296 12884901888) = 0 := by rw [begun_digits]; decide
  obtain ⟨D, hD⟩ : ∃ D, Dg.dg 4294967296 12884901888 = D := ⟨_, rfl⟩
  have hS : Dg.Small 4294967296 D := by rw [← hD]; exact Dg.small_dg _ _ (by omega)
  rw [hD] at hm ht hk
  clear hD hr r1 r2 s1 s2
  simp only [World.size_alloc, show [0, 1].length = 2 from rfl, show [3].length = 1 from rfl] at hm
  have b12 := below_trans b1 b2
  clear b1 b2
  go_enter Try.func19, Try.ntmps19
  go_wp2_with fail
  refine hm.mono ?_
  rintro e w1 ⟨v, rfl, hown, bel⟩
  have b3 := below_trans b12 bel
  have hp := print_nat v D w1 hown.rd hS
  rw [ht, hk] at hp
  clear hm
  go_wp2_with fail
  refine hp.mono ?_
  rintro e w2 ⟨rfl, bel2⟩
  have b4 := below_trans b3 bel2
  clear hp
  go_wp2
  go_ret
  exact ⟨rfl, b4⟩
end Go.Proofs.Ytepcafhlhnlgaaa

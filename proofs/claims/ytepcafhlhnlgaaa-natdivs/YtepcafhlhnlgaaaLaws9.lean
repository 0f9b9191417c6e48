/-
  The law NatDivs.
-/
import Derived.Test.YtepcafhlhnlgaaaInto2
import Derived.Test.YtepcafhlhnlgaaaNe
import Derived.Test.YtepcafhlhnlgaaaLaws4
namespace Go.Proofs.Ytepcafhlhnlgaaa
open Go.RowKit

set_option maxRecDepth 100000 in
set_option maxHeartbeats 1600000 in
theorem divs_bad (va vb : Value) (xs ys : List Nat) (w : World) (ha : Rd w .u32 va xs) (hb : Rd w .u32 vb ys) (hn : divE xs ys ≠ 0) :
    Calls Try.prog 9 #[va, vb] w fun e w' => e = .returned (.bool true) ∧ Below w.heap.size w w' := by
  have h1 := div_no va vb xs ys w ha hb hn
  have htw := fun w1 (b : Below w.heap.size w w1) => twoNats_any va vb xs ys w1 (ha.later b) (hb.later b)
  obtain ⟨ao, ca, rfl⟩ := ha.shape
  obtain ⟨bo, cb, rfl⟩ := hb.shape
  unfold divE at h1 hn
  obtain ⟨c, hc⟩ : ∃ c, chk2 xs ys = c := ⟨_, rfl⟩
  rw [hc] at h1 hn
  simp only [hc] at htw
  have HC : Hid (∀ w1, Below w.heap.size w w1 → Calls Try.prog 23 #[.slice ao xs.length ca, .slice bo ys.length cb] w1 fun e w' => e = .returned (.int .i64 c) ∧ w' = w1) := htw
  clear htw hc ha hb
  by_cases h : c = 0
  · subst h
    rw [if_pos rfl] at h1 hn
    by_cases hy : ys = []
    · subst hy
      rw [if_pos rfl] at h1
      have hl : ([] : List Nat).length = 0 := rfl
      rw [hl] at h1 HC ⊢
      clear hn hl
      go_enter Try.func9, Try.ntmps9
      go_wp2_with fail
      refine h1.mono ?_
      rintro e w1 ⟨v1, v2, rfl, o1, o2, b1⟩
      clear h1
      go_wp2_with fail
      refine (HC.out w1 b1).mono ?_
      rintro e w' ⟨rfl, rfl⟩
      go_wp2_with fail
      refine (begun_any _).mono ?_
      rintro e w5 ⟨rfl, b5⟩
      have b15 := below_trans b1 b5
      have hni := natIs_true v1 (.slice none 0 0) [] 3 0 w5 (o1.later b5).rd (nil_rd _) (by simp [Dg.dg_zero]) (by rw [if_neg (by omega)])
      go_wp2_with fail
      refine hni.mono ?_
      rintro e w7 ⟨rfl, b7⟩
      have b17 := below_trans b15 b7
      have hn2 := natIs_true v2 (.slice none 0 0) [] 3 0 w7 ((o2.later b5).later b7).rd (nil_rd _) (by simp [Dg.dg_zero]) (by rw [if_neg (by omega)])
      clear hni
      go_wp2_with fail
      refine hn2.mono ?_
      rintro e w8 ⟨rfl, b8⟩
      have b18 := below_trans b17 b8
      clear hn2
      go_wp2
      go_ret
      exact ⟨rfl, b18⟩
    · rw [if_neg hy] at hn
      exact absurd rfl hn
  · rw [if_neg h] at h1
    have h3 : (c == 0) = false := by simp [h]
    have HNE : Hid (¬c = 0) := h
    clear hn h
    go_enter Try.func9, Try.ntmps9
    go_wp2_with fail
    refine h1.mono ?_
    rintro e w1 ⟨v1, v2, rfl, o1, o2, b1⟩
    clear h1
    go_wp2_with fail
    refine (HC.out w1 b1).mono ?_
    rintro e w' ⟨rfl, rfl⟩
    go_wp2_with fail
    refine (begun_any _).mono ?_
    rintro e w5 ⟨rfl, b5⟩
    have b15 := below_trans b1 b5
    have hni := natIs_true v1 (.slice none 0 0) [] c 0 w5 (o1.later b5).rd (nil_rd _) (by simp [Dg.dg_zero]) (by rw [if_neg HNE.out])
    go_wp2_with fail
    refine hni.mono ?_
    rintro e w7 ⟨rfl, b7⟩
    have b17 := below_trans b15 b7
    have hn2 := natIs_true v2 (.slice none 0 0) [] c 0 w7 ((o2.later b5).later b7).rd (nil_rd _) (by simp [Dg.dg_zero]) (by rw [if_neg HNE.out])
    clear hni
    go_wp2_with fail
    refine hn2.mono ?_
    rintro e w8 ⟨rfl, b8⟩
    have b18 := below_trans b17 b8
    clear hn2
    go_wp2
    go_ret
    exact ⟨rfl, b18⟩

set_option maxRecDepth 100000 in
set_option maxHeartbeats 1600000 in
theorem divs_good (va vb : Value) (xs ys : List Nat) (w : World) (ha : Rd w .u32 va xs) (hb : Rd w .u32 vb ys) (sa : Dg.Small 4294967296 xs) (sb : Dg.Small 4294967296 ys) (hn : divE xs ys = 0) :
    Calls Try.prog 9 #[va, vb] w fun e w' => e = .returned (.bool true) ∧ Below w.heap.size w w' := by
  obtain ⟨hc, hne⟩ := divE_zero hn
  obtain ⟨hc1, hc2⟩ := chk2_zero hc
  obtain ⟨nx, lx⟩ := chk_zero hc1
  obtain ⟨ny, ly⟩ := chk_zero hc2
  have h1 := div_yes va vb xs ys w ha hb sa sb hc hne
  have HC : Hid (∀ w1, Below w.heap.size w w1 → Calls Try.prog 23 #[va, vb] w1 fun e w' => e = .returned (.int .i64 0) ∧ w' = w1) := fun w1 b => by
    have := twoNats_any va vb xs ys w1 (ha.later b) (hb.later b)
    rwa [hc] at this
  have HOA : Hid (∀ w1, Below w.heap.size w w1 → Calls Try.prog 25 #[va] w1 (RNum w1 (Dg.vl 4294967296 xs))) := fun w1 b => of_any va xs w1 (ha.later b) sa (by omega)
  have HOB : Hid (∀ w1, Below w.heap.size w w1 → Calls Try.prog 25 #[vb] w1 (RNum w1 (Dg.vl 4294967296 ys))) := fun w1 b => of_any vb ys w1 (hb.later b) sb (by omega)
  have l1 := len16 sa
  have l2 := len16 sb
  have hY0 : 0 < Dg.vl 4294967296 ys := Nat.pos_of_ne_zero (Dg.vl_ne_zero 4294967296 (by omega) ys hne ny)
  have HIN : Hid (∀ v u w1, Rd w1 .i64 v (Dg.dg 65536 (Dg.vl 4294967296 xs)) → Rd w1 .i64 u (Dg.dg 65536 (Dg.vl 4294967296 ys)) → Calls Try.prog 37 #[v, u] w1 (RTwo w1 (Dg.vl 4294967296 xs / Dg.vl 4294967296 ys) (Dg.vl 4294967296 xs % Dg.vl 4294967296 ys))) := fun v u w1 r q =>
    into_any v u _ _ w1 r q (by omega) (by omega) hY0
  have hlen : ∀ z, z ≤ Dg.vl 4294967296 xs → (Dg.dg 65536 z).length ≤ 3000000 := fun z hz =>
    Nat.le_trans (Dg.dg_len_le 65536 z _ (by omega) (Nat.lt_of_le_of_lt hz (vl_lt_16 sa))) (by omega)
  have HL1 : Hid ((Dg.dg 65536 (Dg.vl 4294967296 xs / Dg.vl 4294967296 ys)).length ≤ 3000000) := hlen _ (Nat.div_le_self _ _)
  have HL2 : Hid ((Dg.dg 65536 (Dg.vl 4294967296 xs % Dg.vl 4294967296 ys)).length ≤ 3000000) := hlen _ (Nat.mod_le _ _)
  obtain ⟨ao, ca, rfl⟩ := ha.shape
  obtain ⟨bo, cb, rfl⟩ := hb.shape
  obtain ⟨q, hq⟩ : ∃ q, Dg.vl 4294967296 xs / Dg.vl 4294967296 ys = q := ⟨_, rfl⟩
  obtain ⟨r, hr⟩ : ∃ r, Dg.vl 4294967296 xs % Dg.vl 4294967296 ys = r := ⟨_, rfl⟩
  rw [hq, hr] at h1 HIN
  rw [hq] at HL1
  rw [hr] at HL2
  have hyl : ((ys.length : Int) == 0) = false := by
    have : ¬ys.length = 0 := by rw [List.length_eq_zero_iff]; exact hne
    simp; exact hne
  clear hn hc hc1 hc2 nx ny sa sb ha hb hq hr hlen l1 l2 hY0 hne
  go_enter Try.func9, Try.ntmps9
  go_wp2_with fail
  refine h1.mono ?_
  rintro e w1 ⟨v1, v2, rfl, o1, o2, b1⟩
  clear h1
  go_wp2_with fail
  refine (HC.out w1 b1).mono ?_
  rintro e w' ⟨rfl, rfl⟩
  go_wp2_with fail
  refine (HOA.out _ b1).mono ?_
  rintro e w2 ⟨v3, rfl, r3, b2⟩
  have b02 := below_trans b1 b2
  go_wp2_with fail
  refine (HOB.out _ b02).mono ?_
  rintro e w3 ⟨v4, rfl, r4, b3⟩
  have b03 := below_trans b02 b3
  go_wp2_with fail
  refine (HIN.out _ _ _ (r3.later b3) r4).mono ?_
  rintro e w4 ⟨v5, v6, rfl, r5, r6, b4⟩
  have b04 := below_trans b03 b4
  have b14 := below_trans (below_trans b2 b3) b4
  go_wp2_with fail
  refine (begun_any _).mono ?_
  rintro e w5 ⟨rfl, b5⟩
  have b05 := below_trans b04 b5
  have b15 := below_trans b14 b5
  have hni := natIs_true v1 v5 _ 0 q w5 (o1.later b15).rd (r5.later b5) HL1.out (by rw [if_pos rfl])
  have r6 := r6.later b5
  have o2 := (o2.later b15).rd
  clear r3 r4 r5 b1 b2 b3 b4 b5 b02 b03 b04 b14 b15 HC HOA HOB HIN o1
  go_wp2_with fail
  refine hni.mono ?_
  rintro e w7 ⟨rfl, b7⟩
  have b17 := below_trans b05 b7
  have hn2 := natIs_true v2 v6 _ 0 r w7 (o2.later b7) (r6.later b7) HL2.out (by rw [if_pos rfl])
  clear hni
  go_wp2_with fail
  refine hn2.mono ?_
  rintro e w8 ⟨rfl, b8⟩
  have b18 := below_trans b17 b8
  clear hn2
  go_wp2
  go_ret
  exact ⟨rfl, b18⟩

theorem divs_walk (va vb : Value) (xs ys : List Nat) (w : World) (ha : Rd w .u32 va xs) (hb : Rd w .u32 vb ys) (sa : Dg.Small 4294967296 xs) (sb : Dg.Small 4294967296 ys) :
    Calls Try.prog 9 #[va, vb] w fun e w' => e = .returned (.bool true) ∧ Below w.heap.size w w' := by
  by_cases h : divE xs ys = 0
  · exact divs_good va vb xs ys w ha hb sa sb h
  · exact divs_bad va vb xs ys w ha hb h
end Go.Proofs.Ytepcafhlhnlgaaa

/-
  Grids: the reference's CheckGrid.
-/
import Derived.Test.YtmjhlflemfkflaaDoorGr7
namespace Go.Proofs.YtmjhlflemfkflaaDoor
open Go.RowKit

set_option maxRecDepth 100000 in
set_option maxHeartbeats 1600000 in
theorem far2_any (n D L G : Int) (gr : Bool) (b : Nat) (w : World) (hl : LocE w b 39 [.int .i64 2, .int .i64 D, .int .i64 L, .int .i64 G, .bool gr]) : Calls Tryd.prog 55 #[.int .i64 n, .pointer (some ⟨b, 0, none⟩)] w fun z w' => z = .returned (.bool (farB 17000 n)) ∧ w' = w := by
  have c0 := hl.cell 0 rfl
  unfold farB
  by_cases h : n < -17000
  · go_enter Tryd.func55, Tryd.ntmps55
    go_wp2
    go_ret
    simp [h]
  · by_cases h2 : 17000 < n
    · go_enter Tryd.func55, Tryd.ntmps55
      go_wp2
      go_ret
      simp
    · go_enter Tryd.func55, Tryd.ntmps55
      go_wp2
      go_ret
      simp
      omega

set_option maxRecDepth 100000 in
set_option maxHeartbeats 1600000 in
theorem far16_any (n D L G : Int) (gr : Bool) (b : Nat) (w : World) (hl : LocE w b 39 [.int .i64 16, .int .i64 D, .int .i64 L, .int .i64 G, .bool gr]) : Calls Tryd.prog 55 #[.int .i64 n, .pointer (some ⟨b, 0, none⟩)] w fun z w' => z = .returned (.bool (farB 4000 n)) ∧ w' = w := by
  have c0 := hl.cell 0 rfl
  unfold farB
  by_cases h : n < -17000
  · go_enter Tryd.func55, Tryd.ntmps55
    go_wp2
    go_ret
    simp
    omega
  · by_cases h2 : 17000 < n
    · go_enter Tryd.func55, Tryd.ntmps55
      go_wp2
      go_ret
      simp
      omega
    · by_cases h3 : n < -4000
      · go_enter Tryd.func55, Tryd.ntmps55
        go_wp2
        go_ret
        simp
      · go_enter Tryd.func55, Tryd.ntmps55
        go_wp2
        go_ret
        simp
        omega

set_option maxRecDepth 100000 in
set_option maxHeartbeats 3200000 in
theorem refGcheck2_any (D L G : Int) (gr : Bool) (w : World) :
    Calls Tryd.prog 17 #[.agg #[.int .i64 2, .int .i64 D, .int .i64 L, .int .i64 G, .bool gr]] w fun z w' => z = .returned (.int .i64 (gridC 2 D L G)) ∧ Below w.heap.size w w' := by
  have bA := below_alloc w (.cells #[.int .i64 2, .int .i64 D, .int .i64 L, .int .i64 G, .bool gr] 39)
  have l1 := locE_new w [.int .i64 2, .int .i64 D, .int .i64 L, .int .i64 G, .bool gr] 39
  have c1 := l1.cell 1 rfl
  have c2 := l1.cell 2 rfl
  have c3 := l1.cell 3 rfl
  obtain ⟨C, hC⟩ : ∃ C, gridC 2 D L G = C := ⟨_, rfl⟩
  have HC3 : Hid (D < 1 ∨ 120 < D ∨ farB 17000 L = true ∨ farB 17000 G = true ∨ G < L → 3 = C) := fun h => by rw [← hC]; exact (gridC_bad (R := 2) (by omega) h).symm
  have HC0 : Hid (¬(D < 1 ∨ 120 < D ∨ farB 17000 L = true ∨ farB 17000 G = true ∨ G < L) → 0 = C) := fun h => by rw [← hC]; exact (gridC_ok (R := 2) (by omega) h).symm
  rw [hC]
  have H1 : Hid (∀ w1, LocE w1 w.heap.size 39 [.int .i64 2, .int .i64 D, .int .i64 L, .int .i64 G, .bool gr] → Calls Tryd.prog 55 #[.int .i64 L, .pointer (some ⟨w.heap.size, 0, none⟩)] w1 fun z w' => z = .returned (.bool (farB 17000 L)) ∧ w' = w1) := fun w1 h => far2_any L D L G gr _ w1 h
  have H2 : Hid (∀ w1, LocE w1 w.heap.size 39 [.int .i64 2, .int .i64 D, .int .i64 L, .int .i64 G, .bool gr] → Calls Tryd.prog 55 #[.int .i64 G, .pointer (some ⟨w.heap.size, 0, none⟩)] w1 fun z w' => z = .returned (.bool (farB 17000 G)) ∧ w' = w1) := fun w1 h => far2_any G D L G gr _ w1 h
  obtain ⟨bl, hbl⟩ : ∃ b, farB 17000 L = b := ⟨_, rfl⟩
  obtain ⟨bg, hbg⟩ : ∃ b, farB 17000 G = b := ⟨_, rfl⟩
  rw [hbl] at H1 HC3 HC0
  rw [hbg] at H2 HC3 HC0
  clear hC hbl hbg
  by_cases d1 : D < 1
  · obtain rfl := HC3.out (.inl d1)
    go_enter Tryd.func17, Tryd.ntmps17
    go_wp2
    go_ret
    exact ⟨rfl, bA⟩
  · by_cases d2 : 120 < D
    · obtain rfl := HC3.out (.inr (.inl d2))
      go_enter Tryd.func17, Tryd.ntmps17
      go_wp2
      go_ret
      exact ⟨rfl, bA⟩
    · cases bl
      · cases bg
        · by_cases d3 : G < L
          · obtain rfl := HC3.out (.inr (.inr (.inr (.inr d3))))
            go_enter Tryd.func17, Tryd.ntmps17
            go_wp2_with fail
            refine (H1.out _ l1).mono ?_
            rintro z w2 ⟨rfl, rfl⟩
            go_wp2_with fail
            refine (H2.out _ l1).mono ?_
            rintro z w3 ⟨rfl, rfl⟩
            go_wp2
            go_ret
            exact ⟨rfl, bA⟩
          · obtain rfl := HC0.out (by simp [d1, d2, d3])
            go_enter Tryd.func17, Tryd.ntmps17
            go_wp2_with fail
            refine (H1.out _ l1).mono ?_
            rintro z w2 ⟨rfl, rfl⟩
            go_wp2_with fail
            refine (H2.out _ l1).mono ?_
            rintro z w3 ⟨rfl, rfl⟩
            go_wp2
            go_ret
            exact ⟨rfl, bA⟩
        · obtain rfl := HC3.out (.inr (.inr (.inr (.inl rfl))))
          go_enter Tryd.func17, Tryd.ntmps17
          go_wp2_with fail
          refine (H1.out _ l1).mono ?_
          rintro z w2 ⟨rfl, rfl⟩
          go_wp2_with fail
          refine (H2.out _ l1).mono ?_
          rintro z w3 ⟨rfl, rfl⟩
          go_wp2
          go_ret
          exact ⟨rfl, bA⟩
      · obtain rfl := HC3.out (.inr (.inr (.inl rfl)))
        go_enter Tryd.func17, Tryd.ntmps17
        go_wp2_with fail
        refine (H1.out _ l1).mono ?_
        rintro z w2 ⟨rfl, rfl⟩
        go_wp2
        go_ret
        exact ⟨rfl, bA⟩

set_option maxRecDepth 100000 in
set_option maxHeartbeats 3200000 in
theorem refGcheck16_any (D L G : Int) (gr : Bool) (w : World) :
    Calls Tryd.prog 17 #[.agg #[.int .i64 16, .int .i64 D, .int .i64 L, .int .i64 G, .bool gr]] w fun z w' => z = .returned (.int .i64 (gridC 16 D L G)) ∧ Below w.heap.size w w' := by
  have bA := below_alloc w (.cells #[.int .i64 16, .int .i64 D, .int .i64 L, .int .i64 G, .bool gr] 39)
  have l1 := locE_new w [.int .i64 16, .int .i64 D, .int .i64 L, .int .i64 G, .bool gr] 39
  have c1 := l1.cell 1 rfl
  have c2 := l1.cell 2 rfl
  have c3 := l1.cell 3 rfl
  obtain ⟨C, hC⟩ : ∃ C, gridC 16 D L G = C := ⟨_, rfl⟩
  have HC3 : Hid (D < 1 ∨ 120 < D ∨ farB 4000 L = true ∨ farB 4000 G = true ∨ G < L → 3 = C) := fun h => by rw [← hC]; exact (gridC_bad (R := 16) (by omega) h).symm
  have HC0 : Hid (¬(D < 1 ∨ 120 < D ∨ farB 4000 L = true ∨ farB 4000 G = true ∨ G < L) → 0 = C) := fun h => by rw [← hC]; exact (gridC_ok (R := 16) (by omega) h).symm
  rw [hC]
  have H1 : Hid (∀ w1, LocE w1 w.heap.size 39 [.int .i64 16, .int .i64 D, .int .i64 L, .int .i64 G, .bool gr] → Calls Tryd.prog 55 #[.int .i64 L, .pointer (some ⟨w.heap.size, 0, none⟩)] w1 fun z w' => z = .returned (.bool (farB 4000 L)) ∧ w' = w1) := fun w1 h => far16_any L D L G gr _ w1 h
  have H2 : Hid (∀ w1, LocE w1 w.heap.size 39 [.int .i64 16, .int .i64 D, .int .i64 L, .int .i64 G, .bool gr] → Calls Tryd.prog 55 #[.int .i64 G, .pointer (some ⟨w.heap.size, 0, none⟩)] w1 fun z w' => z = .returned (.bool (farB 4000 G)) ∧ w' = w1) := fun w1 h => far16_any G D L G gr _ w1 h
  obtain ⟨bl, hbl⟩ : ∃ b, farB 4000 L = b := ⟨_, rfl⟩
  obtain ⟨bg, hbg⟩ : ∃ b, farB 4000 G = b := ⟨_, rfl⟩
  rw [hbl] at H1 HC3 HC0
  rw [hbg] at H2 HC3 HC0
  clear hC hbl hbg
  by_cases d1 : D < 1
  · obtain rfl := HC3.out (.inl d1)
    go_enter Tryd.func17, Tryd.ntmps17
    go_wp2
    go_ret
    exact ⟨rfl, bA⟩
  · by_cases d2 : 120 < D
    · obtain rfl := HC3.out (.inr (.inl d2))
      go_enter Tryd.func17, Tryd.ntmps17
      go_wp2
      go_ret
      exact ⟨rfl, bA⟩
    · cases bl
      · cases bg
        · by_cases d3 : G < L
          · obtain rfl := HC3.out (.inr (.inr (.inr (.inr d3))))
            go_enter Tryd.func17, Tryd.ntmps17
            go_wp2_with fail
            refine (H1.out _ l1).mono ?_
            rintro z w2 ⟨rfl, rfl⟩
            go_wp2_with fail
            refine (H2.out _ l1).mono ?_
            rintro z w3 ⟨rfl, rfl⟩
            go_wp2
            go_ret
            exact ⟨rfl, bA⟩
          · obtain rfl := HC0.out (by simp [d1, d2, d3])
            go_enter Tryd.func17, Tryd.ntmps17
            go_wp2_with fail
            refine (H1.out _ l1).mono ?_
            rintro z w2 ⟨rfl, rfl⟩
            go_wp2_with fail
            refine (H2.out _ l1).mono ?_
            rintro z w3 ⟨rfl, rfl⟩
            go_wp2
            go_ret
            exact ⟨rfl, bA⟩
        · obtain rfl := HC3.out (.inr (.inr (.inr (.inl rfl))))
          go_enter Tryd.func17, Tryd.ntmps17
          go_wp2_with fail
          refine (H1.out _ l1).mono ?_
          rintro z w2 ⟨rfl, rfl⟩
          go_wp2_with fail
          refine (H2.out _ l1).mono ?_
          rintro z w3 ⟨rfl, rfl⟩
          go_wp2
          go_ret
          exact ⟨rfl, bA⟩
      · obtain rfl := HC3.out (.inr (.inr (.inl rfl)))
        go_enter Tryd.func17, Tryd.ntmps17
        go_wp2_with fail
        refine (H1.out _ l1).mono ?_
        rintro z w2 ⟨rfl, rfl⟩
        go_wp2
        go_ret
        exact ⟨rfl, bA⟩

set_option maxRecDepth 100000 in
theorem refGcheck_any (R D L G : Int) (gr : Bool) (w : World) :
    Calls Tryd.prog 17 #[.agg #[.int .i64 R, .int .i64 D, .int .i64 L, .int .i64 G, .bool gr]] w fun z w' => z = .returned (.int .i64 (gridC R D L G)) ∧ Below w.heap.size w w' := by
  by_cases h2 : R = 2
  · subst h2
    exact refGcheck2_any D L G gr w
  · by_cases h16 : R = 16
    · subst h16
      exact refGcheck16_any D L G gr w
    · rw [gridC_kind h2 h16]
      have bA := below_alloc w (.cells #[.int .i64 R, .int .i64 D, .int .i64 L, .int .i64 G, .bool gr] 39)
      have e1 : (R != 2) = true := by simp; exact h2
      have e2 : (R != 16) = true := by simp; exact h16
      go_enter Tryd.func17, Tryd.ntmps17
      go_wp2
      go_ret
      exact ⟨rfl, bA⟩
end Go.Proofs.YtmjhlflemfkflaaDoor

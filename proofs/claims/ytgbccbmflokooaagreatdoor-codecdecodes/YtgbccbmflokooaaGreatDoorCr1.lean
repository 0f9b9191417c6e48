/-
  The reference's formats.
-/
import Derived.Test.YtgbccbmflokooaaGreatDoorCo5
import Derived.Test.YtgbccbmflokooaaGreatDoorCo14
namespace Go.Proofs.YtgbccbmflokooaaGreatDoor
open Go.RowKit

/-- The reference's formats. -/
def fmtV : Nat → List Value
  | 1 => [.int .i64 4, .int .i64 8, .int .i64 23, .int .i64 2, .int .i64 24, .int .i64 (-149), .int .i64 104, .bool true, .int .i64 1]
  | 2 => [.int .i64 8, .int .i64 11, .int .i64 52, .int .i64 2, .int .i64 53, .int .i64 (-1074), .int .i64 971, .bool true, .int .i64 1]
  | 3 => [.int .i64 10, .int .i64 15, .int .i64 64, .int .i64 2, .int .i64 64, .int .i64 (-16445), .int .i64 16320, .bool true, .int .i64 1]
  | 4 => [.int .i64 4, .int .i64 7, .int .i64 24, .int .i64 16, .int .i64 6, .int .i64 (-70), .int .i64 57, .bool false, .int .i64 2]
  | 5 => [.int .i64 8, .int .i64 7, .int .i64 56, .int .i64 16, .int .i64 14, .int .i64 (-78), .int .i64 49, .bool false, .int .i64 2]
  | 6 => [.int .i64 4, .int .i64 8, .int .i64 23, .int .i64 2, .int .i64 24, .int .i64 (-151), .int .i64 103, .bool false, .int .i64 3]
  | 7 => [.int .i64 8, .int .i64 8, .int .i64 55, .int .i64 2, .int .i64 56, .int .i64 (-183), .int .i64 71, .bool false, .int .i64 3]
  | 8 => [.int .i64 8, .int .i64 11, .int .i64 52, .int .i64 2, .int .i64 53, .int .i64 (-1076), .int .i64 970, .bool false, .int .i64 3]
  | _ => [.int .i64 0, .int .i64 0, .int .i64 0, .int .i64 0, .int .i64 0, .int .i64 0, .int .i64 0, .bool false, .int .i64 0]

theorem format_any (k : Nat) (hk : 1 ≤ k ∧ k ≤ 8) (w : World) : Calls Tryz.prog 19 #[.int .i64 (k : Int)] w fun z w' => z = .returned (.tuple #[.agg (fmtV k).toArray, .bool true]) ∧ Below w.heap.size w w' := by
  rcases eight hk with rfl | rfl | rfl | rfl | rfl | rfl | rfl | rfl
  · exact format_1 w
  · exact format_2 w
  · exact format_3 w
  · exact format_4 w
  · exact format_5 w
  · exact format_6 w
  · exact format_7 w
  · exact format_8 w

/-- Where byte i, from the greatest on, stands. -/
def plN (k i : Nat) : Nat := if k = 3 then szN k - 1 - i else if 6 ≤ k then i + 1 - 2 * (i % 2) else i

theorem plN_at (k : Nat) (zs : List Nat) (i : Nat) (hk : zs.length = szN k) (hi : i < zs.length) : (turnB k zs).getD i 0 = zs.getD (plN k i) 0 := by
  unfold turnB plN
  by_cases h3 : k = 3
  · rw [if_pos h3, if_pos h3, List.getD_eq_getElem?_getD, List.getElem?_reverse hi, ← List.getD_eq_getElem?_getD, hk]
  · rw [if_neg h3, if_neg h3]
    by_cases h6 : 6 ≤ k
    · rw [if_pos h6, if_pos h6, turnW_at zs i hi]
    · rw [if_neg h6, if_neg h6]

theorem plN_lt {k i : Nat} (hk : 1 ≤ k ∧ k ≤ 8) (hi : i < szN k) : plN k i < szN k := by
  obtain ⟨m, hm⟩ := (sizes_fit hk).2.2.2.2.1
  unfold plN
  split
  · omega
  · split <;> omega

set_option maxRecDepth 100000 in
set_option maxHeartbeats 1600000 in
theorem place_W (n : Int) (sz ex fr : Nat) (R D L G fam : Int) (gr : Bool) (i : Nat) (w : World) (hi : i < sz) (hsz : sz ≤ 10)
    (HF : ∀ w1, Calls Tryz.prog 19 #[.int .i64 n] w1 fun z w' => z = .returned (.tuple #[.agg #[.int .i64 (sz : Int), .int .i64 (ex : Int), .int .i64 (fr : Int), .int .i64 R, .int .i64 D, .int .i64 L, .int .i64 G, .bool gr, .int .i64 fam], .bool true]) ∧ Below w1.heap.size w1 w') :
    Calls Tryz.prog 62 #[.int .i64 n, .int .i64 (i : Int)] w fun z w' => z = .returned (.int .i64 (if n = 3 then (sz : Int) - 1 - i else if fam = 3 then (i : Int) + 1 - 2 * ((i : Int) % 2) else (i : Int))) ∧ Below w.heap.size w w' := by
  have HF' : Hid (∀ w1, Calls Tryz.prog 19 #[.int .i64 n] w1 fun z w' => z = .returned (.tuple #[.agg #[.int .i64 (sz : Int), .int .i64 (ex : Int), .int .i64 (fr : Int), .int .i64 R, .int .i64 D, .int .i64 L, .int .i64 G, .bool gr, .int .i64 fam], .bool true]) ∧ Below w1.heap.size w1 w') := HF
  clear HF
  by_cases h3 : n = 3
  · subst h3
    rw [if_pos rfl]
    go_enter Tryz.func62, Tryz.ntmps62
    go_wp2_with fail
    refine (HF'.out _).mono ?_
    rintro z w1 ⟨rfl, b1⟩
    go_wp2
    go_ret
    exact ⟨by go_num, below_trans b1 (below_alloc _ _)⟩
  · have hn : (n == 3) = false := by simpa using h3
    rw [if_neg h3]
    by_cases hf : fam = 3
    · subst hf
      rw [if_pos rfl]
      clear h3
      go_enter Tryz.func62, Tryz.ntmps62
      go_wp2_with fail
      refine (HF'.out _).mono ?_
      rintro z w1 ⟨rfl, b1⟩
      go_wp2
      go_ret
      exact ⟨by go_num, below_trans b1 (below_alloc _ _)⟩
    · have hfb : (fam == 3) = false := by simpa using hf
      rw [if_neg hf]
      clear h3 hf
      go_enter Tryz.func62, Tryz.ntmps62
      go_wp2_with fail
      refine (HF'.out _).mono ?_
      rintro z w1 ⟨rfl, b1⟩
      go_wp2
      go_ret
      exact ⟨rfl, below_trans b1 (below_alloc _ _)⟩

theorem place_any (k : Nat) (hk : 1 ≤ k ∧ k ≤ 8) (i : Nat) (hi : i < szN k) (w : World) : Calls Tryz.prog 62 #[.int .i64 (k : Int), .int .i64 (i : Int)] w fun z w' => z = .returned (.int .i64 ((plN k i : Nat) : Int)) ∧ Below w.heap.size w w' := by
  have HF := fun w1 => format_any k hk w1
  have hsz := (sizes_fit hk).2.2.1
  have key : ∀ x : Int, ((plN k i : Nat) : Int) = x → Calls Tryz.prog 62 #[.int .i64 (k : Int), .int .i64 (i : Int)] w (fun z w' => z = .returned (.int .i64 x) ∧ Below w.heap.size w w') → Calls Tryz.prog 62 #[.int .i64 (k : Int), .int .i64 (i : Int)] w (fun z w' => z = .returned (.int .i64 ((plN k i : Nat) : Int)) ∧ Below w.heap.size w w') := fun x hx h => by rw [hx]; exact h
  rcases eight hk with rfl | rfl | rfl | rfl | rfl | rfl | rfl | rfl
  · exact key _ (by unfold plN; simp) (place_W _ _ _ _ _ _ _ _ _ _ i w hi hsz HF)
  · exact key _ (by unfold plN; simp) (place_W _ _ _ _ _ _ _ _ _ _ i w hi hsz HF)
  · exact key _ (by unfold plN; simp only [szN] at hi ⊢; simp; omega) (place_W _ _ _ _ _ _ _ _ _ _ i w hi hsz HF)
  · exact key _ (by unfold plN; simp) (place_W _ _ _ _ _ _ _ _ _ _ i w hi hsz HF)
  · exact key _ (by unfold plN; simp) (place_W _ _ _ _ _ _ _ _ _ _ i w hi hsz HF)
  · exact key _ (by unfold plN; simp; omega) (place_W _ _ _ _ _ _ _ _ _ _ i w hi hsz HF)
  · exact key _ (by unfold plN; simp; omega) (place_W _ _ _ _ _ _ _ _ _ _ i w hi hsz HF)
  · exact key _ (by unfold plN; simp; omega) (place_W _ _ _ _ _ _ _ _ _ _ i w hi hsz HF)

set_option maxRecDepth 100000 in
set_option maxHeartbeats 1600000 in
theorem open_none (n : Int) (s : ByteArray) (w : World) (h : famC n = 0) : Calls Tryz.prog 9 #[.int .i64 n, .string s] w fun z w' => z = .returned (.int .i64 6) ∧ Below w.heap.size w w' := by
  have HF : Hid (∀ w1, Calls Tryz.prog 19 #[.int .i64 n] w1 fun z w' => z = .returned (.tuple #[.agg #[.int .i64 0, .int .i64 0, .int .i64 0, .int .i64 0, .int .i64 0, .int .i64 0, .int .i64 0, .bool false, .int .i64 0], .bool false]) ∧ Below w1.heap.size w1 w') := fun w1 => format_none n w1 h
  clear h
  go_enter Tryz.func9, Tryz.ntmps9
  go_wp2_with fail
  refine (HF.out _).mono ?_
  rintro z w1 ⟨rfl, b1⟩
  go_wp2
  go_ret
  exact ⟨rfl, below_trans b1 (below_alloc _ _)⟩

set_option maxRecDepth 100000 in
set_option maxHeartbeats 1600000 in
theorem open_W (n : Int) (sz ex fr : Nat) (R D L G fam : Int) (gr : Bool) (s : ByteArray) (w : World)
    (HF : ∀ w1, Calls Tryz.prog 19 #[.int .i64 n] w1 fun z w' => z = .returned (.tuple #[.agg #[.int .i64 (sz : Int), .int .i64 (ex : Int), .int .i64 (fr : Int), .int .i64 R, .int .i64 D, .int .i64 L, .int .i64 G, .bool gr, .int .i64 fam], .bool true]) ∧ Below w1.heap.size w1 w') :
    Calls Tryz.prog 9 #[.int .i64 n, .string s] w fun z w' => z = .returned (.int .i64 (if s.size = sz then 0 else 1)) ∧ Below w.heap.size w w' := by
  have HF' : Hid (∀ w1, Calls Tryz.prog 19 #[.int .i64 n] w1 fun z w' => z = .returned (.tuple #[.agg #[.int .i64 (sz : Int), .int .i64 (ex : Int), .int .i64 (fr : Int), .int .i64 R, .int .i64 D, .int .i64 L, .int .i64 G, .bool gr, .int .i64 fam], .bool true]) ∧ Below w1.heap.size w1 w') := HF
  clear HF
  by_cases hs : s.size = sz
  · rw [if_pos hs]
    go_enter Tryz.func9, Tryz.ntmps9
    go_wp2_with fail
    refine (HF'.out _).mono ?_
    rintro z w1 ⟨rfl, b1⟩
    go_wp2
    go_ret
    exact ⟨rfl, below_trans b1 (below_alloc _ _)⟩
  · rw [if_neg hs]
    have hb : ((s.size : Int) == (sz : Int)) = false := by simp; omega
    clear hs
    go_enter Tryz.func9, Tryz.ntmps9
    go_wp2_with fail
    refine (HF'.out _).mono ?_
    rintro z w1 ⟨rfl, b1⟩
    go_wp2
    go_ret
    exact ⟨rfl, below_trans b1 (below_alloc _ _)⟩
end Go.Proofs.YtgbccbmflokooaaGreatDoor

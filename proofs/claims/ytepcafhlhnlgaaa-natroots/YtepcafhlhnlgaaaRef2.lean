/-
  Contracts of the reference's To and SameNat.
-/
import Derived.Test.YtepcafhlhnlgaaaRef1
namespace Go.Proofs.Ytepcafhlhnlgaaa
open Go.RowKit

/-- Two digits made one. -/
def pairAt (ds : List Nat) (j : Nat) : Nat := ds.getD (2 * j) 0 + 65536 * ds.getD (2 * j + 1) 0
def pairsTo (ds : List Nat) (k : Nat) : List Nat := (List.range k).map (pairAt ds)

theorem pairsTo_succ (ds : List Nat) (k : Nat) : pairsTo ds (k + 1) = pairsTo ds k ++ [pairAt ds k] := by simp [pairsTo, List.range_succ]
theorem pairsTo_length (ds : List Nat) (k : Nat) : (pairsTo ds k).length = k := by simp [pairsTo]

theorem vl_take_any (B : Nat) (l : List Nat) (k : Nat) : Dg.vl B (l.take (k + 1)) = Dg.vl B (l.take k) + B ^ k * l.getD k 0 := by
  by_cases h : k < l.length
  · exact Dg.vl_take_succ _ _ _ h
  · rw [List.take_of_length_le (by omega), List.take_of_length_le (by omega), Dg.getD_of_le _ _ (by omega)]; omega

theorem pow_two (k : Nat) : (65536 : Nat) ^ (2 * k) = 4294967296 ^ k := by rw [Nat.pow_mul]

theorem pairsTo_vl (ds : List Nat) (k : Nat) : Dg.vl 4294967296 (pairsTo ds k) = Dg.vl 65536 (ds.take (2 * k)) := by
  induction k with
  | zero => rfl
  | succ k ih =>
    rw [pairsTo_succ, Dg.vl_append, ih, pairsTo_length, show 2 * (k + 1) = 2 * k + 1 + 1 from by omega, vl_take_any, vl_take_any]
    simp only [Dg.vl, pairAt, Nat.pow_succ, pow_two, Nat.mul_zero, Nat.add_zero]
    rw [Nat.mul_add, Nat.mul_assoc]
    omega

theorem pairAt_lt (ds : List Nat) (h : Dg.Small 65536 ds) (j : Nat) : pairAt ds j < 4294967296 := by
  have h1 := h (2 * j)
  have h2 := h (2 * j + 1)
  unfold pairAt
  omega

theorem pairsTo_getD (ds : List Nat) (k i : Nat) (h : i < k) : (pairsTo ds k).getD i 0 = pairAt ds i := by
  simp [pairsTo, List.getD_eq_getElem?_getD, h]

theorem pairsTo_eq (ds : List Nat) (hs : Dg.Small 65536 ds) (hn : Dg.Norm ds) (k : Nat) (h1 : ds.length ≤ 2 * k) (h2 : 2 * k ≤ ds.length + 1) : pairsTo ds k = Dg.dg 4294967296 (Dg.vl 65536 ds) := by
  refine Dg.eq_dg 4294967296 (by omega) _ _ (fun i => ?_) (fun hne => ?_) ?_
  · by_cases hi : i < k
    · rw [pairsTo_getD ds k i hi]; exact pairAt_lt ds hs i
    · rw [Dg.getD_of_le _ _ (by rw [pairsTo_length]; omega)]; omega
  · have hk : 0 < k := by
      rcases Nat.eq_zero_or_pos k with e | e
      · subst e; exact absurd rfl hne
      · exact e
    rw [pairsTo_length, pairsTo_getD ds k _ (by omega)]
    have hdn : ds ≠ [] := by intro e; subst e; simp at h2; omega
    have := hn hdn
    unfold pairAt
    by_cases he : ds.length = 2 * k
    · rw [he, show 2 * k - 1 = 2 * (k - 1) + 1 from by omega] at this; omega
    · rw [show ds.length - 1 = 2 * (k - 1) from by omega] at this; omega
  · rw [pairsTo_vl, List.take_of_length_le h1]

theorem own_append1 {w wr w3 : World} {e x : Nat} {k : IntKind} {es : List Nat} {lv v' : Value} (bel : Below w.heap.size w wr) (ownL : Own wr w.heap.size e k lv es)
    (hown' : w3.ownsRow w.heap.size e 1 v' (es.length + 1) ((es.map (fun n : Nat => Value.int k (n : Int))) ++ [.int k (x : Int)]))
    (hgrow : (wr.alloc (.cells #[.int k (x : Int)] e)).grownBy w3 lv.ownBlock) :
    Own w3 w.heap.size e k v' (es ++ [x]) ∧ Below w.heap.size w w3 := by
  have b1 : Below wr.heap.size wr (wr.alloc (.cells #[.int k (x : Int)] e)) := (Below.refl _ _).alloc (Nat.le_refl _) _
  refine ⟨?_, ?_⟩
  · unfold Own
    simpa using hown'
  · refine (below_trans bel b1).grown hgrow (Nat.le_trans bel.size b1.size) (fun k hk => ?_)
    exact (World.ownsRow.lt ownL k hk).1

set_option maxHeartbeats 1600000 in
theorem to_any (va : Value) (ds : List Nat) (w : World) (ha : Rd w .i64 va ds) (sa : Dg.Small 65536 ds) (na : Dg.Norm ds) (hla : ds.length ≤ 3000000) :
    Calls Try.prog 51 #[va] w (Num w (Dg.vl 65536 ds)) := by
  obtain ⟨ao, ca, rfl, -, -, hca⟩ := ha
  obtain ⟨i0, hi, hz0, hz1, hz2⟩ := info_parts Try.infoU32
  go_enter Try.func51, Try.ntmps51
  go_wp2
  go_loopw [3, 4] (fun ov iv wr => ∃ k : Nat, 2 * k ≤ ds.length + 1 ∧ iv = .int .i64 ((2 * k : Nat) : Int) ∧ Own wr w.heap.size 58 .u32 ov (pairsTo ds k) ∧ Below w.heap.size w wr) (fun _ iv _ => ds.length + 1 - (intOf iv).toNat)
  case atStart => exact ⟨0, by omega, rfl, own_nil _ _ _ _, Below.refl _ _⟩
  case round =>
    obtain ⟨k, hk, rfl, own, bel⟩ := hrel
    obtain ⟨i, hi2⟩ : ∃ i, 2 * k = i := ⟨_, rfl⟩
    rw [hi2]
    by_cases hlt : i < ds.length
    · obtain ⟨b, off, rfl, hcell⟩ := hca (by omega)
      have hx := cell_later bel (hcell i hlt)
      have hx2 := fun h : i + 1 < ds.length => cell_later bel (hcell (i + 1) h)
      have hxl := sa i
      have hyl := sa (i + 1)
      have hpl := pairsTo_length ds k
      have hsu := pairsTo_succ ds k
      have hpa : pairAt ds k = ds.getD i 0 + 65536 * ds.getD (i + 1) 0 := by unfold pairAt; rw [hi2]
      have hno : ¬ i + 1 < ds.length → ds.getD (i + 1) 0 = 0 := fun h => Dg.getD_of_le _ _ (by omega)
      have hbs := bel.size
      obtain ⟨x, ex⟩ : ∃ x, ds.getD i 0 = x := ⟨_, rfl⟩
      obtain ⟨y, ey⟩ : ∃ y, ds.getD (i + 1) 0 = y := ⟨_, rfl⟩
      obtain ⟨es, ees⟩ : ∃ es, pairsTo ds k = es := ⟨_, rfl⟩
      rw [ex] at hx hxl hpa
      rw [ey] at hx2 hyl hpa hno
      rw [hpa, ees] at hsu
      rw [ees] at own hpl
      have HS : Hid (pairsTo ds (k + 1) = es ++ [x + 65536 * y]) := hsu
      have HI : Hid (2 * k = i) := hi2
      have hil : es.length ≤ 3000000 := by omega
      clear ex ey ees hcell hca hsu hpa hpl hi2
      by_cases hlt2 : i + 1 < ds.length
      · have hx3 := hx2 hlt2
        clear hx2 hno
        go_wp2_with (at_builtin; refine wpList_append_own _ rfl _ _ 23 rfl w.heap.size 58 i0 (.int .u32 0) 1 4 Try.underlying23 hi hz0 hz1 hz2 rfl (by decide) _ _ _ rfl (World.ownsRow.alloc own _) ⟨wr.heap.size, 0, none⟩ 1 1 [.int .u32 ((x : Int) + 65536 * (y : Int))] rfl rfl ?c1 ?c2 ?c3 ?c4 ?c5 ?_)
        case c1 => exact cell_one_new _ _ _
        case c2 => intro u hu; simp at hu; subst hu; rfl
        case c3 => unfold maxLen; omega
        case c4 => omega
        case c5 => simp; omega
        intro v' w3 hown' hgrow _
        have e0 : ((x : Int) + 65536 * (y : Int)) = ((x + 65536 * y : Nat) : Int) := by omega
        rw [e0] at hown' hgrow
        have R := own_append1 bel own hown' hgrow
        clear hown' hgrow own e0
        go_wp2
        go_roundw
        case rel => exact ⟨k + 1, by have := HI.out; omega, by have := HI.out; go_num, by rw [HS.out]; exact R.1, R.2⟩
        case measure => simp [intOf]; omega
      · have hy0 := hno hlt2
        subst hy0
        clear hx2 hno
        go_wp2_with (at_builtin; refine wpList_append_own _ rfl _ _ 23 rfl w.heap.size 58 i0 (.int .u32 0) 1 4 Try.underlying23 hi hz0 hz1 hz2 rfl (by decide) _ _ _ rfl (World.ownsRow.alloc own _) ⟨wr.heap.size, 0, none⟩ 1 1 [.int .u32 (x : Int)] rfl rfl ?d1 ?d2 ?d3 ?d4 ?d5 ?_)
        case d1 => exact cell_one_new _ _ _
        case d2 => intro u hu; simp at hu; subst hu; rfl
        case d3 => unfold maxLen; omega
        case d4 => omega
        case d5 => simp; omega
        intro v' w3 hown' hgrow _
        have R := own_append1 bel own hown' hgrow
        clear hown' hgrow own
        go_wp2
        go_roundw
        case rel => exact ⟨k + 1, by have := HI.out; omega, by have := HI.out; go_num, by rw [HS.out]; exact R.1, R.2⟩
        case measure => simp [intOf]; omega
    · have he := pairsTo_eq ds sa na k (by omega) hk
      rw [he] at own
      clear he
      go_wp2
      go_ret
      exact ⟨_, rfl, own, bel⟩

set_option maxHeartbeats 1600000 in
theorem same_any (va vb : Value) (xs ys : List Nat) (w : World) (ha : Rd w .u32 va xs) (hb : Rd w .u32 vb ys) :
    Calls Try.prog 48 #[va, vb] w fun e w' => e = .returned (.bool (decide (xs = ys))) ∧ Below w.heap.size w w' := by
  obtain ⟨ao, ca, rfl, hla, hma, hca⟩ := ha
  obtain ⟨bo, cb, rfl, hlb, hmb, hcb⟩ := hb
  unfold maxLen at hma hmb
  obtain ⟨r, hr⟩ : ∃ r, decide (xs = ys) = r := ⟨_, rfl⟩
  rw [hr]
  by_cases hle : xs.length = ys.length
  · have HR : Hid (decide (xs = ys) = r) := hr
    have HL : Hid (xs.length = ys.length) := hle
    rw [hle] at hla hca ⊢
    clear hr hle
    go_enter Try.func48, Try.ntmps48
    go_wp2
    go_loopw [5] (fun iv wr => ∃ k : Nat, k ≤ ys.length ∧ iv = .int .i64 k ∧ Hid (∀ j, j < k → xs.getD j 0 = ys.getD j 0) ∧ Below w.heap.size w wr) (fun iv _ => ys.length - (intOf iv).toNat)
    case atStart => exact ⟨0, Nat.zero_le _, rfl, fun j hj => by omega, Below.refl _ _⟩
    case round =>
      obtain ⟨k, hk, rfl, hall, bel⟩ := hrel
      by_cases hlt : k < ys.length
      · obtain ⟨b, off, rfl, hcell⟩ := hca (by omega)
        obtain ⟨b2, off2, rfl, hcell2⟩ := hcb (by omega)
        have hx := cell_later bel (hcell k hlt)
        have hy := cell_later bel (hcell2 k hlt)
        have hst : xs.getD k 0 ≠ ys.getD k 0 → decide (xs = ys) = false := fun h => by
          rw [decide_eq_false]; intro e; rw [e] at h; exact h rfl
        rw [HR.out] at hst
        obtain ⟨x, ex⟩ : ∃ x, xs.getD k 0 = x := ⟨_, rfl⟩
        obtain ⟨y, ey⟩ : ∃ y, ys.getD k 0 = y := ⟨_, rfl⟩
        have HX : Hid (xs.getD k 0 = x) := ex
        have HY : Hid (ys.getD k 0 = y) := ey
        rw [ex] at hx hst
        rw [ey] at hy hst
        clear ex ey hcell hcell2 hca hcb
        by_cases hxy : x = y
        · subst hxy
          clear hst
          go_wp2
          go_quiet (fail)
          go_wp2
          go_roundw
          case rel => exact ⟨k + 1, by omega, by go_num, fun j hj => by
            by_cases e : j = k
            · rw [e]; exact HX.out.trans HY.out.symm
            · exact hall j (by omega), below_drewN bel _⟩
          case measure => simp [intOf]; omega
        · have hrf := hst hxy
          subst hrf
          have hne : ((x : Int) != (y : Int)) = true := by rw [bne_iff_ne]; omega
          go_wp2
          go_quiet (fail)
          go_wp2
          go_ret
          exact ⟨rfl, below_drewN bel _⟩
      · have he : xs = ys := Dg.eq_of_all xs ys HL.out (fun j => by
          by_cases hj : j < k
          · exact hall j hj
          · rw [Dg.getD_of_le xs j (by rw [HL.out]; omega), Dg.getD_of_le ys j (by omega)])
        have hrt : r = true := by rw [← HR.out]; exact decide_eq_true he
        subst hrt
        clear he
        go_wp2
        go_ret
        exact ⟨rfl, bel⟩
  · have hrf : r = false := by rw [← hr]; apply decide_eq_false; intro e; rw [e] at hle; exact hle rfl
    subst hrf
    clear hr
    have hne : ((xs.length : Int) != (ys.length : Int)) = true := by rw [bne_iff_ne]; omega
    go_enter Try.func48, Try.ntmps48
    go_wp2
    go_ret
    exact ⟨rfl, Below.refl _ _⟩
end Go.Proofs.Ytepcafhlhnlgaaa

/-
  The reference's Less: what comes lies in memory of its own.
-/
import Derived.Test.YtfajoaopfedokaaDoorNc
namespace Go.Proofs.YtfajoaopfedokaaDoor
open Go.RowKit

/-- The slice lies at a block from B on, or nowhere. -/
def Far (B : Nat) (v : Value) : Prop := ∀ a n c, v = .slice (some a) n c → B ≤ a.block

theorem own_far {w : World} {base e : Nat} {k : IntKind} {v : Value} {zs : List Nat} (h : Own w base e k v zs) : Far base v := fun a n c hv => by
  rcases h.2 with ⟨e1, _⟩ | ⟨g, cap, cur, e1, hg, _⟩
  · rw [e1] at hv; cases hv
  · rw [e1] at hv
    cases hv
    exact hg

theorem far_trim {B : Nat} {oo : Option Addr} {n c : Nat} (h : Far B (.slice oo n c)) (n' c' : Nat) : Far B (.slice oo n' c') := fun a m d hv => by
  cases hv
  exact h a n c rfl

/-- What is read far off is read so behind a store before it. -/
theorem Rd.set_far {w : World} {k : IntKind} {v : Value} {zs : List Nat} {B g j : Nat} (h : Rd w k v zs) (hf : Far B v) (hg : g < B) (x : Value) : Rd (w.setCell ⟨g, j, none⟩ x) k v zs := by
  obtain ⟨ao, cap, rfl, h1, h2, h3⟩ := h
  refine ⟨ao, cap, rfl, h1, h2, fun h0 => ?_⟩
  obtain ⟨b, off, rfl, hc⟩ := h3 h0
  have := hf _ _ _ rfl
  refine ⟨b, off, rfl, fun i hi => ?_⟩
  rw [World.cell?_setCell_other (h := by simp; intro e; simp at this; omega)]
  exact hc i hi

/-- The call answers a number of the reference that lies in memory of its own. -/
def RNumF (w : World) (n : Nat) (e : Ending) (w' : World) : Prop :=
  ∃ v, e = .returned v ∧ Rd w' .i64 v (Dg.dg 65536 n) ∧ Far w.heap.size v ∧ Below w.heap.size w w'

set_option maxRecDepth 100000 in
set_option maxHeartbeats 3200000 in
theorem refless_far (va vb : Value) (xs ys : List Nat) (w : World) (ha : Rd w .i64 va xs) (hb : Rd w .i64 vb ys) (sa : Dg.Small 65536 xs) (sb : Dg.Small 65536 ys) (hla : xs.length ≤ 2000000) (hlb : ys.length ≤ xs.length) (hv : Dg.vl 65536 ys ≤ Dg.vl 65536 xs) :
    Calls Tryd.prog 82 #[va, vb] w (RNumF w (Dg.vl 65536 xs - Dg.vl 65536 ys)) := by
  obtain ⟨ao, ca, rfl, -, -, hca⟩ := ha
  obtain ⟨bo, cb, rfl, -, -, hcb⟩ := hb
  obtain ⟨i0, hi, hz0, hz1, hz2⟩ := info_parts Tryd.infoI64
  have HV : Hid (Dg.vl 65536 ys ≤ Dg.vl 65536 xs) := hv
  clear hv
  go_enter Tryd.func82, Tryd.ntmps82
  go_wp2
  go_loopw [5, 6, 7] (fun ov cv iv wr => ∃ (k c : Nat) (ps : List Nat), k ≤ xs.length ∧ iv = .int .i64 k ∧ cv = .int .i64 c ∧ Own wr w.heap.size 3 .i64 ov ps ∧ RSub xs ys ps k c ∧ Below w.heap.size w wr) (fun _ _ iv _ => xs.length - (intOf iv).toNat)
  case atStart => exact ⟨0, 0, [], by omega, rfl, rfl, own_nil _ _ _ _, ⟨rfl, Dg.small_nil _ (by omega), by omega, by simp [Dg.vl]⟩, Below.refl _ _⟩
  case round =>
    obtain ⟨k, c, ps, hk, rfl, rfl, own, hI, bel⟩ := hrel
    have hcl := hI.2.2.1
    have hpl := hI.1
    have hbs := bel.size
    by_cases hlt : k < xs.length
    · obtain ⟨b, off, rfl, hcella⟩ := hca (by omega)
      have hcell := cell_later bel (hcella k hlt)
      have hxl := sa k
      have hyl := sb k
      have hy0 : ¬ k < ys.length → ys.getD k 0 = 0 := fun h => Dg.getD_of_le _ _ (by omega)
      have hst : ∀ d c', d < 65536 → c' ≤ 1 → xs.getD k 0 + 65536 * c' = d + ys.getD k 0 + c → RSub xs ys (ps ++ [d]) (k + 1) c' := fun d c' h1 h2 h3 => rSub_step hI h1 h2 h3
      have hcy : k < ys.length → ∃ b off, bo = some ⟨b, off, none⟩ ∧ wr.cell? ⟨b, off + k, none⟩ = some (.int .i64 ((ys.getD k 0 : Nat) : Int)) := fun h => by
        obtain ⟨b, off, e, hcell⟩ := hcb (by omega)
        exact ⟨b, off, e, cell_later bel (hcell k h)⟩
      obtain ⟨x, ex⟩ : ∃ x, xs.getD k 0 = x := ⟨_, rfl⟩
      obtain ⟨y, ey⟩ : ∃ y, ys.getD k 0 = y := ⟨_, rfl⟩
      rw [ex] at hxl hst hcell
      rw [ey] at hyl hy0 hst hcy
      have Hst : Hid (∀ d c', d < 65536 → c' ≤ 1 → x + 65536 * c' = d + y + c → RSub xs ys (ps ++ [d]) (k + 1) c') := hst
      have Hpl : Hid (ps.length = k) := hpl
      have hpl2 : ps.length ≤ 2000000 := by omega
      clear ex ey hca hcb hI hst hpl hcella
      have fin : ∀ (T : Int) (d : Nat), T = ((d : Nat) : Int) → ∀ v' w3, w3.ownsRow w.heap.size 3 1 v' (ps.length + 1) ((ps.map (fun n : Nat => Value.int .i64 (n : Int))) ++ [.int .i64 T]) → (wr.alloc (.cells #[.int .i64 T] 3)).grownBy w3 (Value.ownBlock u5) →
          Own w3 w.heap.size 3 .i64 v' (ps ++ [d]) ∧ Below w.heap.size w w3 := by
        intro T d hT v' w3 h1 h2
        rw [hT] at h1 h2
        exact own_append1 bel own h1 h2
      by_cases h2 : k < ys.length
      · obtain ⟨b2, off2, rfl, hcell2⟩ := hcy h2
        clear hcy hy0
        by_cases hneg : x < y + c
        · have hneg2 : ((x : Int) - (c : Int) - (y : Int)) < 0 := by omega
          go_wp2_with (at_builtin; refine wpList_append_own _ rfl _ _ 31 rfl w.heap.size 3 i0 (.int .i64 0) 1 8 Tryd.underlying31 hi hz0 hz1 hz2 rfl (by decide) _ _ _ rfl (World.ownsRow.alloc own _) ⟨wr.heap.size, 0, none⟩ 1 1 [.int .i64 ((x : Int) - (c : Int) - (y : Int) + 65536)] rfl rfl ?c1 ?c2 ?c3 ?c4 ?c5 ?_)
          try (case c1 => exact cell_one_new _ _ _)
          case c2 => first | rfl | (intro u hu; simp at hu; subst hu; rfl) | (simp; done) | (simp [Value.oneCell']; done) | (trace_state; fail)
          case c3 => unfold maxLen; omega
          case c4 => omega
          case c5 => first | omega | (simp; omega)
          intro v' w3 hown' hgrow _
          have R := fin _ (x + 65536 - y - c) (by omega) v' w3 hown' hgrow
          clear hown' hgrow own fin
          go_wp2
          go_roundw
          case rel => exact ⟨k + 1, 1, _, by omega, by go_num, by go_num, R.1, Hst.out _ _ (by omega) (by omega) (by omega), R.2⟩
          case measure => simp [intOf]; omega
        · have hneg2 : ¬ ((x : Int) - (c : Int) - (y : Int)) < 0 := by omega
          go_wp2_with (at_builtin; refine wpList_append_own _ rfl _ _ 31 rfl w.heap.size 3 i0 (.int .i64 0) 1 8 Tryd.underlying31 hi hz0 hz1 hz2 rfl (by decide) _ _ _ rfl (World.ownsRow.alloc own _) ⟨wr.heap.size, 0, none⟩ 1 1 [.int .i64 ((x : Int) - (c : Int) - (y : Int))] rfl rfl ?d1 ?d2 ?d3 ?d4 ?d5 ?_)
          try (case d1 => exact cell_one_new _ _ _)
          case d2 => first | rfl | (intro u hu; simp at hu; subst hu; rfl) | (simp; done) | (simp [Value.oneCell']; done) | (trace_state; fail)
          case d3 => unfold maxLen; omega
          case d4 => omega
          case d5 => first | omega | (simp; omega)
          intro v' w3 hown' hgrow _
          have R := fin _ (x - y - c) (by omega) v' w3 hown' hgrow
          clear hown' hgrow own fin
          go_wp2
          go_roundw
          case rel => exact ⟨k + 1, 0, _, by omega, by go_num, by go_num, R.1, Hst.out _ _ (by omega) (by omega) (by omega), R.2⟩
          case measure => simp [intOf]; omega
      · have hy := hy0 h2
        subst hy
        clear hcy hy0
        by_cases hneg : x < c
        · have hneg2 : ((x : Int) - (c : Int)) < 0 := by omega
          go_wp2_with (at_builtin; refine wpList_append_own _ rfl _ _ 31 rfl w.heap.size 3 i0 (.int .i64 0) 1 8 Tryd.underlying31 hi hz0 hz1 hz2 rfl (by decide) _ _ _ rfl (World.ownsRow.alloc own _) ⟨wr.heap.size, 0, none⟩ 1 1 [.int .i64 ((x : Int) - (c : Int) + 65536)] rfl rfl ?e1 ?e2 ?e3 ?e4 ?e5 ?_)
          try (case e1 => exact cell_one_new _ _ _)
          case e2 => first | rfl | (intro u hu; simp at hu; subst hu; rfl) | (simp; done) | (simp [Value.oneCell']; done) | (trace_state; fail)
          case e3 => unfold maxLen; omega
          case e4 => omega
          case e5 => first | omega | (simp; omega)
          intro v' w3 hown' hgrow _
          have R := fin _ (x + 65536 - c) (by omega) v' w3 hown' hgrow
          clear hown' hgrow own fin
          go_wp2
          go_roundw
          case rel => exact ⟨k + 1, 1, _, by omega, by go_num, by go_num, R.1, Hst.out _ _ (by omega) (by omega) (by omega), R.2⟩
          case measure => simp [intOf]; omega
        · have hneg2 : ¬ ((x : Int) - (c : Int)) < 0 := by omega
          go_wp2_with (at_builtin; refine wpList_append_own _ rfl _ _ 31 rfl w.heap.size 3 i0 (.int .i64 0) 1 8 Tryd.underlying31 hi hz0 hz1 hz2 rfl (by decide) _ _ _ rfl (World.ownsRow.alloc own _) ⟨wr.heap.size, 0, none⟩ 1 1 [.int .i64 ((x : Int) - (c : Int))] rfl rfl ?f1 ?f2 ?f3 ?f4 ?f5 ?_)
          try (case f1 => exact cell_one_new _ _ _)
          case f2 => first | rfl | (intro u hu; simp at hu; subst hu; rfl) | (simp; done) | (simp [Value.oneCell']; done) | (trace_state; fail)
          case f3 => unfold maxLen; omega
          case f4 => omega
          case f5 => first | omega | (simp; omega)
          intro v' w3 hown' hgrow _
          have R := fin _ (x - c) (by omega) v' w3 hown' hgrow
          clear hown' hgrow own fin
          go_wp2
          go_roundw
          case rel => exact ⟨k + 1, 0, _, by omega, by go_num, by go_num, R.1, Hst.out _ _ (by omega) (by omega) (by omega), R.2⟩
          case measure => simp [intOf]; omega
    · have hke : k = xs.length := by omega
      subst hke
      have hen := rSub_end hI hlb HV.out
      have hps := hI.2.1
      have hpl2 : ps.length ≤ 2000000 := by omega
      clear hpl
      obtain ⟨oo, oc, rfl⟩ := own.rd.shape
      go_wp2_with fail
      refine (reftrim_any _ _ _ _ _ own.rd).mono ?_
      rintro e w' ⟨n, rfl, hn, rfl⟩
      have hnl := hn.1
      have hr := rd_trim (cap' := n) 65536 (by omega) own.rd hps hn (Nat.le_refl _) (by unfold maxLen; omega)
      rw [hen] at hr
      clear hn hen
      go_wp2
      go_ret
      exact ⟨_, rfl, hr, far_trim (own_far own) n n, bel⟩
end Go.Proofs.YtfajoaopfedokaaDoor

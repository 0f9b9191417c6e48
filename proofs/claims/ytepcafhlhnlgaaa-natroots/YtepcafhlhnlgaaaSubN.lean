/-
  Contracts of nat.Compare and nat.Sub.
-/
import Derived.Test.YtepcafhlhnlgaaaCmp
namespace Go.Proofs.Ytepcafhlhnlgaaa
open Go.RowKit

/-- What nat.Compare answers. -/
def cmpR (xs ys : List Nat) : Int := if chk2 xs ys = 0 then cmpI (Dg.vl 4294967296 xs) (Dg.vl 4294967296 ys) else 0

theorem compare_nat (va vb : Value) (xs ys : List Nat) (w : World) (ha : Rd w .u32 va xs) (hb : Rd w .u32 vb ys) (sa : Dg.Small 4294967296 xs) (sb : Dg.Small 4294967296 ys) :
    Calls Try.prog 22 #[va, vb] w fun e w' => e = .returned (.tuple #[.int .i64 (cmpR xs ys), .int .i64 (chk2 xs ys)]) ∧ Below w.heap.size w w' := by
  obtain ⟨ao, ca, rfl⟩ := ha.shape
  obtain ⟨bo, cb, rfl⟩ := hb.shape
  have b1 : Below w.heap.size w (w.alloc (.cells #[.slice ao xs.length ca, .slice bo ys.length cb] 23)) := (Below.refl _ _).alloc (Nat.le_refl _) _
  have hw := wrong2_any w.heap.size _ _ xs ys (w.alloc (.cells #[.slice ao xs.length ca, .slice bo ys.length cb] 23)) (by rw [World.cell?_alloc_at _ _ _ _ rfl]; rfl) (by rw [World.cell?_alloc_at _ _ _ _ rfl]; rfl) (ha.later b1) (hb.later b1)
  have hk := fun h : chk2 xs ys = 0 => compare_any _ _ xs ys _ (ha.later b1) (hb.later b1) sa sb (chk_zero (chk2_zero h).1).1 (chk_zero (chk2_zero h).2).1
  unfold cmpR
  obtain ⟨c, hc⟩ : ∃ c, chk2 xs ys = c := ⟨_, rfl⟩
  obtain ⟨r, hr⟩ : ∃ r, cmpI (Dg.vl 4294967296 xs) (Dg.vl 4294967296 ys) = r := ⟨_, rfl⟩
  rw [hc] at hw hk ⊢
  rw [hr] at hk ⊢
  clear hc hr
  by_cases h : c = 0
  · subst h
    rw [if_pos rfl]
    have hk2 := hk rfl
    clear hk
    go_enter Try.func22, Try.ntmps22
    go_wp2_with fail
    refine hw.mono ?_
    rintro e w' ⟨rfl, rfl⟩
    go_wp2_with fail
    refine hk2.mono ?_
    rintro e w2 ⟨rfl, hbel⟩
    have b2 := below_trans b1 hbel
    go_wp2
    go_ret2
    exact ⟨rfl, b2⟩
  · rw [if_neg h]
    go_enter Try.func22, Try.ntmps22
    go_wp2_with fail
    refine hw.mono ?_
    rintro e w' ⟨rfl, rfl⟩
    go_wp2
    go_ret2
    exact ⟨rfl, b1⟩

/-- What nat.Sub answers. -/
def subR (xs ys : List Nat) : List Nat × Int :=
  if chk2 xs ys = 0 then (if Dg.vl 4294967296 xs < Dg.vl 4294967296 ys then ([], 3) else capd (Dg.vl 4294967296 xs - Dg.vl 4294967296 ys)) else ([], chk2 xs ys)

theorem len_le_of_vl {xs ys : List Nat} (sa : Dg.Small 4294967296 xs) (nb : Dg.Norm ys) (h : ¬ Dg.vl 4294967296 xs < Dg.vl 4294967296 ys) : ys.length ≤ xs.length := by
  rcases Nat.lt_or_ge xs.length ys.length with hl | hl
  · exact absurd (Dg.vl_lt_of_len _ (by omega) _ _ sa nb hl) h
  · exact hl

theorem sub_nat (va vb : Value) (xs ys : List Nat) (w : World) (ha : Rd w .u32 va xs) (hb : Rd w .u32 vb ys) (sa : Dg.Small 4294967296 xs) (sb : Dg.Small 4294967296 ys) :
    Calls Try.prog 32 #[va, vb] w (Ans w (subR xs ys)) := by
  have hcm := compare_nat va vb xs ys w ha hb sa sb
  have hbo := fun w1 (b1 : Below w.heap.size w w1) (hle : ¬ Dg.vl 4294967296 xs < Dg.vl 4294967296 ys) => both_minus va vb xs ys (Dg.vl 4294967296 xs - Dg.vl 4294967296 ys) w1 (ha.later b1) (hb.later b1) (fun h w2 b2 => by
    have h2 := chk2_zero h
    have h3 := chk_zero h2.1
    have h4 := chk_zero h2.2
    exact minus_any va vb xs ys w2 ((ha.later b1).later b2) ((hb.later b1).later b2) sa sb (by omega) (len_le_of_vl sa h4.1 hle) (by omega))
  unfold cmpR at hcm
  unfold subR
  unfold natR at hbo
  obtain ⟨c, hc⟩ : ∃ c, chk2 xs ys = c := ⟨_, rfl⟩
  rw [hc] at hcm hbo ⊢
  clear hc
  by_cases h : c = 0
  · subst h
    rw [if_pos rfl] at hcm ⊢
    simp only [if_true] at hbo
    by_cases hl : Dg.vl 4294967296 xs < Dg.vl 4294967296 ys
    · rw [if_pos hl]
      rw [cmpI_lt (by omega)] at hcm
      go_enter Try.func32, Try.ntmps32
      go_wp2_with fail
      refine hcm.mono ?_
      rintro e w1 ⟨rfl, hbel⟩
      go_wp2
      go_ret2
      exact ⟨_, rfl, own_nil _ _ _ _, hbel⟩
    · rw [if_neg hl]
      have hr : ¬ cmpI (Dg.vl 4294967296 xs) (Dg.vl 4294967296 ys) < 0 := by
        unfold cmpI; rw [if_neg (by omega)]; split <;> omega
      obtain ⟨r, er⟩ : ∃ r, cmpI (Dg.vl 4294967296 xs) (Dg.vl 4294967296 ys) = r := ⟨_, rfl⟩
      rw [er] at hcm hr
      have hbo := fun w1 b1 => hbo w1 b1 hl
      clear er hl
      have HB : Hid (∀ w1, Below w.heap.size w w1 → Calls Try.prog 57 #[va, vb, .func (.func 59) #[] #[]] w1 (Ans w1 (capd (Dg.vl 4294967296 xs - Dg.vl 4294967296 ys)))) := hbo
      clear hbo
      go_enter Try.func32, Try.ntmps32
      go_wp2_with fail
      refine hcm.mono ?_
      rintro e w1 ⟨rfl, hbel⟩
      go_wp2_with fail
      refine (HB.out w1 hbel).mono ?_
      rintro e w2 ⟨v, rfl, hown, hbel2⟩
      have b2 := below_trans hbel hbel2
      have o2 := hown.lower hbel.size
      go_wp2
      go_ret2
      exact ⟨_, rfl, o2, b2⟩
  · rw [if_neg h] at hcm ⊢
    clear hbo
    go_enter Try.func32, Try.ntmps32
    go_wp2_with fail
    refine hcm.mono ?_
    rintro e w1 ⟨rfl, hbel⟩
    go_wp2
    go_ret2
    exact ⟨_, rfl, own_nil _ _ _ _, hbel⟩
end Go.Proofs.Ytepcafhlhnlgaaa

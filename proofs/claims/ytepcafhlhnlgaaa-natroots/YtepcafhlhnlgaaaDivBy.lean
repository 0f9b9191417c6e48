/-
  The contract of divideBy: the row is divided in its place by one digit.
-/
import Derived.Test.YtepcafhlhnlgaaaDiv1
namespace Go.Proofs.Ytepcafhlhnlgaaa
open Go.RowKit

theorem grown_of_below {w w' : World} (g : Option Nat) (h : Below w.heap.size w w') : w.grownBy w' g := ⟨h.os, h.tape, h.output, h.size, fun k hk _ => h.block k hk⟩
theorem grown_refl (w : World) (g : Option Nat) : w.grownBy w g := ⟨rfl, rfl, rfl, Nat.le_refl _, fun _ _ _ => rfl⟩
theorem grown_trans {w w1 w2 : World} {g : Option Nat} (h : w.grownBy w1 g) (k : w1.grownBy w2 g) : w.grownBy w2 g :=
  ⟨k.os.trans h.os, k.tape.trans h.tape, k.output.trans h.output, Nat.le_trans h.size k.size, fun i hi hne => (k.block i (Nat.lt_of_lt_of_le hi h.size) hne).trans (h.block i hi hne)⟩
theorem grown_set (w : World) (g j : Nat) (u : Value) : w.grownBy (w.setCell ⟨g, j, none⟩ u) (some g) :=
  ⟨rfl, rfl, rfl, by simp [World.setCell], fun k _ hk => Below.heap_setCell w ⟨g, j, none⟩ u k (fun e => hk (by rw [e]))⟩

/-- What the loop keeps: from k on it is divided. -/
def DivI (zs cur : List Nat) (d k r : Nat) : Prop :=
  cur.length = zs.length ∧ Dg.Small 4294967296 cur ∧ r < d ∧ (∀ j, j < k → cur.getD j 0 = zs.getD j 0) ∧ Dg.vl 4294967296 (zs.drop k) = Dg.vl 4294967296 (cur.drop k) * d + r

theorem drop_eq (l : List Nat) (k : Nat) (h : k < l.length) : l.drop k = l.getD k 0 :: l.drop (k + 1) := by
  rw [List.drop_eq_getElem_cons h]; simp [List.getD_eq_getElem?_getD, h]

theorem divI_step {zs cur : List Nat} {d k r t : Nat} (h : DivI zs cur d (k + 1) r) (hk : k < zs.length) (ht : t = r * 4294967296 + zs.getD k 0) (hd : 0 < d) (hq : t / d < 4294967296) :
    DivI zs (cur.set k (t / d)) d k (t % d) := by
  obtain ⟨h1, h2, h3, h4, h5⟩ := h
  refine ⟨by simpa using h1, Dg.small_set h2 _ _ hq, Nat.mod_lt _ hd, fun j hj => ?_, ?_⟩
  · rw [Dg.getD_set _ _ _ _ (by omega), if_neg (by omega)]; exact h4 j (by omega)
  · rw [drop_eq zs k hk, drop_eq (cur.set k (t / d)) k (by simpa using (by omega : k < cur.length)), Dg.getD_set _ _ _ _ (by omega), if_pos rfl, List.drop_set_of_lt (by omega)]
    simp only [Dg.vl]
    rw [h5]
    have := Nat.div_add_mod t d
    rw [Nat.add_mul, Nat.mul_comm (t / d) d, Nat.mul_assoc, Nat.mul_add]
    have e : r * 4294967296 = 4294967296 * r := Nat.mul_comm _ _
    omega

set_option maxHeartbeats 1600000 in
theorem divideBy_any (g n cap base : Nat) (zs : List Nat) (d : Nat) (w : World) (ho : Own w base 58 .u32 (.slice (some ⟨g, 0, none⟩) n cap) zs) (hs : Dg.Small 4294967296 zs) (hd : 0 < d) (hd2 : d < 4294967296) (hl : zs.length ≤ 1000000) :
    Calls Try.prog 77 #[.slice (some ⟨g, 0, none⟩) n cap, .int .u32 d] w fun e w' =>
      ∃ qs, e = .returned (.int .u32 ((Dg.vl 4294967296 zs % d : Nat) : Int)) ∧ Own w' base 58 .u32 (.slice (some ⟨g, 0, none⟩) n cap) qs ∧ qs.length = zs.length ∧ Dg.Small 4294967296 qs ∧ Dg.vl 4294967296 qs = Dg.vl 4294967296 zs / d ∧ w.grownBy w' (some g) := by
  have hn := ho.len
  subst hn
  go_enter Try.func77, Try.ntmps77
  go_wp2
  go_loopw [5, 6] (fun rv iv wr => ∃ (k r : Nat) (cur : List Nat), k ≤ zs.length ∧ iv = .int .i64 ((k : Int) - 1) ∧ rv = .int .u32 r ∧ Own wr base 58 .u32 (.slice (some ⟨g, 0, none⟩) zs.length cap) cur ∧ DivI zs cur d k r ∧ w.grownBy wr (some g))
    (fun _ iv _ => (intOf iv + 1).toNat)
  case atStart => exact ⟨zs.length, 0, zs, Nat.le_refl _, rfl, rfl, ho, ⟨rfl, hs, hd, fun _ _ => rfl, by simp [Dg.vl]⟩, grown_refl _ _⟩
  case round =>
    obtain ⟨k, r, cur, hk, rfl, rfl, own, hI, gr⟩ := hrel
    by_cases hk0 : k = 0
    · subst hk0
      go_wp2
      go_ret
      obtain ⟨h1, h2, h3, h4, h5⟩ := hI
      simp only [List.drop_zero] at h5
      have e1 : Dg.vl 4294967296 zs / d = Dg.vl 4294967296 cur := by
        rw [h5, Nat.mul_comm, Nat.mul_add_div hd, Nat.div_eq_of_lt h3]; omega
      have e2 : Dg.vl 4294967296 zs % d = r := by
        rw [h5, Nat.mul_comm, Nat.mul_add_mod, Nat.mod_eq_of_lt h3]
      exact ⟨cur, by rw [e2]; rfl, own, h1, h2, e1.symm, gr⟩
    · obtain ⟨m, rfl⟩ : ∃ m, k = m + 1 := ⟨k - 1, by omega⟩
      have hlen := hI.1
      have hz := own.cell m (by omega)
      have hf := own.free m
      have hr := hI.2.2.1
      have hzs := hs m
      rw [hI.2.2.2.1 m (by omega)] at hz
      obtain ⟨z, ez⟩ : ∃ z, zs.getD m 0 = z := ⟨_, rfl⟩
      rw [ez] at hz hzs
      have Hz : Hid (zs.getD m 0 = z) := ez
      clear ez
      have hq := div_small (t := r * 4294967296 + z) hr hzs rfl
      go_wp2_with fail
      refine (div32_any r z d wr hr hzs hd2).mono ?_
      rintro e w1 ⟨rfl, bel⟩
      have own1 := own.later bel
      have hz1 := own1.cell m (by omega)
      have hf1 := own1.free m
      have gr1 := grown_trans gr (grown_of_below (some g) bel)
      go_wp2
      go_roundw
      case rel => exact ⟨m, _, _, by omega, by go_num, rfl, own1.store m _, divI_step hI (by omega) (by rw [Hz.out]) hd hq, grown_trans gr1 (grown_set _ _ _ _)⟩
      case measure => simp [intOf]
end Go.Proofs.Ytepcafhlhnlgaaa

/-
  Contracts of nat.Mul, nat.Print, and natBegun.
-/
import Derived.Test.YtmdjmjnnenddfaaDoorDecW
namespace Go.Proofs.YtmdjmjnnenddfaaDoor
open Go.RowKit

theorem chk_zero {zs : List Nat} (h : chk zs = 0) : Dg.Norm zs ∧ zs.length ≤ 1200 := by
  unfold chk at h
  by_cases h1 : 0 < zs.length ∧ zs.getD (zs.length - 1) 0 = 0
  · rw [if_pos h1] at h; omega
  · rw [if_neg h1] at h
    by_cases h2 : 1200 < zs.length
    · rw [if_pos h2] at h; omega
    · refine ⟨fun hne e => h1 ⟨List.length_pos_iff.2 hne, e⟩, by omega⟩

theorem chk_of {zs : List Nat} (h : Dg.Norm zs) (hl : zs.length ≤ 1200) : chk zs = 0 := by
  unfold chk
  rw [if_neg (fun c => h (List.length_pos_iff.1 c.1) c.2), if_neg (by omega)]

theorem chk2_zero {xs ys : List Nat} (h : chk2 xs ys = 0) : chk xs = 0 ∧ chk ys = 0 := by
  unfold chk2 at h
  by_cases h1 : chk xs = 0
  · rw [if_pos h1] at h; exact ⟨h1, h⟩
  · rw [if_neg h1] at h; exact absurd h h1

/-- What Print answers. -/
def prS (zs : List Nat) : ByteArray := if chk zs = 0 then decS (Dg.vl 4294967296 zs) else ⟨#[]⟩

theorem rd_new {w : World} {k : IntKind} {e : Nat} (zs : List Nat) (cs : Array Value) (hcs : cs = (zs.map (fun n : Nat => Value.int k (n : Int))).toArray) (hl : zs.length ≤ maxLen) :
    Rd (w.alloc (.cells cs e)) k (.slice (some ⟨w.heap.size, 0, none⟩) zs.length zs.length) zs := by
  refine ⟨_, zs.length, rfl, Nat.le_refl _, hl, fun _ => ⟨w.heap.size, 0, rfl, fun i hi => ?_⟩⟩
  rw [World.cell?_alloc_at _ _ _ _ rfl, hcs, Nat.zero_add]
  simp only [List.getElem?_toArray]
  exact getD_map_cell k zs i hi

theorem begun_digits : Dg.dg 4294967296 12884901888 = [0, 3] :=
  (Dg.eq_dg 4294967296 (by omega) [0, 3] 12884901888 (Dg.small_cons.2 ⟨by omega, Dg.small_cons.2 ⟨by omega, Dg.small_nil _ (by omega)⟩⟩) (by intro _; decide) (by decide)).symm

theorem begun_dec : Dg.dg 10 12884901888 = [8, 8, 8, 1, 0, 9, 4, 8, 8, 2, 1] :=
  (Dg.eq_dg 10 (by omega) [8, 8, 8, 1, 0, 9, 4, 8, 8, 2, 1] 12884901888 (by
    repeat (first | exact Dg.small_nil _ (by omega) | refine Dg.small_cons.2 ⟨by omega, ?_⟩)) (by intro _; decide) (by decide)).symm

theorem begun_text : prS (Dg.dg 4294967296 12884901888) = ⟨#[49, 50, 56, 56, 52, 57, 48, 49, 56, 56, 56]⟩ := by
  unfold prS
  rw [chk_of (Dg.norm_dg _ _ (by omega)) (by rw [begun_digits]; decide), if_pos rfl, Dg.vl_dg _ _ (by omega)]
  unfold decS
  rw [if_neg (by omega), begun_dec]
  rfl

end Go.Proofs.YtmdjmjnnenddfaaDoor

/-
  Contract of longOver: division by two digits and more.
-/
import Derived.Test.YtepcafhlhnlgaaaLong0
namespace Go.Proofs.Ytepcafhlhnlgaaa
open Go.RowKit

theorem Own.other {w w' : World} {base e : Nat} {k : IntKind} {b g n cap : Nat} {zs : List Nat} (h : Own w base e k (.slice (some ⟨b, 0, none⟩) n cap) zs) (hg : w.grownBy w' (some g)) (hne : b ≠ g) : Own w' base e k (.slice (some ⟨b, 0, none⟩) n cap) zs := by
  have hb := h.block
  obtain ⟨hl, h2⟩ := h
  refine ⟨hl, ?_⟩
  rcases h2 with h2 | ⟨g', cap', cur, hv, hbg, hh, r⟩
  · exact .inl h2
  · refine .inr ⟨g', cap', cur, hv, hbg, ?_, r⟩
    simp at hv
    rw [hg.block g' (by omega) (by intro e; cases e; omega)]
    exact hh

theorem Own.form {w : World} {base e : Nat} {k : IntKind} {v : Value} {zs : List Nat} (h : Own w base e k v zs) (hp : 0 < zs.length) : ∃ g cap, v = .slice (some ⟨g, 0, none⟩) zs.length cap ∧ base ≤ g ∧ g < w.heap.size ∧ zs.length ≤ cap := by
  have h0 := h
  obtain ⟨hl, h2⟩ := h
  rcases h2 with ⟨_, h2⟩ | ⟨g', cap', cur, rfl, hbg, hh, r⟩
  · omega
  · exact ⟨g', cap', rfl, hbg, h0.block.2, r.1⟩

theorem bitLen_hi (y : Nat) (h : y ≠ 0) : 1 ≤ bitLen y ∧ 2 ^ (bitLen y - 1) ≤ y ∧ y < 2 ^ bitLen y := by
  induction y using Nat.strongRecOn with
  | _ y ih =>
    rw [bitLen_two y h]
    by_cases h2 : y / 2 = 0
    · have : y = 1 := by omega
      subst this
      simp [bitLen_zero]
    · have ⟨a, b, c⟩ := ih (y / 2) (by omega) h2
      refine ⟨by omega, ?_, ?_⟩
      · rw [show 1 + bitLen (y / 2) - 1 = (bitLen (y / 2) - 1) + 1 from by omega, Nat.pow_succ]; omega
      · rw [Nat.add_comm, Nat.pow_succ]; omega

/-- What raising by the free bits makes of the divisor. -/
theorem raised_by (ys : List Nat) (s : Nat) (sb : Dg.Small 4294967296 ys) (nb : Dg.Norm ys) (hn : 2 ≤ ys.length) (hs : s = 32 - bitLen (ys.getD (ys.length - 1) 0)) :
    s < 32 ∧ 2147483648 * 4294967296 ^ (ys.length - 1) ≤ Dg.vl 4294967296 ys * 2 ^ s ∧ Dg.vl 4294967296 ys * 2 ^ s < 4294967296 ^ ys.length := by
  have hy0 : ys.getD (ys.length - 1) 0 ≠ 0 := nb (by intro e; rw [e] at hn; simp at hn)
  have hyl := sb (ys.length - 1)
  have hsp := Dg.vl_split 4294967296 ys (ys.length - 1) (by omega)
  have hlo := Dg.vl_lt 4294967296 (ys.take (ys.length - 1)) (Dg.small_take sb _ (by omega))
  rw [List.length_take, Nat.min_eq_left (by omega)] at hlo
  rw [show ys.length - 1 + 1 = ys.length from by omega, List.drop_length] at hsp
  simp only [Dg.vl, Nat.mul_zero, Nat.add_zero] at hsp
  generalize ys.getD (ys.length - 1) 0 = y at *
  generalize Dg.vl 4294967296 (ys.take (ys.length - 1)) = lo at *
  have ⟨h1, h2, h3⟩ := bitLen_hi y hy0
  have h4 := bitLen_le_of y 32 (by omega)
  have e1 : 2 ^ (bitLen y - 1) * 2 ^ s = 2147483648 := by rw [← Nat.pow_add, show bitLen y - 1 + s = 31 from by omega]
  have e2 : 2 ^ bitLen y * 2 ^ s = 4294967296 := by rw [← Nat.pow_add, show bitLen y + s = 32 from by omega]
  have e3 : (4294967296 : Nat) ^ ys.length = 4294967296 ^ (ys.length - 1) * 4294967296 := by rw [← Nat.pow_succ, show (ys.length - 1).succ = ys.length from by omega]
  have a1 : 2 ^ (bitLen y - 1) * 2 ^ s ≤ y * 2 ^ s := Nat.mul_le_mul_right _ h2
  have a2 : (y + 1) * 2 ^ s ≤ 2 ^ bitLen y * 2 ^ s := Nat.mul_le_mul_right _ h3
  refine ⟨by omega, ?_, ?_⟩
  · rw [hsp, Nat.add_mul, Nat.mul_assoc]
    have : 4294967296 ^ (ys.length - 1) * 2147483648 ≤ 4294967296 ^ (ys.length - 1) * (y * 2 ^ s) := Nat.mul_le_mul_left _ (by omega)
    rw [Nat.mul_comm 2147483648]
    omega
  · rw [hsp, e3]
    have b1 : (lo + 4294967296 ^ (ys.length - 1) * y) < 4294967296 ^ (ys.length - 1) * (y + 1) := by rw [Nat.mul_add, Nat.mul_one]; omega
    have b2 : (lo + 4294967296 ^ (ys.length - 1) * y) * 2 ^ s < 4294967296 ^ (ys.length - 1) * (y + 1) * 2 ^ s := Nat.mul_lt_mul_of_pos_right b1 (Nat.pow_pos (by omega))
    rw [Nat.mul_assoc (4294967296 ^ (ys.length - 1)) (y + 1)] at b2
    have b3 : 4294967296 ^ (ys.length - 1) * ((y + 1) * 2 ^ s) ≤ 4294967296 ^ (ys.length - 1) * 4294967296 := Nat.mul_le_mul_left _ (by omega)
    omega

theorem dg_len_eq (n D : Nat) (hn : 1 ≤ n) (h1 : 4294967296 ^ (n - 1) ≤ D) (h2 : D < 4294967296 ^ n) : (Dg.dg 4294967296 D).length = n := by
  have a := Dg.dg_len_le 4294967296 D n (by omega) h2
  have b := Dg.vl_lt 4294967296 _ (Dg.small_dg 4294967296 D (by omega))
  rw [Dg.vl_dg 4294967296 D (by omega)] at b
  have c : n - 1 < (Dg.dg 4294967296 D).length := by
    rcases Nat.lt_or_ge (n - 1) (Dg.dg 4294967296 D).length with e | e
    · exact e
    · have := Nat.pow_le_pow_right (n := 4294967296) (by omega) e
      omega
  omega

theorem raised_len (X na s : Nat) (h : X < 4294967296 ^ na) (hs : s < 32) : (Dg.dg 4294967296 (X * 2 ^ s)).length ≤ na + 1 := by
  apply Dg.dg_len_le 4294967296 _ _ (by omega)
  have h1 : 2 ^ s ≤ 4294967296 := by have : 2 ^ s ≤ 2 ^ 32 := Nat.pow_le_pow_right (by omega) (by omega); omega
  rw [Nat.pow_succ]
  have h2 : X * 2 ^ s < 4294967296 ^ na * 2 ^ s := Nat.mul_lt_mul_of_pos_right h (Nat.pow_pos (by omega))
  have h3 : 4294967296 ^ na * 2 ^ s ≤ 4294967296 ^ na * 4294967296 := Nat.mul_le_mul_left _ h1
  omega

/-- What the loop keeps. -/
def LongI (A D M : Nat) (R os : List Nat) (N k : Nat) : Prop :=
  R.length = N ∧ os.length = M ∧ Dg.Small 4294967296 R ∧ Dg.Small 4294967296 os ∧ (∀ j, j < k → os.getD j 0 = 0) ∧ D * Dg.vl 4294967296 os + Dg.vl 4294967296 R = A ∧ Dg.vl 4294967296 R < D * 4294967296 ^ k

def LongR (w : World) (A D M N gr go gb cb : Nat) (bs : List Nat) (iv : Value) (wr : World) : Prop :=
  ∃ (k : Nat) (R os : List Nat), k ≤ M ∧ iv = .int .i64 ((k : Int) - 1) ∧ LongI A D M R os N k ∧ Own wr w.heap.size 58 .u32 (.slice (some ⟨gr, 0, none⟩) N N) R ∧ Own wr w.heap.size 58 .u32 (.slice (some ⟨go, 0, none⟩) M M) os ∧
    Own wr w.heap.size 58 .u32 (.slice (some ⟨gb, 0, none⟩) bs.length cb) bs ∧ Below w.heap.size w wr

def Two (w : World) (q r : Nat) (e : Ending) (w' : World) : Prop :=
  ∃ v1 v2, e = .returned (.tuple #[v1, v2]) ∧ Own w' w.heap.size 58 .u32 v1 (Dg.dg 4294967296 q) ∧ Own w' w.heap.size 58 .u32 v2 (Dg.dg 4294967296 r) ∧ Below w.heap.size w w'
end Go.Proofs.Ytepcafhlhnlgaaa

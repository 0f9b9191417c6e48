/-
  The contract of digits.Number.Decimal: the decimal digits of the number.
-/
import Derived.Test.YtepcafhlhnlgaaaRev
import Derived.Deep.LoopGhost
namespace Go.Proofs.Ytepcafhlhnlgaaa
open Go.RowKit

theorem Try.infoU8 : (Try.prog.info? 5).map (fun i => (i.zero, i.size, i.bytes)) = some (some (.int .u8 0), 1, 1) := by kernel_rfl

/-- The text of bytes. -/
def strOf (zs : List Nat) : ByteArray := ⟨(zs.map (fun n => UInt8.ofNat n)).toArray⟩

/-- The decimal text of a number. -/
def decS (n : Nat) : ByteArray := if n = 0 then ⟨#[48]⟩ else strOf (((Dg.dg 10 n).map (fun d => 48 + d)).reverse)

theorem fold_push : ∀ (zs : List Nat) (s : ByteArray), ((zs.map (fun n : Nat => (n : Int))).foldl (fun r n => r.push (UInt8.ofNat n.toNat)) s) = ⟨s.data ++ (zs.map (fun n => UInt8.ofNat n)).toArray⟩ := by
  intro zs
  induction zs with
  | nil => intro s; simp
  | cons z zs ih =>
    intro s
    simp only [List.map_cons, List.foldl_cons]
    rw [ih]
    simp [ByteArray.push]

theorem convert_bytes {P : Program} {w : World} {base e g n cap : Nat} {zs : List Nat} (src dst : TypeId) (hs : P.underlying src = some (.slice e)) (he : P.underlying e = some (.int .u8)) (hd : P.underlying dst = some .string)
    (h : Own w base e .u8 (.slice (some ⟨g, 0, none⟩) n cap) zs) : (convert src dst (.slice (some ⟨g, 0, none⟩) n cap)).run P w = .ok (.string (strOf zs)) w := by
  rw [run_convert_bytes_string w src dst e _ _ _ hs he hd]
  have hn := h.len
  subst hn
  have hl := run_loadCells_list (P := P) w ⟨g, 0, none⟩ (zs.map (fun n : Nat => Value.int .u8 (n : Int))) (by
    intro j u hj
    have hjl : j < zs.length := by have := (List.getElem?_eq_some_iff.1 hj).1; simpa using this
    rw [getD_map_cell _ zs j hjl] at hj
    rw [addr_add, Nat.zero_add, h.cell j hjl]; exact hj)
  rw [List.length_map] at hl
  have := run_bytesToString (P := P) w ⟨g, 0, none⟩ zs.length cap (zs.map (fun n : Nat => (n : Int))) (by
    rw [hl]; simp)
  rw [this, fold_push]
  simp [strOf]

theorem Own.keep {w w' : World} {base e : Nat} {k : IntKind} {v : Value} {zs : List Nat} {G : Nat} (h : Own w base e k v zs) (hg : w.grownBy w' (some G)) (hlt : G < base) : Own w' base e k v zs := by
  refine World.ownsRow.kept h hg ?_
  by_cases hb : v.ownBlock = some G
  · have := (World.ownsRow.lt h G hb).1
    omega
  · exact .inr hb

theorem Own.keep2 {w w' : World} {base base' e e' : Nat} {k k' : IntKind} {v' : Value} {zs zs' : List Nat} {g n cap : Nat} (h : Own w base e k (.slice (some ⟨g, 0, none⟩) n cap) zs) (h' : Own w base' e' k' v' zs') (hlt : g < base') (hg : w.grownBy w' v'.ownBlock) :
    Own w' base e k (.slice (some ⟨g, 0, none⟩) n cap) zs := by
  have hn := h.len
  subst hn
  refine World.ownsRow.kept h hg (.inr ?_)
  intro e
  have := (World.ownsRow.lt h' g e.symm).1
  omega

/-- What is said of the number while its digits are taken: ds are taken, m is left. -/
def DecO (n : Nat) (ds : List Nat) (m : Nat) : Prop := Dg.Small 10 ds ∧ n = Dg.vl 10 ds + 10 ^ ds.length * m

/-- Within a group of nine: g of the group is left, j are taken. -/
def DecI (n m : Nat) (ds : List Nat) (j g : Nat) : Prop := Dg.Small 10 ds ∧ j ≤ 9 ∧ g < 10 ^ (9 - j) ∧ n = Dg.vl 10 ds + 10 ^ ds.length * (g + 10 ^ (9 - j) * m)

theorem small_snoc {B : Nat} {l : List Nat} {x : Nat} (h : Dg.Small B l) (hx : x < B) : Dg.Small B (l ++ [x]) := by
  intro i
  rw [List.getD_eq_getElem?_getD, List.getElem?_append]
  by_cases hi : i < l.length
  · rw [if_pos hi]; simpa [List.getD_eq_getElem?_getD] using h i
  · rw [if_neg hi]
    by_cases h2 : i - l.length = 0
    · simp [h2]; exact hx
    · rw [List.getElem?_eq_none (by simp; omega)]; simp; omega

theorem decI_start {n m : Nat} {ds : List Nat} (h : DecO n ds m) : DecI n (m / 1000000000) ds 0 (m % 1000000000) := by
  refine ⟨h.1, by omega, by simp; omega, ?_⟩
  rw [h.2]
  have : m % 1000000000 + 10 ^ (9 - 0) * (m / 1000000000) = m := by simpa using Nat.mod_add_div m 1000000000
  rw [this]

theorem decI_step {n m : Nat} {ds : List Nat} {j g : Nat} (h : DecI n m ds j g) (hj : j < 9) : DecI n m (ds ++ [g % 10]) (j + 1) (g / 10) := by
  obtain ⟨h1, h2, h3, h4⟩ := h
  have e : 9 - j = (9 - (j + 1)) + 1 := by omega
  rw [e, Nat.pow_succ] at h3 h4
  refine ⟨small_snoc h1 (Nat.mod_lt _ (by omega)), by omega, by omega, ?_⟩
  rw [Dg.vl_append]
  simp only [Dg.vl, List.length_append, List.length_cons, List.length_nil, Nat.pow_succ]
  rw [h4]
  generalize 10 ^ (9 - (j + 1)) = p at *
  have e2 : g + p * 10 * m = g % 10 + 10 * (g / 10 + p * m) := by
    have := Nat.mod_add_div g 10
    rw [Nat.mul_add, Nat.mul_comm p 10, Nat.mul_assoc]; omega
  rw [e2, Nat.mul_add]
  simp only [Nat.mul_zero, Nat.add_zero]
  rw [Nat.mul_assoc]
  omega

theorem decI_end {n m : Nat} {ds : List Nat} {g : Nat} (h : DecI n m ds 9 g) : DecO n ds m := by
  obtain ⟨h1, h2, h3, h4⟩ := h
  have : g = 0 := by simpa using h3
  subst this
  exact ⟨h1, by simpa using h4⟩

theorem pow_lt_of (a b : Nat) (h : 10 ^ a < 4294967296 ^ b) : a < 32 * b := by
  have h1 : 2 ^ a ≤ 10 ^ a := Nat.pow_le_pow_left (by omega) a
  have h2 : (4294967296 : Nat) ^ b = 2 ^ (32 * b) := by rw [Nat.pow_mul]
  rw [h2] at h
  exact (Nat.pow_lt_pow_iff_right (by omega)).1 (Nat.lt_of_le_of_lt h1 h)

theorem decO_len {n m : Nat} {ds : List Nat} {L : Nat} (h : DecO n ds m) (hm : m ≠ 0) (hn : n < 4294967296 ^ L) : ds.length < 32 * L := by
  apply pow_lt_of
  have : 10 ^ ds.length ≤ 10 ^ ds.length * m := Nat.le_mul_of_pos_right _ (by omega)
  have := h.2
  omega
end Go.Proofs.Ytepcafhlhnlgaaa

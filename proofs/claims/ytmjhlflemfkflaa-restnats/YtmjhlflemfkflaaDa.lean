/-
  Texts laid together: Dy1, Dy2, Dy3, Dy4.
-/
import Derived.Test.YtmjhlflemfkflaaDz
import Derived.Test.YtmjhlflemfkflaaNd
import Derived.Shelf.Spec.TrailingZeros
import Derived.Handy
import Derived.Deep.RegionHeld3
import Derived.Laws.ResultCell
/-
  Contracts of bits.TrailingZeros32 (its table laid) and of Twos.
-/
namespace Go.Proofs.Ytmjhlflemfkflaa
open Go.RowKit

/-- The library's table lies in its variable. -/
def Tab (w : World) : Prop := ∀ j, j < 32 → w.cell? ⟨0, j, none⟩ = some (.int .u8 ((Lib.deBruijn32tab.getD j 0 : Nat) : Int))

theorem Tab.later {w w' : World} (h : Tab w) (hb : Below w.heap.size w w') : Tab w' := fun j hj => cell_later hb (h j hj)

theorem cmpI_nl {a b : Int} (h : b ≤ a) : decide (cmpI a b < 0) = false := by
  unfold cmpI
  rw [if_neg (by omega)]
  by_cases h2 : b < a
  · rw [if_pos h2]; rfl
  · rw [if_neg h2]; rfl

theorem zeros_mul (l : List Nat) (k : Nat) (h : ∀ j, j < k → l.getD j 0 = 0) : ∃ q, Dg.vl 4294967296 l = 4294967296 ^ k * q := by
  by_cases hk : k ≤ l.length
  · refine ⟨Dg.vl 4294967296 (l.drop k), ?_⟩
    rw [Dg.vl_take_drop 4294967296 l k hk, Dg.vl_zeros 4294967296 (l.take k) (fun i => ?_), Nat.zero_add]
    by_cases hi : i < k
    · have := h i hi
      simpa [List.getD_eq_getElem?_getD, List.getElem?_take, hi] using this
    · simp [List.getD_eq_getElem?_getD, List.getElem?_take, hi]
  · refine ⟨0, ?_⟩
    rw [Nat.mul_zero]
    exact Dg.vl_zeros _ _ (fun i => by
      by_cases hi : i < k
      · exact h i hi
      · simp [List.getD_eq_getElem?_getD, show l.length ≤ i from by omega])

/-- The first digit that is not 0 tells. -/
theorem tz_digit (l : List Nat) (k t m : Nat) (hk : k < l.length) (h : ∀ j, j < k → l.getD j 0 = 0) (hd : l.getD k 0 = 2 ^ t * (2 * m + 1)) (ht : t < 32) : tz (Dg.vl 4294967296 l) = 32 * k + t := by
  have h1 := Dg.vl_split 4294967296 l k hk
  have h0 : Dg.vl 4294967296 (l.take k) = 0 := Dg.vl_zeros 4294967296 (l.take k) (fun i => by
    by_cases hi : i < k
    · have := h i hi
      simpa [List.getD_eq_getElem?_getD, List.getElem?_take, hi] using this
    · simp [List.getD_eq_getElem?_getD, List.getElem?_take, hi])
  rw [h0, hd, Nat.zero_add] at h1
  obtain ⟨u, hu⟩ : ∃ u, Dg.vl 4294967296 (l.drop (k + 1)) = u := ⟨_, rfl⟩
  rw [hu] at h1
  have e32 : (4294967296 : Nat) = 2 ^ t * (2 * 2 ^ (31 - t)) := by
    have : (4294967296 : Nat) = 2 ^ (t + (1 + (31 - t))) := by rw [show t + (1 + (31 - t)) = 32 from by omega]
    rw [this, Nat.pow_add, Nat.pow_add, Nat.pow_one]
  have e1 : (2 : Nat) ^ (32 * k) = 4294967296 ^ k := by rw [Nat.pow_mul]
  refine tz_eq (m := m + 2 ^ (31 - t) * u) ?_
  rw [h1, Nat.pow_add, e1, Nat.mul_assoc]
  congr 1
  generalize 2 ^ (31 - t) = c at *
  have e2 : 4294967296 * u = 2 ^ t * (2 * (c * u)) := by rw [e32]; simp only [Nat.mul_assoc]
  rw [e2, ← Nat.mul_add]
  congr 1
  omega

end Go.Proofs.Ytmjhlflemfkflaa
/-
  Contracts of package long, up to Short.
-/
namespace Go.Proofs.Ytmjhlflemfkflaa
open Go.RowKit

/-- The value v is this dyad, its mantissa without noughts at its end. -/
def Dv (w : World) (v : Value) (t : Trip) : Prop := ∃ s, v = .agg #[.bool t.s, s, .int .i64 t.e] ∧ Rd w .u32 s (Dg.dg 4294967296 t.n)

def DRes (w : World) (t : Trip) (e : Ending) (w' : World) : Prop := ∃ s, e = .returned (.agg #[.bool t.s, s, .int .i64 t.e]) ∧ Own w' w.heap.size 26 .u32 s (Dg.dg 4294967296 t.n) ∧ Below w.heap.size w w'

theorem Dv.later {w w' : World} {v : Value} {t : Trip} (h : Dv w v t) (hb : Below w.heap.size w w') : Dv w' v t := by
  obtain ⟨s, hv, hr⟩ := h
  exact ⟨s, hv, hr.later hb⟩

/-- A struct of three cells of the call's own. -/
def Loc (w : World) (b : Nat) (v0 v1 v2 : Value) : Prop :=
  b < w.heap.size ∧ (w.cell? ⟨b, 0, none⟩ = some v0 ∧ w.cell? ⟨b, 1, none⟩ = some v1 ∧ w.cell? ⟨b, 2, none⟩ = some v2) ∧ w.frozen? ⟨b, 0, none⟩ = false ∧ w.frozen? ⟨b, 1, none⟩ = false ∧ w.frozen? ⟨b, 2, none⟩ = false

theorem Loc.later {w w' : World} {b : Nat} {v0 v1 v2 : Value} (h : Loc w b v0 v1 v2) (hb : Below w.heap.size w w') : Loc w' b v0 v1 v2 := by
  obtain ⟨hl, ⟨c0, c1, c2⟩, f0, f1, f2⟩ := h
  have hk := hb.block b hl
  refine ⟨Nat.lt_of_lt_of_le hl hb.size, ⟨cell_later hb c0, cell_later hb c1, cell_later hb c2⟩, ?_, ?_, ?_⟩
  · rw [World.frozen?_of_block (w := w) (a := ⟨b, 0, none⟩) hk]; exact f0
  · rw [World.frozen?_of_block (w := w) (a := ⟨b, 1, none⟩) hk]; exact f1
  · rw [World.frozen?_of_block (w := w) (a := ⟨b, 2, none⟩) hk]; exact f2

theorem loc_new (w : World) (v0 v1 v2 : Value) (ty : TypeId) : Loc (w.alloc (.cells #[v0, v1, v2] ty)) w.heap.size v0 v1 v2 := by
  refine ⟨by simp [World.size_alloc], ⟨?_, ?_, ?_⟩, ?_, ?_, ?_⟩
  · rw [World.cell?_alloc_at _ _ _ _ rfl]; rfl
  · rw [World.cell?_alloc_at _ _ _ _ rfl]; rfl
  · rw [World.cell?_alloc_at _ _ _ _ rfl]; rfl
  · exact World.frozen?_alloc_at _ _ _ _ rfl
  · exact World.frozen?_alloc_at _ _ _ _ rfl
  · exact World.frozen?_alloc_at _ _ _ _ rfl

theorem loc_set {w : World} {b : Nat} {v0 v1 v2 : Value} (h : Loc w b v0 v1 v2) (x0 x1 x2 : Value) :
    Loc (((w.setCell ⟨b, 0, none⟩ x0).setCell ⟨b, 1, none⟩ x1).setCell ⟨b, 2, none⟩ x2) b x0 x1 x2 := by
  obtain ⟨hl, ⟨c0, c1, c2⟩, f0, f1, f2⟩ := h
  refine ⟨by simpa using hl, ⟨?_, ?_, ?_⟩, ?_, ?_, ?_⟩
  · rw [World.cell?_setCell_other (h := by simp), World.cell?_setCell_other (h := by simp)]
    exact World.cell?_setCell_same _ _ _ c0
  · have k1 : (w.setCell ⟨b, 0, none⟩ x0).cell? ⟨b, 1, none⟩ = some v1 := by rw [World.cell?_setCell_other (h := by simp)]; exact c1
    rw [World.cell?_setCell_other (h := by simp)]
    exact World.cell?_setCell_same _ _ _ k1
  · have k2 : ((w.setCell ⟨b, 0, none⟩ x0).setCell ⟨b, 1, none⟩ x1).cell? ⟨b, 2, none⟩ = some v2 := by rw [World.cell?_setCell_other (h := by simp), World.cell?_setCell_other (h := by simp)]; exact c2
    exact World.cell?_setCell_same _ _ _ k2
  · simpa using f0
  · simpa using f1
  · simpa using f2

theorem Own.apart {w w' : World} {base e b : Nat} {k : IntKind} {v : Value} {zs : List Nat} (h : Own w base e k v zs) (hg : w.grownBy w' (some b)) (hb : b < base) : Own w' base e k v zs := by
  obtain ⟨hl, h2⟩ := h
  refine ⟨hl, ?_⟩
  rcases h2 with h2 | ⟨g', cap', cur, hv, hbg, hh, r⟩
  · exact .inl h2
  · refine .inr ⟨g', cap', cur, hv, hbg, ?_, r⟩
    have hlt : g' < w.heap.size := by
      rw [Array.getElem?_eq_some_iff] at hh
      exact hh.1
    rw [hg.block g' hlt (by intro e; cases e; omega)]
    exact hh

theorem Own.apart3 {w : World} {base e b : Nat} {k : IntKind} {v : Value} {zs : List Nat} (h : Own w base e k v zs) (hb : b < base) (x0 x1 x2 : Value) :
    Own (((w.setCell ⟨b, 0, none⟩ x0).setCell ⟨b, 1, none⟩ x1).setCell ⟨b, 2, none⟩ x2) base e k v zs :=
  ((h.apart (grown_set w b 0 x0) hb).apart (grown_set _ b 1 x1) hb).apart (grown_set _ b 2 x2) hb

theorem rd_nil (w : World) (k : IntKind) : Rd w k (.slice none 0 0) [] := (own_nil w 0 0 k).rd

theorem below_alloc (w : World) (o : Obj) : Below w.heap.size w (w.alloc o) := (Below.refl _ _).alloc (Nat.le_refl _) _

end Go.Proofs.Ytmjhlflemfkflaa
/-
  Contract of Short.
-/
namespace Go.Proofs.Ytmjhlflemfkflaa
open Go.RowKit

/-- Bare, unless it needs more than a dyad may have. -/
def shortT (t : Trip) : Trip × Int :=
  if 1200 < (Dg.dg 4294967296 (bare t).n).length then (⟨false, 0, 0⟩, 2) else if (bare t).e < -20000 ∨ 20000 < (bare t).e then (⟨false, 0, 0⟩, 3) else (bare t, 0)

def DAns (w : World) (r : Trip × Int) (e : Ending) (w' : World) : Prop :=
  ∃ s, e = .returned (.tuple #[.agg #[.bool r.1.s, s, .int .i64 r.1.e], .int .i64 r.2]) ∧ Own w' w.heap.size 26 .u32 s (Dg.dg 4294967296 r.1.n) ∧ Below w.heap.size w w'

theorem Loc.apart {w : World} {b c : Nat} {v0 v1 v2 : Value} (h : Loc w b v0 v1 v2) (hne : c ≠ b) (x0 x1 x2 : Value) :
    Loc (((w.setCell ⟨c, 0, none⟩ x0).setCell ⟨c, 1, none⟩ x1).setCell ⟨c, 2, none⟩ x2) b v0 v1 v2 := by
  obtain ⟨hl, ⟨c0, c1, c2⟩, f0, f1, f2⟩ := h
  refine ⟨by simpa using hl, ⟨?_, ?_, ?_⟩, by simpa using f0, by simpa using f1, by simpa using f2⟩
  · rw [World.cell?_setCell_other (h := by simp), World.cell?_setCell_other (h := by simp), World.cell?_setCell_other (h := by simp)]; exact c0
  · rw [World.cell?_setCell_other (h := by simp), World.cell?_setCell_other (h := by simp), World.cell?_setCell_other (h := by simp)]; exact c1
  · rw [World.cell?_setCell_other (h := by simp), World.cell?_setCell_other (h := by simp), World.cell?_setCell_other (h := by simp)]; exact c2

theorem below_set3 {B b : Nat} {w w1 : World} (h : Below B w w1) (hb : B ≤ b) (x0 x1 x2 : Value) : Below B w (((w1.setCell ⟨b, 0, none⟩ x0).setCell ⟨b, 1, none⟩ x1).setCell ⟨b, 2, none⟩ x2) :=
  ((h.setCell (p := ⟨b, 0, none⟩) hb x0).setCell (p := ⟨b, 1, none⟩) hb x1).setCell (p := ⟨b, 2, none⟩) hb x2

end Go.Proofs.Ytmjhlflemfkflaa
/-
  Contracts of package long: at, Plus, Minus, Times, Sign, Compare.
-/
namespace Go.Proofs.Ytmjhlflemfkflaa
open Go.RowKit

theorem shN_up (n : Nat) (i : Int) (h : 0 ≤ i) : shN n i = n * 2 ^ i.toNat := by
  unfold shN
  rw [if_neg (by omega)]

def dshape (t : Trip) (ao : Option Addr) (ca : Nat) : Value := .agg #[.bool t.s, .slice ao (Dg.dg 4294967296 t.n).length ca, .int .i64 t.e]

theorem up_len (n k L j : Nat) (h : (Dg.dg 4294967296 n).length ≤ L) (hk : k ≤ 32 * j) : (Dg.dg 4294967296 (n * 2 ^ k)).length ≤ L + j := by
  apply Dg.dg_len_le 4294967296 _ _ (by omega)
  have h1 := Dg.vl_lt 4294967296 (Dg.dg 4294967296 n) (Dg.small_dg _ _ (by omega))
  rw [Dg.vl_dg _ _ (by omega)] at h1
  have h2 : 4294967296 ^ (Dg.dg 4294967296 n).length ≤ 4294967296 ^ L := Nat.pow_le_pow_right (by omega) h
  have h3 : 2 ^ k ≤ 4294967296 ^ j := by
    rw [show (4294967296 : Nat) = 2 ^ 32 from rfl, ← Nat.pow_mul]
    exact Nat.pow_le_pow_right (by omega) (by omega)
  rw [Nat.pow_add]
  have h4 : 0 < 4294967296 ^ j := Nat.pow_pos (by omega)
  generalize 4294967296 ^ j = c at *
  generalize 4294967296 ^ L = d at *
  have h5 : n * 2 ^ k ≤ n * c := Nat.mul_le_mul_left _ h3
  have h6 : n * c < d * c := Nat.mul_lt_mul_of_pos_right (by omega) h4
  omega

end Go.Proofs.Ytmjhlflemfkflaa

/-
  The walk of digits.Number.Decimal.
-/
import Derived.Test.YtmdjmjnnenddfaaDoorDec
namespace Go.Proofs.YtmdjmjnnenddfaaDoor
open Go.RowKit

theorem below_of_grown {B : Nat} {w w1 w2 : World} {g : Nat} (h : Below B w w1) (hB : B ≤ w1.heap.size) (hg : w1.grownBy w2 (some g)) (hle : B ≤ g) : Below B w w2 :=
  h.grown hg hB (fun k hk => by cases hk; exact hle)

theorem Own.shapeOf {w : World} {base e : Nat} {k : IntKind} {v : Value} {zs : List Nat} (h : Own w base e k v zs) (hp : zs ≠ []) : ∃ g cap, v = .slice (some ⟨g, 0, none⟩) zs.length cap ∧ base ≤ g ∧ g < w.heap.size := by
  rcases h.2 with ⟨hv, hn⟩ | ⟨g, cap, cur, hv, hb, hh, _⟩
  · exact absurd (List.eq_nil_of_length_eq_zero hn) hp
  · exact ⟨g, cap, hv, hb, by rw [Array.getElem?_eq_some_iff] at hh; exact hh.1⟩

theorem Own.cap {w : World} {base e : Nat} {k : IntKind} {g n cap : Nat} {zs : List Nat} (h : Own w base e k (.slice (some ⟨g, 0, none⟩) n cap) zs) : n ≤ cap ∧ cap ≤ 9223372036854775807 := by
  have hn := h.len
  subst hn
  rcases h.2 with ⟨hv, _⟩ | ⟨g', cap', cur, hv, hb, hh, hnc, hcm, hcs, htake⟩
  · simp at hv
  · simp only [Value.slice.injEq, Option.some.injEq, Addr.mk.injEq, and_true, true_and] at hv
    obtain ⟨rfl, rfl⟩ := hv
    exact ⟨hnc, by unfold maxLen at hcm; exact hcm⟩

/-- What the outer loop keeps. -/
def DecR (w : World) (L n m : Nat) (lv rv : Value) (wr : World) : Prop :=
  ∃ ds len, rv = .slice (some ⟨w.heap.size, 0, none⟩) len L ∧ Own wr w.heap.size 56 .u32 (.slice (some ⟨w.heap.size, 0, none⟩) len L) (Dg.dg 4294967296 m) ∧ Own wr (w.heap.size + 1) 5 .u8 lv (ds.map (fun d => 48 + d)) ∧ DecO n ds m ∧ Below w.heap.size w wr ∧ w.heap.size < wr.heap.size ∧ len ≤ L ∧ ds.length ≤ 32 * L + 9

/-- What the inner loop keeps. -/
def DecS (w : World) (L n m len base0 : Nat) (qs : List Nat) (lv gv jv : Value) (wr : World) : Prop :=
  ∃ ds j g, gv = .int .u32 ((g : Nat) : Int) ∧ jv = .int .i64 ((j : Nat) : Int) ∧ j ≤ 9 ∧ ds.length = base0 + j ∧ g < 1000000000 ∧ Own wr w.heap.size 56 .u32 (.slice (some ⟨w.heap.size, 0, none⟩) len L) qs ∧ Own wr (w.heap.size + 1) 5 .u8 lv (ds.map (fun d => 48 + d)) ∧ DecI n m ds j g ∧ Below w.heap.size w wr ∧ w.heap.size < wr.heap.size

theorem dec_append {w wr w3 : World} {L len g : Nat} {qs es : List Nat} {lv v' : Value} (bel : Below w.heap.size w wr) (hsz : w.heap.size < wr.heap.size)
    (ownQ : Own wr w.heap.size 56 .u32 (.slice (some ⟨w.heap.size, 0, none⟩) len L) qs) (ownL : Own wr (w.heap.size + 1) 5 .u8 lv (es.map (fun d => 48 + d)))
    (hown' : w3.ownsRow (w.heap.size + 1) 5 1 v' (es.length + 1) ((es.map ((fun n : Nat => Value.int .u8 (n : Int)) ∘ fun d => 48 + d)) ++ [.int .u8 (48 + (g : Int) % 10)]))
    (hgrow : (wr.alloc (.cells #[.int .u8 (48 + (g : Int) % 10)] 5)).grownBy w3 lv.ownBlock) :
    Own w3 w.heap.size 56 .u32 (.slice (some ⟨w.heap.size, 0, none⟩) len L) qs ∧ Own w3 (w.heap.size + 1) 5 .u8 v' ((es ++ [g % 10]).map (fun d => 48 + d)) ∧ Below w.heap.size w w3 ∧ w.heap.size < w3.heap.size := by
  have b1 : Below wr.heap.size wr (wr.alloc (.cells #[.int .u8 (48 + (g : Int) % 10)] 5)) := (Below.refl _ _).alloc (Nat.le_refl _) _
  refine ⟨(ownQ.later b1).keep2 (ownL.later b1) (by omega) hgrow, ?_, ?_, ?_⟩
  · unfold Own
    have e : (48 + (g : Int) % 10) = ((48 + g % 10 : Nat) : Int) := by omega
    rw [e] at hown'
    simpa using hown'
  · refine (below_trans bel b1).grown hgrow (Nat.le_trans bel.size b1.size) (fun k hk => ?_)
    have := (World.ownsRow.lt ownL k hk).1
    omega
  · exact Nat.lt_of_lt_of_le hsz (Nat.le_trans b1.size hgrow.size)

theorem dec_text {n k : Nat} {ds : List Nat} (hne : n ≠ 0) (hn : n = Dg.vl 10 ds) (htr : ds.take k = Dg.dg 10 (Dg.vl 10 ds)) : strOf (((ds.map (fun d => 48 + d)).take k).reverse) = decS n := by
  subst hn
  unfold decS
  rw [if_neg hne, ← List.map_take, htr]

end Go.Proofs.YtmdjmjnnenddfaaDoor

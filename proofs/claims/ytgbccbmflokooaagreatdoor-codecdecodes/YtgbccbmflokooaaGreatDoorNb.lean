/-
  Texts laid together: Dec, DecW, Begun, Row, Add, Plus, Minus, Cmp, SubN.
-/
import Derived.Test.YtgbccbmflokooaaGreatDoorNa
import Derived.Deep.LoopGhost
import Derived.OpenShut
/-
  The contract of digits.Number.Decimal: the decimal digits of the number.
-/
namespace Go.Proofs.YtgbccbmflokooaaGreatDoor
open Go.RowKit

theorem Tryz.infoU8 : (Tryz.prog.info? 5).map (fun i => (i.zero, i.size, i.bytes)) = some (some (.int .u8 0), 1, 1) := by kernel_rfl

/-- The text of bytes. -/
def strOf (zs : List Nat) : ByteArray := ⟨(zs.map (fun n => UInt8.ofNat n)).toArray⟩

/-- The decimal text of a number. -/
def decS (n : Nat) : ByteArray := if n = 0 then ⟨#[48]⟩ else strOf (((Dg.dg 10 n).map (fun d => 48 + d)).reverse)

theorem fold_push : ∀ (zs : List Nat) (s : ByteArray), ((zs.map (fun n : Nat => (n : Int))).foldl (fun r n => r.push (UInt8.ofNat n.toNat)) s) = ⟨s.data ++ (zs.map (fun n => UInt8.ofNat n)).toArray⟩ := by
  intro zs
  induction zs with
  | nil => intro s; simp
  | cons z zs ih =>
    intro s
    simp only [List.map_cons, List.foldl_cons]
    rw [ih]
    simp [ByteArray.push]

theorem convert_bytes {P : Program} {w : World} {base e g n cap : Nat} {zs : List Nat} (src dst : TypeId) (hs : P.underlying src = some (.slice e)) (he : P.underlying e = some (.int .u8)) (hd : P.underlying dst = some .string)
    (h : Own w base e .u8 (.slice (some ⟨g, 0, none⟩) n cap) zs) : (convert src dst (.slice (some ⟨g, 0, none⟩) n cap)).run P w = .ok (.string (strOf zs)) w := by
  rw [run_convert_bytes_string w src dst e _ _ _ hs he hd]
  have hn := h.len
  subst hn
  have hl := run_loadCells_list (P := P) w ⟨g, 0, none⟩ (zs.map (fun n : Nat => Value.int .u8 (n : Int))) (by
    intro j u hj
    have hjl : j < zs.length := by have := (List.getElem?_eq_some_iff.1 hj).1; simpa using this
    rw [getD_map_cell _ zs j hjl] at hj
    rw [addr_add, Nat.zero_add, h.cell j hjl]; exact hj)
  rw [List.length_map] at hl
  have := run_bytesToString (P := P) w ⟨g, 0, none⟩ zs.length cap (zs.map (fun n : Nat => (n : Int))) (by
    rw [hl]; simp)
  rw [this, fold_push]
  simp [strOf]

theorem Own.keep {w w' : World} {base e : Nat} {k : IntKind} {v : Value} {zs : List Nat} {G : Nat} (h : Own w base e k v zs) (hg : w.grownBy w' (some G)) (hlt : G < base) : Own w' base e k v zs := by
  refine World.ownsRow.kept h hg ?_
  by_cases hb : v.ownBlock = some G
  · have := (World.ownsRow.lt h G hb).1
    omega
  · exact .inr hb

theorem Own.keep2 {w w' : World} {base base' e e' : Nat} {k k' : IntKind} {v' : Value} {zs zs' : List Nat} {g n cap : Nat} (h : Own w base e k (.slice (some ⟨g, 0, none⟩) n cap) zs) (h' : Own w base' e' k' v' zs') (hlt : g < base') (hg : w.grownBy w' v'.ownBlock) :
    Own w' base e k (.slice (some ⟨g, 0, none⟩) n cap) zs := by
  have hn := h.len
  subst hn
  refine World.ownsRow.kept h hg (.inr ?_)
  intro e
  have := (World.ownsRow.lt h' g e.symm).1
  omega

/-- What is said of the number while its digits are taken: ds are taken, m is left. -/
def DecO (n : Nat) (ds : List Nat) (m : Nat) : Prop := Dg.Small 10 ds ∧ n = Dg.vl 10 ds + 10 ^ ds.length * m

/-- Within a group of nine: g of the group is left, j are taken. -/
def DecI (n m : Nat) (ds : List Nat) (j g : Nat) : Prop := Dg.Small 10 ds ∧ j ≤ 9 ∧ g < 10 ^ (9 - j) ∧ n = Dg.vl 10 ds + 10 ^ ds.length * (g + 10 ^ (9 - j) * m)

theorem small_snoc {B : Nat} {l : List Nat} {x : Nat} (h : Dg.Small B l) (hx : x < B) : Dg.Small B (l ++ [x]) := by
  intro i
  rw [List.getD_eq_getElem?_getD, List.getElem?_append]
  by_cases hi : i < l.length
  · rw [if_pos hi]; simpa [List.getD_eq_getElem?_getD] using h i
  · rw [if_neg hi]
    by_cases h2 : i - l.length = 0
    · simp [h2]; exact hx
    · rw [List.getElem?_eq_none (by simp; omega)]; simp; omega

theorem decI_start {n m : Nat} {ds : List Nat} (h : DecO n ds m) : DecI n (m / 1000000000) ds 0 (m % 1000000000) := by
  refine ⟨h.1, by omega, by simp; omega, ?_⟩
  rw [h.2]
  have : m % 1000000000 + 10 ^ (9 - 0) * (m / 1000000000) = m := by simpa using Nat.mod_add_div m 1000000000
  rw [this]

theorem decI_step {n m : Nat} {ds : List Nat} {j g : Nat} (h : DecI n m ds j g) (hj : j < 9) : DecI n m (ds ++ [g % 10]) (j + 1) (g / 10) := by
  obtain ⟨h1, h2, h3, h4⟩ := h
  have e : 9 - j = (9 - (j + 1)) + 1 := by omega
  rw [e, Nat.pow_succ] at h3 h4
  refine ⟨small_snoc h1 (Nat.mod_lt _ (by omega)), by omega, by omega, ?_⟩
  rw [Dg.vl_append]
  simp only [Dg.vl, List.length_append, List.length_cons, List.length_nil, Nat.pow_succ]
  rw [h4]
  generalize 10 ^ (9 - (j + 1)) = p at *
  have e2 : g + p * 10 * m = g % 10 + 10 * (g / 10 + p * m) := by
    have := Nat.mod_add_div g 10
    rw [Nat.mul_add, Nat.mul_comm p 10, Nat.mul_assoc]; omega
  rw [e2, Nat.mul_add]
  simp only [Nat.mul_zero, Nat.add_zero]
  rw [Nat.mul_assoc]
  omega

theorem decI_end {n m : Nat} {ds : List Nat} {g : Nat} (h : DecI n m ds 9 g) : DecO n ds m := by
  obtain ⟨h1, h2, h3, h4⟩ := h
  have : g = 0 := by simpa using h3
  subst this
  exact ⟨h1, by simpa using h4⟩

theorem pow_lt_of (a b : Nat) (h : 10 ^ a < 4294967296 ^ b) : a < 32 * b := by
  have h1 : 2 ^ a ≤ 10 ^ a := Nat.pow_le_pow_left (by omega) a
  have h2 : (4294967296 : Nat) ^ b = 2 ^ (32 * b) := by rw [Nat.pow_mul]
  rw [h2] at h
  exact (Nat.pow_lt_pow_iff_right (by omega)).1 (Nat.lt_of_le_of_lt h1 h)

theorem decO_len {n m : Nat} {ds : List Nat} {L : Nat} (h : DecO n ds m) (hm : m ≠ 0) (hn : n < 4294967296 ^ L) : ds.length < 32 * L := by
  apply pow_lt_of
  have : 10 ^ ds.length ≤ 10 ^ ds.length * m := Nat.le_mul_of_pos_right _ (by omega)
  have := h.2
  omega
end Go.Proofs.YtgbccbmflokooaaGreatDoor
/-
  The walk of digits.Number.Decimal.
-/
namespace Go.Proofs.YtgbccbmflokooaaGreatDoor
open Go.RowKit

theorem below_of_grown {B : Nat} {w w1 w2 : World} {g : Nat} (h : Below B w w1) (hB : B ≤ w1.heap.size) (hg : w1.grownBy w2 (some g)) (hle : B ≤ g) : Below B w w2 :=
  h.grown hg hB (fun k hk => by cases hk; exact hle)

theorem Own.shapeOf {w : World} {base e : Nat} {k : IntKind} {v : Value} {zs : List Nat} (h : Own w base e k v zs) (hp : zs ≠ []) : ∃ g cap, v = .slice (some ⟨g, 0, none⟩) zs.length cap ∧ base ≤ g ∧ g < w.heap.size := by
  rcases h.2 with ⟨hv, hn⟩ | ⟨g, cap, cur, hv, hb, hh, _⟩
  · exact absurd (List.eq_nil_of_length_eq_zero hn) hp
  · exact ⟨g, cap, hv, hb, by rw [Array.getElem?_eq_some_iff] at hh; exact hh.1⟩

theorem Own.cap {w : World} {base e : Nat} {k : IntKind} {g n cap : Nat} {zs : List Nat} (h : Own w base e k (.slice (some ⟨g, 0, none⟩) n cap) zs) : n ≤ cap ∧ cap ≤ 9223372036854775807 := by
  have hn := h.len
  subst hn
  rcases h.2 with ⟨hv, _⟩ | ⟨g', cap', cur, hv, hb, hh, hnc, hcm, hcs, htake⟩
  · simp at hv
  · simp only [Value.slice.injEq, Option.some.injEq, Addr.mk.injEq, and_true, true_and] at hv
    obtain ⟨rfl, rfl⟩ := hv
    exact ⟨hnc, by unfold maxLen at hcm; exact hcm⟩

theorem divideBy_dec (g n cap base m : Nat) (w : World) (ho : Own w base 84 .u32 (.slice (some ⟨g, 0, none⟩) n cap) (Dg.dg 4294967296 m)) (hl : (Dg.dg 4294967296 m).length ≤ 1000000) :
    Calls Tryz.prog 151 #[.slice (some ⟨g, 0, none⟩) n cap, .int .u32 1000000000] w fun e w' =>
      ∃ qs, e = .returned (.int .u32 ((m % 1000000000 : Nat) : Int)) ∧ Own w' base 84 .u32 (.slice (some ⟨g, 0, none⟩) n cap) qs ∧ Dg.Small 4294967296 qs ∧ Dg.vl 4294967296 qs = m / 1000000000 ∧ w.grownBy w' (some g) := by
  have := divideBy_any g n cap base (Dg.dg 4294967296 m) 1000000000 w ho (Dg.small_dg _ _ (by omega)) (by omega) (by omega) hl
  rw [Dg.vl_dg _ _ (by omega)] at this
  refine Calls.mono this ?_
  rintro e w' ⟨qs, h1, h2, h3, h4, h5, h6⟩
  exact ⟨qs, h1, h2, h4, h5, h6⟩

/-- What the outer loop keeps. -/
def DecR (w : World) (L n m : Nat) (lv rv : Value) (wr : World) : Prop :=
  ∃ ds len, rv = .slice (some ⟨w.heap.size, 0, none⟩) len L ∧ Own wr w.heap.size 84 .u32 (.slice (some ⟨w.heap.size, 0, none⟩) len L) (Dg.dg 4294967296 m) ∧ Own wr (w.heap.size + 1) 5 .u8 lv (ds.map (fun d => 48 + d)) ∧ DecO n ds m ∧ Below w.heap.size w wr ∧ w.heap.size < wr.heap.size ∧ len ≤ L ∧ ds.length ≤ 32 * L + 9

/-- What the inner loop keeps. -/
def DecS (w : World) (L n m len base0 : Nat) (qs : List Nat) (lv gv jv : Value) (wr : World) : Prop :=
  ∃ ds j g, gv = .int .u32 ((g : Nat) : Int) ∧ jv = .int .i64 ((j : Nat) : Int) ∧ j ≤ 9 ∧ ds.length = base0 + j ∧ g < 1000000000 ∧ Own wr w.heap.size 84 .u32 (.slice (some ⟨w.heap.size, 0, none⟩) len L) qs ∧ Own wr (w.heap.size + 1) 5 .u8 lv (ds.map (fun d => 48 + d)) ∧ DecI n m ds j g ∧ Below w.heap.size w wr ∧ w.heap.size < wr.heap.size

theorem dec_append {w wr w3 : World} {L len g : Nat} {qs es : List Nat} {lv v' : Value} (bel : Below w.heap.size w wr) (hsz : w.heap.size < wr.heap.size)
    (ownQ : Own wr w.heap.size 84 .u32 (.slice (some ⟨w.heap.size, 0, none⟩) len L) qs) (ownL : Own wr (w.heap.size + 1) 5 .u8 lv (es.map (fun d => 48 + d)))
    (hown' : w3.ownsRow (w.heap.size + 1) 5 1 v' (es.length + 1) ((es.map ((fun n : Nat => Value.int .u8 (n : Int)) ∘ fun d => 48 + d)) ++ [.int .u8 (48 + (g : Int) % 10)]))
    (hgrow : (wr.alloc (.cells #[.int .u8 (48 + (g : Int) % 10)] 5)).grownBy w3 lv.ownBlock) :
    Own w3 w.heap.size 84 .u32 (.slice (some ⟨w.heap.size, 0, none⟩) len L) qs ∧ Own w3 (w.heap.size + 1) 5 .u8 v' ((es ++ [g % 10]).map (fun d => 48 + d)) ∧ Below w.heap.size w w3 ∧ w.heap.size < w3.heap.size := by
  have b1 : Below wr.heap.size wr (wr.alloc (.cells #[.int .u8 (48 + (g : Int) % 10)] 5)) := (Below.refl _ _).alloc (Nat.le_refl _) _
  refine ⟨(ownQ.later b1).keep2 (ownL.later b1) (by omega) hgrow, ?_, ?_, ?_⟩
  · unfold Own
    have e : (48 + (g : Int) % 10) = ((48 + g % 10 : Nat) : Int) := by omega
    rw [e] at hown'
    simpa using hown'
  · refine (below_trans bel b1).grown hgrow (Nat.le_trans bel.size b1.size) (fun k hk => ?_)
    have := (World.ownsRow.lt ownL k hk).1
    omega
  · exact Nat.lt_of_lt_of_le hsz (Nat.le_trans b1.size hgrow.size)

theorem dec_text {n k : Nat} {ds : List Nat} (hne : n ≠ 0) (hn : n = Dg.vl 10 ds) (htr : ds.take k = Dg.dg 10 (Dg.vl 10 ds)) : strOf (((ds.map (fun d => 48 + d)).take k).reverse) = decS n := by
  subst hn
  unfold decS
  rw [if_neg hne, ← List.map_take, htr]

end Go.Proofs.YtgbccbmflokooaaGreatDoor
/-
  Contracts of nat.Mul, nat.Print, and natBegun.
-/
namespace Go.Proofs.YtgbccbmflokooaaGreatDoor
open Go.RowKit

theorem chk_zero {zs : List Nat} (h : chk zs = 0) : Dg.Norm zs ∧ zs.length ≤ 1200 := by
  unfold chk at h
  by_cases h1 : 0 < zs.length ∧ zs.getD (zs.length - 1) 0 = 0
  · rw [if_pos h1] at h; omega
  · rw [if_neg h1] at h
    by_cases h2 : 1200 < zs.length
    · rw [if_pos h2] at h; omega
    · refine ⟨fun hne e => h1 ⟨List.length_pos_iff.2 hne, e⟩, by omega⟩

theorem chk_of {zs : List Nat} (h : Dg.Norm zs) (hl : zs.length ≤ 1200) : chk zs = 0 := by
  unfold chk
  rw [if_neg (fun c => h (List.length_pos_iff.1 c.1) c.2), if_neg (by omega)]

theorem chk2_zero {xs ys : List Nat} (h : chk2 xs ys = 0) : chk xs = 0 ∧ chk ys = 0 := by
  unfold chk2 at h
  by_cases h1 : chk xs = 0
  · rw [if_pos h1] at h; exact ⟨h1, h⟩
  · rw [if_neg h1] at h; exact absurd h h1

/-- What Print answers. -/
def prS (zs : List Nat) : ByteArray := if chk zs = 0 then decS (Dg.vl 4294967296 zs) else ⟨#[]⟩

theorem rd_new {w : World} {k : IntKind} {e : Nat} (zs : List Nat) (cs : Array Value) (hcs : cs = (zs.map (fun n : Nat => Value.int k (n : Int))).toArray) (hl : zs.length ≤ maxLen) :
    Rd (w.alloc (.cells cs e)) k (.slice (some ⟨w.heap.size, 0, none⟩) zs.length zs.length) zs := by
  refine ⟨_, zs.length, rfl, Nat.le_refl _, hl, fun _ => ⟨w.heap.size, 0, rfl, fun i hi => ?_⟩⟩
  rw [World.cell?_alloc_at _ _ _ _ rfl, hcs, Nat.zero_add]
  simp only [List.getElem?_toArray]
  exact getD_map_cell k zs i hi

theorem begun_digits : Dg.dg 4294967296 12884901888 = [0, 3] :=
  (Dg.eq_dg 4294967296 (by omega) [0, 3] 12884901888 (Dg.small_cons.2 ⟨by omega, Dg.small_cons.2 ⟨by omega, Dg.small_nil _ (by omega)⟩⟩) (by intro _; decide) (by decide)).symm

theorem begun_dec : Dg.dg 10 12884901888 = [8, 8, 8, 1, 0, 9, 4, 8, 8, 2, 1] :=
  (Dg.eq_dg 10 (by omega) [8, 8, 8, 1, 0, 9, 4, 8, 8, 2, 1] 12884901888 (by
    repeat (first | exact Dg.small_nil _ (by omega) | refine Dg.small_cons.2 ⟨by omega, ?_⟩)) (by intro _; decide) (by decide)).symm

theorem begun_text : prS (Dg.dg 4294967296 12884901888) = ⟨#[49, 50, 56, 56, 52, 57, 48, 49, 56, 56, 56]⟩ := by
  unfold prS
  rw [chk_of (Dg.norm_dg _ _ (by omega)) (by rw [begun_digits]; decide), if_pos rfl, Dg.vl_dg _ _ (by omega)]
  unfold decS
  rw [if_neg (by omega), begun_dec]
  rfl

end Go.Proofs.YtgbccbmflokooaaGreatDoor
/-
  From a slice of digits that came in to what it reads as.
-/
namespace Go.Proofs.YtgbccbmflokooaaGreatDoor
open Go.RowKit

theorem rd_of_row {w : World} {a : Option Addr} {len cap : Nat} {zs : List Int}
    (h : (a = none ∧ len = 0 ∧ cap = 0 ∧ zs = []) ∨ ∃ x, a = some x ∧ len ≤ cap ∧ cap ≤ maxLen ∧ zs.length = cap ∧ (∀ i, i < zs.length → w.cell? (x.add i) = some (.int .u32 (zs.getD i 0))) ∧ ∀ n ∈ zs, (Lit.int .u32 n).wf = true) :
    ∃ xs, Rd w .u32 (.slice a len cap) xs ∧ Dg.Small 4294967296 xs := by
  rcases h with ⟨rfl, rfl, rfl, rfl⟩ | ⟨x, rfl, hl, hm, hz, hcell, hwz⟩
  · exact ⟨[], ⟨none, 0, rfl, by simp, by unfold maxLen; omega, fun h => by simp at h⟩, Dg.small_nil _ (by omega)⟩
  · obtain ⟨b, off, spot⟩ := x
    have hb : ∀ i, i < zs.length → 0 ≤ zs.getD i 0 ∧ zs.getD i 0 < 4294967296 := fun i hi => by
      have := bounds_u32 (hwz (zs.getD i 0) (by simp [List.getD_eq_getElem?_getD, hi]))
      omega
    have hlen : ((zs.take len).map Int.toNat).length = len := by simp; omega
    have hget : ∀ i, i < len → (((zs.take len).map Int.toNat).getD i 0 : Nat) = (zs.getD i 0).toNat := fun i hi => by
      have h1 : i < zs.length := by omega
      simp [List.getD_eq_getElem?_getD, hi, h1]
    refine ⟨(zs.take len).map Int.toNat, ⟨_, cap, by rw [hlen], by rw [hlen]; exact hl, hm, fun hp => ?_⟩, fun i => ?_⟩
    · rw [hlen] at hp
      have h0 := hcell 0 (by omega)
      have hspot : spot = none := by simpa [Addr.add] using World.cell?_spot h0
      subst hspot
      refine ⟨b, off, rfl, fun i hi => ?_⟩
      rw [hlen] at hi
      have := hcell i (by omega)
      rw [addr_add] at this
      rw [this, hget i hi]
      have := (hb i (by omega)).1
      congr 2
      omega
    · by_cases hi : i < len
      · rw [hget i hi]; have := hb i (by omega); omega
      · rw [Dg.getD_of_le _ _ (by rw [hlen]; omega)]; omega

end Go.Proofs.YtgbccbmflokooaaGreatDoor
/-
  Contracts of bits.Add32, bits.Sub32.
-/
namespace Go.Proofs.YtgbccbmflokooaaGreatDoor
open Go.RowKit

set_option maxRecDepth 100000 in
theorem add32_any (x y c : Nat) (w : World) (hx : x < 4294967296) (hy : y < 4294967296) (hc : c ≤ 1) :
    Calls Tryz.prog 131 #[.int .u32 x, .int .u32 y, .int .u32 c] w fun e w' => e = .returned (.tuple #[.int .u32 ((x + y + c) % 4294967296 : Nat), .int .u32 ((x + y + c) / 4294967296 : Nat)]) ∧ w' = w := by
  go_enter Tryz.func131, Tryz.ntmps131
  go_wp2
  go_ret2
  exact ⟨by go_num, rfl⟩

/-- Is there a borrow? -/
def brw (x y c : Nat) : Nat := if x < y + c then 1 else 0

theorem top_bit (v : Nat) (h : v < 4294967296) : v.testBit 31 = decide (2147483648 ≤ v) := by
  rw [Nat.testBit_eq_decide_div_mod_eq]
  by_cases e : 2147483648 ≤ v
  · rw [decide_eq_true e, decide_eq_true (by omega)]
  · rw [decide_eq_false e, decide_eq_false (by omega)]

theorem div_top (v : Nat) (h : v < 4294967296) : v / 2147483648 = (v.testBit 31).toNat := by
  rw [top_bit v h]
  by_cases e : 2147483648 ≤ v
  · rw [decide_eq_true e, Bool.toNat_true]; omega
  · rw [decide_eq_false e, Bool.toNat_false]; omega

theorem borrow_nat (x y c d : Nat) (hx : x < 4294967296) (hy : y < 4294967296) (hc : c ≤ 1) (hd : d = (x + 4294967296 - y - c) % 4294967296) :
    (((4294967295 ^^^ x) &&& y) ||| ((4294967295 ^^^ (x ^^^ y)) &&& d)) / 2147483648 = brw x y c := by
  have hdl : d < 4294967296 := by omega
  have h1 : (4294967295 ^^^ x) < 2 ^ 32 := Nat.xor_lt_two_pow (by omega) (by omega)
  have h2 : (x ^^^ y) < 2 ^ 32 := Nat.xor_lt_two_pow (by omega) (by omega)
  have h3 : (4294967295 ^^^ (x ^^^ y)) < 2 ^ 32 := Nat.xor_lt_two_pow (by omega) h2
  have h4 : ((4294967295 ^^^ x) &&& y) < 2 ^ 32 := Nat.and_lt_two_pow _ (by omega)
  have h5 : ((4294967295 ^^^ (x ^^^ y)) &&& d) < 2 ^ 32 := Nat.and_lt_two_pow _ (by omega)
  have h6 := Nat.or_lt_two_pow h4 h5
  rw [div_top _ (by omega)]
  have hM : Nat.testBit 4294967295 31 = true := by decide
  simp only [Nat.testBit_or, Nat.testBit_and, Nat.testBit_xor, hM, top_bit x hx, top_bit y hy, top_bit d hdl]
  unfold brw
  by_cases a1 : 2147483648 ≤ x <;> by_cases a2 : 2147483648 ≤ y <;> by_cases a3 : 2147483648 ≤ d <;> by_cases a4 : x < y + c <;> simp [a1, a2, a3, a4] <;> omega

theorem borrow_bits (x y c : Nat) (hx : x < 4294967296) (hy : y < 4294967296) (hc : c ≤ 1) :
    bits .or .u32 (bits .and .u32 (bits .xor .u32 IntKind.u32.max (x : Int)) (y : Int)) (bits .and .u32 (bits .xor .u32 IntKind.u32.max (bits .xor .u32 (x : Int) (y : Int))) (((x : Int) - (y : Int) - (c : Int)) % 4294967296)) / 2147483648 = ((brw x y c : Nat) : Int) := by
  have hM : IntKind.u32.max = ((4294967295 : Nat) : Int) := by decide
  have hd : ((x : Int) - (y : Int) - (c : Int)) % 4294967296 = (((x + 4294967296 - y - c) % 4294967296 : Nat) : Int) := by omega
  have hdl : (x + 4294967296 - y - c) % 4294967296 < 4294967296 := Nat.mod_lt _ (by omega)
  have h1 : (4294967295 ^^^ x) < 2 ^ 32 := Nat.xor_lt_two_pow (by omega) (by omega)
  have h2 : (x ^^^ y) < 2 ^ 32 := Nat.xor_lt_two_pow (by omega) (by omega)
  have h3 : (4294967295 ^^^ (x ^^^ y)) < 2 ^ 32 := Nat.xor_lt_two_pow (by omega) h2
  have h4 : ((4294967295 ^^^ x) &&& y) < 2 ^ 32 := Nat.and_lt_two_pow _ (by omega)
  have h5 : ((4294967295 ^^^ (x ^^^ y)) &&& ((x + 4294967296 - y - c) % 4294967296)) < 2 ^ 32 := Nat.and_lt_two_pow _ (by omega)
  rw [hM, hd, u32_xor_nat _ _ (by omega) (by omega), u32_xor_nat _ _ (by omega) (by omega), u32_xor_nat _ _ (by omega) (by omega), u32_and_nat _ _ (by omega) (by omega), u32_and_nat _ _ (by omega) (by omega), u32_or_nat _ _ (by omega) (by omega)]
  rw [← borrow_nat x y c _ hx hy hc rfl]
  exact (Int.natCast_ediv _ _).symm

set_option maxRecDepth 100000 in
theorem sub32_any (x y c : Nat) (w : World) (hx : x < 4294967296) (hy : y < 4294967296) (hc : c ≤ 1) :
    Calls Tryz.prog 130 #[.int .u32 x, .int .u32 y, .int .u32 c] w fun e w' => e = .returned (.tuple #[.int .u32 ((x + 4294967296 - y - c) % 4294967296 : Nat), .int .u32 ((brw x y c : Nat) : Int)]) ∧ w' = w := by
  have hb := borrow_bits x y c hx hy hc
  have hsg : ¬ IntKind.u32.signed = true := by decide
  have hd : (((x : Int) - (y : Int)) % 4294967296 - (c : Int)) % 4294967296 = (((x + 4294967296 - y - c) % 4294967296 : Nat) : Int) := by omega
  obtain ⟨d, ed⟩ : ∃ d, (x + 4294967296 - y - c) % 4294967296 = d := ⟨_, rfl⟩
  rw [ed] at hd ⊢
  have Hd : Hid ((((x : Int) - (y : Int)) % 4294967296 - (c : Int)) % 4294967296 = (d : Int)) := hd
  clear hd ed
  go_enter Tryz.func130, Tryz.ntmps130
  go_wp2
  go_ret2
  exact ⟨by rw [← Hd.out]; rfl, rfl⟩
end Go.Proofs.YtgbccbmflokooaaGreatDoor
/-
  Contracts of digits.Number.Plus and nat.Add.
-/
namespace Go.Proofs.YtgbccbmflokooaaGreatDoor
open Go.RowKit

/-- What the loops of Plus keep: k digits of the sum are there. -/
def AddI (xs ys ps : List Nat) (k c : Nat) : Prop :=
  ps.length = xs.length + 1 ∧ Dg.Small 4294967296 ps ∧ c ≤ 1 ∧ Dg.vl 4294967296 (ps.take k) + 4294967296 ^ k * c = Dg.vl 4294967296 (xs.take k) + Dg.vl 4294967296 (ys.take k)

theorem vl_take_set (l : List Nat) (k x : Nat) (h : k < l.length) : Dg.vl 4294967296 ((l.set k x).take (k + 1)) = Dg.vl 4294967296 (l.take k) + 4294967296 ^ k * x := by
  rw [Dg.vl_take_succ _ _ _ (by simpa using h), Dg.getD_set _ _ _ _ h, if_pos rfl, List.take_set_of_le (Nat.le_refl _)]

theorem vl_take_over (l : List Nat) (k : Nat) : Dg.vl 4294967296 (l.take (k + 1)) = Dg.vl 4294967296 (l.take k) + 4294967296 ^ k * l.getD k 0 := by
  by_cases h : k < l.length
  · exact Dg.vl_take_succ _ _ _ h
  · rw [List.take_of_length_le (by omega), List.take_of_length_le (by omega), Dg.getD_of_le _ _ (by omega)]; omega

theorem addI_step {xs ys ps : List Nat} {k c x y : Nat} (h : AddI xs ys ps k c) (hk : k < xs.length) (hx : xs.getD k 0 = x) (hy : ys.getD k 0 = y) (hxl : x < 4294967296) (hyl : y < 4294967296) :
    AddI xs ys (ps.set k ((x + y + c) % 4294967296)) (k + 1) ((x + y + c) / 4294967296) := by
  obtain ⟨h1, h2, h3, h4⟩ := h
  refine ⟨by simpa using h1, Dg.small_set h2 _ _ (Nat.mod_lt _ (by omega)), by omega, ?_⟩
  rw [vl_take_set _ _ _ (by omega), vl_take_over xs, vl_take_over ys, hx, hy]
  have e : 4294967296 ^ (k + 1) * ((x + y + c) / 4294967296) = 4294967296 ^ k * (4294967296 * ((x + y + c) / 4294967296)) := by rw [Nat.pow_succ, Nat.mul_assoc]
  have e2 : 4294967296 ^ k * (x + y + c) = 4294967296 ^ k * ((x + y + c) % 4294967296) + 4294967296 ^ k * (4294967296 * ((x + y + c) / 4294967296)) := by
    rw [← Nat.mul_add, Nat.mod_add_div]
  have e3 : 4294967296 ^ k * (x + y + c) = 4294967296 ^ k * x + 4294967296 ^ k * y + 4294967296 ^ k * c := by rw [Nat.mul_add, Nat.mul_add]
  rw [e]
  omega

theorem addI_end {xs ys ps : List Nat} {c : Nat} (h : AddI xs ys ps xs.length c) (hl : ys.length ≤ xs.length) : (ps.set xs.length c).length = xs.length + 1 ∧ Dg.Small 4294967296 (ps.set xs.length c) ∧ Dg.vl 4294967296 (ps.set xs.length c) = Dg.vl 4294967296 xs + Dg.vl 4294967296 ys := by
  obtain ⟨h1, h2, h3, h4⟩ := h
  refine ⟨by simpa using h1, Dg.small_set h2 _ _ (by omega), ?_⟩
  have := vl_take_set ps xs.length c (by omega)
  rw [List.take_of_length_le (by simp; omega)] at this
  rw [this]
  rw [List.take_of_length_le (Nat.le_refl xs.length), List.take_of_length_le hl] at h4
  omega

set_option maxRecDepth 100000 in
set_option maxHeartbeats 3200000 in
theorem plus_le (va vb : Value) (xs ys : List Nat) (w : World) (ha : Rd w .u32 va xs) (hb : Rd w .u32 vb ys) (sa : Dg.Small 4294967296 xs) (sb : Dg.Small 4294967296 ys) (hla : xs.length ≤ 1000000) (hlb : ys.length ≤ xs.length) :
    Calls Tryz.prog 111 #[va, vb] w (Num w (Dg.vl 4294967296 xs + Dg.vl 4294967296 ys)) := by
  obtain ⟨i0, hi, hz0, hz1, hz2⟩ := info_parts Tryz.infoU32
  obtain ⟨ao, ca, rfl, -, -, hca⟩ := ha
  obtain ⟨bo, cb, rfl, -, -, hcb⟩ := hb
  go_enter Tryz.func111, Tryz.ntmps111
  go_wp2_with (at_make; refine wpList_make_full _ rfl _ _ 119 rfl w.heap.size 84 i0 (.int .u32 0) 1 Tryz.underlying119 hi hz0 hz1 _ _ _ _ (xs.length + 1) rfl rfl (by omega) (by omega) ?b2 ?b3 (Nat.le_refl _) ?_)
  case b2 => rw [hz2]; omega
  case b3 => unfold maxLen; omega
  intro w0 hown0 hgrow0
  have own0 := own_made hown0
  have bel0 : Below w.heap.size w w0 := (Below.refl _ _).grown hgrow0 (Nat.le_refl _) (fun k h => by cases h)
  clear hown0 hgrow0
  go_wp2
  go_loopw [6, 23] (fun cv kv wr => ∃ (k c : Nat) (ps : List Nat), k ≤ ys.length ∧ kv = .int .i64 k ∧ cv = .int .u32 c ∧ Own wr w.heap.size 84 .u32 (.slice (some ⟨w.heap.size, 0, none⟩) (xs.length + 1) (xs.length + 1)) ps ∧ AddI xs ys ps k c ∧ Below w.heap.size w wr)
    (fun _ kv _ => ys.length - (intOf kv).toNat)
  case atStart => exact ⟨0, 0, _, Nat.zero_le _, rfl, rfl, own0, ⟨by simp, Dg.small_replicate _ _ (by omega), by omega, by simp [Dg.vl]⟩, bel0⟩
  case round =>
    clear own0 bel0
    obtain ⟨k, c, ps, hkl, rfl, rfl, own, hI, bel⟩ := hrel
    have hpl := hI.1
    have hcl := hI.2.2.1
    by_cases hlt : k < ys.length
    · obtain ⟨b, off, rfl, hcell⟩ := hca (by omega)
      obtain ⟨b2, off2, rfl, hcell2⟩ := hcb (by omega)
      have hx := cell_later bel (hcell k (by omega))
      have hy := cell_later bel (hcell2 k (by omega))
      have hp := own.cell k (by omega)
      have hf := own.free k
      have hxl := sa k
      have hyl := sb k
      obtain ⟨x, ex⟩ : ∃ x, xs.getD k 0 = x := ⟨_, rfl⟩
      obtain ⟨y, ey⟩ : ∃ y, ys.getD k 0 = y := ⟨_, rfl⟩
      have hst := addI_step hI (by omega) ex ey (by omega) (by omega)
      rw [ex] at hx hxl
      rw [ey] at hy hyl
      clear ex ey hcell hcell2 hca hcb
      go_wp2_with fail
      refine (add32_any x y c _ hxl hyl hcl).mono ?_
      rintro e w' ⟨rfl, rfl⟩
      go_wp2
      go_roundw
      case rel => exact ⟨k + 1, _, _, by omega, by go_num, rfl, own.store k _, hst, bel.setCell (by exact Nat.le_refl _) _⟩
      case measure => simp [intOf]; omega
    · have hk : k = ys.length := by omega
      subst hk
      go_wp2
      go_loopw [6, 9] (fun cv kv wr => ∃ (k c : Nat) (ps : List Nat), ys.length ≤ k ∧ k ≤ xs.length ∧ kv = .int .i64 k ∧ cv = .int .u32 c ∧ Own wr w.heap.size 84 .u32 (.slice (some ⟨w.heap.size, 0, none⟩) (xs.length + 1) (xs.length + 1)) ps ∧ AddI xs ys ps k c ∧ Below w.heap.size w wr)
        (fun _ kv _ => xs.length - (intOf kv).toNat)
      case atStart => exact ⟨ys.length, c, ps, Nat.le_refl _, by omega, rfl, rfl, own, hI, bel⟩
      case round =>
        clear own hI bel hpl hcl
        obtain ⟨k, c, ps, hky, hkl, rfl, rfl, own, hI, bel⟩ := hrel
        have hpl := hI.1
        have hcl := hI.2.2.1
        by_cases hlt : k < xs.length
        · obtain ⟨b, off, rfl, hcell⟩ := hca (by omega)
          have hx := cell_later bel (hcell k (by omega))
          have hp := own.cell k (by omega)
          have hf := own.free k
          have hxl := sa k
          obtain ⟨x, ex⟩ : ∃ x, xs.getD k 0 = x := ⟨_, rfl⟩
          have hst := addI_step hI (by omega) ex (Dg.getD_of_le ys k hky) (by omega) (by omega)
          rw [ex] at hx hxl
          clear ex hcell hca hcb
          go_wp2_with fail
          refine (add32_any x 0 c _ hxl (by omega) hcl).mono ?_
          rintro e w' ⟨rfl, rfl⟩
          go_wp2
          go_roundw
          case rel => exact ⟨k + 1, _, _, by omega, by omega, by go_num, rfl, own.store k _, hst, bel.setCell (by exact Nat.le_refl _) _⟩
          case measure => simp [intOf]; omega
        · have hk : k = xs.length := by omega
          subst hk
          have hp := own.cell xs.length (by omega)
          have hf := own.free xs.length
          have hen := addI_end hI (by omega)
          have own2 := own.store xs.length c
          have bel2 := bel.setCell (p := ⟨w.heap.size, xs.length, none⟩) (by exact Nat.le_refl _) (.int .u32 (c : Int))
          have rd := own2.rd
          go_wp2_with fail
          refine (trim_any _ _ _ _ _ rd).mono ?_
          rintro e w' ⟨m, rfl, hm, rfl⟩
          have ht := own_trim 4294967296 (by omega) own2 hen.2.1 hm
          rw [hen.2.2] at ht
          clear rd own2 hen hp hf own
          go_wp2
          go_ret
          exact ⟨_, rfl, ht, bel2⟩

set_option maxRecDepth 100000 in
set_option maxHeartbeats 3200000 in
theorem plus_gt (va vb : Value) (xs ys : List Nat) (w : World) (ha : Rd w .u32 va xs) (hb : Rd w .u32 vb ys) (sa : Dg.Small 4294967296 xs) (sb : Dg.Small 4294967296 ys) (hla : xs.length ≤ 1000000) (hlb : ys.length < xs.length) :
    Calls Tryz.prog 111 #[vb, va] w (Num w (Dg.vl 4294967296 xs + Dg.vl 4294967296 ys)) := by
  obtain ⟨i0, hi, hz0, hz1, hz2⟩ := info_parts Tryz.infoU32
  obtain ⟨ao, ca, rfl, -, -, hca⟩ := ha
  obtain ⟨bo, cb, rfl, -, -, hcb⟩ := hb
  go_enter Tryz.func111, Tryz.ntmps111
  go_wp2_with (at_make; refine wpList_make_full _ rfl _ _ 119 rfl w.heap.size 84 i0 (.int .u32 0) 1 Tryz.underlying119 hi hz0 hz1 _ _ _ _ (xs.length + 1) rfl rfl (by omega) (by omega) ?b2 ?b3 (Nat.le_refl _) ?_)
  case b2 => rw [hz2]; omega
  case b3 => unfold maxLen; omega
  intro w0 hown0 hgrow0
  have own0 := own_made hown0
  have bel0 : Below w.heap.size w w0 := (Below.refl _ _).grown hgrow0 (Nat.le_refl _) (fun k h => by cases h)
  clear hown0 hgrow0
  go_wp2
  go_loopw [6, 23] (fun cv kv wr => ∃ (k c : Nat) (ps : List Nat), k ≤ ys.length ∧ kv = .int .i64 k ∧ cv = .int .u32 c ∧ Own wr w.heap.size 84 .u32 (.slice (some ⟨w.heap.size, 0, none⟩) (xs.length + 1) (xs.length + 1)) ps ∧ AddI xs ys ps k c ∧ Below w.heap.size w wr)
    (fun _ kv _ => ys.length - (intOf kv).toNat)
  case atStart => exact ⟨0, 0, _, Nat.zero_le _, rfl, rfl, own0, ⟨by simp, Dg.small_replicate _ _ (by omega), by omega, by simp [Dg.vl]⟩, bel0⟩
  case round =>
    clear own0 bel0
    obtain ⟨k, c, ps, hkl, rfl, rfl, own, hI, bel⟩ := hrel
    have hpl := hI.1
    have hcl := hI.2.2.1
    by_cases hlt : k < ys.length
    · obtain ⟨b, off, rfl, hcell⟩ := hca (by omega)
      obtain ⟨b2, off2, rfl, hcell2⟩ := hcb (by omega)
      have hx := cell_later bel (hcell k (by omega))
      have hy := cell_later bel (hcell2 k (by omega))
      have hp := own.cell k (by omega)
      have hf := own.free k
      have hxl := sa k
      have hyl := sb k
      obtain ⟨x, ex⟩ : ∃ x, xs.getD k 0 = x := ⟨_, rfl⟩
      obtain ⟨y, ey⟩ : ∃ y, ys.getD k 0 = y := ⟨_, rfl⟩
      have hst := addI_step hI (by omega) ex ey (by omega) (by omega)
      rw [ex] at hx hxl
      rw [ey] at hy hyl
      clear ex ey hcell hcell2 hca hcb
      go_wp2_with fail
      refine (add32_any x y c _ hxl hyl hcl).mono ?_
      rintro e w' ⟨rfl, rfl⟩
      go_wp2
      go_roundw
      case rel => exact ⟨k + 1, _, _, by omega, by go_num, rfl, own.store k _, hst, bel.setCell (by exact Nat.le_refl _) _⟩
      case measure => simp [intOf]; omega
    · have hk : k = ys.length := by omega
      subst hk
      go_wp2
      go_loopw [6, 9] (fun cv kv wr => ∃ (k c : Nat) (ps : List Nat), ys.length ≤ k ∧ k ≤ xs.length ∧ kv = .int .i64 k ∧ cv = .int .u32 c ∧ Own wr w.heap.size 84 .u32 (.slice (some ⟨w.heap.size, 0, none⟩) (xs.length + 1) (xs.length + 1)) ps ∧ AddI xs ys ps k c ∧ Below w.heap.size w wr)
        (fun _ kv _ => xs.length - (intOf kv).toNat)
      case atStart => exact ⟨ys.length, c, ps, Nat.le_refl _, by omega, rfl, rfl, own, hI, bel⟩
      case round =>
        clear own hI bel hpl hcl
        obtain ⟨k, c, ps, hky, hkl, rfl, rfl, own, hI, bel⟩ := hrel
        have hpl := hI.1
        have hcl := hI.2.2.1
        by_cases hlt : k < xs.length
        · obtain ⟨b, off, rfl, hcell⟩ := hca (by omega)
          have hx := cell_later bel (hcell k (by omega))
          have hp := own.cell k (by omega)
          have hf := own.free k
          have hxl := sa k
          obtain ⟨x, ex⟩ : ∃ x, xs.getD k 0 = x := ⟨_, rfl⟩
          have hst := addI_step hI (by omega) ex (Dg.getD_of_le ys k hky) (by omega) (by omega)
          rw [ex] at hx hxl
          clear ex hcell hca hcb
          go_wp2_with fail
          refine (add32_any x 0 c _ hxl (by omega) hcl).mono ?_
          rintro e w' ⟨rfl, rfl⟩
          go_wp2
          go_roundw
          case rel => exact ⟨k + 1, _, _, by omega, by omega, by go_num, rfl, own.store k _, hst, bel.setCell (by exact Nat.le_refl _) _⟩
          case measure => simp [intOf]; omega
        · have hk : k = xs.length := by omega
          subst hk
          have hp := own.cell xs.length (by omega)
          have hf := own.free xs.length
          have hen := addI_end hI (by omega)
          have own2 := own.store xs.length c
          have bel2 := bel.setCell (p := ⟨w.heap.size, xs.length, none⟩) (by exact Nat.le_refl _) (.int .u32 (c : Int))
          have rd := own2.rd
          go_wp2_with fail
          refine (trim_any _ _ _ _ _ rd).mono ?_
          rintro e w' ⟨m, rfl, hm, rfl⟩
          have ht := own_trim 4294967296 (by omega) own2 hen.2.1 hm
          rw [hen.2.2] at ht
          clear rd own2 hen hp hf own
          go_wp2
          go_ret
          exact ⟨_, rfl, ht, bel2⟩

theorem plus_any (va vb : Value) (xs ys : List Nat) (w : World) (ha : Rd w .u32 va xs) (hb : Rd w .u32 vb ys) (sa : Dg.Small 4294967296 xs) (sb : Dg.Small 4294967296 ys) (hla : xs.length ≤ 1000000) (hlb : ys.length ≤ 1000000) :
    Calls Tryz.prog 111 #[va, vb] w (Num w (Dg.vl 4294967296 xs + Dg.vl 4294967296 ys)) := by
  by_cases h : ys.length ≤ xs.length
  · exact plus_le va vb xs ys w ha hb sa sb hla h
  · rw [Nat.add_comm]
    exact plus_gt vb va ys xs w hb ha sb sa hlb (by omega)

end Go.Proofs.YtgbccbmflokooaaGreatDoor
/-
  The contract of digits.Number.Minus.
-/
namespace Go.Proofs.YtgbccbmflokooaaGreatDoor
open Go.RowKit

/-- What the loops of Minus keep. -/
def SubI (xs ys ps : List Nat) (k c : Nat) : Prop :=
  ps.length = xs.length ∧ Dg.Small 4294967296 ps ∧ c ≤ 1 ∧ Dg.vl 4294967296 (xs.take k) + 4294967296 ^ k * c = Dg.vl 4294967296 (ps.take k) + Dg.vl 4294967296 (ys.take k)

theorem brw_le (x y c : Nat) : brw x y c ≤ 1 := by unfold brw; split <;> omega

theorem subI_step {xs ys ps : List Nat} {k c x y : Nat} (h : SubI xs ys ps k c) (hk : k < xs.length) (hx : xs.getD k 0 = x) (hy : ys.getD k 0 = y) (hxl : x < 4294967296) (hyl : y < 4294967296) :
    SubI xs ys (ps.set k ((x + 4294967296 - y - c) % 4294967296)) (k + 1) (brw x y c) := by
  obtain ⟨h1, h2, h3, h4⟩ := h
  refine ⟨by simpa using h1, Dg.small_set h2 _ _ (Nat.mod_lt _ (by omega)), brw_le _ _ _, ?_⟩
  rw [vl_take_set _ _ _ (by omega), vl_take_over xs, vl_take_over ys, hx, hy]
  have e : x + 4294967296 * brw x y c = (x + 4294967296 - y - c) % 4294967296 + y + c := by unfold brw; split <;> omega
  have e2 : 4294967296 ^ k * (x + 4294967296 * brw x y c) = 4294967296 ^ k * ((x + 4294967296 - y - c) % 4294967296 + y + c) := by rw [e]
  have e3 : 4294967296 ^ (k + 1) * brw x y c = 4294967296 ^ k * (4294967296 * brw x y c) := by rw [Nat.pow_succ, Nat.mul_assoc]
  rw [Nat.mul_add, Nat.mul_add, Nat.mul_add] at e2
  rw [e3]
  omega

theorem subI_end {xs ys ps : List Nat} {c : Nat} (h : SubI xs ys ps xs.length c) (hl : ys.length ≤ xs.length) (hv : Dg.vl 4294967296 ys ≤ Dg.vl 4294967296 xs) : Dg.vl 4294967296 ps = Dg.vl 4294967296 xs - Dg.vl 4294967296 ys := by
  obtain ⟨h1, h2, h3, h4⟩ := h
  rw [List.take_of_length_le (Nat.le_refl xs.length), List.take_of_length_le hl, List.take_of_length_le (by omega)] at h4
  have hlt := Dg.vl_lt 4294967296 ps h2
  rw [h1] at hlt
  have hc : c = 0 := by
    rcases Nat.eq_zero_or_pos c with e | e
    · exact e
    · have : c = 1 := by omega
      subst this
      omega
  subst hc
  omega

set_option maxRecDepth 100000 in
set_option maxHeartbeats 3200000 in
theorem minus_any (va vb : Value) (xs ys : List Nat) (w : World) (ha : Rd w .u32 va xs) (hb : Rd w .u32 vb ys) (sa : Dg.Small 4294967296 xs) (sb : Dg.Small 4294967296 ys) (hla : xs.length ≤ 1000000) (hlb : ys.length ≤ xs.length) (hv : Dg.vl 4294967296 ys ≤ Dg.vl 4294967296 xs) :
    Calls Tryz.prog 108 #[va, vb] w (Num w (Dg.vl 4294967296 xs - Dg.vl 4294967296 ys)) := by
  obtain ⟨i0, hi, hz0, hz1, hz2⟩ := info_parts Tryz.infoU32
  obtain ⟨ao, ca, rfl, -, -, hca⟩ := ha
  obtain ⟨bo, cb, rfl, -, -, hcb⟩ := hb
  have HV : Hid (Dg.vl 4294967296 ys ≤ Dg.vl 4294967296 xs) := hv
  clear hv
  go_enter Tryz.func108, Tryz.ntmps108
  go_wp2_with (at_make; refine wpList_make_full _ rfl _ _ 119 rfl w.heap.size 84 i0 (.int .u32 0) 1 Tryz.underlying119 hi hz0 hz1 _ _ _ _ xs.length rfl rfl (by omega) (by omega) ?b2 ?b3 (Nat.le_refl _) ?_)
  case b2 => rw [hz2]; omega
  case b3 => unfold maxLen; omega
  intro w0 hown0 hgrow0
  have own0 := own_made hown0
  have bel0 : Below w.heap.size w w0 := (Below.refl _ _).grown hgrow0 (Nat.le_refl _) (fun k h => by cases h)
  clear hown0 hgrow0
  go_wp2
  go_loopw [6, 15] (fun cv kv wr => ∃ (k c : Nat) (ps : List Nat), k ≤ ys.length ∧ kv = .int .i64 k ∧ cv = .int .u32 c ∧ Own wr w.heap.size 84 .u32 (.slice (some ⟨w.heap.size, 0, none⟩) xs.length xs.length) ps ∧ SubI xs ys ps k c ∧ Below w.heap.size w wr)
    (fun _ kv _ => ys.length - (intOf kv).toNat)
  case atStart => exact ⟨0, 0, _, Nat.zero_le _, rfl, rfl, own0, ⟨by simp, Dg.small_replicate _ _ (by omega), by omega, by simp [Dg.vl]⟩, bel0⟩
  case round =>
    clear own0 bel0
    obtain ⟨k, c, ps, hkl, rfl, rfl, own, hI, bel⟩ := hrel
    have hpl := hI.1
    have hcl := hI.2.2.1
    by_cases hlt : k < ys.length
    · obtain ⟨b, off, rfl, hcell⟩ := hca (by omega)
      obtain ⟨b2, off2, rfl, hcell2⟩ := hcb (by omega)
      have hx := cell_later bel (hcell k (by omega))
      have hy := cell_later bel (hcell2 k (by omega))
      have hp := own.cell k (by omega)
      have hf := own.free k
      have hxl := sa k
      have hyl := sb k
      obtain ⟨x, ex⟩ : ∃ x, xs.getD k 0 = x := ⟨_, rfl⟩
      obtain ⟨y, ey⟩ : ∃ y, ys.getD k 0 = y := ⟨_, rfl⟩
      have hst := subI_step hI (by omega) ex ey (by omega) (by omega)
      rw [ex] at hx hxl
      rw [ey] at hy hyl
      clear ex ey hcell hcell2 hca hcb
      go_wp2_with fail
      refine (sub32_any x y c _ hxl hyl hcl).mono ?_
      rintro e w' ⟨rfl, rfl⟩
      go_wp2
      go_roundw
      case rel => exact ⟨k + 1, _, _, by omega, by go_num, rfl, own.store k _, hst, bel.setCell (by exact Nat.le_refl _) _⟩
      case measure => simp [intOf]; omega
    · have hk : k = ys.length := by omega
      subst hk
      go_wp2
      go_loopw [6, 9] (fun cv kv wr => ∃ (k c : Nat) (ps : List Nat), ys.length ≤ k ∧ k ≤ xs.length ∧ kv = .int .i64 k ∧ cv = .int .u32 c ∧ Own wr w.heap.size 84 .u32 (.slice (some ⟨w.heap.size, 0, none⟩) xs.length xs.length) ps ∧ SubI xs ys ps k c ∧ Below w.heap.size w wr)
        (fun _ kv _ => xs.length - (intOf kv).toNat)
      case atStart => exact ⟨ys.length, c, ps, Nat.le_refl _, by omega, rfl, rfl, own, hI, bel⟩
      case round =>
        clear own hI bel hpl hcl
        obtain ⟨k, c, ps, hky, hkl, rfl, rfl, own, hI, bel⟩ := hrel
        have hpl := hI.1
        have hcl := hI.2.2.1
        by_cases hlt : k < xs.length
        · obtain ⟨b, off, rfl, hcell⟩ := hca (by omega)
          have hx := cell_later bel (hcell k (by omega))
          have hp := own.cell k (by omega)
          have hf := own.free k
          have hxl := sa k
          obtain ⟨x, ex⟩ : ∃ x, xs.getD k 0 = x := ⟨_, rfl⟩
          have hst := subI_step hI (by omega) ex (Dg.getD_of_le ys k hky) (by omega) (by omega)
          rw [ex] at hx hxl
          clear ex hcell hca hcb
          go_wp2_with fail
          refine (sub32_any x 0 c _ hxl (by omega) hcl).mono ?_
          rintro e w' ⟨rfl, rfl⟩
          go_wp2
          go_roundw
          case rel => exact ⟨k + 1, _, _, by omega, by omega, by go_num, rfl, own.store k _, hst, bel.setCell (by exact Nat.le_refl _) _⟩
          case measure => simp [intOf]; omega
        · have hk : k = xs.length := by omega
          subst hk
          have hen := subI_end hI (by omega) HV.out
          have rd := own.rd
          go_wp2_with fail
          refine (trim_any _ _ _ _ _ rd).mono ?_
          rintro e w' ⟨m, rfl, hm, rfl⟩
          have ht := own_trim 4294967296 (by omega) own hI.2.1 hm
          rw [hen] at ht
          clear rd hen own
          go_wp2
          go_ret
          exact ⟨_, rfl, ht, bel⟩
end Go.Proofs.YtgbccbmflokooaaGreatDoor
/-
  Contracts of digits.Number.Compare, nat.Compare, nat.Sub.
-/
namespace Go.Proofs.YtgbccbmflokooaaGreatDoor
open Go.RowKit

theorem cmpI_lt {a b : Int} (h : a < b) : cmpI a b = -1 := by unfold cmpI; rw [if_pos h]
theorem cmpI_gt {a b : Int} (h : b < a) : cmpI a b = 1 := by unfold cmpI; rw [if_neg (by omega), if_pos h]
theorem cmpI_eq (a : Int) : cmpI a a = 0 := by unfold cmpI; rw [if_neg (by omega), if_neg (by omega)]

set_option maxRecDepth 100000 in
set_option maxHeartbeats 1600000 in
theorem compare_any (va vb : Value) (xs ys : List Nat) (w : World) (ha : Rd w .u32 va xs) (hb : Rd w .u32 vb ys) (sa : Dg.Small 4294967296 xs) (sb : Dg.Small 4294967296 ys) (na : Dg.Norm xs) (nb : Dg.Norm ys) :
    Calls Tryz.prog 106 #[va, vb] w fun e w' => e = .returned (.int .i64 (cmpI (Dg.vl 4294967296 xs) (Dg.vl 4294967296 ys))) ∧ Below w.heap.size w w' := by
  obtain ⟨ao, ca, rfl, hla, hma, hca⟩ := ha
  obtain ⟨bo, cb, rfl, hlb, hmb, hcb⟩ := hb
  unfold maxLen at hma hmb
  obtain ⟨r, hr⟩ : ∃ r, cmpI (Dg.vl 4294967296 xs) (Dg.vl 4294967296 ys) = r := ⟨_, rfl⟩
  have hc0 := cmpInt_any (xs.length : Int) (ys.length : Int) w
  by_cases h1 : xs.length < ys.length
  · have hv := Dg.vl_lt_of_len 4294967296 (by omega) xs ys sa nb h1
    rw [cmpI_lt (by omega)] at hr
    subst hr
    rw [cmpI_lt (by omega)] at hc0
    rw [cmpI_lt (by omega)]
    go_enter Tryz.func106, Tryz.ntmps106
    go_wp2_with fail
    refine hc0.mono ?_
    rintro e w' ⟨rfl, rfl⟩
    go_wp2
    go_ret
    exact ⟨rfl, Below.refl _ _⟩
  · by_cases h2 : ys.length < xs.length
    · have hv := Dg.vl_lt_of_len 4294967296 (by omega) ys xs sb na h2
      rw [cmpI_gt (by omega)] at hc0
      rw [cmpI_gt (by omega)]
      clear hr
      go_enter Tryz.func106, Tryz.ntmps106
      go_wp2_with fail
      refine hc0.mono ?_
      rintro e w' ⟨rfl, rfl⟩
      go_wp2
      go_ret
      exact ⟨rfl, Below.refl _ _⟩
    · have hle : xs.length = ys.length := by omega
      rw [hle, cmpI_eq] at hc0
      rw [hr]
      have HR : Hid (cmpI (Dg.vl 4294967296 xs) (Dg.vl 4294967296 ys) = r) := hr
      have HL : Hid (xs.length = ys.length) := hle
      rw [hle] at hla hca ⊢
      clear hr hle h1 h2
      go_enter Tryz.func106, Tryz.ntmps106
      go_wp2_with fail
      refine hc0.mono ?_
      rintro e w' ⟨rfl, rfl⟩
      clear hc0
      go_wp2
      go_loopw [6] (fun iv wr => ∃ k : Nat, k ≤ ys.length ∧ iv = .int .i64 ((k : Int) - 1) ∧ Hid (∀ j, k ≤ j → xs.getD j 0 = ys.getD j 0) ∧ Below w'.heap.size w' wr) (fun iv _ => (intOf iv + 1).toNat)
      case atStart => exact ⟨ys.length, Nat.le_refl _, rfl, fun j hj => by rw [Dg.getD_of_le xs j (by rw [HL.out]; exact hj), Dg.getD_of_le ys j hj], Below.refl _ _⟩
      case round =>
        obtain ⟨k, hk, rfl, hall, bel⟩ := hrel
        by_cases hk0 : k = 0
        · subst hk0
          have he := Dg.eq_of_all xs ys HL.out (fun j => hall j (by omega))
          have hr0 : r = 0 := by rw [← HR.out, he, cmpI_eq]
          subst hr0
          clear he
          go_wp2
          go_ret
          exact ⟨rfl, bel⟩
        · obtain ⟨m, rfl⟩ : ∃ m, k = m + 1 := ⟨k - 1, by omega⟩
          obtain ⟨b, off, rfl, hcell⟩ := hca (by omega)
          obtain ⟨b2, off2, rfl, hcell2⟩ := hcb (by omega)
          have hx := cell_later bel (hcell m (by omega))
          have hy := cell_later bel (hcell2 m (by omega))
          have hst : xs.getD m 0 < ys.getD m 0 → cmpI (Dg.vl 4294967296 xs) (Dg.vl 4294967296 ys) = -1 := fun h =>
            cmpI_lt (by have := Dg.vl_lt_of_digit 4294967296 xs ys m HL.out (by rw [HL.out]; omega) hall h sa; omega)
          have hst2 : ys.getD m 0 < xs.getD m 0 → cmpI (Dg.vl 4294967296 xs) (Dg.vl 4294967296 ys) = 1 := fun h =>
            cmpI_gt (by have := Dg.vl_lt_of_digit 4294967296 ys xs m HL.out.symm (by omega) (fun j hj => (hall j hj).symm) h sb; omega)
          rw [HR.out] at hst hst2
          obtain ⟨x, ex⟩ : ∃ x, xs.getD m 0 = x := ⟨_, rfl⟩
          obtain ⟨y, ey⟩ : ∃ y, ys.getD m 0 = y := ⟨_, rfl⟩
          have HX : Hid (xs.getD m 0 = x) := ex
          have HY : Hid (ys.getD m 0 = y) := ey
          rw [ex] at hx hst hst2
          rw [ey] at hy hst hst2
          clear ex ey hcell hcell2 hca hcb
          have hcm := fun wx => cmpU32_any (x : Int) (y : Int) wx
          have hmI : ((m + 1 : Nat) : Int) - 1 = (m : Int) := by omega
          by_cases hxy : x < y
          · have hr1 := hst hxy
            subst hr1
            rw [cmpI_lt (by omega)] at hcm
            clear hst hst2
            go_wp2
            go_quiet ((go_at_call 128; exact Calls.quiet_of_same (hcm _)))
            go_wp2
            go_ret
            exact ⟨rfl, below_drewN bel _⟩
          · by_cases hyx : y < x
            · have hr1 := hst2 hyx
              subst hr1
              rw [cmpI_gt (by omega)] at hcm
              clear hst hst2
              go_wp2
              go_quiet ((go_at_call 128; exact Calls.quiet_of_same (hcm _)))
              go_wp2
              go_ret
              exact ⟨rfl, below_drewN bel _⟩
            · have hxe : x = y := by omega
              subst hxe
              rw [cmpI_eq] at hcm
              clear hst hst2
              go_wp2
              go_quiet ((go_at_call 128; exact Calls.quiet_of_same (hcm _)))
              go_wp2
              go_roundw
              case rel => exact ⟨m, by omega, by go_num, fun j hj => by
                by_cases e : j = m
                · rw [e]; exact HX.out.trans HY.out.symm
                · exact hall j (by omega), below_drewN bel _⟩
              case measure => simp [intOf]
end Go.Proofs.YtgbccbmflokooaaGreatDoor
/-
  Contracts of nat.Compare and nat.Sub.
-/
namespace Go.Proofs.YtgbccbmflokooaaGreatDoor
open Go.RowKit

/-- What nat.Compare answers. -/
def cmpR (xs ys : List Nat) : Int := if chk2 xs ys = 0 then cmpI (Dg.vl 4294967296 xs) (Dg.vl 4294967296 ys) else 0

/-- What nat.Sub answers. -/
def subR (xs ys : List Nat) : List Nat × Int :=
  if chk2 xs ys = 0 then (if Dg.vl 4294967296 xs < Dg.vl 4294967296 ys then ([], 3) else capd (Dg.vl 4294967296 xs - Dg.vl 4294967296 ys)) else ([], chk2 xs ys)

theorem len_le_of_vl {xs ys : List Nat} (sa : Dg.Small 4294967296 xs) (nb : Dg.Norm ys) (h : ¬ Dg.vl 4294967296 xs < Dg.vl 4294967296 ys) : ys.length ≤ xs.length := by
  rcases Nat.lt_or_ge xs.length ys.length with hl | hl
  · exact absurd (Dg.vl_lt_of_len _ (by omega) _ _ sa nb hl) h
  · exact hl

end Go.Proofs.YtgbccbmflokooaaGreatDoor

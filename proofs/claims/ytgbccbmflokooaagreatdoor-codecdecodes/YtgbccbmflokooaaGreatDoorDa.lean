/-
  Texts laid together: Dy1, Dy2, Dy3, Dy4.
-/
import Derived.Test.YtgbccbmflokooaaGreatDoorDz
import Derived.Test.YtgbccbmflokooaaGreatDoorNd
import Derived.Shelf.Spec.TrailingZeros
import Derived.Handy
import Derived.Deep.RegionHeld3
import Derived.Laws.ResultCell
/-
  Contracts of bits.TrailingZeros32 (its table laid) and of Twos.
-/
namespace Go.Proofs.YtgbccbmflokooaaGreatDoor
open Go.RowKit

/-- The library's table lies in its variable. -/
def Tab (w : World) : Prop := ∀ j, j < 32 → w.cell? ⟨0, j, none⟩ = some (.int .u8 ((Lib.deBruijn32tab.getD j 0 : Nat) : Int))

theorem Tab.later {w w' : World} (h : Tab w) (hb : Below w.heap.size w w') : Tab w' := fun j hj => cell_later hb (h j hj)

theorem cmpI_nl {a b : Int} (h : b ≤ a) : decide (cmpI a b < 0) = false := by
  unfold cmpI
  rw [if_neg (by omega)]
  by_cases h2 : b < a
  · rw [if_pos h2]; rfl
  · rw [if_neg h2]; rfl

set_option maxRecDepth 100000 in
theorem tz32_core (x k idx : Nat) (w : World) (hx0 : ((x : Int) == 0) = false)
    (key : bits BinOp.and IntKind.u32 (x : Int) (-(x : Int) % 4294967296) * 125613361 % 4294967296 / 134217728 = (idx : Int))
    (hi : idx < 32) (hk : k < 32) (hcell : w.cell? ⟨0, idx, none⟩ = some (.int .u8 k)) :
    Calls Tryz.prog 147 #[.int .u32 x] w fun e w' => e = .returned (.int .i64 k) ∧ w' = w := by
  go_enter Tryz.func147, Tryz.ntmps147
  go_wp2_with (simp only [key])
  go_ret
  exact ⟨rfl, rfl⟩

theorem tz32_any (x : Nat) (w : World) (hx : x < 4294967296) (hx0 : x ≠ 0) (hT : Tab w) :
    Calls Tryz.prog 147 #[.int .u32 x] w fun e w' => ∃ k m : Nat, e = .returned (.int .i64 k) ∧ x = 2 ^ k * (2 * m + 1) ∧ k < 32 ∧ w' = w := by
  obtain ⟨hlow, hk⟩ := Lib.lowest_bit 32 x hx0 hx
  obtain ⟨hi, htab⟩ := Lib.deBruijn32_at _ hk
  obtain ⟨m, hm, _⟩ := Lib.ctzFrom_spec 32 x (by omega) hx
  have e0 : Lib.ctz 32 x = Lib.ctzFrom 32 x := by simp [Lib.ctz, hx0]
  have hcell := hT _ hi
  rw [htab] at hcell
  refine (tz32_core x _ _ w (by simp; omega) (tz32_key x _ hx hx0 hlow) hi hk hcell).mono ?_
  rintro e w' ⟨rfl, rfl⟩
  exact ⟨_, m, rfl, by rw [e0]; exact hm, hk, rfl⟩

theorem zeros_mul (l : List Nat) (k : Nat) (h : ∀ j, j < k → l.getD j 0 = 0) : ∃ q, Dg.vl 4294967296 l = 4294967296 ^ k * q := by
  by_cases hk : k ≤ l.length
  · refine ⟨Dg.vl 4294967296 (l.drop k), ?_⟩
    rw [Dg.vl_take_drop 4294967296 l k hk, Dg.vl_zeros 4294967296 (l.take k) (fun i => ?_), Nat.zero_add]
    by_cases hi : i < k
    · have := h i hi
      simpa [List.getD_eq_getElem?_getD, List.getElem?_take, hi] using this
    · simp [List.getD_eq_getElem?_getD, List.getElem?_take, hi]
  · refine ⟨0, ?_⟩
    rw [Nat.mul_zero]
    exact Dg.vl_zeros _ _ (fun i => by
      by_cases hi : i < k
      · exact h i hi
      · simp [List.getD_eq_getElem?_getD, show l.length ≤ i from by omega])

/-- The first digit that is not 0 tells. -/
theorem tz_digit (l : List Nat) (k t m : Nat) (hk : k < l.length) (h : ∀ j, j < k → l.getD j 0 = 0) (hd : l.getD k 0 = 2 ^ t * (2 * m + 1)) (ht : t < 32) : tz (Dg.vl 4294967296 l) = 32 * k + t := by
  have h1 := Dg.vl_split 4294967296 l k hk
  have h0 : Dg.vl 4294967296 (l.take k) = 0 := Dg.vl_zeros 4294967296 (l.take k) (fun i => by
    by_cases hi : i < k
    · have := h i hi
      simpa [List.getD_eq_getElem?_getD, List.getElem?_take, hi] using this
    · simp [List.getD_eq_getElem?_getD, List.getElem?_take, hi])
  rw [h0, hd, Nat.zero_add] at h1
  obtain ⟨u, hu⟩ : ∃ u, Dg.vl 4294967296 (l.drop (k + 1)) = u := ⟨_, rfl⟩
  rw [hu] at h1
  have e32 : (4294967296 : Nat) = 2 ^ t * (2 * 2 ^ (31 - t)) := by
    have : (4294967296 : Nat) = 2 ^ (t + (1 + (31 - t))) := by rw [show t + (1 + (31 - t)) = 32 from by omega]
    rw [this, Nat.pow_add, Nat.pow_add, Nat.pow_one]
  have e1 : (2 : Nat) ^ (32 * k) = 4294967296 ^ k := by rw [Nat.pow_mul]
  refine tz_eq (m := m + 2 ^ (31 - t) * u) ?_
  rw [h1, Nat.pow_add, e1, Nat.mul_assoc]
  congr 1
  generalize 2 ^ (31 - t) = c at *
  have e2 : 4294967296 * u = 2 ^ t * (2 * (c * u)) := by rw [e32]; simp only [Nat.mul_assoc]
  rw [e2, ← Nat.mul_add]
  congr 1
  omega

set_option maxRecDepth 100000 in
theorem twos_any (v : Value) (n : Nat) (w : World) (hv : Rd w .u32 v (Dg.dg 4294967296 n)) (hL : (Dg.dg 4294967296 n).length ≤ 1000000) (hT : Tab w) :
    Calls Tryz.prog 132 #[v] w fun e w' => e = .returned (.int .i64 ((if n = 0 then 0 else tz n : Nat) : Int)) ∧ w' = w := by
  have hs := Dg.small_dg 4294967296 n (by omega)
  have hvl := Dg.vl_dg 4294967296 n (by omega)
  have hz : (∀ j, (Dg.dg 4294967296 n).getD j 0 = 0) → n = 0 := fun h => by rw [← hvl]; exact Dg.vl_zeros _ _ h
  obtain ⟨xs, hx⟩ : ∃ xs, Dg.dg 4294967296 n = xs := ⟨_, rfl⟩
  rw [hx] at hv hs hvl hz hL
  obtain ⟨ao, ca, rfl⟩ := hv.shape
  obtain ⟨hlc, hm, hcb⟩ := rd_open hv
  have HZ : Hid (∀ k, xs.length ≤ k → (∀ j, j < k → xs.getD j 0 = 0) → n = 0) := fun k hk h => hz (fun j => by
    by_cases hj : j < k
    · exact h j hj
    · simp [List.getD_eq_getElem?_getD, show xs.length ≤ j from by omega])
  have HN : Hid (Dg.vl 4294967296 xs = n) := hvl
  clear hx hz hvl hv
  go_enter Tryz.func132, Tryz.ntmps132
  go_wp2
  go_loop [7] (fun iv => ∃ k : Nat, k ≤ xs.length ∧ iv = .int .i64 k ∧ Hid (∀ j, j < k → xs.getD j 0 = 0)) (fun iv => xs.length - (intOf iv).toNat)
  case atStart => exact ⟨0, Nat.zero_le _, rfl, fun j hj => absurd hj (Nat.not_lt_zero j)⟩
  case round =>
    obtain ⟨k, hk, rfl, hzk⟩ := hrel
    by_cases hlt : k < xs.length
    · obtain ⟨b, off, rfl, hcell⟩ := hcb (by omega)
      have hc := hcell k hlt
      have hl := hs k
      obtain ⟨x, hx⟩ : ∃ x, xs.getD k 0 = x := ⟨_, rfl⟩
      rw [hx] at hc hl
      have HX : Hid (xs.getD k 0 = x) := hx
      clear hx hcell hcb
      by_cases hx0 : x = 0
      · subst hx0
        go_wp2
        go_round
        case rel => exact ⟨k + 1, by omega, by go_num, fun j hj => by
          by_cases e : j = k
          · rw [e]; exact HX.out
          · exact hzk.out j (by omega)⟩
        case measure => simp [intOf]; omega
      · have ht := tz32_any x w hl hx0 hT
        have h0 : ((x : Int) == 0) = false := by simp; exact hx0
        go_wp2_with fail
        refine ht.mono ?_
        rintro e w' ⟨t, m, rfl, hxm, htl, rfl⟩
        have e1 := tz_digit xs k t m hlt hzk.out (by rw [HX.out]; exact hxm) htl
        rw [HN.out] at e1
        have hn0 : n ≠ 0 := by
          intro e
          have h2 := dig_of 4294967296 xs k (by omega) hs (by rw [HN.out]; exact e)
          rw [HX.out] at h2
          exact hx0 h2
        clear ht hxm
        go_wp2
        go_ret
        refine ⟨?_, rfl⟩
        first | rfl | (rw [e1]; rfl) | (simp only [e1]; rfl) | (show Ending.returned (Value.int IntKind.i64 (32 * (k : Int) + (t : Int))) = _; rw [e1]; rfl)
    · have hn0 := HZ.out k (by omega) hzk.out
      go_wp2
      go_ret
      subst hn0
      exact ⟨rfl, rfl⟩
end Go.Proofs.YtgbccbmflokooaaGreatDoor
/-
  Contracts of package long, up to Short.
-/
namespace Go.Proofs.YtgbccbmflokooaaGreatDoor
open Go.RowKit

/-- The value v is this dyad, its mantissa without noughts at its end. -/
def Dv (w : World) (v : Value) (t : Trip) : Prop := ∃ s, v = .agg #[.bool t.s, s, .int .i64 t.e] ∧ Rd w .u32 s (Dg.dg 4294967296 t.n)

def DRes (w : World) (t : Trip) (e : Ending) (w' : World) : Prop := ∃ s, e = .returned (.agg #[.bool t.s, s, .int .i64 t.e]) ∧ Own w' w.heap.size 84 .u32 s (Dg.dg 4294967296 t.n) ∧ Below w.heap.size w w'

theorem Dv.later {w w' : World} {v : Value} {t : Trip} (h : Dv w v t) (hb : Below w.heap.size w w') : Dv w' v t := by
  obtain ⟨s, hv, hr⟩ := h
  exact ⟨s, hv, hr.later hb⟩

/-- A struct of three cells of the call's own. -/
def Loc (w : World) (b : Nat) (v0 v1 v2 : Value) : Prop :=
  b < w.heap.size ∧ (w.cell? ⟨b, 0, none⟩ = some v0 ∧ w.cell? ⟨b, 1, none⟩ = some v1 ∧ w.cell? ⟨b, 2, none⟩ = some v2) ∧ w.frozen? ⟨b, 0, none⟩ = false ∧ w.frozen? ⟨b, 1, none⟩ = false ∧ w.frozen? ⟨b, 2, none⟩ = false

theorem Loc.later {w w' : World} {b : Nat} {v0 v1 v2 : Value} (h : Loc w b v0 v1 v2) (hb : Below w.heap.size w w') : Loc w' b v0 v1 v2 := by
  obtain ⟨hl, ⟨c0, c1, c2⟩, f0, f1, f2⟩ := h
  have hk := hb.block b hl
  refine ⟨Nat.lt_of_lt_of_le hl hb.size, ⟨cell_later hb c0, cell_later hb c1, cell_later hb c2⟩, ?_, ?_, ?_⟩
  · rw [World.frozen?_of_block (w := w) (a := ⟨b, 0, none⟩) hk]; exact f0
  · rw [World.frozen?_of_block (w := w) (a := ⟨b, 1, none⟩) hk]; exact f1
  · rw [World.frozen?_of_block (w := w) (a := ⟨b, 2, none⟩) hk]; exact f2

theorem loc_new (w : World) (v0 v1 v2 : Value) (ty : TypeId) : Loc (w.alloc (.cells #[v0, v1, v2] ty)) w.heap.size v0 v1 v2 := by
  refine ⟨by simp [World.size_alloc], ⟨?_, ?_, ?_⟩, ?_, ?_, ?_⟩
  · rw [World.cell?_alloc_at _ _ _ _ rfl]; rfl
  · rw [World.cell?_alloc_at _ _ _ _ rfl]; rfl
  · rw [World.cell?_alloc_at _ _ _ _ rfl]; rfl
  · exact World.frozen?_alloc_at _ _ _ _ rfl
  · exact World.frozen?_alloc_at _ _ _ _ rfl
  · exact World.frozen?_alloc_at _ _ _ _ rfl

theorem loc_set {w : World} {b : Nat} {v0 v1 v2 : Value} (h : Loc w b v0 v1 v2) (x0 x1 x2 : Value) :
    Loc (((w.setCell ⟨b, 0, none⟩ x0).setCell ⟨b, 1, none⟩ x1).setCell ⟨b, 2, none⟩ x2) b x0 x1 x2 := by
  obtain ⟨hl, ⟨c0, c1, c2⟩, f0, f1, f2⟩ := h
  refine ⟨by simpa using hl, ⟨?_, ?_, ?_⟩, ?_, ?_, ?_⟩
  · rw [World.cell?_setCell_other (h := by simp), World.cell?_setCell_other (h := by simp)]
    exact World.cell?_setCell_same _ _ _ c0
  · have k1 : (w.setCell ⟨b, 0, none⟩ x0).cell? ⟨b, 1, none⟩ = some v1 := by rw [World.cell?_setCell_other (h := by simp)]; exact c1
    rw [World.cell?_setCell_other (h := by simp)]
    exact World.cell?_setCell_same _ _ _ k1
  · have k2 : ((w.setCell ⟨b, 0, none⟩ x0).setCell ⟨b, 1, none⟩ x1).cell? ⟨b, 2, none⟩ = some v2 := by rw [World.cell?_setCell_other (h := by simp), World.cell?_setCell_other (h := by simp)]; exact c2
    exact World.cell?_setCell_same _ _ _ k2
  · simpa using f0
  · simpa using f1
  · simpa using f2

theorem Own.apart {w w' : World} {base e b : Nat} {k : IntKind} {v : Value} {zs : List Nat} (h : Own w base e k v zs) (hg : w.grownBy w' (some b)) (hb : b < base) : Own w' base e k v zs := by
  obtain ⟨hl, h2⟩ := h
  refine ⟨hl, ?_⟩
  rcases h2 with h2 | ⟨g', cap', cur, hv, hbg, hh, r⟩
  · exact .inl h2
  · refine .inr ⟨g', cap', cur, hv, hbg, ?_, r⟩
    have hlt : g' < w.heap.size := by
      rw [Array.getElem?_eq_some_iff] at hh
      exact hh.1
    rw [hg.block g' hlt (by intro e; cases e; omega)]
    exact hh

theorem Own.apart3 {w : World} {base e b : Nat} {k : IntKind} {v : Value} {zs : List Nat} (h : Own w base e k v zs) (hb : b < base) (x0 x1 x2 : Value) :
    Own (((w.setCell ⟨b, 0, none⟩ x0).setCell ⟨b, 1, none⟩ x1).setCell ⟨b, 2, none⟩ x2) base e k v zs :=
  ((h.apart (grown_set w b 0 x0) hb).apart (grown_set _ b 1 x1) hb).apart (grown_set _ b 2 x2) hb

theorem rd_nil (w : World) (k : IntKind) : Rd w k (.slice none 0 0) [] := (own_nil w 0 0 k).rd

theorem below_alloc (w : World) (o : Obj) : Below w.heap.size w (w.alloc o) := (Below.refl _ _).alloc (Nat.le_refl _) _

set_option maxRecDepth 100000 in
theorem digits_any (b : Bool) (ao : Option Addr) (n ca : Nat) (e : Int) (w : World) : Calls Tryz.prog 125 #[.agg #[.bool b, .slice ao n ca, .int .i64 e]] w fun x w' => x = .returned (.slice ao n ca) ∧ Below w.heap.size w w' := by
  have b1 : Below w.heap.size w (w.alloc (.cells #[.bool b, .slice ao n ca, .int .i64 e] 112)) := (Below.refl _ _).alloc (Nat.le_refl _) _
  go_enter Tryz.func125, Tryz.ntmps125
  go_wp2
  go_ret
  exact ⟨rfl, b1⟩

set_option maxRecDepth 100000 in
theorem new_any (b : Bool) (ao : Option Addr) (n ca : Nat) (e : Int) (w : World) : Calls Tryz.prog 112 #[.bool b, .slice ao n ca, .int .i64 e] w fun x w' => x = .returned (.agg #[.bool b, .slice ao n ca, .int .i64 e]) ∧ Below w.heap.size w w' := by
  go_enter Tryz.func112, Tryz.ntmps112
  go_wp2
  go_returns
  exact ⟨rfl, (Below.refl _ _).alloc (Nat.le_refl _) _⟩

set_option maxRecDepth 100000 in
theorem of_dy (b : Bool) (ao : Option Addr) (n ca : Nat) (e : Int) (w : World) : Calls Tryz.prog 86 #[.agg #[.bool b, .slice ao n ca, .int .i64 e]] w fun x w' => x = .returned (.agg #[.bool b, .slice ao n ca, .int .i64 e]) ∧ Below w.heap.size w w' := by
  go_enter Tryz.func86, Tryz.ntmps86
  go_wp2
  go_returns
  exact ⟨rfl, ((Below.refl _ _).alloc (Nat.le_refl _) _).alloc (by simp [World.size_alloc]) _⟩

set_option maxRecDepth 100000 in
set_option maxHeartbeats 800000 in
theorem dbare_any (v : Value) (t : Trip) (w : World) (hv : Dv w v t) (hL : (Dg.dg 4294967296 t.n).length ≤ 500000) (he : -1000000 ≤ t.e ∧ t.e ≤ 1000000) (hT : Tab w) (htz : tz t.n ≤ 1000000) :
    Calls Tryz.prog 114 #[v] w (DRes w (bare t)) := by
  obtain ⟨s, rfl, hr⟩ := hv
  obtain ⟨ts, n, e⟩ := t
  simp only at hr hL he htz ⊢
  obtain ⟨ao, ca, rfl⟩ := hr.shape
  obtain ⟨e1, e2⟩ := he
  by_cases hn : n = 0
  · subst hn
    rw [show Dg.dg 4294967296 0 = [] from rfl] at hr ⊢
    go_enter Tryz.func114, Tryz.ntmps114
    rw [show bare ⟨ts, 0, e⟩ = ⟨false, 0, 0⟩ from by unfold bare; rfl]
    go_wp2
    go_returns
    exact ⟨_, rfl, own_nil _ _ _ _, ((Below.refl _ _).alloc (Nat.le_refl _) _).alloc (by simp [World.size_alloc]) _⟩
  · have h0 : (((Dg.dg 4294967296 n).length : Int) == 0) = false := by simp [Dg.dg_nil_iff 4294967296 n (by omega)]; exact hn
    have HB : Hid (bare ⟨ts, n, e⟩ = ⟨ts, n / 2 ^ tz n, e + tz n⟩) := by show bare ⟨ts, n, e⟩ = _; unfold bare; rw [if_neg hn]
    have hsm := Dg.small_dg 4294967296 n (by omega)
    have hvl := Dg.vl_dg 4294967296 n (by omega)
    have HTW : Hid (∀ w1, Below w.heap.size w w1 → Calls Tryz.prog 132 #[.slice ao (Dg.dg 4294967296 n).length ca] w1 fun e w' => e = .returned (.int .i64 ((tz n : Nat) : Int)) ∧ w' = w1) := fun w1 b1 => by
      have := twos_any _ n w1 (hr.later b1) (by omega) (hT.later b1)
      rwa [if_neg hn] at this
    have HSH : Hid (∀ w1, Below w.heap.size w w1 → Calls Tryz.prog 127 #[.slice ao (Dg.dg 4294967296 n).length ca, .int .i64 (-((tz n : Nat) : Int))] w1 (Num w1 (n / 2 ^ tz n))) := fun w1 b1 => by
      have := shifted_any _ _ (-((tz n : Nat) : Int)) w1 (hr.later b1) hsm (by omega) (by omega) (by omega)
      rw [hvl] at this
      have e : shN n (-((tz n : Nat) : Int)) = n / 2 ^ tz n := by
        unfold shN
        by_cases hz : -((tz n : Nat) : Int) < 0
        · rw [if_pos hz]; congr 2; omega
        · rw [if_neg hz]
          have h0 : tz n = 0 := by omega
          rw [h0]; simp
      rwa [e] at this
    obtain ⟨m, hm⟩ : ∃ m, (Dg.dg 4294967296 n).length = m := ⟨_, rfl⟩
    obtain ⟨k, hk⟩ : ∃ k, tz n = k := ⟨_, rfl⟩
    obtain ⟨q, hq⟩ : ∃ q, n / 2 ^ tz n = q := ⟨_, rfl⟩
    rw [hq, hk] at HB
    rw [hq, hk, hm] at HSH
    rw [hk, hm] at HTW
    rw [hm] at h0 hL ⊢
    rw [hk] at htz
    rw [HB.out]
    clear hm hk hq hr hsm hvl HB hn hT
    have l1 := (loc_new w (.bool ts) (.slice ao m ca) (.int .i64 e) 112).later (below_alloc _ (.cells #[.bool false, .slice none 0 0, .int .i64 0] 112))
    have l2 := loc_new (w.alloc (.cells #[.bool ts, .slice ao m ca, .int .i64 e] 112)) (.bool false) (.slice none 0 0) (.int .i64 0) 112
    have bA := below_trans (below_alloc w (.cells #[.bool ts, .slice ao m ca, .int .i64 e] 112)) (below_alloc _ (.cells #[.bool false, .slice none 0 0, .int .i64 0] 112))
    rw [World.size_alloc] at l2
    go_enter Tryz.func114, Tryz.ntmps114
    go_wp2_with fail
    refine (digits_any ts ao m ca e _).mono ?_
    rintro x w1 ⟨rfl, b1⟩
    have l1 := l1.later b1
    have l2 := l2.later b1
    have b01 := below_trans bA b1
    clear bA b1
    go_wp2_with fail
    refine (HTW.out w1 b01).mono ?_
    rintro x w2 ⟨rfl, rfl⟩
    have bd : Below w2.heap.size w2 w2.drew := (Below.refl _ _).drew
    have l1 := l1.later bd
    have l2 := l2.later bd
    have b02 := below_trans b01 bd
    obtain ⟨-, ⟨c0, c1, c2⟩, -⟩ := id l1
    clear b01 bd
    have e3 : IntKind.i64.wrap (-(k : Int)) = -(k : Int) := IntWalk.i64_in _ ⟨by omega, by omega⟩
    have e4 : IntKind.i64.wrap (e + (k : Int)) = e + (k : Int) := IntWalk.i64_in _ ⟨by omega, by omega⟩
    go_wp2_with fail
    go_region_held3 (fun wq => wq.cell? ⟨w.heap.size, 0, none⟩ = some (.bool ts) ∧ wq.cell? ⟨w.heap.size, 1, none⟩ = some (.slice ao m ca) ∧ wq.cell? ⟨w.heap.size, 2, none⟩ = some (.int .i64 e)) (go_keep) (first
      | (go_at_call 125; refine (digits_any ts ao m ca e _).mono ?_; rintro x w3 ⟨rfl, b3⟩; have l13 := l1.later b3; have l23 := l2.later b3; have b03 := below_trans b02 b3; obtain ⟨-, ⟨p0, p1, p2⟩, -⟩ := id l13)
      | (go_at_call 127; refine (HSH.out _ b03).mono ?_; rintro x w4 ⟨vs, rfl, own4, b4⟩; have l14 := l13.later b4; have l24 := l23.later b4; have b04 := below_trans b03 b4; obtain ⟨so, sc, hvs⟩ := own4.rd.shape; subst hvs; obtain ⟨-, ⟨q0, q1, q2⟩, -⟩ := id l14)
      | (go_at_call 112; refine (new_any ts so _ sc _ _).mono ?_; rintro x w5 ⟨rfl, b5⟩; have l25 := l24.later b5; have l15 := l14.later b5; obtain ⟨-, ⟨r0, r1, r2⟩, -⟩ := id l15; have b05 := below_trans b04 b5; have rd5 := own4.rd.later b5; obtain ⟨hl5, ⟨d0, d1, d2⟩, f0, f1, f2⟩ := id l25))
    all_goals go_wp2
    have l5 := loc_set l25 (.bool ts) (.slice so (Dg.dg 4294967296 q).length sc) (.int .i64 (e + (k : Int)))
    have hbw : w.heap.size ≤ w.heap.size + 1 := by omega
    have b5' := ((b05.setCell (p := ⟨w.heap.size + 1, 0, none⟩) hbw (.bool ts)).setCell (p := ⟨w.heap.size + 1, 1, none⟩) hbw (.slice so (Dg.dg 4294967296 q).length sc)).setCell (p := ⟨w.heap.size + 1, 2, none⟩) hbw (.int .i64 (e + (k : Int)))
    have own5 := (own4.later b5).apart3 (b := w.heap.size + 1) l23.1 (.bool ts) (.slice so (Dg.dg 4294967296 q).length sc) (.int .i64 (e + (k : Int)))
    obtain ⟨-, ⟨g0, g1, g2⟩, -⟩ := l5
    refine bodyPost_ret (v := .agg #[.bool ts, .slice so (Dg.dg 4294967296 q).length sc, .int .i64 (e + (k : Int))]) (by simp [results, Tryz.results114, go_sem, g0, g1, g2]) rfl ?_
    exact ⟨_, rfl, own5.lower b03.size, b5'⟩
end Go.Proofs.YtgbccbmflokooaaGreatDoor
/-
  Contract of Short.
-/
namespace Go.Proofs.YtgbccbmflokooaaGreatDoor
open Go.RowKit

/-- Bare, unless it needs more than a dyad may have. -/
def shortT (t : Trip) : Trip × Int :=
  if 1200 < (Dg.dg 4294967296 (bare t).n).length then (⟨false, 0, 0⟩, 2) else if (bare t).e < -20000 ∨ 20000 < (bare t).e then (⟨false, 0, 0⟩, 3) else (bare t, 0)

def DAns (w : World) (r : Trip × Int) (e : Ending) (w' : World) : Prop :=
  ∃ s, e = .returned (.tuple #[.agg #[.bool r.1.s, s, .int .i64 r.1.e], .int .i64 r.2]) ∧ Own w' w.heap.size 84 .u32 s (Dg.dg 4294967296 r.1.n) ∧ Below w.heap.size w w'

theorem Loc.apart {w : World} {b c : Nat} {v0 v1 v2 : Value} (h : Loc w b v0 v1 v2) (hne : c ≠ b) (x0 x1 x2 : Value) :
    Loc (((w.setCell ⟨c, 0, none⟩ x0).setCell ⟨c, 1, none⟩ x1).setCell ⟨c, 2, none⟩ x2) b v0 v1 v2 := by
  obtain ⟨hl, ⟨c0, c1, c2⟩, f0, f1, f2⟩ := h
  refine ⟨by simpa using hl, ⟨?_, ?_, ?_⟩, by simpa using f0, by simpa using f1, by simpa using f2⟩
  · rw [World.cell?_setCell_other (h := by simp), World.cell?_setCell_other (h := by simp), World.cell?_setCell_other (h := by simp)]; exact c0
  · rw [World.cell?_setCell_other (h := by simp), World.cell?_setCell_other (h := by simp), World.cell?_setCell_other (h := by simp)]; exact c1
  · rw [World.cell?_setCell_other (h := by simp), World.cell?_setCell_other (h := by simp), World.cell?_setCell_other (h := by simp)]; exact c2

theorem below_set3 {B b : Nat} {w w1 : World} (h : Below B w w1) (hb : B ≤ b) (x0 x1 x2 : Value) : Below B w (((w1.setCell ⟨b, 0, none⟩ x0).setCell ⟨b, 1, none⟩ x1).setCell ⟨b, 2, none⟩ x2) :=
  ((h.setCell (p := ⟨b, 0, none⟩) hb x0).setCell (p := ⟨b, 1, none⟩) hb x1).setCell (p := ⟨b, 2, none⟩) hb x2

set_option maxRecDepth 100000 in
set_option maxHeartbeats 1600000 in
theorem dshort_any (v : Value) (t : Trip) (w : World) (hv : Dv w v t) (hL : (Dg.dg 4294967296 t.n).length ≤ 500000) (he : -1000000 ≤ t.e ∧ t.e ≤ 1000000) (hT : Tab w) (htz : tz t.n ≤ 1000000) :
    Calls Tryz.prog 81 #[v] w (DAns w (shortT t)) := by
  have HB : Hid (∀ w1, Below w.heap.size w w1 → Calls Tryz.prog 114 #[v] w1 (DRes w1 (bare t))) := fun w1 b1 => dbare_any v t w1 (hv.later b1) hL he (hT.later b1) htz
  obtain ⟨s0, rfl, hr⟩ := hv
  obtain ⟨ao, ca, rfl⟩ := hr.shape
  obtain ⟨ts, n, e⟩ := t
  simp only at hr hL he htz ⊢ HB
  obtain ⟨m, hm⟩ : ∃ m, (Dg.dg 4294967296 n).length = m := ⟨_, rfl⟩
  rw [hm] at HB ⊢
  obtain ⟨⟨bs, bn, be⟩, hbt⟩ : ∃ bt, bare ⟨ts, n, e⟩ = bt := ⟨_, rfl⟩
  unfold shortT
  rw [hbt] at HB ⊢
  simp only at HB ⊢
  clear hbt hm hr hL he htz hT
  have l1 := (loc_new w (.bool ts) (.slice ao m ca) (.int .i64 e) 112).later (below_alloc _ (.cells #[.bool false, .slice none 0 0, .int .i64 0] 95))
  have l2 := loc_new (w.alloc (.cells #[.bool ts, .slice ao m ca, .int .i64 e] 112)) (.bool false) (.slice none 0 0) (.int .i64 0) 95
  have bA := below_trans (below_alloc w (.cells #[.bool ts, .slice ao m ca, .int .i64 e] 112)) (below_alloc _ (.cells #[.bool false, .slice none 0 0, .int .i64 0] 95))
  rw [World.size_alloc] at l2
  by_cases h1 : 1200 < (Dg.dg 4294967296 bn).length
  · rw [if_pos h1]
    go_enter Tryz.func81, Tryz.ntmps81
    go_wp2_with fail
    refine (HB.out _ bA).mono ?_
    rintro x w1 ⟨s, rfl, own1, b1⟩
    have l1 := l1.later b1
    have l2 := l2.later b1
    have b01 := below_trans bA b1
    rw [World.size_alloc, World.size_alloc] at own1
    obtain ⟨so, sc, hs⟩ := own1.rd.shape
    subst hs
    obtain ⟨hl1, ⟨c0, c1, c2⟩, f0, f1, f2⟩ := id l1
    obtain ⟨hl2, ⟨d0, d1, d2⟩, k0, k1, k2⟩ := id l2
    clear bA b1 HB
    go_wp2
    obtain ⟨-, ⟨g0, g1, g2⟩, -⟩ := loc_set (l2.apart (c := w.heap.size) (by omega) (.bool bs) (.slice so (Dg.dg 4294967296 bn).length sc) (.int .i64 be)) (.bool false) (.slice none 0 0) (.int .i64 0)
    have b2 := below_set3 (below_set3 b01 (Nat.le_refl _) (.bool bs) (.slice so (Dg.dg 4294967296 bn).length sc) (.int .i64 be)) (show w.heap.size ≤ w.heap.size + 1 by omega) (.bool false) (.slice none 0 0) (.int .i64 0)
    refine bodyPost_ret (v := .tuple #[.agg #[(.bool false), (.slice none 0 0), (.int .i64 0)], .int .i64 2]) (by simp [results, Tryz.results81, go_sem, g0, g1, g2]) rfl ?_
    exact ⟨_, rfl, own_nil _ _ _ _, b2⟩
  · rw [if_neg h1]
    by_cases h2 : be < -20000
    · rw [if_pos (Or.inl h2)]
      go_enter Tryz.func81, Tryz.ntmps81
      go_wp2_with fail
      refine (HB.out _ bA).mono ?_
      rintro x w1 ⟨s, rfl, own1, b1⟩
      have l1 := l1.later b1
      have l2 := l2.later b1
      have b01 := below_trans bA b1
      rw [World.size_alloc, World.size_alloc] at own1
      obtain ⟨so, sc, hs⟩ := own1.rd.shape
      subst hs
      obtain ⟨hl1, ⟨c0, c1, c2⟩, f0, f1, f2⟩ := id l1
      obtain ⟨hl2, ⟨d0, d1, d2⟩, k0, k1, k2⟩ := id l2
      clear bA b1 HB
      go_wp2
      obtain ⟨-, ⟨g0, g1, g2⟩, -⟩ := loc_set (l2.apart (c := w.heap.size) (by omega) (.bool bs) (.slice so (Dg.dg 4294967296 bn).length sc) (.int .i64 be)) (.bool false) (.slice none 0 0) (.int .i64 0)
      have b2 := below_set3 (below_set3 b01 (Nat.le_refl _) (.bool bs) (.slice so (Dg.dg 4294967296 bn).length sc) (.int .i64 be)) (show w.heap.size ≤ w.heap.size + 1 by omega) (.bool false) (.slice none 0 0) (.int .i64 0)
      refine bodyPost_ret (v := .tuple #[.agg #[(.bool false), (.slice none 0 0), (.int .i64 0)], .int .i64 3]) (by simp [results, Tryz.results81, go_sem, g0, g1, g2]) rfl ?_
      exact ⟨_, rfl, own_nil _ _ _ _, b2⟩
    · by_cases h3 : 20000 < be
      · rw [if_pos (Or.inr h3)]
        go_enter Tryz.func81, Tryz.ntmps81
        go_wp2_with fail
        refine (HB.out _ bA).mono ?_
        rintro x w1 ⟨s, rfl, own1, b1⟩
        have l1 := l1.later b1
        have l2 := l2.later b1
        have b01 := below_trans bA b1
        rw [World.size_alloc, World.size_alloc] at own1
        obtain ⟨so, sc, hs⟩ := own1.rd.shape
        subst hs
        obtain ⟨hl1, ⟨c0, c1, c2⟩, f0, f1, f2⟩ := id l1
        obtain ⟨hl2, ⟨d0, d1, d2⟩, k0, k1, k2⟩ := id l2
        clear bA b1 HB
        go_wp2
        obtain ⟨-, ⟨g0, g1, g2⟩, -⟩ := loc_set (l2.apart (c := w.heap.size) (by omega) (.bool bs) (.slice so (Dg.dg 4294967296 bn).length sc) (.int .i64 be)) (.bool false) (.slice none 0 0) (.int .i64 0)
        have b2 := below_set3 (below_set3 b01 (Nat.le_refl _) (.bool bs) (.slice so (Dg.dg 4294967296 bn).length sc) (.int .i64 be)) (show w.heap.size ≤ w.heap.size + 1 by omega) (.bool false) (.slice none 0 0) (.int .i64 0)
        refine bodyPost_ret (v := .tuple #[.agg #[(.bool false), (.slice none 0 0), (.int .i64 0)], .int .i64 3]) (by simp [results, Tryz.results81, go_sem, g0, g1, g2]) rfl ?_
        exact ⟨_, rfl, own_nil _ _ _ _, b2⟩
      · rw [if_neg (by omega)]
        go_enter Tryz.func81, Tryz.ntmps81
        go_wp2_with fail
        refine (HB.out _ bA).mono ?_
        rintro x w1 ⟨s, rfl, own1, b1⟩
        have l1 := l1.later b1
        have l2 := l2.later b1
        have b01 := below_trans bA b1
        rw [World.size_alloc, World.size_alloc] at own1
        obtain ⟨so, sc, hs⟩ := own1.rd.shape
        subst hs
        obtain ⟨hl1, ⟨c0, c1, c2⟩, f0, f1, f2⟩ := id l1
        obtain ⟨hl2, ⟨d0, d1, d2⟩, k0, k1, k2⟩ := id l2
        clear bA b1 HB
        go_wp2
        obtain ⟨-, ⟨g0, g1, g2⟩, -⟩ := loc_set (l2.apart (c := w.heap.size) (by omega) (.bool bs) (.slice so (Dg.dg 4294967296 bn).length sc) (.int .i64 be)) (.bool bs) (.slice so (Dg.dg 4294967296 bn).length sc) (.int .i64 be)
        have own2 := (own1.apart3 (b := w.heap.size) (by omega) (.bool bs) (.slice so (Dg.dg 4294967296 bn).length sc) (.int .i64 be)).apart3 (b := w.heap.size + 1) (by omega) (.bool bs) (.slice so (Dg.dg 4294967296 bn).length sc) (.int .i64 be)
        have b2 := below_set3 (below_set3 b01 (Nat.le_refl _) (.bool bs) (.slice so (Dg.dg 4294967296 bn).length sc) (.int .i64 be)) (show w.heap.size ≤ w.heap.size + 1 by omega) (.bool bs) (.slice so (Dg.dg 4294967296 bn).length sc) (.int .i64 be)
        refine bodyPost_ret (v := .tuple #[.agg #[(.bool bs), (.slice so (Dg.dg 4294967296 bn).length sc), (.int .i64 be)], .int .i64 0]) (by simp [results, Tryz.results81, go_sem, g0, g1, g2]) rfl ?_
        exact ⟨_, rfl, own2.lower (by omega), b2⟩
end Go.Proofs.YtgbccbmflokooaaGreatDoor
/-
  Contracts of package long: at, Plus, Minus, Times, Sign, Compare.
-/
namespace Go.Proofs.YtgbccbmflokooaaGreatDoor
open Go.RowKit

theorem shN_up (n : Nat) (i : Int) (h : 0 ≤ i) : shN n i = n * 2 ^ i.toNat := by
  unfold shN
  rw [if_neg (by omega)]

set_option maxRecDepth 100000 in
theorem at_any (ts : Bool) (ao : Option Addr) (ca n : Nat) (e x : Int) (w : World) (hr : Rd w .u32 (.slice ao (Dg.dg 4294967296 n).length ca) (Dg.dg 4294967296 n)) (hL : (Dg.dg 4294967296 n).length ≤ 500000)
    (_h1 : -1000000 ≤ e) (_h2 : e ≤ 1000000) (_h3 : -1000000 ≤ x) (h4 : x ≤ e) (h5 : e - x ≤ 1000000) :
    Calls Tryz.prog 149 #[.agg #[.bool ts, .slice ao (Dg.dg 4294967296 n).length ca, .int .i64 e], .int .i64 x] w (Num w (n * 2 ^ (e - x).toNat)) := by
  have HSH : Hid (∀ w1, Below w.heap.size w w1 → Calls Tryz.prog 127 #[.slice ao (Dg.dg 4294967296 n).length ca, .int .i64 (e - x)] w1 (Num w1 (n * 2 ^ (e - x).toNat))) := fun w1 b1 => by
    have := shifted_any _ _ (e - x) w1 (hr.later b1) (Dg.small_dg _ _ (by omega)) (by omega) (by omega) (by omega)
    rwa [Dg.vl_dg _ _ (by omega), shN_up n _ (by omega)] at this
  obtain ⟨m, hm⟩ : ∃ m, (Dg.dg 4294967296 n).length = m := ⟨_, rfl⟩
  obtain ⟨q, hq⟩ : ∃ q, n * 2 ^ (e - x).toNat = q := ⟨_, rfl⟩
  rw [hm, hq] at HSH ⊢
  clear hm hr hL hq
  have l1 := loc_new w (.bool ts) (.slice ao m ca) (.int .i64 e) 112
  have bA := below_alloc w (.cells #[.bool ts, .slice ao m ca, .int .i64 e] 112)
  have bd : Below (w.alloc (.cells #[.bool ts, .slice ao m ca, .int .i64 e] 112)).heap.size (w.alloc (.cells #[.bool ts, .slice ao m ca, .int .i64 e] 112)) (w.alloc (.cells #[.bool ts, .slice ao m ca, .int .i64 e] 112)).drew := (Below.refl _ _).drew
  have l1 := l1.later bd
  have b02 := below_trans bA bd
  clear bA bd
  have e3 : IntKind.i64.wrap (e - x) = e - x := IntWalk.i64_in _ ⟨by omega, by omega⟩
  obtain ⟨-, ⟨c0, c1, c2⟩, -⟩ := id l1
  go_enter Tryz.func149, Tryz.ntmps149
  go_wp2_with fail
  go_region_held3 (fun wq => wq.cell? ⟨w.heap.size, 0, none⟩ = some (.bool ts) ∧ wq.cell? ⟨w.heap.size, 1, none⟩ = some (.slice ao m ca) ∧ wq.cell? ⟨w.heap.size, 2, none⟩ = some (.int .i64 e)) (go_keep) (first
    | (go_at_call 125; refine (digits_any ts ao m ca e _).mono ?_; rintro x w3 ⟨rfl, b3⟩; have l13 := l1.later b3; have b03 := below_trans b02 b3; obtain ⟨-, ⟨p0, p1, p2⟩, -⟩ := id l13)
    | (go_at_call 127; refine (HSH.out _ b03).mono ?_; rintro x w4 ⟨vs, rfl, own4, b4⟩; have l14 := l13.later b4; have b04 := below_trans b03 b4; obtain ⟨-, ⟨q0, q1, q2⟩, -⟩ := id l14))
  all_goals go_wp2
  go_ret
  exact ⟨_, rfl, own4.lower b03.size, b04⟩

def dshape (t : Trip) (ao : Option Addr) (ca : Nat) : Value := .agg #[.bool t.s, .slice ao (Dg.dg 4294967296 t.n).length ca, .int .i64 t.e]

theorem up_len (n k L j : Nat) (h : (Dg.dg 4294967296 n).length ≤ L) (hk : k ≤ 32 * j) : (Dg.dg 4294967296 (n * 2 ^ k)).length ≤ L + j := by
  apply Dg.dg_len_le 4294967296 _ _ (by omega)
  have h1 := Dg.vl_lt 4294967296 (Dg.dg 4294967296 n) (Dg.small_dg _ _ (by omega))
  rw [Dg.vl_dg _ _ (by omega)] at h1
  have h2 : 4294967296 ^ (Dg.dg 4294967296 n).length ≤ 4294967296 ^ L := Nat.pow_le_pow_right (by omega) h
  have h3 : 2 ^ k ≤ 4294967296 ^ j := by
    rw [show (4294967296 : Nat) = 2 ^ 32 from rfl, ← Nat.pow_mul]
    exact Nat.pow_le_pow_right (by omega) (by omega)
  rw [Nat.pow_add]
  have h4 : 0 < 4294967296 ^ j := Nat.pow_pos (by omega)
  generalize 4294967296 ^ j = c at *
  generalize 4294967296 ^ L = d at *
  have h5 : n * 2 ^ k ≤ n * c := Nat.mul_le_mul_left _ h3
  have h6 : n * c < d * c := Nat.mul_lt_mul_of_pos_right (by omega) h4
  omega

set_option maxRecDepth 100000 in
set_option maxHeartbeats 1600000 in
theorem dplus_any (v u : Value) (a b : Trip) (w : World) (hv : Dv w v a) (hu : Dv w u b) (hLa : (Dg.dg 4294967296 a.n).length ≤ 100000) (hLb : (Dg.dg 4294967296 b.n).length ≤ 100000)
    (ha1 : -100000 ≤ a.e) (ha2 : a.e ≤ 100000) (hb1 : -100000 ≤ b.e) (hb2 : b.e ≤ 100000) :
    Calls Tryz.prog 141 #[v, u] w (DRes w (plusT a b)) := by
  obtain ⟨s0, rfl, ra⟩ := hv
  obtain ⟨ao, ca, rfl⟩ := ra.shape
  obtain ⟨s1, rfl, rb⟩ := hu
  obtain ⟨bo, cb, rfl⟩ := rb.shape
  obtain ⟨sa, an, ae⟩ := a
  obtain ⟨sb, bn, be⟩ := b
  simp only at ra rb hLa hLb ha1 ha2 hb1 hb2 ⊢
  have HATA : Hid (∀ w1, Below w.heap.size w w1 → Calls Tryz.prog 149 #[.agg #[.bool sa, .slice ao (Dg.dg 4294967296 an).length ca, .int .i64 ae], .int .i64 (min ae be)] w1 (Num w1 (an * 2 ^ (ae - min ae be).toNat))) := fun w1 b1 =>
    at_any sa ao ca an ae (min ae be) w1 (ra.later b1) (by omega) (by omega) (by omega) (by omega) (by omega) (by omega)
  have HATB : Hid (∀ w1, Below w.heap.size w w1 → Calls Tryz.prog 149 #[.agg #[.bool sb, .slice bo (Dg.dg 4294967296 bn).length cb, .int .i64 be], .int .i64 (min ae be)] w1 (Num w1 (bn * 2 ^ (be - min ae be).toNat))) := fun w1 b1 =>
    at_any sb bo cb bn be (min ae be) w1 (rb.later b1) (by omega) (by omega) (by omega) (by omega) (by omega) (by omega)
  have lX := up_len an (ae - min ae be).toNat 100000 6251 hLa (by omega)
  have lY := up_len bn (be - min ae be).toNat 100000 6251 hLb (by omega)
  unfold plusT
  simp only
  obtain ⟨X, hX⟩ : ∃ X, an * 2 ^ (ae - min ae be).toNat = X := ⟨_, rfl⟩
  obtain ⟨Y, hY⟩ : ∃ Y, bn * 2 ^ (be - min ae be).toNat = Y := ⟨_, rfl⟩
  obtain ⟨ma, hma⟩ : ∃ m, (Dg.dg 4294967296 an).length = m := ⟨_, rfl⟩
  obtain ⟨mb, hmb⟩ : ∃ m, (Dg.dg 4294967296 bn).length = m := ⟨_, rfl⟩
  rw [hX] at HATA lX ⊢
  rw [hY] at HATB lY ⊢
  rw [hma] at HATA ⊢
  rw [hmb] at HATB ⊢
  obtain ⟨x, hx⟩ : ∃ x, min ae be = x := ⟨_, rfl⟩
  have HX : Hid (min ae be = x) := hx
  have HPL : Hid (∀ v1 v2 w1, Rd w1 .u32 v1 (Dg.dg 4294967296 X) → Rd w1 .u32 v2 (Dg.dg 4294967296 Y) → Calls Tryz.prog 111 #[v1, v2] w1 (Num w1 (X + Y))) := fun v1 v2 w1 h1 h2 => by
    have := plus_any v1 v2 _ _ w1 h1 h2 (Dg.small_dg _ _ (by omega)) (Dg.small_dg _ _ (by omega)) (by omega) (by omega)
    rwa [Dg.vl_dg _ _ (by omega), Dg.vl_dg _ _ (by omega)] at this
  have HCM : Hid (∀ v1 v2 w1, Rd w1 .u32 v1 (Dg.dg 4294967296 X) → Rd w1 .u32 v2 (Dg.dg 4294967296 Y) → Calls Tryz.prog 106 #[v1, v2] w1 fun e w' => e = .returned (.int .i64 (cmpI X Y)) ∧ Below w1.heap.size w1 w') := fun v1 v2 w1 h1 h2 => by
    have := compare_any v1 v2 _ _ w1 h1 h2 (Dg.small_dg _ _ (by omega)) (Dg.small_dg _ _ (by omega)) (Dg.norm_dg _ _ (by omega)) (Dg.norm_dg _ _ (by omega))
    rwa [Dg.vl_dg _ _ (by omega), Dg.vl_dg _ _ (by omega)] at this
  have HMI : Hid (∀ P Q v1 v2 w1, P ≤ Q → (Dg.dg 4294967296 Q).length ≤ 500000 → Rd w1 .u32 v1 (Dg.dg 4294967296 Q) → Rd w1 .u32 v2 (Dg.dg 4294967296 P) → Calls Tryz.prog 108 #[v1, v2] w1 (Num w1 (Q - P))) := fun P Q v1 v2 w1 hle hl h1 h2 => by
    have := minus_any v1 v2 _ _ w1 h1 h2 (Dg.small_dg _ _ (by omega)) (Dg.small_dg _ _ (by omega)) (by omega) (dg_len_mono _ _ _ (by omega) hle) (by rw [Dg.vl_dg _ _ (by omega), Dg.vl_dg _ _ (by omega)]; exact hle)
    rwa [Dg.vl_dg _ _ (by omega), Dg.vl_dg _ _ (by omega)] at this
  clear hX hY hma hmb hx ra rb hLa hLb
  obtain ⟨A, hA⟩ : ∃ A, w.alloc (.cells #[.bool sa, .slice ao ma ca, .int .i64 ae] 112) = A := ⟨_, rfl⟩
  have la := loc_new w (.bool sa) (.slice ao ma ca) (.int .i64 ae) 112
  have bA := below_alloc w (.cells #[.bool sa, .slice ao ma ca, .int .i64 ae] 112)
  have sA : A.heap.size = w.heap.size + 1 := by rw [← hA, World.size_alloc]
  rw [hA] at la bA
  obtain ⟨B, hB⟩ : ∃ B, A.alloc (.cells #[.bool sb, .slice bo mb cb, .int .i64 be] 112) = B := ⟨_, rfl⟩
  have lb := loc_new A (.bool sb) (.slice bo mb cb) (.int .i64 be) 112
  have bB := below_alloc A (.cells #[.bool sb, .slice bo mb cb, .int .i64 be] 112)
  have sB : B.heap.size = w.heap.size + 1 + 1 := by rw [← hB, World.size_alloc, sA]
  rw [hB] at lb bB
  rw [sA] at lb
  have lc := loc_new B (.bool false) (.slice none 0 0) (.int .i64 0) 112
  have bC := below_alloc B (.cells #[.bool false, .slice none 0 0, .int .i64 0] 112)
  rw [sB] at lc
  have bd : Below (B.alloc (.cells #[.bool false, .slice none 0 0, .int .i64 0] 112)).heap.size (B.alloc (.cells #[.bool false, .slice none 0 0, .int .i64 0] 112)) (B.alloc (.cells #[.bool false, .slice none 0 0, .int .i64 0] 112)).drew := (Below.refl _ _).drew
  have la := ((la.later bB).later bC).later bd
  have lb := (lb.later bC).later bd
  have lc := lc.later bd
  have b02 := below_trans (below_trans (below_trans bA bB) bC) bd
  rw [← hB, ← hA] at la lb lc b02
  clear bA bB bC bd sA sB hA hB
  have ne3 : w.heap.size + 1 + 1 ≠ w.heap.size := by omega
  have ne4 : w.heap.size ≠ w.heap.size + 1 + 1 := by omega
  by_cases hs : sa = sb
  · subst hs
    rw [if_pos rfl]
    go_enter Tryz.func141, Tryz.ntmps141
    obtain ⟨-, ⟨ca0, ca1, ca2⟩, -⟩ := id la
    obtain ⟨-, ⟨cb0, cb1, cb2⟩, -⟩ := id lb
    go_wp2_with fail
    go_region_held3 (fun wq => (wq.cell? ⟨w.heap.size, 0, none⟩ = some (.bool sa) ∧ wq.cell? ⟨w.heap.size, 1, none⟩ = some (.slice ao ma ca) ∧ wq.cell? ⟨w.heap.size, 2, none⟩ = some (.int .i64 ae)) ∧ wq.cell? ⟨w.heap.size + 1, 0, none⟩ = some (.bool sa) ∧ wq.cell? ⟨w.heap.size + 1, 1, none⟩ = some (.slice bo mb cb) ∧ wq.cell? ⟨w.heap.size + 1, 2, none⟩ = some (.int .i64 be)) (go_keep) (first
      | (go_at_call 149; refine (HATA.out _ b02).mono ?_; rintro z w3 ⟨v1, rfl, o1, b3⟩; have la3 := la.later b3; have lb3 := lb.later b3; have lc3 := lc.later b3; have b03 := below_trans b02 b3; obtain ⟨-, ⟨p0, p1, p2⟩, -⟩ := id la3; obtain ⟨-, ⟨p3, p4, p5⟩, -⟩ := id lb3; clear b02)
      | (go_at_call 149; refine (HATB.out _ b03).mono ?_; rintro z w4 ⟨v2, rfl, o2, b4⟩; have la4 := la3.later b4; have lb4 := lb3.later b4; have lc4 := lc3.later b4; have b04 := below_trans b03 b4; obtain ⟨-, ⟨q0, q1, q2⟩, -⟩ := id la4; obtain ⟨-, ⟨q3, q4, q5⟩, -⟩ := id lb4))
    clear la lb lc la3 lb3 lc3 p0 p1 p2 p3 p4 p5 ca0 ca1 ca2 cb0 cb1 cb2 b03
    have r1 := (o1.later b4).rd
    have r2 := o2.rd
    clear o1 o2 b3 b4
    have bd : Below w4.heap.size w4 w4.drew := (Below.refl _ _).drew
    have la5 := la4.later bd
    have lb5 := lb4.later bd
    have lc5 := lc4.later bd
    have b05 := below_trans b04 bd
    have r1 := r1.later bd
    have r2 := r2.later bd
    obtain ⟨-, ⟨c0, c1, c2⟩, -⟩ := id la5
    obtain ⟨-, ⟨c3, c4, c5⟩, -⟩ := id lb5
    clear la4 lb4 lc4 bd q0 q1 q2 q3 q4 q5
    go_wp2
    go_region_held3 (fun wq => wq.cell? ⟨w.heap.size, 0, none⟩ = some (.bool sa)) (go_keep) (first
      | (go_at_call 111; refine (HPL.out v1 v2 _ r1 r2).mono ?_; rintro z w6 ⟨vs, rfl, o6, b6⟩; have la6 := la5.later b6; have lb6 := lb5.later b6; have lc6 := lc5.later b6; have b06 := below_trans b05 b6; obtain ⟨so, sc, hvs⟩ := o6.rd.shape; subst hvs; obtain ⟨-, ⟨t0, t1, t2⟩, -⟩ := id la6; clear r1)
      | (go_at_call 112; refine (new_any sa so _ sc _ _).mono ?_; rintro z w7 ⟨rfl, b7⟩; have la7 := la6.later b7; have lb7 := lb6.later b7; have lc7 := lc6.later b7; have b07 := below_trans b06 b7; obtain ⟨-, ⟨u0, u1, u2⟩, -⟩ := id la7; obtain ⟨hl7, ⟨d0, d1, d2⟩, f0, f1, f2⟩ := id lc7))
    all_goals go_wp2
    obtain ⟨-, ⟨g0, g1, g2⟩, -⟩ := loc_set lc7 (.bool sa) (.slice so (Dg.dg 4294967296 (X + Y)).length sc) (.int .i64 (min ae be))
    have o7 := (o6.later b7).apart3 (b := w.heap.size + 1 + 1) lc5.1 (.bool sa) (.slice so (Dg.dg 4294967296 (X + Y)).length sc) (.int .i64 (min ae be))
    have b8 := below_set3 b07 (show w.heap.size ≤ w.heap.size + 1 + 1 by omega) (.bool sa) (.slice so (Dg.dg 4294967296 (X + Y)).length sc) (.int .i64 (min ae be))
    refine bodyPost_ret (v := .agg #[.bool sa, .slice so (Dg.dg 4294967296 (X + Y)).length sc, .int .i64 (min ae be)]) (by simp [results, Tryz.results141, go_sem, g0, g1, g2]) rfl ?_
    exact ⟨_, rfl, o7.lower b05.size, b8⟩
  · rw [if_neg hs]
    have hsb : (sa == sb) = false := by simp [hs]
    by_cases hlt : X < Y
    · rw [if_pos hlt]
      rw [cmpI_lt (by omega)] at HCM
      go_enter Tryz.func141, Tryz.ntmps141
      obtain ⟨-, ⟨ca0, ca1, ca2⟩, -⟩ := id la
      obtain ⟨-, ⟨cb0, cb1, cb2⟩, -⟩ := id lb
      go_wp2_with fail
      go_region_held3 (fun wq => (wq.cell? ⟨w.heap.size, 0, none⟩ = some (.bool sa) ∧ wq.cell? ⟨w.heap.size, 1, none⟩ = some (.slice ao ma ca) ∧ wq.cell? ⟨w.heap.size, 2, none⟩ = some (.int .i64 ae)) ∧ wq.cell? ⟨w.heap.size + 1, 0, none⟩ = some (.bool sb) ∧ wq.cell? ⟨w.heap.size + 1, 1, none⟩ = some (.slice bo mb cb) ∧ wq.cell? ⟨w.heap.size + 1, 2, none⟩ = some (.int .i64 be)) (go_keep) (first
        | (go_at_call 149; refine (HATA.out _ b02).mono ?_; rintro z w3 ⟨v1, rfl, o1, b3⟩; have la3 := la.later b3; have lb3 := lb.later b3; have lc3 := lc.later b3; have b03 := below_trans b02 b3; obtain ⟨-, ⟨p0, p1, p2⟩, -⟩ := id la3; obtain ⟨-, ⟨p3, p4, p5⟩, -⟩ := id lb3; clear b02)
        | (go_at_call 149; refine (HATB.out _ b03).mono ?_; rintro z w4 ⟨v2, rfl, o2, b4⟩; have la4 := la3.later b4; have lb4 := lb3.later b4; have lc4 := lc3.later b4; have b04 := below_trans b03 b4; obtain ⟨-, ⟨q0, q1, q2⟩, -⟩ := id la4; obtain ⟨-, ⟨q3, q4, q5⟩, -⟩ := id lb4))
      clear la lb lc la3 lb3 lc3 p0 p1 p2 p3 p4 p5 ca0 ca1 ca2 cb0 cb1 cb2 b03
      have r1 := (o1.later b4).rd
      have r2 := o2.rd
      clear o1 o2 b3 b4
      go_wp2_with fail
      refine (HCM.out v1 v2 w4 r1 r2).mono ?_
      rintro z w9 ⟨rfl, b9⟩
      have la4 := la4.later b9
      have lb4 := lb4.later b9
      have lc4 := lc4.later b9
      have b04 := below_trans b04 b9
      have r1 := r1.later b9
      have r2 := r2.later b9
      clear b9
      have bd : Below w9.heap.size w9 w9.drew := (Below.refl _ _).drew
      have la5 := la4.later bd
      have lb5 := lb4.later bd
      have lc5 := lc4.later bd
      have b05 := below_trans b04 bd
      have r1 := r1.later bd
      have r2 := r2.later bd
      obtain ⟨-, ⟨c0, c1, c2⟩, -⟩ := id la5
      obtain ⟨-, ⟨c3, c4, c5⟩, -⟩ := id lb5
      clear la4 lb4 lc4 bd q0 q1 q2 q3 q4 q5
      go_wp2
      go_region_held3 (fun wq => wq.cell? ⟨w.heap.size + 1, 0, none⟩ = some (.bool sb)) (go_keep) (first
        | (go_at_call 108; refine (HMI.out X Y v2 v1 _ (by omega) (by omega) r2 r1).mono ?_; rintro z w6 ⟨vs, rfl, o6, b6⟩; have la6 := la5.later b6; have lb6 := lb5.later b6; have lc6 := lc5.later b6; have b06 := below_trans b05 b6; obtain ⟨so, sc, hvs⟩ := o6.rd.shape; subst hvs; obtain ⟨-, ⟨t0, t1, t2⟩, -⟩ := id lb6; clear r1)
        | (go_at_call 112; refine (new_any sb so _ sc _ _).mono ?_; rintro z w7 ⟨rfl, b7⟩; have la7 := la6.later b7; have lb7 := lb6.later b7; have lc7 := lc6.later b7; have b07 := below_trans b06 b7; obtain ⟨-, ⟨u0, u1, u2⟩, -⟩ := id lb7; obtain ⟨hl7, ⟨d0, d1, d2⟩, f0, f1, f2⟩ := id lc7))
      all_goals go_wp2
      obtain ⟨-, ⟨g0, g1, g2⟩, -⟩ := loc_set lc7 (.bool sb) (.slice so (Dg.dg 4294967296 (Y - X)).length sc) (.int .i64 (min ae be))
      have o7 := (o6.later b7).apart3 (b := w.heap.size + 1 + 1) lc5.1 (.bool sb) (.slice so (Dg.dg 4294967296 (Y - X)).length sc) (.int .i64 (min ae be))
      have b8 := below_set3 b07 (show w.heap.size ≤ w.heap.size + 1 + 1 by omega) (.bool sb) (.slice so (Dg.dg 4294967296 (Y - X)).length sc) (.int .i64 (min ae be))
      refine bodyPost_ret (v := .agg #[.bool sb, .slice so (Dg.dg 4294967296 (Y - X)).length sc, .int .i64 (min ae be)]) (by simp [results, Tryz.results141, go_sem, g0, g1, g2]) rfl ?_
      exact ⟨_, rfl, o7.lower b05.size, b8⟩
    · rw [if_neg hlt]
      have hd := cmpI_nl (a := (X : Int)) (b := (Y : Int)) (by omega)
      obtain ⟨r, hr⟩ : ∃ r, cmpI X Y = r := ⟨_, rfl⟩
      rw [hr] at hd HCM
      clear hr
      go_enter Tryz.func141, Tryz.ntmps141
      obtain ⟨-, ⟨ca0, ca1, ca2⟩, -⟩ := id la
      obtain ⟨-, ⟨cb0, cb1, cb2⟩, -⟩ := id lb
      go_wp2_with fail
      go_region_held3 (fun wq => (wq.cell? ⟨w.heap.size, 0, none⟩ = some (.bool sa) ∧ wq.cell? ⟨w.heap.size, 1, none⟩ = some (.slice ao ma ca) ∧ wq.cell? ⟨w.heap.size, 2, none⟩ = some (.int .i64 ae)) ∧ wq.cell? ⟨w.heap.size + 1, 0, none⟩ = some (.bool sb) ∧ wq.cell? ⟨w.heap.size + 1, 1, none⟩ = some (.slice bo mb cb) ∧ wq.cell? ⟨w.heap.size + 1, 2, none⟩ = some (.int .i64 be)) (go_keep) (first
        | (go_at_call 149; refine (HATA.out _ b02).mono ?_; rintro z w3 ⟨v1, rfl, o1, b3⟩; have la3 := la.later b3; have lb3 := lb.later b3; have lc3 := lc.later b3; have b03 := below_trans b02 b3; obtain ⟨-, ⟨p0, p1, p2⟩, -⟩ := id la3; obtain ⟨-, ⟨p3, p4, p5⟩, -⟩ := id lb3; clear b02)
        | (go_at_call 149; refine (HATB.out _ b03).mono ?_; rintro z w4 ⟨v2, rfl, o2, b4⟩; have la4 := la3.later b4; have lb4 := lb3.later b4; have lc4 := lc3.later b4; have b04 := below_trans b03 b4; obtain ⟨-, ⟨q0, q1, q2⟩, -⟩ := id la4; obtain ⟨-, ⟨q3, q4, q5⟩, -⟩ := id lb4))
      clear la lb lc la3 lb3 lc3 p0 p1 p2 p3 p4 p5 ca0 ca1 ca2 cb0 cb1 cb2 b03
      have r1 := (o1.later b4).rd
      have r2 := o2.rd
      clear o1 o2 b3 b4
      go_wp2_with fail
      refine (HCM.out v1 v2 w4 r1 r2).mono ?_
      rintro z w9 ⟨rfl, b9⟩
      have la4 := la4.later b9
      have lb4 := lb4.later b9
      have lc4 := lc4.later b9
      have b04 := below_trans b04 b9
      have r1 := r1.later b9
      have r2 := r2.later b9
      clear b9
      have bd : Below w9.heap.size w9 w9.drew := (Below.refl _ _).drew
      have la5 := la4.later bd
      have lb5 := lb4.later bd
      have lc5 := lc4.later bd
      have b05 := below_trans b04 bd
      have r1 := r1.later bd
      have r2 := r2.later bd
      obtain ⟨-, ⟨c0, c1, c2⟩, -⟩ := id la5
      obtain ⟨-, ⟨c3, c4, c5⟩, -⟩ := id lb5
      clear la4 lb4 lc4 bd q0 q1 q2 q3 q4 q5
      go_wp2
      go_region_held3 (fun wq => wq.cell? ⟨w.heap.size, 0, none⟩ = some (.bool sa)) (go_keep) (first
        | (go_at_call 108; refine (HMI.out Y X v1 v2 _ (by omega) (by omega) r1 r2).mono ?_; rintro z w6 ⟨vs, rfl, o6, b6⟩; have la6 := la5.later b6; have lb6 := lb5.later b6; have lc6 := lc5.later b6; have b06 := below_trans b05 b6; obtain ⟨so, sc, hvs⟩ := o6.rd.shape; subst hvs; obtain ⟨-, ⟨t0, t1, t2⟩, -⟩ := id la6; clear r1)
        | (go_at_call 112; refine (new_any sa so _ sc _ _).mono ?_; rintro z w7 ⟨rfl, b7⟩; have la7 := la6.later b7; have lb7 := lb6.later b7; have lc7 := lc6.later b7; have b07 := below_trans b06 b7; obtain ⟨-, ⟨u0, u1, u2⟩, -⟩ := id la7; obtain ⟨hl7, ⟨d0, d1, d2⟩, f0, f1, f2⟩ := id lc7))
      all_goals go_wp2
      obtain ⟨-, ⟨g0, g1, g2⟩, -⟩ := loc_set lc7 (.bool sa) (.slice so (Dg.dg 4294967296 (X - Y)).length sc) (.int .i64 (min ae be))
      have o7 := (o6.later b7).apart3 (b := w.heap.size + 1 + 1) lc5.1 (.bool sa) (.slice so (Dg.dg 4294967296 (X - Y)).length sc) (.int .i64 (min ae be))
      have b8 := below_set3 b07 (show w.heap.size ≤ w.heap.size + 1 + 1 by omega) (.bool sa) (.slice so (Dg.dg 4294967296 (X - Y)).length sc) (.int .i64 (min ae be))
      refine bodyPost_ret (v := .agg #[.bool sa, .slice so (Dg.dg 4294967296 (X - Y)).length sc, .int .i64 (min ae be)]) (by simp [results, Tryz.results141, go_sem, g0, g1, g2]) rfl ?_
      exact ⟨_, rfl, o7.lower b05.size, b8⟩
end Go.Proofs.YtgbccbmflokooaaGreatDoor

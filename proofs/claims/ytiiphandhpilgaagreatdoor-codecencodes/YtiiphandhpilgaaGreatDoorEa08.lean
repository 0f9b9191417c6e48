/-
  Texts laid together: Dy1, Dy2, DyCom, Lk.
-/
import Derived.Shelf.Spec.TrailingZeros
import Derived.Handy
import Derived.Deep.RegionHeld3
import Derived.Test.YtiiphandhpilgaaGreatDoorRows
import Derived.Test.YtiiphandhpilgaaGreatDoorTie
import Derived.Test.YtiiphandhpilgaaGreatDoorCards
import Derived.WalkKit
import Derived.ProofKit
import Derived.OpenShut
import Derived.ShutString
import Derived.ChangeOld
import Derived.Below
import Derived.LaidMore
import Derived.SevenTiedAt
import Derived.Lib.SmallJoins
import Derived.Lib.LaidTab
import Derived.Test.YtiiphandhpilgaaGreatDoorEa01
import Derived.Test.YtiiphandhpilgaaGreatDoorEa05
import Derived.Test.YtiiphandhpilgaaGreatDoorEa07
namespace Go.Proofs.YtiiphandhpilgaaGreatDoor
open Go.RowKit
/-- The library's table lies in its variable. -/
def Tab (w : World) : Prop := ∀ j, j < 32 → w.cell? ⟨0, j, none⟩ = some (.int .u8 ((Lib.deBruijn32tab.getD j 0 : Nat) : Int))

theorem Tab.later {w w' : World} (h : Tab w) (hb : Below w.heap.size w w') : Tab w' := fun j hj => cell_later hb (h j hj)

set_option maxRecDepth 100000 in
theorem tz32_core (x k idx : Nat) (w : World) (hx0 : ((x : Int) == 0) = false)
    (key : bits BinOp.and IntKind.u32 (x : Int) (-(x : Int) % 4294967296) * 125613361 % 4294967296 / 134217728 = (idx : Int))
    (hi : idx < 32) (hk : k < 32) (hcell : w.cell? ⟨0, idx, none⟩ = some (.int .u8 k)) :
    Calls Tryz.prog 142 #[.int .u32 x] w fun e w' => e = .returned (.int .i64 k) ∧ w' = w := by
  go_enter Tryz.func142, Tryz.ntmps142
  go_wp2_with (simp only [key])
  go_ret
  exact ⟨rfl, rfl⟩

theorem tz32_any (x : Nat) (w : World) (hx : x < 4294967296) (hx0 : x ≠ 0) (hT : Tab w) :
    Calls Tryz.prog 142 #[.int .u32 x] w fun e w' => ∃ k m : Nat, e = .returned (.int .i64 k) ∧ x = 2 ^ k * (2 * m + 1) ∧ k < 32 ∧ w' = w := by
  obtain ⟨hlow, hk⟩ := Lib.lowest_bit 32 x hx0 hx
  obtain ⟨hi, htab⟩ := Lib.deBruijn32_at _ hk
  obtain ⟨m, hm, _⟩ := Lib.ctzFrom_spec 32 x (by omega) hx
  have e0 : Lib.ctz 32 x = Lib.ctzFrom 32 x := by simp [Lib.ctz, hx0]
  have hcell := hT _ hi
  rw [htab] at hcell
  refine (tz32_core x _ _ w (by simp; omega) (tz32_key x _ hx hx0 hlow) hi hk hcell).mono ?_
  rintro e w' ⟨rfl, rfl⟩
  exact ⟨_, m, rfl, by rw [e0]; exact hm, hk, rfl⟩

/-- The first digit that is not 0 tells. -/
theorem tz_digit (l : List Nat) (k t m : Nat) (hk : k < l.length) (h : ∀ j, j < k → l.getD j 0 = 0) (hd : l.getD k 0 = 2 ^ t * (2 * m + 1)) (ht : t < 32) : tz (Dg.vl 4294967296 l) = 32 * k + t := by
  have h1 := Dg.vl_split 4294967296 l k hk
  have h0 : Dg.vl 4294967296 (l.take k) = 0 := Dg.vl_zeros 4294967296 (l.take k) (fun i => by
    by_cases hi : i < k
    · have := h i hi
      simpa [List.getD_eq_getElem?_getD, List.getElem?_take, hi] using this
    · simp [List.getD_eq_getElem?_getD, List.getElem?_take, hi])
  rw [h0, hd, Nat.zero_add] at h1
  obtain ⟨u, hu⟩ : ∃ u, Dg.vl 4294967296 (l.drop (k + 1)) = u := ⟨_, rfl⟩
  rw [hu] at h1
  have e32 : (4294967296 : Nat) = 2 ^ t * (2 * 2 ^ (31 - t)) := by
    have : (4294967296 : Nat) = 2 ^ (t + (1 + (31 - t))) := by rw [show t + (1 + (31 - t)) = 32 from by omega]
    rw [this, Nat.pow_add, Nat.pow_add, Nat.pow_one]
  have e1 : (2 : Nat) ^ (32 * k) = 4294967296 ^ k := by rw [Nat.pow_mul]
  refine tz_eq (m := m + 2 ^ (31 - t) * u) ?_
  rw [h1, Nat.pow_add, e1, Nat.mul_assoc]
  congr 1
  generalize 2 ^ (31 - t) = c at *
  have e2 : 4294967296 * u = 2 ^ t * (2 * (c * u)) := by rw [e32]; simp only [Nat.mul_assoc]
  rw [e2, ← Nat.mul_add]
  congr 1
  omega

set_option maxRecDepth 100000 in
theorem twos_any (v : Value) (n : Nat) (w : World) (hv : Rd w .u32 v (Dg.dg 4294967296 n)) (hL : (Dg.dg 4294967296 n).length ≤ 1000000) (hT : Tab w) :
    Calls Tryz.prog 127 #[v] w fun e w' => e = .returned (.int .i64 ((if n = 0 then 0 else tz n : Nat) : Int)) ∧ w' = w := by
  have hs := Dg.small_dg 4294967296 n (by omega)
  have hvl := Dg.vl_dg 4294967296 n (by omega)
  have hz : (∀ j, (Dg.dg 4294967296 n).getD j 0 = 0) → n = 0 := fun h => by rw [← hvl]; exact Dg.vl_zeros _ _ h
  obtain ⟨xs, hx⟩ : ∃ xs, Dg.dg 4294967296 n = xs := ⟨_, rfl⟩
  rw [hx] at hv hs hvl hz hL
  obtain ⟨ao, ca, rfl⟩ := hv.shape
  obtain ⟨hlc, hm, hcb⟩ := rd_open hv
  have HZ : Hid (∀ k, xs.length ≤ k → (∀ j, j < k → xs.getD j 0 = 0) → n = 0) := fun k hk h => hz (fun j => by
    by_cases hj : j < k
    · exact h j hj
    · simp [List.getD_eq_getElem?_getD, show xs.length ≤ j from by omega])
  have HN : Hid (Dg.vl 4294967296 xs = n) := hvl
  clear hx hz hvl hv
  go_enter Tryz.func127, Tryz.ntmps127
  go_wp2
  go_loop [7] (fun iv => ∃ k : Nat, k ≤ xs.length ∧ iv = .int .i64 k ∧ Hid (∀ j, j < k → xs.getD j 0 = 0)) (fun iv => xs.length - (intOf iv).toNat)
  case atStart => exact ⟨0, Nat.zero_le _, rfl, fun j hj => absurd hj (Nat.not_lt_zero j)⟩
  case round =>
    obtain ⟨k, hk, rfl, hzk⟩ := hrel
    by_cases hlt : k < xs.length
    · obtain ⟨b, off, rfl, hcell⟩ := hcb (by omega)
      have hc := hcell k hlt
      have hl := hs k
      obtain ⟨x, hx⟩ : ∃ x, xs.getD k 0 = x := ⟨_, rfl⟩
      rw [hx] at hc hl
      have HX : Hid (xs.getD k 0 = x) := hx
      clear hx hcell hcb
      by_cases hx0 : x = 0
      · subst hx0
        go_wp2
        go_round
        case rel => exact ⟨k + 1, by omega, by go_num, fun j hj => by
          by_cases e : j = k
          · rw [e]; exact HX.out
          · exact hzk.out j (by omega)⟩
        case measure => simp [intOf]; omega
      · have ht := tz32_any x w hl hx0 hT
        have h0 : ((x : Int) == 0) = false := by simp; exact hx0
        go_wp2_with fail
        refine ht.mono ?_
        rintro e w' ⟨t, m, rfl, hxm, htl, rfl⟩
        have e1 := tz_digit xs k t m hlt hzk.out (by rw [HX.out]; exact hxm) htl
        rw [HN.out] at e1
        have hn0 : n ≠ 0 := by
          intro e
          have h2 := dig_of 4294967296 xs k (by omega) hs (by rw [HN.out]; exact e)
          rw [HX.out] at h2
          exact hx0 h2
        clear ht hxm
        go_wp2
        go_ret
        refine ⟨?_, rfl⟩
        first | rfl | (rw [e1]; rfl) | (simp only [e1]; rfl) | (show Ending.returned (Value.int IntKind.i64 (32 * (k : Int) + (t : Int))) = _; rw [e1]; rfl)
    · have hn0 := HZ.out k (by omega) hzk.out
      go_wp2
      go_ret
      subst hn0
      exact ⟨rfl, rfl⟩
end Go.Proofs.YtiiphandhpilgaaGreatDoor
namespace Go.Proofs.YtiiphandhpilgaaGreatDoor
open Go.RowKit
/-- The value v is this dyad, its mantissa without noughts at its end. -/
def Dv (w : World) (v : Value) (t : Trip) : Prop := ∃ s, v = .agg #[.bool t.s, s, .int .i64 t.e] ∧ Rd w .u32 s (Dg.dg 4294967296 t.n)

def DRes (w : World) (t : Trip) (e : Ending) (w' : World) : Prop := ∃ s, e = .returned (.agg #[.bool t.s, s, .int .i64 t.e]) ∧ Own w' w.heap.size 79 .u32 s (Dg.dg 4294967296 t.n) ∧ Below w.heap.size w w'

theorem Dv.later {w w' : World} {v : Value} {t : Trip} (h : Dv w v t) (hb : Below w.heap.size w w') : Dv w' v t := by
  obtain ⟨s, hv, hr⟩ := h
  exact ⟨s, hv, hr.later hb⟩

/-- A struct of three cells of the call's own. -/
def Loc (w : World) (b : Nat) (v0 v1 v2 : Value) : Prop :=
  b < w.heap.size ∧ (w.cell? ⟨b, 0, none⟩ = some v0 ∧ w.cell? ⟨b, 1, none⟩ = some v1 ∧ w.cell? ⟨b, 2, none⟩ = some v2) ∧ w.frozen? ⟨b, 0, none⟩ = false ∧ w.frozen? ⟨b, 1, none⟩ = false ∧ w.frozen? ⟨b, 2, none⟩ = false

theorem Loc.later {w w' : World} {b : Nat} {v0 v1 v2 : Value} (h : Loc w b v0 v1 v2) (hb : Below w.heap.size w w') : Loc w' b v0 v1 v2 := by
  obtain ⟨hl, ⟨c0, c1, c2⟩, f0, f1, f2⟩ := h
  have hk := hb.block b hl
  refine ⟨Nat.lt_of_lt_of_le hl hb.size, ⟨cell_later hb c0, cell_later hb c1, cell_later hb c2⟩, ?_, ?_, ?_⟩
  · rw [World.frozen?_of_block (w := w) (a := ⟨b, 0, none⟩) hk]; exact f0
  · rw [World.frozen?_of_block (w := w) (a := ⟨b, 1, none⟩) hk]; exact f1
  · rw [World.frozen?_of_block (w := w) (a := ⟨b, 2, none⟩) hk]; exact f2

theorem loc_new (w : World) (v0 v1 v2 : Value) (ty : TypeId) : Loc (w.alloc (.cells #[v0, v1, v2] ty)) w.heap.size v0 v1 v2 := by
  refine ⟨by simp [World.size_alloc], ⟨?_, ?_, ?_⟩, ?_, ?_, ?_⟩
  · rw [World.cell?_alloc_at _ _ _ _ rfl]; rfl
  · rw [World.cell?_alloc_at _ _ _ _ rfl]; rfl
  · rw [World.cell?_alloc_at _ _ _ _ rfl]; rfl
  · exact World.frozen?_alloc_at _ _ _ _ rfl
  · exact World.frozen?_alloc_at _ _ _ _ rfl
  · exact World.frozen?_alloc_at _ _ _ _ rfl

theorem loc_set {w : World} {b : Nat} {v0 v1 v2 : Value} (h : Loc w b v0 v1 v2) (x0 x1 x2 : Value) :
    Loc (((w.setCell ⟨b, 0, none⟩ x0).setCell ⟨b, 1, none⟩ x1).setCell ⟨b, 2, none⟩ x2) b x0 x1 x2 := by
  obtain ⟨hl, ⟨c0, c1, c2⟩, f0, f1, f2⟩ := h
  refine ⟨by simpa using hl, ⟨?_, ?_, ?_⟩, ?_, ?_, ?_⟩
  · rw [World.cell?_setCell_other (h := by simp), World.cell?_setCell_other (h := by simp)]
    exact World.cell?_setCell_same _ _ _ c0
  · have k1 : (w.setCell ⟨b, 0, none⟩ x0).cell? ⟨b, 1, none⟩ = some v1 := by rw [World.cell?_setCell_other (h := by simp)]; exact c1
    rw [World.cell?_setCell_other (h := by simp)]
    exact World.cell?_setCell_same _ _ _ k1
  · have k2 : ((w.setCell ⟨b, 0, none⟩ x0).setCell ⟨b, 1, none⟩ x1).cell? ⟨b, 2, none⟩ = some v2 := by rw [World.cell?_setCell_other (h := by simp), World.cell?_setCell_other (h := by simp)]; exact c2
    exact World.cell?_setCell_same _ _ _ k2
  · simpa using f0
  · simpa using f1
  · simpa using f2

theorem Own.apart {w w' : World} {base e b : Nat} {k : IntKind} {v : Value} {zs : List Nat} (h : Own w base e k v zs) (hg : w.grownBy w' (some b)) (hb : b < base) : Own w' base e k v zs := by
  obtain ⟨hl, h2⟩ := h
  refine ⟨hl, ?_⟩
  rcases h2 with h2 | ⟨g', cap', cur, hv, hbg, hh, r⟩
  · exact .inl h2
  · refine .inr ⟨g', cap', cur, hv, hbg, ?_, r⟩
    have hlt : g' < w.heap.size := by
      rw [Array.getElem?_eq_some_iff] at hh
      exact hh.1
    rw [hg.block g' hlt (by intro e; cases e; omega)]
    exact hh

theorem Own.apart3 {w : World} {base e b : Nat} {k : IntKind} {v : Value} {zs : List Nat} (h : Own w base e k v zs) (hb : b < base) (x0 x1 x2 : Value) :
    Own (((w.setCell ⟨b, 0, none⟩ x0).setCell ⟨b, 1, none⟩ x1).setCell ⟨b, 2, none⟩ x2) base e k v zs :=
  ((h.apart (grown_set w b 0 x0) hb).apart (grown_set _ b 1 x1) hb).apart (grown_set _ b 2 x2) hb

theorem rd_nil (w : World) (k : IntKind) : Rd w k (.slice none 0 0) [] := (own_nil w 0 0 k).rd

theorem below_alloc (w : World) (o : Obj) : Below w.heap.size w (w.alloc o) := (Below.refl _ _).alloc (Nat.le_refl _) _

set_option maxRecDepth 100000 in
theorem digits_any (b : Bool) (ao : Option Addr) (n ca : Nat) (e : Int) (w : World) : Calls Tryz.prog 120 #[.agg #[.bool b, .slice ao n ca, .int .i64 e]] w fun x w' => x = .returned (.slice ao n ca) ∧ Below w.heap.size w w' := by
  have b1 : Below w.heap.size w (w.alloc (.cells #[.bool b, .slice ao n ca, .int .i64 e] 108)) := (Below.refl _ _).alloc (Nat.le_refl _) _
  go_enter Tryz.func120, Tryz.ntmps120
  go_wp2
  go_ret
  exact ⟨rfl, b1⟩

set_option maxRecDepth 100000 in
theorem new_any (b : Bool) (ao : Option Addr) (n ca : Nat) (e : Int) (w : World) : Calls Tryz.prog 107 #[.bool b, .slice ao n ca, .int .i64 e] w fun x w' => x = .returned (.agg #[.bool b, .slice ao n ca, .int .i64 e]) ∧ Below w.heap.size w w' := by
  go_enter Tryz.func107, Tryz.ntmps107
  go_wp2
  go_returns
  exact ⟨rfl, (Below.refl _ _).alloc (Nat.le_refl _) _⟩

set_option maxRecDepth 100000 in
theorem of_dy (b : Bool) (ao : Option Addr) (n ca : Nat) (e : Int) (w : World) : Calls Tryz.prog 79 #[.agg #[.bool b, .slice ao n ca, .int .i64 e]] w fun x w' => x = .returned (.agg #[.bool b, .slice ao n ca, .int .i64 e]) ∧ Below w.heap.size w w' := by
  go_enter Tryz.func79, Tryz.ntmps79
  go_wp2
  go_returns
  exact ⟨rfl, ((Below.refl _ _).alloc (Nat.le_refl _) _).alloc (by simp [World.size_alloc]) _⟩

set_option maxRecDepth 100000 in
set_option maxHeartbeats 800000 in
theorem dbare_any (v : Value) (t : Trip) (w : World) (hv : Dv w v t) (hL : (Dg.dg 4294967296 t.n).length ≤ 500000) (he : -1000000 ≤ t.e ∧ t.e ≤ 1000000) (hT : Tab w) (htz : tz t.n ≤ 1000000) :
    Calls Tryz.prog 109 #[v] w (DRes w (bare t)) := by
  obtain ⟨s, rfl, hr⟩ := hv
  obtain ⟨ts, n, e⟩ := t
  simp only at hr hL he htz ⊢
  obtain ⟨ao, ca, rfl⟩ := hr.shape
  obtain ⟨e1, e2⟩ := he
  by_cases hn : n = 0
  · subst hn
    rw [show Dg.dg 4294967296 0 = [] from rfl] at hr ⊢
    go_enter Tryz.func109, Tryz.ntmps109
    rw [show bare ⟨ts, 0, e⟩ = ⟨false, 0, 0⟩ from by unfold bare; rfl]
    go_wp2
    go_returns
    exact ⟨_, rfl, own_nil _ _ _ _, ((Below.refl _ _).alloc (Nat.le_refl _) _).alloc (by simp [World.size_alloc]) _⟩
  · have h0 : (((Dg.dg 4294967296 n).length : Int) == 0) = false := by simp [Dg.dg_nil_iff 4294967296 n (by omega)]; exact hn
    have HB : Hid (bare ⟨ts, n, e⟩ = ⟨ts, n / 2 ^ tz n, e + tz n⟩) := by show bare ⟨ts, n, e⟩ = _; unfold bare; rw [if_neg hn]
    have hsm := Dg.small_dg 4294967296 n (by omega)
    have hvl := Dg.vl_dg 4294967296 n (by omega)
    have HTW : Hid (∀ w1, Below w.heap.size w w1 → Calls Tryz.prog 127 #[.slice ao (Dg.dg 4294967296 n).length ca] w1 fun e w' => e = .returned (.int .i64 ((tz n : Nat) : Int)) ∧ w' = w1) := fun w1 b1 => by
      have := twos_any _ n w1 (hr.later b1) (by omega) (hT.later b1)
      rwa [if_neg hn] at this
    have HSH : Hid (∀ w1, Below w.heap.size w w1 → Calls Tryz.prog 122 #[.slice ao (Dg.dg 4294967296 n).length ca, .int .i64 (-((tz n : Nat) : Int))] w1 (Num w1 (n / 2 ^ tz n))) := fun w1 b1 => by
      have := shifted_any _ _ (-((tz n : Nat) : Int)) w1 (hr.later b1) hsm (by omega) (by omega) (by omega)
      rw [hvl] at this
      have e : shN n (-((tz n : Nat) : Int)) = n / 2 ^ tz n := by
        unfold shN
        by_cases hz : -((tz n : Nat) : Int) < 0
        · rw [if_pos hz]; congr 2; omega
        · rw [if_neg hz]
          have h0 : tz n = 0 := by omega
          rw [h0]; simp
      rwa [e] at this
    obtain ⟨m, hm⟩ : ∃ m, (Dg.dg 4294967296 n).length = m := ⟨_, rfl⟩
    obtain ⟨k, hk⟩ : ∃ k, tz n = k := ⟨_, rfl⟩
    obtain ⟨q, hq⟩ : ∃ q, n / 2 ^ tz n = q := ⟨_, rfl⟩
    rw [hq, hk] at HB
    rw [hq, hk, hm] at HSH
    rw [hk, hm] at HTW
    rw [hm] at h0 hL ⊢
    rw [hk] at htz
    rw [HB.out]
    clear hm hk hq hr hsm hvl HB hn hT
    have l1 := (loc_new w (.bool ts) (.slice ao m ca) (.int .i64 e) 108).later (below_alloc _ (.cells #[.bool false, .slice none 0 0, .int .i64 0] 108))
    have l2 := loc_new (w.alloc (.cells #[.bool ts, .slice ao m ca, .int .i64 e] 108)) (.bool false) (.slice none 0 0) (.int .i64 0) 108
    have bA := below_trans (below_alloc w (.cells #[.bool ts, .slice ao m ca, .int .i64 e] 108)) (below_alloc _ (.cells #[.bool false, .slice none 0 0, .int .i64 0] 108))
    rw [World.size_alloc] at l2
    go_enter Tryz.func109, Tryz.ntmps109
    go_wp2_with fail
    refine (digits_any ts ao m ca e _).mono ?_
    rintro x w1 ⟨rfl, b1⟩
    have l1 := l1.later b1
    have l2 := l2.later b1
    have b01 := below_trans bA b1
    clear bA b1
    go_wp2_with fail
    refine (HTW.out w1 b01).mono ?_
    rintro x w2 ⟨rfl, rfl⟩
    have bd : Below w2.heap.size w2 w2.drew := (Below.refl _ _).drew
    have l1 := l1.later bd
    have l2 := l2.later bd
    have b02 := below_trans b01 bd
    obtain ⟨-, ⟨c0, c1, c2⟩, -⟩ := id l1
    clear b01 bd
    have e3 : IntKind.i64.wrap (-(k : Int)) = -(k : Int) := IntWalk.i64_in _ ⟨by omega, by omega⟩
    have e4 : IntKind.i64.wrap (e + (k : Int)) = e + (k : Int) := IntWalk.i64_in _ ⟨by omega, by omega⟩
    go_wp2_with fail
    go_region_held3 (fun wq => wq.cell? ⟨w.heap.size, 0, none⟩ = some (.bool ts) ∧ wq.cell? ⟨w.heap.size, 1, none⟩ = some (.slice ao m ca) ∧ wq.cell? ⟨w.heap.size, 2, none⟩ = some (.int .i64 e)) (go_keep) (first
      | (go_at_call 120; refine (digits_any ts ao m ca e _).mono ?_; rintro x w3 ⟨rfl, b3⟩; have l13 := l1.later b3; have l23 := l2.later b3; have b03 := below_trans b02 b3; obtain ⟨-, ⟨p0, p1, p2⟩, -⟩ := id l13)
      | (go_at_call 122; refine (HSH.out _ b03).mono ?_; rintro x w4 ⟨vs, rfl, own4, b4⟩; have l14 := l13.later b4; have l24 := l23.later b4; have b04 := below_trans b03 b4; obtain ⟨so, sc, hvs⟩ := own4.rd.shape; subst hvs; obtain ⟨-, ⟨q0, q1, q2⟩, -⟩ := id l14)
      | (go_at_call 107; refine (new_any ts so _ sc _ _).mono ?_; rintro x w5 ⟨rfl, b5⟩; have l25 := l24.later b5; have l15 := l14.later b5; obtain ⟨-, ⟨r0, r1, r2⟩, -⟩ := id l15; have b05 := below_trans b04 b5; have rd5 := own4.rd.later b5; obtain ⟨hl5, ⟨d0, d1, d2⟩, f0, f1, f2⟩ := id l25))
    all_goals go_wp2
    have l5 := loc_set l25 (.bool ts) (.slice so (Dg.dg 4294967296 q).length sc) (.int .i64 (e + (k : Int)))
    have hbw : w.heap.size ≤ w.heap.size + 1 := by omega
    have b5' := ((b05.setCell (p := ⟨w.heap.size + 1, 0, none⟩) hbw (.bool ts)).setCell (p := ⟨w.heap.size + 1, 1, none⟩) hbw (.slice so (Dg.dg 4294967296 q).length sc)).setCell (p := ⟨w.heap.size + 1, 2, none⟩) hbw (.int .i64 (e + (k : Int)))
    have own5 := (own4.later b5).apart3 (b := w.heap.size + 1) l23.1 (.bool ts) (.slice so (Dg.dg 4294967296 q).length sc) (.int .i64 (e + (k : Int)))
    obtain ⟨-, ⟨g0, g1, g2⟩, -⟩ := l5
    refine bodyPost_ret (v := .agg #[.bool ts, .slice so (Dg.dg 4294967296 q).length sc, .int .i64 (e + (k : Int))]) (by simp [results, Tryz.results109, go_sem, g0, g1, g2]) rfl ?_
    exact ⟨_, rfl, own5.lower b03.size, b5'⟩
end Go.Proofs.YtiiphandhpilgaaGreatDoor
namespace Go.Proofs.YtiiphandhpilgaaGreatDoor.dy
open Go.ChangeShapes Go.WideShapes Go.ChangeAt Go.RowKit Go.Joins
theorem own : ownKnob Tryz.prog.godebug = none := by kernel_rfl
theorem laidOut : laidOutB Tryz.prog = true := by kernel_rfl
theorem cellsT : Tryz.prog.cellsOf 193 = 32 := by kernel_rfl
theorem cellsU : Tryz.prog.cellsOf 5 = 1 := by kernel_rfl
theorem gTab : Tryz.prog.globalNamed (Rows.codecEncodesRow.laid.headD (Rows.codecEncodesRow.func, .nil)).1 = some 0 := by kernel_rfl
theorem tTab : (Tryz.prog.globals[0]?).map (·.type) = some 193 := by kernel_rfl

/-- The door's own heap meets the condition. -/
theorem door_met (os : Os) (args : Array Value) : laidMetH Tryz.prog Rows.codecEncodesRow.laid ((World.doorLaid Tryz.prog 400 os).forCall (fun _ _ => 0) ⟨#[], args, []⟩).memory :=
  laidMetH_of_parts3 (fuel := 8) (laidMet_of_run' 8 (by kernel_rfl) (by kernel_rfl)) (by kernel_rfl) (by kernel_rfl)

theorem tab_of_laid {W : World} (h : laidMetH Tryz.prog Rows.codecEncodesRow.laid W) : Tab W := by
  rw [MakeChecks.laidMetH_plain _ _ _ (by kernel_rfl)] at h
  obtain ⟨ps, ⟨g0, t0, cs0, f0, p0, q0, hg0, ht0, hv0, hd0, _⟩, _⟩ := h
  obtain rfl := Option.some.inj (gTab.symm.trans hg0)
  obtain rfl := Option.some.inj (tTab.symm.trans ht0)
  intro j hj
  have hc := Lib.cells_of_tab (zs := Lib.deBruijn32tab.map (fun n : Nat => (n : Int))) Tryz.underlying193 Tryz.underlying5 cellsU cellsT hd0
  have hv := World.var?_cell hg0 hv0 j
  have hl : j < Lib.deBruijn32tab.length := hj
  rw [hv, ← Array.getElem?_toList, hc, List.getElem?_map, List.getElem?_map, List.getElem?_eq_getElem hl]
  simp [List.getD_eq_getElem?_getD, List.getElem?_eq_getElem hl]

set_option maxRecDepth 100000 in
theorem open_int' {H : Type} {enc : TypeId × Value → H} {W : World} {base : Nat} {v : Value} {d : DataW H} {p : List MemPlace} (hv : Value.okWide Tryz.prog W .any base 3 v) (h : DataW.Trod enc Tryz.prog W 0 (fun _ => true) true 3 v d p) :
    ∃ n : Int, v = .int .i64 n ∧ (Lit.int .i64 n).wf = true := by
  obtain ⟨n, rfl, -, -, hw⟩ := open_int Tryz.underlying3 hv h
  exact ⟨n, rfl, hw⟩

theorem and_mk {a b : Bool} (ha : a = true) (hb : b = true) : (a && b) = true := by rw [ha, hb]; rfl

theorem words_cut (a r : List Char) (h : ∀ c ∈ a, c ≠ Char.ofNat 32) : wordsSigns (a ++ Char.ofNat 32 :: r) = a :: wordsSigns r := by
  induction a with
  | nil => rfl
  | cons c a ih =>
    have h1 : c ≠ Char.ofNat 32 := h c (by simp)
    have h2 := ih (fun x hx => h x (by simp [hx]))
    show wordsSigns (c :: (a ++ Char.ofNat 32 :: r)) = _
    rw [wordsSigns]
    · rw [h2]
    · intro e; exact h1 e

theorem initS : Tryz.prog.initOrder = "harness" ++ (" " ++ ("a5ff61f701ec08b3012c7e39738bb1abb900ba7929daee748ee7e213b8517aae" ++ (" " ++ ("cut" ++ (" " ++ "at slipstick/slipsticklaw.CodecEncodes slipstick/slipsticklaw.CodecNexts slipstick/slipsticklaw.CodecSteps"))))) := by kernel_rfl

theorem blank : (" " : String).toList = [Char.ofNat 32] := by decide +kernel

theorem no_blank1 : ∀ c ∈ ("harness" : String).toList, c ≠ Char.ofNat 32 := by decide +kernel

theorem no_blank2 : ∀ c ∈ ("a5ff61f701ec08b3012c7e39738bb1abb900ba7929daee748ee7e213b8517aae" : String).toList, c ≠ Char.ofNat 32 := by decide +kernel

theorem no_blank3 : ∀ c ∈ ("cut" : String).toList, c ≠ Char.ofNat 32 := by decide +kernel

theorem sum_signs : isSumSigns ("a5ff61f701ec08b3012c7e39738bb1abb900ba7929daee748ee7e213b8517aae" : String).toList = true := by decide +kernel

/-- The first words of a program's heading, read off them alone. -/
theorem words_of {P : Program} {s r : String} (h : P.initOrder = "harness" ++ (" " ++ (s ++ (" " ++ ("cut" ++ (" " ++ r)))))) (hn : ∀ c ∈ s.toList, c ≠ Char.ofNat 32) :
    wordsSigns P.initOrder.toList = ("harness" : String).toList :: s.toList :: ("cut" : String).toList :: wordsSigns r.toList := by
  rw [h, String.toList_append, String.toList_append, String.toList_append, String.toList_append, String.toList_append, String.toList_append, blank]
  simp only [List.singleton_append]
  rw [words_cut _ _ no_blank1, words_cut _ _ hn, words_cut _ _ no_blank3]

theorem main_of {P : Program} {s : List Char} {ws : List (List Char)} (h : wordsSigns P.initOrder.toList = ("harness" : String).toList :: s :: ws) (hs : isSumSigns s = true) : P.mainIs = some (true, s) := by
  unfold Program.mainIs
  rw [h]
  simp only [hs, Bool.not_true, Bool.false_eq_true, if_false, beq_self_eq_true, if_true]

theorem behind_of {P : Program} {s : List Char} {ws : List (List Char)} (h : wordsSigns P.initOrder.toList = ("harness" : String).toList :: s :: ws) (hs : isSumSigns s = true) : behindMainWord (wordsSigns P.initOrder.toList) = ws := by
  rw [h]
  unfold behindMainWord
  simp only [hs, beq_self_eq_true, Bool.true_or, Bool.and_true, if_true]

theorem strip_none (w : List Char) (ws : List (List Char)) : ∀ os : List String, (∀ o ∈ os, (w == o.toList) = false) → stripLifts os (w :: ws) = ([], w :: ws)
  | [], _ => rfl
  | o :: os, h => by
    rw [stripLifts, if_neg (by rw [h o (by simp)]; decide)]
    exact strip_none w ws os (fun x hx => h x (by simp [hx]))

theorem cut_none : ∀ o ∈ liftWords, (("cut" : String).toList == o.toList) = false := by decide +kernel

theorem cut_gc : (("cut" : String).toList == ("gc" : String).toList) = false := by decide +kernel
theorem cut_spec : (("cut" : String).toList == ("spec" : String).toList) = false := by decide +kernel
theorem lifts_of {P : Program} {s : List Char} {ws : List (List Char)} (h : wordsSigns P.initOrder.toList = ("harness" : String).toList :: s :: ("cut" : String).toList :: ws) (hs : isSumSigns s = true) : P.headLifts = [] := by
  unfold Program.headLifts
  rw [behind_of h hs, strip_none _ _ _ cut_none]
  simp

theorem make_of {P : Program} {s : List Char} {ws : List (List Char)} (h : wordsSigns P.initOrder.toList = ("harness" : String).toList :: s :: ("cut" : String).toList :: ws) (hs : isSumSigns s = true) : P.make = some .cut := by
  unfold Program.make
  rw [behind_of h hs]
  simp only [cut_gc, cut_spec, Bool.or_self, Bool.false_eq_true, if_false, beq_self_eq_true, Bool.true_or, if_true]

theorem final_of {P : Program} {s : List Char} {ws : List (List Char)} (h : wordsSigns P.initOrder.toList = ("harness" : String).toList :: s :: ("cut" : String).toList :: ws) (hs : isSumSigns s = true) : P.liftsFinal = false := by
  unfold Program.liftsFinal
  rw [behind_of h hs, lifts_of h hs]
  have e : ((some ("cut" : String).toList : Option (List Char)) == some ("carried" : String).toList) = false := by decide +kernel
  simp only [List.head?_cons, e, Bool.false_and, List.contains_nil, Bool.or_self]

theorem enter_of {P : Program} {s : List Char} {ws : List (List Char)} (h : wordsSigns P.initOrder.toList = ("harness" : String).toList :: s :: ("cut" : String).toList :: ws) (hs : isSumSigns s = true)
    (h1 : P.laysLater = false) (h2 : P.bearsReflect = false) (h3 : P.doorFits [] = true) : P.mayEnter = true := by
  unfold Program.mayEnter
  rw [behind_of h hs]
  simp only [strip_none _ _ _ cut_none, h1, h2, h3, List.head?_cons, beq_self_eq_true, List.contains_nil, Bool.not_false, Bool.or_true, Bool.and_self]

theorem words_is : wordsSigns Tryz.prog.initOrder.toList = ("harness" : String).toList :: ("a5ff61f701ec08b3012c7e39738bb1abb900ba7929daee748ee7e213b8517aae" : String).toList :: ("cut" : String).toList :: wordsSigns ("at slipstick/slipsticklaw.CodecEncodes slipstick/slipsticklaw.CodecNexts slipstick/slipsticklaw.CodecSteps" : String).toList := words_of initS no_blank2

theorem main_is : Tryz.prog.mainIs = some (true, ("a5ff61f701ec08b3012c7e39738bb1abb900ba7929daee748ee7e213b8517aae" : String).toList) := main_of words_is sum_signs
theorem make_is : Tryz.prog.make = some .cut := make_of words_is sum_signs
theorem final_is : Tryz.prog.liftsFinal = false := final_of words_is sum_signs
theorem enter_is : Tryz.prog.mayEnter = true := enter_of words_is sum_signs (by kernel_rfl) (by kernel_rfl) (by kernel_rfl)
end Go.Proofs.YtiiphandhpilgaaGreatDoor.dy
namespace Go.Proofs.YtiiphandhpilgaaGreatDoor
open Go.RowKit
/-- The block b is just these values, of that type. -/
def LocE (w : World) (b : Nat) (ty : TypeId) (vs : List Value) : Prop := w.heap[b]? = some (.cells vs.toArray ty (0, 0))

theorem LocE.lt {w : World} {b : Nat} {ty : TypeId} {vs : List Value} (h : LocE w b ty vs) : b < w.heap.size := (Array.getElem?_eq_some_iff.1 h).1

theorem LocE.later {w w' : World} {b : Nat} {ty : TypeId} {vs : List Value} (h : LocE w b ty vs) (hb : Below w.heap.size w w') : LocE w' b ty vs := (hb.block b h.lt).trans h

theorem LocE.drew {w : World} {b : Nat} {ty : TypeId} {vs : List Value} (h : LocE w b ty vs) : LocE w.drew b ty vs := h.later (Below.refl _ _).drew

theorem locE_new (w : World) (vs : List Value) (ty : TypeId) : LocE (w.alloc (.cells vs.toArray ty)) w.heap.size ty vs := heap_alloc_new _ _

theorem LocE.cell {w : World} {b : Nat} {ty : TypeId} {vs : List Value} (h : LocE w b ty vs) (i : Nat) {v : Value} (hv : vs[i]? = some v) : w.cell? ⟨b, i, none⟩ = some v := by
  unfold World.cell?
  simp only
  rw [h]
  simpa using hv

theorem LocE.free {w : World} {b : Nat} {ty : TypeId} {vs : List Value} (h : LocE w b ty vs) (i : Nat) : w.frozen? ⟨b, i, none⟩ = false := by
  unfold World.frozen?
  simp only
  rw [h]
  simp

theorem LocE.set {w : World} {b : Nat} {ty : TypeId} {vs : List Value} (h : LocE w b ty vs) (i : Nat) (x : Value) : LocE (w.setCell ⟨b, i, none⟩ x) b ty (vs.set i x) := by
  have hlt := h.lt
  have h' : w.heap[b] = .cells vs.toArray ty (0, 0) := by simpa [LocE, Array.getElem?_eq_getElem hlt] using h
  show (w.heap.modify b _)[b]? = _
  rw [Array.getElem?_eq_getElem (by simpa using hlt), Array.getElem_modify_self, h']
  simp

theorem LocE.off {w : World} {b c : Nat} {ty : TypeId} {vs : List Value} (h : LocE w b ty vs) (hne : c ≠ b) (i : Nat) (x : Value) : LocE (w.setCell ⟨c, i, none⟩ x) b ty vs := by
  unfold LocE
  rw [Below.heap_setCell _ _ _ _ (fun e => hne e.symm)]
  exact h

/-- A row that is not empty does not lie in the block b. -/
def OffB (b : Nat) (v : Value) (zs : List Nat) : Prop := 0 < zs.length → ∀ a n c, v = .slice (some a) n c → a.block ≠ b

theorem rd_offE {w : World} {k : IntKind} {v : Value} {zs : List Nat} (h : Rd w k v zs) (hn : Dg.Norm zs) {b : Nat} {ty : TypeId} {vs : List Value} (hl : LocE w b ty vs) (hv0 : ∀ x ∈ vs, ∀ n : Int, n ≠ 0 → x ≠ .int k n) : OffB b v zs := fun hp a n c hv => by
  obtain ⟨ao, cap, rfl, _, _, h3⟩ := h
  obtain ⟨g, off, rfl, hc⟩ := h3 hp
  cases hv
  have h0 := hc (zs.length - 1) (by omega)
  show g ≠ b
  intro e
  subst e
  have hnn : zs.getD (zs.length - 1) 0 ≠ 0 := hn (by intro h; rw [h] at hp; simp at hp)
  unfold World.cell? at h0
  simp only at h0
  rw [hl] at h0
  simp only [Option.isSome_none, Bool.false_eq_true, if_false, List.getElem?_toArray] at h0
  exact hv0 _ (List.mem_of_getElem? h0) _ (by omega) rfl

/-- Numbers of 32 bits lie in no struct without such a field. -/
theorem rd_offU {w : World} {k : IntKind} {v : Value} {zs : List Nat} (h : Rd w k v zs) {b : Nat} {ty : TypeId} {vs : List Value} (hl : LocE w b ty vs) (hv0 : ∀ x ∈ vs, ∀ n : Int, x ≠ .int k n) : OffB b v zs := fun hp a n c hv => by
  obtain ⟨ao, cap, rfl, _, _, h3⟩ := h
  obtain ⟨g, off, rfl, hc⟩ := h3 hp
  cases hv
  have h0 := hc 0 hp
  show g ≠ b
  intro e
  subst e
  unfold World.cell? at h0
  simp only at h0
  rw [hl] at h0
  simp only [Option.isSome_none, Bool.false_eq_true, if_false, List.getElem?_toArray] at h0
  exact hv0 _ (List.mem_of_getElem? h0) _ rfl

theorem Rd.set {w : World} {k : IntKind} {v : Value} {zs : List Nat} (h : Rd w k v zs) {b : Nat} (ho : OffB b v zs) (i : Nat) (x : Value) : Rd (w.setCell ⟨b, i, none⟩ x) k v zs := by
  obtain ⟨ao, cap, rfl, h1, h2, h3⟩ := h
  refine ⟨ao, cap, rfl, h1, h2, fun hp => ?_⟩
  obtain ⟨g, off, rfl, hc⟩ := h3 hp
  have hne := ho hp _ _ _ rfl
  refine ⟨g, off, rfl, fun j hj => ?_⟩
  have hne2 : g ≠ b := hne
  unfold World.cell?
  simp only
  rw [Below.heap_setCell _ _ _ _ hne2]
  exact hc j hj

theorem Own.setE {w : World} {base e : Nat} {k : IntKind} {v : Value} {zs : List Nat} (h : Own w base e k v zs) {b : Nat} {ty : TypeId} {vs : List Value} (hl : LocE w b ty vs) (hty : ty ≠ e) (i : Nat) (x : Value) : Own (w.setCell ⟨b, i, none⟩ x) base e k v zs := by
  obtain ⟨h0, h2⟩ := h
  refine ⟨h0, ?_⟩
  rcases h2 with h2 | ⟨g', cap', cur, hv, hbg, hh, r⟩
  · exact .inl h2
  · refine .inr ⟨g', cap', cur, hv, hbg, ?_, r⟩
    have hne : g' ≠ b := by
      intro e
      subst e
      unfold LocE at hl
      rw [hl] at hh
      simp only [Option.some.injEq, Obj.cells.injEq] at hh
      exact hty hh.2.1
    rw [Below.heap_setCell _ _ _ _ hne]
    exact hh

end Go.Proofs.YtiiphandhpilgaaGreatDoor

/-
  Contracts of package long, up to Short.
-/
import Derived.Test.YtmdjmjnnenddfaaDoorDy1
import Derived.Handy
import Derived.Deep.RegionHeld3
namespace Go.Proofs.YtmdjmjnnenddfaaDoor
open Go.RowKit

/-- The value v is this dyad, its mantissa without noughts at its end. -/
def Dv (w : World) (v : Value) (t : Trip) : Prop := ∃ s, v = .agg #[.bool t.s, s, .int .i64 t.e] ∧ Rd w .u32 s (Dg.dg 4294967296 t.n)

def DRes (w : World) (t : Trip) (e : Ending) (w' : World) : Prop := ∃ s, e = .returned (.agg #[.bool t.s, s, .int .i64 t.e]) ∧ Own w' w.heap.size 56 .u32 s (Dg.dg 4294967296 t.n) ∧ Below w.heap.size w w'

theorem Dv.later {w w' : World} {v : Value} {t : Trip} (h : Dv w v t) (hb : Below w.heap.size w w') : Dv w' v t := by
  obtain ⟨s, hv, hr⟩ := h
  exact ⟨s, hv, hr.later hb⟩

/-- A struct of three cells of the call's own. -/
def Loc (w : World) (b : Nat) (v0 v1 v2 : Value) : Prop :=
  b < w.heap.size ∧ (w.cell? ⟨b, 0, none⟩ = some v0 ∧ w.cell? ⟨b, 1, none⟩ = some v1 ∧ w.cell? ⟨b, 2, none⟩ = some v2) ∧ w.frozen? ⟨b, 0, none⟩ = false ∧ w.frozen? ⟨b, 1, none⟩ = false ∧ w.frozen? ⟨b, 2, none⟩ = false

theorem Loc.later {w w' : World} {b : Nat} {v0 v1 v2 : Value} (h : Loc w b v0 v1 v2) (hb : Below w.heap.size w w') : Loc w' b v0 v1 v2 := by
  obtain ⟨hl, ⟨c0, c1, c2⟩, f0, f1, f2⟩ := h
  have hk := hb.block b hl
  refine ⟨Nat.lt_of_lt_of_le hl hb.size, ⟨cell_later hb c0, cell_later hb c1, cell_later hb c2⟩, ?_, ?_, ?_⟩
  · rw [World.frozen?_of_block (w := w) (a := ⟨b, 0, none⟩) hk]; exact f0
  · rw [World.frozen?_of_block (w := w) (a := ⟨b, 1, none⟩) hk]; exact f1
  · rw [World.frozen?_of_block (w := w) (a := ⟨b, 2, none⟩) hk]; exact f2

theorem loc_new (w : World) (v0 v1 v2 : Value) (ty : TypeId) : Loc (w.alloc (.cells #[v0, v1, v2] ty)) w.heap.size v0 v1 v2 := by
  refine ⟨by simp [World.size_alloc], ⟨?_, ?_, ?_⟩, ?_, ?_, ?_⟩
  · rw [World.cell?_alloc_at _ _ _ _ rfl]; rfl
  · rw [World.cell?_alloc_at _ _ _ _ rfl]; rfl
  · rw [World.cell?_alloc_at _ _ _ _ rfl]; rfl
  · exact World.frozen?_alloc_at _ _ _ _ rfl
  · exact World.frozen?_alloc_at _ _ _ _ rfl
  · exact World.frozen?_alloc_at _ _ _ _ rfl

theorem loc_set {w : World} {b : Nat} {v0 v1 v2 : Value} (h : Loc w b v0 v1 v2) (x0 x1 x2 : Value) :
    Loc (((w.setCell ⟨b, 0, none⟩ x0).setCell ⟨b, 1, none⟩ x1).setCell ⟨b, 2, none⟩ x2) b x0 x1 x2 := by
  obtain ⟨hl, ⟨c0, c1, c2⟩, f0, f1, f2⟩ := h
  refine ⟨by simpa using hl, ⟨?_, ?_, ?_⟩, ?_, ?_, ?_⟩
  · rw [World.cell?_setCell_other (h := by simp), World.cell?_setCell_other (h := by simp)]
    exact World.cell?_setCell_same _ _ _ c0
  · have k1 : (w.setCell ⟨b, 0, none⟩ x0).cell? ⟨b, 1, none⟩ = some v1 := by rw [World.cell?_setCell_other (h := by simp)]; exact c1
    rw [World.cell?_setCell_other (h := by simp)]
    exact World.cell?_setCell_same _ _ _ k1
  · have k2 : ((w.setCell ⟨b, 0, none⟩ x0).setCell ⟨b, 1, none⟩ x1).cell? ⟨b, 2, none⟩ = some v2 := by rw [World.cell?_setCell_other (h := by simp), World.cell?_setCell_other (h := by simp)]; exact c2
    exact World.cell?_setCell_same _ _ _ k2
  · simpa using f0
  · simpa using f1
  · simpa using f2

theorem Own.apart {w w' : World} {base e b : Nat} {k : IntKind} {v : Value} {zs : List Nat} (h : Own w base e k v zs) (hg : w.grownBy w' (some b)) (hb : b < base) : Own w' base e k v zs := by
  obtain ⟨hl, h2⟩ := h
  refine ⟨hl, ?_⟩
  rcases h2 with h2 | ⟨g', cap', cur, hv, hbg, hh, r⟩
  · exact .inl h2
  · refine .inr ⟨g', cap', cur, hv, hbg, ?_, r⟩
    have hlt : g' < w.heap.size := by
      rw [Array.getElem?_eq_some_iff] at hh
      exact hh.1
    rw [hg.block g' hlt (by intro e; cases e; omega)]
    exact hh

theorem Own.apart3 {w : World} {base e b : Nat} {k : IntKind} {v : Value} {zs : List Nat} (h : Own w base e k v zs) (hb : b < base) (x0 x1 x2 : Value) :
    Own (((w.setCell ⟨b, 0, none⟩ x0).setCell ⟨b, 1, none⟩ x1).setCell ⟨b, 2, none⟩ x2) base e k v zs :=
  ((h.apart (grown_set w b 0 x0) hb).apart (grown_set _ b 1 x1) hb).apart (grown_set _ b 2 x2) hb

theorem rd_nil (w : World) (k : IntKind) : Rd w k (.slice none 0 0) [] := (own_nil w 0 0 k).rd

theorem below_alloc (w : World) (o : Obj) : Below w.heap.size w (w.alloc o) := (Below.refl _ _).alloc (Nat.le_refl _) _

set_option maxRecDepth 100000 in
theorem digits_any (b : Bool) (ao : Option Addr) (n ca : Nat) (e : Int) (w : World) : Calls Tryd.prog 73 #[.agg #[.bool b, .slice ao n ca, .int .i64 e]] w fun x w' => x = .returned (.slice ao n ca) ∧ Below w.heap.size w w' := by
  have b1 : Below w.heap.size w (w.alloc (.cells #[.bool b, .slice ao n ca, .int .i64 e] 61)) := (Below.refl _ _).alloc (Nat.le_refl _) _
  go_enter Tryd.func73, Tryd.ntmps73
  go_wp2
  go_ret
  exact ⟨rfl, b1⟩

set_option maxRecDepth 100000 in
theorem new_any (b : Bool) (ao : Option Addr) (n ca : Nat) (e : Int) (w : World) : Calls Tryd.prog 69 #[.bool b, .slice ao n ca, .int .i64 e] w fun x w' => x = .returned (.agg #[.bool b, .slice ao n ca, .int .i64 e]) ∧ Below w.heap.size w w' := by
  go_enter Tryd.func69, Tryd.ntmps69
  go_wp2
  go_returns
  exact ⟨rfl, (Below.refl _ _).alloc (Nat.le_refl _) _⟩

set_option maxRecDepth 100000 in
theorem of_dy (b : Bool) (ao : Option Addr) (n ca : Nat) (e : Int) (w : World) : Calls Tryd.prog 39 #[.agg #[.bool b, .slice ao n ca, .int .i64 e]] w fun x w' => x = .returned (.agg #[.bool b, .slice ao n ca, .int .i64 e]) ∧ Below w.heap.size w w' := by
  go_enter Tryd.func39, Tryd.ntmps39
  go_wp2
  go_returns
  exact ⟨rfl, ((Below.refl _ _).alloc (Nat.le_refl _) _).alloc (by simp [World.size_alloc]) _⟩

set_option maxRecDepth 100000 in
set_option maxHeartbeats 800000 in
theorem dbare_any (v : Value) (t : Trip) (w : World) (hv : Dv w v t) (hL : (Dg.dg 4294967296 t.n).length ≤ 500000) (he : -1000000 ≤ t.e ∧ t.e ≤ 1000000) (hT : Tab w) (htz : tz t.n ≤ 1000000) :
    Calls Tryd.prog 65 #[v] w (DRes w (bare t)) := by
  obtain ⟨s, rfl, hr⟩ := hv
  obtain ⟨ts, n, e⟩ := t
  simp only at hr hL he htz ⊢
  obtain ⟨ao, ca, rfl⟩ := hr.shape
  obtain ⟨e1, e2⟩ := he
  by_cases hn : n = 0
  · subst hn
    rw [show Dg.dg 4294967296 0 = [] from rfl] at hr ⊢
    go_enter Tryd.func65, Tryd.ntmps65
    rw [show bare ⟨ts, 0, e⟩ = ⟨false, 0, 0⟩ from by unfold bare; rfl]
    go_wp2
    go_returns
    exact ⟨_, rfl, own_nil _ _ _ _, ((Below.refl _ _).alloc (Nat.le_refl _) _).alloc (by simp [World.size_alloc]) _⟩
  · have h0 : (((Dg.dg 4294967296 n).length : Int) == 0) = false := by simp [Dg.dg_nil_iff 4294967296 n (by omega)]; exact hn
    have HB : Hid (bare ⟨ts, n, e⟩ = ⟨ts, n / 2 ^ tz n, e + tz n⟩) := by show bare ⟨ts, n, e⟩ = _; unfold bare; rw [if_neg hn]
    have hsm := Dg.small_dg 4294967296 n (by omega)
    have hvl := Dg.vl_dg 4294967296 n (by omega)
    have HTW : Hid (∀ w1, Below w.heap.size w w1 → Calls Tryd.prog 75 #[.slice ao (Dg.dg 4294967296 n).length ca] w1 fun e w' => e = .returned (.int .i64 ((tz n : Nat) : Int)) ∧ w' = w1) := fun w1 b1 => by
      have := twos_any _ n w1 (hr.later b1) (by omega) (hT.later b1)
      rwa [if_neg hn] at this
    have HSH : Hid (∀ w1, Below w.heap.size w w1 → Calls Tryd.prog 76 #[.slice ao (Dg.dg 4294967296 n).length ca, .int .i64 (-((tz n : Nat) : Int))] w1 (Num w1 (n / 2 ^ tz n))) := fun w1 b1 => by
      have := shifted_any _ _ (-((tz n : Nat) : Int)) w1 (hr.later b1) hsm (by omega) (by omega) (by omega)
      rw [hvl] at this
      have e : shN n (-((tz n : Nat) : Int)) = n / 2 ^ tz n := by
        unfold shN
        by_cases hz : -((tz n : Nat) : Int) < 0
        · rw [if_pos hz]; congr 2; omega
        · rw [if_neg hz]
          have h0 : tz n = 0 := by omega
          rw [h0]; simp
      rwa [e] at this
    obtain ⟨m, hm⟩ : ∃ m, (Dg.dg 4294967296 n).length = m := ⟨_, rfl⟩
    obtain ⟨k, hk⟩ : ∃ k, tz n = k := ⟨_, rfl⟩
    obtain ⟨q, hq⟩ : ∃ q, n / 2 ^ tz n = q := ⟨_, rfl⟩
    rw [hq, hk] at HB
    rw [hq, hk, hm] at HSH
    rw [hk, hm] at HTW
    rw [hm] at h0 hL ⊢
    rw [hk] at htz
    rw [HB.out]
    clear hm hk hq hr hsm hvl HB hn hT
    have l1 := (loc_new w (.bool ts) (.slice ao m ca) (.int .i64 e) 61).later (below_alloc _ (.cells #[.bool false, .slice none 0 0, .int .i64 0] 61))
    have l2 := loc_new (w.alloc (.cells #[.bool ts, .slice ao m ca, .int .i64 e] 61)) (.bool false) (.slice none 0 0) (.int .i64 0) 61
    have bA := below_trans (below_alloc w (.cells #[.bool ts, .slice ao m ca, .int .i64 e] 61)) (below_alloc _ (.cells #[.bool false, .slice none 0 0, .int .i64 0] 61))
    rw [World.size_alloc] at l2
    go_enter Tryd.func65, Tryd.ntmps65
    go_wp2_with fail
    refine (digits_any ts ao m ca e _).mono ?_
    rintro x w1 ⟨rfl, b1⟩
    have l1 := l1.later b1
    have l2 := l2.later b1
    have b01 := below_trans bA b1
    clear bA b1
    go_wp2_with fail
    refine (HTW.out w1 b01).mono ?_
    rintro x w2 ⟨rfl, rfl⟩
    have bd : Below w2.heap.size w2 w2.drew := (Below.refl _ _).drew
    have l1 := l1.later bd
    have l2 := l2.later bd
    have b02 := below_trans b01 bd
    obtain ⟨-, ⟨c0, c1, c2⟩, -⟩ := id l1
    clear b01 bd
    have e3 : IntKind.i64.wrap (-(k : Int)) = -(k : Int) := IntWalk.i64_in _ ⟨by omega, by omega⟩
    have e4 : IntKind.i64.wrap (e + (k : Int)) = e + (k : Int) := IntWalk.i64_in _ ⟨by omega, by omega⟩
    go_wp2_with fail
    go_region_held3 (fun wq => wq.cell? ⟨w.heap.size, 0, none⟩ = some (.bool ts) ∧ wq.cell? ⟨w.heap.size, 1, none⟩ = some (.slice ao m ca) ∧ wq.cell? ⟨w.heap.size, 2, none⟩ = some (.int .i64 e)) (go_keep) (first
      | (go_at_call 73; refine (digits_any ts ao m ca e _).mono ?_; rintro x w3 ⟨rfl, b3⟩; have l13 := l1.later b3; have l23 := l2.later b3; have b03 := below_trans b02 b3; obtain ⟨-, ⟨p0, p1, p2⟩, -⟩ := id l13)
      | (go_at_call 76; refine (HSH.out _ b03).mono ?_; rintro x w4 ⟨vs, rfl, own4, b4⟩; have l14 := l13.later b4; have l24 := l23.later b4; have b04 := below_trans b03 b4; obtain ⟨so, sc, hvs⟩ := own4.rd.shape; subst hvs; obtain ⟨-, ⟨q0, q1, q2⟩, -⟩ := id l14)
      | (go_at_call 69; refine (new_any ts so _ sc _ _).mono ?_; rintro x w5 ⟨rfl, b5⟩; have l25 := l24.later b5; have l15 := l14.later b5; obtain ⟨-, ⟨r0, r1, r2⟩, -⟩ := id l15; have b05 := below_trans b04 b5; have rd5 := own4.rd.later b5; obtain ⟨hl5, ⟨d0, d1, d2⟩, f0, f1, f2⟩ := id l25))
    all_goals go_wp2
    have l5 := loc_set l25 (.bool ts) (.slice so (Dg.dg 4294967296 q).length sc) (.int .i64 (e + (k : Int)))
    have hbw : w.heap.size ≤ w.heap.size + 1 := by omega
    have b5' := ((b05.setCell (p := ⟨w.heap.size + 1, 0, none⟩) hbw (.bool ts)).setCell (p := ⟨w.heap.size + 1, 1, none⟩) hbw (.slice so (Dg.dg 4294967296 q).length sc)).setCell (p := ⟨w.heap.size + 1, 2, none⟩) hbw (.int .i64 (e + (k : Int)))
    have own5 := (own4.later b5).apart3 (b := w.heap.size + 1) l23.1 (.bool ts) (.slice so (Dg.dg 4294967296 q).length sc) (.int .i64 (e + (k : Int)))
    obtain ⟨-, ⟨g0, g1, g2⟩, -⟩ := l5
    refine bodyPost_ret (v := .agg #[.bool ts, .slice so (Dg.dg 4294967296 q).length sc, .int .i64 (e + (k : Int))]) (by simp [results, Tryd.results65, go_sem, g0, g1, g2]) rfl ?_
    exact ⟨_, rfl, own5.lower b03.size, b5'⟩
end Go.Proofs.YtmdjmjnnenddfaaDoor

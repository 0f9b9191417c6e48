/-
  Texts laid together: Ce5, Co15.
-/
import Derived.Test.YtiiphandhpilgaaDoorEb05
import Derived.Test.YtiiphandhpilgaaDoorEb16
import Derived.Test.YtiiphandhpilgaaDoorEb17
import Derived.Test.YtiiphandhpilgaaDoorEb10
import Derived.Test.YtiiphandhpilgaaDoorEb14
namespace Go.Proofs.YtiiphandhpilgaaDoor
open Go.RowKit
set_option maxRecDepth 100000 in
set_option maxHeartbeats 3200000 in
theorem lnumber_W (R D L G fam : Int) (gr : Bool) (sz ex : Nat) (F : Nat) (c p : Int) (ng : Bool) (ao : Option Addr) (dn dc : Nat) (r : Trip × Int) (w : World)
    (HN : ∀ w1, Below w.heap.size w w1 → Calls Tryd.prog 32 #[.agg #[.bool ng, .slice ao dn dc, .int .i64 p, .bool false, .bool false, .bool false], .agg #[.int .i64 R, .int .i64 D, .int .i64 L, .int .i64 G, .bool gr]] w1 (DAns w1 r)) :
    Calls Tryd.prog 18 #[.agg #[.int .i64 R, .int .i64 D, .int .i64 L, .int .i64 G, .bool gr, .int .i64 (sz : Int), .int .i64 (ex : Int), .int .i64 fam, .func (.func F) #[] #[]], .agg #[.int .i64 c, .bool ng, .slice ao dn dc, .int .i64 p]] w (DAns w r) := by
  have hsf : ∀ (a : Addr) (W : World) (g : Fn), (store a (Value.func g #[] #[])).run Tryd.prog W = stored Tryd.prog W a (Value.func g #[] #[]) .plain := fun a W g => run_store _ W a _ _ rfl
  have HN' : Hid (∀ w1, Below w.heap.size w w1 → Calls Tryd.prog 32 #[.agg #[.bool ng, .slice ao dn dc, .int .i64 p, .bool false, .bool false, .bool false], .agg #[.int .i64 R, .int .i64 D, .int .i64 L, .int .i64 G, .bool gr]] w1 (DAns w1 r)) := HN
  have bl := below_alloc w (.cells #[.int .i64 R, .int .i64 D, .int .i64 L, .int .i64 G, .bool gr, .int .i64 (sz : Int), .int .i64 (ex : Int), .int .i64 fam, .func (.func F) #[] #[]] 44)
  have bv := below_alloc (w.alloc (.cells #[.int .i64 R, .int .i64 D, .int .i64 L, .int .i64 G, .bool gr, .int .i64 (sz : Int), .int .i64 (ex : Int), .int .i64 fam, .func (.func F) #[] #[]] 44)) (.cells #[.int .i64 c, .bool ng, .slice ao dn dc, .int .i64 p] 25)
  have bd := below_alloc ((w.alloc (.cells #[.int .i64 R, .int .i64 D, .int .i64 L, .int .i64 G, .bool gr, .int .i64 (sz : Int), .int .i64 (ex : Int), .int .i64 fam, .func (.func F) #[] #[]] 44)).alloc (.cells #[.int .i64 c, .bool ng, .slice ao dn dc, .int .i64 p] 25)) (.cells #[.bool false, .slice none 0 0, .int .i64 0] 59)
  have d0 := locE_new ((w.alloc (.cells #[.int .i64 R, .int .i64 D, .int .i64 L, .int .i64 G, .bool gr, .int .i64 (sz : Int), .int .i64 (ex : Int), .int .i64 fam, .func (.func F) #[] #[]] 44)).alloc (.cells #[.int .i64 c, .bool ng, .slice ao dn dc, .int .i64 p] 25)) [.bool false, .slice none 0 0, .int .i64 0] 59
  have b0 := below_trans (below_trans bl bv) bd
  rw [World.size_alloc, World.size_alloc] at d0
  clear HN bl bv bd
  go_enter Tryd.func18, Tryd.ntmps18
  go_wp2_with fail
  refine (HN'.out _ b0).mono ?_
  rintro z w1 ⟨s1, rfl, own1, b1⟩
  obtain ⟨so, sc, hs1⟩ := own1.rd.shape
  subst hs1
  have d1 := d0.later b1
  have b01 := below_trans b0 b1
  have bu := ((but_set w1 (w.heap.size + 1 + 1) 0 (.bool r.1.s)).trans (but_set _ (w.heap.size + 1 + 1) 1 (.slice so (Dg.dg 4294967296 r.1.n).length sc))).trans (but_set _ (w.heap.size + 1 + 1) 2 (.int .i64 r.1.e))
  have cR : LocE (((w1.setCell ⟨w.heap.size + 1 + 1, 0, none⟩ (.bool r.1.s)).setCell ⟨w.heap.size + 1 + 1, 1, none⟩ (.slice so (Dg.dg 4294967296 r.1.n).length sc)).setCell ⟨w.heap.size + 1 + 1, 2, none⟩ (.int .i64 r.1.e)) (w.heap.size + 1 + 1) 59 [.bool r.1.s, .slice so (Dg.dg 4294967296 r.1.n).length sc, .int .i64 r.1.e] := (((d1.set 0 (.bool r.1.s)).set 1 (.slice so (Dg.dg 4294967296 r.1.n).length sc)).set 2 (.int .i64 r.1.e))
  have oR := (bu.own own1 d1 (by decide)).lower b0.size
  have bR := bu.below b01 (by omega)
  have hl := run_loadVar_mid (P := Tryd.prog) _ (w.heap.size + 1 + 1) 0 59 [.bool r.1.s, .slice so (Dg.dg 4294967296 r.1.n).length sc, .int .i64 r.1.e] _ cR.range Tryd.underlying59 rfl (by kernel_rfl)
  have HH : Hid (_ ∧ _ ∧ _) := ⟨hl, oR, bR⟩
  have x0 := d1.cell 0 rfl; have x1 := d1.cell 1 rfl; have x2 := d1.cell 2 rfl; have j0 := d1.free 0; have j1 := d1.free 1; have j2 := d1.free 2
  clear hl oR bR cR bu d1 d0 b01 b1 own1 b0
  go_wp2
  obtain ⟨hl, oR, bR⟩ := HH.out
  exact bodyPost_ret (results_two Tryd.results18 rfl rfl hl) rfl ⟨_, rfl, oR, bR⟩

set_option maxRecDepth 100000 in
set_option maxHeartbeats 6400000 in
theorem encNum_low (R D L G fam : Int) (gr : Bool) (sz ex : Nat) (F : Nat) (c p : Int) (ng : Bool) (ao : Option Addr) (dn dc : Nat) (w : World) (hp : p < -20000) :
    Calls Tryd.prog 12 #[.agg #[.int .i64 R, .int .i64 D, .int .i64 L, .int .i64 G, .bool gr, .int .i64 (sz : Int), .int .i64 (ex : Int), .int .i64 fam, .func (.func F) #[] #[]], .agg #[.int .i64 c, .bool ng, .slice ao dn dc, .int .i64 p]] w fun z w' => z = .returned (.tuple #[.string ⟨#[]⟩, .int .i64 3]) ∧ Below w.heap.size w w' := by
  have hsf : ∀ (a : Addr) (W : World) (g : Fn), (store a (Value.func g #[] #[])).run Tryd.prog W = stored Tryd.prog W a (Value.func g #[] #[]) .plain := fun a W g => run_store _ W a _ _ rfl
  have bv := below_alloc (w.alloc (.cells #[.int .i64 R, .int .i64 D, .int .i64 L, .int .i64 G, .bool gr, .int .i64 (sz : Int), .int .i64 (ex : Int), .int .i64 fam, .func (.func F) #[] #[]] 44)) (.cells #[.int .i64 c, .bool ng, .slice ao dn dc, .int .i64 p] 25)
  have l0 := (locE_new w [.int .i64 R, .int .i64 D, .int .i64 L, .int .i64 G, .bool gr, .int .i64 (sz : Int), .int .i64 (ex : Int), .int .i64 fam, .func (.func F) #[] #[]] 44).later bv
  have m0 := locE_new (w.alloc (.cells #[.int .i64 R, .int .i64 D, .int .i64 L, .int .i64 G, .bool gr, .int .i64 (sz : Int), .int .i64 (ex : Int), .int .i64 fam, .func (.func F) #[] #[]] 44)) [.int .i64 c, .bool ng, .slice ao dn dc, .int .i64 p] 25
  have b0 := below_trans (below_alloc w (.cells #[.int .i64 R, .int .i64 D, .int .i64 L, .int .i64 G, .bool gr, .int .i64 (sz : Int), .int .i64 (ex : Int), .int .i64 fam, .func (.func F) #[] #[]] 44)) bv
  rw [World.size_alloc] at m0
  clear bv
  have x0 := l0.cell 0 rfl; have x1 := l0.cell 1 rfl; have x2 := l0.cell 2 rfl; have x3 := l0.cell 3 rfl; have x4 := l0.cell 4 rfl; have x5 := l0.cell 5 rfl; have x6 := l0.cell 6 rfl; have x7 := l0.cell 7 rfl; have x8 := l0.cell 8 rfl; have u0 := m0.cell 0 rfl; have u1 := m0.cell 1 rfl; have u2 := m0.cell 2 rfl; have u3 := m0.cell 3 rfl
  go_enter Tryd.func12, Tryd.ntmps12
  go_wp2
  go_ret2
  exact ⟨rfl, b0⟩

set_option maxRecDepth 100000 in
set_option maxHeartbeats 6400000 in
theorem encNum_high (R D L G fam : Int) (gr : Bool) (sz ex : Nat) (F : Nat) (c p : Int) (ng : Bool) (ao : Option Addr) (dn dc : Nat) (w : World) (hp : 20000 < p) :
    Calls Tryd.prog 12 #[.agg #[.int .i64 R, .int .i64 D, .int .i64 L, .int .i64 G, .bool gr, .int .i64 (sz : Int), .int .i64 (ex : Int), .int .i64 fam, .func (.func F) #[] #[]], .agg #[.int .i64 c, .bool ng, .slice ao dn dc, .int .i64 p]] w fun z w' => z = .returned (.tuple #[.string ⟨#[]⟩, .int .i64 3]) ∧ Below w.heap.size w w' := by
  have hp1 : ¬ p < -20000 := by omega
  have hsf : ∀ (a : Addr) (W : World) (g : Fn), (store a (Value.func g #[] #[])).run Tryd.prog W = stored Tryd.prog W a (Value.func g #[] #[]) .plain := fun a W g => run_store _ W a _ _ rfl
  have bv := below_alloc (w.alloc (.cells #[.int .i64 R, .int .i64 D, .int .i64 L, .int .i64 G, .bool gr, .int .i64 (sz : Int), .int .i64 (ex : Int), .int .i64 fam, .func (.func F) #[] #[]] 44)) (.cells #[.int .i64 c, .bool ng, .slice ao dn dc, .int .i64 p] 25)
  have l0 := (locE_new w [.int .i64 R, .int .i64 D, .int .i64 L, .int .i64 G, .bool gr, .int .i64 (sz : Int), .int .i64 (ex : Int), .int .i64 fam, .func (.func F) #[] #[]] 44).later bv
  have m0 := locE_new (w.alloc (.cells #[.int .i64 R, .int .i64 D, .int .i64 L, .int .i64 G, .bool gr, .int .i64 (sz : Int), .int .i64 (ex : Int), .int .i64 fam, .func (.func F) #[] #[]] 44)) [.int .i64 c, .bool ng, .slice ao dn dc, .int .i64 p] 25
  have b0 := below_trans (below_alloc w (.cells #[.int .i64 R, .int .i64 D, .int .i64 L, .int .i64 G, .bool gr, .int .i64 (sz : Int), .int .i64 (ex : Int), .int .i64 fam, .func (.func F) #[] #[]] 44)) bv
  rw [World.size_alloc] at m0
  clear bv
  have x0 := l0.cell 0 rfl; have x1 := l0.cell 1 rfl; have x2 := l0.cell 2 rfl; have x3 := l0.cell 3 rfl; have x4 := l0.cell 4 rfl; have x5 := l0.cell 5 rfl; have x6 := l0.cell 6 rfl; have x7 := l0.cell 7 rfl; have x8 := l0.cell 8 rfl; have u0 := m0.cell 0 rfl; have u1 := m0.cell 1 rfl; have u2 := m0.cell 2 rfl; have u3 := m0.cell 3 rfl
  go_enter Tryd.func12, Tryd.ntmps12
  go_wp2
  go_ret2
  exact ⟨rfl, b0⟩

set_option maxRecDepth 100000 in
set_option maxHeartbeats 6400000 in
theorem encNum_empty (R D L G fam : Int) (gr : Bool) (sz ex : Nat) (F : Nat) (c p : Int) (ng : Bool) (ao : Option Addr) (dn dc : Nat) (w : World) (hpa : -20000 ≤ p) (hpb : p ≤ 20000) (hd : dn = 0) :
    Calls Tryd.prog 12 #[.agg #[.int .i64 R, .int .i64 D, .int .i64 L, .int .i64 G, .bool gr, .int .i64 (sz : Int), .int .i64 (ex : Int), .int .i64 fam, .func (.func F) #[] #[]], .agg #[.int .i64 c, .bool ng, .slice ao dn dc, .int .i64 p]] w fun z w' => z = .returned (.tuple #[.string ⟨#[]⟩, .int .i64 4]) ∧ Below w.heap.size w w' := by
  subst hd
  have hp1 : ¬ p < -20000 := by omega
  have hp2 : ¬ 20000 < p := by omega
  have hsf : ∀ (a : Addr) (W : World) (g : Fn), (store a (Value.func g #[] #[])).run Tryd.prog W = stored Tryd.prog W a (Value.func g #[] #[]) .plain := fun a W g => run_store _ W a _ _ rfl
  have bv := below_alloc (w.alloc (.cells #[.int .i64 R, .int .i64 D, .int .i64 L, .int .i64 G, .bool gr, .int .i64 (sz : Int), .int .i64 (ex : Int), .int .i64 fam, .func (.func F) #[] #[]] 44)) (.cells #[.int .i64 c, .bool ng, .slice ao 0 dc, .int .i64 p] 25)
  have l0 := (locE_new w [.int .i64 R, .int .i64 D, .int .i64 L, .int .i64 G, .bool gr, .int .i64 (sz : Int), .int .i64 (ex : Int), .int .i64 fam, .func (.func F) #[] #[]] 44).later bv
  have m0 := locE_new (w.alloc (.cells #[.int .i64 R, .int .i64 D, .int .i64 L, .int .i64 G, .bool gr, .int .i64 (sz : Int), .int .i64 (ex : Int), .int .i64 fam, .func (.func F) #[] #[]] 44)) [.int .i64 c, .bool ng, .slice ao 0 dc, .int .i64 p] 25
  have b0 := below_trans (below_alloc w (.cells #[.int .i64 R, .int .i64 D, .int .i64 L, .int .i64 G, .bool gr, .int .i64 (sz : Int), .int .i64 (ex : Int), .int .i64 fam, .func (.func F) #[] #[]] 44)) bv
  rw [World.size_alloc] at m0
  clear bv
  have x0 := l0.cell 0 rfl; have x1 := l0.cell 1 rfl; have x2 := l0.cell 2 rfl; have x3 := l0.cell 3 rfl; have x4 := l0.cell 4 rfl; have x5 := l0.cell 5 rfl; have x6 := l0.cell 6 rfl; have x7 := l0.cell 7 rfl; have x8 := l0.cell 8 rfl; have u0 := m0.cell 0 rfl; have u1 := m0.cell 1 rfl; have u2 := m0.cell 2 rfl; have u3 := m0.cell 3 rfl
  go_enter Tryd.func12, Tryd.ntmps12
  go_wp2
  go_ret2
  exact ⟨rfl, b0⟩

set_option maxRecDepth 100000 in
set_option maxHeartbeats 6400000 in
theorem encNum_far (R D L G fam : Int) (gr : Bool) (sz ex : Nat) (F : Nat) (c p : Int) (ng : Bool) (ao : Option Addr) (dn dc : Nat) (w : World)
    (r : Trip) (er : Int) (HN : ∀ w1, Below w.heap.size w w1 → Calls Tryd.prog 18 #[.agg #[.int .i64 R, .int .i64 D, .int .i64 L, .int .i64 G, .bool gr, .int .i64 (sz : Int), .int .i64 (ex : Int), .int .i64 fam, .func (.func F) #[] #[]], .agg #[.int .i64 c, .bool ng, .slice ao dn dc, .int .i64 p]] w1 (DAns w1 (r, er))) (hpa : -20000 ≤ p) (hpb : p ≤ 20000) (hd : 0 < dn) (he : er ≠ 0) :
    Calls Tryd.prog 12 #[.agg #[.int .i64 R, .int .i64 D, .int .i64 L, .int .i64 G, .bool gr, .int .i64 (sz : Int), .int .i64 (ex : Int), .int .i64 fam, .func (.func F) #[] #[]], .agg #[.int .i64 c, .bool ng, .slice ao dn dc, .int .i64 p]] w fun z w' => z = .returned (.tuple #[.string ⟨#[]⟩, .int .i64 4]) ∧ Below w.heap.size w w' := by
  have hp1 : ¬ p < -20000 := by omega
  have hp2 : ¬ 20000 < p := by omega
  have HN' : Hid (∀ w1, Below w.heap.size w w1 → Calls Tryd.prog 18 #[.agg #[.int .i64 R, .int .i64 D, .int .i64 L, .int .i64 G, .bool gr, .int .i64 (sz : Int), .int .i64 (ex : Int), .int .i64 fam, .func (.func F) #[] #[]], .agg #[.int .i64 c, .bool ng, .slice ao dn dc, .int .i64 p]] w1 (DAns w1 (r, er))) := HN
  have hdI : ((dn : Int) == 0) = false := by simp; omega
  clear HN
  have heb : (er == 0) = false := by simpa using he
  have hsf : ∀ (a : Addr) (W : World) (g : Fn), (store a (Value.func g #[] #[])).run Tryd.prog W = stored Tryd.prog W a (Value.func g #[] #[]) .plain := fun a W g => run_store _ W a _ _ rfl
  have bv := below_alloc (w.alloc (.cells #[.int .i64 R, .int .i64 D, .int .i64 L, .int .i64 G, .bool gr, .int .i64 (sz : Int), .int .i64 (ex : Int), .int .i64 fam, .func (.func F) #[] #[]] 44)) (.cells #[.int .i64 c, .bool ng, .slice ao dn dc, .int .i64 p] 25)
  have l0 := (locE_new w [.int .i64 R, .int .i64 D, .int .i64 L, .int .i64 G, .bool gr, .int .i64 (sz : Int), .int .i64 (ex : Int), .int .i64 fam, .func (.func F) #[] #[]] 44).later bv
  have m0 := locE_new (w.alloc (.cells #[.int .i64 R, .int .i64 D, .int .i64 L, .int .i64 G, .bool gr, .int .i64 (sz : Int), .int .i64 (ex : Int), .int .i64 fam, .func (.func F) #[] #[]] 44)) [.int .i64 c, .bool ng, .slice ao dn dc, .int .i64 p] 25
  have b0 := below_trans (below_alloc w (.cells #[.int .i64 R, .int .i64 D, .int .i64 L, .int .i64 G, .bool gr, .int .i64 (sz : Int), .int .i64 (ex : Int), .int .i64 fam, .func (.func F) #[] #[]] 44)) bv
  rw [World.size_alloc] at m0
  clear bv
  have x0 := l0.cell 0 rfl; have x1 := l0.cell 1 rfl; have x2 := l0.cell 2 rfl; have x3 := l0.cell 3 rfl; have x4 := l0.cell 4 rfl; have x5 := l0.cell 5 rfl; have x6 := l0.cell 6 rfl; have x7 := l0.cell 7 rfl; have x8 := l0.cell 8 rfl; have u0 := m0.cell 0 rfl; have u1 := m0.cell 1 rfl; have u2 := m0.cell 2 rfl; have u3 := m0.cell 3 rfl
  go_enter Tryd.func12, Tryd.ntmps12
  go_wp2_with fail
  refine (HN'.out _ b0).mono ?_
  rintro z w1 ⟨s1, rfl, own1, b1⟩
  obtain ⟨so, sc, hs1⟩ := own1.rd.shape
  subst hs1
  simp only
  have bq := below_alloc w1 (.cells #[.bool r.s, .slice so (Dg.dg 4294967296 r.n).length sc, .int .i64 r.e] 59)
  have l1 := (l0.later b1).later bq
  have q1 := locE_new w1 [.bool r.s, .slice so (Dg.dg 4294967296 r.n).length sc, .int .i64 r.e] 59
  have r1 := own1.rd.later bq
  have b01 := below_trans (below_trans b0 b1) bq
  clear own1 b1 bq l0 m0 x0 x1 x2 x3 x4 x5 x6 x7 x8 u0 u1 u2 u3
  have x0 := l1.cell 0 rfl; have x1 := l1.cell 1 rfl; have x2 := l1.cell 2 rfl; have x3 := l1.cell 3 rfl; have x4 := l1.cell 4 rfl; have x5 := l1.cell 5 rfl; have x6 := l1.cell 6 rfl; have x7 := l1.cell 7 rfl; have x8 := l1.cell 8 rfl; have q0 := q1.cell 0 rfl; have qq1 := q1.cell 1 rfl; have q2 := q1.cell 2 rfl
  go_wp2
  go_ret2
  exact ⟨rfl, b01⟩

set_option maxRecDepth 100000 in
set_option maxHeartbeats 6400000 in
theorem encNum_off0 (R D L G fam : Int) (gr : Bool) (sz ex : Nat) (F : Nat) (c p : Int) (ng : Bool) (ao : Option Addr) (dn dc : Nat) (w : World)
    (r : Trip) (er : Int) (HN : ∀ w1, Below w.heap.size w w1 → Calls Tryd.prog 18 #[.agg #[.int .i64 R, .int .i64 D, .int .i64 L, .int .i64 G, .bool gr, .int .i64 (sz : Int), .int .i64 (ex : Int), .int .i64 fam, .func (.func F) #[] #[]], .agg #[.int .i64 c, .bool ng, .slice ao dn dc, .int .i64 p]] w1 (DAns w1 (r, er)))
    (hq : Bool) (he2 : Int) (HH : ∀ so sc w1, Below w.heap.size w w1 → Rd w1 .u32 (.slice so (Dg.dg 4294967296 r.n).length sc) (Dg.dg 4294967296 r.n) → Calls Tryd.prog 19 #[.agg #[.bool r.s, .slice so (Dg.dg 4294967296 r.n).length sc, .int .i64 r.e], .agg #[.int .i64 R, .int .i64 D, .int .i64 L, .int .i64 G, .bool gr]] w1 fun z w' => z = .returned (.tuple #[.bool hq, .int .i64 he2]) ∧ Below w1.heap.size w1 w') (hpa : -20000 ≤ p) (hpb : p ≤ 20000) (hd : 0 < dn) (he : er = 0) (h2 : he2 = 0) (hqf : hq = false) :
    Calls Tryd.prog 12 #[.agg #[.int .i64 R, .int .i64 D, .int .i64 L, .int .i64 G, .bool gr, .int .i64 (sz : Int), .int .i64 (ex : Int), .int .i64 fam, .func (.func F) #[] #[]], .agg #[.int .i64 c, .bool ng, .slice ao dn dc, .int .i64 p]] w fun z w' => z = .returned (.tuple #[.string ⟨#[]⟩, .int .i64 4]) ∧ Below w.heap.size w w' := by
  subst he h2 hqf
  have hp1 : ¬ p < -20000 := by omega
  have hp2 : ¬ 20000 < p := by omega
  have HN' : Hid (∀ w1, Below w.heap.size w w1 → Calls Tryd.prog 18 #[.agg #[.int .i64 R, .int .i64 D, .int .i64 L, .int .i64 G, .bool gr, .int .i64 (sz : Int), .int .i64 (ex : Int), .int .i64 fam, .func (.func F) #[] #[]], .agg #[.int .i64 c, .bool ng, .slice ao dn dc, .int .i64 p]] w1 (DAns w1 (r, 0))) := HN
  have hdI : ((dn : Int) == 0) = false := by simp; omega
  clear HN
  have HH' : Hid (∀ so sc w1, Below w.heap.size w w1 → Rd w1 .u32 (.slice so (Dg.dg 4294967296 r.n).length sc) (Dg.dg 4294967296 r.n) → Calls Tryd.prog 19 #[.agg #[.bool r.s, .slice so (Dg.dg 4294967296 r.n).length sc, .int .i64 r.e], .agg #[.int .i64 R, .int .i64 D, .int .i64 L, .int .i64 G, .bool gr]] w1 fun z w' => z = .returned (.tuple #[.bool false, .int .i64 0]) ∧ Below w1.heap.size w1 w') := HH
  clear HH
  have hsf : ∀ (a : Addr) (W : World) (g : Fn), (store a (Value.func g #[] #[])).run Tryd.prog W = stored Tryd.prog W a (Value.func g #[] #[]) .plain := fun a W g => run_store _ W a _ _ rfl
  have bv := below_alloc (w.alloc (.cells #[.int .i64 R, .int .i64 D, .int .i64 L, .int .i64 G, .bool gr, .int .i64 (sz : Int), .int .i64 (ex : Int), .int .i64 fam, .func (.func F) #[] #[]] 44)) (.cells #[.int .i64 c, .bool ng, .slice ao dn dc, .int .i64 p] 25)
  have l0 := (locE_new w [.int .i64 R, .int .i64 D, .int .i64 L, .int .i64 G, .bool gr, .int .i64 (sz : Int), .int .i64 (ex : Int), .int .i64 fam, .func (.func F) #[] #[]] 44).later bv
  have m0 := locE_new (w.alloc (.cells #[.int .i64 R, .int .i64 D, .int .i64 L, .int .i64 G, .bool gr, .int .i64 (sz : Int), .int .i64 (ex : Int), .int .i64 fam, .func (.func F) #[] #[]] 44)) [.int .i64 c, .bool ng, .slice ao dn dc, .int .i64 p] 25
  have b0 := below_trans (below_alloc w (.cells #[.int .i64 R, .int .i64 D, .int .i64 L, .int .i64 G, .bool gr, .int .i64 (sz : Int), .int .i64 (ex : Int), .int .i64 fam, .func (.func F) #[] #[]] 44)) bv
  rw [World.size_alloc] at m0
  clear bv
  have x0 := l0.cell 0 rfl; have x1 := l0.cell 1 rfl; have x2 := l0.cell 2 rfl; have x3 := l0.cell 3 rfl; have x4 := l0.cell 4 rfl; have x5 := l0.cell 5 rfl; have x6 := l0.cell 6 rfl; have x7 := l0.cell 7 rfl; have x8 := l0.cell 8 rfl; have u0 := m0.cell 0 rfl; have u1 := m0.cell 1 rfl; have u2 := m0.cell 2 rfl; have u3 := m0.cell 3 rfl
  go_enter Tryd.func12, Tryd.ntmps12
  go_wp2_with fail
  refine (HN'.out _ b0).mono ?_
  rintro z w1 ⟨s1, rfl, own1, b1⟩
  obtain ⟨so, sc, hs1⟩ := own1.rd.shape
  subst hs1
  simp only
  have bq := below_alloc w1 (.cells #[.bool r.s, .slice so (Dg.dg 4294967296 r.n).length sc, .int .i64 r.e] 59)
  have l1 := (l0.later b1).later bq
  have q1 := locE_new w1 [.bool r.s, .slice so (Dg.dg 4294967296 r.n).length sc, .int .i64 r.e] 59
  have r1 := own1.rd.later bq
  have b01 := below_trans (below_trans b0 b1) bq
  clear own1 b1 bq l0 m0 x0 x1 x2 x3 x4 x5 x6 x7 x8 u0 u1 u2 u3
  have x0 := l1.cell 0 rfl; have x1 := l1.cell 1 rfl; have x2 := l1.cell 2 rfl; have x3 := l1.cell 3 rfl; have x4 := l1.cell 4 rfl; have x5 := l1.cell 5 rfl; have x6 := l1.cell 6 rfl; have x7 := l1.cell 7 rfl; have x8 := l1.cell 8 rfl; have q0 := q1.cell 0 rfl; have qq1 := q1.cell 1 rfl; have q2 := q1.cell 2 rfl
  go_wp2_with fail
  refine (HH'.out _ _ _ b01 r1).mono ?_
  rintro z w2 ⟨rfl, b2⟩
  have l2 := l1.later b2
  have q2 := q1.later b2
  have r2 := r1.later b2
  have b02 := below_trans b01 b2
  clear l1 q1 r1 b01 b2 x0 x1 x2 x3 x4 x5 x6 x7 x8 q0 qq1
  have x0 := l2.cell 0 rfl; have x1 := l2.cell 1 rfl; have x2 := l2.cell 2 rfl; have x3 := l2.cell 3 rfl; have x4 := l2.cell 4 rfl; have x5 := l2.cell 5 rfl; have x6 := l2.cell 6 rfl; have x7 := l2.cell 7 rfl; have x8 := l2.cell 8 rfl; have qq0 := q2.cell 0 rfl; have qq1 := q2.cell 1 rfl; have qq2 := q2.cell 2 rfl
  go_wp2
  go_ret2
  exact ⟨rfl, b02⟩

set_option maxRecDepth 100000 in
set_option maxHeartbeats 6400000 in
theorem encNum_held (R D L G fam : Int) (gr : Bool) (sz ex : Nat) (F : Nat) (c p : Int) (ng : Bool) (ao : Option Addr) (dn dc : Nat) (w : World)
    (r : Trip) (er : Int) (HN : ∀ w1, Below w.heap.size w w1 → Calls Tryd.prog 18 #[.agg #[.int .i64 R, .int .i64 D, .int .i64 L, .int .i64 G, .bool gr, .int .i64 (sz : Int), .int .i64 (ex : Int), .int .i64 fam, .func (.func F) #[] #[]], .agg #[.int .i64 c, .bool ng, .slice ao dn dc, .int .i64 p]] w1 (DAns w1 (r, er)))
    (hq : Bool) (he2 : Int) (HH : ∀ so sc w1, Below w.heap.size w w1 → Rd w1 .u32 (.slice so (Dg.dg 4294967296 r.n).length sc) (Dg.dg 4294967296 r.n) → Calls Tryd.prog 19 #[.agg #[.bool r.s, .slice so (Dg.dg 4294967296 r.n).length sc, .int .i64 r.e], .agg #[.int .i64 R, .int .i64 D, .int .i64 L, .int .i64 G, .bool gr]] w1 fun z w' => z = .returned (.tuple #[.bool hq, .int .i64 he2]) ∧ Below w1.heap.size w1 w')
    (st : ByteArray) (es : Int) (HE : ∀ so sc w1, Below w.heap.size w w1 → Rd w1 .u32 (.slice so (Dg.dg 4294967296 r.n).length sc) (Dg.dg 4294967296 r.n) → Calls Tryd.prog 20 #[.agg #[.int .i64 R, .int .i64 D, .int .i64 L, .int .i64 G, .bool gr, .int .i64 (sz : Int), .int .i64 (ex : Int), .int .i64 fam, .func (.func F) #[] #[]], .agg #[.bool r.s, .slice so (Dg.dg 4294967296 r.n).length sc, .int .i64 r.e]] w1 fun z w' => z = .returned (.tuple #[.string st, .int .i64 es]) ∧ Below w1.heap.size w1 w') (hpa : -20000 ≤ p) (hpb : p ≤ 20000) (hd : 0 < dn) (he : er = 0) (h2 : he2 = 0) (hqt : hq = true) :
    Calls Tryd.prog 12 #[.agg #[.int .i64 R, .int .i64 D, .int .i64 L, .int .i64 G, .bool gr, .int .i64 (sz : Int), .int .i64 (ex : Int), .int .i64 fam, .func (.func F) #[] #[]], .agg #[.int .i64 c, .bool ng, .slice ao dn dc, .int .i64 p]] w fun z w' => z = .returned (.tuple #[.string st, .int .i64 es]) ∧ Below w.heap.size w w' := by
  subst he h2 hqt
  have hp1 : ¬ p < -20000 := by omega
  have hp2 : ¬ 20000 < p := by omega
  have HN' : Hid (∀ w1, Below w.heap.size w w1 → Calls Tryd.prog 18 #[.agg #[.int .i64 R, .int .i64 D, .int .i64 L, .int .i64 G, .bool gr, .int .i64 (sz : Int), .int .i64 (ex : Int), .int .i64 fam, .func (.func F) #[] #[]], .agg #[.int .i64 c, .bool ng, .slice ao dn dc, .int .i64 p]] w1 (DAns w1 (r, 0))) := HN
  have hdI : ((dn : Int) == 0) = false := by simp; omega
  clear HN
  have HH' : Hid (∀ so sc w1, Below w.heap.size w w1 → Rd w1 .u32 (.slice so (Dg.dg 4294967296 r.n).length sc) (Dg.dg 4294967296 r.n) → Calls Tryd.prog 19 #[.agg #[.bool r.s, .slice so (Dg.dg 4294967296 r.n).length sc, .int .i64 r.e], .agg #[.int .i64 R, .int .i64 D, .int .i64 L, .int .i64 G, .bool gr]] w1 fun z w' => z = .returned (.tuple #[.bool true, .int .i64 0]) ∧ Below w1.heap.size w1 w') := HH
  clear HH
  have HE' : Hid (∀ so sc w1, Below w.heap.size w w1 → Rd w1 .u32 (.slice so (Dg.dg 4294967296 r.n).length sc) (Dg.dg 4294967296 r.n) → Calls Tryd.prog 20 #[.agg #[.int .i64 R, .int .i64 D, .int .i64 L, .int .i64 G, .bool gr, .int .i64 (sz : Int), .int .i64 (ex : Int), .int .i64 fam, .func (.func F) #[] #[]], .agg #[.bool r.s, .slice so (Dg.dg 4294967296 r.n).length sc, .int .i64 r.e]] w1 fun z w' => z = .returned (.tuple #[.string st, .int .i64 es]) ∧ Below w1.heap.size w1 w') := HE
  clear HE
  have hsf : ∀ (a : Addr) (W : World) (g : Fn), (store a (Value.func g #[] #[])).run Tryd.prog W = stored Tryd.prog W a (Value.func g #[] #[]) .plain := fun a W g => run_store _ W a _ _ rfl
  have bv := below_alloc (w.alloc (.cells #[.int .i64 R, .int .i64 D, .int .i64 L, .int .i64 G, .bool gr, .int .i64 (sz : Int), .int .i64 (ex : Int), .int .i64 fam, .func (.func F) #[] #[]] 44)) (.cells #[.int .i64 c, .bool ng, .slice ao dn dc, .int .i64 p] 25)
  have l0 := (locE_new w [.int .i64 R, .int .i64 D, .int .i64 L, .int .i64 G, .bool gr, .int .i64 (sz : Int), .int .i64 (ex : Int), .int .i64 fam, .func (.func F) #[] #[]] 44).later bv
  have m0 := locE_new (w.alloc (.cells #[.int .i64 R, .int .i64 D, .int .i64 L, .int .i64 G, .bool gr, .int .i64 (sz : Int), .int .i64 (ex : Int), .int .i64 fam, .func (.func F) #[] #[]] 44)) [.int .i64 c, .bool ng, .slice ao dn dc, .int .i64 p] 25
  have b0 := below_trans (below_alloc w (.cells #[.int .i64 R, .int .i64 D, .int .i64 L, .int .i64 G, .bool gr, .int .i64 (sz : Int), .int .i64 (ex : Int), .int .i64 fam, .func (.func F) #[] #[]] 44)) bv
  rw [World.size_alloc] at m0
  clear bv
  have x0 := l0.cell 0 rfl; have x1 := l0.cell 1 rfl; have x2 := l0.cell 2 rfl; have x3 := l0.cell 3 rfl; have x4 := l0.cell 4 rfl; have x5 := l0.cell 5 rfl; have x6 := l0.cell 6 rfl; have x7 := l0.cell 7 rfl; have x8 := l0.cell 8 rfl; have u0 := m0.cell 0 rfl; have u1 := m0.cell 1 rfl; have u2 := m0.cell 2 rfl; have u3 := m0.cell 3 rfl
  go_enter Tryd.func12, Tryd.ntmps12
  go_wp2_with fail
  refine (HN'.out _ b0).mono ?_
  rintro z w1 ⟨s1, rfl, own1, b1⟩
  obtain ⟨so, sc, hs1⟩ := own1.rd.shape
  subst hs1
  simp only
  have bq := below_alloc w1 (.cells #[.bool r.s, .slice so (Dg.dg 4294967296 r.n).length sc, .int .i64 r.e] 59)
  have l1 := (l0.later b1).later bq
  have q1 := locE_new w1 [.bool r.s, .slice so (Dg.dg 4294967296 r.n).length sc, .int .i64 r.e] 59
  have r1 := own1.rd.later bq
  have b01 := below_trans (below_trans b0 b1) bq
  clear own1 b1 bq l0 m0 x0 x1 x2 x3 x4 x5 x6 x7 x8 u0 u1 u2 u3
  have x0 := l1.cell 0 rfl; have x1 := l1.cell 1 rfl; have x2 := l1.cell 2 rfl; have x3 := l1.cell 3 rfl; have x4 := l1.cell 4 rfl; have x5 := l1.cell 5 rfl; have x6 := l1.cell 6 rfl; have x7 := l1.cell 7 rfl; have x8 := l1.cell 8 rfl; have q0 := q1.cell 0 rfl; have qq1 := q1.cell 1 rfl; have q2 := q1.cell 2 rfl
  go_wp2_with fail
  refine (HH'.out _ _ _ b01 r1).mono ?_
  rintro z w2 ⟨rfl, b2⟩
  have l2 := l1.later b2
  have q2 := q1.later b2
  have r2 := r1.later b2
  have b02 := below_trans b01 b2
  clear l1 q1 r1 b01 b2 x0 x1 x2 x3 x4 x5 x6 x7 x8 q0 qq1
  have x0 := l2.cell 0 rfl; have x1 := l2.cell 1 rfl; have x2 := l2.cell 2 rfl; have x3 := l2.cell 3 rfl; have x4 := l2.cell 4 rfl; have x5 := l2.cell 5 rfl; have x6 := l2.cell 6 rfl; have x7 := l2.cell 7 rfl; have x8 := l2.cell 8 rfl; have qq0 := q2.cell 0 rfl; have qq1 := q2.cell 1 rfl; have qq2 := q2.cell 2 rfl
  go_wp2_with fail
  refine (HE'.out _ _ _ b02 r2).mono ?_
  rintro z w3 ⟨rfl, b3⟩
  go_wp2
  go_ret2
  exact ⟨rfl, below_trans b02 b3⟩
end Go.Proofs.YtiiphandhpilgaaDoor
namespace Go.Proofs.YtiiphandhpilgaaDoor
open Go.RowKit
theorem word_digits (x : Nat) : Dg.vl 4294967296 [x % 4294967296, x / 4294967296] = x := by
  simp only [Dg.vl]
  omega

set_option maxRecDepth 100000 in
set_option maxHeartbeats 1600000 in
theorem fromWord_any (x : Nat) (hx : x < 18446744073709551616) (w : World) :
    Calls Tryd.prog 27 #[.int .u64 (x : Int)] w fun z w' => ∃ v, z = .returned v ∧ Own w' w.heap.size 38 .u32 v (Dg.dg 4294967296 x) ∧ Below w.heap.size w w' := by
  have hlo : (x : Int) % 4294967296 = ((x % 4294967296 : Nat) : Int) := by omega
  have hhi : (x : Int) / 4294967296 = ((x / 4294967296 : Nat) : Int) := by omega
  have hx2 : x / 4294967296 < 4294967296 := by omega
  have hx1 : x % 4294967296 < 4294967296 := Nat.mod_lt _ (by omega)
  have hd := word_digits x
  obtain ⟨lo, elo⟩ : ∃ n, x % 4294967296 = n := ⟨_, rfl⟩
  obtain ⟨hi, ehi⟩ : ∃ n, x / 4294967296 = n := ⟨_, rfl⟩
  rw [elo] at hlo hd hx1
  rw [ehi] at hhi hd hx2
  have own : Own (w.alloc (.cells #[.int .u32 (lo : Int), .int .u32 (hi : Int)] 38)) w.heap.size 38 .u32 (.slice (some ⟨w.heap.size, 0, none⟩) 2 2) [lo, hi] :=
    own_of_heap (zs := [lo, hi]) (heap_alloc_new _ _) (Nat.le_refl _) (by unfold maxLen; simp)
  have htr := trim_any (some ⟨w.heap.size, 0, none⟩) 2 2 [lo, hi] _ own.rd
  have hsm : Dg.Small 4294967296 [lo, hi] := by
    intro i
    match i with
    | 0 => exact hx1
    | 1 => exact hx2
    | i + 2 => simp
  have b0 := below_alloc w (.cells #[.int .u32 (lo : Int), .int .u32 (hi : Int)] 38)
  have HH : Hid (_ ∧ _) := ⟨hd, hsm⟩
  have hxI : (x : Int) < 18446744073709551616 := by omega
  clear elo ehi hd hsm
  go_enter Tryd.func27, Tryd.ntmps27
  go_wp2_with fail
  refine htr.mono ?_
  rintro z w1 ⟨n, rfl, ht, rfl⟩
  go_wp2
  go_ret
  obtain ⟨hd, hsm⟩ := HH.out
  refine ⟨_, rfl, ?_, b0⟩
  have := Dg.trim_eq 4294967296 (by omega) [lo, hi] n hsm ht.1 ht.2.1 ht.2.2
  rw [hd] at this
  rw [← this]
  exact own.take n ht.1
end Go.Proofs.YtiiphandhpilgaaDoor

/-
  Texts laid together: Ce5, Co22, Ce8, Ce11.
-/
import Derived.Test.YtnhackdjplppjaaGreatDoorAt24
import Derived.Test.YtnhackdjplppjaaGreatDoorAt28
set_option maxRecDepth 100000
namespace Go.Proofs.YtnhackdjplppjaaGreatDoor
open Go.RowKit
set_option maxHeartbeats 3200000 in
theorem lnumber_W (R D L G fam : Int) (gr : Bool) (sz ex : Nat) (F : Nat) (c p : Int) (ng : Bool) (ao : Option Addr) (dn dc : Nat) (r : Trip × Int) (w : World)
  (HN : ∀ w1, Below w.heap.size w w1 → Calls Tryz.prog 51 #[.agg #[.bool ng, .slice ao dn dc, .int .i64 p, .bool false, .bool false, .bool false], .agg #[.int .i64 R, .int .i64 D, .int .i64 L, .int .i64 G, .bool gr]] w1 (DAns w1 r)) :
  Calls Tryz.prog 154 #[.agg #[.int .i64 R, .int .i64 D, .int .i64 L, .int .i64 G, .bool gr, .int .i64 (sz : Int), .int .i64 (ex : Int), .int .i64 fam, .func (.func F) #[] #[]], .agg #[.int .i64 c, .bool ng, .slice ao dn dc, .int .i64 p]] w (DAns w r) := by
 have hsf := hsf_z
 have HN' : Hid _ := HN
 have bl := below_alloc w (.cells #[.int .i64 R, .int .i64 D, .int .i64 L, .int .i64 G, .bool gr, .int .i64 (sz : Int), .int .i64 (ex : Int), .int .i64 fam, .func (.func F) #[] #[]] 144)
 have bv := below_alloc (w.alloc (.cells #[.int .i64 R, .int .i64 D, .int .i64 L, .int .i64 G, .bool gr, .int .i64 (sz : Int), .int .i64 (ex : Int), .int .i64 fam, .func (.func F) #[] #[]] 144)) (.cells #[.int .i64 c, .bool ng, .slice ao dn dc, .int .i64 p] 73)
 have bd := below_alloc ((w.alloc (.cells #[.int .i64 R, .int .i64 D, .int .i64 L, .int .i64 G, .bool gr, .int .i64 (sz : Int), .int .i64 (ex : Int), .int .i64 fam, .func (.func F) #[] #[]] 144)).alloc (.cells #[.int .i64 c, .bool ng, .slice ao dn dc, .int .i64 p] 73)) (.cells #[.bool false, .slice none 0 0, .int .i64 0] 82)
 have d0 := locE_new ((w.alloc (.cells #[.int .i64 R, .int .i64 D, .int .i64 L, .int .i64 G, .bool gr, .int .i64 (sz : Int), .int .i64 (ex : Int), .int .i64 fam, .func (.func F) #[] #[]] 144)).alloc (.cells #[.int .i64 c, .bool ng, .slice ao dn dc, .int .i64 p] 73)) [.bool false, .slice none 0 0, .int .i64 0] 82
 have b0 := below_trans (below_trans bl bv) bd
 rw [World.size_alloc, World.size_alloc] at d0
 clear HN bl bv bd
 go_enter Tryz.func154, Tryz.ntmps154
 go_wp2_with fail
 refine (HN'.out _ b0).mono ?_
 rintro z w1 ⟨s1, rfl, own1, b1⟩
 obtain ⟨so, sc, hs1⟩ := own1.rd.shape
 subst hs1
 have d1 := d0.later b1
 have b01 := below_trans b0 b1
 have bu := ((but_set w1 (w.heap.size + 1 + 1) 0 (.bool r.1.s)).trans (but_set _ (w.heap.size + 1 + 1) 1 (.slice so (Dg.dg 4294967296 r.1.n).length sc))).trans (but_set _ (w.heap.size + 1 + 1) 2 (.int .i64 r.1.e))
 have cR : LocE (((w1.setCell ⟨w.heap.size + 1 + 1, 0, none⟩ (.bool r.1.s)).setCell ⟨w.heap.size + 1 + 1, 1, none⟩ (.slice so (Dg.dg 4294967296 r.1.n).length sc)).setCell ⟨w.heap.size + 1 + 1, 2, none⟩ (.int .i64 r.1.e)) (w.heap.size + 1 + 1) 82 [.bool r.1.s, .slice so (Dg.dg 4294967296 r.1.n).length sc, .int .i64 r.1.e] := (((d1.set 0 (.bool r.1.s)).set 1 (.slice so (Dg.dg 4294967296 r.1.n).length sc)).set 2 (.int .i64 r.1.e))
 have oR := (bu.own own1 d1 (by decide)).lower b0.size
 have bR := bu.below b01 (by omega)
 have hl := run_loadVar_mid (P := Tryz.prog) _ (w.heap.size + 1 + 1) 0 82 [.bool r.1.s, .slice so (Dg.dg 4294967296 r.1.n).length sc, .int .i64 r.1.e] _ cR.range Tryz.underlying82 rfl (by kernel_rfl)
 have HH : Hid (_ ∧ _ ∧ _) := ⟨hl, oR, bR⟩
 obtain ⟨x0, x1, x2⟩ := d1.cs3; have j0 := d1.free 0; have j1 := d1.free 1; have j2 := d1.free 2
 clear hl oR bR cR bu d1 d0 b01 b1 own1 b0
 go_wp2
 obtain ⟨hl, oR, bR⟩ := HH.out
 exact bodyPost_ret (results_two Tryz.results154 rfl rfl hl) rfl ⟨_, rfl, oR, bR⟩
set_option maxHeartbeats 6400000 in
theorem encNum_low (R D L G fam : Int) (gr : Bool) (sz ex : Nat) (F : Nat) (c p : Int) (ng : Bool) (ao : Option Addr) (dn dc : Nat) (w : World) (hp : p < -20000) :
  Calls Tryz.prog 99 #[.agg #[.int .i64 R, .int .i64 D, .int .i64 L, .int .i64 G, .bool gr, .int .i64 (sz : Int), .int .i64 (ex : Int), .int .i64 fam, .func (.func F) #[] #[]], .agg #[.int .i64 c, .bool ng, .slice ao dn dc, .int .i64 p]] w fun z w' => z = .returned (.tuple #[.string ⟨#[]⟩, .int .i64 3]) ∧ Below w.heap.size w w' := by
 have hsf := hsf_z
 have bv := below_alloc (w.alloc (.cells #[.int .i64 R, .int .i64 D, .int .i64 L, .int .i64 G, .bool gr, .int .i64 (sz : Int), .int .i64 (ex : Int), .int .i64 fam, .func (.func F) #[] #[]] 144)) (.cells #[.int .i64 c, .bool ng, .slice ao dn dc, .int .i64 p] 73)
 have l0 := (locE_new w [.int .i64 R, .int .i64 D, .int .i64 L, .int .i64 G, .bool gr, .int .i64 (sz : Int), .int .i64 (ex : Int), .int .i64 fam, .func (.func F) #[] #[]] 144).later bv
 have m0 := locE_new (w.alloc (.cells #[.int .i64 R, .int .i64 D, .int .i64 L, .int .i64 G, .bool gr, .int .i64 (sz : Int), .int .i64 (ex : Int), .int .i64 fam, .func (.func F) #[] #[]] 144)) [.int .i64 c, .bool ng, .slice ao dn dc, .int .i64 p] 73
 have b0 := below_trans (below_alloc w (.cells #[.int .i64 R, .int .i64 D, .int .i64 L, .int .i64 G, .bool gr, .int .i64 (sz : Int), .int .i64 (ex : Int), .int .i64 fam, .func (.func F) #[] #[]] 144)) bv
 rw [World.size_alloc] at m0
 clear bv
 obtain ⟨x0, x1, x2, x3, x4, x5, x6, x7, x8⟩ := l0.cs9
 obtain ⟨u0, u1, u2, u3⟩ := m0.cs4
 go_enter Tryz.func99, Tryz.ntmps99
 go_wp2
 go_ret2
 exact ⟨rfl, b0⟩
set_option maxHeartbeats 6400000 in
theorem encNum_high (R D L G fam : Int) (gr : Bool) (sz ex : Nat) (F : Nat) (c p : Int) (ng : Bool) (ao : Option Addr) (dn dc : Nat) (w : World) (hp : 20000 < p) :
  Calls Tryz.prog 99 #[.agg #[.int .i64 R, .int .i64 D, .int .i64 L, .int .i64 G, .bool gr, .int .i64 (sz : Int), .int .i64 (ex : Int), .int .i64 fam, .func (.func F) #[] #[]], .agg #[.int .i64 c, .bool ng, .slice ao dn dc, .int .i64 p]] w fun z w' => z = .returned (.tuple #[.string ⟨#[]⟩, .int .i64 3]) ∧ Below w.heap.size w w' := by
 have hp1 : ¬ p < -20000 := by omega
 have hsf := hsf_z
 have bv := below_alloc (w.alloc (.cells #[.int .i64 R, .int .i64 D, .int .i64 L, .int .i64 G, .bool gr, .int .i64 (sz : Int), .int .i64 (ex : Int), .int .i64 fam, .func (.func F) #[] #[]] 144)) (.cells #[.int .i64 c, .bool ng, .slice ao dn dc, .int .i64 p] 73)
 have l0 := (locE_new w [.int .i64 R, .int .i64 D, .int .i64 L, .int .i64 G, .bool gr, .int .i64 (sz : Int), .int .i64 (ex : Int), .int .i64 fam, .func (.func F) #[] #[]] 144).later bv
 have m0 := locE_new (w.alloc (.cells #[.int .i64 R, .int .i64 D, .int .i64 L, .int .i64 G, .bool gr, .int .i64 (sz : Int), .int .i64 (ex : Int), .int .i64 fam, .func (.func F) #[] #[]] 144)) [.int .i64 c, .bool ng, .slice ao dn dc, .int .i64 p] 73
 have b0 := below_trans (below_alloc w (.cells #[.int .i64 R, .int .i64 D, .int .i64 L, .int .i64 G, .bool gr, .int .i64 (sz : Int), .int .i64 (ex : Int), .int .i64 fam, .func (.func F) #[] #[]] 144)) bv
 rw [World.size_alloc] at m0
 clear bv
 obtain ⟨x0, x1, x2, x3, x4, x5, x6, x7, x8⟩ := l0.cs9
 obtain ⟨u0, u1, u2, u3⟩ := m0.cs4
 go_enter Tryz.func99, Tryz.ntmps99
 go_wp2
 go_ret2
 exact ⟨rfl, b0⟩
set_option maxHeartbeats 6400000 in
theorem encNum_empty (R D L G fam : Int) (gr : Bool) (sz ex : Nat) (F : Nat) (c p : Int) (ng : Bool) (ao : Option Addr) (dn dc : Nat) (w : World) (hpa : -20000 ≤ p) (hpb : p ≤ 20000) (hd : dn = 0) :
  Calls Tryz.prog 99 #[.agg #[.int .i64 R, .int .i64 D, .int .i64 L, .int .i64 G, .bool gr, .int .i64 (sz : Int), .int .i64 (ex : Int), .int .i64 fam, .func (.func F) #[] #[]], .agg #[.int .i64 c, .bool ng, .slice ao dn dc, .int .i64 p]] w fun z w' => z = .returned (.tuple #[.string ⟨#[]⟩, .int .i64 4]) ∧ Below w.heap.size w w' := by
 subst hd
 have hp1 : ¬ p < -20000 := by omega
 have hp2 : ¬ 20000 < p := by omega
 have hsf := hsf_z
 have bv := below_alloc (w.alloc (.cells #[.int .i64 R, .int .i64 D, .int .i64 L, .int .i64 G, .bool gr, .int .i64 (sz : Int), .int .i64 (ex : Int), .int .i64 fam, .func (.func F) #[] #[]] 144)) (.cells #[.int .i64 c, .bool ng, .slice ao 0 dc, .int .i64 p] 73)
 have l0 := (locE_new w [.int .i64 R, .int .i64 D, .int .i64 L, .int .i64 G, .bool gr, .int .i64 (sz : Int), .int .i64 (ex : Int), .int .i64 fam, .func (.func F) #[] #[]] 144).later bv
 have m0 := locE_new (w.alloc (.cells #[.int .i64 R, .int .i64 D, .int .i64 L, .int .i64 G, .bool gr, .int .i64 (sz : Int), .int .i64 (ex : Int), .int .i64 fam, .func (.func F) #[] #[]] 144)) [.int .i64 c, .bool ng, .slice ao 0 dc, .int .i64 p] 73
 have b0 := below_trans (below_alloc w (.cells #[.int .i64 R, .int .i64 D, .int .i64 L, .int .i64 G, .bool gr, .int .i64 (sz : Int), .int .i64 (ex : Int), .int .i64 fam, .func (.func F) #[] #[]] 144)) bv
 rw [World.size_alloc] at m0
 clear bv
 obtain ⟨x0, x1, x2, x3, x4, x5, x6, x7, x8⟩ := l0.cs9
 obtain ⟨u0, u1, u2, u3⟩ := m0.cs4
 go_enter Tryz.func99, Tryz.ntmps99
 go_wp2
 go_ret2
 exact ⟨rfl, b0⟩
set_option maxHeartbeats 6400000 in
theorem encNum_far (R D L G fam : Int) (gr : Bool) (sz ex : Nat) (F : Nat) (c p : Int) (ng : Bool) (ao : Option Addr) (dn dc : Nat) (w : World)
  (r : Trip) (er : Int) (HN : ∀ w1, Below w.heap.size w w1 → Calls Tryz.prog 154 #[.agg #[.int .i64 R, .int .i64 D, .int .i64 L, .int .i64 G, .bool gr, .int .i64 (sz : Int), .int .i64 (ex : Int), .int .i64 fam, .func (.func F) #[] #[]], .agg #[.int .i64 c, .bool ng, .slice ao dn dc, .int .i64 p]] w1 (DAns w1 (r, er))) (hpa : -20000 ≤ p) (hpb : p ≤ 20000) (hd : 0 < dn) (he : er ≠ 0) :
  Calls Tryz.prog 99 #[.agg #[.int .i64 R, .int .i64 D, .int .i64 L, .int .i64 G, .bool gr, .int .i64 (sz : Int), .int .i64 (ex : Int), .int .i64 fam, .func (.func F) #[] #[]], .agg #[.int .i64 c, .bool ng, .slice ao dn dc, .int .i64 p]] w fun z w' => z = .returned (.tuple #[.string ⟨#[]⟩, .int .i64 4]) ∧ Below w.heap.size w w' := by
 have hp1 : ¬ p < -20000 := by omega
 have hp2 : ¬ 20000 < p := by omega
 have HN' : Hid _ := HN
 have hdI : ((dn : Int) == 0) = false := by simp; omega
 clear HN
 have heb : (er == 0) = false := by simpa using he
 have hsf := hsf_z
 have bv := below_alloc (w.alloc (.cells #[.int .i64 R, .int .i64 D, .int .i64 L, .int .i64 G, .bool gr, .int .i64 (sz : Int), .int .i64 (ex : Int), .int .i64 fam, .func (.func F) #[] #[]] 144)) (.cells #[.int .i64 c, .bool ng, .slice ao dn dc, .int .i64 p] 73)
 have l0 := (locE_new w [.int .i64 R, .int .i64 D, .int .i64 L, .int .i64 G, .bool gr, .int .i64 (sz : Int), .int .i64 (ex : Int), .int .i64 fam, .func (.func F) #[] #[]] 144).later bv
 have m0 := locE_new (w.alloc (.cells #[.int .i64 R, .int .i64 D, .int .i64 L, .int .i64 G, .bool gr, .int .i64 (sz : Int), .int .i64 (ex : Int), .int .i64 fam, .func (.func F) #[] #[]] 144)) [.int .i64 c, .bool ng, .slice ao dn dc, .int .i64 p] 73
 have b0 := below_trans (below_alloc w (.cells #[.int .i64 R, .int .i64 D, .int .i64 L, .int .i64 G, .bool gr, .int .i64 (sz : Int), .int .i64 (ex : Int), .int .i64 fam, .func (.func F) #[] #[]] 144)) bv
 rw [World.size_alloc] at m0
 clear bv
 obtain ⟨x0, x1, x2, x3, x4, x5, x6, x7, x8⟩ := l0.cs9
 obtain ⟨u0, u1, u2, u3⟩ := m0.cs4
 go_enter Tryz.func99, Tryz.ntmps99
 go_wp2_with fail
 refine (HN'.out _ b0).mono ?_
 rintro z w1 ⟨s1, rfl, own1, b1⟩
 obtain ⟨so, sc, hs1⟩ := own1.rd.shape
 subst hs1
 simp only
 have bq := below_alloc w1 (.cells #[.bool r.s, .slice so (Dg.dg 4294967296 r.n).length sc, .int .i64 r.e] 82)
 have l1 := (l0.later b1).later bq
 have q1 := locE_new w1 [.bool r.s, .slice so (Dg.dg 4294967296 r.n).length sc, .int .i64 r.e] 82
 have r1 := own1.rd.later bq
 have b01 := below_trans (below_trans b0 b1) bq
 clear own1 b1 bq l0 m0 x0 x1 x2 x3 x4 x5 x6 x7 x8 u0 u1 u2 u3
 obtain ⟨x0, x1, x2, x3, x4, x5, x6, x7, x8⟩ := l1.cs9
 obtain ⟨q0, qq1, q2⟩ := q1.cs3
 go_wp2
 go_ret2
 exact ⟨rfl, b01⟩
set_option maxHeartbeats 6400000 in
theorem encNum_off0 (R D L G fam : Int) (gr : Bool) (sz ex : Nat) (F : Nat) (c p : Int) (ng : Bool) (ao : Option Addr) (dn dc : Nat) (w : World)
  (r : Trip) (er : Int) (HN : ∀ w1, Below w.heap.size w w1 → Calls Tryz.prog 154 #[.agg #[.int .i64 R, .int .i64 D, .int .i64 L, .int .i64 G, .bool gr, .int .i64 (sz : Int), .int .i64 (ex : Int), .int .i64 fam, .func (.func F) #[] #[]], .agg #[.int .i64 c, .bool ng, .slice ao dn dc, .int .i64 p]] w1 (DAns w1 (r, er)))
  (hq : Bool) (he2 : Int) (HH : ∀ so sc w1, Below w.heap.size w w1 → Rd w1 .u32 (.slice so (Dg.dg 4294967296 r.n).length sc) (Dg.dg 4294967296 r.n) → Calls Tryz.prog 52 #[.agg #[.bool r.s, .slice so (Dg.dg 4294967296 r.n).length sc, .int .i64 r.e], .agg #[.int .i64 R, .int .i64 D, .int .i64 L, .int .i64 G, .bool gr]] w1 fun z w' => z = .returned (.tuple #[.bool hq, .int .i64 he2]) ∧ Below w1.heap.size w1 w') (hpa : -20000 ≤ p) (hpb : p ≤ 20000) (hd : 0 < dn) (he : er = 0) (h2 : he2 = 0) (hqf : hq = false) :
  Calls Tryz.prog 99 #[.agg #[.int .i64 R, .int .i64 D, .int .i64 L, .int .i64 G, .bool gr, .int .i64 (sz : Int), .int .i64 (ex : Int), .int .i64 fam, .func (.func F) #[] #[]], .agg #[.int .i64 c, .bool ng, .slice ao dn dc, .int .i64 p]] w fun z w' => z = .returned (.tuple #[.string ⟨#[]⟩, .int .i64 4]) ∧ Below w.heap.size w w' := by
 subst he h2 hqf
 have hp1 : ¬ p < -20000 := by omega
 have hp2 : ¬ 20000 < p := by omega
 have HN' : Hid _ := HN
 have hdI : ((dn : Int) == 0) = false := by simp; omega
 clear HN
 have HH' : Hid _ := HH
 clear HH
 have hsf := hsf_z
 have bv := below_alloc (w.alloc (.cells #[.int .i64 R, .int .i64 D, .int .i64 L, .int .i64 G, .bool gr, .int .i64 (sz : Int), .int .i64 (ex : Int), .int .i64 fam, .func (.func F) #[] #[]] 144)) (.cells #[.int .i64 c, .bool ng, .slice ao dn dc, .int .i64 p] 73)
 have l0 := (locE_new w [.int .i64 R, .int .i64 D, .int .i64 L, .int .i64 G, .bool gr, .int .i64 (sz : Int), .int .i64 (ex : Int), .int .i64 fam, .func (.func F) #[] #[]] 144).later bv
 have m0 := locE_new (w.alloc (.cells #[.int .i64 R, .int .i64 D, .int .i64 L, .int .i64 G, .bool gr, .int .i64 (sz : Int), .int .i64 (ex : Int), .int .i64 fam, .func (.func F) #[] #[]] 144)) [.int .i64 c, .bool ng, .slice ao dn dc, .int .i64 p] 73
 have b0 := below_trans (below_alloc w (.cells #[.int .i64 R, .int .i64 D, .int .i64 L, .int .i64 G, .bool gr, .int .i64 (sz : Int), .int .i64 (ex : Int), .int .i64 fam, .func (.func F) #[] #[]] 144)) bv
 rw [World.size_alloc] at m0
 clear bv
 obtain ⟨x0, x1, x2, x3, x4, x5, x6, x7, x8⟩ := l0.cs9
 obtain ⟨u0, u1, u2, u3⟩ := m0.cs4
 go_enter Tryz.func99, Tryz.ntmps99
 go_wp2_with fail
 refine (HN'.out _ b0).mono ?_
 rintro z w1 ⟨s1, rfl, own1, b1⟩
 obtain ⟨so, sc, hs1⟩ := own1.rd.shape
 subst hs1
 simp only
 have bq := below_alloc w1 (.cells #[.bool r.s, .slice so (Dg.dg 4294967296 r.n).length sc, .int .i64 r.e] 82)
 have l1 := (l0.later b1).later bq
 have q1 := locE_new w1 [.bool r.s, .slice so (Dg.dg 4294967296 r.n).length sc, .int .i64 r.e] 82
 have r1 := own1.rd.later bq
 have b01 := below_trans (below_trans b0 b1) bq
 clear own1 b1 bq l0 m0 x0 x1 x2 x3 x4 x5 x6 x7 x8 u0 u1 u2 u3
 obtain ⟨x0, x1, x2, x3, x4, x5, x6, x7, x8⟩ := l1.cs9
 obtain ⟨q0, qq1, q2⟩ := q1.cs3
 go_wp2_with fail
 refine (HH'.out _ _ _ b01 r1).mono ?_
 rintro z w2 ⟨rfl, b2⟩
 have l2 := l1.later b2
 have q2 := q1.later b2
 have r2 := r1.later b2
 have b02 := below_trans b01 b2
 clear l1 q1 r1 b01 b2 x0 x1 x2 x3 x4 x5 x6 x7 x8 q0 qq1
 obtain ⟨x0, x1, x2, x3, x4, x5, x6, x7, x8⟩ := l2.cs9
 obtain ⟨qq0, qq1, qq2⟩ := q2.cs3
 go_wp2
 go_ret2
 exact ⟨rfl, b02⟩
set_option maxHeartbeats 6400000 in
theorem encNum_held (R D L G fam : Int) (gr : Bool) (sz ex : Nat) (F : Nat) (c p : Int) (ng : Bool) (ao : Option Addr) (dn dc : Nat) (w : World)
  (r : Trip) (er : Int) (HN : ∀ w1, Below w.heap.size w w1 → Calls Tryz.prog 154 #[.agg #[.int .i64 R, .int .i64 D, .int .i64 L, .int .i64 G, .bool gr, .int .i64 (sz : Int), .int .i64 (ex : Int), .int .i64 fam, .func (.func F) #[] #[]], .agg #[.int .i64 c, .bool ng, .slice ao dn dc, .int .i64 p]] w1 (DAns w1 (r, er)))
  (hq : Bool) (he2 : Int) (HH : ∀ so sc w1, Below w.heap.size w w1 → Rd w1 .u32 (.slice so (Dg.dg 4294967296 r.n).length sc) (Dg.dg 4294967296 r.n) → Calls Tryz.prog 52 #[.agg #[.bool r.s, .slice so (Dg.dg 4294967296 r.n).length sc, .int .i64 r.e], .agg #[.int .i64 R, .int .i64 D, .int .i64 L, .int .i64 G, .bool gr]] w1 fun z w' => z = .returned (.tuple #[.bool hq, .int .i64 he2]) ∧ Below w1.heap.size w1 w')
  (st : ByteArray) (es : Int) (HE : ∀ so sc w1, Below w.heap.size w w1 → Rd w1 .u32 (.slice so (Dg.dg 4294967296 r.n).length sc) (Dg.dg 4294967296 r.n) → Calls Tryz.prog 155 #[.agg #[.int .i64 R, .int .i64 D, .int .i64 L, .int .i64 G, .bool gr, .int .i64 (sz : Int), .int .i64 (ex : Int), .int .i64 fam, .func (.func F) #[] #[]], .agg #[.bool r.s, .slice so (Dg.dg 4294967296 r.n).length sc, .int .i64 r.e]] w1 fun z w' => z = .returned (.tuple #[.string st, .int .i64 es]) ∧ Below w1.heap.size w1 w') (hpa : -20000 ≤ p) (hpb : p ≤ 20000) (hd : 0 < dn) (he : er = 0) (h2 : he2 = 0) (hqt : hq = true) :
  Calls Tryz.prog 99 #[.agg #[.int .i64 R, .int .i64 D, .int .i64 L, .int .i64 G, .bool gr, .int .i64 (sz : Int), .int .i64 (ex : Int), .int .i64 fam, .func (.func F) #[] #[]], .agg #[.int .i64 c, .bool ng, .slice ao dn dc, .int .i64 p]] w fun z w' => z = .returned (.tuple #[.string st, .int .i64 es]) ∧ Below w.heap.size w w' := by
 subst he h2 hqt
 have hp1 : ¬ p < -20000 := by omega
 have hp2 : ¬ 20000 < p := by omega
 have HN' : Hid _ := HN
 have hdI : ((dn : Int) == 0) = false := by simp; omega
 clear HN
 have HH' : Hid _ := HH
 clear HH
 have HE' : Hid _ := HE
 clear HE
 have hsf := hsf_z
 have bv := below_alloc (w.alloc (.cells #[.int .i64 R, .int .i64 D, .int .i64 L, .int .i64 G, .bool gr, .int .i64 (sz : Int), .int .i64 (ex : Int), .int .i64 fam, .func (.func F) #[] #[]] 144)) (.cells #[.int .i64 c, .bool ng, .slice ao dn dc, .int .i64 p] 73)
 have l0 := (locE_new w [.int .i64 R, .int .i64 D, .int .i64 L, .int .i64 G, .bool gr, .int .i64 (sz : Int), .int .i64 (ex : Int), .int .i64 fam, .func (.func F) #[] #[]] 144).later bv
 have m0 := locE_new (w.alloc (.cells #[.int .i64 R, .int .i64 D, .int .i64 L, .int .i64 G, .bool gr, .int .i64 (sz : Int), .int .i64 (ex : Int), .int .i64 fam, .func (.func F) #[] #[]] 144)) [.int .i64 c, .bool ng, .slice ao dn dc, .int .i64 p] 73
 have b0 := below_trans (below_alloc w (.cells #[.int .i64 R, .int .i64 D, .int .i64 L, .int .i64 G, .bool gr, .int .i64 (sz : Int), .int .i64 (ex : Int), .int .i64 fam, .func (.func F) #[] #[]] 144)) bv
 rw [World.size_alloc] at m0
 clear bv
 obtain ⟨x0, x1, x2, x3, x4, x5, x6, x7, x8⟩ := l0.cs9
 obtain ⟨u0, u1, u2, u3⟩ := m0.cs4
 go_enter Tryz.func99, Tryz.ntmps99
 go_wp2_with fail
 refine (HN'.out _ b0).mono ?_
 rintro z w1 ⟨s1, rfl, own1, b1⟩
 obtain ⟨so, sc, hs1⟩ := own1.rd.shape
 subst hs1
 simp only
 have bq := below_alloc w1 (.cells #[.bool r.s, .slice so (Dg.dg 4294967296 r.n).length sc, .int .i64 r.e] 82)
 have l1 := (l0.later b1).later bq
 have q1 := locE_new w1 [.bool r.s, .slice so (Dg.dg 4294967296 r.n).length sc, .int .i64 r.e] 82
 have r1 := own1.rd.later bq
 have b01 := below_trans (below_trans b0 b1) bq
 clear own1 b1 bq l0 m0 x0 x1 x2 x3 x4 x5 x6 x7 x8 u0 u1 u2 u3
 obtain ⟨x0, x1, x2, x3, x4, x5, x6, x7, x8⟩ := l1.cs9
 obtain ⟨q0, qq1, q2⟩ := q1.cs3
 go_wp2_with fail
 refine (HH'.out _ _ _ b01 r1).mono ?_
 rintro z w2 ⟨rfl, b2⟩
 have l2 := l1.later b2
 have q2 := q1.later b2
 have r2 := r1.later b2
 have b02 := below_trans b01 b2
 clear l1 q1 r1 b01 b2 x0 x1 x2 x3 x4 x5 x6 x7 x8 q0 qq1
 obtain ⟨x0, x1, x2, x3, x4, x5, x6, x7, x8⟩ := l2.cs9
 obtain ⟨qq0, qq1, qq2⟩ := q2.cs3
 go_wp2_with fail
 refine (HE'.out _ _ _ b02 r2).mono ?_
 rintro z w3 ⟨rfl, b3⟩
 go_wp2
 go_ret2
 exact ⟨rfl, below_trans b02 b3⟩
end Go.Proofs.YtnhackdjplppjaaGreatDoor
namespace Go.Proofs.YtnhackdjplppjaaGreatDoor
open Go.RowKit
set_option maxHeartbeats 3200000 in
theorem enc_none (n : Int)  (c p : Int) (ng : Bool) (ao : Option Addr) (dn dc : Nat) (w : World)
  (HL : ∀ w1, Calls Tryz.prog 97 #[.int .i64 n] w1 fun z w' => z = .returned (.tuple #[.agg #[.int .i64 0, .int .i64 0, .int .i64 0, .int .i64 0, .bool false, .int .i64 0, .int .i64 0, .int .i64 0, .nilFunc], .int .i64 6]) ∧ Below w1.heap.size w1 w')  :
  Calls Tryz.prog 44 #[.int .i64 n, .agg #[.int .i64 c, .bool ng, .slice ao dn dc, .int .i64 p]] w fun z w' => z = .returned (.tuple #[.string ⟨#[]⟩, .int .i64 6]) ∧ Below w.heap.size w w' := by
 have hsf := hsf_z
 have hsn := hsn_z
 have m0 := locE_new w [.int .i64 c, .bool ng, .slice ao dn dc, .int .i64 p] 73
 have b0 := below_alloc w (.cells #[.int .i64 c, .bool ng, .slice ao dn dc, .int .i64 p] 73)
 have HL' : Hid _ := HL
 clear HL
 go_enter Tryz.func44, Tryz.ntmps44
 go_wp2_with fail
 refine (HL'.out _).mono ?_
 rintro z w1 ⟨rfl, b1⟩
 have bq := below_alloc w1 (.cells #[.int .i64 0, .int .i64 0, .int .i64 0, .int .i64 0, .bool false, .int .i64 0, .int .i64 0, .int .i64 0, .nilFunc] 144)
 have m1 := (m0.later b1).later bq
 have q1 := locE_new w1 [.int .i64 0, .int .i64 0, .int .i64 0, .int .i64 0, .bool false, .int .i64 0, .int .i64 0, .int .i64 0, .nilFunc] 144
 have b01 := below_trans (below_trans b0 b1) bq
 obtain ⟨u0, u1, u2, u3⟩ := m1.cs4
 obtain ⟨s0, s1, s2, s3, s4, s5, s6, s7, s8⟩ := q1.cs9
 clear m0 b0 b1 bq HL'
 go_wp2
 go_ret2
 exact ⟨rfl, b01⟩
set_option maxHeartbeats 3200000 in
theorem enc_low (n : Int) (R D L G fam : Int) (gr : Bool) (sz ex : Nat) (F : Nat) (c p : Int) (ng : Bool) (ao : Option Addr) (dn dc : Nat) (w : World)
  (HL : ∀ w1, Calls Tryz.prog 97 #[.int .i64 n] w1 fun z w' => z = .returned (.tuple #[.agg #[.int .i64 R, .int .i64 D, .int .i64 L, .int .i64 G, .bool gr, .int .i64 (sz : Int), .int .i64 (ex : Int), .int .i64 fam, .func (.func F) #[] #[]], .int .i64 0]) ∧ Below w1.heap.size w1 w') (hc : c < 1) :
  Calls Tryz.prog 44 #[.int .i64 n, .agg #[.int .i64 c, .bool ng, .slice ao dn dc, .int .i64 p]] w fun z w' => z = .returned (.tuple #[.string ⟨#[]⟩, .int .i64 6]) ∧ Below w.heap.size w w' := by
 have hsf := hsf_z
 have hsn := hsn_z
 have m0 := locE_new w [.int .i64 c, .bool ng, .slice ao dn dc, .int .i64 p] 73
 have b0 := below_alloc w (.cells #[.int .i64 c, .bool ng, .slice ao dn dc, .int .i64 p] 73)
 have HL' : Hid _ := HL
 clear HL
 go_enter Tryz.func44, Tryz.ntmps44
 go_wp2_with fail
 refine (HL'.out _).mono ?_
 rintro z w1 ⟨rfl, b1⟩
 have bq := below_alloc w1 (.cells #[.int .i64 R, .int .i64 D, .int .i64 L, .int .i64 G, .bool gr, .int .i64 (sz : Int), .int .i64 (ex : Int), .int .i64 fam, .func (.func F) #[] #[]] 144)
 have m1 := (m0.later b1).later bq
 have q1 := locE_new w1 [.int .i64 R, .int .i64 D, .int .i64 L, .int .i64 G, .bool gr, .int .i64 (sz : Int), .int .i64 (ex : Int), .int .i64 fam, .func (.func F) #[] #[]] 144
 have b01 := below_trans (below_trans b0 b1) bq
 obtain ⟨u0, u1, u2, u3⟩ := m1.cs4
 obtain ⟨s0, s1, s2, s3, s4, s5, s6, s7, s8⟩ := q1.cs9
 clear m0 b0 b1 bq HL'
 go_wp2
 go_ret2
 exact ⟨rfl, b01⟩
set_option maxHeartbeats 3200000 in
theorem enc_high (n : Int) (R D L G fam : Int) (gr : Bool) (sz ex : Nat) (F : Nat) (c p : Int) (ng : Bool) (ao : Option Addr) (dn dc : Nat) (w : World)
  (HL : ∀ w1, Calls Tryz.prog 97 #[.int .i64 n] w1 fun z w' => z = .returned (.tuple #[.agg #[.int .i64 R, .int .i64 D, .int .i64 L, .int .i64 G, .bool gr, .int .i64 (sz : Int), .int .i64 (ex : Int), .int .i64 fam, .func (.func F) #[] #[]], .int .i64 0]) ∧ Below w1.heap.size w1 w') (hc : 5 < c) :
  Calls Tryz.prog 44 #[.int .i64 n, .agg #[.int .i64 c, .bool ng, .slice ao dn dc, .int .i64 p]] w fun z w' => z = .returned (.tuple #[.string ⟨#[]⟩, .int .i64 6]) ∧ Below w.heap.size w w' := by
 have hc1 : ¬ c < 1 := by omega
 have hsf := hsf_z
 have hsn := hsn_z
 have m0 := locE_new w [.int .i64 c, .bool ng, .slice ao dn dc, .int .i64 p] 73
 have b0 := below_alloc w (.cells #[.int .i64 c, .bool ng, .slice ao dn dc, .int .i64 p] 73)
 have HL' : Hid _ := HL
 clear HL
 go_enter Tryz.func44, Tryz.ntmps44
 go_wp2_with fail
 refine (HL'.out _).mono ?_
 rintro z w1 ⟨rfl, b1⟩
 have bq := below_alloc w1 (.cells #[.int .i64 R, .int .i64 D, .int .i64 L, .int .i64 G, .bool gr, .int .i64 (sz : Int), .int .i64 (ex : Int), .int .i64 fam, .func (.func F) #[] #[]] 144)
 have m1 := (m0.later b1).later bq
 have q1 := locE_new w1 [.int .i64 R, .int .i64 D, .int .i64 L, .int .i64 G, .bool gr, .int .i64 (sz : Int), .int .i64 (ex : Int), .int .i64 fam, .func (.func F) #[] #[]] 144
 have b01 := below_trans (below_trans b0 b1) bq
 obtain ⟨u0, u1, u2, u3⟩ := m1.cs4
 obtain ⟨s0, s1, s2, s3, s4, s5, s6, s7, s8⟩ := q1.cs9
 clear m0 b0 b1 bq HL'
 go_wp2
 go_ret2
 exact ⟨rfl, b01⟩
set_option maxHeartbeats 3200000 in
theorem enc_digits (n : Int) (R D L G fam : Int) (gr : Bool) (sz ex : Nat) (F : Nat) (c p : Int) (ng : Bool) (ao : Option Addr) (dn dc : Nat) (w : World)
  (HL : ∀ w1, Calls Tryz.prog 97 #[.int .i64 n] w1 fun z w' => z = .returned (.tuple #[.agg #[.int .i64 R, .int .i64 D, .int .i64 L, .int .i64 G, .bool gr, .int .i64 (sz : Int), .int .i64 (ex : Int), .int .i64 fam, .func (.func F) #[] #[]], .int .i64 0]) ∧ Below w1.heap.size w1 w')
  (nc : Int) (HN : ∀ w1, Below w.heap.size w w1 → Calls Tryz.prog 98 #[.slice ao dn dc] w1 fun z w' => z = .returned (.int .i64 nc) ∧ Below w1.heap.size w1 w') (h1 : 1 ≤ c) (h5 : c ≤ 5) (hn : nc ≠ 0) :
  Calls Tryz.prog 44 #[.int .i64 n, .agg #[.int .i64 c, .bool ng, .slice ao dn dc, .int .i64 p]] w fun z w' => z = .returned (.tuple #[.string ⟨#[]⟩, .int .i64 nc]) ∧ Below w.heap.size w w' := by
 have HN' : Hid _ := HN
 clear HN
 have hc1 : ¬ c < 1 := by omega
 have hc5 : ¬ 5 < c := by omega
 have hnb : (nc == 0) = false := by simpa using hn
 clear hn
 have hsf := hsf_z
 have hsn := hsn_z
 have m0 := locE_new w [.int .i64 c, .bool ng, .slice ao dn dc, .int .i64 p] 73
 have b0 := below_alloc w (.cells #[.int .i64 c, .bool ng, .slice ao dn dc, .int .i64 p] 73)
 have HL' : Hid _ := HL
 clear HL
 go_enter Tryz.func44, Tryz.ntmps44
 go_wp2_with fail
 refine (HL'.out _).mono ?_
 rintro z w1 ⟨rfl, b1⟩
 have bq := below_alloc w1 (.cells #[.int .i64 R, .int .i64 D, .int .i64 L, .int .i64 G, .bool gr, .int .i64 (sz : Int), .int .i64 (ex : Int), .int .i64 fam, .func (.func F) #[] #[]] 144)
 have m1 := (m0.later b1).later bq
 have q1 := locE_new w1 [.int .i64 R, .int .i64 D, .int .i64 L, .int .i64 G, .bool gr, .int .i64 (sz : Int), .int .i64 (ex : Int), .int .i64 fam, .func (.func F) #[] #[]] 144
 have b01 := below_trans (below_trans b0 b1) bq
 obtain ⟨u0, u1, u2, u3⟩ := m1.cs4
 obtain ⟨s0, s1, s2, s3, s4, s5, s6, s7, s8⟩ := q1.cs9
 clear m0 b0 b1 bq HL'
 go_wp2_with fail
 refine (HN'.out _ b01).mono ?_
 rintro z w2 ⟨rfl, b2⟩
 have m2 := m1.later b2
 have q2 := q1.later b2
 have b02 := below_trans b01 b2
 obtain ⟨v0, v1, v2, v3⟩ := m2.cs4
 obtain ⟨t0, t1, t2, t3, t4, t5, t6, t7, t8⟩ := q2.cs9
 go_wp2
 go_ret2
 exact ⟨rfl, b02⟩
set_option maxHeartbeats 3200000 in
theorem enc_other (n : Int) (R D L G fam : Int) (gr : Bool) (sz ex : Nat) (F : Nat) (c p : Int) (ng : Bool) (ao : Option Addr) (dn dc : Nat) (w : World)
  (HL : ∀ w1, Calls Tryz.prog 97 #[.int .i64 n] w1 fun z w' => z = .returned (.tuple #[.agg #[.int .i64 R, .int .i64 D, .int .i64 L, .int .i64 G, .bool gr, .int .i64 (sz : Int), .int .i64 (ex : Int), .int .i64 fam, .func (.func F) #[] #[]], .int .i64 0]) ∧ Below w1.heap.size w1 w')
  (nc : Int) (HN : ∀ w1, Below w.heap.size w w1 → Calls Tryz.prog 98 #[.slice ao dn dc] w1 fun z w' => z = .returned (.int .i64 nc) ∧ Below w1.heap.size w1 w')
  (st : ByteArray) (er : Int) (HO : ∀ w1, Calls Tryz.prog 100 #[.agg #[.int .i64 R, .int .i64 D, .int .i64 L, .int .i64 G, .bool gr, .int .i64 (sz : Int), .int .i64 (ex : Int), .int .i64 fam, .func (.func F) #[] #[]], .agg #[.int .i64 c, .bool ng, .slice ao dn dc, .int .i64 p]] w1 fun z w' => z = .returned (.tuple #[.string st, .int .i64 er]) ∧ Below w1.heap.size w1 w') (h1 : 1 ≤ c) (h5 : c ≤ 5) (h2 : c ≠ 2) (hn : nc = 0) :
  Calls Tryz.prog 44 #[.int .i64 n, .agg #[.int .i64 c, .bool ng, .slice ao dn dc, .int .i64 p]] w fun z w' => z = .returned (.tuple #[.string st, .int .i64 er]) ∧ Below w.heap.size w w' := by
 subst hn
 have HN' : Hid _ := HN
 clear HN
 have hc1 : ¬ c < 1 := by omega
 have hc5 : ¬ 5 < c := by omega
 have HO' : Hid _ := HO
 clear HO
 have hcb : (c == 2) = false := by simpa using h2
 clear h2
 have hsf := hsf_z
 have hsn := hsn_z
 have m0 := locE_new w [.int .i64 c, .bool ng, .slice ao dn dc, .int .i64 p] 73
 have b0 := below_alloc w (.cells #[.int .i64 c, .bool ng, .slice ao dn dc, .int .i64 p] 73)
 have HL' : Hid _ := HL
 clear HL
 go_enter Tryz.func44, Tryz.ntmps44
 go_wp2_with fail
 refine (HL'.out _).mono ?_
 rintro z w1 ⟨rfl, b1⟩
 have bq := below_alloc w1 (.cells #[.int .i64 R, .int .i64 D, .int .i64 L, .int .i64 G, .bool gr, .int .i64 (sz : Int), .int .i64 (ex : Int), .int .i64 fam, .func (.func F) #[] #[]] 144)
 have m1 := (m0.later b1).later bq
 have q1 := locE_new w1 [.int .i64 R, .int .i64 D, .int .i64 L, .int .i64 G, .bool gr, .int .i64 (sz : Int), .int .i64 (ex : Int), .int .i64 fam, .func (.func F) #[] #[]] 144
 have b01 := below_trans (below_trans b0 b1) bq
 obtain ⟨u0, u1, u2, u3⟩ := m1.cs4
 obtain ⟨s0, s1, s2, s3, s4, s5, s6, s7, s8⟩ := q1.cs9
 clear m0 b0 b1 bq HL'
 go_wp2_with fail
 refine (HN'.out _ b01).mono ?_
 rintro z w2 ⟨rfl, b2⟩
 have m2 := m1.later b2
 have q2 := q1.later b2
 have b02 := below_trans b01 b2
 obtain ⟨v0, v1, v2, v3⟩ := m2.cs4
 obtain ⟨t0, t1, t2, t3, t4, t5, t6, t7, t8⟩ := q2.cs9
 go_wp2_with fail
 refine (HO'.out _).mono ?_
 rintro z w3 ⟨rfl, b3⟩
 go_wp2
 go_ret2
 exact ⟨rfl, below_trans b02 b3⟩
end Go.Proofs.YtnhackdjplppjaaGreatDoor
namespace Go.Proofs.YtnhackdjplppjaaGreatDoor
open Go.RowKit
set_option maxHeartbeats 3200000 in
theorem enc_number (n : Int) (R D L G fam : Int) (gr : Bool) (sz ex : Nat) (F : Nat) (p : Int) (ng : Bool) (ao : Option Addr) (dn dc : Nat) (w : World)
  (HL : ∀ w1, Calls Tryz.prog 97 #[.int .i64 n] w1 fun z w' => z = .returned (.tuple #[.agg #[.int .i64 R, .int .i64 D, .int .i64 L, .int .i64 G, .bool gr, .int .i64 (sz : Int), .int .i64 (ex : Int), .int .i64 fam, .func (.func F) #[] #[]], .int .i64 0]) ∧ Below w1.heap.size w1 w')
  (nc : Int) (HN : ∀ w1, Below w.heap.size w w1 → Calls Tryz.prog 98 #[.slice ao dn dc] w1 fun z w' => z = .returned (.int .i64 nc) ∧ Below w1.heap.size w1 w')
  (st : ByteArray) (er : Int) (HO : ∀ w1, Below w.heap.size w w1 → Calls Tryz.prog 99 #[.agg #[.int .i64 R, .int .i64 D, .int .i64 L, .int .i64 G, .bool gr, .int .i64 (sz : Int), .int .i64 (ex : Int), .int .i64 fam, .func (.func F) #[] #[]], .agg #[.int .i64 2, .bool ng, .slice ao dn dc, .int .i64 p]] w1 fun z w' => z = .returned (.tuple #[.string st, .int .i64 er]) ∧ Below w1.heap.size w1 w') (hn : nc = 0) :
  Calls Tryz.prog 44 #[.int .i64 n, .agg #[.int .i64 2, .bool ng, .slice ao dn dc, .int .i64 p]] w fun z w' => z = .returned (.tuple #[.string st, .int .i64 er]) ∧ Below w.heap.size w w' := by
 subst hn
 have HN' : Hid _ := HN
 clear HN
 have HO' : Hid _ := HO
 clear HO
 have hsf := hsf_z
 have hsn := hsn_z
 have m0 := locE_new w [.int .i64 2, .bool ng, .slice ao dn dc, .int .i64 p] 73
 have b0 := below_alloc w (.cells #[.int .i64 2, .bool ng, .slice ao dn dc, .int .i64 p] 73)
 have HL' : Hid _ := HL
 clear HL
 go_enter Tryz.func44, Tryz.ntmps44
 go_wp2_with fail
 refine (HL'.out _).mono ?_
 rintro z w1 ⟨rfl, b1⟩
 have bq := below_alloc w1 (.cells #[.int .i64 R, .int .i64 D, .int .i64 L, .int .i64 G, .bool gr, .int .i64 (sz : Int), .int .i64 (ex : Int), .int .i64 fam, .func (.func F) #[] #[]] 144)
 have m1 := (m0.later b1).later bq
 have q1 := locE_new w1 [.int .i64 R, .int .i64 D, .int .i64 L, .int .i64 G, .bool gr, .int .i64 (sz : Int), .int .i64 (ex : Int), .int .i64 fam, .func (.func F) #[] #[]] 144
 have b01 := below_trans (below_trans b0 b1) bq
 obtain ⟨u0, u1, u2, u3⟩ := m1.cs4
 obtain ⟨s0, s1, s2, s3, s4, s5, s6, s7, s8⟩ := q1.cs9
 clear m0 b0 b1 bq HL'
 go_wp2_with fail
 refine (HN'.out _ b01).mono ?_
 rintro z w2 ⟨rfl, b2⟩
 have m2 := m1.later b2
 have q2 := q1.later b2
 have b02 := below_trans b01 b2
 obtain ⟨v0, v1, v2, v3⟩ := m2.cs4
 obtain ⟨t0, t1, t2, t3, t4, t5, t6, t7, t8⟩ := q2.cs9
 go_wp2_with fail
 refine (HO'.out _ b02).mono ?_
 rintro z w3 ⟨rfl, b3⟩
 go_wp2
 go_ret2
 exact ⟨rfl, below_trans b02 b3⟩
end Go.Proofs.YtnhackdjplppjaaGreatDoor
namespace Go.Proofs.YtnhackdjplppjaaGreatDoor
open Go.RowKit
theorem en_short {c : Int} {t r : Trip} (h : dbothR c t = (r, 0)) : r = bare t ∧ dchk (Dg.dg 4294967296 r.n) r.e = 0 := by
 unfold dbothR at h
 by_cases h0 : c = 0
 ·rw [if_pos h0] at h
  unfold shortT at h
  by_cases h1 : 1200 < (Dg.dg 4294967296 (bare t).n).length
  ·rw [if_pos h1] at h
   simp at h
  ·rw [if_neg h1] at h
   by_cases h2 : (bare t).e < -20000 ∨ 20000 < (bare t).e
   ·rw [if_pos h2] at h
    simp at h
   ·rw [if_neg h2] at h
    simp only [Prod.mk.injEq, and_true] at h
    subst h
    have hn := Dg.norm_dg 4294967296 (bare t).n (by omega)
    refine ⟨rfl, ?_⟩
    unfold dchk
    rw [if_pos (chk_of hn (by omega)), if_neg h2]
 ·rw [if_neg h0] at h
  simp only [Prod.mk.injEq] at h
  exact absurd h.2 h0
def enN (k : Nat) (ng : Bool) (xs : List Nat) (p : Int) : Trip × Int :=
 dbothR (placeC xs p (rdN k : Int) (dgN k : Int) (lsI k) (gsI k)) ⟨ng, Dg.vl 4294967296 xs, (widthN (rdN k : Int) : Int) * p⟩
def enH (k : Nat) (t : Trip) : Bool := ansH (Dg.dg 4294967296 t.n) t.e (rdN k : Int) (dgN k : Int) (lsI k) (gsI k) (decide (k ≤ 3))
def enE (k : Nat) (ng : Bool) (xs : List Nat) (p : Int) : Int :=
 if p < -20000 ∨ 20000 < p then 3 else if xs.length = 0 then 4 else if (enN k ng xs p).2 = 0 ∧ enH k (enN k ng xs p).1 = true then 0 else 4
def enS (k : Nat) (ng : Bool) (xs : List Nat) (p : Int) : ByteArray :=
 if enE k ng xs p = 0 then strOf (wrtB k (plT k (enN k ng xs p).1.s (enN k ng xs p).1.n (enN k ng xs p).1.e).s (heE (rdN k : Int) (lsI k) (leadN k) (plT k (enN k ng xs p).1.s (enN k ng xs p).1.n (enN k ng xs p).1.e)) (plT k (enN k ng xs p).1.s (enN k ng xs p).1.n (enN k ng xs p).1.e).d) else ⟨#[]⟩
set_option maxHeartbeats 1600000 in
theorem encodeNumber_any (k : Nat) (hk : 1 ≤ k ∧ k ≤ 8) (ng : Bool) (ao : Option Addr) (ca : Nat) (xs : List Nat) (p : Int) (w : World) (hr : Rd w .u32 (.slice ao xs.length ca) xs) (sa : Dg.Small 4294967296 xs) (hc : chk xs = 0) (hT : Tab w) :
  Calls Tryz.prog 99 #[.agg (layV k).toArray, .agg #[.int .i64 2, .bool ng, .slice ao xs.length ca, .int .i64 p]] w fun z w' => z = .returned (.tuple #[.string (enS k ng xs p), .int .i64 (enE k ng xs p)]) ∧ Below w.heap.size w w' := by
 have key : ∀ er, enE k ng xs p = er → enS k ng xs p = if er = 0 then strOf (wrtB k (plT k (enN k ng xs p).1.s (enN k ng xs p).1.n (enN k ng xs p).1.e).s (heE (rdN k : Int) (lsI k) (leadN k) (plT k (enN k ng xs p).1.s (enN k ng xs p).1.n (enN k ng xs p).1.e)) (plT k (enN k ng xs p).1.s (enN k ng xs p).1.n (enN k ng xs p).1.e).d) else ⟨#[]⟩ := fun er h => by unfold enS; rw [h]
 by_cases hp : p < -20000 ∨ 20000 < p
 ·have hE : enE k ng xs p = 3 := if_pos hp
  rw [key 3 hE, hE, if_neg (by omega)]
  rcases hp with hp | hp
  ·rcases eight hk with rfl | rfl | rfl | rfl | rfl | rfl | rfl | rfl
   all_goals exact encNum_low _ _ _ _ _ _ _ _ _ 2 p ng ao xs.length ca w hp
  ·rcases eight hk with rfl | rfl | rfl | rfl | rfl | rfl | rfl | rfl
   all_goals exact encNum_high _ _ _ _ _ _ _ _ _ 2 p ng ao xs.length ca w hp
 ·have hp1 : -20000 ≤ p := by omega
  have hp2 : p ≤ 20000 := by omega
  by_cases hl : xs.length = 0
  ·have hE : enE k ng xs p = 4 := by unfold enE; rw [if_neg hp, if_pos hl]
   rw [key 4 hE, hE, if_neg (by omega)]
   rcases eight hk with rfl | rfl | rfl | rfl | rfl | rfl | rfl | rfl
   all_goals exact encNum_empty _ _ _ _ _ _ _ _ _ 2 p ng ao xs.length ca w hp1 hp2 hl
  ·have hnx : Dg.vl 4294967296 xs ≠ 0 := fun h => by
    obtain ⟨n1, -⟩ := chk_zero hc
    exact Dg.vl_ne_zero 4294967296 (by omega) xs (by intro e; subst e; simp at hl) n1 h
   have HN1 := fun w1 (b : Below w.heap.size w w1) => gNumber_any (rdN k : Int) (dgN k : Int) (lsI k) (gsI k) (decide (k ≤ 3)) ng ao ca xs p false false false w1 (hr.later b) sa (hT.later b)
   have hen : dbothR (placeC xs p (rdN k : Int) (dgN k : Int) (lsI k) (gsI k)) ⟨ng, Dg.vl 4294967296 xs, (widthN (rdN k : Int) : Int) * p⟩ = enN k ng xs p := rfl
   rw [hen] at HN1
   have hE : enE k ng xs p = if (enN k ng xs p).2 = 0 ∧ enH k (enN k ng xs p).1 = true then 0 else 4 := by unfold enE; rw [if_neg hp, if_neg hl]
   have hfact : (enN k ng xs p).2 = 0 → (enN k ng xs p).1.n ≠ 0 ∧ dchk (Dg.dg 4294967296 (enN k ng xs p).1.n) (enN k ng xs p).1.e = 0 := fun h => by
    have h2 := en_short (show dbothR (placeC xs p (rdN k : Int) (dgN k : Int) (lsI k) (gsI k)) ⟨ng, Dg.vl 4294967296 xs, (widthN (rdN k : Int) : Int) * p⟩ = ((enN k ng xs p).1, 0) from by rw [hen]; exact Prod.ext rfl h)
    obtain ⟨h3, h4⟩ := h2
    refine ⟨fun h5 => ?_, h4⟩
    rw [h3] at h5
    exact hnx ((bareN_nil ⟨ng, Dg.vl 4294967296 xs, (widthN (rdN k : Int) : Int) * p⟩).1 h5)
   clear hen
   generalize enN k ng xs p = r at *
   obtain ⟨t, er⟩ := r
   simp only at hE hfact key HN1 ⊢
   have HN : ∀ w1, Below w.heap.size w w1 → Calls Tryz.prog 154 #[.agg (layV k).toArray, .agg #[.int .i64 2, .bool ng, .slice ao xs.length ca, .int .i64 p]] w1 (DAns w1 (t, er)) := fun w1 b => by
    rcases eight hk with rfl | rfl | rfl | rfl | rfl | rfl | rfl | rfl
    all_goals exact lnumber_W _ _ _ _ _ _ _ _ _ 2 p ng ao xs.length ca (t, er) w1 (fun w2 b2 => HN1 w2 (below_trans b b2))
   by_cases her : er = 0
   ·obtain ⟨hn0, hdc⟩ := hfact her
    have sm := Dg.small_dg 4294967296 t.n (by omega)
    have HH := fun so sc w1 (b : Below w.heap.size w w1) (h : Rd w1 .u32 (.slice so (Dg.dg 4294967296 t.n).length sc) (Dg.dg 4294967296 t.n)) => gHolds_any (rdN k : Int) (dgN k : Int) (lsI k) (gsI k) (decide (k ≤ 3)) t.s so sc (Dg.dg 4294967296 t.n) t.e w1 h sm (hT.later b)
    have hgr : gridC (rdN k : Int) (dgN k : Int) (lsI k) (gsI k) = 0 := by
     rcases eight hk with rfl | rfl | rfl | rfl | rfl | rfl | rfl | rfl <;> decide
    have hon : onC (dchk (Dg.dg 4294967296 t.n) t.e) (gridC (rdN k : Int) (dgN k : Int) (lsI k) (gsI k)) = 0 := by unfold onC; rw [if_pos hdc]; exact hgr
    rw [hon] at HH
    by_cases hq : enH k t = true
    ·rw [if_pos ⟨her, hq⟩] at hE
     rw [key 0 hE, hE, if_pos rfl]
     have hq' : ansH (Dg.dg 4294967296 t.n) t.e (rdN k : Int) (dgN k : Int) (lsI k) (gsI k) (decide (k ≤ 3)) = true := hq
     have hheld : heldB (rdN k : Int) (dgN k : Int) (lsI k) (gsI k) (decide (k ≤ 3)) (Dg.vl 4294967296 (Dg.dg 4294967296 t.n)) t.e = true := by
      have h := hq'
      unfold ansH at h
      rw [if_pos hon] at h
      exact h
     have HE := fun so sc w1 (_b : Below w.heap.size w w1) (h : Rd w1 .u32 (.slice so (Dg.dg 4294967296 t.n).length sc) (Dg.dg 4294967296 t.n)) => encodeHeld_any k hk t.s so sc (Dg.dg 4294967296 t.n) t.e w1 h sm hdc (by rw [Dg.vl_dg 4294967296 t.n (by omega)]; exact hn0) hheld
     rw [Dg.vl_dg 4294967296 t.n (by omega)] at HE
     rw [hq'] at HH
     generalize strOf (wrtB k (plT k t.s t.n t.e).s (heE (rdN k : Int) (lsI k) (leadN k) (plT k t.s t.n t.e)) (plT k t.s t.n t.e).d) = st at *
     rcases eight hk with rfl | rfl | rfl | rfl | rfl | rfl | rfl | rfl
     all_goals exact encNum_held _ _ _ _ _ _ _ _ _ 2 p ng ao xs.length ca w t er HN true 0 HH st 0 HE hp1 hp2 (by omega) her rfl rfl
    ·have hqf : ansH (Dg.dg 4294967296 t.n) t.e (rdN k : Int) (dgN k : Int) (lsI k) (gsI k) (decide (k ≤ 3)) = false := by
      have : enH k t = false := by simpa using hq
      exact this
     rw [if_neg (fun h => hq h.2)] at hE
     rw [key 4 hE, hE, if_neg (by omega)]
     rw [hqf] at HH
     rcases eight hk with rfl | rfl | rfl | rfl | rfl | rfl | rfl | rfl
     all_goals exact encNum_off0 _ _ _ _ _ _ _ _ _ 2 p ng ao xs.length ca w t er HN false 0 HH hp1 hp2 (by omega) her rfl rfl
   ·rw [if_neg (fun h => her h.1)] at hE
    rw [key 4 hE, hE, if_neg (by omega)]
    rcases eight hk with rfl | rfl | rfl | rfl | rfl | rfl | rfl | rfl
    all_goals exact encNum_far _ _ _ _ _ _ _ _ _ 2 p ng ao xs.length ca w t er HN hp1 hp2 (by omega) her
end Go.Proofs.YtnhackdjplppjaaGreatDoor

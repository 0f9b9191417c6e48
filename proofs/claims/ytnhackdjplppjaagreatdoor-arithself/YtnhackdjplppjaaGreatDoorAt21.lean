/-
  Texts laid together: Ce6, Ce7.
-/
import Derived.Test.YtnhackdjplppjaaGreatDoorAt07
import Derived.Test.YtnhackdjplppjaaGreatDoorAt19
set_option maxRecDepth 100000
namespace Go.Proofs.YtnhackdjplppjaaGreatDoor
open Go.RowKit
set_option maxHeartbeats 6400000 in
theorem fieldsOf_hex (D L G fam : Int) (gr : Bool) (sz ex : Nat) (F : Nat) (s x1 x2 x3 : Bool) (ao : Option Addr) (dn dc : Nat) (pw : Int) (e f : Nat) (w : World) (hE : IntKind.i64.wrap (pw - L) = (e : Int)) (_he : e < 65536)
  (HWd : ∀ w1, Below w.heap.size w w1 → Calls Tryz.prog 226 #[.slice ao dn dc] w1 fun z w' => z = .returned (.int .u64 (f : Int)) ∧ w1 = w') :
  Calls Tryz.prog 204 #[.agg #[.int .i64 16, .int .i64 D, .int .i64 L, .int .i64 G, .bool gr, .int .i64 (sz : Int), .int .i64 (ex : Int), .int .i64 fam, .func (.func F) #[] #[]], .agg #[.bool s, .slice ao dn dc, .int .i64 pw, .bool x1, .bool x2, .bool x3]] w fun z w' => z = .returned (.agg #[.bool s, .int .i64 (e : Int), .int .u64 (f : Int)]) ∧ Below w.heap.size w w' := by
 have hsf := hsf_z
 have HWd' : Hid _ := HWd
 clear HWd
 have bp := below_alloc (w.alloc (.cells #[.int .i64 16, .int .i64 D, .int .i64 L, .int .i64 G, .bool gr, .int .i64 (sz : Int), .int .i64 (ex : Int), .int .i64 fam, .func (.func F) #[] #[]] 144)) (.cells #[.bool s, .slice ao dn dc, .int .i64 pw, .bool x1, .bool x2, .bool x3] 86)
 have bz := below_alloc ((w.alloc (.cells #[.int .i64 16, .int .i64 D, .int .i64 L, .int .i64 G, .bool gr, .int .i64 (sz : Int), .int .i64 (ex : Int), .int .i64 fam, .func (.func F) #[] #[]] 144)).alloc (.cells #[.bool s, .slice ao dn dc, .int .i64 pw, .bool x1, .bool x2, .bool x3] 86)) (.cells #[.bool false, .int .i64 0, .int .u64 0] 147)
 have ql0 := ((locE_new w [.int .i64 16, .int .i64 D, .int .i64 L, .int .i64 G, .bool gr, .int .i64 (sz : Int), .int .i64 (ex : Int), .int .i64 fam, .func (.func F) #[] #[]] 144).later bp).later bz
 have qp0 := (locE_new (w.alloc (.cells #[.int .i64 16, .int .i64 D, .int .i64 L, .int .i64 G, .bool gr, .int .i64 (sz : Int), .int .i64 (ex : Int), .int .i64 fam, .func (.func F) #[] #[]] 144)) [.bool s, .slice ao dn dc, .int .i64 pw, .bool x1, .bool x2, .bool x3] 86).later bz
 have qz0 := locE_new ((w.alloc (.cells #[.int .i64 16, .int .i64 D, .int .i64 L, .int .i64 G, .bool gr, .int .i64 (sz : Int), .int .i64 (ex : Int), .int .i64 fam, .func (.func F) #[] #[]] 144)).alloc (.cells #[.bool s, .slice ao dn dc, .int .i64 pw, .bool x1, .bool x2, .bool x3] 86)) [.bool false, .int .i64 0, .int .u64 0] 147
 have b0 := below_trans (below_trans (below_alloc w (.cells #[.int .i64 16, .int .i64 D, .int .i64 L, .int .i64 G, .bool gr, .int .i64 (sz : Int), .int .i64 (ex : Int), .int .i64 fam, .func (.func F) #[] #[]] 144)) bp) bz
 rw [World.size_alloc] at qp0
 rw [World.size_alloc, World.size_alloc] at qz0
 have ba := below_alloc (((w.alloc (.cells #[.int .i64 16, .int .i64 D, .int .i64 L, .int .i64 G, .bool gr, .int .i64 (sz : Int), .int .i64 (ex : Int), .int .i64 fam, .func (.func F) #[] #[]] 144)).alloc (.cells #[.bool s, .slice ao dn dc, .int .i64 pw, .bool x1, .bool x2, .bool x3] 86)).alloc (.cells #[.bool false, .int .i64 0, .int .u64 0] 147)) (.cells #[.bool false, .int .i64 0, .int .u64 0] 147)
 have b0d := b0.drew
 have b0a := (below_trans b0 ba).drew
 have ql0a := (ql0.later ba).drew
 have qp0a := (qp0.later ba).drew
 have ql0d := ql0.drew
 have qp0d := qp0.drew
 obtain ⟨cx0, cx1, cx2, cx3, cx4, cx5, cx6, cx7, cx8⟩ := ql0d.cs9
 obtain ⟨cu0, cu1, cu2, cu3, cu4, cu5⟩ := qp0d.cs6
 obtain ⟨cxa0, cxa1, cxa2, cxa3, cxa4, cxa5, cxa6, cxa7, cxa8⟩ := ql0a.cs9
 obtain ⟨cua0, cua1, cua2, cua3, cua4, cua5⟩ := qp0a.cs6
 have hn0 : w.heap.size + 1 + 1 + 1 ≠ w.heap.size := by omega
 have hn1 : w.heap.size + 1 + 1 + 1 ≠ w.heap.size + 1 := by omega
 go_enter Tryz.func204, Tryz.ntmps204
 go_wp2_with fail
 go_region_held3 (fun wq => (wq.cell? ⟨w.heap.size, 0, none⟩ = some (.int .i64 16) ∧ wq.cell? ⟨w.heap.size, 1, none⟩ = some (.int .i64 D) ∧ wq.cell? ⟨w.heap.size, 2, none⟩ = some (.int .i64 L) ∧ wq.cell? ⟨w.heap.size, 3, none⟩ = some (.int .i64 G) ∧ wq.cell? ⟨w.heap.size, 4, none⟩ = some (.bool gr) ∧ wq.cell? ⟨w.heap.size, 5, none⟩ = some (.int .i64 (sz : Int)) ∧ wq.cell? ⟨w.heap.size, 6, none⟩ = some (.int .i64 (ex : Int)) ∧ wq.cell? ⟨w.heap.size, 7, none⟩ = some (.int .i64 fam) ∧ wq.cell? ⟨w.heap.size, 8, none⟩ = some (.func (.func F) #[] #[])) ∧ (wq.cell? ⟨w.heap.size + 1, 0, none⟩ = some (.bool s) ∧ wq.cell? ⟨w.heap.size + 1, 1, none⟩ = some (.slice ao dn dc) ∧ wq.cell? ⟨w.heap.size + 1, 2, none⟩ = some (.int .i64 pw) ∧ wq.cell? ⟨w.heap.size + 1, 3, none⟩ = some (.bool x1) ∧ wq.cell? ⟨w.heap.size + 1, 4, none⟩ = some (.bool x2) ∧ wq.cell? ⟨w.heap.size + 1, 5, none⟩ = some (.bool x3))) (go_keep) (first
  | (go_at_call 226; (first | (with_reducible (refine (HWd'.out _ b0d).mono ?_)) | (with_reducible (refine (HWd'.out _ b0a).mono ?_))); rintro z wv ⟨rfl, rfl⟩))
 all_goals (
  have ba4 := below_alloc (((w.alloc (.cells #[.int .i64 16, .int .i64 D, .int .i64 L, .int .i64 G, .bool gr, .int .i64 (sz : Int), .int .i64 (ex : Int), .int .i64 fam, .func (.func F) #[] #[]] 144)).alloc (.cells #[.bool s, .slice ao dn dc, .int .i64 pw, .bool x1, .bool x2, .bool x3] 86)).alloc (.cells #[.bool false, .int .i64 0, .int .u64 0] 147)) (.cells #[.bool s, .int .i64 (e : Int), .int .u64 (f : Int)] 147)
  have ql4 := (ql0.later ba4).drew
  have qz4 := (qz0.later ba4).drew
  have qf4 := (locE_new (((w.alloc (.cells #[.int .i64 16, .int .i64 D, .int .i64 L, .int .i64 G, .bool gr, .int .i64 (sz : Int), .int .i64 (ex : Int), .int .i64 fam, .func (.func F) #[] #[]] 144)).alloc (.cells #[.bool s, .slice ao dn dc, .int .i64 pw, .bool x1, .bool x2, .bool x3] 86)).alloc (.cells #[.bool false, .int .i64 0, .int .u64 0] 147)) [.bool s, .int .i64 (e : Int), .int .u64 (f : Int)] 147).drew
  rw [World.size_alloc, World.size_alloc, World.size_alloc] at qf4
  have b4 := (below_trans b0 ba4).drew
  clear ba4 ba b0d b0a ql0a qp0a ql0d qp0d ql0 qp0 qz0 b0 cx0 cxa0 cx1 cxa1 cx2 cxa2 cx3 cxa3 cx4 cxa4 cx5 cxa5 cx6 cxa6 cx7 cxa7 cx8 cxa8 cu0 cua0 cu1 cua1 cu2 cua2 cu3 cua3 cu4 cua4 cu5 cua5
  generalize ((((w.alloc (.cells #[.int .i64 16, .int .i64 D, .int .i64 L, .int .i64 G, .bool gr, .int .i64 (sz : Int), .int .i64 (ex : Int), .int .i64 fam, .func (.func F) #[] #[]] 144)).alloc (.cells #[.bool s, .slice ao dn dc, .int .i64 pw, .bool x1, .bool x2, .bool x3] 86)).alloc (.cells #[.bool false, .int .i64 0, .int .u64 0] 147)).alloc (.cells #[.bool s, .int .i64 (e : Int), .int .u64 (f : Int)] 147)).drew = w4 at *
  have c0 := ql4.cell 0 rfl
  go_wp2_with fail
  go_quiet (fail)
  have bd : Below w4.heap.size w4 (w4.drewN nq) := below_drewN (Below.refl _ _) _
  have qz5 := qz4.later bd
  have qf5 := qf4.later bd
  have b5 := below_trans b4 bd
  clear c0 ql4 qz4 qf4 b4 bd
  generalize w4.drewN nq = w5 at *
  have bu := ((but_set w5 (w.heap.size + 1 + 1) 0 (.bool s)).trans (but_set _ (w.heap.size + 1 + 1) 1 (.int .i64 (e : Int)))).trans (but_set _ (w.heap.size + 1 + 1) 2 (.int .u64 (f : Int)))
  have cR : LocE (((w5.setCell ⟨w.heap.size + 1 + 1, 0, none⟩ (.bool s)).setCell ⟨w.heap.size + 1 + 1, 1, none⟩ (.int .i64 (e : Int))).setCell ⟨w.heap.size + 1 + 1, 2, none⟩ (.int .u64 (f : Int))) (w.heap.size + 1 + 1) 147 [.bool s, .int .i64 (e : Int), .int .u64 (f : Int)] := (((qz5.set 0 (.bool s)).set 1 (.int .i64 (e : Int))).set 2 (.int .u64 (f : Int)))
  have bR := bu.below b5 (by omega)
  have hl := run_loadVar_mid (P := Tryz.prog) _ (w.heap.size + 1 + 1) 0 147 [.bool s, .int .i64 (e : Int), .int .u64 (f : Int)] _ cR.range Tryz.underlying147 rfl (by kernel_rfl)
  have HH : Hid (_ ∧ _) := ⟨hl, bR⟩
  obtain ⟨yz0, yz1, yz2⟩ := qz5.cs3; have jz0 := qz5.free 0; have jz1 := qz5.free 1; have jz2 := qz5.free 2; obtain ⟨yf0, yf1, yf2⟩ := qf5.cs3
  clear hl bR cR bu
  go_wp2
  obtain ⟨hl, bR⟩ := HH.out
  exact bodyPost_ret (results_one Tryz.results204 rfl hl) rfl ⟨rfl, bR⟩
 )
set_option maxHeartbeats 6400000 in
theorem fieldsOf_set (D L G fam : Int) (gr : Bool) (sz ex : Nat) (F : Nat) (s x1 x2 x3 : Bool) (ao : Option Addr) (dn dc : Nat) (pw : Int) (e f : Nat) (w : World) (hE : IntKind.i64.wrap (pw - L) = (e : Int)) (he : e < 65536)
  (HWd : ∀ w1, Below w.heap.size w w1 → Calls Tryz.prog 226 #[.slice ao dn dc] w1 fun z w' => z = .returned (.int .u64 (f : Int)) ∧ w1 = w')
  (ld : Nat) (ab : Int) (hab : bits .and .u64 (f : Int) (ld : Int) = ab) (habz : ab ≠ 0)
  (HL : ∀ w1, Calls Tryz.prog 198 #[.agg #[.int .i64 2, .int .i64 D, .int .i64 L, .int .i64 G, .bool gr, .int .i64 (sz : Int), .int .i64 (ex : Int), .int .i64 fam, .func (.func F) #[] #[]]] w1 fun z w' => z = .returned (.int .u64 (ld : Int)) ∧ Below w1.heap.size w1 w') :
  Calls Tryz.prog 204 #[.agg #[.int .i64 2, .int .i64 D, .int .i64 L, .int .i64 G, .bool gr, .int .i64 (sz : Int), .int .i64 (ex : Int), .int .i64 fam, .func (.func F) #[] #[]], .agg #[.bool s, .slice ao dn dc, .int .i64 pw, .bool x1, .bool x2, .bool x3]] w fun z w' => z = .returned (.agg #[.bool s, .int .i64 ((e : Int) + 1), .int .u64 (f : Int)]) ∧ Below w.heap.size w w' := by
 have hsf := hsf_z
 have HWd' : Hid _ := HWd
 clear HWd
 have HL' : Hid _ := HL
 clear HL
 have hz1 : (ab == 0) = false := by simpa using habz
 have hz2 : (ab != 0) = true := by simpa using habz
 clear habz
 have bp := below_alloc (w.alloc (.cells #[.int .i64 2, .int .i64 D, .int .i64 L, .int .i64 G, .bool gr, .int .i64 (sz : Int), .int .i64 (ex : Int), .int .i64 fam, .func (.func F) #[] #[]] 144)) (.cells #[.bool s, .slice ao dn dc, .int .i64 pw, .bool x1, .bool x2, .bool x3] 86)
 have bz := below_alloc ((w.alloc (.cells #[.int .i64 2, .int .i64 D, .int .i64 L, .int .i64 G, .bool gr, .int .i64 (sz : Int), .int .i64 (ex : Int), .int .i64 fam, .func (.func F) #[] #[]] 144)).alloc (.cells #[.bool s, .slice ao dn dc, .int .i64 pw, .bool x1, .bool x2, .bool x3] 86)) (.cells #[.bool false, .int .i64 0, .int .u64 0] 147)
 have ql0 := ((locE_new w [.int .i64 2, .int .i64 D, .int .i64 L, .int .i64 G, .bool gr, .int .i64 (sz : Int), .int .i64 (ex : Int), .int .i64 fam, .func (.func F) #[] #[]] 144).later bp).later bz
 have qp0 := (locE_new (w.alloc (.cells #[.int .i64 2, .int .i64 D, .int .i64 L, .int .i64 G, .bool gr, .int .i64 (sz : Int), .int .i64 (ex : Int), .int .i64 fam, .func (.func F) #[] #[]] 144)) [.bool s, .slice ao dn dc, .int .i64 pw, .bool x1, .bool x2, .bool x3] 86).later bz
 have qz0 := locE_new ((w.alloc (.cells #[.int .i64 2, .int .i64 D, .int .i64 L, .int .i64 G, .bool gr, .int .i64 (sz : Int), .int .i64 (ex : Int), .int .i64 fam, .func (.func F) #[] #[]] 144)).alloc (.cells #[.bool s, .slice ao dn dc, .int .i64 pw, .bool x1, .bool x2, .bool x3] 86)) [.bool false, .int .i64 0, .int .u64 0] 147
 have b0 := below_trans (below_trans (below_alloc w (.cells #[.int .i64 2, .int .i64 D, .int .i64 L, .int .i64 G, .bool gr, .int .i64 (sz : Int), .int .i64 (ex : Int), .int .i64 fam, .func (.func F) #[] #[]] 144)) bp) bz
 rw [World.size_alloc] at qp0
 rw [World.size_alloc, World.size_alloc] at qz0
 have ba := below_alloc (((w.alloc (.cells #[.int .i64 2, .int .i64 D, .int .i64 L, .int .i64 G, .bool gr, .int .i64 (sz : Int), .int .i64 (ex : Int), .int .i64 fam, .func (.func F) #[] #[]] 144)).alloc (.cells #[.bool s, .slice ao dn dc, .int .i64 pw, .bool x1, .bool x2, .bool x3] 86)).alloc (.cells #[.bool false, .int .i64 0, .int .u64 0] 147)) (.cells #[.bool false, .int .i64 0, .int .u64 0] 147)
 have b0d := b0.drew
 have b0a := (below_trans b0 ba).drew
 have ql0a := (ql0.later ba).drew
 have qp0a := (qp0.later ba).drew
 have ql0d := ql0.drew
 have qp0d := qp0.drew
 obtain ⟨cx0, cx1, cx2, cx3, cx4, cx5, cx6, cx7, cx8⟩ := ql0d.cs9
 obtain ⟨cu0, cu1, cu2, cu3, cu4, cu5⟩ := qp0d.cs6
 obtain ⟨cxa0, cxa1, cxa2, cxa3, cxa4, cxa5, cxa6, cxa7, cxa8⟩ := ql0a.cs9
 obtain ⟨cua0, cua1, cua2, cua3, cua4, cua5⟩ := qp0a.cs6
 have hn0 : w.heap.size + 1 + 1 + 1 ≠ w.heap.size := by omega
 have hn1 : w.heap.size + 1 + 1 + 1 ≠ w.heap.size + 1 := by omega
 go_enter Tryz.func204, Tryz.ntmps204
 go_wp2_with fail
 go_region_held3 (fun wq => (wq.cell? ⟨w.heap.size, 0, none⟩ = some (.int .i64 2) ∧ wq.cell? ⟨w.heap.size, 1, none⟩ = some (.int .i64 D) ∧ wq.cell? ⟨w.heap.size, 2, none⟩ = some (.int .i64 L) ∧ wq.cell? ⟨w.heap.size, 3, none⟩ = some (.int .i64 G) ∧ wq.cell? ⟨w.heap.size, 4, none⟩ = some (.bool gr) ∧ wq.cell? ⟨w.heap.size, 5, none⟩ = some (.int .i64 (sz : Int)) ∧ wq.cell? ⟨w.heap.size, 6, none⟩ = some (.int .i64 (ex : Int)) ∧ wq.cell? ⟨w.heap.size, 7, none⟩ = some (.int .i64 fam) ∧ wq.cell? ⟨w.heap.size, 8, none⟩ = some (.func (.func F) #[] #[])) ∧ (wq.cell? ⟨w.heap.size + 1, 0, none⟩ = some (.bool s) ∧ wq.cell? ⟨w.heap.size + 1, 1, none⟩ = some (.slice ao dn dc) ∧ wq.cell? ⟨w.heap.size + 1, 2, none⟩ = some (.int .i64 pw) ∧ wq.cell? ⟨w.heap.size + 1, 3, none⟩ = some (.bool x1) ∧ wq.cell? ⟨w.heap.size + 1, 4, none⟩ = some (.bool x2) ∧ wq.cell? ⟨w.heap.size + 1, 5, none⟩ = some (.bool x3))) (go_keep) (first
  | (go_at_call 226; (first | (with_reducible (refine (HWd'.out _ b0d).mono ?_)) | (with_reducible (refine (HWd'.out _ b0a).mono ?_))); rintro z wv ⟨rfl, rfl⟩))
 all_goals (
  have ba4 := below_alloc (((w.alloc (.cells #[.int .i64 2, .int .i64 D, .int .i64 L, .int .i64 G, .bool gr, .int .i64 (sz : Int), .int .i64 (ex : Int), .int .i64 fam, .func (.func F) #[] #[]] 144)).alloc (.cells #[.bool s, .slice ao dn dc, .int .i64 pw, .bool x1, .bool x2, .bool x3] 86)).alloc (.cells #[.bool false, .int .i64 0, .int .u64 0] 147)) (.cells #[.bool s, .int .i64 (e : Int), .int .u64 (f : Int)] 147)
  have ql4 := (ql0.later ba4).drew
  have qz4 := (qz0.later ba4).drew
  have qf4 := (locE_new (((w.alloc (.cells #[.int .i64 2, .int .i64 D, .int .i64 L, .int .i64 G, .bool gr, .int .i64 (sz : Int), .int .i64 (ex : Int), .int .i64 fam, .func (.func F) #[] #[]] 144)).alloc (.cells #[.bool s, .slice ao dn dc, .int .i64 pw, .bool x1, .bool x2, .bool x3] 86)).alloc (.cells #[.bool false, .int .i64 0, .int .u64 0] 147)) [.bool s, .int .i64 (e : Int), .int .u64 (f : Int)] 147).drew
  rw [World.size_alloc, World.size_alloc, World.size_alloc] at qf4
  have b4 := (below_trans b0 ba4).drew
  clear ba4 ba b0d b0a ql0a qp0a ql0d qp0d ql0 qp0 qz0 b0 cx0 cxa0 cx1 cxa1 cx2 cxa2 cx3 cxa3 cx4 cxa4 cx5 cxa5 cx6 cxa6 cx7 cxa7 cx8 cxa8 cu0 cua0 cu1 cua1 cu2 cua2 cu3 cua3 cu4 cua4 cu5 cua5
  generalize ((((w.alloc (.cells #[.int .i64 2, .int .i64 D, .int .i64 L, .int .i64 G, .bool gr, .int .i64 (sz : Int), .int .i64 (ex : Int), .int .i64 fam, .func (.func F) #[] #[]] 144)).alloc (.cells #[.bool s, .slice ao dn dc, .int .i64 pw, .bool x1, .bool x2, .bool x3] 86)).alloc (.cells #[.bool false, .int .i64 0, .int .u64 0] 147)).alloc (.cells #[.bool s, .int .i64 (e : Int), .int .u64 (f : Int)] 147)).drew = w4 at *
  have ql4d := ql4.drew
  have qf4d := qf4.drew
  have qz4d := qz4.drew
  have b4d := b4.drew
  obtain ⟨cl0, cl1, cl2, cl3, cl4, cl5, cl6, cl7, cl8⟩ := ql4d.cs9
  obtain ⟨cf0, cf1, cf2⟩ := qf4d.cs3
  go_wp2_with fail
  go_region_held3 (fun wq => (wq.cell? ⟨w.heap.size, 0, none⟩ = some (.int .i64 2) ∧ wq.cell? ⟨w.heap.size, 1, none⟩ = some (.int .i64 D) ∧ wq.cell? ⟨w.heap.size, 2, none⟩ = some (.int .i64 L) ∧ wq.cell? ⟨w.heap.size, 3, none⟩ = some (.int .i64 G) ∧ wq.cell? ⟨w.heap.size, 4, none⟩ = some (.bool gr) ∧ wq.cell? ⟨w.heap.size, 5, none⟩ = some (.int .i64 (sz : Int)) ∧ wq.cell? ⟨w.heap.size, 6, none⟩ = some (.int .i64 (ex : Int)) ∧ wq.cell? ⟨w.heap.size, 7, none⟩ = some (.int .i64 fam) ∧ wq.cell? ⟨w.heap.size, 8, none⟩ = some (.func (.func F) #[] #[])) ∧ (wq.cell? ⟨w.heap.size + 1 + 1 + 1, 0, none⟩ = some (.bool s) ∧ wq.cell? ⟨w.heap.size + 1 + 1 + 1, 1, none⟩ = some (.int .i64 (e : Int)) ∧ wq.cell? ⟨w.heap.size + 1 + 1 + 1, 2, none⟩ = some (.int .u64 (f : Int)))) (go_keep) (first
   | (go_at_call 198; refine (HL'.out _).mono ?_; rintro z w5 ⟨rfl, b5'⟩; have ql5 := ql4d.later b5'; have qf5 := qf4d.later b5'; have qz5 := qz4d.later b5'; have b5 := below_trans b4d b5'; obtain ⟨dl0, dl1, dl2, dl3, dl4, dl5, dl6, dl7, dl8⟩ := ql5.cs9; obtain ⟨df0, df1, df2⟩ := qf5.cs3))
  clear ql4 ql4d qf4 qf4d qz4 qz4d b4 b4d b5' cl0 cl1 cl2 cl3 cl4 cl5 cl6 cl7 cl8 cf0 cf1 cf2
  have jf1 := qf5.free 1
  have hew : IntKind.i64.wrap ((e : Int) + 1) = (e : Int) + 1 := IntWalk.i64_in _ ⟨by omega, by omega⟩
  go_upto_region 4 with fail
  have hfz : w.heap.size + 1 + 1 + 1 ≠ w.heap.size + 1 + 1 := by omega
  have bu6 := but_set w5 (w.heap.size + 1 + 1 + 1) 1 (.int .i64 ((e : Int) + 1))
  have qf6 : LocE (w5.setCell ⟨w.heap.size + 1 + 1 + 1, 1, none⟩ (.int .i64 ((e : Int) + 1))) (w.heap.size + 1 + 1 + 1) 147 [.bool s, .int .i64 ((e : Int) + 1), .int .u64 (f : Int)] := qf5.set 1 (.int .i64 ((e : Int) + 1))
  have qz6 := qz5.off hfz 1 (.int .i64 ((e : Int) + 1))
  have b6 := bu6.below b5 (by omega)
  clear bu6 qf5 qz5 b5 ql5 df0 df1 df2 jf1
  generalize (w5.setCell ⟨w.heap.size + 1 + 1 + 1, 1, none⟩ (.int .i64 ((e : Int) + 1))) = w6 at *
  have bu := ((but_set w6 (w.heap.size + 1 + 1) 0 (.bool s)).trans (but_set _ (w.heap.size + 1 + 1) 1 (.int .i64 ((e : Int) + 1)))).trans (but_set _ (w.heap.size + 1 + 1) 2 (.int .u64 (f : Int)))
  have cR : LocE (((w6.setCell ⟨w.heap.size + 1 + 1, 0, none⟩ (.bool s)).setCell ⟨w.heap.size + 1 + 1, 1, none⟩ (.int .i64 ((e : Int) + 1))).setCell ⟨w.heap.size + 1 + 1, 2, none⟩ (.int .u64 (f : Int))) (w.heap.size + 1 + 1) 147 [.bool s, .int .i64 ((e : Int) + 1), .int .u64 (f : Int)] := (((qz6.set 0 (.bool s)).set 1 (.int .i64 ((e : Int) + 1))).set 2 (.int .u64 (f : Int)))
  have bR := bu.below b6 (by omega)
  have hl := run_loadVar_mid (P := Tryz.prog) _ (w.heap.size + 1 + 1) 0 147 [.bool s, .int .i64 ((e : Int) + 1), .int .u64 (f : Int)] _ cR.range Tryz.underlying147 rfl (by kernel_rfl)
  have HH : Hid (_ ∧ _) := ⟨hl, bR⟩
  obtain ⟨yz0, yz1, yz2⟩ := qz6.cs3; have jz0 := qz6.free 0; have jz1 := qz6.free 1; have jz2 := qz6.free 2; obtain ⟨yf0, yf1, yf2⟩ := qf6.cs3
  clear hl bR cR bu
  go_wp2
  obtain ⟨hl, bR⟩ := HH.out
  exact bodyPost_ret (results_one Tryz.results204 rfl hl) rfl ⟨rfl, bR⟩
 )
set_option maxHeartbeats 6400000 in
theorem fieldsOf_low (D L G fam : Int) (gr : Bool) (sz ex : Nat) (F : Nat) (s x1 x2 x3 : Bool) (ao : Option Addr) (dn dc : Nat) (pw : Int) (e f : Nat) (w : World) (hE : IntKind.i64.wrap (pw - L) = (e : Int)) (_he : e < 65536)
  (HWd : ∀ w1, Below w.heap.size w w1 → Calls Tryz.prog 226 #[.slice ao dn dc] w1 fun z w' => z = .returned (.int .u64 (f : Int)) ∧ w1 = w')
  (ld : Nat) (ab : Int) (hab : bits .and .u64 (f : Int) (ld : Int) = ab) (habz : ab = 0)
  (HL : ∀ w1, Calls Tryz.prog 198 #[.agg #[.int .i64 2, .int .i64 D, .int .i64 L, .int .i64 G, .bool gr, .int .i64 (sz : Int), .int .i64 (ex : Int), .int .i64 fam, .func (.func F) #[] #[]]] w1 fun z w' => z = .returned (.int .u64 (ld : Int)) ∧ Below w1.heap.size w1 w') :
  Calls Tryz.prog 204 #[.agg #[.int .i64 2, .int .i64 D, .int .i64 L, .int .i64 G, .bool gr, .int .i64 (sz : Int), .int .i64 (ex : Int), .int .i64 fam, .func (.func F) #[] #[]], .agg #[.bool s, .slice ao dn dc, .int .i64 pw, .bool x1, .bool x2, .bool x3]] w fun z w' => z = .returned (.agg #[.bool s, .int .i64 (e : Int), .int .u64 (f : Int)]) ∧ Below w.heap.size w w' := by
 have hsf := hsf_z
 have HWd' : Hid _ := HWd
 clear HWd
 have HL' : Hid _ := HL
 clear HL
 subst habz
 have bp := below_alloc (w.alloc (.cells #[.int .i64 2, .int .i64 D, .int .i64 L, .int .i64 G, .bool gr, .int .i64 (sz : Int), .int .i64 (ex : Int), .int .i64 fam, .func (.func F) #[] #[]] 144)) (.cells #[.bool s, .slice ao dn dc, .int .i64 pw, .bool x1, .bool x2, .bool x3] 86)
 have bz := below_alloc ((w.alloc (.cells #[.int .i64 2, .int .i64 D, .int .i64 L, .int .i64 G, .bool gr, .int .i64 (sz : Int), .int .i64 (ex : Int), .int .i64 fam, .func (.func F) #[] #[]] 144)).alloc (.cells #[.bool s, .slice ao dn dc, .int .i64 pw, .bool x1, .bool x2, .bool x3] 86)) (.cells #[.bool false, .int .i64 0, .int .u64 0] 147)
 have ql0 := ((locE_new w [.int .i64 2, .int .i64 D, .int .i64 L, .int .i64 G, .bool gr, .int .i64 (sz : Int), .int .i64 (ex : Int), .int .i64 fam, .func (.func F) #[] #[]] 144).later bp).later bz
 have qp0 := (locE_new (w.alloc (.cells #[.int .i64 2, .int .i64 D, .int .i64 L, .int .i64 G, .bool gr, .int .i64 (sz : Int), .int .i64 (ex : Int), .int .i64 fam, .func (.func F) #[] #[]] 144)) [.bool s, .slice ao dn dc, .int .i64 pw, .bool x1, .bool x2, .bool x3] 86).later bz
 have qz0 := locE_new ((w.alloc (.cells #[.int .i64 2, .int .i64 D, .int .i64 L, .int .i64 G, .bool gr, .int .i64 (sz : Int), .int .i64 (ex : Int), .int .i64 fam, .func (.func F) #[] #[]] 144)).alloc (.cells #[.bool s, .slice ao dn dc, .int .i64 pw, .bool x1, .bool x2, .bool x3] 86)) [.bool false, .int .i64 0, .int .u64 0] 147
 have b0 := below_trans (below_trans (below_alloc w (.cells #[.int .i64 2, .int .i64 D, .int .i64 L, .int .i64 G, .bool gr, .int .i64 (sz : Int), .int .i64 (ex : Int), .int .i64 fam, .func (.func F) #[] #[]] 144)) bp) bz
 rw [World.size_alloc] at qp0
 rw [World.size_alloc, World.size_alloc] at qz0
 have ba := below_alloc (((w.alloc (.cells #[.int .i64 2, .int .i64 D, .int .i64 L, .int .i64 G, .bool gr, .int .i64 (sz : Int), .int .i64 (ex : Int), .int .i64 fam, .func (.func F) #[] #[]] 144)).alloc (.cells #[.bool s, .slice ao dn dc, .int .i64 pw, .bool x1, .bool x2, .bool x3] 86)).alloc (.cells #[.bool false, .int .i64 0, .int .u64 0] 147)) (.cells #[.bool false, .int .i64 0, .int .u64 0] 147)
 have b0d := b0.drew
 have b0a := (below_trans b0 ba).drew
 have ql0a := (ql0.later ba).drew
 have qp0a := (qp0.later ba).drew
 have ql0d := ql0.drew
 have qp0d := qp0.drew
 obtain ⟨cx0, cx1, cx2, cx3, cx4, cx5, cx6, cx7, cx8⟩ := ql0d.cs9
 obtain ⟨cu0, cu1, cu2, cu3, cu4, cu5⟩ := qp0d.cs6
 obtain ⟨cxa0, cxa1, cxa2, cxa3, cxa4, cxa5, cxa6, cxa7, cxa8⟩ := ql0a.cs9
 obtain ⟨cua0, cua1, cua2, cua3, cua4, cua5⟩ := qp0a.cs6
 have hn0 : w.heap.size + 1 + 1 + 1 ≠ w.heap.size := by omega
 have hn1 : w.heap.size + 1 + 1 + 1 ≠ w.heap.size + 1 := by omega
 go_enter Tryz.func204, Tryz.ntmps204
 go_wp2_with fail
 go_region_held3 (fun wq => (wq.cell? ⟨w.heap.size, 0, none⟩ = some (.int .i64 2) ∧ wq.cell? ⟨w.heap.size, 1, none⟩ = some (.int .i64 D) ∧ wq.cell? ⟨w.heap.size, 2, none⟩ = some (.int .i64 L) ∧ wq.cell? ⟨w.heap.size, 3, none⟩ = some (.int .i64 G) ∧ wq.cell? ⟨w.heap.size, 4, none⟩ = some (.bool gr) ∧ wq.cell? ⟨w.heap.size, 5, none⟩ = some (.int .i64 (sz : Int)) ∧ wq.cell? ⟨w.heap.size, 6, none⟩ = some (.int .i64 (ex : Int)) ∧ wq.cell? ⟨w.heap.size, 7, none⟩ = some (.int .i64 fam) ∧ wq.cell? ⟨w.heap.size, 8, none⟩ = some (.func (.func F) #[] #[])) ∧ (wq.cell? ⟨w.heap.size + 1, 0, none⟩ = some (.bool s) ∧ wq.cell? ⟨w.heap.size + 1, 1, none⟩ = some (.slice ao dn dc) ∧ wq.cell? ⟨w.heap.size + 1, 2, none⟩ = some (.int .i64 pw) ∧ wq.cell? ⟨w.heap.size + 1, 3, none⟩ = some (.bool x1) ∧ wq.cell? ⟨w.heap.size + 1, 4, none⟩ = some (.bool x2) ∧ wq.cell? ⟨w.heap.size + 1, 5, none⟩ = some (.bool x3))) (go_keep) (first
  | (go_at_call 226; (first | (with_reducible (refine (HWd'.out _ b0d).mono ?_)) | (with_reducible (refine (HWd'.out _ b0a).mono ?_))); rintro z wv ⟨rfl, rfl⟩))
 all_goals (
  have ba4 := below_alloc (((w.alloc (.cells #[.int .i64 2, .int .i64 D, .int .i64 L, .int .i64 G, .bool gr, .int .i64 (sz : Int), .int .i64 (ex : Int), .int .i64 fam, .func (.func F) #[] #[]] 144)).alloc (.cells #[.bool s, .slice ao dn dc, .int .i64 pw, .bool x1, .bool x2, .bool x3] 86)).alloc (.cells #[.bool false, .int .i64 0, .int .u64 0] 147)) (.cells #[.bool s, .int .i64 (e : Int), .int .u64 (f : Int)] 147)
  have ql4 := (ql0.later ba4).drew
  have qz4 := (qz0.later ba4).drew
  have qf4 := (locE_new (((w.alloc (.cells #[.int .i64 2, .int .i64 D, .int .i64 L, .int .i64 G, .bool gr, .int .i64 (sz : Int), .int .i64 (ex : Int), .int .i64 fam, .func (.func F) #[] #[]] 144)).alloc (.cells #[.bool s, .slice ao dn dc, .int .i64 pw, .bool x1, .bool x2, .bool x3] 86)).alloc (.cells #[.bool false, .int .i64 0, .int .u64 0] 147)) [.bool s, .int .i64 (e : Int), .int .u64 (f : Int)] 147).drew
  rw [World.size_alloc, World.size_alloc, World.size_alloc] at qf4
  have b4 := (below_trans b0 ba4).drew
  clear ba4 ba b0d b0a ql0a qp0a ql0d qp0d ql0 qp0 qz0 b0 cx0 cxa0 cx1 cxa1 cx2 cxa2 cx3 cxa3 cx4 cxa4 cx5 cxa5 cx6 cxa6 cx7 cxa7 cx8 cxa8 cu0 cua0 cu1 cua1 cu2 cua2 cu3 cua3 cu4 cua4 cu5 cua5
  generalize ((((w.alloc (.cells #[.int .i64 2, .int .i64 D, .int .i64 L, .int .i64 G, .bool gr, .int .i64 (sz : Int), .int .i64 (ex : Int), .int .i64 fam, .func (.func F) #[] #[]] 144)).alloc (.cells #[.bool s, .slice ao dn dc, .int .i64 pw, .bool x1, .bool x2, .bool x3] 86)).alloc (.cells #[.bool false, .int .i64 0, .int .u64 0] 147)).alloc (.cells #[.bool s, .int .i64 (e : Int), .int .u64 (f : Int)] 147)).drew = w4 at *
  have ql4d := ql4.drew
  have qf4d := qf4.drew
  have qz4d := qz4.drew
  have b4d := b4.drew
  obtain ⟨cl0, cl1, cl2, cl3, cl4, cl5, cl6, cl7, cl8⟩ := ql4d.cs9
  obtain ⟨cf0, cf1, cf2⟩ := qf4d.cs3
  go_wp2_with fail
  go_region_held3 (fun wq => (wq.cell? ⟨w.heap.size, 0, none⟩ = some (.int .i64 2) ∧ wq.cell? ⟨w.heap.size, 1, none⟩ = some (.int .i64 D) ∧ wq.cell? ⟨w.heap.size, 2, none⟩ = some (.int .i64 L) ∧ wq.cell? ⟨w.heap.size, 3, none⟩ = some (.int .i64 G) ∧ wq.cell? ⟨w.heap.size, 4, none⟩ = some (.bool gr) ∧ wq.cell? ⟨w.heap.size, 5, none⟩ = some (.int .i64 (sz : Int)) ∧ wq.cell? ⟨w.heap.size, 6, none⟩ = some (.int .i64 (ex : Int)) ∧ wq.cell? ⟨w.heap.size, 7, none⟩ = some (.int .i64 fam) ∧ wq.cell? ⟨w.heap.size, 8, none⟩ = some (.func (.func F) #[] #[])) ∧ (wq.cell? ⟨w.heap.size + 1 + 1 + 1, 0, none⟩ = some (.bool s) ∧ wq.cell? ⟨w.heap.size + 1 + 1 + 1, 1, none⟩ = some (.int .i64 (e : Int)) ∧ wq.cell? ⟨w.heap.size + 1 + 1 + 1, 2, none⟩ = some (.int .u64 (f : Int)))) (go_keep) (first
   | (go_at_call 198; refine (HL'.out _).mono ?_; rintro z w5 ⟨rfl, b5'⟩; have ql5 := ql4d.later b5'; have qf5 := qf4d.later b5'; have qz5 := qz4d.later b5'; have b5 := below_trans b4d b5'; obtain ⟨dl0, dl1, dl2, dl3, dl4, dl5, dl6, dl7, dl8⟩ := ql5.cs9; obtain ⟨df0, df1, df2⟩ := qf5.cs3))
  clear ql4 ql4d qf4 qf4d qz4 qz4d b4 b4d b5' cl0 cl1 cl2 cl3 cl4 cl5 cl6 cl7 cl8 cf0 cf1 cf2
  have bu := ((but_set w5 (w.heap.size + 1 + 1) 0 (.bool s)).trans (but_set _ (w.heap.size + 1 + 1) 1 (.int .i64 (e : Int)))).trans (but_set _ (w.heap.size + 1 + 1) 2 (.int .u64 (f : Int)))
  have cR : LocE (((w5.setCell ⟨w.heap.size + 1 + 1, 0, none⟩ (.bool s)).setCell ⟨w.heap.size + 1 + 1, 1, none⟩ (.int .i64 (e : Int))).setCell ⟨w.heap.size + 1 + 1, 2, none⟩ (.int .u64 (f : Int))) (w.heap.size + 1 + 1) 147 [.bool s, .int .i64 (e : Int), .int .u64 (f : Int)] := (((qz5.set 0 (.bool s)).set 1 (.int .i64 (e : Int))).set 2 (.int .u64 (f : Int)))
  have bR := bu.below b5 (by omega)
  have hl := run_loadVar_mid (P := Tryz.prog) _ (w.heap.size + 1 + 1) 0 147 [.bool s, .int .i64 (e : Int), .int .u64 (f : Int)] _ cR.range Tryz.underlying147 rfl (by kernel_rfl)
  have HH : Hid (_ ∧ _) := ⟨hl, bR⟩
  obtain ⟨yz0, yz1, yz2⟩ := qz5.cs3; have jz0 := qz5.free 0; have jz1 := qz5.free 1; have jz2 := qz5.free 2; obtain ⟨yf0, yf1, yf2⟩ := qf5.cs3
  clear hl bR cR bu
  go_wp2
  obtain ⟨hl, bR⟩ := HH.out
  exact bodyPost_ret (results_one Tryz.results204 rfl hl) rfl ⟨rfl, bR⟩
 )
end Go.Proofs.YtnhackdjplppjaaGreatDoor
namespace Go.Proofs.YtnhackdjplppjaaGreatDoor
open Go.RowKit
set_option maxHeartbeats 6400000 in
theorem heldW_num (R D L G fam : Int) (gr : Bool) (sz ex : Nat) (F : Nat) (s : Bool) (ao : Option Addr) (dn dc : Nat) (e : Int) (w : World) (zs : List Nat) (pn : Nat) (ps k1 k2 k3 : Bool) (pw er : Int)
  (HR : ∀ q w1, Below w.heap.size w w1 → w1.cell? ⟨q, 0, none⟩ = some (.int .u32 1) → Calls Tryz.prog 86 #[.agg #[.bool s, .slice ao dn dc, .slice (some ⟨q, 0, none⟩) 1 1, .int .i64 e], .agg #[.int .i64 R, .int .i64 D, .int .i64 L, .int .i64 G, .bool gr], .int .i64 3] w1 fun z w' => ∃ po pc, z = .returned (.tuple #[.agg #[.bool ps, .slice po pn pc, .int .i64 pw, .bool k1, .bool k2, .bool k3], .int .i64 er]) ∧ Rd w' .u32 (.slice po pn pc) zs ∧ Below w1.heap.size w1 w')
  (fs : Bool) (fe ff : Nat) (HF : ∀ po pc w1, Below w.heap.size w w1 → Rd w1 .u32 (.slice po pn pc) zs → Calls Tryz.prog 204 #[.agg #[.int .i64 R, .int .i64 D, .int .i64 L, .int .i64 G, .bool gr, .int .i64 (sz : Int), .int .i64 (ex : Int), .int .i64 fam, .func (.func F) #[] #[]], .agg #[.bool ps, .slice po pn pc, .int .i64 pw, .bool k1, .bool k2, .bool k3]] w1 fun z w' => z = .returned (.agg #[.bool fs, .int .i64 (fe : Int), .int .u64 (ff : Int)]) ∧ Below w1.heap.size w1 w')
  (st : ByteArray) (HW : ∀ w1, Calls Tryz.prog 158 #[.agg #[.int .i64 R, .int .i64 D, .int .i64 L, .int .i64 G, .bool gr, .int .i64 (sz : Int), .int .i64 (ex : Int), .int .i64 fam, .func (.func F) #[] #[]], .agg #[.bool fs, .int .i64 (fe : Int), .int .u64 (ff : Int)]] w1 fun z w' => z = .returned (.string st) ∧ Below w1.heap.size w1 w') (he : er = 0) (hp : 0 < pn) :
  Calls Tryz.prog 155 #[.agg #[.int .i64 R, .int .i64 D, .int .i64 L, .int .i64 G, .bool gr, .int .i64 (sz : Int), .int .i64 (ex : Int), .int .i64 fam, .func (.func F) #[] #[]], .agg #[.bool s, .slice ao dn dc, .int .i64 e]] w fun z w' => z = .returned (.tuple #[.string st, .int .i64 0]) ∧ Below w.heap.size w w' := by
 subst he
 have HF' : Hid _ := HF
 clear HF
 have HW' : Hid _ := HW
 clear HW
 have hpb : ((pn : Int) == 0) = false := by simp; omega
 have hsf := hsf_z
 have HR' : Hid _ := HR
 clear HR
 have bd := below_alloc (w.alloc (.cells #[.int .i64 R, .int .i64 D, .int .i64 L, .int .i64 G, .bool gr, .int .i64 (sz : Int), .int .i64 (ex : Int), .int .i64 fam, .func (.func F) #[] #[]] 144)) (.cells #[.bool s, .slice ao dn dc, .int .i64 e] 82)
 have bo := below_alloc ((w.alloc (.cells #[.int .i64 R, .int .i64 D, .int .i64 L, .int .i64 G, .bool gr, .int .i64 (sz : Int), .int .i64 (ex : Int), .int .i64 fam, .func (.func F) #[] #[]] 144)).alloc (.cells #[.bool s, .slice ao dn dc, .int .i64 e] 82)) (.cells #[.int .u32 1] 141)
 have l0 := ((locE_new w [.int .i64 R, .int .i64 D, .int .i64 L, .int .i64 G, .bool gr, .int .i64 (sz : Int), .int .i64 (ex : Int), .int .i64 fam, .func (.func F) #[] #[]] 144).later bd).later bo
 have o0 := locE_new ((w.alloc (.cells #[.int .i64 R, .int .i64 D, .int .i64 L, .int .i64 G, .bool gr, .int .i64 (sz : Int), .int .i64 (ex : Int), .int .i64 fam, .func (.func F) #[] #[]] 144)).alloc (.cells #[.bool s, .slice ao dn dc, .int .i64 e] 82)) [.int .u32 1] 141
 have b0 := below_trans (below_trans (below_alloc w (.cells #[.int .i64 R, .int .i64 D, .int .i64 L, .int .i64 G, .bool gr, .int .i64 (sz : Int), .int .i64 (ex : Int), .int .i64 fam, .func (.func F) #[] #[]] 144)) bd) bo
 rw [World.size_alloc, World.size_alloc] at o0
 clear bd bo
 go_enter Tryz.func155, Tryz.ntmps155
 go_wp2_with fail
 refine (HR'.out _ _ b0 (o0.cell 0 rfl)).mono ?_
 rintro z w1 ⟨po, pc, rfl, rp, b1⟩
 have bq := below_alloc w1 (.cells #[.bool ps, .slice po pn pc, .int .i64 pw, .bool k1, .bool k2, .bool k3] 86)
 have l1 := (l0.later b1).later bq
 have q1 := locE_new w1 [.bool ps, .slice po pn pc, .int .i64 pw, .bool k1, .bool k2, .bool k3] 86
 have rp1 := rp.later bq
 have b01 := below_trans (below_trans b0 b1) bq
 clear l0 o0 b0 b1 bq rp HR'
 obtain ⟨x0, x1, x2, x3, x4, x5, x6, x7, x8⟩ := l1.cs9
 obtain ⟨u0, u1, u2, u3, u4, u5⟩ := q1.cs6
 have l1d := l1.drew
 have q1d := q1.drew
 have rp1d := rp1.later (Below.refl _ _).drew
 have b01d := b01.drew
 obtain ⟨xd0, xd1, xd2, xd3, xd4, xd5, xd6, xd7, xd8⟩ := l1d.cs9
 obtain ⟨ud0, ud1, ud2, ud3, ud4, ud5⟩ := q1d.cs6
 go_wp2_with fail
 go_region_held3 (fun wq => (wq.cell? ⟨w.heap.size, 0, none⟩ = some (.int .i64 R) ∧ wq.cell? ⟨w.heap.size, 1, none⟩ = some (.int .i64 D) ∧ wq.cell? ⟨w.heap.size, 2, none⟩ = some (.int .i64 L) ∧ wq.cell? ⟨w.heap.size, 3, none⟩ = some (.int .i64 G) ∧ wq.cell? ⟨w.heap.size, 4, none⟩ = some (.bool gr) ∧ wq.cell? ⟨w.heap.size, 5, none⟩ = some (.int .i64 (sz : Int)) ∧ wq.cell? ⟨w.heap.size, 6, none⟩ = some (.int .i64 (ex : Int)) ∧ wq.cell? ⟨w.heap.size, 7, none⟩ = some (.int .i64 fam) ∧ wq.cell? ⟨w.heap.size, 8, none⟩ = some (.func (.func F) #[] #[])) ∧ (wq.cell? ⟨w1.heap.size, 0, none⟩ = some (.bool ps) ∧ wq.cell? ⟨w1.heap.size, 1, none⟩ = some (.slice po pn pc) ∧ wq.cell? ⟨w1.heap.size, 2, none⟩ = some (.int .i64 pw) ∧ wq.cell? ⟨w1.heap.size, 3, none⟩ = some (.bool k1) ∧ wq.cell? ⟨w1.heap.size, 4, none⟩ = some (.bool k2) ∧ wq.cell? ⟨w1.heap.size, 5, none⟩ = some (.bool k3))) (go_keep) (first
  | (go_at_call 204; refine (HF'.out _ _ _ b01d rp1d).mono ?_; rintro z w2 ⟨rfl, b2⟩; have l2 := l1d.later b2; have q2 := q1d.later b2; have b02 := below_trans b01d b2; obtain ⟨y0, y1, y2, y3, y4, y5, y6, y7, y8⟩ := l2.cs9; obtain ⟨v0, v1, v2, v3, v4, v5⟩ := q2.cs6)
  | (go_at_call 158; refine (HW'.out _).mono ?_; rintro z w3 ⟨rfl, b3⟩; have l3 := l2.later b3; have q3 := q2.later b3; have b03 := below_trans b02 b3; obtain ⟨t0, t1, t2, t3, t4, t5, t6, t7, t8⟩ := l3.cs9; obtain ⟨g0, g1, g2, g3, g4, g5⟩ := q3.cs6))
 all_goals go_wp2
 all_goals go_ret2
 all_goals exact ⟨rfl, b03⟩
end Go.Proofs.YtnhackdjplppjaaGreatDoor

/-
  Texts laid together: Co19.
-/
import Derived.Test.YtnhackdjplppjaaGreatDoorAt17
set_option maxRecDepth 100000
namespace Go.Proofs.YtnhackdjplppjaaGreatDoor
open Go.RowKit
theorem setB_len (f : Nat) : ∀ (c x : Nat) (zs : List Nat), (setB f c x zs).length = zs.length
 | 0, _, _ => rfl
 | c + 1, x, zs => by rw [setB, setB_len f c]; exact List.length_set
theorem setB_small (f : Nat) : ∀ (c x : Nat) (zs : List Nat), Dg.Small 256 zs → Dg.Small 256 (setB f c x zs)
 | 0, _, _, h => h
 | c + 1, x, zs, h => by
  rw [setB]
  exact setB_small f c _ _ (set_small h _ _ (Nat.or_lt_two_pow (n := 8) (h _) (bit_at_lt _ _)))
theorem convert_brow {P : Program} {w : World} {e g cap : Nat} {zs : List Nat} (src dst : TypeId) (hs : P.underlying src = some (.slice e)) (he : P.underlying e = some (.int .u8)) (hd : P.underlying dst = some .string)
  (h : BRow w g zs) : (convert src dst (.slice (some ⟨g, 0, none⟩) zs.length cap)).run P w = .ok (.string (strOf zs)) w := by
 rw [run_convert_bytes_string w src dst e _ _ _ hs he hd]
 have hl := run_loadCells_list (P := P) w ⟨g, 0, none⟩ (zs.map (fun n : Nat => Value.int .u8 (n : Int))) (by
  intro j u hj
  have hjl : j < zs.length := by have := (List.getElem?_eq_some_iff.1 hj).1; simpa using this
  rw [getD_map_cell _ zs j hjl] at hj
  rw [addr_add, Nat.zero_add, h.cell j hjl]; exact hj)
 rw [List.length_map] at hl
 have := run_bytesToString (P := P) w ⟨g, 0, none⟩ zs.length cap (zs.map (fun n : Nat => (n : Int))) (by
  rw [hl]; simp)
 rw [this, fold_push]
 simp [strOf]
set_option maxHeartbeats 6400000 in
theorem cwrite_true (R D L G fam : Int) (gr : Bool) (sz ex fr : Nat) (F : Nat) (e f : Nat) (ts : List Nat) (w : World) (hfr : 1 + ex + fr = 8 * sz) (hex : ex ≤ 15) (hsz : sz ≤ 10) (he : e < 65536) (hf : f < 18446744073709551616) (hts : ts.length = sz)
  (HT : ∀ g cap w1, BRow w1 g (setB (1 + ex) fr f (setB 1 ex e (setB 0 1 1 (List.replicate sz 0)))) → Calls Tryz.prog F #[.slice (some ⟨g, 0, none⟩) sz cap] w1 fun z w' => z = .returned (.tuple #[]) ∧ BRow w' g ts ∧ w1.grownBy w' (some g))
  (HFR : ∀ w1, Calls Tryz.prog 197 #[.agg #[.int .i64 R, .int .i64 D, .int .i64 L, .int .i64 G, .bool gr, .int .i64 (sz : Int), .int .i64 (ex : Int), .int .i64 fam, .func (.func F) #[] #[]]] w1 fun z w' => z = .returned (.int .i64 (fr : Int)) ∧ Below w1.heap.size w1 w')
  (HE : ∀ args W, Sem.run Tryz.prog (callFunc F args) W = .ok (.enter F args) W) :
  Calls Tryz.prog 158 #[.agg #[.int .i64 R, .int .i64 D, .int .i64 L, .int .i64 G, .bool gr, .int .i64 (sz : Int), .int .i64 (ex : Int), .int .i64 fam, .func (.func F) #[] #[]], .agg #[.bool true, .int .i64 (e : Int), .int .u64 (f : Int)]] w fun z w' => z = .returned (.string (strOf ts)) ∧ Below w.heap.size w w' := by
 have hsf := hsf_z
 have l0 := (locE_new w [.int .i64 R, .int .i64 D, .int .i64 L, .int .i64 G, .bool gr, .int .i64 (sz : Int), .int .i64 (ex : Int), .int .i64 fam, .func (.func F) #[] #[]] 144).later (below_alloc _ (.cells #[.bool true, .int .i64 (e : Int), .int .u64 (f : Int)] 147))
 have m0 := locE_new (w.alloc (.cells #[.int .i64 R, .int .i64 D, .int .i64 L, .int .i64 G, .bool gr, .int .i64 (sz : Int), .int .i64 (ex : Int), .int .i64 fam, .func (.func F) #[] #[]] 144)) [.bool true, .int .i64 (e : Int), .int .u64 (f : Int)] 147
 have b0 := below_trans (below_alloc w (.cells #[.int .i64 R, .int .i64 D, .int .i64 L, .int .i64 G, .bool gr, .int .i64 (sz : Int), .int .i64 (ex : Int), .int .i64 fam, .func (.func F) #[] #[]] 144)) (below_alloc _ (.cells #[.bool true, .int .i64 (e : Int), .int .u64 (f : Int)] 147))
 rw [World.size_alloc] at m0
 have H2 : ((w.alloc (.cells #[.int .i64 R, .int .i64 D, .int .i64 L, .int .i64 G, .bool gr, .int .i64 (sz : Int), .int .i64 (ex : Int), .int .i64 fam, .func (.func F) #[] #[]] 144)).alloc (.cells #[.bool true, .int .i64 (e : Int), .int .u64 (f : Int)] 147)).heap.size = w.heap.size + 2 := by rw [World.size_alloc, World.size_alloc]
 obtain ⟨i0, hi, hz0, hz1, hz2⟩ := info_parts Tryz.infoU8
 have HT' : Hid _ := HT
 have HFR' : Hid _ := HFR
 clear HT HFR
 obtain ⟨x0, x1, x2, x3, x4, x5, x6, x7, x8⟩ := l0.cs9
 obtain ⟨u0, u1, u2⟩ := m0.cs3
 go_enter Tryz.func158, Tryz.ntmps158
 go_wp2_with (at_make; refine wpList_make_full _ rfl _ _ 110 rfl (w.heap.size + 2) 5 i0 (.int .u8 0) 1 Tryz.underlying110 hi hz0 hz1 _ _ _ _ sz rfl rfl (by omega) (by omega) ?b2 ?b3 (Nat.le_of_eq H2.symm) ?_)
 case b2 => rw [hz2]; omega
 case b3 => unfold maxLen; omega
 intro w1 hown hgrow
 have r1 := own_brow (own_made hown)
 have bg := (Below.refl _ _).grown hgrow (Nat.le_refl _) (fun k h => by cases h)
 have l1 := l0.later bg
 have m1 := m0.later bg
 have b1 := below_trans b0 bg
 clear hown hgrow bg l0 m0 b0 hi hz0 hz1 hz2 H2 x0 x1 x2 x3 x4 x5 x6 x7 x8 u0 u1 u2
 obtain ⟨g, hg⟩ : ∃ g, w.heap.size + 2 = g := ⟨_, rfl⟩
 have hg0 : w.heap.size ≠ g := by omega
 have hg1 : w.heap.size + 1 ≠ g := by omega
 have hgl : w.heap.size ≤ g := by omega
 rw [hg] at r1 ⊢
 clear hg
 have HSB : Hid (∀ (c a b : Nat) (zs : List Nat) w1, BRow w1 g zs → zs.length = sz → Dg.Small 256 zs → a + b ≤ 8 * sz → c < 18446744073709551616 → Calls Tryz.prog 207 #[.slice (some ⟨g, 0, none⟩) sz sz, .int .i64 (a : Int), .int .i64 (b : Int), .int .u64 (c : Int)] w1 fun z w' => z = .returned (.tuple #[]) ∧ BRow w' g (setB a b c zs) ∧ w1.grownBy w' (some g)) := fun c a b zs w1 h hz hm hab hc => by
  have := csetBits_any g sz zs a b c w1 h hm hc (by omega) (by omega)
  rw [hz] at this
  exact this
 have sm0 : Dg.Small 256 (List.replicate sz 0) := by
  intro i
  by_cases hi : i < sz
  ·simp [List.getD_eq_getElem?_getD, hi]
  ·simp [List.getD_eq_getElem?_getD, hi]
 have ln0 : (List.replicate sz 0).length = sz := List.length_replicate
 have hwe : IntKind.u64.wrap (e : Int) = (e : Int) := IntWalk.u64_in _ ⟨by omega, by omega⟩
 have hwr : IntKind.i64.wrap (1 + (ex : Int)) = 1 + (ex : Int) := IntWalk.i64_in _ ⟨by omega, by omega⟩
 have HN : Hid _ := hfr
 have ln1 : (setB 0 1 1 (List.replicate sz 0)).length = sz := by rw [setB_len]; exact ln0
 have sm1 : Dg.Small 256 (setB 0 1 1 (List.replicate sz 0)) := setB_small _ _ _ _ sm0
 have hs0 := HSB.out 1 0 1 (List.replicate sz 0) _ r1 ln0 sm0 (by omega) (by omega)
 have HS0 : Hid _ := hs0
 clear hs0
 obtain ⟨x0, x1, x2, x3, x4, x5, x6, x7, x8⟩ := l1.cs9
 obtain ⟨u0, u1, u2⟩ := m1.cs3
 go_wp2_with fail
 refine Calls.mono HS0.out ?_
 rintro z w2 ⟨rfl, r2, g2⟩
 have l2 := l1.grown g2 hg0
 have m2 := m1.grown g2 hg1
 have b2 := b1.grown g2 b1.size (fun k h => by cases h; exact hgl)
 clear x0 x1 x2 x3 x4 x5 x6 x7 x8 u0 u1 u2 l1 m1 b1 g2 HS0 r1
 obtain ⟨z2, hz2⟩ : ∃ z, setB 1 ex e (setB 0 1 1 (List.replicate sz 0)) = z := ⟨_, rfl⟩
 obtain ⟨z3, hz3⟩ : ∃ z, setB (1 + ex) fr f z2 = z := ⟨_, rfl⟩
 have ln2 : z2.length = sz := by rw [← hz2, setB_len]; exact ln1
 have sm2 : Dg.Small 256 z2 := by rw [← hz2]; exact setB_small _ _ _ _ sm1
 have hs1 := HSB.out e 1 ex (setB 0 1 1 (List.replicate sz 0)) _ r2 ln1 sm1 (by omega) (by omega)
 have HS3 : Hid (∀ w1, BRow w1 g z2 → Calls Tryz.prog 207 #[.slice (some ⟨g, 0, none⟩) sz sz, .int .i64 (1 + (ex : Int)), .int .i64 (fr : Int), .int .u64 (f : Int)] w1 fun z w' => z = .returned (.tuple #[]) ∧ BRow w' g z3 ∧ w1.grownBy w' (some g)) := fun w1 h => by
  have := HSB.out f (1 + ex) fr z2 w1 h ln2 sm2 (by omega) hf
  rw [hz3, show (((1 + ex : Nat) : Nat) : Int) = 1 + (ex : Int) from by omega] at this
  exact this
 rw [hz2, hz3] at HT'
 rw [hz2] at hs1
 have HS1 : Hid _ := hs1
 clear hs1 hz2 hz3 sm2 ln2 sm0 ln0 HSB hfr ln1 sm1
 obtain ⟨x0, x1, x2, x3, x4, x5, x6, x7, x8⟩ := l2.cs9
 obtain ⟨u0, u1, u2⟩ := m2.cs3
 go_wp2_with fail
 refine Calls.mono HS1.out ?_
 rintro z w3 ⟨rfl, r3, g3⟩
 have l3 := (l2.grown g3 hg0).drew
 have m3 := (m2.grown g3 hg1).drew
 have b3 := (b2.grown g3 b2.size (fun k h => by cases h; exact hgl)).drew
 have r3d := r3.drew
 clear x0 x1 x2 x3 x4 x5 x6 x7 x8 u0 u1 u2 l2 m2 b2 g3 HS1 r3 r2
 obtain ⟨x0, x1, x2, x3, x4, x5, x6, x7, x8⟩ := l3.cs9
 obtain ⟨u0, u1, u2⟩ := m3.cs3
 go_wp2_with fail
 go_region_held3 (fun wq => (wq.cell? ⟨w.heap.size, 0, none⟩ = some (.int .i64 (R : Int)) ∧ wq.cell? ⟨w.heap.size, 1, none⟩ = some (.int .i64 D) ∧ wq.cell? ⟨w.heap.size, 2, none⟩ = some (.int .i64 L) ∧ wq.cell? ⟨w.heap.size, 3, none⟩ = some (.int .i64 G) ∧ wq.cell? ⟨w.heap.size, 4, none⟩ = some (.bool gr) ∧ wq.cell? ⟨w.heap.size, 5, none⟩ = some (.int .i64 (sz : Int)) ∧ wq.cell? ⟨w.heap.size, 6, none⟩ = some (.int .i64 (ex : Int)) ∧ wq.cell? ⟨w.heap.size, 7, none⟩ = some (.int .i64 fam) ∧ wq.cell? ⟨w.heap.size, 8, none⟩ = some (.func (.func F) #[] #[])) ∧ (wq.cell? ⟨w.heap.size + 1, 0, none⟩ = some (.bool true) ∧ wq.cell? ⟨w.heap.size + 1, 1, none⟩ = some (.int .i64 (e : Int)) ∧ wq.cell? ⟨w.heap.size + 1, 2, none⟩ = some (.int .u64 (f : Int)))) (go_keep) (first
  | (go_at_call 197; refine (HFR'.out _).mono ?_; rintro z w4 ⟨rfl, b4⟩; have l4 := l3.later b4; have m4 := m3.later b4; have b04 := below_trans b3 b4; have r4 := r3d.later b4; obtain ⟨y0, y1, y2, y3, y4, y5, y6, y7, y8⟩ := l4.cs9; obtain ⟨v0, v1, v2⟩ := m4.cs3)
  | (go_at_call 207; refine (HS3.out _ r4).mono ?_; rintro z w5 ⟨rfl, r5, g5⟩; have l5 := l4.grown g5 hg0; have m5 := m4.grown g5 hg1; have b05 := b04.grown g5 b04.size (fun k h => by cases h; exact hgl); obtain ⟨t0, t1, t2, t3, t4, t5, t6, t7, t8⟩ := l5.cs9; obtain ⟨s0, s1, s2⟩ := m5.cs3))
 go_wp2_with fail
 refine (HT'.out _ _ _ r5).mono ?_
 rintro z w6 ⟨rfl, r6, g6⟩
 have b06 := b05.grown g6 b05.size (fun k h => by cases h; exact hgl)
 have hcv := convert_brow (cap := sz) 110 9 Tryz.underlying110 Tryz.underlying5 Tryz.underlying9 r6
 rw [hts] at hcv
 go_wp2
 go_ret
 exact ⟨rfl, b06⟩
set_option maxHeartbeats 6400000 in
theorem cwrite_false (R D L G fam : Int) (gr : Bool) (sz ex fr : Nat) (F : Nat) (e f : Nat) (ts : List Nat) (w : World) (hfr : 1 + ex + fr = 8 * sz) (hex : ex ≤ 15) (hsz : sz ≤ 10) (he : e < 65536) (hf : f < 18446744073709551616) (hts : ts.length = sz)
  (HT : ∀ g cap w1, BRow w1 g (setB (1 + ex) fr f (setB 1 ex e (List.replicate sz 0))) → Calls Tryz.prog F #[.slice (some ⟨g, 0, none⟩) sz cap] w1 fun z w' => z = .returned (.tuple #[]) ∧ BRow w' g ts ∧ w1.grownBy w' (some g))
  (HFR : ∀ w1, Calls Tryz.prog 197 #[.agg #[.int .i64 R, .int .i64 D, .int .i64 L, .int .i64 G, .bool gr, .int .i64 (sz : Int), .int .i64 (ex : Int), .int .i64 fam, .func (.func F) #[] #[]]] w1 fun z w' => z = .returned (.int .i64 (fr : Int)) ∧ Below w1.heap.size w1 w')
  (HE : ∀ args W, Sem.run Tryz.prog (callFunc F args) W = .ok (.enter F args) W) :
  Calls Tryz.prog 158 #[.agg #[.int .i64 R, .int .i64 D, .int .i64 L, .int .i64 G, .bool gr, .int .i64 (sz : Int), .int .i64 (ex : Int), .int .i64 fam, .func (.func F) #[] #[]], .agg #[.bool false, .int .i64 (e : Int), .int .u64 (f : Int)]] w fun z w' => z = .returned (.string (strOf ts)) ∧ Below w.heap.size w w' := by
 have hsf := hsf_z
 have l0 := (locE_new w [.int .i64 R, .int .i64 D, .int .i64 L, .int .i64 G, .bool gr, .int .i64 (sz : Int), .int .i64 (ex : Int), .int .i64 fam, .func (.func F) #[] #[]] 144).later (below_alloc _ (.cells #[.bool false, .int .i64 (e : Int), .int .u64 (f : Int)] 147))
 have m0 := locE_new (w.alloc (.cells #[.int .i64 R, .int .i64 D, .int .i64 L, .int .i64 G, .bool gr, .int .i64 (sz : Int), .int .i64 (ex : Int), .int .i64 fam, .func (.func F) #[] #[]] 144)) [.bool false, .int .i64 (e : Int), .int .u64 (f : Int)] 147
 have b0 := below_trans (below_alloc w (.cells #[.int .i64 R, .int .i64 D, .int .i64 L, .int .i64 G, .bool gr, .int .i64 (sz : Int), .int .i64 (ex : Int), .int .i64 fam, .func (.func F) #[] #[]] 144)) (below_alloc _ (.cells #[.bool false, .int .i64 (e : Int), .int .u64 (f : Int)] 147))
 rw [World.size_alloc] at m0
 have H2 : ((w.alloc (.cells #[.int .i64 R, .int .i64 D, .int .i64 L, .int .i64 G, .bool gr, .int .i64 (sz : Int), .int .i64 (ex : Int), .int .i64 fam, .func (.func F) #[] #[]] 144)).alloc (.cells #[.bool false, .int .i64 (e : Int), .int .u64 (f : Int)] 147)).heap.size = w.heap.size + 2 := by rw [World.size_alloc, World.size_alloc]
 obtain ⟨i0, hi, hz0, hz1, hz2⟩ := info_parts Tryz.infoU8
 have HT' : Hid _ := HT
 have HFR' : Hid _ := HFR
 clear HT HFR
 obtain ⟨x0, x1, x2, x3, x4, x5, x6, x7, x8⟩ := l0.cs9
 obtain ⟨u0, u1, u2⟩ := m0.cs3
 go_enter Tryz.func158, Tryz.ntmps158
 go_wp2_with (at_make; refine wpList_make_full _ rfl _ _ 110 rfl (w.heap.size + 2) 5 i0 (.int .u8 0) 1 Tryz.underlying110 hi hz0 hz1 _ _ _ _ sz rfl rfl (by omega) (by omega) ?b2 ?b3 (Nat.le_of_eq H2.symm) ?_)
 case b2 => rw [hz2]; omega
 case b3 => unfold maxLen; omega
 intro w1 hown hgrow
 have r1 := own_brow (own_made hown)
 have bg := (Below.refl _ _).grown hgrow (Nat.le_refl _) (fun k h => by cases h)
 have l1 := l0.later bg
 have m1 := m0.later bg
 have b1 := below_trans b0 bg
 clear hown hgrow bg l0 m0 b0 hi hz0 hz1 hz2 H2 x0 x1 x2 x3 x4 x5 x6 x7 x8 u0 u1 u2
 obtain ⟨g, hg⟩ : ∃ g, w.heap.size + 2 = g := ⟨_, rfl⟩
 have hg0 : w.heap.size ≠ g := by omega
 have hg1 : w.heap.size + 1 ≠ g := by omega
 have hgl : w.heap.size ≤ g := by omega
 rw [hg] at r1 ⊢
 clear hg
 have HSB : Hid (∀ (c a b : Nat) (zs : List Nat) w1, BRow w1 g zs → zs.length = sz → Dg.Small 256 zs → a + b ≤ 8 * sz → c < 18446744073709551616 → Calls Tryz.prog 207 #[.slice (some ⟨g, 0, none⟩) sz sz, .int .i64 (a : Int), .int .i64 (b : Int), .int .u64 (c : Int)] w1 fun z w' => z = .returned (.tuple #[]) ∧ BRow w' g (setB a b c zs) ∧ w1.grownBy w' (some g)) := fun c a b zs w1 h hz hm hab hc => by
  have := csetBits_any g sz zs a b c w1 h hm hc (by omega) (by omega)
  rw [hz] at this
  exact this
 have sm0 : Dg.Small 256 (List.replicate sz 0) := by
  intro i
  by_cases hi : i < sz
  ·simp [List.getD_eq_getElem?_getD, hi]
  ·simp [List.getD_eq_getElem?_getD, hi]
 have ln0 : (List.replicate sz 0).length = sz := List.length_replicate
 have hwe : IntKind.u64.wrap (e : Int) = (e : Int) := IntWalk.u64_in _ ⟨by omega, by omega⟩
 have hwr : IntKind.i64.wrap (1 + (ex : Int)) = 1 + (ex : Int) := IntWalk.i64_in _ ⟨by omega, by omega⟩
 have HN : Hid _ := hfr
 obtain ⟨z2, hz2⟩ : ∃ z, setB 1 ex e (List.replicate sz 0) = z := ⟨_, rfl⟩
 obtain ⟨z3, hz3⟩ : ∃ z, setB (1 + ex) fr f z2 = z := ⟨_, rfl⟩
 have ln2 : z2.length = sz := by rw [← hz2, setB_len]; exact ln0
 have sm2 : Dg.Small 256 z2 := by rw [← hz2]; exact setB_small _ _ _ _ sm0
 have hs1 := HSB.out e 1 ex (List.replicate sz 0) _ r1 ln0 sm0 (by omega) (by omega)
 have HS3 : Hid (∀ w1, BRow w1 g z2 → Calls Tryz.prog 207 #[.slice (some ⟨g, 0, none⟩) sz sz, .int .i64 (1 + (ex : Int)), .int .i64 (fr : Int), .int .u64 (f : Int)] w1 fun z w' => z = .returned (.tuple #[]) ∧ BRow w' g z3 ∧ w1.grownBy w' (some g)) := fun w1 h => by
  have := HSB.out f (1 + ex) fr z2 w1 h ln2 sm2 (by omega) hf
  rw [hz3, show (((1 + ex : Nat) : Nat) : Int) = 1 + (ex : Int) from by omega] at this
  exact this
 rw [hz2, hz3] at HT'
 rw [hz2] at hs1
 have HS1 : Hid _ := hs1
 clear hs1 hz2 hz3 sm2 ln2 sm0 ln0 HSB hfr
 obtain ⟨x0, x1, x2, x3, x4, x5, x6, x7, x8⟩ := l1.cs9
 obtain ⟨u0, u1, u2⟩ := m1.cs3
 go_wp2_with fail
 refine Calls.mono HS1.out ?_
 rintro z w3 ⟨rfl, r3, g3⟩
 have l3 := (l1.grown g3 hg0).drew
 have m3 := (m1.grown g3 hg1).drew
 have b3 := (b1.grown g3 b1.size (fun k h => by cases h; exact hgl)).drew
 have r3d := r3.drew
 clear x0 x1 x2 x3 x4 x5 x6 x7 x8 u0 u1 u2 l1 m1 b1 g3 HS1 r3 r1
 obtain ⟨x0, x1, x2, x3, x4, x5, x6, x7, x8⟩ := l3.cs9
 obtain ⟨u0, u1, u2⟩ := m3.cs3
 go_wp2_with fail
 go_region_held3 (fun wq => (wq.cell? ⟨w.heap.size, 0, none⟩ = some (.int .i64 (R : Int)) ∧ wq.cell? ⟨w.heap.size, 1, none⟩ = some (.int .i64 D) ∧ wq.cell? ⟨w.heap.size, 2, none⟩ = some (.int .i64 L) ∧ wq.cell? ⟨w.heap.size, 3, none⟩ = some (.int .i64 G) ∧ wq.cell? ⟨w.heap.size, 4, none⟩ = some (.bool gr) ∧ wq.cell? ⟨w.heap.size, 5, none⟩ = some (.int .i64 (sz : Int)) ∧ wq.cell? ⟨w.heap.size, 6, none⟩ = some (.int .i64 (ex : Int)) ∧ wq.cell? ⟨w.heap.size, 7, none⟩ = some (.int .i64 fam) ∧ wq.cell? ⟨w.heap.size, 8, none⟩ = some (.func (.func F) #[] #[])) ∧ (wq.cell? ⟨w.heap.size + 1, 0, none⟩ = some (.bool false) ∧ wq.cell? ⟨w.heap.size + 1, 1, none⟩ = some (.int .i64 (e : Int)) ∧ wq.cell? ⟨w.heap.size + 1, 2, none⟩ = some (.int .u64 (f : Int)))) (go_keep) (first
  | (go_at_call 197; refine (HFR'.out _).mono ?_; rintro z w4 ⟨rfl, b4⟩; have l4 := l3.later b4; have m4 := m3.later b4; have b04 := below_trans b3 b4; have r4 := r3d.later b4; obtain ⟨y0, y1, y2, y3, y4, y5, y6, y7, y8⟩ := l4.cs9; obtain ⟨v0, v1, v2⟩ := m4.cs3)
  | (go_at_call 207; refine (HS3.out _ r4).mono ?_; rintro z w5 ⟨rfl, r5, g5⟩; have l5 := l4.grown g5 hg0; have m5 := m4.grown g5 hg1; have b05 := b04.grown g5 b04.size (fun k h => by cases h; exact hgl); obtain ⟨t0, t1, t2, t3, t4, t5, t6, t7, t8⟩ := l5.cs9; obtain ⟨s0, s1, s2⟩ := m5.cs3))
 go_wp2_with fail
 refine (HT'.out _ _ _ r5).mono ?_
 rintro z w6 ⟨rfl, r6, g6⟩
 have b06 := b05.grown g6 b05.size (fun k h => by cases h; exact hgl)
 have hcv := convert_brow (cap := sz) 110 9 Tryz.underlying110 Tryz.underlying5 Tryz.underlying9 r6
 rw [hts] at hcv
 go_wp2
 go_ret
 exact ⟨rfl, b06⟩
def wrtB (k : Nat) (ng : Bool) (e f : Nat) : List Nat := turnB k (setB (1 + exN k) (frN k) f (setB 1 (exN k) e (if ng then setB 0 1 1 (List.replicate (szN k) 0) else List.replicate (szN k) 0)))
theorem wrtB_len (k : Nat) (ng : Bool) (e f : Nat) : (wrtB k ng e f).length = szN k := by
 unfold wrtB
 rw [turnB_len, setB_len, setB_len]
 split
 ·rw [setB_len, List.length_replicate]
 ·rw [List.length_replicate]
theorem cwrite_any (k : Nat) (hk : 1 ≤ k ∧ k ≤ 8) (ng : Bool) (e f : Nat) (w : World) (he : e < 65536) (hf : f < 18446744073709551616) :
  Calls Tryz.prog 158 #[.agg (layV k).toArray, .agg #[.bool ng, .int .i64 (e : Int), .int .u64 (f : Int)]] w fun z w' => z = .returned (.string (strOf (wrtB k ng e f))) ∧ Below w.heap.size w w' := by
 obtain ⟨h1, h2, h3, h4, h5, -⟩ := sizes_fit hk
 have hl := wrtB_len k ng e f
 have HF := fun w1 => lfraction_any k hk w1
 have HE := fun args W => turnF_enter k args W
 have HT := fun zs (hz : zs.length = szN k) g cap w1 h => turnF_any k g cap zs w1 h (by omega) (by rw [hz]; exact h5)
 cases ng
 ·have HT' : ∀ g cap w1, BRow w1 g (setB (1 + exN k) (frN k) f (setB 1 (exN k) e (List.replicate (szN k) 0))) → Calls Tryz.prog (turnF k) #[.slice (some ⟨g, 0, none⟩) (szN k) cap] w1 fun z w' => z = .returned (.tuple #[]) ∧ BRow w' g (wrtB k false e f) ∧ w1.grownBy w' (some g) := fun g cap w1 h => by
   have hz : (setB (1 + exN k) (frN k) f (setB 1 (exN k) e (List.replicate (szN k) 0))).length = szN k := by rw [setB_len, setB_len, List.length_replicate]
   have := HT _ hz g cap w1 h
   rw [hz] at this
   exact this
  rcases eight hk with rfl | rfl | rfl | rfl | rfl | rfl | rfl | rfl
  all_goals exact cwrite_false _ _ _ _ _ _ _ _ _ _ e f _ w h1 h2 h3 he hf hl HT' HF HE
 ·have HT' : ∀ g cap w1, BRow w1 g (setB (1 + exN k) (frN k) f (setB 1 (exN k) e (setB 0 1 1 (List.replicate (szN k) 0)))) → Calls Tryz.prog (turnF k) #[.slice (some ⟨g, 0, none⟩) (szN k) cap] w1 fun z w' => z = .returned (.tuple #[]) ∧ BRow w' g (wrtB k true e f) ∧ w1.grownBy w' (some g) := fun g cap w1 h => by
   have hz : (setB (1 + exN k) (frN k) f (setB 1 (exN k) e (setB 0 1 1 (List.replicate (szN k) 0)))).length = szN k := by rw [setB_len, setB_len, setB_len, List.length_replicate]
   have := HT _ hz g cap w1 h
   rw [hz] at this
   exact this
  rcases eight hk with rfl | rfl | rfl | rfl | rfl | rfl | rfl | rfl
  all_goals exact cwrite_true _ _ _ _ _ _ _ _ _ _ e f _ w h1 h2 h3 he hf hl HT' HF HE
end Go.Proofs.YtnhackdjplppjaaGreatDoor

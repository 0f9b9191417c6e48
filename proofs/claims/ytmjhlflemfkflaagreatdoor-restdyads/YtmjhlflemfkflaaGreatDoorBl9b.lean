/-
  Balls: contract of ball.both.
-/
import Derived.Test.YtmjhlflemfkflaaGreatDoorBs
import Derived.Test.YtmjhlflemfkflaaGreatDoorBb
import Derived.Test.YtmjhlflemfkflaaGreatDoorBc
import Derived.Deep.RegionHeld3
namespace Go.Proofs.YtmjhlflemfkflaaGreatDoor
open Go.RowKit

set_option maxRecDepth 100000 in
set_option maxHeartbeats 1600000 in
theorem bboth1_any (s : Bool) (ao : Option Addr) (ca la : Nat) (e : Int) (t : Bool) (bo : Option Addr) (cb lb : Nat) (f : Int) (r : Bool) (co : Option Addr) (cc lc : Nat) (g : Int) (u : Bool) (d' : Option Addr) (cd ld : Nat) (k : Int) (n : Int) (fn : FuncId) (c0 : Value) (c : Int) (x : Nat → Trip) (R : Trip × Trip × Int) (w : World)
    (HE : ∀ args W, Sem.run Tryz.prog (callFunc fn args) W = .ok (.enter fn args) W)
    (HW : ∀ b w1, Below w.heap.size w w1 → w1.cell? ⟨b, 0, none⟩ = some (.bool s) ∧ w1.cell? ⟨b, 1, none⟩ = some (.slice ao la ca) ∧ w1.cell? ⟨b, 2, none⟩ = some (.int .i64 e) ∧ w1.cell? ⟨b, 3, none⟩ = some (.bool t) ∧ w1.cell? ⟨b, 4, none⟩ = some (.slice bo lb cb) ∧ w1.cell? ⟨b, 5, none⟩ = some (.int .i64 f) ∧ w1.cell? ⟨b, 6, none⟩ = some (.bool r) ∧ w1.cell? ⟨b, 7, none⟩ = some (.slice co lc cc) ∧ w1.cell? ⟨b, 8, none⟩ = some (.int .i64 g) ∧ w1.cell? ⟨b, 9, none⟩ = some (.bool u) ∧ w1.cell? ⟨b, 10, none⟩ = some (.slice d' ld cd) ∧ w1.cell? ⟨b, 11, none⟩ = some (.int .i64 k) → Calls Tryz.prog 24 #[.int .i64 n, .slice (some ⟨b, 0, none⟩) 2 2] w1 fun z w' => z = .returned (.int .i64 c) ∧ Below w1.heap.size w1 w')
    (HF0 : c = 0 → ∀ w1, Below w.heap.size w w1 → Calls Tryz.prog fn #[.agg #[.bool s, .slice ao la ca, .int .i64 e], .agg #[.bool r, .slice co lc cc, .int .i64 g], c0] w1 (DRes w1 (x 0)))
    (HF1 : c = 0 → ∀ w1, Below w.heap.size w w1 → Calls Tryz.prog fn #[.agg #[.bool s, .slice ao la ca, .int .i64 e], .agg #[.bool u, .slice d' ld cd, .int .i64 k], c0] w1 (DRes w1 (x 1)))
    (HF2 : c = 0 → ∀ w1, Below w.heap.size w w1 → Calls Tryz.prog fn #[.agg #[.bool t, .slice bo lb cb, .int .i64 f], .agg #[.bool r, .slice co lc cc, .int .i64 g], c0] w1 (DRes w1 (x 2)))
    (HF3 : c = 0 → ∀ w1, Below w.heap.size w w1 → Calls Tryz.prog fn #[.agg #[.bool t, .slice bo lb cb, .int .i64 f], .agg #[.bool u, .slice d' ld cd, .int .i64 k], c0] w1 (DRes w1 (x 3)))
    (HL : c = 0 → ∀ b (ao : Nat → Option Addr) (ca : Nat → Nat) w1, Below w.heap.size w w1 → b < w1.heap.size → (∀ j, j < 4 → w1.cell? ⟨b, 3 * j, none⟩ = some (.bool (x j).s) ∧ w1.cell? ⟨b, 3 * j + 1, none⟩ = some (.slice (ao j) (Dg.dg 4294967296 (x j).n).length (ca j)) ∧ w1.cell? ⟨b, 3 * j + 2, none⟩ = some (.int .i64 (x j).e) ∧ Rd w1 .u32 (.slice (ao j) (Dg.dg 4294967296 (x j).n).length (ca j)) (Dg.dg 4294967296 (x j).n)) → Calls Tryz.prog 27 #[.int .i64 n, .slice (some ⟨b, 0, none⟩) 4 4] w1 (BOwn w1 R)) :
    Calls Tryz.prog 71 #[.agg #[.bool s, .slice ao la ca, .int .i64 e, .bool t, .slice bo lb cb, .int .i64 f], .agg #[.bool r, .slice co lc cc, .int .i64 g, .bool u, .slice d' ld cd, .int .i64 k], .int .i64 n, .func (.func fn) #[] #[c0]] w (BOwn w (if c = 0 then R else (⟨false, 0, 0⟩, ⟨false, 0, 0⟩, c))) := by
  have HHW : Hid _ := HW
  have HHL : Hid _ := HL
  have HHF0 : Hid _ := HF0
  have HHF1 : Hid _ := HF1
  have HHF2 : Hid _ := HF2
  have HHF3 : Hid _ := HF3
  clear HW HL HF0 HF1 HF2 HF3
  have l1 := ((loc6_new w (.bool s) (.slice ao la ca) (.int .i64 e) (.bool t) (.slice bo lb cb) (.int .i64 f) 27).later (below_alloc _ (.cells #[.bool r, .slice co lc cc, .int .i64 g, .bool u, .slice d' ld cd, .int .i64 k] 27))).later (below_alloc _ (.cells #[.bool false, .slice none 0 0, .int .i64 0, .bool false, .slice none 0 0, .int .i64 0] 27))
  have m1 := (loc6_new (w.alloc (.cells #[.bool s, .slice ao la ca, .int .i64 e, .bool t, .slice bo lb cb, .int .i64 f] 27)) (.bool r) (.slice co lc cc) (.int .i64 g) (.bool u) (.slice d' ld cd) (.int .i64 k) 27).later (below_alloc _ (.cells #[.bool false, .slice none 0 0, .int .i64 0, .bool false, .slice none 0 0, .int .i64 0] 27))
  have k1 := loc6_new ((w.alloc (.cells #[.bool s, .slice ao la ca, .int .i64 e, .bool t, .slice bo lb cb, .int .i64 f] 27)).alloc (.cells #[.bool r, .slice co lc cc, .int .i64 g, .bool u, .slice d' ld cd, .int .i64 k] 27)) (.bool false) (.slice none 0 0) (.int .i64 0) (.bool false) (.slice none 0 0) (.int .i64 0) 27
  have b1 := below_trans (below_trans (below_alloc w (.cells #[.bool s, .slice ao la ca, .int .i64 e, .bool t, .slice bo lb cb, .int .i64 f] 27)) (below_alloc _ (.cells #[.bool r, .slice co lc cc, .int .i64 g, .bool u, .slice d' ld cd, .int .i64 k] 27))) (below_alloc _ (.cells #[.bool false, .slice none 0 0, .int .i64 0, .bool false, .slice none 0 0, .int .i64 0] 27))
  simp only [World.size_alloc] at m1 k1
  have bs := below_alloc (((w.alloc (.cells #[.bool s, .slice ao la ca, .int .i64 e, .bool t, .slice bo lb cb, .int .i64 f] 27)).alloc (.cells #[.bool r, .slice co lc cc, .int .i64 g, .bool u, .slice d' ld cd, .int .i64 k] 27)).alloc (.cells #[.bool false, .slice none 0 0, .int .i64 0, .bool false, .slice none 0 0, .int .i64 0] 27)) (.cells #[.bool s, .slice ao la ca, .int .i64 e, .bool t, .slice bo lb cb, .int .i64 f, .bool r, .slice co lc cc, .int .i64 g, .bool u, .slice d' ld cd, .int .i64 k] 27)
  have l2 := l1.later bs
  have m2 := m1.later bs
  have k2 := k1.later bs
  have b2 := below_trans b1 bs
  have HW2 := HHW.out (w.heap.size + 1 + 1 + 1) _ b2 (by refine ⟨?_, ?_, ?_, ?_, ?_, ?_, ?_, ?_, ?_, ?_, ?_, ?_⟩ <;> (rw [World.cell?_alloc_at _ _ _ _ (by simp only [World.size_alloc])]; rfl))
  clear l1 m1 k1 b1 bs HHW
  by_cases hc : c = 0
  · subst hc
    rw [if_pos rfl]
    have HHL := HHL.out rfl
    have HHF0 := HHF0.out rfl
    have HHF1 := HHF1.out rfl
    have HHF2 := HHF2.out rfl
    have HHF3 := HHF3.out rfl
    have HL : Hid _ := HHL
    have HF0 : Hid _ := HHF0
    have HF1 : Hid _ := HHF1
    have HF2 : Hid _ := HHF2
    have HF3 : Hid _ := HHF3
    clear HHL HHF0 HHF1 HHF2 HHF3
    go_enter Tryz.func71, Tryz.ntmps71
    go_wp2_with fail
    refine HW2.mono ?_
    rintro z w3 ⟨rfl, b3⟩
    have l3 := l2.later b3
    have m3 := m2.later b3
    have k3 := k2.later b3
    have b03 := below_trans b2 b3
    clear l2 m2 k2 b2 b3 HW2
    go_wp2_with fail
    generalize w.heap.size + 1 + 1 + 1 = S at ⊢
    have hrb : w.heap.size ≤ w.heap.size + 1 + 1 := by omega
    generalize w.heap.size + 1 + 1 = RB at k3 hrb ⊢
    generalize w.heap.size + 1 = BB at m3 ⊢
    refine wp_region_any (by kernel_rfl) ?_
    refine wpAny_until (fun listed a W => ∃ (ll0 ll1 ll2 ll3 ll4 ll5 ll6 ll7 ll8 ll9 ll10 ll11 ll12 ll13 ll14 ll15 : Bool) (u24 u25 u26 u27 u28 u29 u30 u31 u32 u33 u34 u35 u11 u12 u13 u14 : Value), listed = #[ll0, ll1, ll2, ll3, ll4, ll5, ll6, ll7, ll8, ll9, ll10, ll11, ll12, ll13, ll14, ll15, false, false, false, false] ∧ a = { tmps := #[.agg #[.bool s, .slice ao la ca, .int .i64 e, .bool t, .slice bo lb cb, .int .i64 f], .agg #[.bool r, .slice co lc cc, .int .i64 g, .bool u, .slice d' ld cd, .int .i64 k], .int .i64 n, .func (.func fn) #[] #[c0], .pointer (some ⟨w.heap.size, 0, none⟩), .pointer (some ⟨BB, 0, none⟩), undef, undef, .pointer (some ⟨RB, 0, none⟩), .int .i64 0, .int .i64 0, u11, u12, u13, u14, .int .i64 n, .agg #[.bool s, .slice ao la ca, .int .i64 e, .bool t, .slice bo lb cb, .int .i64 f], .agg #[.bool r, .slice co lc cc, .int .i64 g, .bool u, .slice d' ld cd, .int .i64 k], .slice (some ⟨S, 0, none⟩) 2 2, .int .i64 0, .int .i64 0, .bool false, undef, undef, u24, u25, u26, u27, u28, u29, u30, u31, u32, u33, u34, u35, undef, undef, undef, undef, undef, undef, undef, undef, undef, undef, undef, undef, undef, undef, undef, undef, undef, undef, undef, undef, undef], defers := [] } ∧ Below w3.heap.size w3 W ∧ (ll0 = true → u24 = .pointer (some ⟨w.heap.size, 0, none⟩)) ∧ (ll1 = true → u25 = .agg #[.bool s, .slice ao la ca, .int .i64 e]) ∧ (ll2 = true → u26 = .agg #[.bool s, .slice ao la ca, .int .i64 e]) ∧ (ll3 = true → u27 = .pointer (some ⟨w.heap.size, 3, none⟩)) ∧ (ll4 = true → u28 = .agg #[.bool t, .slice bo lb cb, .int .i64 f]) ∧ (ll5 = true → u29 = .agg #[.bool t, .slice bo lb cb, .int .i64 f]) ∧ (ll6 = true → u30 = .pointer (some ⟨BB, 0, none⟩)) ∧ (ll7 = true → u31 = .agg #[.bool r, .slice co lc cc, .int .i64 g]) ∧ (ll8 = true → u32 = .agg #[.bool r, .slice co lc cc, .int .i64 g]) ∧ (ll9 = true → u33 = .pointer (some ⟨BB, 3, none⟩)) ∧ (ll10 = true → u34 = .agg #[.bool u, .slice d' ld cd, .int .i64 k]) ∧ (ll11 = true → u35 = .agg #[.bool u, .slice d' ld cd, .int .i64 k]) ∧ (ll12 = true → NewL W w3.heap.size u11) ∧ (ll13 = true → NewL W w3.heap.size u12) ∧ (ll14 = true → NewL W w3.heap.size u13) ∧ (ll15 = true → NewL W w3.heap.size u14) ∧ (ll1 = true → ll0 = true) ∧ (ll2 = true → ll1 = true) ∧ (ll4 = true → ll3 = true) ∧ (ll5 = true → ll4 = true ∧ ll2 = true) ∧ (ll7 = true → ll6 = true) ∧ (ll8 = true → ll7 = true ∧ ll5 = true) ∧ (ll10 = true → ll9 = true) ∧ (ll11 = true → ll10 = true ∧ ll8 = true) ∧ (ll12 = true → ll13 = true → u11 ≠ u12) ∧ (ll12 = true → ll14 = true → u11 ≠ u13) ∧ (ll12 = true → ll15 = true → u11 ≠ u14) ∧ (ll13 = true → ll14 = true → u12 ≠ u13) ∧ (ll13 = true → ll15 = true → u12 ≠ u14) ∧ (ll14 = true → ll15 = true → u13 ≠ u14)) #[true, true, true, true, true, true, true, true, true, true, true, true, true, true, true, true, false, false, false, false] 4 rfl ?hend ?hstep 20 _ _ _ rfl ?start
    case start =>
      refine ⟨false, false, false, false, false, false, false, false, false, false, false, false, false, false, false, false, undef, undef, undef, undef, undef, undef, undef, undef, undef, undef, undef, undef, undef, undef, undef, undef, rfl, rfl, (Below.refl _ _).drew, ?_, ?_, ?_, ?_, ?_, ?_, ?_, ?_, ?_, ?_, ?_, ?_, ?_, ?_, ?_, ?_, ?_, ?_, ?_, ?_, ?_, ?_, ?_, ?_, ?_, ?_, ?_, ?_, ?_, ?_⟩ <;> simp
    case hstep =>
      rintro listed a W ⟨ll0, ll1, ll2, ll3, ll4, ll5, ll6, ll7, ll8, ll9, ll10, ll11, ll12, ll13, ll14, ll15, u24, u25, u26, u27, u28, u29, u30, u31, u32, u33, u34, u35, u11, u12, u13, u14, rfl, rfl, bel, h0, h1, h2, h3, h4, h5, h6, h7, h8, h9, h10, h11, h12, h13, h14, h15, e1, e2, e4, e5, e7, e8, e10, e11, d12_13, d12_14, d12_15, d13_14, d13_15, d14_15⟩ hne
      obtain ⟨-, ⟨c0, c1, c2, c3, c4, c5⟩, -⟩ := l3.later bel
      obtain ⟨-, ⟨x0, x1, x2, x3, x4, x5⟩, -⟩ := m3.later bel
      constructor
      · intro hnil
        apply hne
        obtain rfl : ll0 = true := not_ready (j := 0) hnil rfl (by kernel_rfl)
        obtain rfl : ll1 = true := not_ready (j := 1) hnil rfl (by kernel_rfl)
        obtain rfl : ll2 = true := not_ready (j := 2) hnil rfl (by kernel_rfl)
        obtain rfl : ll3 = true := not_ready (j := 3) hnil rfl (by kernel_rfl)
        obtain rfl : ll4 = true := not_ready (j := 4) hnil rfl (by kernel_rfl)
        obtain rfl : ll5 = true := not_ready (j := 5) hnil rfl (by kernel_rfl)
        obtain rfl : ll6 = true := not_ready (j := 6) hnil rfl (by kernel_rfl)
        obtain rfl : ll7 = true := not_ready (j := 7) hnil rfl (by kernel_rfl)
        obtain rfl : ll8 = true := not_ready (j := 8) hnil rfl (by kernel_rfl)
        obtain rfl : ll9 = true := not_ready (j := 9) hnil rfl (by kernel_rfl)
        obtain rfl : ll10 = true := not_ready (j := 10) hnil rfl (by kernel_rfl)
        obtain rfl : ll11 = true := not_ready (j := 11) hnil rfl (by kernel_rfl)
        obtain rfl : ll12 = true := not_ready (j := 12) hnil rfl (by kernel_rfl)
        obtain rfl : ll13 = true := not_ready (j := 13) hnil rfl (by kernel_rfl)
        obtain rfl : ll14 = true := not_ready (j := 14) hnil rfl (by kernel_rfl)
        obtain rfl : ll15 = true := not_ready (j := 15) hnil rfl (by kernel_rfl)
        rfl
      · intro i hi
        replace h0 : Hid _ := h0
        replace h1 : Hid _ := h1
        replace h2 : Hid _ := h2
        replace h3 : Hid _ := h3
        replace h4 : Hid _ := h4
        replace h5 : Hid _ := h5
        replace h6 : Hid _ := h6
        replace h7 : Hid _ := h7
        replace h8 : Hid _ := h8
        replace h9 : Hid _ := h9
        replace h10 : Hid _ := h10
        replace h11 : Hid _ := h11
        replace h12 : Hid _ := h12
        replace h13 : Hid _ := h13
        replace h14 : Hid _ := h14
        replace h15 : Hid _ := h15
        replace e1 : Hid _ := e1
        replace e2 : Hid _ := e2
        replace e4 : Hid _ := e4
        replace e5 : Hid _ := e5
        replace e7 : Hid _ := e7
        replace e8 : Hid _ := e8
        replace e10 : Hid _ := e10
        replace e11 : Hid _ := e11
        replace d12_13 : Hid _ := d12_13
        replace d12_14 : Hid _ := d12_14
        replace d12_15 : Hid _ := d12_15
        replace d13_14 : Hid _ := d13_14
        replace d13_15 : Hid _ := d13_15
        replace d14_15 : Hid _ := d14_15
        have hlt := ready_lt hi
        match i, hlt, hi with
        | 0, _, hi =>
          refine wpOp_via (i := 0) rfl rfl (fun K hK => ?_)
          go_simp
          exact hK.out _ _ ⟨true, ll1, ll2, ll3, ll4, ll5, ll6, ll7, ll8, ll9, ll10, ll11, ll12, ll13, ll14, ll15, _, u25, u26, u27, u28, u29, u30, u31, u32, u33, u34, u35, u11, u12, u13, u14, rfl, rfl, bel, fun _ => rfl, h1, h2, h3, h4, h5, h6, h7, h8, h9, h10, h11, h12, h13, h14, h15, fun _ => rfl, e2, e4, e5, e7, e8, e10, e11, d12_13, d12_14, d12_15, d13_14, d13_15, d14_15⟩
        | 1, _, hi =>
          obtain rfl : ll0 = true := ready_dep (d := 0) rfl (by kernel_rfl) hi
          obtain rfl := h0.out rfl
          refine wpOp_via (i := 1) rfl rfl (fun K hK => ?_)
          go_simp
          exact hK.out _ _ ⟨true, true, ll2, ll3, ll4, ll5, ll6, ll7, ll8, ll9, ll10, ll11, ll12, ll13, ll14, ll15, _, _, u26, u27, u28, u29, u30, u31, u32, u33, u34, u35, u11, u12, u13, u14, rfl, rfl, bel, fun _ => rfl, fun _ => rfl, h2, h3, h4, h5, h6, h7, h8, h9, h10, h11, h12, h13, h14, h15, fun _ => rfl, fun _ => rfl, e4, e5, e7, e8, e10, e11, d12_13, d12_14, d12_15, d13_14, d13_15, d14_15⟩
        | 2, _, hi =>
          obtain rfl : ll1 = true := ready_dep (d := 1) rfl (by kernel_rfl) hi
          obtain rfl := h1.out rfl
          refine wpOp_via (i := 2) rfl rfl (fun K hK => ?_)
          go_simp
          refine (of_dy s ao la ca e _).mono ?_
          rintro z W2 ⟨rfl, b4⟩
          go_simp
          exact hK.out _ _ ⟨ll0, true, true, ll3, ll4, ll5, ll6, ll7, ll8, ll9, ll10, ll11, ll12, ll13, ll14, ll15, u24, _, _, u27, u28, u29, u30, u31, u32, u33, u34, u35, u11, u12, u13, u14, rfl, rfl, below_trans bel b4, h0, fun _ => rfl, fun _ => rfl, h3, h4, h5, h6, h7, h8, h9, h10, h11, fun h => (h12.out h).later b4, fun h => (h13.out h).later b4, fun h => (h14.out h).later b4, fun h => (h15.out h).later b4, e1, fun _ => rfl, e4, fun h => ⟨(e5.out h).1, rfl⟩, e7, e8, e10, e11, d12_13, d12_14, d12_15, d13_14, d13_15, d14_15⟩
        | 3, _, hi =>
          refine wpOp_via (i := 3) rfl rfl (fun K hK => ?_)
          go_simp
          exact hK.out _ _ ⟨ll0, ll1, ll2, true, ll4, ll5, ll6, ll7, ll8, ll9, ll10, ll11, ll12, ll13, ll14, ll15, u24, u25, u26, _, u28, u29, u30, u31, u32, u33, u34, u35, u11, u12, u13, u14, rfl, rfl, bel, h0, h1, h2, fun _ => rfl, h4, h5, h6, h7, h8, h9, h10, h11, h12, h13, h14, h15, e1, e2, fun _ => rfl, e5, e7, e8, e10, e11, d12_13, d12_14, d12_15, d13_14, d13_15, d14_15⟩
        | 4, _, hi =>
          obtain rfl : ll3 = true := ready_dep (d := 3) rfl (by kernel_rfl) hi
          obtain rfl := h3.out rfl
          refine wpOp_via (i := 4) rfl rfl (fun K hK => ?_)
          go_simp
          exact hK.out _ _ ⟨ll0, ll1, ll2, true, true, ll5, ll6, ll7, ll8, ll9, ll10, ll11, ll12, ll13, ll14, ll15, u24, u25, u26, _, _, u29, u30, u31, u32, u33, u34, u35, u11, u12, u13, u14, rfl, rfl, bel, h0, h1, h2, fun _ => rfl, fun _ => rfl, h5, h6, h7, h8, h9, h10, h11, h12, h13, h14, h15, e1, e2, fun _ => rfl, fun h => ⟨rfl, (e5.out h).2⟩, e7, e8, e10, e11, d12_13, d12_14, d12_15, d13_14, d13_15, d14_15⟩
        | 5, _, hi =>
          obtain rfl : ll4 = true := ready_dep (d := 4) rfl (by kernel_rfl) hi
          obtain rfl : ll2 = true := ready_dep (d := 2) rfl (by kernel_rfl) hi
          obtain rfl := h4.out rfl
          refine wpOp_via (i := 5) rfl rfl (fun K hK => ?_)
          go_simp
          refine (of_dy t bo lb cb f _).mono ?_
          rintro z W2 ⟨rfl, b4⟩
          go_simp
          exact hK.out _ _ ⟨ll0, ll1, true, ll3, true, true, ll6, ll7, ll8, ll9, ll10, ll11, ll12, ll13, ll14, ll15, u24, u25, u26, u27, _, _, u30, u31, u32, u33, u34, u35, u11, u12, u13, u14, rfl, rfl, below_trans bel b4, h0, h1, h2, h3, fun _ => rfl, fun _ => rfl, h6, h7, h8, h9, h10, h11, fun h => (h12.out h).later b4, fun h => (h13.out h).later b4, fun h => (h14.out h).later b4, fun h => (h15.out h).later b4, e1, e2, e4, fun _ => ⟨rfl, rfl⟩, e7, fun h => ⟨(e8.out h).1, rfl⟩, e10, e11, d12_13, d12_14, d12_15, d13_14, d13_15, d14_15⟩
        | 6, _, hi =>
          refine wpOp_via (i := 6) rfl rfl (fun K hK => ?_)
          go_simp
          exact hK.out _ _ ⟨ll0, ll1, ll2, ll3, ll4, ll5, true, ll7, ll8, ll9, ll10, ll11, ll12, ll13, ll14, ll15, u24, u25, u26, u27, u28, u29, _, u31, u32, u33, u34, u35, u11, u12, u13, u14, rfl, rfl, bel, h0, h1, h2, h3, h4, h5, fun _ => rfl, h7, h8, h9, h10, h11, h12, h13, h14, h15, e1, e2, e4, e5, fun _ => rfl, e8, e10, e11, d12_13, d12_14, d12_15, d13_14, d13_15, d14_15⟩
        | 7, _, hi =>
          obtain rfl : ll6 = true := ready_dep (d := 6) rfl (by kernel_rfl) hi
          obtain rfl := h6.out rfl
          refine wpOp_via (i := 7) rfl rfl (fun K hK => ?_)
          go_simp
          exact hK.out _ _ ⟨ll0, ll1, ll2, ll3, ll4, ll5, true, true, ll8, ll9, ll10, ll11, ll12, ll13, ll14, ll15, u24, u25, u26, u27, u28, u29, _, _, u32, u33, u34, u35, u11, u12, u13, u14, rfl, rfl, bel, h0, h1, h2, h3, h4, h5, fun _ => rfl, fun _ => rfl, h8, h9, h10, h11, h12, h13, h14, h15, e1, e2, e4, e5, fun _ => rfl, fun h => ⟨rfl, (e8.out h).2⟩, e10, e11, d12_13, d12_14, d12_15, d13_14, d13_15, d14_15⟩
        | 8, _, hi =>
          obtain rfl : ll7 = true := ready_dep (d := 7) rfl (by kernel_rfl) hi
          obtain rfl : ll5 = true := ready_dep (d := 5) rfl (by kernel_rfl) hi
          obtain rfl := h7.out rfl
          refine wpOp_via (i := 8) rfl rfl (fun K hK => ?_)
          go_simp
          refine (of_dy r co lc cc g _).mono ?_
          rintro z W2 ⟨rfl, b4⟩
          go_simp
          exact hK.out _ _ ⟨ll0, ll1, ll2, ll3, ll4, true, ll6, true, true, ll9, ll10, ll11, ll12, ll13, ll14, ll15, u24, u25, u26, u27, u28, u29, u30, _, _, u33, u34, u35, u11, u12, u13, u14, rfl, rfl, below_trans bel b4, h0, h1, h2, h3, h4, h5, h6, fun _ => rfl, fun _ => rfl, h9, h10, h11, fun h => (h12.out h).later b4, fun h => (h13.out h).later b4, fun h => (h14.out h).later b4, fun h => (h15.out h).later b4, e1, e2, e4, e5, e7, fun _ => ⟨rfl, rfl⟩, e10, fun h => ⟨(e11.out h).1, rfl⟩, d12_13, d12_14, d12_15, d13_14, d13_15, d14_15⟩
        | 9, _, hi =>
          refine wpOp_via (i := 9) rfl rfl (fun K hK => ?_)
          go_simp
          exact hK.out _ _ ⟨ll0, ll1, ll2, ll3, ll4, ll5, ll6, ll7, ll8, true, ll10, ll11, ll12, ll13, ll14, ll15, u24, u25, u26, u27, u28, u29, u30, u31, u32, _, u34, u35, u11, u12, u13, u14, rfl, rfl, bel, h0, h1, h2, h3, h4, h5, h6, h7, h8, fun _ => rfl, h10, h11, h12, h13, h14, h15, e1, e2, e4, e5, e7, e8, fun _ => rfl, e11, d12_13, d12_14, d12_15, d13_14, d13_15, d14_15⟩
        | 10, _, hi =>
          obtain rfl : ll9 = true := ready_dep (d := 9) rfl (by kernel_rfl) hi
          obtain rfl := h9.out rfl
          refine wpOp_via (i := 10) rfl rfl (fun K hK => ?_)
          go_simp
          exact hK.out _ _ ⟨ll0, ll1, ll2, ll3, ll4, ll5, ll6, ll7, ll8, true, true, ll11, ll12, ll13, ll14, ll15, u24, u25, u26, u27, u28, u29, u30, u31, u32, _, _, u35, u11, u12, u13, u14, rfl, rfl, bel, h0, h1, h2, h3, h4, h5, h6, h7, h8, fun _ => rfl, fun _ => rfl, h11, h12, h13, h14, h15, e1, e2, e4, e5, e7, e8, fun _ => rfl, fun h => ⟨rfl, (e11.out h).2⟩, d12_13, d12_14, d12_15, d13_14, d13_15, d14_15⟩
        | 11, _, hi =>
          obtain rfl : ll10 = true := ready_dep (d := 10) rfl (by kernel_rfl) hi
          obtain rfl : ll8 = true := ready_dep (d := 8) rfl (by kernel_rfl) hi
          obtain rfl := h10.out rfl
          refine wpOp_via (i := 11) rfl rfl (fun K hK => ?_)
          go_simp
          refine (of_dy u d' ld cd k _).mono ?_
          rintro z W2 ⟨rfl, b4⟩
          go_simp
          exact hK.out _ _ ⟨ll0, ll1, ll2, ll3, ll4, ll5, ll6, ll7, true, ll9, true, true, ll12, ll13, ll14, ll15, u24, u25, u26, u27, u28, u29, u30, u31, u32, u33, _, _, u11, u12, u13, u14, rfl, rfl, below_trans bel b4, h0, h1, h2, h3, h4, h5, h6, h7, h8, h9, fun _ => rfl, fun _ => rfl, fun h => (h12.out h).later b4, fun h => (h13.out h).later b4, fun h => (h14.out h).later b4, fun h => (h15.out h).later b4, e1, e2, e4, e5, e7, e8, e10, fun _ => ⟨rfl, rfl⟩, d12_13, d12_14, d12_15, d13_14, d13_15, d14_15⟩
        | 12, _, hi =>
          refine wpOp_via (i := 12) rfl rfl (fun K hK => ?_)
          have bz := below_alloc W (.cells #[.bool false, .slice none 0 0, .int .i64 0] 66)
          go_simp
          exact hK.out _ _ ⟨ll0, ll1, ll2, ll3, ll4, ll5, ll6, ll7, ll8, ll9, ll10, ll11, true, ll13, ll14, ll15, u24, u25, u26, u27, u28, u29, u30, u31, u32, u33, u34, u35, _, u12, u13, u14, rfl, rfl, below_trans bel bz, h0, h1, h2, h3, h4, h5, h6, h7, h8, h9, h10, h11, fun _ => newL_new W _ 66 bel.size, fun h => (h13.out h).later bz, fun h => (h14.out h).later bz, fun h => (h15.out h).later bz, e1, e2, e4, e5, e7, e8, e10, e11, fun _ h => (newL_ne (h13.out h)).symm, fun _ h => (newL_ne (h14.out h)).symm, fun _ h => (newL_ne (h15.out h)).symm, d13_14, d13_15, d14_15⟩
        | 13, _, hi =>
          refine wpOp_via (i := 13) rfl rfl (fun K hK => ?_)
          have bz := below_alloc W (.cells #[.bool false, .slice none 0 0, .int .i64 0] 66)
          go_simp
          exact hK.out _ _ ⟨ll0, ll1, ll2, ll3, ll4, ll5, ll6, ll7, ll8, ll9, ll10, ll11, ll12, true, ll14, ll15, u24, u25, u26, u27, u28, u29, u30, u31, u32, u33, u34, u35, u11, _, u13, u14, rfl, rfl, below_trans bel bz, h0, h1, h2, h3, h4, h5, h6, h7, h8, h9, h10, h11, fun h => (h12.out h).later bz, fun _ => newL_new W _ 66 bel.size, fun h => (h14.out h).later bz, fun h => (h15.out h).later bz, e1, e2, e4, e5, e7, e8, e10, e11, fun h _ => newL_ne (h12.out h), d12_14, d12_15, fun _ h => (newL_ne (h14.out h)).symm, fun _ h => (newL_ne (h15.out h)).symm, d14_15⟩
        | 14, _, hi =>
          refine wpOp_via (i := 14) rfl rfl (fun K hK => ?_)
          have bz := below_alloc W (.cells #[.bool false, .slice none 0 0, .int .i64 0] 66)
          go_simp
          exact hK.out _ _ ⟨ll0, ll1, ll2, ll3, ll4, ll5, ll6, ll7, ll8, ll9, ll10, ll11, ll12, ll13, true, ll15, u24, u25, u26, u27, u28, u29, u30, u31, u32, u33, u34, u35, u11, u12, _, u14, rfl, rfl, below_trans bel bz, h0, h1, h2, h3, h4, h5, h6, h7, h8, h9, h10, h11, fun h => (h12.out h).later bz, fun h => (h13.out h).later bz, fun _ => newL_new W _ 66 bel.size, fun h => (h15.out h).later bz, e1, e2, e4, e5, e7, e8, e10, e11, d12_13, fun h _ => newL_ne (h12.out h), d12_15, fun h _ => newL_ne (h13.out h), d13_15, fun _ h => (newL_ne (h15.out h)).symm⟩
        | 15, _, hi =>
          refine wpOp_via (i := 15) rfl rfl (fun K hK => ?_)
          have bz := below_alloc W (.cells #[.bool false, .slice none 0 0, .int .i64 0] 66)
          go_simp
          exact hK.out _ _ ⟨ll0, ll1, ll2, ll3, ll4, ll5, ll6, ll7, ll8, ll9, ll10, ll11, ll12, ll13, ll14, true, u24, u25, u26, u27, u28, u29, u30, u31, u32, u33, u34, u35, u11, u12, u13, _, rfl, rfl, below_trans bel bz, h0, h1, h2, h3, h4, h5, h6, h7, h8, h9, h10, h11, fun h => (h12.out h).later bz, fun h => (h13.out h).later bz, fun h => (h14.out h).later bz, fun _ => newL_new W _ 66 bel.size, e1, e2, e4, e5, e7, e8, e10, e11, d12_13, d12_14, fun h _ => newL_ne (h12.out h), d13_14, fun h _ => newL_ne (h13.out h), fun h _ => newL_ne (h14.out h)⟩
        | 16, _, hi =>
          exfalso
          apply hne
          obtain rfl : ll11 = true := ready_dep (d := 11) rfl (by kernel_rfl) hi
          obtain rfl : ll12 = true := ready_dep (d := 12) rfl (by kernel_rfl) hi
          obtain rfl : ll13 = true := ready_dep (d := 13) rfl (by kernel_rfl) hi
          obtain rfl : ll14 = true := ready_dep (d := 14) rfl (by kernel_rfl) hi
          obtain rfl : ll15 = true := ready_dep (d := 15) rfl (by kernel_rfl) hi
          obtain ⟨rfl, rfl⟩ := e11.out rfl
          obtain ⟨rfl, rfl⟩ := e8.out rfl
          obtain ⟨rfl, rfl⟩ := e5.out rfl
          obtain rfl := e10.out rfl
          obtain rfl := e7.out rfl
          obtain rfl := e4.out rfl
          obtain rfl := e2.out rfl
          obtain rfl := e1.out rfl
          rfl
        | 17, _, hi =>
          exact absurd (ready_dep (d := 16) rfl (by kernel_rfl) hi) (by simp)
        | 18, _, hi =>
          exact absurd (ready_dep (d := 17) rfl (by kernel_rfl) hi) (by simp)
        | 19, _, hi =>
          exact absurd (ready_dep (d := 18) rfl (by kernel_rfl) hi) (by simp)
        | i + 20, hlt, _ => exact absurd hlt (by simp)
    case hend =>
      rintro a W ⟨ll0, ll1, ll2, ll3, ll4, ll5, ll6, ll7, ll8, ll9, ll10, ll11, ll12, ll13, ll14, ll15, u24, u25, u26, u27, u28, u29, u30, u31, u32, u33, u34, u35, u11, u12, u13, u14, hl, rfl, bel, h0, h1, h2, h3, h4, h5, h6, h7, h8, h9, h10, h11, h12, h13, h14, h15, e1, e2, e4, e5, e7, e8, e10, e11, d12_13, d12_14, d12_15, d13_14, d13_15, d14_15⟩
      have hl := congrArg Array.toList hl
      simp only [List.cons.injEq, and_true] at hl
      obtain ⟨rfl, rfl, rfl, rfl, rfl, rfl, rfl, rfl, rfl, rfl, rfl, rfl, rfl, rfl, rfl, rfl⟩ := hl
      obtain rfl := h0 rfl
      obtain rfl := h1 rfl
      obtain rfl := h2 rfl
      obtain rfl := h3 rfl
      obtain rfl := h4 rfl
      obtain rfl := h5 rfl
      obtain rfl := h6 rfl
      obtain rfl := h7 rfl
      obtain rfl := h8 rfl
      obtain rfl := h9 rfl
      obtain rfl := h10 rfl
      obtain rfl := h11 rfl
      obtain ⟨q12, rfl, hb12, z12⟩ := h12 rfl
      obtain ⟨q13, rfl, hb13, z13⟩ := h13 rfl
      obtain ⟨q14, rfl, hb14, z14⟩ := h14 rfl
      obtain ⟨q15, rfl, hb15, z15⟩ := h15 rfl
      have n12_13 : q12 ≠ q13 := fun h => d12_13 rfl rfl (by rw [h])
      have n12_14 : q12 ≠ q14 := fun h => d12_14 rfl rfl (by rw [h])
      have n12_15 : q12 ≠ q15 := fun h => d12_15 rfl rfl (by rw [h])
      have n13_14 : q13 ≠ q14 := fun h => d13_14 rfl rfl (by rw [h])
      have n13_15 : q13 ≠ q15 := fun h => d13_15 rfl rfl (by rw [h])
      have n14_15 : q14 ≠ q15 := fun h => d14_15 rfl rfl (by rw [h])
      clear hl e1 e2 e4 e5 e7 e8 e10 e11 d12_13 d12_14 d12_15 d13_14 d13_15 d14_15
      obtain ⟨hx0, ⟨p00, p01, p02⟩, f00, f01, f02⟩ := id z12
      refine wpAny_one (i := 16) (by kernel_rfl) (wpOp_via (i := 16) rfl rfl (fun K hK => ?_))
      go_simp
      refine hK.out _ _ ?_
      clear hK
      have y12 := loc_set z12 (.bool s) (.slice ao la ca) (.int .i64 e)
      have y13 := z13.apart (c := q12) n12_13 (.bool s) (.slice ao la ca) (.int .i64 e)
      have y14 := z14.apart (c := q12) n12_14 (.bool s) (.slice ao la ca) (.int .i64 e)
      have y15 := z15.apart (c := q12) n12_15 (.bool s) (.slice ao la ca) (.int .i64 e)
      have bl0 := below_set3 bel hb12 (.bool s) (.slice ao la ca) (.int .i64 e)
      clear z12 z13 z14 z15 hx0 p00 p01 p02 f00 f01 f02
      generalize (((W.setCell ⟨q12, 0, none⟩ (.bool s)).setCell ⟨q12, 1, none⟩ (.slice ao la ca)).setCell ⟨q12, 2, none⟩ (.int .i64 e)) = W1 at y12 y13 y14 y15 bl0 ⊢
      have z12 := y12
      have z13 := y13
      have z14 := y14
      have z15 := y15
      clear y12 y13 y14 y15
      obtain ⟨hx1, ⟨p10, p11, p12⟩, f10, f11, f12⟩ := id z13
      refine wpAny_one (i := 17) (by kernel_rfl) (wpOp_via (i := 17) rfl rfl (fun K hK => ?_))
      go_simp
      refine hK.out _ _ ?_
      clear hK
      have y13 := loc_set z13 (.bool t) (.slice bo lb cb) (.int .i64 f)
      have y12 := z12.apart (c := q13) n12_13.symm (.bool t) (.slice bo lb cb) (.int .i64 f)
      have y14 := z14.apart (c := q13) n13_14 (.bool t) (.slice bo lb cb) (.int .i64 f)
      have y15 := z15.apart (c := q13) n13_15 (.bool t) (.slice bo lb cb) (.int .i64 f)
      have bl1 := below_set3 bl0 hb13 (.bool t) (.slice bo lb cb) (.int .i64 f)
      clear z12 z13 z14 z15 hx1 p10 p11 p12 f10 f11 f12
      generalize (((W1.setCell ⟨q13, 0, none⟩ (.bool t)).setCell ⟨q13, 1, none⟩ (.slice bo lb cb)).setCell ⟨q13, 2, none⟩ (.int .i64 f)) = W2 at y12 y13 y14 y15 bl1 ⊢
      have z12 := y12
      have z13 := y13
      have z14 := y14
      have z15 := y15
      clear y12 y13 y14 y15
      obtain ⟨hx2, ⟨p20, p21, p22⟩, f20, f21, f22⟩ := id z14
      refine wpAny_one (i := 18) (by kernel_rfl) (wpOp_via (i := 18) rfl rfl (fun K hK => ?_))
      go_simp
      refine hK.out _ _ ?_
      clear hK
      have y14 := loc_set z14 (.bool r) (.slice co lc cc) (.int .i64 g)
      have y12 := z12.apart (c := q14) n12_14.symm (.bool r) (.slice co lc cc) (.int .i64 g)
      have y13 := z13.apart (c := q14) n13_14.symm (.bool r) (.slice co lc cc) (.int .i64 g)
      have y15 := z15.apart (c := q14) n14_15 (.bool r) (.slice co lc cc) (.int .i64 g)
      have bl2 := below_set3 bl1 hb14 (.bool r) (.slice co lc cc) (.int .i64 g)
      clear z12 z13 z14 z15 hx2 p20 p21 p22 f20 f21 f22
      generalize (((W2.setCell ⟨q14, 0, none⟩ (.bool r)).setCell ⟨q14, 1, none⟩ (.slice co lc cc)).setCell ⟨q14, 2, none⟩ (.int .i64 g)) = W3 at y12 y13 y14 y15 bl2 ⊢
      have z12 := y12
      have z13 := y13
      have z14 := y14
      have z15 := y15
      clear y12 y13 y14 y15
      obtain ⟨hx3, ⟨p30, p31, p32⟩, f30, f31, f32⟩ := id z15
      refine wpAny_one (i := 19) (by kernel_rfl) (wpOp_via (i := 19) rfl rfl (fun K hK => ?_))
      go_simp
      refine hK.out _ _ ?_
      clear hK
      have y15 := loc_set z15 (.bool u) (.slice d' ld cd) (.int .i64 k)
      have y12 := z12.apart (c := q15) n12_15.symm (.bool u) (.slice d' ld cd) (.int .i64 k)
      have y13 := z13.apart (c := q15) n13_15.symm (.bool u) (.slice d' ld cd) (.int .i64 k)
      have y14 := z14.apart (c := q15) n14_15.symm (.bool u) (.slice d' ld cd) (.int .i64 k)
      have bl3 := below_set3 bl2 hb15 (.bool u) (.slice d' ld cd) (.int .i64 k)
      clear z12 z13 z14 z15 hx3 p30 p31 p32 f30 f31 f32
      generalize (((W3.setCell ⟨q15, 0, none⟩ (.bool u)).setCell ⟨q15, 1, none⟩ (.slice d' ld cd)).setCell ⟨q15, 2, none⟩ (.int .i64 k)) = W4 at y12 y13 y14 y15 bl3 ⊢
      have z12 := y12
      have z13 := y13
      have z14 := y14
      have z15 := y15
      clear y12 y13 y14 y15
      refine wpAny_done (by kernel_rfl) ?_
      have bd : Below W4.heap.size W4 W4.drew := (Below.refl _ _).drew
      have bx := below_trans (below_trans b03 bl3) bd
      have kx := (k3.later bl3).later bd
      have yq12 := z12.later bd
      have yq13 := z13.later bd
      have yq14 := z14.later bd
      have yq15 := z15.later bd
      obtain ⟨-, ⟨c00, c01, c02⟩, -⟩ := id yq12
      obtain ⟨-, ⟨c10, c11, c12⟩, -⟩ := id yq13
      obtain ⟨-, ⟨c20, c21, c22⟩, -⟩ := id yq14
      obtain ⟨-, ⟨c30, c31, c32⟩, -⟩ := id yq15
      have eq0 : RB ≠ q12 := by have := k3.1; omega
      have er0 : q12 ≠ RB := by have := k3.1; omega
      have eq1 : RB ≠ q13 := by have := k3.1; omega
      have er1 : q13 ≠ RB := by have := k3.1; omega
      have eq2 : RB ≠ q14 := by have := k3.1; omega
      have er2 : q14 ≠ RB := by have := k3.1; omega
      have eq3 : RB ≠ q15 := by have := k3.1; omega
      have er3 : q15 ≠ RB := by have := k3.1; omega
      clear b03 bl3 k3 bd z12 z13 z14 z15 l3 m3 bel bl0 bl1 bl2 hb12 hb13 hb14 hb15 n12_13 n12_14 n12_15 n13_14 n13_15 n14_15
      obtain ⟨⟨rs, rn, re⟩, ⟨qs, qn, qe⟩, rc⟩ := R
      go_goals
      go_wp2_with fail
      go_region_held3 (fun wq => (wq.cell? ⟨q12, 0, none⟩ = some (.bool s) ∧ wq.cell? ⟨q12, 1, none⟩ = some (.slice ao la ca) ∧ wq.cell? ⟨q12, 2, none⟩ = some (.int .i64 e)) ∧ (wq.cell? ⟨q13, 0, none⟩ = some (.bool t) ∧ wq.cell? ⟨q13, 1, none⟩ = some (.slice bo lb cb) ∧ wq.cell? ⟨q13, 2, none⟩ = some (.int .i64 f)) ∧ (wq.cell? ⟨q14, 0, none⟩ = some (.bool r) ∧ wq.cell? ⟨q14, 1, none⟩ = some (.slice co lc cc) ∧ wq.cell? ⟨q14, 2, none⟩ = some (.int .i64 g)) ∧ (wq.cell? ⟨q15, 0, none⟩ = some (.bool u) ∧ wq.cell? ⟨q15, 1, none⟩ = some (.slice d' ld cd) ∧ wq.cell? ⟨q15, 2, none⟩ = some (.int .i64 k))) (go_keep) (first
        | ((with_reducible (refine (HF0.out _ bx).mono ?_)); rintro z wa ⟨va, rfl, o0a, ba1⟩; have ba := below_trans bx ba1; have ka := kx.later ba1; have yaq12 := yq12.later ba1; have yaq13 := yq13.later ba1; have yaq14 := yq14.later ba1; have yaq15 := yq15.later ba1; obtain ⟨-, ⟨ca00, ca01, ca02⟩, -⟩ := id yaq12; obtain ⟨-, ⟨ca10, ca11, ca12⟩, -⟩ := id yaq13; obtain ⟨-, ⟨ca20, ca21, ca22⟩, -⟩ := id yaq14; obtain ⟨-, ⟨ca30, ca31, ca32⟩, -⟩ := id yaq15; obtain ⟨ao0, ca0, hv0⟩ := o0a.rd.shape; subst hv0; clear bx kx ba1)
        | ((with_reducible (refine (HF1.out _ ba).mono ?_)); rintro z wb ⟨vb, rfl, o1b, bb1⟩; have bb := below_trans ba bb1; have kb := ka.later bb1; have ybq12 := yaq12.later bb1; have ybq13 := yaq13.later bb1; have ybq14 := yaq14.later bb1; have ybq15 := yaq15.later bb1; obtain ⟨-, ⟨cb00, cb01, cb02⟩, -⟩ := id ybq12; obtain ⟨-, ⟨cb10, cb11, cb12⟩, -⟩ := id ybq13; obtain ⟨-, ⟨cb20, cb21, cb22⟩, -⟩ := id ybq14; obtain ⟨-, ⟨cb30, cb31, cb32⟩, -⟩ := id ybq15; obtain ⟨ao1, ca1, hv1⟩ := o1b.rd.shape; subst hv1; have o0b := o0a.later bb1; clear ba ka bb1)
        | ((with_reducible (refine (HF2.out _ bb).mono ?_)); rintro z wc ⟨vc, rfl, o2c, bc1⟩; have bc := below_trans bb bc1; have kc := kb.later bc1; have ycq12 := ybq12.later bc1; have ycq13 := ybq13.later bc1; have ycq14 := ybq14.later bc1; have ycq15 := ybq15.later bc1; obtain ⟨-, ⟨cc00, cc01, cc02⟩, -⟩ := id ycq12; obtain ⟨-, ⟨cc10, cc11, cc12⟩, -⟩ := id ycq13; obtain ⟨-, ⟨cc20, cc21, cc22⟩, -⟩ := id ycq14; obtain ⟨-, ⟨cc30, cc31, cc32⟩, -⟩ := id ycq15; obtain ⟨ao2, ca2, hv2⟩ := o2c.rd.shape; subst hv2; have o0c := o0b.later bc1; have o1c := o1b.later bc1; clear bb kb bc1)
        | ((with_reducible (refine (HF3.out _ bc).mono ?_)); rintro z wd ⟨vd, rfl, o3d, bd1⟩; have bd := below_trans bc bd1; have kd := kc.later bd1; have ydq12 := ycq12.later bd1; have ydq13 := ycq13.later bd1; have ydq14 := ycq14.later bd1; have ydq15 := ycq15.later bd1; obtain ⟨-, ⟨cd00, cd01, cd02⟩, -⟩ := id ydq12; obtain ⟨-, ⟨cd10, cd11, cd12⟩, -⟩ := id ydq13; obtain ⟨-, ⟨cd20, cd21, cd22⟩, -⟩ := id ydq14; obtain ⟨-, ⟨cd30, cd31, cd32⟩, -⟩ := id ydq15; obtain ⟨ao3, ca3, hv3⟩ := o3d.rd.shape; subst hv3; have o0d := o0c.later bd1; have o1d := o1c.later bd1; have o2d := o2c.later bd1; clear bc kc bd1)
        | (go_at_call 27; have bs := below_alloc wd (.cells #[.bool (x 0).s, .slice ao0 (Dg.dg 4294967296 (x 0).n).length ca0, .int .i64 (x 0).e, .bool (x 1).s, .slice ao1 (Dg.dg 4294967296 (x 1).n).length ca1, .int .i64 (x 1).e, .bool (x 2).s, .slice ao2 (Dg.dg 4294967296 (x 2).n).length ca2, .int .i64 (x 2).e, .bool (x 3).s, .slice ao3 (Dg.dg 4294967296 (x 3).n).length ca3, .int .i64 (x 3).e] 66); have be := below_trans bd bs; have ke := kd.later bs; have o0e := o0d.later bs; have o1e := o1d.later bs; have o2e := o2d.later bs; have o3e := o3d.later bs; refine (HL.out wd.heap.size (fun j => match j with | 0 => ao0 | 1 => ao1 | 2 => ao2 | _ => ao3) (fun j => match j with | 0 => ca0 | 1 => ca1 | 2 => ca2 | _ => ca3) _ be (by simp [World.size_alloc]) (by intro j hj; match j, hj with | 0, _ => exact ⟨by rw [World.cell?_alloc_at _ _ _ _ rfl]; rfl, by rw [World.cell?_alloc_at _ _ _ _ rfl]; rfl, by rw [World.cell?_alloc_at _ _ _ _ rfl]; rfl, o0e.rd⟩ | 1, _ => exact ⟨by rw [World.cell?_alloc_at _ _ _ _ rfl]; rfl, by rw [World.cell?_alloc_at _ _ _ _ rfl]; rfl, by rw [World.cell?_alloc_at _ _ _ _ rfl]; rfl, o1e.rd⟩ | 2, _ => exact ⟨by rw [World.cell?_alloc_at _ _ _ _ rfl]; rfl, by rw [World.cell?_alloc_at _ _ _ _ rfl]; rfl, by rw [World.cell?_alloc_at _ _ _ _ rfl]; rfl, o2e.rd⟩ | 3, _ => exact ⟨by rw [World.cell?_alloc_at _ _ _ _ rfl]; rfl, by rw [World.cell?_alloc_at _ _ _ _ rfl]; rfl, by rw [World.cell?_alloc_at _ _ _ _ rfl]; rfl, o3e.rd⟩)).mono ?_; rintro z wf ⟨pp, qq, rfl, op, oq, bf1⟩; have bf := below_trans be bf1; have kf := ke.later bf1; have hlt := ke.1; obtain ⟨po, pc, hp⟩ := op.rd.shape; subst hp; obtain ⟨qo, qc, hq⟩ := oq.rd.shape; subst hq; obtain ⟨hl, ⟨g0, g1, g2, g3, g4, g5⟩, f0, f1, f2, f3, f4, f5⟩ := id kf; have yfq12 := (ydq12.later bs).later bf1; have yfq13 := (ydq13.later bs).later bf1; have yfq14 := (ydq14.later bs).later bf1; have yfq15 := (ydq15.later bs).later bf1; obtain ⟨-, ⟨cf00, cf01, cf02⟩, -⟩ := id yfq12; obtain ⟨-, ⟨cf10, cf11, cf12⟩, -⟩ := id yfq13; obtain ⟨-, ⟨cf20, cf21, cf22⟩, -⟩ := id yfq14; obtain ⟨-, ⟨cf30, cf31, cf32⟩, -⟩ := id yfq15))
      all_goals go_wp2
      obtain ⟨-, ⟨u0, u1, u2, u3, u4, u5⟩, -⟩ := loc6_set kf (.bool rs) (.slice po (Dg.dg 4294967296 rn).length pc) (.int .i64 re) (.bool qs) (.slice qo (Dg.dg 4294967296 qn).length qc) (.int .i64 qe)
      have bb := below_set6 bf hrb (.bool rs) (.slice po (Dg.dg 4294967296 rn).length pc) (.int .i64 re) (.bool qs) (.slice qo (Dg.dg 4294967296 qn).length qc) (.int .i64 qe)
      refine bodyPost_ret (v := .tuple #[.agg #[.bool rs, .slice po (Dg.dg 4294967296 rn).length pc, .int .i64 re, .bool qs, .slice qo (Dg.dg 4294967296 qn).length qc, .int .i64 qe], .int .i64 rc]) (by simp [results, Tryz.results71, go_sem, u0, u1, u2, u3, u4, u5]) rfl ?_
      exact ⟨_, _, rfl, ((op.apart6 hlt _ _ _ _ _ _).lower be.size), ((oq.apart6 hlt _ _ _ _ _ _).lower be.size), bb⟩
  · rw [if_neg hc]
    go_enter Tryz.func71, Tryz.ntmps71
    go_wp2_with fail
    refine HW2.mono ?_
    rintro z w3 ⟨rfl, b3⟩
    have k3 := k2.later b3
    have b03 := below_trans b2 b3
    clear l2 m2 k2 b2 b3 HW2
    obtain ⟨hl, ⟨v0, v1, v2, v3, v4, v5⟩, f0, f1, f2, f3, f4, f5⟩ := id k3
    go_wp2
    obtain ⟨-, ⟨u0, u1, u2, u3, u4, u5⟩, -⟩ := loc6_set k3 (.bool false) (.slice none 0 0) (.int .i64 0) (.bool false) (.slice none 0 0) (.int .i64 0)
    have bb := below_set6 b03 (show w.heap.size ≤ w.heap.size + 1 + 1 by omega) (.bool false) (.slice none 0 0) (.int .i64 0) (.bool false) (.slice none 0 0) (.int .i64 0)
    refine bodyPost_ret (v := .tuple #[.agg #[.bool false, .slice none 0 0, .int .i64 0, .bool false, .slice none 0 0, .int .i64 0], .int .i64 c]) (by simp [results, Tryz.results71, go_sem, u0, u1, u2, u3, u4, u5]) rfl ?_
    exact ⟨_, _, rfl, own_nil _ _ _ _, own_nil _ _ _ _, bb⟩
end Go.Proofs.YtmjhlflemfkflaaGreatDoor

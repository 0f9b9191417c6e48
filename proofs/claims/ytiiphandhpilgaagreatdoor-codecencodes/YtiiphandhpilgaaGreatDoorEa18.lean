/-
  Texts laid together: Co14, Cr1, Cr2, Ref7, Fro.
-/
import Derived.Deep.RegionWith
import Derived.Test.YtiiphandhpilgaaGreatDoorEa17
import Derived.Test.YtiiphandhpilgaaGreatDoorEa15
import Derived.Test.YtiiphandhpilgaaGreatDoorEa05
import Derived.Test.YtiiphandhpilgaaGreatDoorEa07
namespace Go.Proofs.YtiiphandhpilgaaGreatDoor
open Go.RowKit
theorem LocE.grown {w w' : World} {b g : Nat} {ty : TypeId} {vs : List Value} (h : LocE w b ty vs) (hg : w.grownBy w' (some g)) (hne : b ≠ g) : LocE w' b ty vs :=
  (hg.block b h.lt (fun e => hne (Option.some.inj e))).trans h

set_option maxRecDepth 100000 in
set_option maxHeartbeats 12800000 in
theorem cread_W (R D L G fam : Int) (gr : Bool) (sz ex fr : Nat) (F : Nat) (s : ByteArray) (ts : List Nat) (w : World) (hs : s.size = sz) (hlen : ts.length = sz) (hsm : Dg.Small 256 ts) (hfr : 1 + ex + fr = 8 * sz) (hex : ex ≤ 15) (hsz : sz ≤ 10) (hfr64 : fr ≤ 64)
    (HT : ∀ g cap w1, BRow w1 g (bytesOf s) → Calls Tryz.prog F #[.slice (some ⟨g, 0, none⟩) sz cap] w1 fun z w' => z = .returned (.tuple #[]) ∧ BRow w' g ts ∧ w1.grownBy w' (some g))
    (HFR : ∀ w1, Calls Tryz.prog 92 #[.agg #[.int .i64 R, .int .i64 D, .int .i64 L, .int .i64 G, .bool gr, .int .i64 (sz : Int), .int .i64 (ex : Int), .int .i64 fam, .func (.func F) #[] #[]]] w1 fun z w' => z = .returned (.int .i64 (fr : Int)) ∧ Below w1.heap.size w1 w')
    (HE : ∀ args W, Sem.run Tryz.prog (callFunc F args) W = .ok (.enter F args) W) :
    Calls Tryz.prog 64 #[.agg #[.int .i64 R, .int .i64 D, .int .i64 L, .int .i64 G, .bool gr, .int .i64 (sz : Int), .int .i64 (ex : Int), .int .i64 fam, .func (.func F) #[] #[]], .string s] w fun z w' => z = .returned (.agg #[.bool (decide (bitsV ts 0 1 = 1)), .int .i64 ((bitsV ts 1 ex : Nat) : Int), .int .u64 ((bitsV ts (1 + ex) fr : Nat) : Int)]) ∧ Below w.heap.size w w' := by
  have hsf : ∀ (a : Addr) (W : World) (g : Fn), (store a (Value.func g #[] #[])).run Tryz.prog W = stored Tryz.prog W a (Value.func g #[] #[]) .plain := fun a W g => run_store _ W a _ _ rfl
  have l0 := (locE_new w [.int .i64 R, .int .i64 D, .int .i64 L, .int .i64 G, .bool gr, .int .i64 (sz : Int), .int .i64 (ex : Int), .int .i64 fam, .func (.func F) #[] #[]] 63).later (below_alloc _ (.cells #[.bool false, .int .i64 0, .int .u64 0] 82))
  have m0 := locE_new (w.alloc (.cells #[.int .i64 R, .int .i64 D, .int .i64 L, .int .i64 G, .bool gr, .int .i64 (sz : Int), .int .i64 (ex : Int), .int .i64 fam, .func (.func F) #[] #[]] 63)) [.bool false, .int .i64 0, .int .u64 0] 82
  have b0 := below_trans (below_alloc w (.cells #[.int .i64 R, .int .i64 D, .int .i64 L, .int .i64 G, .bool gr, .int .i64 (sz : Int), .int .i64 (ex : Int), .int .i64 fam, .func (.func F) #[] #[]] 63)) (below_alloc _ (.cells #[.bool false, .int .i64 0, .int .u64 0] 82))
  rw [World.size_alloc] at m0
  have H2 : ((w.alloc (.cells #[.int .i64 R, .int .i64 D, .int .i64 L, .int .i64 G, .bool gr, .int .i64 (sz : Int), .int .i64 (ex : Int), .int .i64 fam, .func (.func F) #[] #[]] 63)).alloc (.cells #[.bool false, .int .i64 0, .int .u64 0] 82)).heap.size = w.heap.size + 2 := by rw [World.size_alloc, World.size_alloc]
  obtain ⟨W1, cap, hrun, hrow, hbel⟩ := bytes_run (P := Tryz.prog) ((w.alloc (.cells #[.int .i64 R, .int .i64 D, .int .i64 L, .int .i64 G, .bool gr, .int .i64 (sz : Int), .int .i64 (ex : Int), .int .i64 fam, .func (.func F) #[] #[]] 63)).alloc (.cells #[.bool false, .int .i64 0, .int .u64 0] 82)) 9 77 5 s Tryz.underlying9 Tryz.underlying77 Tryz.underlying5
  have l1 := l0.later hbel
  have m1 := m0.later hbel
  have b1 := below_trans b0 hbel
  rw [H2] at hrun hrow
  rw [hs] at hrun
  obtain ⟨g, hg⟩ : ∃ g, w.heap.size + 2 = g := ⟨_, rfl⟩
  rw [hg] at hrun hrow
  have x8 := l1.cell 8 rfl
  have HT' : Hid (∀ g cap w1, BRow w1 g (bytesOf s) → Calls Tryz.prog F #[.slice (some ⟨g, 0, none⟩) sz cap] w1 fun z w' => z = .returned (.tuple #[]) ∧ BRow w' g ts ∧ w1.grownBy w' (some g)) := HT
  have HFR' : Hid (∀ w1, Calls Tryz.prog 92 #[.agg #[.int .i64 R, .int .i64 D, .int .i64 L, .int .i64 G, .bool gr, .int .i64 (sz : Int), .int .i64 (ex : Int), .int .i64 fam, .func (.func F) #[] #[]]] w1 fun z w' => z = .returned (.int .i64 (fr : Int)) ∧ Below w1.heap.size w1 w') := HFR
  have HHg : Hid (_ = _) := hg
  have HL : Hid (_ ∧ _) := ⟨hlen, hfr⟩
  obtain ⟨n0, hn0⟩ : ∃ n, bitsV ts 0 1 = n := ⟨_, rfl⟩
  obtain ⟨n1, hn1⟩ : ∃ n, bitsV ts 1 ex = n := ⟨_, rfl⟩
  obtain ⟨n2, hn2⟩ : ∃ n, bitsV ts (1 + ex) fr = n := ⟨_, rfl⟩
  rw [hn0, hn1, hn2]
  have HN : Hid (_ ∧ _ ∧ _) := ⟨hn0, hn1, hn2⟩
  have hd0 : ((n0 : Int) == 1) = decide (n0 = 1) := by
    by_cases h : n0 = 1
    · subst h; rfl
    · rw [decide_eq_false h]; simp; omega
  obtain ⟨q0, hq0⟩ : ∃ q, decide (n0 = 1) = q := ⟨_, rfl⟩
  rw [hq0] at hd0 ⊢
  clear HT HFR hg hlen hfr hn0 hn1 hn2 hq0
  go_enter Tryz.func64, Tryz.ntmps64
  go_wp2_with fail
  refine (HT'.out _ _ _ hrow).mono ?_
  rintro z w2 ⟨rfl, r2, g2⟩
  have hgg := HHg.out
  have l2 := (l1.grown g2 (by omega)).drew
  have m2 := (m1.grown g2 (by omega)).drew
  have b2 := (b1.grown g2 b1.size (fun k h => by cases h; omega)).drew
  have r2' := r2.drew
  obtain ⟨hlen, hfr⟩ := HL.out
  have HB0 : Hid (∀ w1, BRow w1 g ts → Calls Tryz.prog 93 #[.slice (some ⟨g, 0, none⟩) sz cap, .int .i64 0, .int .i64 1] w1 fun z w' => z = .returned (.int .u64 ((bitsV ts 0 1 : Nat) : Int)) ∧ w1 = w') := fun w1 h => by
    have := cbits_any g cap ts 0 1 w1 h hsm (by omega) (by omega) (by omega)
    rw [hlen] at this
    exact this.mono (fun _ _ h => ⟨h.1, h.2.symm⟩)
  have HB1 : Hid (∀ w1, BRow w1 g ts → Calls Tryz.prog 93 #[.slice (some ⟨g, 0, none⟩) sz cap, .int .i64 1, .int .i64 (ex : Int)] w1 fun z w' => z = .returned (.int .u64 ((bitsV ts 1 ex : Nat) : Int)) ∧ w1 = w') := fun w1 h => by
    have := cbits_any g cap ts 1 ex w1 h hsm (by omega) (by omega) (by omega)
    rw [hlen] at this
    exact this.mono (fun _ _ h => ⟨h.1, h.2.symm⟩)
  have HB2 : Hid (∀ w1, BRow w1 g ts → Calls Tryz.prog 93 #[.slice (some ⟨g, 0, none⟩) sz cap, .int .i64 (1 + (ex : Int)), .int .i64 (fr : Int)] w1 fun z w' => z = .returned (.int .u64 ((bitsV ts (1 + ex) fr : Nat) : Int)) ∧ w1 = w') := fun w1 h => by
    have := cbits_any g cap ts (1 + ex) fr w1 h hsm (by omega) (by omega) (by omega)
    rw [hlen, show (((1 + ex : Nat) : Nat) : Int) = 1 + (ex : Int) from by omega] at this
    exact this.mono (fun _ _ h => ⟨h.1, h.2.symm⟩)
  have h1l := bitsV_lt ts 1 ex
  have h1p : (2 : Nat) ^ ex ≤ 2 ^ 15 := Nat.pow_le_pow_right (by omega) hex
  obtain ⟨hn0, hn1, hn2⟩ := HN.out
  rw [hn0] at HB0
  rw [hn1] at HB1 h1l
  rw [hn2] at HB2
  have hn1b : n1 < 32768 := by omega
  clear hn0 hn1 hn2 h1l h1p hlen hfr l0 l1 m0 m1 b0 b1 r2 hrow hrun hbel x8 H2 hgg
  have hexI : (ex : Int) ≤ 15 := by omega
  have hwr : IntKind.i64.wrap (1 + (ex : Int)) = 1 + (ex : Int) := IntWalk.i64_in _ ⟨by omega, by omega⟩
  have hwn : IntKind.i64.wrap (n1 : Int) = (n1 : Int) := IntWalk.i64_in _ ⟨by omega, by omega⟩
  have x0 := l2.cell 0 rfl; have x1 := l2.cell 1 rfl; have x2 := l2.cell 2 rfl; have x3 := l2.cell 3 rfl; have x4 := l2.cell 4 rfl; have x5 := l2.cell 5 rfl; have x6 := l2.cell 6 rfl; have x7 := l2.cell 7 rfl; have x8 := l2.cell 8 rfl
  go_wp2_with fail
  go_region_held3 (fun wq => wq.cell? ⟨w.heap.size, 0, none⟩ = some (.int .i64 R) ∧ wq.cell? ⟨w.heap.size, 1, none⟩ = some (.int .i64 D) ∧ wq.cell? ⟨w.heap.size, 2, none⟩ = some (.int .i64 L) ∧ wq.cell? ⟨w.heap.size, 3, none⟩ = some (.int .i64 G) ∧ wq.cell? ⟨w.heap.size, 4, none⟩ = some (.bool gr) ∧ wq.cell? ⟨w.heap.size, 5, none⟩ = some (.int .i64 (sz : Int)) ∧ wq.cell? ⟨w.heap.size, 6, none⟩ = some (.int .i64 (ex : Int)) ∧ wq.cell? ⟨w.heap.size, 7, none⟩ = some (.int .i64 fam) ∧ wq.cell? ⟨w.heap.size, 8, none⟩ = some (.func (.func F) #[] #[])) (go_keep) (first
    | (go_at_call 92; refine (HFR'.out _).mono ?_; rintro z w5 ⟨rfl, b5⟩; have l5 := l2.later b5; have m5 := m2.later b5; have b05 := below_trans b2 b5; have r5 := r2'.later b5; have y0 := l5.cell 0 rfl; have y1 := l5.cell 1 rfl; have y2 := l5.cell 2 rfl; have y3 := l5.cell 3 rfl; have y4 := l5.cell 4 rfl; have y5 := l5.cell 5 rfl; have y6 := l5.cell 6 rfl; have y7 := l5.cell 7 rfl; have y8 := l5.cell 8 rfl; have u0 := m5.cell 0 rfl; have u1 := m5.cell 1 rfl; have u2 := m5.cell 2 rfl; have f0 := m5.free 0; have f1 := m5.free 1; have f2 := m5.free 2)
    | (go_at_call 93; (with_reducible (refine (HB0.out _ (by assumption)).mono ?_)); rintro z wv ⟨rfl, rfl⟩)
    | (go_at_call 93; (with_reducible (refine (HB1.out _ (by assumption)).mono ?_)); rintro z wv ⟨rfl, rfl⟩)
    | (go_at_call 93; (with_reducible (refine (HB2.out _ (by assumption)).mono ?_)); rintro z wv ⟨rfl, rfl⟩))
  have cR : LocE (((w5.setCell ⟨w.heap.size + 1, 0, none⟩ (.bool q0)).setCell ⟨w.heap.size + 1, 1, none⟩ (.int .i64 (n1 : Int))).setCell ⟨w.heap.size + 1, 2, none⟩ (.int .u64 (n2 : Int))) (w.heap.size + 1) 82 [.bool q0, .int .i64 (n1 : Int), .int .u64 (n2 : Int)] := ((m5.set 0 (.bool q0)).set 1 (.int .i64 (n1 : Int))).set 2 (.int .u64 (n2 : Int))
  have bR := (((but_set w5 (w.heap.size + 1) 0 (.bool q0)).trans (but_set _ (w.heap.size + 1) 1 (.int .i64 (n1 : Int)))).trans (but_set _ (w.heap.size + 1) 2 (.int .u64 (n2 : Int)))).below b05 (by omega)
  have hl := run_loadVar_mid (P := Tryz.prog) _ (w.heap.size + 1) 0 82 [.bool q0, .int .i64 (n1 : Int), .int .u64 (n2 : Int)] _ cR.range Tryz.underlying82 rfl (by kernel_rfl)
  have HH : Hid (_ ∧ _) := ⟨hl, bR⟩
  clear hl bR cR l2 m2 b2 l5 m5 b05
  go_wp2
  obtain ⟨hl, bR⟩ := HH.out
  exact bodyPost_ret (results_one Tryz.results64 rfl hl) rfl ⟨rfl, bR⟩

/-- The fields of a pattern. -/
def fldB (k : Nat) (s : ByteArray) : List Nat := turnB k (bytesOf s)
def fldN (k : Nat) (s : ByteArray) : Bool := decide (bitsV (fldB k s) 0 1 = 1)
def fldE (k : Nat) (s : ByteArray) : Nat := bitsV (fldB k s) 1 (exN k)
def fldF (k : Nat) (s : ByteArray) : Nat := bitsV (fldB k s) (1 + exN k) (frN k)

theorem sizes_fit {k : Nat} (hk : 1 ≤ k ∧ k ≤ 8) : 1 + exN k + frN k = 8 * szN k ∧ exN k ≤ 15 ∧ szN k ≤ 10 ∧ frN k ≤ 64 ∧ (∃ m, szN k = 2 * m) ∧ 7 ≤ exN k := by
  rcases eight hk with rfl | rfl | rfl | rfl | rfl | rfl | rfl | rfl
  · exact ⟨by decide, by decide, by decide, by decide, ⟨2, rfl⟩, by decide⟩
  · exact ⟨by decide, by decide, by decide, by decide, ⟨4, rfl⟩, by decide⟩
  · exact ⟨by decide, by decide, by decide, by decide, ⟨5, rfl⟩, by decide⟩
  · exact ⟨by decide, by decide, by decide, by decide, ⟨2, rfl⟩, by decide⟩
  · exact ⟨by decide, by decide, by decide, by decide, ⟨4, rfl⟩, by decide⟩
  · exact ⟨by decide, by decide, by decide, by decide, ⟨2, rfl⟩, by decide⟩
  · exact ⟨by decide, by decide, by decide, by decide, ⟨4, rfl⟩, by decide⟩
  · exact ⟨by decide, by decide, by decide, by decide, ⟨4, rfl⟩, by decide⟩

theorem cread_any (k : Nat) (hk : 1 ≤ k ∧ k ≤ 8) (s : ByteArray) (w : World) (hs : s.size = szN k) :
    Calls Tryz.prog 64 #[.agg (layV k).toArray, .string s] w fun z w' => z = .returned (.agg #[.bool (fldN k s), .int .i64 ((fldE k s : Nat) : Int), .int .u64 ((fldF k s : Nat) : Int)]) ∧ Below w.heap.size w w' := by
  obtain ⟨h1, h2, h3, h4, h5, -⟩ := sizes_fit hk
  have hb := bytesOf_len s
  have HT : ∀ g cap w1, BRow w1 g (bytesOf s) → Calls Tryz.prog (turnF k) #[.slice (some ⟨g, 0, none⟩) (szN k) cap] w1 fun z w' => z = .returned (.tuple #[]) ∧ BRow w' g (fldB k s) ∧ w1.grownBy w' (some g) := fun g cap w1 h => by
    have := turnF_any k g cap (bytesOf s) w1 h (by omega) (by rw [hb, hs]; exact h5)
    rw [hb, hs] at this
    exact this
  have HF := fun w1 => lfraction_any k hk w1
  have hl : (fldB k s).length = szN k := by rw [fldB, turnB_len, hb, hs]
  have hm := turnB_small k _ (bytesOf_small s)
  have HE := fun args W => turnF_enter k args W
  unfold fldN fldE fldF
  rcases eight hk with rfl | rfl | rfl | rfl | rfl | rfl | rfl | rfl
  all_goals exact cread_W _ _ _ _ _ _ _ _ _ _ s _ w hs hl hm h1 h2 h3 h4 HT HF HE

theorem fldE_lt {k : Nat} (s : ByteArray) : fldE k s < 2 ^ exN k := bitsV_lt _ _ _
theorem fldE_small {k : Nat} (hk : 1 ≤ k ∧ k ≤ 8) (s : ByteArray) : fldE k s < 65536 := by
  have h1 := fldE_lt (k := k) s
  have h2 : (2 : Nat) ^ exN k ≤ 2 ^ 15 := Nat.pow_le_pow_right (by omega) (sizes_fit hk).2.1
  omega
theorem fldF_lt {k : Nat} (s : ByteArray) : fldF k s < 2 ^ frN k := bitsV_lt _ _ _
theorem fldF_small {k : Nat} (hk : 1 ≤ k ∧ k ≤ 8) (s : ByteArray) : fldF k s < 18446744073709551616 := by
  have h1 := fldF_lt (k := k) s
  have h2 : (2 : Nat) ^ frN k ≤ 2 ^ 64 := Nat.pow_le_pow_right (by omega) (sizes_fit hk).2.2.2.1
  omega
end Go.Proofs.YtiiphandhpilgaaGreatDoor
namespace Go.Proofs.YtiiphandhpilgaaGreatDoor
open Go.RowKit
/-- The reference's formats. -/
def fmtV : Nat → List Value
  | 1 => [.int .i64 4, .int .i64 8, .int .i64 23, .int .i64 2, .int .i64 24, .int .i64 (-149), .int .i64 104, .bool true, .int .i64 1]
  | 2 => [.int .i64 8, .int .i64 11, .int .i64 52, .int .i64 2, .int .i64 53, .int .i64 (-1074), .int .i64 971, .bool true, .int .i64 1]
  | 3 => [.int .i64 10, .int .i64 15, .int .i64 64, .int .i64 2, .int .i64 64, .int .i64 (-16445), .int .i64 16320, .bool true, .int .i64 1]
  | 4 => [.int .i64 4, .int .i64 7, .int .i64 24, .int .i64 16, .int .i64 6, .int .i64 (-70), .int .i64 57, .bool false, .int .i64 2]
  | 5 => [.int .i64 8, .int .i64 7, .int .i64 56, .int .i64 16, .int .i64 14, .int .i64 (-78), .int .i64 49, .bool false, .int .i64 2]
  | 6 => [.int .i64 4, .int .i64 8, .int .i64 23, .int .i64 2, .int .i64 24, .int .i64 (-151), .int .i64 103, .bool false, .int .i64 3]
  | 7 => [.int .i64 8, .int .i64 8, .int .i64 55, .int .i64 2, .int .i64 56, .int .i64 (-183), .int .i64 71, .bool false, .int .i64 3]
  | 8 => [.int .i64 8, .int .i64 11, .int .i64 52, .int .i64 2, .int .i64 53, .int .i64 (-1076), .int .i64 970, .bool false, .int .i64 3]
  | _ => [.int .i64 0, .int .i64 0, .int .i64 0, .int .i64 0, .int .i64 0, .int .i64 0, .int .i64 0, .bool false, .int .i64 0]

theorem format_any (k : Nat) (hk : 1 ≤ k ∧ k ≤ 8) (w : World) : Calls Tryz.prog 12 #[.int .i64 (k : Int)] w fun z w' => z = .returned (.tuple #[.agg (fmtV k).toArray, .bool true]) ∧ Below w.heap.size w w' := by
  rcases eight hk with rfl | rfl | rfl | rfl | rfl | rfl | rfl | rfl
  · exact format_1 w
  · exact format_2 w
  · exact format_3 w
  · exact format_4 w
  · exact format_5 w
  · exact format_6 w
  · exact format_7 w
  · exact format_8 w

/-- Where byte i, from the greatest on, stands. -/
def plN (k i : Nat) : Nat := if k = 3 then szN k - 1 - i else if 6 ≤ k then i + 1 - 2 * (i % 2) else i

theorem plN_at (k : Nat) (zs : List Nat) (i : Nat) (hk : zs.length = szN k) (hi : i < zs.length) : (turnB k zs).getD i 0 = zs.getD (plN k i) 0 := by
  unfold turnB plN
  by_cases h3 : k = 3
  · rw [if_pos h3, if_pos h3, List.getD_eq_getElem?_getD, List.getElem?_reverse hi, ← List.getD_eq_getElem?_getD, hk]
  · rw [if_neg h3, if_neg h3]
    by_cases h6 : 6 ≤ k
    · rw [if_pos h6, if_pos h6, turnW_at zs i hi]
    · rw [if_neg h6, if_neg h6]

theorem plN_lt {k i : Nat} (hk : 1 ≤ k ∧ k ≤ 8) (hi : i < szN k) : plN k i < szN k := by
  obtain ⟨m, hm⟩ := (sizes_fit hk).2.2.2.2.1
  unfold plN
  split
  · omega
  · split <;> omega

set_option maxRecDepth 100000 in
set_option maxHeartbeats 1600000 in
theorem place_W (n : Int) (sz ex fr : Nat) (R D L G fam : Int) (gr : Bool) (i : Nat) (w : World) (hi : i < sz) (hsz : sz ≤ 10)
    (HF : ∀ w1, Calls Tryz.prog 12 #[.int .i64 n] w1 fun z w' => z = .returned (.tuple #[.agg #[.int .i64 (sz : Int), .int .i64 (ex : Int), .int .i64 (fr : Int), .int .i64 R, .int .i64 D, .int .i64 L, .int .i64 G, .bool gr, .int .i64 fam], .bool true]) ∧ Below w1.heap.size w1 w') :
    Calls Tryz.prog 63 #[.int .i64 n, .int .i64 (i : Int)] w fun z w' => z = .returned (.int .i64 (if n = 3 then (sz : Int) - 1 - i else if fam = 3 then (i : Int) + 1 - 2 * ((i : Int) % 2) else (i : Int))) ∧ Below w.heap.size w w' := by
  have HF' : Hid (∀ w1, Calls Tryz.prog 12 #[.int .i64 n] w1 fun z w' => z = .returned (.tuple #[.agg #[.int .i64 (sz : Int), .int .i64 (ex : Int), .int .i64 (fr : Int), .int .i64 R, .int .i64 D, .int .i64 L, .int .i64 G, .bool gr, .int .i64 fam], .bool true]) ∧ Below w1.heap.size w1 w') := HF
  clear HF
  by_cases h3 : n = 3
  · subst h3
    rw [if_pos rfl]
    go_enter Tryz.func63, Tryz.ntmps63
    go_wp2_with fail
    refine (HF'.out _).mono ?_
    rintro z w1 ⟨rfl, b1⟩
    go_wp2
    go_ret
    exact ⟨by go_num, below_trans b1 (below_alloc _ _)⟩
  · have hn : (n == 3) = false := by simpa using h3
    rw [if_neg h3]
    by_cases hf : fam = 3
    · subst hf
      rw [if_pos rfl]
      clear h3
      go_enter Tryz.func63, Tryz.ntmps63
      go_wp2_with fail
      refine (HF'.out _).mono ?_
      rintro z w1 ⟨rfl, b1⟩
      go_wp2
      go_ret
      exact ⟨by go_num, below_trans b1 (below_alloc _ _)⟩
    · have hfb : (fam == 3) = false := by simpa using hf
      rw [if_neg hf]
      clear h3 hf
      go_enter Tryz.func63, Tryz.ntmps63
      go_wp2_with fail
      refine (HF'.out _).mono ?_
      rintro z w1 ⟨rfl, b1⟩
      go_wp2
      go_ret
      exact ⟨rfl, below_trans b1 (below_alloc _ _)⟩

theorem place_any (k : Nat) (hk : 1 ≤ k ∧ k ≤ 8) (i : Nat) (hi : i < szN k) (w : World) : Calls Tryz.prog 63 #[.int .i64 (k : Int), .int .i64 (i : Int)] w fun z w' => z = .returned (.int .i64 ((plN k i : Nat) : Int)) ∧ Below w.heap.size w w' := by
  have HF := fun w1 => format_any k hk w1
  have hsz := (sizes_fit hk).2.2.1
  have key : ∀ x : Int, ((plN k i : Nat) : Int) = x → Calls Tryz.prog 63 #[.int .i64 (k : Int), .int .i64 (i : Int)] w (fun z w' => z = .returned (.int .i64 x) ∧ Below w.heap.size w w') → Calls Tryz.prog 63 #[.int .i64 (k : Int), .int .i64 (i : Int)] w (fun z w' => z = .returned (.int .i64 ((plN k i : Nat) : Int)) ∧ Below w.heap.size w w') := fun x hx h => by rw [hx]; exact h
  rcases eight hk with rfl | rfl | rfl | rfl | rfl | rfl | rfl | rfl
  · exact key _ (by unfold plN; simp) (place_W _ _ _ _ _ _ _ _ _ _ i w hi hsz HF)
  · exact key _ (by unfold plN; simp) (place_W _ _ _ _ _ _ _ _ _ _ i w hi hsz HF)
  · exact key _ (by unfold plN; simp only [szN] at hi ⊢; simp; omega) (place_W _ _ _ _ _ _ _ _ _ _ i w hi hsz HF)
  · exact key _ (by unfold plN; simp) (place_W _ _ _ _ _ _ _ _ _ _ i w hi hsz HF)
  · exact key _ (by unfold plN; simp) (place_W _ _ _ _ _ _ _ _ _ _ i w hi hsz HF)
  · exact key _ (by unfold plN; simp; omega) (place_W _ _ _ _ _ _ _ _ _ _ i w hi hsz HF)
  · exact key _ (by unfold plN; simp; omega) (place_W _ _ _ _ _ _ _ _ _ _ i w hi hsz HF)
  · exact key _ (by unfold plN; simp; omega) (place_W _ _ _ _ _ _ _ _ _ _ i w hi hsz HF)

end Go.Proofs.YtiiphandhpilgaaGreatDoor
namespace Go.Proofs.YtiiphandhpilgaaGreatDoor
open Go.RowKit
/-- The call's own row of truth values. -/
def OwnB (w : World) (base : Nat) (v : Value) (bs : List Bool) : Prop := w.ownsRow base 4 1 v bs.length (bs.map Value.bool)

theorem Tryz.infoB : (Tryz.prog.info? 4).map (fun i => (i.zero, i.size, i.bytes)) = some (some (.bool false), 1, 1) := by kernel_rfl

theorem OwnB.later {w w' : World} {base : Nat} {v : Value} {bs : List Bool} (h : OwnB w base v bs) (hb : Below w.heap.size w w') : OwnB w' base v bs := by
  obtain ⟨hl, h2⟩ := h
  refine ⟨hl, ?_⟩
  rcases h2 with h2 | ⟨g, cap, cur, hv, hbg, hh, r⟩
  · exact .inl h2
  · refine .inr ⟨g, cap, cur, hv, hbg, ?_, r⟩
    rw [hb.block g ?_]
    · exact hh
    · rw [Array.getElem?_eq_some_iff] at hh
      exact hh.1

end Go.Proofs.YtiiphandhpilgaaGreatDoor
namespace Go.Proofs.YtiiphandhpilgaaGreatDoor
open Go.RowKit
/-- What the division by one digit keeps. -/
def RDivI (xs cur : List Nat) (d k r : Nat) : Prop :=
  cur.length = xs.length ∧ Dg.Small 65536 cur ∧ r < d ∧ Dg.vl 65536 (xs.drop k) = Dg.vl 65536 (cur.drop k) * d + r

theorem rdivI_step {xs cur : List Nat} {d k r t : Nat} (h : RDivI xs cur d (k + 1) r) (hk : k < xs.length) (ht : t = 65536 * r + xs.getD k 0) (hd : 0 < d) (hq : t / d < 65536) :
    RDivI xs (cur.set k (t / d)) d k (t % d) := by
  obtain ⟨h1, h2, h3, h5⟩ := h
  refine ⟨by simpa using h1, Dg.small_set h2 _ _ hq, Nat.mod_lt _ hd, ?_⟩
  rw [drop_eq xs k hk, drop_eq (cur.set k (t / d)) k (by simpa using (by omega : k < cur.length)), Dg.getD_set _ _ _ _ (by omega), if_pos rfl, List.drop_set_of_lt (by omega)]
  simp only [Dg.vl]
  rw [h5]
  have := Nat.div_add_mod t d
  rw [Nat.add_mul, Nat.mul_comm (t / d) d, Nat.mul_assoc, Nat.mul_add]
  omega

theorem div_small16 {t d r x : Nat} (h1 : r < d) (h2 : x < 65536) (ht : t = 65536 * r + x) : t / d < 65536 := by
  rw [Nat.div_lt_iff_lt_mul (by omega)]
  have : (r + 1) * 65536 ≤ d * 65536 := Nat.mul_le_mul_right _ h1
  rw [Nat.mul_comm 65536 d]
  omega

theorem one_digit (d : Nat) (h : d < 65536) : Dg.dg 65536 d = if d = 0 then [] else [d] := by
  by_cases e : d = 0
  · subst e; rfl
  · rw [if_neg e]
    exact (Dg.eq_dg 65536 (by omega) [d] d (Dg.small_cons.2 ⟨h, Dg.small_nil _ (by omega)⟩) (by intro _; simpa using e) (by simp [Dg.vl])).symm

set_option maxRecDepth 100000 in
set_option maxHeartbeats 3200000 in
theorem into1_any (va : Value) (xs : List Nat) (vb : Value) (d : Nat) (w : World) (ha : Rd w .i64 va xs) (hb : Rd w .i64 vb [d]) (sa : Dg.Small 65536 xs) (hla : xs.length ≤ 1000000) (hd0 : 0 < d) (hd : d < 65536) :
    Calls Tryz.prog 62 #[va, vb] w fun e w' => ∃ vq vr, e = .returned (.tuple #[vq, vr]) ∧ Rd w' .i64 vq (Dg.dg 65536 (Dg.vl 65536 xs / d)) ∧ Rd w' .i64 vr (Dg.dg 65536 (Dg.vl 65536 xs % d)) ∧ Below w.heap.size w w' := by
  obtain ⟨i0, hi, hz0, hz1, hz2⟩ := info_parts Tryz.infoI64
  obtain ⟨ao, ca, rfl, -, -, hca⟩ := ha
  obtain ⟨bo, cb, rfl, -, -, hcb⟩ := hb
  obtain ⟨bb, boff, rfl, hcellb⟩ := hcb (by simp)
  have hcb0 := hcellb 0 (by simp)
  simp only [List.getD_cons_zero, Nat.add_zero] at hcb0
  have hlen1 : ([d] : List Nat).length = 1 := rfl
  rw [hlen1]
  clear hcellb hcb hlen1
  go_enter Tryz.func62, Tryz.ntmps62
  go_wp2_with (at_make; refine wpList_make_full _ rfl _ _ 29 rfl w.heap.size 3 i0 (.int .i64 0) 1 Tryz.underlying29 hi hz0 hz1 _ _ _ _ xs.length rfl rfl (by omega) (by omega) ?b2 ?b3 (Nat.le_refl _) ?_)
  case b2 => rw [hz2]; omega
  case b3 => unfold maxLen; omega
  intro w0 hown0 hgrow0
  have own0 := own_made hown0
  have bel0 : Below w.heap.size w w0 := (Below.refl _ _).grown hgrow0 (Nat.le_refl _) (fun k h => by cases h)
  clear hown0 hgrow0
  go_wp2
  go_loopw [7, 8] (fun rv iv wr => ∃ (k r : Nat) (cur : List Nat), k ≤ xs.length ∧ iv = .int .i64 ((k : Int) - 1) ∧ rv = .int .i64 r ∧ Own wr w.heap.size 3 .i64 (.slice (some ⟨w.heap.size, 0, none⟩) xs.length xs.length) cur ∧ RDivI xs cur d k r ∧ Below w.heap.size w wr)
    (fun _ iv _ => (intOf iv + 1).toNat)
  case atStart => exact ⟨xs.length, 0, _, Nat.le_refl _, rfl, rfl, own0, ⟨by simp, Dg.small_replicate _ _ (by omega), hd0, by simp [Dg.vl]⟩, bel0⟩
  case round =>
    clear own0 bel0
    obtain ⟨k, r, cur, hk, rfl, rfl, own, hI, bel⟩ := hrel
    have hlen := hI.1
    have hr := hI.2.2.1
    by_cases hk0 : k = 0
    · subst hk0
      obtain ⟨h1, h2, h3, h5⟩ := hI
      simp only [List.drop_zero] at h5
      have e1 : Dg.vl 65536 xs / d = Dg.vl 65536 cur := by
        rw [h5, Nat.mul_comm, Nat.mul_add_div hd0, Nat.div_eq_of_lt h3]; omega
      have e2 : Dg.vl 65536 xs % d = r := by
        rw [h5, Nat.mul_comm, Nat.mul_add_mod, Nat.mod_eq_of_lt h3]
      have HE1 : Hid (Dg.vl 65536 xs / d = Dg.vl 65536 cur) := e1
      have HE2 : Hid (Dg.vl 65536 xs % d = r) := e2
      have hcl : cur.length ≤ 1000000 := by omega
      clear h5 e1 e2 hlen h1
      go_wp2_with fail
      refine (reftrim_any _ _ _ cur _ own.rd).mono ?_
      rintro e w' ⟨m, rfl, hm, rfl⟩
      have rq := rd_own_trim own h2 hm (by omega)
      have a1 : Below w'.heap.size w' (w'.alloc (.cells #[.int .i64 (r : Int)] 3)) := (Below.refl _ _).alloc (Nat.le_refl _) _
      have r1 := rd_new (w := w') (k := .i64) (e := 3) [r] #[.int .i64 (r : Int)] rfl (by unfold maxLen; simp)
      go_wp2_with fail
      refine (reftrim_any _ _ _ [r] _ r1).mono ?_
      rintro e w2 ⟨m2, rfl, hm2, rfl⟩
      have hml := hm2.1
      simp only [List.length_cons, List.length_nil] at hml
      have rr := rd_trim (cap' := m2) 65536 (by omega) r1 (Dg.small_cons.2 ⟨by omega, Dg.small_nil _ (by omega)⟩) hm2 (Nat.le_refl _) (by unfold maxLen; omega)
      have ev : Dg.vl 65536 [r] = r := by simp [Dg.vl]
      rw [ev] at rr
      have rq2 := rq.later a1
      have bel2 := below_trans bel a1
      clear hm hm2 r1 ev
      go_wp2
      go_ret2
      exact ⟨_, _, rfl, by rw [HE1.out]; exact rq2, by rw [HE2.out]; exact rr, bel2⟩
    · obtain ⟨m, rfl⟩ : ∃ m, k = m + 1 := ⟨k - 1, by omega⟩
      obtain ⟨b, off, rfl, hcell⟩ := hca (by omega)
      have hx := cell_later bel (hcell m (by omega))
      have hbb := cell_later bel hcb0
      have hxl := sa m
      have hq := own.cell m (by omega)
      have hf := own.free m
      obtain ⟨x, ex⟩ : ∃ x, xs.getD m 0 = x := ⟨_, rfl⟩
      rw [ex] at hx hxl
      have hql := div_small16 (t := 65536 * r + x) hr hxl rfl
      have hst := rdivI_step hI (by omega) (by rw [ex]) hd0 hql
      have hrl : (65536 * r + x) % d < d := Nat.mod_lt _ hd0
      obtain ⟨t, ht⟩ : ∃ t, 65536 * r + x = t := ⟨_, rfl⟩
      have htl : t < 4294967296 := by omega
      rw [ht] at hst hql hrl
      have htI : 65536 * (r : Int) + (x : Int) = (t : Int) := by omega
      obtain ⟨q1, hq1⟩ : ∃ q1, t / d = q1 := ⟨_, rfl⟩
      obtain ⟨m1, hm1⟩ : ∃ m1, t % d = m1 := ⟨_, rfl⟩
      have e1 : (t : Int).tdiv (d : Int) = (q1 : Int) := by rw [Int.tdiv_eq_ediv_of_nonneg (by omega), ← hq1]; exact (Int.natCast_ediv t d).symm
      have e2 : (t : Int).tmod (d : Int) = (m1 : Int) := by rw [Int.tmod_eq_emod_of_nonneg (by omega), ← hm1]; exact (Int.natCast_emod t d).symm
      have e3 : (t : Int) / (d : Int) = (q1 : Int) := by rw [← hq1]; exact (Int.natCast_ediv t d).symm
      have e4 : (t : Int) % (d : Int) = (m1 : Int) := by rw [← hm1]; exact (Int.natCast_emod t d).symm
      rw [hq1] at hst hql
      rw [hm1] at hst hrl
      have e5 : IntKind.i64.wrap (q1 : Int) = (q1 : Int) := IntWalk.i64_in _ ⟨by omega, by omega⟩
      have hdne : ((d : Int) == 0) = false := by simp; omega
      clear ex hcell hca hI hq1 hm1 ht hlen
      go_wp2
      go_region
      all_goals go_wp2
      all_goals go_roundw
      case rel => exact ⟨m, _, _, by omega, by go_num, rfl, Own.later (own.store m _) (Below.drew (Below.refl _ _)), hst, (bel.setCell (by exact Nat.le_refl _) _).drew⟩
      case measure => simp [intOf]
end Go.Proofs.YtiiphandhpilgaaGreatDoor
namespace Go.Proofs.YtiiphandhpilgaaGreatDoor
open Go.RowKit
set_option maxRecDepth 100000 in
theorem from_any (d : Nat) (w : World) (hd : d < 65536) : Calls Tryz.prog 34 #[.int .i64 d] w (RNum w d) := by
  obtain ⟨i0, hi, hz0, hz1, hz2⟩ := info_parts Tryz.infoI64
  have hone := one_digit d hd
  by_cases h : d = 0
  · subst h
    go_enter Tryz.func34, Tryz.ntmps34
    go_wp2
    refine wp_loop_rounds 1 ?_
    rw [rounds_succ]
    go_wp2
    go_ret
    exact ⟨_, rfl, (own_nil _ 0 0 _).rd, Below.refl _ _⟩
  · rw [if_neg h] at hone
    have HO : Hid (Dg.dg 65536 d = [d]) := hone
    have e1 : (d : Int) % 65536 = (d : Int) := by omega
    have e2 : (d : Int) / 65536 = 0 := by omega
    have hpos : (0 : Int) < (d : Int) := by omega
    clear hone
    go_enter Tryz.func34, Tryz.ntmps34
    go_wp2
    refine wp_loop_rounds 2 ?_
    rw [rounds_succ]
    go_wp2_with (at_builtin; refine wpList_append_own _ rfl _ _ 29 rfl w.heap.size 3 i0 (.int .i64 0) 1 8 Tryz.underlying29 hi hz0 hz1 hz2 rfl (by decide) _ _ _ rfl (World.ownsRow.alloc (World.ownsRow_nil w w.heap.size 3 1) _) ⟨w.heap.size, 0, none⟩ 1 1 [.int .i64 (d : Int)] rfl rfl ?c1 ?c2 ?c3 ?c4 ?c5 ?_)
    case c1 => exact cell_one_new _ _ _
    case c2 => intro u hu; simp at hu; subst hu; rfl
    case c3 => unfold maxLen; omega
    case c4 => omega
    case c5 => simp
    intro v' w3 hown' hgrow _
    have R := own_append1 (Below.refl w.heap.size w) (own_nil w w.heap.size 3 .i64) hown' hgrow
    clear hown' hgrow
    rw [List.nil_append, ← HO.out] at R
    go_wp2
    rw [rounds_succ]
    go_wp2
    go_ret
    exact ⟨_, rfl, R.1.rd, R.2⟩
end Go.Proofs.YtiiphandhpilgaaGreatDoor

/-
  Texts laid together: Co14, Cr1, Cr2, Ce2, Cr3, Co10.
-/
import Derived.Deep.AppendLies
import Derived.Laws.OwnMore
import Derived.Deep.RegionWith
import Derived.Test.YtiiphandhpilgaaDoorEb09
import Derived.Test.YtiiphandhpilgaaDoorEb07
import Derived.Test.YtiiphandhpilgaaDoorEb01
import Derived.Test.YtiiphandhpilgaaDoorEb03
import Derived.Test.YtiiphandhpilgaaDoorEb04
import Derived.Test.YtiiphandhpilgaaDoorEb02
namespace Go.Proofs.YtiiphandhpilgaaDoor
open Go.RowKit
theorem LocE.grown {w w' : World} {b g : Nat} {ty : TypeId} {vs : List Value} (h : LocE w b ty vs) (hg : w.grownBy w' (some g)) (hne : b ≠ g) : LocE w' b ty vs :=
  (hg.block b h.lt (fun e => hne (Option.some.inj e))).trans h

set_option maxRecDepth 100000 in
set_option maxHeartbeats 12800000 in
theorem cread_W (R D L G fam : Int) (gr : Bool) (sz ex fr : Nat) (F : Nat) (s : ByteArray) (ts : List Nat) (w : World) (hs : s.size = sz) (hlen : ts.length = sz) (hsm : Dg.Small 256 ts) (hfr : 1 + ex + fr = 8 * sz) (hex : ex ≤ 15) (hsz : sz ≤ 10) (hfr64 : fr ≤ 64)
    (HT : ∀ g cap w1, BRow w1 g (bytesOf s) → Calls Tryd.prog F #[.slice (some ⟨g, 0, none⟩) sz cap] w1 fun z w' => z = .returned (.tuple #[]) ∧ BRow w' g ts ∧ w1.grownBy w' (some g))
    (HFR : ∀ w1, Calls Tryd.prog 40 #[.agg #[.int .i64 R, .int .i64 D, .int .i64 L, .int .i64 G, .bool gr, .int .i64 (sz : Int), .int .i64 (ex : Int), .int .i64 fam, .func (.func F) #[] #[]]] w1 fun z w' => z = .returned (.int .i64 (fr : Int)) ∧ Below w1.heap.size w1 w')
    (HE : ∀ args W, Sem.run Tryd.prog (callFunc F args) W = .ok (.enter F args) W) :
    Calls Tryd.prog 24 #[.agg #[.int .i64 R, .int .i64 D, .int .i64 L, .int .i64 G, .bool gr, .int .i64 (sz : Int), .int .i64 (ex : Int), .int .i64 fam, .func (.func F) #[] #[]], .string s] w fun z w' => z = .returned (.agg #[.bool (decide (bitsV ts 0 1 = 1)), .int .i64 ((bitsV ts 1 ex : Nat) : Int), .int .u64 ((bitsV ts (1 + ex) fr : Nat) : Int)]) ∧ Below w.heap.size w w' := by
  have hsf : ∀ (a : Addr) (W : World) (g : Fn), (store a (Value.func g #[] #[])).run Tryd.prog W = stored Tryd.prog W a (Value.func g #[] #[]) .plain := fun a W g => run_store _ W a _ _ rfl
  have l0 := (locE_new w [.int .i64 R, .int .i64 D, .int .i64 L, .int .i64 G, .bool gr, .int .i64 (sz : Int), .int .i64 (ex : Int), .int .i64 fam, .func (.func F) #[] #[]] 44).later (below_alloc _ (.cells #[.bool false, .int .i64 0, .int .u64 0] 51))
  have m0 := locE_new (w.alloc (.cells #[.int .i64 R, .int .i64 D, .int .i64 L, .int .i64 G, .bool gr, .int .i64 (sz : Int), .int .i64 (ex : Int), .int .i64 fam, .func (.func F) #[] #[]] 44)) [.bool false, .int .i64 0, .int .u64 0] 51
  have b0 := below_trans (below_alloc w (.cells #[.int .i64 R, .int .i64 D, .int .i64 L, .int .i64 G, .bool gr, .int .i64 (sz : Int), .int .i64 (ex : Int), .int .i64 fam, .func (.func F) #[] #[]] 44)) (below_alloc _ (.cells #[.bool false, .int .i64 0, .int .u64 0] 51))
  rw [World.size_alloc] at m0
  have H2 : ((w.alloc (.cells #[.int .i64 R, .int .i64 D, .int .i64 L, .int .i64 G, .bool gr, .int .i64 (sz : Int), .int .i64 (ex : Int), .int .i64 fam, .func (.func F) #[] #[]] 44)).alloc (.cells #[.bool false, .int .i64 0, .int .u64 0] 51)).heap.size = w.heap.size + 2 := by rw [World.size_alloc, World.size_alloc]
  obtain ⟨W1, cap, hrun, hrow, hbel⟩ := bytes_run (P := Tryd.prog) ((w.alloc (.cells #[.int .i64 R, .int .i64 D, .int .i64 L, .int .i64 G, .bool gr, .int .i64 (sz : Int), .int .i64 (ex : Int), .int .i64 fam, .func (.func F) #[] #[]] 44)).alloc (.cells #[.bool false, .int .i64 0, .int .u64 0] 51)) 9 36 5 s Tryd.underlying9 Tryd.underlying36 Tryd.underlying5
  have l1 := l0.later hbel
  have m1 := m0.later hbel
  have b1 := below_trans b0 hbel
  rw [H2] at hrun hrow
  rw [hs] at hrun
  obtain ⟨g, hg⟩ : ∃ g, w.heap.size + 2 = g := ⟨_, rfl⟩
  rw [hg] at hrun hrow
  have x8 := l1.cell 8 rfl
  have HT' : Hid (∀ g cap w1, BRow w1 g (bytesOf s) → Calls Tryd.prog F #[.slice (some ⟨g, 0, none⟩) sz cap] w1 fun z w' => z = .returned (.tuple #[]) ∧ BRow w' g ts ∧ w1.grownBy w' (some g)) := HT
  have HFR' : Hid (∀ w1, Calls Tryd.prog 40 #[.agg #[.int .i64 R, .int .i64 D, .int .i64 L, .int .i64 G, .bool gr, .int .i64 (sz : Int), .int .i64 (ex : Int), .int .i64 fam, .func (.func F) #[] #[]]] w1 fun z w' => z = .returned (.int .i64 (fr : Int)) ∧ Below w1.heap.size w1 w') := HFR
  have HHg : Hid (_ = _) := hg
  have HL : Hid (_ ∧ _) := ⟨hlen, hfr⟩
  obtain ⟨n0, hn0⟩ : ∃ n, bitsV ts 0 1 = n := ⟨_, rfl⟩
  obtain ⟨n1, hn1⟩ : ∃ n, bitsV ts 1 ex = n := ⟨_, rfl⟩
  obtain ⟨n2, hn2⟩ : ∃ n, bitsV ts (1 + ex) fr = n := ⟨_, rfl⟩
  rw [hn0, hn1, hn2]
  have HN : Hid (_ ∧ _ ∧ _) := ⟨hn0, hn1, hn2⟩
  have hd0 : ((n0 : Int) == 1) = decide (n0 = 1) := by
    by_cases h : n0 = 1
    · subst h; rfl
    · rw [decide_eq_false h]; simp; omega
  obtain ⟨q0, hq0⟩ : ∃ q, decide (n0 = 1) = q := ⟨_, rfl⟩
  rw [hq0] at hd0 ⊢
  clear HT HFR hg hlen hfr hn0 hn1 hn2 hq0
  go_enter Tryd.func24, Tryd.ntmps24
  go_wp2_with fail
  refine (HT'.out _ _ _ hrow).mono ?_
  rintro z w2 ⟨rfl, r2, g2⟩
  have hgg := HHg.out
  have l2 := (l1.grown g2 (by omega)).drew
  have m2 := (m1.grown g2 (by omega)).drew
  have b2 := (b1.grown g2 b1.size (fun k h => by cases h; omega)).drew
  have r2' := r2.drew
  obtain ⟨hlen, hfr⟩ := HL.out
  have HB0 : Hid (∀ w1, BRow w1 g ts → Calls Tryd.prog 41 #[.slice (some ⟨g, 0, none⟩) sz cap, .int .i64 0, .int .i64 1] w1 fun z w' => z = .returned (.int .u64 ((bitsV ts 0 1 : Nat) : Int)) ∧ w1 = w') := fun w1 h => by
    have := cbits_any g cap ts 0 1 w1 h hsm (by omega) (by omega) (by omega)
    rw [hlen] at this
    exact this.mono (fun _ _ h => ⟨h.1, h.2.symm⟩)
  have HB1 : Hid (∀ w1, BRow w1 g ts → Calls Tryd.prog 41 #[.slice (some ⟨g, 0, none⟩) sz cap, .int .i64 1, .int .i64 (ex : Int)] w1 fun z w' => z = .returned (.int .u64 ((bitsV ts 1 ex : Nat) : Int)) ∧ w1 = w') := fun w1 h => by
    have := cbits_any g cap ts 1 ex w1 h hsm (by omega) (by omega) (by omega)
    rw [hlen] at this
    exact this.mono (fun _ _ h => ⟨h.1, h.2.symm⟩)
  have HB2 : Hid (∀ w1, BRow w1 g ts → Calls Tryd.prog 41 #[.slice (some ⟨g, 0, none⟩) sz cap, .int .i64 (1 + (ex : Int)), .int .i64 (fr : Int)] w1 fun z w' => z = .returned (.int .u64 ((bitsV ts (1 + ex) fr : Nat) : Int)) ∧ w1 = w') := fun w1 h => by
    have := cbits_any g cap ts (1 + ex) fr w1 h hsm (by omega) (by omega) (by omega)
    rw [hlen, show (((1 + ex : Nat) : Nat) : Int) = 1 + (ex : Int) from by omega] at this
    exact this.mono (fun _ _ h => ⟨h.1, h.2.symm⟩)
  have h1l := bitsV_lt ts 1 ex
  have h1p : (2 : Nat) ^ ex ≤ 2 ^ 15 := Nat.pow_le_pow_right (by omega) hex
  obtain ⟨hn0, hn1, hn2⟩ := HN.out
  rw [hn0] at HB0
  rw [hn1] at HB1 h1l
  rw [hn2] at HB2
  have hn1b : n1 < 32768 := by omega
  clear hn0 hn1 hn2 h1l h1p hlen hfr l0 l1 m0 m1 b0 b1 r2 hrow hrun hbel x8 H2 hgg
  have hexI : (ex : Int) ≤ 15 := by omega
  have hwr : IntKind.i64.wrap (1 + (ex : Int)) = 1 + (ex : Int) := IntWalk.i64_in _ ⟨by omega, by omega⟩
  have hwn : IntKind.i64.wrap (n1 : Int) = (n1 : Int) := IntWalk.i64_in _ ⟨by omega, by omega⟩
  have x0 := l2.cell 0 rfl; have x1 := l2.cell 1 rfl; have x2 := l2.cell 2 rfl; have x3 := l2.cell 3 rfl; have x4 := l2.cell 4 rfl; have x5 := l2.cell 5 rfl; have x6 := l2.cell 6 rfl; have x7 := l2.cell 7 rfl; have x8 := l2.cell 8 rfl
  go_wp2_with fail
  go_region_held3 (fun wq => wq.cell? ⟨w.heap.size, 0, none⟩ = some (.int .i64 R) ∧ wq.cell? ⟨w.heap.size, 1, none⟩ = some (.int .i64 D) ∧ wq.cell? ⟨w.heap.size, 2, none⟩ = some (.int .i64 L) ∧ wq.cell? ⟨w.heap.size, 3, none⟩ = some (.int .i64 G) ∧ wq.cell? ⟨w.heap.size, 4, none⟩ = some (.bool gr) ∧ wq.cell? ⟨w.heap.size, 5, none⟩ = some (.int .i64 (sz : Int)) ∧ wq.cell? ⟨w.heap.size, 6, none⟩ = some (.int .i64 (ex : Int)) ∧ wq.cell? ⟨w.heap.size, 7, none⟩ = some (.int .i64 fam) ∧ wq.cell? ⟨w.heap.size, 8, none⟩ = some (.func (.func F) #[] #[])) (go_keep) (first
    | (go_at_call 40; refine (HFR'.out _).mono ?_; rintro z w5 ⟨rfl, b5⟩; have l5 := l2.later b5; have m5 := m2.later b5; have b05 := below_trans b2 b5; have r5 := r2'.later b5; have y0 := l5.cell 0 rfl; have y1 := l5.cell 1 rfl; have y2 := l5.cell 2 rfl; have y3 := l5.cell 3 rfl; have y4 := l5.cell 4 rfl; have y5 := l5.cell 5 rfl; have y6 := l5.cell 6 rfl; have y7 := l5.cell 7 rfl; have y8 := l5.cell 8 rfl; have u0 := m5.cell 0 rfl; have u1 := m5.cell 1 rfl; have u2 := m5.cell 2 rfl; have f0 := m5.free 0; have f1 := m5.free 1; have f2 := m5.free 2)
    | (go_at_call 41; (with_reducible (refine (HB0.out _ (by assumption)).mono ?_)); rintro z wv ⟨rfl, rfl⟩)
    | (go_at_call 41; (with_reducible (refine (HB1.out _ (by assumption)).mono ?_)); rintro z wv ⟨rfl, rfl⟩)
    | (go_at_call 41; (with_reducible (refine (HB2.out _ (by assumption)).mono ?_)); rintro z wv ⟨rfl, rfl⟩))
  have cR : LocE (((w5.setCell ⟨w.heap.size + 1, 0, none⟩ (.bool q0)).setCell ⟨w.heap.size + 1, 1, none⟩ (.int .i64 (n1 : Int))).setCell ⟨w.heap.size + 1, 2, none⟩ (.int .u64 (n2 : Int))) (w.heap.size + 1) 51 [.bool q0, .int .i64 (n1 : Int), .int .u64 (n2 : Int)] := ((m5.set 0 (.bool q0)).set 1 (.int .i64 (n1 : Int))).set 2 (.int .u64 (n2 : Int))
  have bR := (((but_set w5 (w.heap.size + 1) 0 (.bool q0)).trans (but_set _ (w.heap.size + 1) 1 (.int .i64 (n1 : Int)))).trans (but_set _ (w.heap.size + 1) 2 (.int .u64 (n2 : Int)))).below b05 (by omega)
  have hl := run_loadVar_mid (P := Tryd.prog) _ (w.heap.size + 1) 0 51 [.bool q0, .int .i64 (n1 : Int), .int .u64 (n2 : Int)] _ cR.range Tryd.underlying51 rfl (by kernel_rfl)
  have HH : Hid (_ ∧ _) := ⟨hl, bR⟩
  clear hl bR cR l2 m2 b2 l5 m5 b05
  go_wp2
  obtain ⟨hl, bR⟩ := HH.out
  exact bodyPost_ret (results_one Tryd.results24 rfl hl) rfl ⟨rfl, bR⟩

/-- The fields of a pattern. -/
def fldB (k : Nat) (s : ByteArray) : List Nat := turnB k (bytesOf s)
def fldN (k : Nat) (s : ByteArray) : Bool := decide (bitsV (fldB k s) 0 1 = 1)
def fldE (k : Nat) (s : ByteArray) : Nat := bitsV (fldB k s) 1 (exN k)
def fldF (k : Nat) (s : ByteArray) : Nat := bitsV (fldB k s) (1 + exN k) (frN k)

theorem sizes_fit {k : Nat} (hk : 1 ≤ k ∧ k ≤ 8) : 1 + exN k + frN k = 8 * szN k ∧ exN k ≤ 15 ∧ szN k ≤ 10 ∧ frN k ≤ 64 ∧ (∃ m, szN k = 2 * m) ∧ 7 ≤ exN k := by
  rcases eight hk with rfl | rfl | rfl | rfl | rfl | rfl | rfl | rfl
  · exact ⟨by decide, by decide, by decide, by decide, ⟨2, rfl⟩, by decide⟩
  · exact ⟨by decide, by decide, by decide, by decide, ⟨4, rfl⟩, by decide⟩
  · exact ⟨by decide, by decide, by decide, by decide, ⟨5, rfl⟩, by decide⟩
  · exact ⟨by decide, by decide, by decide, by decide, ⟨2, rfl⟩, by decide⟩
  · exact ⟨by decide, by decide, by decide, by decide, ⟨4, rfl⟩, by decide⟩
  · exact ⟨by decide, by decide, by decide, by decide, ⟨2, rfl⟩, by decide⟩
  · exact ⟨by decide, by decide, by decide, by decide, ⟨4, rfl⟩, by decide⟩
  · exact ⟨by decide, by decide, by decide, by decide, ⟨4, rfl⟩, by decide⟩

theorem cread_any (k : Nat) (hk : 1 ≤ k ∧ k ≤ 8) (s : ByteArray) (w : World) (hs : s.size = szN k) :
    Calls Tryd.prog 24 #[.agg (layV k).toArray, .string s] w fun z w' => z = .returned (.agg #[.bool (fldN k s), .int .i64 ((fldE k s : Nat) : Int), .int .u64 ((fldF k s : Nat) : Int)]) ∧ Below w.heap.size w w' := by
  obtain ⟨h1, h2, h3, h4, h5, -⟩ := sizes_fit hk
  have hb := bytesOf_len s
  have HT : ∀ g cap w1, BRow w1 g (bytesOf s) → Calls Tryd.prog (turnF k) #[.slice (some ⟨g, 0, none⟩) (szN k) cap] w1 fun z w' => z = .returned (.tuple #[]) ∧ BRow w' g (fldB k s) ∧ w1.grownBy w' (some g) := fun g cap w1 h => by
    have := turnF_any k g cap (bytesOf s) w1 h (by omega) (by rw [hb, hs]; exact h5)
    rw [hb, hs] at this
    exact this
  have HF := fun w1 => lfraction_any k hk w1
  have hl : (fldB k s).length = szN k := by rw [fldB, turnB_len, hb, hs]
  have hm := turnB_small k _ (bytesOf_small s)
  have HE := fun args W => turnF_enter k args W
  unfold fldN fldE fldF
  rcases eight hk with rfl | rfl | rfl | rfl | rfl | rfl | rfl | rfl
  all_goals exact cread_W _ _ _ _ _ _ _ _ _ _ s _ w hs hl hm h1 h2 h3 h4 HT HF HE

theorem fldE_lt {k : Nat} (s : ByteArray) : fldE k s < 2 ^ exN k := bitsV_lt _ _ _
theorem fldE_small {k : Nat} (hk : 1 ≤ k ∧ k ≤ 8) (s : ByteArray) : fldE k s < 65536 := by
  have h1 := fldE_lt (k := k) s
  have h2 : (2 : Nat) ^ exN k ≤ 2 ^ 15 := Nat.pow_le_pow_right (by omega) (sizes_fit hk).2.1
  omega
theorem fldF_lt {k : Nat} (s : ByteArray) : fldF k s < 2 ^ frN k := bitsV_lt _ _ _
theorem fldF_small {k : Nat} (hk : 1 ≤ k ∧ k ≤ 8) (s : ByteArray) : fldF k s < 18446744073709551616 := by
  have h1 := fldF_lt (k := k) s
  have h2 : (2 : Nat) ^ frN k ≤ 2 ^ 64 := Nat.pow_le_pow_right (by omega) (sizes_fit hk).2.2.2.1
  omega
end Go.Proofs.YtiiphandhpilgaaDoor
namespace Go.Proofs.YtiiphandhpilgaaDoor
open Go.RowKit
/-- Where byte i, from the greatest on, stands. -/
def plN (k i : Nat) : Nat := if k = 3 then szN k - 1 - i else if 6 ≤ k then i + 1 - 2 * (i % 2) else i

theorem plN_at (k : Nat) (zs : List Nat) (i : Nat) (hk : zs.length = szN k) (hi : i < zs.length) : (turnB k zs).getD i 0 = zs.getD (plN k i) 0 := by
  unfold turnB plN
  by_cases h3 : k = 3
  · rw [if_pos h3, if_pos h3, List.getD_eq_getElem?_getD, List.getElem?_reverse hi, ← List.getD_eq_getElem?_getD, hk]
  · rw [if_neg h3, if_neg h3]
    by_cases h6 : 6 ≤ k
    · rw [if_pos h6, if_pos h6, turnW_at zs i hi]
    · rw [if_neg h6, if_neg h6]

theorem plN_lt {k i : Nat} (hk : 1 ≤ k ∧ k ≤ 8) (hi : i < szN k) : plN k i < szN k := by
  obtain ⟨m, hm⟩ := (sizes_fit hk).2.2.2.2.1
  unfold plN
  split
  · omega
  · split <;> omega

end Go.Proofs.YtiiphandhpilgaaDoor
namespace Go.Proofs.YtiiphandhpilgaaDoor
open Go.RowKit
/-- The call's own row of truth values. -/
def OwnB (w : World) (base : Nat) (v : Value) (bs : List Bool) : Prop := w.ownsRow base 4 1 v bs.length (bs.map Value.bool)

theorem Tryd.infoB : (Tryd.prog.info? 4).map (fun i => (i.zero, i.size, i.bytes)) = some (some (.bool false), 1, 1) := by kernel_rfl

theorem OwnB.later {w w' : World} {base : Nat} {v : Value} {bs : List Bool} (h : OwnB w base v bs) (hb : Below w.heap.size w w') : OwnB w' base v bs := by
  obtain ⟨hl, h2⟩ := h
  refine ⟨hl, ?_⟩
  rcases h2 with h2 | ⟨g, cap, cur, hv, hbg, hh, r⟩
  · exact .inl h2
  · refine .inr ⟨g, cap, cur, hv, hbg, ?_, r⟩
    rw [hb.block g ?_]
    · exact hh
    · rw [Array.getElem?_eq_some_iff] at hh
      exact hh.1

end Go.Proofs.YtiiphandhpilgaaDoor
namespace Go.Proofs.YtiiphandhpilgaaDoor
open Go.RowKit
theorem OwnB.store {w : World} {base g n cap : Nat} {bs : List Bool} (h : OwnB w base (.slice (some ⟨g, 0, none⟩) n cap) bs) (hn : n = bs.length) (j : Nat) (x : Bool) :
    OwnB (w.setCell ⟨g, j, none⟩ (.bool x)) base (.slice (some ⟨g, 0, none⟩) n cap) (bs.set j x) := by
  subst hn
  have := (World.ownsRow.stored h j (.bool x)).1
  unfold OwnB
  rw [List.length_set, List.map_set]
  exact this

theorem OwnB.free {w : World} {base g n cap : Nat} {bs : List Bool} (h : OwnB w base (.slice (some ⟨g, 0, none⟩) n cap) bs) (hn : n = bs.length) (j : Nat) : w.frozen? ⟨g, j, none⟩ = false := by
  subst hn
  exact World.ownsRow.frozenAt h j

theorem OwnB.block {w : World} {base g n cap : Nat} {bs : List Bool} (h : OwnB w base (.slice (some ⟨g, 0, none⟩) n cap) bs) (hn : n = bs.length) : base ≤ g ∧ g < w.heap.size := by
  subst hn
  exact World.ownsRow.lt h g rfl

theorem OwnB.cell {w : World} {base g n cap : Nat} {bs : List Bool} (h : OwnB w base (.slice (some ⟨g, 0, none⟩) n cap) bs) (hn : n = bs.length) (j : Nat) (hj : j < bs.length) : w.cell? ⟨g, j, none⟩ = some (.bool (bs.getD j false)) := by
  subst hn
  have hc := World.ownsRow.cellAt h j (by omega)
  rw [hc, List.getElem?_map, List.getElem?_eq_getElem hj]
  simp [List.getD_eq_getElem?_getD, hj]

end Go.Proofs.YtiiphandhpilgaaDoor
namespace Go.Proofs.YtiiphandhpilgaaDoor
open Go.RowKit
/-- The number of the first n bits. -/
def valB (bf : Nat → Bool) : Nat → Nat
  | 0 => 0
  | n + 1 => valB bf n * 2 + if bf n then 1 else 0

theorem valB_lt (bf : Nat → Bool) : ∀ n, valB bf n < 2 ^ n
  | 0 => by simp [valB]
  | n + 1 => by
    have := valB_lt bf n
    rw [valB, Nat.pow_succ]
    split <;> omega

end Go.Proofs.YtiiphandhpilgaaDoor
namespace Go.Proofs.YtiiphandhpilgaaDoor
open Go.RowKit
/-- Bytes in which c bits from f on are set as the lowest ones of x are. -/
def setB (f : Nat) : Nat → Nat → List Nat → List Nat
  | 0, _, zs => zs
  | c + 1, x, zs => setB f c (x / 2) (zs.set ((f + c) / 8) (zs.getD ((f + c) / 8) 0 ||| x % 2 * 2 ^ (7 - (f + c) % 8)))

theorem bit_at_lt (x r : Nat) : x % 2 * 2 ^ (7 - r) < 256 := by
  have h1 : (2 : Nat) ^ (7 - r) ≤ 2 ^ 7 := Nat.pow_le_pow_right (by omega) (by omega)
  have h2 := Nat.mod_lt x (show 0 < 2 by omega)
  have h3 : x % 2 * 2 ^ (7 - r) ≤ 1 * 2 ^ 7 := Nat.mul_le_mul (by omega) h1
  omega

theorem set_small {B : Nat} {zs : List Nat} (h : Dg.Small B zs) (i x : Nat) (hx : x < B) : Dg.Small B (zs.set i x) := by
  intro k
  by_cases hk : i < zs.length
  · rw [Dg.getD_set _ _ _ _ hk]
    by_cases e : i = k
    · rw [if_pos e]; exact hx
    · rw [if_neg e]; exact h k
  · rw [List.set_eq_of_length_le (by omega)]
    exact h k

theorem bit_put (b y r : Nat) (hb : b < 256) (hy : y < 18446744073709551616) : bits .or .u8 (b : Int) (bits .and .u64 (y : Int) 1 % 256 * 2 ^ (7 - r) % 256) = ((b ||| y % 2 * 2 ^ (7 - r) : Nat) : Int) := by
  have e2 := u64_and_nat y 1 hy (by omega)
  rw [Nat.and_one_is_mod] at e2
  have h2 := Nat.mod_lt y (show 0 < 2 by omega)
  have h3 := bit_at_lt y r
  have e3 : (((y % 2 : Nat) : Int) % 256 * 2 ^ (7 - r)) = ((y % 2 * 2 ^ (7 - r) : Nat) : Int) := by
    rw [show ((y % 2 : Nat) : Int) % 256 = ((y % 2 : Nat) : Int) from by omega]
    push_cast
    rfl
  rw [show (1 : Int) = ((1 : Nat) : Int) from rfl, e2, e3, show ((y % 2 * 2 ^ (7 - r) : Nat) : Int) % 256 = ((y % 2 * 2 ^ (7 - r) : Nat) : Int) from by omega]
  exact u8_or_nat _ _ hb h3

set_option maxRecDepth 100000 in
set_option maxHeartbeats 3200000 in
theorem csetBits_any (g cap : Nat) (zs : List Nat) (f c x : Nat) (w : World) (hr : BRow w g zs) (hs : Dg.Small 256 zs) (hx : x < 18446744073709551616) (hfc : f + c ≤ 8 * zs.length) (hl : zs.length ≤ 1000) :
    Calls Tryd.prog 39 #[.slice (some ⟨g, 0, none⟩) zs.length cap, .int .i64 f, .int .i64 c, .int .u64 x] w fun e w' => e = .returned (.tuple #[]) ∧ BRow w' g (setB f c x zs) ∧ w.grownBy w' (some g) := by
  go_enter Tryd.func39, Tryd.ntmps39
  go_wp2
  go_loopw [3, 8] (fun xv iv wr => ∃ (j y : Nat) (cur : List Nat), j ≤ c ∧ iv = .int .i64 ((f : Int) + j - 1) ∧ xv = .int .u64 (y : Int) ∧ y < 18446744073709551616 ∧ BRow wr g cur ∧ Dg.Small 256 cur ∧ Hid (cur.length = zs.length) ∧ Hid (setB f j y cur = setB f c x zs) ∧ w.grownBy wr (some g))
    (fun _ iv _ => (intOf iv + 1).toNat)
  case atStart => exact ⟨c, x, zs, Nat.le_refl _, by go_num, rfl, hx, hr, hs, rfl, rfl, grown_refl _ _⟩
  case round =>
    obtain ⟨j, y, cur, hj, rfl, rfl, hy, own, hsm, Hl, Hx, gr⟩ := hrel
    have hlen := Hl.out
    by_cases hj0 : 0 < j
    · obtain ⟨j', rfl⟩ : ∃ j', j = j' + 1 := ⟨j - 1, by omega⟩
      obtain ⟨i, hi⟩ : ∃ i, f + j' = i := ⟨_, rfl⟩
      have hiI : (f : Int) + ((j' + 1 : Nat) : Int) - 1 = (i : Int) := by omega
      rw [hiI]
      obtain ⟨q, hq⟩ : ∃ q, i / 8 = q := ⟨_, rfl⟩
      obtain ⟨r, hr'⟩ : ∃ r, i % 8 = r := ⟨_, rfl⟩
      have hqI : (i : Int) / 8 = (q : Int) := by omega
      have hrI : (i : Int) % 8 = (r : Int) := by omega
      have hcell := own.cell q (by omega)
      have hfree := own.free q (by omega)
      have hs1 := hsm q
      obtain ⟨b, hb⟩ : ∃ b, cur.getD q 0 = b := ⟨_, rfl⟩
      rw [hb] at hcell hs1
      have hql : q < zs.length := by omega
      have hr8 : r < 8 := by omega
      have HH : Hid (_ ∧ _ ∧ _ ∧ _) := ⟨hi, hq, hr', hb⟩
      have hic : (f : Int) ≤ (i : Int) := by omega
      have hib : (i : Int) ≤ 8000 := by omega
      clear hi hq hr' hb hlen hiI
      go_wp2
      go_region
      all_goals go_wp2
      all_goals go_roundw
      case rel =>
        obtain ⟨hi, hq, hr', hb⟩ := HH.out
        have hbl : b ||| y % 2 * 2 ^ (7 - r) < 256 := Nat.or_lt_two_pow (n := 8) hs1 (bit_at_lt y r)
        refine ⟨j', y / 2, cur.set q (b ||| y % 2 * 2 ^ (7 - r)), by omega, by congr 1; omega, rfl, by omega, ?_, set_small hsm _ _ hbl, ?_, ?_, grown_trans gr (grown_trans (grown_set _ _ _ _) (grown_drew _ _))⟩
        · rw [bit_put b y r hs1 hy]
          exact (own.store q _).drew
        · show _ = _
          rw [List.length_set]
          exact Hl.out
        · show _ = _
          have := Hx.out
          rw [setB, hi, hq, hr', hb] at this
          exact this
      case measure => simp only [intOf]; omega
    · have hd : ¬ ((f : Int) ≤ (f : Int) + (j : Int) - 1) := by omega
      have h0 : Hid (j = 0) := (by omega : j = 0)
      clear hlen
      go_wp2
      go_end0
      have h1 := h0.out
      subst h1
      have := Hx.out
      rw [setB] at this
      rw [← this]
      exact ⟨rfl, own, gr⟩
end Go.Proofs.YtiiphandhpilgaaDoor

/-
  Texts laid together: Co14, Co15.
-/
import Derived.Test.YtnhackdjplppjaaGreatDoorAt07
set_option maxRecDepth 100000
namespace Go.Proofs.YtnhackdjplppjaaGreatDoor
open Go.RowKit
theorem LocE.grown {w w' : World} {b g : Nat} {ty : TypeId} {vs : List Value} (h : LocE w b ty vs) (hg : w.grownBy w' (some g)) (hne : b ≠ g) : LocE w' b ty vs :=
 (hg.block b h.lt (fun e => hne (Option.some.inj e))).trans h
set_option maxHeartbeats 12800000 in
theorem cread_W (R D L G fam : Int) (gr : Bool) (sz ex fr : Nat) (F : Nat) (s : ByteArray) (ts : List Nat) (w : World) (hs : s.size = sz) (hlen : ts.length = sz) (hsm : Dg.Small 256 ts) (hfr : 1 + ex + fr = 8 * sz) (hex : ex ≤ 15) (hsz : sz ≤ 10) (hfr64 : fr ≤ 64)
  (HT : ∀ g cap w1, BRow w1 g (bytesOf s) → Calls Tryz.prog F #[.slice (some ⟨g, 0, none⟩) sz cap] w1 fun z w' => z = .returned (.tuple #[]) ∧ BRow w' g ts ∧ w1.grownBy w' (some g))
  (HFR : ∀ w1, Calls Tryz.prog 197 #[.agg #[.int .i64 R, .int .i64 D, .int .i64 L, .int .i64 G, .bool gr, .int .i64 (sz : Int), .int .i64 (ex : Int), .int .i64 fam, .func (.func F) #[] #[]]] w1 fun z w' => z = .returned (.int .i64 (fr : Int)) ∧ Below w1.heap.size w1 w')
  (HE : ∀ args W, Sem.run Tryz.prog (callFunc F args) W = .ok (.enter F args) W) :
  Calls Tryz.prog 150 #[.agg #[.int .i64 R, .int .i64 D, .int .i64 L, .int .i64 G, .bool gr, .int .i64 (sz : Int), .int .i64 (ex : Int), .int .i64 fam, .func (.func F) #[] #[]], .string s] w fun z w' => z = .returned (.agg #[.bool (decide (bitsV ts 0 1 = 1)), .int .i64 ((bitsV ts 1 ex : Nat) : Int), .int .u64 ((bitsV ts (1 + ex) fr : Nat) : Int)]) ∧ Below w.heap.size w w' := by
 have hsf := hsf_z
 have l0 := (locE_new w [.int .i64 R, .int .i64 D, .int .i64 L, .int .i64 G, .bool gr, .int .i64 (sz : Int), .int .i64 (ex : Int), .int .i64 fam, .func (.func F) #[] #[]] 144).later (below_alloc _ (.cells #[.bool false, .int .i64 0, .int .u64 0] 147))
 have m0 := locE_new (w.alloc (.cells #[.int .i64 R, .int .i64 D, .int .i64 L, .int .i64 G, .bool gr, .int .i64 (sz : Int), .int .i64 (ex : Int), .int .i64 fam, .func (.func F) #[] #[]] 144)) [.bool false, .int .i64 0, .int .u64 0] 147
 have b0 := below_trans (below_alloc w (.cells #[.int .i64 R, .int .i64 D, .int .i64 L, .int .i64 G, .bool gr, .int .i64 (sz : Int), .int .i64 (ex : Int), .int .i64 fam, .func (.func F) #[] #[]] 144)) (below_alloc _ (.cells #[.bool false, .int .i64 0, .int .u64 0] 147))
 rw [World.size_alloc] at m0
 have H2 : ((w.alloc (.cells #[.int .i64 R, .int .i64 D, .int .i64 L, .int .i64 G, .bool gr, .int .i64 (sz : Int), .int .i64 (ex : Int), .int .i64 fam, .func (.func F) #[] #[]] 144)).alloc (.cells #[.bool false, .int .i64 0, .int .u64 0] 147)).heap.size = w.heap.size + 2 := by rw [World.size_alloc, World.size_alloc]
 obtain ⟨W1, cap, hrun, hrow, hbel⟩ := bytes_run (P := Tryz.prog) ((w.alloc (.cells #[.int .i64 R, .int .i64 D, .int .i64 L, .int .i64 G, .bool gr, .int .i64 (sz : Int), .int .i64 (ex : Int), .int .i64 fam, .func (.func F) #[] #[]] 144)).alloc (.cells #[.bool false, .int .i64 0, .int .u64 0] 147)) 9 110 5 s Tryz.underlying9 Tryz.underlying110 Tryz.underlying5
 have l1 := l0.later hbel
 have m1 := m0.later hbel
 have b1 := below_trans b0 hbel
 rw [H2] at hrun hrow
 rw [hs] at hrun
 obtain ⟨g, hg⟩ : ∃ g, w.heap.size + 2 = g := ⟨_, rfl⟩
 rw [hg] at hrun hrow
 have x8 := l1.cell 8 rfl
 have HT' : Hid _ := HT
 have HFR' : Hid _ := HFR
 have HHg : Hid _ := hg
 have HL : Hid (_ ∧ _) := ⟨hlen, hfr⟩
 obtain ⟨n0, hn0⟩ : ∃ n, bitsV ts 0 1 = n := ⟨_, rfl⟩
 obtain ⟨n1, hn1⟩ : ∃ n, bitsV ts 1 ex = n := ⟨_, rfl⟩
 obtain ⟨n2, hn2⟩ : ∃ n, bitsV ts (1 + ex) fr = n := ⟨_, rfl⟩
 rw [hn0, hn1, hn2]
 have HN : Hid (_ ∧ _ ∧ _) := ⟨hn0, hn1, hn2⟩
 have hd0 : ((n0 : Int) == 1) = decide (n0 = 1) := by
  by_cases h : n0 = 1
  ·subst h; rfl
  ·rw [decide_eq_false h]; simp; omega
 obtain ⟨q0, hq0⟩ : ∃ q, decide (n0 = 1) = q := ⟨_, rfl⟩
 rw [hq0] at hd0 ⊢
 clear HT HFR hg hlen hfr hn0 hn1 hn2 hq0
 go_enter Tryz.func150, Tryz.ntmps150
 go_wp2_with fail
 refine (HT'.out _ _ _ hrow).mono ?_
 rintro z w2 ⟨rfl, r2, g2⟩
 have hgg := HHg.out
 have l2 := (l1.grown g2 (by omega)).drew
 have m2 := (m1.grown g2 (by omega)).drew
 have b2 := (b1.grown g2 b1.size (fun k h => by cases h; omega)).drew
 have r2' := r2.drew
 obtain ⟨hlen, hfr⟩ := HL.out
 have HB0 : Hid (∀ w1, BRow w1 g ts → Calls Tryz.prog 196 #[.slice (some ⟨g, 0, none⟩) sz cap, .int .i64 0, .int .i64 1] w1 fun z w' => z = .returned (.int .u64 ((bitsV ts 0 1 : Nat) : Int)) ∧ w1 = w') := fun w1 h => by
  have := cbits_any g cap ts 0 1 w1 h hsm (by omega) (by omega) (by omega)
  rw [hlen] at this
  exact this.mono (fun _ _ h => ⟨h.1, h.2.symm⟩)
 have HB1 : Hid (∀ w1, BRow w1 g ts → Calls Tryz.prog 196 #[.slice (some ⟨g, 0, none⟩) sz cap, .int .i64 1, .int .i64 (ex : Int)] w1 fun z w' => z = .returned (.int .u64 ((bitsV ts 1 ex : Nat) : Int)) ∧ w1 = w') := fun w1 h => by
  have := cbits_any g cap ts 1 ex w1 h hsm (by omega) (by omega) (by omega)
  rw [hlen] at this
  exact this.mono (fun _ _ h => ⟨h.1, h.2.symm⟩)
 have HB2 : Hid (∀ w1, BRow w1 g ts → Calls Tryz.prog 196 #[.slice (some ⟨g, 0, none⟩) sz cap, .int .i64 (1 + (ex : Int)), .int .i64 (fr : Int)] w1 fun z w' => z = .returned (.int .u64 ((bitsV ts (1 + ex) fr : Nat) : Int)) ∧ w1 = w') := fun w1 h => by
  have := cbits_any g cap ts (1 + ex) fr w1 h hsm (by omega) (by omega) (by omega)
  rw [hlen, show (((1 + ex : Nat) : Nat) : Int) = 1 + (ex : Int) from by omega] at this
  exact this.mono (fun _ _ h => ⟨h.1, h.2.symm⟩)
 have h1l := bitsV_lt ts 1 ex
 have h1p : (2 : Nat) ^ ex ≤ 2 ^ 15 := Nat.pow_le_pow_right (by omega) hex
 obtain ⟨hn0, hn1, hn2⟩ := HN.out
 rw [hn0] at HB0
 rw [hn1] at HB1 h1l
 rw [hn2] at HB2
 have hn1b : n1 < 32768 := by omega
 clear hn0 hn1 hn2 h1l h1p hlen hfr l0 l1 m0 m1 b0 b1 r2 hrow hrun hbel x8 H2 hgg
 have hexI : (ex : Int) ≤ 15 := by omega
 have hwr : IntKind.i64.wrap (1 + (ex : Int)) = 1 + (ex : Int) := IntWalk.i64_in _ ⟨by omega, by omega⟩
 have hwn : IntKind.i64.wrap (n1 : Int) = (n1 : Int) := IntWalk.i64_in _ ⟨by omega, by omega⟩
 obtain ⟨x0, x1, x2, x3, x4, x5, x6, x7, x8⟩ := l2.cs9
 go_wp2_with fail
 go_region_held3 (fun wq => wq.cell? ⟨w.heap.size, 0, none⟩ = some (.int .i64 R) ∧ wq.cell? ⟨w.heap.size, 1, none⟩ = some (.int .i64 D) ∧ wq.cell? ⟨w.heap.size, 2, none⟩ = some (.int .i64 L) ∧ wq.cell? ⟨w.heap.size, 3, none⟩ = some (.int .i64 G) ∧ wq.cell? ⟨w.heap.size, 4, none⟩ = some (.bool gr) ∧ wq.cell? ⟨w.heap.size, 5, none⟩ = some (.int .i64 (sz : Int)) ∧ wq.cell? ⟨w.heap.size, 6, none⟩ = some (.int .i64 (ex : Int)) ∧ wq.cell? ⟨w.heap.size, 7, none⟩ = some (.int .i64 fam) ∧ wq.cell? ⟨w.heap.size, 8, none⟩ = some (.func (.func F) #[] #[])) (go_keep) (first
  | (go_at_call 197; refine (HFR'.out _).mono ?_; rintro z w5 ⟨rfl, b5⟩; have l5 := l2.later b5; have m5 := m2.later b5; have b05 := below_trans b2 b5; have r5 := r2'.later b5; obtain ⟨y0, y1, y2, y3, y4, y5, y6, y7, y8⟩ := l5.cs9; obtain ⟨u0, u1, u2⟩ := m5.cs3; have f0 := m5.free 0; have f1 := m5.free 1; have f2 := m5.free 2)
  | (go_at_call 196; (with_reducible (refine (HB0.out _ (by assumption)).mono ?_)); rintro z wv ⟨rfl, rfl⟩)
  | (go_at_call 196; (with_reducible (refine (HB1.out _ (by assumption)).mono ?_)); rintro z wv ⟨rfl, rfl⟩)
  | (go_at_call 196; (with_reducible (refine (HB2.out _ (by assumption)).mono ?_)); rintro z wv ⟨rfl, rfl⟩))
 have cR : LocE (((w5.setCell ⟨w.heap.size + 1, 0, none⟩ (.bool q0)).setCell ⟨w.heap.size + 1, 1, none⟩ (.int .i64 (n1 : Int))).setCell ⟨w.heap.size + 1, 2, none⟩ (.int .u64 (n2 : Int))) (w.heap.size + 1) 147 [.bool q0, .int .i64 (n1 : Int), .int .u64 (n2 : Int)] := ((m5.set 0 (.bool q0)).set 1 (.int .i64 (n1 : Int))).set 2 (.int .u64 (n2 : Int))
 have bR := (((but_set w5 (w.heap.size + 1) 0 (.bool q0)).trans (but_set _ (w.heap.size + 1) 1 (.int .i64 (n1 : Int)))).trans (but_set _ (w.heap.size + 1) 2 (.int .u64 (n2 : Int)))).below b05 (by omega)
 have hl := run_loadVar_mid (P := Tryz.prog) _ (w.heap.size + 1) 0 147 [.bool q0, .int .i64 (n1 : Int), .int .u64 (n2 : Int)] _ cR.range Tryz.underlying147 rfl (by kernel_rfl)
 have HH : Hid (_ ∧ _) := ⟨hl, bR⟩
 clear hl bR cR l2 m2 b2 l5 m5 b05
 go_wp2
 obtain ⟨hl, bR⟩ := HH.out
 exact bodyPost_ret (results_one Tryz.results150 rfl hl) rfl ⟨rfl, bR⟩
def fldB (k : Nat) (s : ByteArray) : List Nat := turnB k (bytesOf s)
def fldN (k : Nat) (s : ByteArray) : Bool := decide (bitsV (fldB k s) 0 1 = 1)
def fldE (k : Nat) (s : ByteArray) : Nat := bitsV (fldB k s) 1 (exN k)
def fldF (k : Nat) (s : ByteArray) : Nat := bitsV (fldB k s) (1 + exN k) (frN k)
theorem sizes_fit {k : Nat} (hk : 1 ≤ k ∧ k ≤ 8) : 1 + exN k + frN k = 8 * szN k ∧ exN k ≤ 15 ∧ szN k ≤ 10 ∧ frN k ≤ 64 ∧ (∃ m, szN k = 2 * m) ∧ 7 ≤ exN k := by
 rcases eight hk with rfl | rfl | rfl | rfl | rfl | rfl | rfl | rfl
 ·exact ⟨by decide, by decide, by decide, by decide, ⟨2, rfl⟩, by decide⟩
 ·exact ⟨by decide, by decide, by decide, by decide, ⟨4, rfl⟩, by decide⟩
 ·exact ⟨by decide, by decide, by decide, by decide, ⟨5, rfl⟩, by decide⟩
 ·exact ⟨by decide, by decide, by decide, by decide, ⟨2, rfl⟩, by decide⟩
 ·exact ⟨by decide, by decide, by decide, by decide, ⟨4, rfl⟩, by decide⟩
 ·exact ⟨by decide, by decide, by decide, by decide, ⟨2, rfl⟩, by decide⟩
 ·exact ⟨by decide, by decide, by decide, by decide, ⟨4, rfl⟩, by decide⟩
 ·exact ⟨by decide, by decide, by decide, by decide, ⟨4, rfl⟩, by decide⟩
theorem cread_any (k : Nat) (hk : 1 ≤ k ∧ k ≤ 8) (s : ByteArray) (w : World) (hs : s.size = szN k) :
  Calls Tryz.prog 150 #[.agg (layV k).toArray, .string s] w fun z w' => z = .returned (.agg #[.bool (fldN k s), .int .i64 ((fldE k s : Nat) : Int), .int .u64 ((fldF k s : Nat) : Int)]) ∧ Below w.heap.size w w' := by
 obtain ⟨h1, h2, h3, h4, h5, -⟩ := sizes_fit hk
 have hb := bytesOf_len s
 have HT : ∀ g cap w1, BRow w1 g (bytesOf s) → Calls Tryz.prog (turnF k) #[.slice (some ⟨g, 0, none⟩) (szN k) cap] w1 fun z w' => z = .returned (.tuple #[]) ∧ BRow w' g (fldB k s) ∧ w1.grownBy w' (some g) := fun g cap w1 h => by
  have := turnF_any k g cap (bytesOf s) w1 h (by omega) (by rw [hb, hs]; exact h5)
  rw [hb, hs] at this
  exact this
 have HF := fun w1 => lfraction_any k hk w1
 have hl : (fldB k s).length = szN k := by rw [fldB, turnB_len, hb, hs]
 have hm := turnB_small k _ (bytesOf_small s)
 have HE := fun args W => turnF_enter k args W
 unfold fldN fldE fldF
 rcases eight hk with rfl | rfl | rfl | rfl | rfl | rfl | rfl | rfl
 all_goals exact cread_W _ _ _ _ _ _ _ _ _ _ s _ w hs hl hm h1 h2 h3 h4 HT HF HE
theorem fldE_lt {k : Nat} (s : ByteArray) : fldE k s < 2 ^ exN k := bitsV_lt _ _ _
theorem fldE_small {k : Nat} (hk : 1 ≤ k ∧ k ≤ 8) (s : ByteArray) : fldE k s < 65536 := by
 have h1 := fldE_lt (k := k) s
 have h2 : (2 : Nat) ^ exN k ≤ 2 ^ 15 := Nat.pow_le_pow_right (by omega) (sizes_fit hk).2.1
 omega
theorem fldF_lt {k : Nat} (s : ByteArray) : fldF k s < 2 ^ frN k := bitsV_lt _ _ _
theorem fldF_small {k : Nat} (hk : 1 ≤ k ∧ k ≤ 8) (s : ByteArray) : fldF k s < 18446744073709551616 := by
 have h1 := fldF_lt (k := k) s
 have h2 : (2 : Nat) ^ frN k ≤ 2 ^ 64 := Nat.pow_le_pow_right (by omega) (sizes_fit hk).2.2.2.1
 omega
end Go.Proofs.YtnhackdjplppjaaGreatDoor
namespace Go.Proofs.YtnhackdjplppjaaGreatDoor
open Go.RowKit
theorem word_digits (x : Nat) : Dg.vl 4294967296 [x % 4294967296, x / 4294967296] = x := by
 simp only [Dg.vl]
 omega
set_option maxHeartbeats 1600000 in
theorem fromWord_any (x : Nat) (hx : x < 18446744073709551616) (w : World) :
  Calls Tryz.prog 152 #[.int .u64 (x : Int)] w fun z w' => ∃ v, z = .returned v ∧ Own w' w.heap.size 141 .u32 v (Dg.dg 4294967296 x) ∧ Below w.heap.size w w' := by
 have hlo : (x : Int) % 4294967296 = ((x % 4294967296 : Nat) : Int) := by omega
 have hhi : (x : Int) / 4294967296 = ((x / 4294967296 : Nat) : Int) := by omega
 have hx2 : x / 4294967296 < 4294967296 := by omega
 have hx1 : x % 4294967296 < 4294967296 := Nat.mod_lt _ (by omega)
 have hd := word_digits x
 obtain ⟨lo, elo⟩ : ∃ n, x % 4294967296 = n := ⟨_, rfl⟩
 obtain ⟨hi, ehi⟩ : ∃ n, x / 4294967296 = n := ⟨_, rfl⟩
 rw [elo] at hlo hd hx1
 rw [ehi] at hhi hd hx2
 have own : Own (w.alloc (.cells #[.int .u32 (lo : Int), .int .u32 (hi : Int)] 141)) w.heap.size 141 .u32 (.slice (some ⟨w.heap.size, 0, none⟩) 2 2) [lo, hi] :=
  own_of_heap (zs := [lo, hi]) (heap_alloc_new _ _) (Nat.le_refl _) (by unfold maxLen; simp)
 have htr := trim_any (some ⟨w.heap.size, 0, none⟩) 2 2 [lo, hi] _ own.rd
 have hsm : Dg.Small 4294967296 [lo, hi] := by
  intro i
  match i with
  | 0 => exact hx1
  | 1 => exact hx2
  | i + 2 => simp
 have b0 := below_alloc w (.cells #[.int .u32 (lo : Int), .int .u32 (hi : Int)] 141)
 have HH : Hid (_ ∧ _) := ⟨hd, hsm⟩
 have hxI : (x : Int) < 18446744073709551616 := by omega
 clear elo ehi hd hsm
 go_enter Tryz.func152, Tryz.ntmps152
 go_wp2_with fail
 refine htr.mono ?_
 rintro z w1 ⟨n, rfl, ht, rfl⟩
 go_wp2
 go_ret
 obtain ⟨hd, hsm⟩ := HH.out
 refine ⟨_, rfl, ?_, b0⟩
 have := Dg.trim_eq 4294967296 (by omega) [lo, hi] n hsm ht.1 ht.2.1 ht.2.2
 rw [hd] at this
 rw [← this]
 exact own.take n ht.1
end Go.Proofs.YtnhackdjplppjaaGreatDoor

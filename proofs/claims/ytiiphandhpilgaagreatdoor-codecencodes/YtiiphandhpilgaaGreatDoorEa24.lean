/-
  Texts laid together: Eg1.
-/
import Derived.Deep.MidRow
import Derived.Test.YtiiphandhpilgaaGreatDoorEa22
import Derived.Test.YtiiphandhpilgaaGreatDoorEa23
namespace Go.Proofs.YtiiphandhpilgaaGreatDoor
open Go.RowKit
/-- What encodable answers. -/
def REnc (w : World) (c : Int) (g : Bool) (x : Trip) (er : Int) (z : Ending) (w' : World) : Prop :=
  ∃ s, z = .returned (.tuple #[.agg #[.int .i64 c, .bool g, .bool x.s, s, .int .i64 x.e], .int .i64 er]) ∧ Rd w' .i64 s (Dg.dg 65536 x.n) ∧ Below w.heap.size w w'

/-- What stays while a value is looked at. -/
structure EnF (w : World) (bf : Nat) (vv fl : List Value) (W : World) : Prop where
  v : LocE W w.heap.size 25 vv
  z : LocE W (w.heap.size + 1) 33 [.int .i64 0, .bool false, .bool false, .slice none 0 0, .int .i64 0]
  f : LocE W bf 44 fl
  b : Below w.heap.size w W

theorem EnF.later {w W W' : World} {bf : Nat} {vv fl : List Value} (h : EnF w bf vv fl W) (b : Below W.heap.size W W') : EnF w bf vv fl W' :=
  ⟨h.v.later b, h.z.later b, h.f.later b, below_trans h.b b⟩

/-- Another block is written. -/
theorem EnF.but {w W W' : World} {bf g : Nat} {vv fl : List Value} (h : EnF w bf vv fl W) (b : But g W W') (h1 : w.heap.size + 1 < g) (h2 : bf < g) : EnF w bf vv fl W' :=
  ⟨b.loc h.v (by omega), b.loc h.z (by omega), b.loc h.f (by omega), b.below h.b (by omega)⟩

theorem EnF.lt {w W : World} {bf : Nat} {vv fl : List Value} (h : EnF w bf vv fl W) : w.heap.size + 1 < W.heap.size ∧ bf < W.heap.size := ⟨h.z.lt, h.f.lt⟩

/-- The number of a value lies in a block of its own. -/
def EnX (w : World) (bf : Nat) (vv fl : List Value) (x : Trip) (s9 : Value) (W : World) : Prop :=
  ∃ g o cp, s9 = .pointer (some ⟨g, 0, none⟩) ∧ LocE W g 31 [.bool x.s, .slice o (Dg.dg 65536 x.n).length cp, .int .i64 x.e] ∧ Rd W .i64 (.slice o (Dg.dg 65536 x.n).length cp) (Dg.dg 65536 x.n) ∧ EnF w bf vv fl W

theorem off_far {B b : Nat} {v : Value} {zs : List Nat} (h : Far B v) (hb : b < B) : OffB b v zs := fun _ a n c hv => by
  have := h a n c hv
  omega

theorem range5 {w : World} {b i : Nat} {v0 v1 v2 v3 v4 : Value} (h : w.cell? ⟨b, i, none⟩ = some v0 ∧ w.cell? ⟨b, i + 1, none⟩ = some v1 ∧ w.cell? ⟨b, i + 2, none⟩ = some v2 ∧ w.cell? ⟨b, i + 3, none⟩ = some v3 ∧ w.cell? ⟨b, i + 4, none⟩ = some v4) : w.rangeAt b i [v0, v1, v2, v3, v4] := fun j v hv => by
  obtain ⟨h0, h1, h2, h3, h4⟩ := h
  match j, hv with
  | 0, hv => cases hv; exact h0
  | 1, hv => cases hv; exact h1
  | 2, hv => cases hv; exact h2
  | 3, hv => cases hv; exact h3
  | 4, hv => cases hv; exact h4
  | j + 5, hv => simp at hv

theorem exec_load {P : Program} {o : Oper} {a : Act} {w : World} (t : TypeId) (x : Operand) (ho : o.op = .load t x) (b i : Nat) (hx : a.eval x = .pointer (some ⟨b, i, none⟩)) (v : Value) (d : TypeDesc) (hu : P.underlying t = some d) (hd : d.isRow = false) (hc : w.cell? ⟨b, i, none⟩ = some v) : (execOp a.eval o).run P w = .ok (.value v) w := by
  have hagg : (isAgg t).run P w = .ok false w := by
    unfold isAgg
    rw [Sem.run_bind, run_underlying hu w]
    cases d <;> simp_all
  have hl : (loadVar t ⟨b, i, none⟩).run P w = .ok v w := by
    simp [loadVar, Sem.run_bind, hagg, hc]
  unfold execOp
  simp [ho, hx, Instr.loadAt, Instr.sureAddr, hl]
theorem exec_row {P : Program} {o : Oper} {a : Act} {w : World} (t : TypeId) (x : Operand) (ho : o.op = .load t x) (b i : Nat) (hx : a.eval x = .pointer (some ⟨b, i, none⟩)) (cs : List Value) (d : TypeDesc) (hr : w.rangeAt b i cs) (hu : P.underlying t = some d) (hd : d.isRow = true) (hi : (P.info? t).map (·.size) = some cs.length) : (execOp a.eval o).run P w = .ok (.value (.agg cs.toArray)) w := by
  unfold execOp
  simp only [ho, hx]
  have := run_loadAt_mid (P := P) w b i t cs d hr hu hd hi
  simp [this]

theorem wpList_take {P : Program} {ops : Array Oper} {rest : List Oper} {o : Oper} {a : Act} {w : World} {Q : Exit → Act → World → Prop} (hg : o.guard = none) (v : Value) (hv : (execOp a.eval o).run P w = .ok (.value v) w) (h : wpList P ops Q rest (a.put o.dst v) w) : wpList P ops Q (o :: rest) a w :=
  wpList_plain hg fun K hK => by
    unfold Oper.wp
    rw [hv]
    exact hK _ _ h

/-- The end: an answer is laid into its block. -/
theorem enc_end {w W : World} {bf : Nat} {vv fl : List Value} (F : EnF w bf vv fl W) (a0 a1 a2 a3 a4 : Value) :
    (loadVar 33 ⟨w.heap.size + 1, 0, none⟩).run Tryz.prog (W.setCells (w.heap.size + 1) 0 [a0, a1, a2, a3, a4]) = .ok (.agg #[a0, a1, a2, a3, a4]) (W.setCells (w.heap.size + 1) 0 [a0, a1, a2, a3, a4]) ∧ Below w.heap.size w (W.setCells (w.heap.size + 1) 0 [a0, a1, a2, a3, a4]) ∧ But (w.heap.size + 1) W (W.setCells (w.heap.size + 1) 0 [a0, a1, a2, a3, a4]) := by
  have bu := but_sets (w.heap.size + 1) [a0, a1, a2, a3, a4] 0 W
  have cR := F.z.sets [a0, a1, a2, a3, a4] rfl
  exact ⟨run_loadVar_mid (P := Tryz.prog) _ (w.heap.size + 1) 0 33 [a0, a1, a2, a3, a4] _ cR.range Tryz.underlying33 rfl (by kernel_rfl), bu.below F.b (Nat.le_succ _), bu⟩

set_option maxRecDepth 100000 in
set_option maxHeartbeats 12800000 in
theorem encodable_W (n : Int) (sz ex fr : Nat) (R D L G fam wd : Int) (gr ok : Bool) (c : Int) (ng : Bool) (ao : Option Addr) (la ca : Nat) (p k : Int) (N : Nat) (x : Trip) (gi : Bool) (ql qh q3 q4 q5 qc2 qf1 qf3 qe3 qla qp qg4 qpu qpo ql0 : Bool) (rc : Int) (rg : Bool) (rx : Trip) (re : Int) (w : World)
    (hl1 : decide (c < 1) = ql) (hh1 : decide (5 < c) = qh) (h3 : (c == 3) = q3) (h4 : (c == 4) = q4) (h5 : (c == 5) = q5) (h2 : (c != 2) = qc2) (hf1 : (fam != 1) = qf1) (hf3 : (fam != 3) = qf3) (he3 : (fam == 3) = qe3) (hla : decide (0 < (la : Int)) = qla) (hp0 : (p != 0) = qp) (hg4 : decide (4 ≤ c) = qg4) (hpu : decide (p < -20000) = qpu) (hpo : decide (20000 < p) = qpo) (hl0 : ((la : Int) == 0) = ql0)
    (HF : ∀ w1, Calls Tryz.prog 12 #[.int .i64 n] w1 fun z w' => z = .returned (.tuple #[.agg #[.int .i64 (sz : Int), .int .i64 (ex : Int), .int .i64 (fr : Int), .int .i64 R, .int .i64 D, .int .i64 L, .int .i64 G, .bool gr, .int .i64 fam], .bool ok]) ∧ Below w1.heap.size w1 w')
    (HN : ∀ w1, Below w.heap.size w w1 → Calls Tryz.prog 24 #[.slice ao la ca] w1 fun z w' => z = .returned (.int .i64 k) ∧ w1 = w')
    (HO : (!ok || ql || qh) = false → k = 0 → (qf1 && (q3 || q4) || qf3 && q5) = false → qc2 = false → (qpu || qpo) = false → ∀ w1, Below w.heap.size w w1 → Calls Tryz.prog 26 #[.slice ao la ca] w1 (RNum w1 N))
    (HWI : ∀ w1, Calls Tryz.prog 27 #[.agg #[.int .i64 R, .int .i64 D, .int .i64 L, .int .i64 G, .bool gr]] w1 fun z w' => z = .returned (.int .i64 wd) ∧ Below w1.heap.size w1 w')
    (UW : (!ok || ql || qh) = false → k = 0 → (qf1 && (q3 || q4) || qf3 && q5) = false → qc2 = false → (qpu || qpo) = false → IntKind.i64.wrap (wd * p) = wd * p)
    (HB : (!ok || ql || qh) = false → k = 0 → (qf1 && (q3 || q4) || qf3 && q5) = false → qc2 = false → (qpu || qpo) = false → ∀ o cp w1, Rd w1 .i64 (.slice o (Dg.dg 65536 N).length cp) (Dg.dg 65536 N) → Calls Tryz.prog 25 #[.agg #[.bool ng, .slice o (Dg.dg 65536 N).length cp, .int .i64 (wd * p)]] w1 (RDResF w1 x))
    (HI : (!ok || ql || qh) = false → k = 0 → (qf1 && (q3 || q4) || qf3 && q5) = false → qc2 = false → (qpu || qpo) = false → ql0 = false → ∀ o cp w1, Rd w1 .i64 (.slice o (Dg.dg 65536 x.n).length cp) (Dg.dg 65536 x.n) → Calls Tryz.prog 14 #[.agg #[.bool x.s, .slice o (Dg.dg 65536 x.n).length cp, .int .i64 x.e], .agg #[.int .i64 R, .int .i64 D, .int .i64 L, .int .i64 G, .bool gr]] w1 fun z w' => z = .returned (.bool gi) ∧ Below w1.heap.size w1 w')
    (E1 : (!ok || ql || qh) = true → 0 = rc ∧ false = rg ∧ (⟨false, 0, 0⟩ : Trip) = rx ∧ 6 = re)
    (E2 : (!ok || ql || qh) = false → ¬k = 0 → 0 = rc ∧ false = rg ∧ (⟨false, 0, 0⟩ : Trip) = rx ∧ k = re)
    (E3 : (!ok || ql || qh) = false → k = 0 → (qf1 && (q3 || q4) || qf3 && q5) = true → 0 = rc ∧ false = rg ∧ (⟨false, 0, 0⟩ : Trip) = rx ∧ 5 = re)
    (E4 : (!ok || ql || qh) = false → k = 0 → (qf1 && (q3 || q4) || qf3 && q5) = false → qc2 = true → (qla || qp || ng && (qg4 || qe3)) = true → 0 = rc ∧ false = rg ∧ (⟨false, 0, 0⟩ : Trip) = rx ∧ 4 = re)
    (E5 : (!ok || ql || qh) = false → k = 0 → (qf1 && (q3 || q4) || qf3 && q5) = false → qc2 = true → (qla || qp || ng && (qg4 || qe3)) = false → c = rc ∧ ng = rg ∧ (⟨false, 0, 0⟩ : Trip) = rx ∧ 0 = re)
    (E6 : (!ok || ql || qh) = false → k = 0 → (qf1 && (q3 || q4) || qf3 && q5) = false → qc2 = false → (qpu || qpo) = true → 0 = rc ∧ false = rg ∧ (⟨false, 0, 0⟩ : Trip) = rx ∧ 3 = re)
    (E7 : (!ok || ql || qh) = false → k = 0 → (qf1 && (q3 || q4) || qf3 && q5) = false → qc2 = false → (qpu || qpo) = false → (ql0 || !gi) = true → 0 = rc ∧ false = rg ∧ (⟨false, 0, 0⟩ : Trip) = rx ∧ 4 = re)
    (E8 : (!ok || ql || qh) = false → k = 0 → (qf1 && (q3 || q4) || qf3 && q5) = false → qc2 = false → (qpu || qpo) = false → (ql0 || !gi) = false → c = rc ∧ ng = rg ∧ x = rx ∧ 0 = re) :
    Calls Tryz.prog 7 #[.int .i64 n, .agg #[.int .i64 c, .bool ng, .slice ao la ca, .int .i64 p]] w (REnc w rc rg rx re) := by
  replace HF : Hid _ := HF
  replace HN : Hid _ := HN
  replace HO : Hid _ := HO
  replace HWI : Hid _ := HWI
  replace UW : Hid _ := UW
  replace HB : Hid _ := HB
  replace HI : Hid _ := HI
  replace E1 : Hid _ := E1
  replace E2 : Hid _ := E2
  replace E3 : Hid _ := E3
  replace E4 : Hid _ := E4
  replace E5 : Hid _ := E5
  replace E6 : Hid _ := E6
  replace E7 : Hid _ := E7
  replace E8 : Hid _ := E8
  replace hl1 : Hid _ := hl1
  replace hh1 : Hid _ := hh1
  replace h3 : Hid _ := h3
  replace h4 : Hid _ := h4
  replace h5 : Hid _ := h5
  replace h2 : Hid _ := h2
  replace hf1 : Hid _ := hf1
  replace hf3 : Hid _ := hf3
  replace he3 : Hid _ := he3
  replace hla : Hid _ := hla
  replace hp0 : Hid _ := hp0
  replace hg4 : Hid _ := hg4
  replace hpu : Hid _ := hpu
  replace hpo : Hid _ := hpo
  replace hl0 : Hid _ := hl0
  have b0 := below_alloc w (.cells #[.int .i64 c, .bool ng, .slice ao la ca, .int .i64 p] 25)
  have bz := below_alloc (w.alloc (.cells #[.int .i64 c, .bool ng, .slice ao la ca, .int .i64 p] 25)) (.cells #[.int .i64 0, .bool false, .bool false, .slice none 0 0, .int .i64 0] 33)
  have qv0 := (locE_new w [.int .i64 c, .bool ng, .slice ao la ca, .int .i64 p] 25).later bz
  have qz0 := locE_new (w.alloc (.cells #[.int .i64 c, .bool ng, .slice ao la ca, .int .i64 p] 25)) [.int .i64 0, .bool false, .bool false, .slice none 0 0, .int .i64 0] 33
  rw [World.size_alloc] at qz0
  have b00 := below_trans b0 bz
  clear b0 bz
  go_enter Tryz.func7, Tryz.ntmps7
  go_wp2_with fail
  refine (HF.out _).mono ?_
  rintro z w1 ⟨rfl, b1⟩
  have ba := below_alloc w1 (.cells #[.int .i64 (sz : Int), .int .i64 (ex : Int), .int .i64 (fr : Int), .int .i64 R, .int .i64 D, .int .i64 L, .int .i64 G, .bool gr, .int .i64 fam] 44)
  have F2 : EnF w w1.heap.size [.int .i64 c, .bool ng, .slice ao la ca, .int .i64 p] [.int .i64 (sz : Int), .int .i64 (ex : Int), .int .i64 (fr : Int), .int .i64 R, .int .i64 D, .int .i64 L, .int .i64 G, .bool gr, .int .i64 fam] (w1.alloc (.cells #[.int .i64 (sz : Int), .int .i64 (ex : Int), .int .i64 (fr : Int), .int .i64 R, .int .i64 D, .int .i64 L, .int .i64 G, .bool gr, .int .i64 fam] 44)) := ⟨(qv0.later b1).later ba, (qz0.later b1).later ba, locE_new w1 _ _, below_trans (below_trans b00 b1) ba⟩
  clear b00 qv0 qz0 b1 ba HF
  go_upto_region 2 with fail
  generalize w1.alloc (.cells #[.int .i64 (sz : Int), .int .i64 (ex : Int), .int .i64 (fr : Int), .int .i64 R, .int .i64 D, .int .i64 L, .int .i64 G, .bool gr, .int .i64 fam] 44) = w2 at F2 ⊢
  generalize w1.heap.size = bf at F2 ⊢
  have y0 := F2.v.cell 0 rfl; have y1 := F2.v.cell 1 rfl; have y2 := F2.v.cell 2 rfl; have y3 := F2.v.cell 3 rfl
  have x0 := F2.f.cell 0 rfl; have x1 := F2.f.cell 1 rfl; have x2 := F2.f.cell 2 rfl; have x3 := F2.f.cell 3 rfl; have x4 := F2.f.cell 4 rfl; have x5 := F2.f.cell 5 rfl; have x6 := F2.f.cell 6 rfl; have x7 := F2.f.cell 7 rfl; have x8 := F2.f.cell 8 rfl
  have hl1' := hl1.out
  have hh1' := hh1.out
  go_cut [26] (fun s wx => s = .bool (!ok || ql || qh) ∧ w2 = wx)
  case first =>
    as_aux_lemma =>
      cases ok
      · skip
        go_wp2_with fail
        go_meet
        exact ⟨rfl, rfl⟩
      · skip
        cases ql
        · skip
          cases qh
          · skip
            go_wp2_with fail
            go_meet
            exact ⟨rfl, rfl⟩
          · skip
            go_wp2_with fail
            go_meet
            exact ⟨rfl, rfl⟩
        · skip
          go_wp2_with fail
          go_meet
          exact ⟨rfl, rfl⟩
  case rest =>
    obtain ⟨hs, hw⟩ := hcut
    subst hs
    subst hw
    clear y0 y1 y2 y3 x0 x1 x2 x3 x4 x5 x6 x7 x8
    clear hl1' hh1'
    generalize (!ok || ql || qh) = b2 at *
    cases b2
    rotate_left
    · skip
      obtain ⟨rfl, rfl, rfl, rfl⟩ := E1.out rfl
      clear E1 E2 E3 E4 E5 E6 E7 E8 HO HB HI UW
      have y0 := F2.v.cell 0 rfl; have y1 := F2.v.cell 1 rfl; have y2 := F2.v.cell 2 rfl; have y3 := F2.v.cell 3 rfl
      have x0 := F2.f.cell 0 rfl; have x1 := F2.f.cell 1 rfl; have x2 := F2.f.cell 2 rfl; have x3 := F2.f.cell 3 rfl; have x4 := F2.f.cell 4 rfl; have x5 := F2.f.cell 5 rfl; have x6 := F2.f.cell 6 rfl; have x7 := F2.f.cell 7 rfl; have x8 := F2.f.cell 8 rfl
      obtain ⟨hl, bR, bu⟩ := enc_end F2 (.int .i64 0) (.bool false) (.bool false) (.slice none 0 0) (.int .i64 0)
      have th := F2.z.there 5 rfl
      clear HWI hl1 hh1 h3 h4 h5 h2 hf1 hf3 he3 hla hp0 hg4 hpu hpo hl0
      go_upto_region 3 with fail
      refine wp_region_lit ?_
      refine wpList_take rfl (.agg #[.int .i64 0, .bool false, .bool false, .slice none 0 0, .int .i64 0]) (by kernel_rfl) ?_
      refine wpList_store_mid rfl 33 (.tmp 4) (.tmp 27) rfl (w.heap.size + 1) 0 #[.int .i64 0, .bool false, .bool false, .slice none 0 0, .int .i64 0] (by kernel_rfl) (by kernel_rfl) th (by kernel_rfl) (by simp [Value.oneCell']) ?_
      refine wpList_take rfl (.int .i64 6) (by kernel_rfl) ?_
      refine wpList_nil ?_
      rename_i KK hKK
      refine hKK _ _ (wp_ret ?_)
      exact bodyPost_ret (results_two Tryz.results7 (by kernel_rfl) (by kernel_rfl) hl) rfl ⟨_, rfl, rd_zero _, bR⟩
    · skip
      replace E2 : Hid _ := E2.out rfl
      replace E3 : Hid _ := E3.out rfl
      replace E4 : Hid _ := E4.out rfl
      replace E5 : Hid _ := E5.out rfl
      replace E6 : Hid _ := E6.out rfl
      replace HO : Hid _ := HO.out rfl
      replace UW : Hid _ := UW.out rfl
      replace HB : Hid _ := HB.out rfl
      replace HI : Hid _ := HI.out rfl
      replace E7 : Hid _ := E7.out rfl
      replace E8 : Hid _ := E8.out rfl
      have y0 := F2.v.cell 0 rfl; have y1 := F2.v.cell 1 rfl; have y2 := F2.v.cell 2 rfl; have y3 := F2.v.cell 3 rfl
      go_wp2_with fail
      refine (HN.out _ F2.b).mono ?_
      rintro z w3 ⟨rfl, hw3⟩
      subst hw3
      by_cases hk : k = 0
      rotate_left
      · have hk1 : (k == 0) = false := by simpa using hk
        have hk2 : (k != 0) = true := by simpa using hk
        clear y0 y1 y2 y3
        obtain ⟨rfl, rfl, rfl, rfl⟩ := E2.out hk
        clear E1 E2 E3 E4 E5 E6 E7 E8 HO HB HI UW
        have y0 := F2.v.cell 0 rfl; have y1 := F2.v.cell 1 rfl; have y2 := F2.v.cell 2 rfl; have y3 := F2.v.cell 3 rfl
        have x0 := F2.f.cell 0 rfl; have x1 := F2.f.cell 1 rfl; have x2 := F2.f.cell 2 rfl; have x3 := F2.f.cell 3 rfl; have x4 := F2.f.cell 4 rfl; have x5 := F2.f.cell 5 rfl; have x6 := F2.f.cell 6 rfl; have x7 := F2.f.cell 7 rfl; have x8 := F2.f.cell 8 rfl
        obtain ⟨hl, bR, bu⟩ := enc_end F2 (.int .i64 0) (.bool false) (.bool false) (.slice none 0 0) (.int .i64 0)
        have th := F2.z.there 5 rfl
        clear HWI hl1 hh1 h3 h4 h5 h2 hf1 hf3 he3 hla hp0 hg4 hpu hpo hl0
        go_upto_region 6 with fail
        refine wp_region_lit ?_
        refine wpList_take rfl (.agg #[.int .i64 0, .bool false, .bool false, .slice none 0 0, .int .i64 0]) (by kernel_rfl) ?_
        refine wpList_take rfl (.int .i64 k) (by kernel_rfl) ?_
        refine wpList_store_mid rfl 33 (.tmp 4) (.tmp 33) rfl (w.heap.size + 1) 0 #[.int .i64 0, .bool false, .bool false, .slice none 0 0, .int .i64 0] (by kernel_rfl) (by kernel_rfl) th (by kernel_rfl) (by simp [Value.oneCell']) ?_
        refine wpList_take rfl (.int .i64 k) (by kernel_rfl) ?_
        refine wpList_nil ?_
        rename_i KK hKK
        refine hKK _ _ (wp_ret ?_)
        exact bodyPost_ret (results_two Tryz.results7 (by kernel_rfl) (by kernel_rfl) hl) rfl ⟨_, rfl, rd_zero _, bR⟩
      · skip
        replace E3 : Hid _ := E3.out hk
        replace E4 : Hid _ := E4.out hk
        replace E5 : Hid _ := E5.out hk
        replace E6 : Hid _ := E6.out hk
        replace HO : Hid _ := HO.out hk
        replace UW : Hid _ := UW.out hk
        replace HB : Hid _ := HB.out hk
        replace HI : Hid _ := HI.out hk
        replace E7 : Hid _ := E7.out hk
        replace E8 : Hid _ := E8.out hk
        subst hk
        clear HN E1 E2 y0 y1 y2 y3
        go_upto_region 7 with fail
        have y0 := F2.v.cell 0 rfl; have y1 := F2.v.cell 1 rfl; have y2 := F2.v.cell 2 rfl; have y3 := F2.v.cell 3 rfl
        have x0 := F2.f.cell 0 rfl; have x1 := F2.f.cell 1 rfl; have x2 := F2.f.cell 2 rfl; have x3 := F2.f.cell 3 rfl; have x4 := F2.f.cell 4 rfl; have x5 := F2.f.cell 5 rfl; have x6 := F2.f.cell 6 rfl; have x7 := F2.f.cell 7 rfl; have x8 := F2.f.cell 8 rfl
        have h3' := h3.out
        have h4' := h4.out
        have h5' := h5.out
        have hf1' := hf1.out
        have hf3' := hf3.out
        go_cut [57] (fun s wx => s = .bool (qf1 && (q3 || q4) || qf3 && q5) ∧ w2 = wx)
        case first =>
          as_aux_lemma =>
            cases qf1
            · skip
              cases qf3
              · skip
                go_wp2_with fail
                go_meet
                exact ⟨rfl, rfl⟩
              · skip
                cases q5
                · skip
                  go_wp2_with fail
                  go_meet
                  exact ⟨rfl, rfl⟩
                · skip
                  go_wp2_with fail
                  go_meet
                  exact ⟨rfl, rfl⟩
            · skip
              cases q3
              · skip
                cases q4
                · skip
                  cases qf3
                  · skip
                    go_wp2_with fail
                    go_meet
                    exact ⟨rfl, rfl⟩
                  · skip
                    cases q5
                    · skip
                      go_wp2_with fail
                      go_meet
                      exact ⟨rfl, rfl⟩
                    · skip
                      go_wp2_with fail
                      go_meet
                      exact ⟨rfl, rfl⟩
                · skip
                  go_wp2_with fail
                  go_meet
                  exact ⟨rfl, rfl⟩
              · skip
                go_wp2_with fail
                go_meet
                exact ⟨rfl, rfl⟩
        case rest =>
          obtain ⟨hs, hw⟩ := hcut
          subst hs
          subst hw
          clear y0 y1 y2 y3 x0 x1 x2 x3 x4 x5 x6 x7 x8
          clear h3' h4' h5' hf1' hf3'
          generalize (qf1 && (q3 || q4) || qf3 && q5) = b7 at *
          cases b7
          rotate_left
          · skip
            obtain ⟨rfl, rfl, rfl, rfl⟩ := E3.out rfl
            clear E3 E4 E5 E6 E7 E8 HO HB HI UW
            have y0 := F2.v.cell 0 rfl; have y1 := F2.v.cell 1 rfl; have y2 := F2.v.cell 2 rfl; have y3 := F2.v.cell 3 rfl
            have x0 := F2.f.cell 0 rfl; have x1 := F2.f.cell 1 rfl; have x2 := F2.f.cell 2 rfl; have x3 := F2.f.cell 3 rfl; have x4 := F2.f.cell 4 rfl; have x5 := F2.f.cell 5 rfl; have x6 := F2.f.cell 6 rfl; have x7 := F2.f.cell 7 rfl; have x8 := F2.f.cell 8 rfl
            obtain ⟨hl, bR, bu⟩ := enc_end F2 (.int .i64 0) (.bool false) (.bool false) (.slice none 0 0) (.int .i64 0)
            have th := F2.z.there 5 rfl
            clear HWI hl1 hh1 h3 h4 h5 h2 hf1 hf3 he3 hla hp0 hg4 hpu hpo hl0
            go_upto_region 8 with fail
            refine wp_region_lit ?_
            refine wpList_take rfl (.agg #[.int .i64 0, .bool false, .bool false, .slice none 0 0, .int .i64 0]) (by kernel_rfl) ?_
            refine wpList_store_mid rfl 33 (.tmp 4) (.tmp 58) rfl (w.heap.size + 1) 0 #[.int .i64 0, .bool false, .bool false, .slice none 0 0, .int .i64 0] (by kernel_rfl) (by kernel_rfl) th (by kernel_rfl) (by simp [Value.oneCell']) ?_
            refine wpList_take rfl (.int .i64 5) (by kernel_rfl) ?_
            refine wpList_nil ?_
            rename_i KK hKK
            refine hKK _ _ (wp_ret ?_)
            exact bodyPost_ret (results_two Tryz.results7 (by kernel_rfl) (by kernel_rfl) hl) rfl ⟨_, rfl, rd_zero _, bR⟩
          · skip
            replace E4 : Hid _ := E4.out rfl
            replace E5 : Hid _ := E5.out rfl
            replace E6 : Hid _ := E6.out rfl
            replace HO : Hid _ := HO.out rfl
            replace UW : Hid _ := UW.out rfl
            replace HB : Hid _ := HB.out rfl
            replace HI : Hid _ := HI.out rfl
            replace E7 : Hid _ := E7.out rfl
            replace E8 : Hid _ := E8.out rfl
            have h2' := h2.out
            cases qc2
            rotate_left
            · skip
              replace E4 : Hid _ := E4.out rfl
              replace E5 : Hid _ := E5.out rfl
              have y0 := F2.v.cell 0 rfl; have y1 := F2.v.cell 1 rfl; have y2 := F2.v.cell 2 rfl; have y3 := F2.v.cell 3 rfl
              go_upto_region 10 with fail
              clear y0 y1 y2 y3
              have y0 := F2.v.cell 0 rfl; have y1 := F2.v.cell 1 rfl; have y2 := F2.v.cell 2 rfl; have y3 := F2.v.cell 3 rfl
              have x0 := F2.f.cell 0 rfl; have x1 := F2.f.cell 1 rfl; have x2 := F2.f.cell 2 rfl; have x3 := F2.f.cell 3 rfl; have x4 := F2.f.cell 4 rfl; have x5 := F2.f.cell 5 rfl; have x6 := F2.f.cell 6 rfl; have x7 := F2.f.cell 7 rfl; have x8 := F2.f.cell 8 rfl
              have hla' := hla.out
              have hp0' := hp0.out
              have hg4' := hg4.out
              have he3' := he3.out
              go_cut [84] (fun s wx => s = .bool (qla || qp || ng && (qg4 || qe3)) ∧ w2 = wx)
              case first =>
                as_aux_lemma =>
                  cases qla
                  · have hz : la = 0 := by have := of_decide_eq_false hla'; omega
                    subst hz
                    cases qp
                    · have hz : p = 0 := by simpa using hp0'
                      subst hz
                      cases ng
                      · skip
                        go_wp2_with fail
                        go_meet
                        exact ⟨rfl, rfl⟩
                      · skip
                        cases qg4
                        · skip
                          cases qe3
                          · skip
                            go_wp2_with fail
                            go_meet
                            exact ⟨rfl, rfl⟩
                          · skip
                            go_wp2_with fail
                            go_meet
                            exact ⟨rfl, rfl⟩
                        · skip
                          go_wp2_with fail
                          go_meet
                          exact ⟨rfl, rfl⟩
                    · skip
                      go_wp2_with fail
                      go_meet
                      exact ⟨rfl, rfl⟩
                  · have hz0 : (0 : Int) < (la : Int) := of_decide_eq_true hla'
                    have hz1 : ¬ la = 0 := by omega
                    go_wp2_with fail
                    go_meet
                    exact ⟨rfl, rfl⟩
              case rest =>
                obtain ⟨hs, hw⟩ := hcut
                subst hs
                subst hw
                clear y0 y1 y2 y3 x0 x1 x2 x3 x4 x5 x6 x7 x8
                clear hla' hp0' hg4' he3'
                generalize (qla || qp || ng && (qg4 || qe3)) = b10 at *
                cases b10
                rotate_left
                · skip
                  obtain ⟨rfl, rfl, rfl, rfl⟩ := E4.out rfl
                  clear E3 E4 E5 E6 E7 E8 HO HB HI UW
                  have y0 := F2.v.cell 0 rfl; have y1 := F2.v.cell 1 rfl; have y2 := F2.v.cell 2 rfl; have y3 := F2.v.cell 3 rfl
                  have x0 := F2.f.cell 0 rfl; have x1 := F2.f.cell 1 rfl; have x2 := F2.f.cell 2 rfl; have x3 := F2.f.cell 3 rfl; have x4 := F2.f.cell 4 rfl; have x5 := F2.f.cell 5 rfl; have x6 := F2.f.cell 6 rfl; have x7 := F2.f.cell 7 rfl; have x8 := F2.f.cell 8 rfl
                  obtain ⟨hl, bR, bu⟩ := enc_end F2 (.int .i64 0) (.bool false) (.bool false) (.slice none 0 0) (.int .i64 0)
                  have th := F2.z.there 5 rfl
                  clear HWI hl1 hh1 h3 h4 h5 h2 hf1 hf3 he3 hla hp0 hg4 hpu hpo hl0
                  go_upto_region 11 with fail
                  refine wp_region_lit ?_
                  refine wpList_take rfl (.agg #[.int .i64 0, .bool false, .bool false, .slice none 0 0, .int .i64 0]) (by kernel_rfl) ?_
                  refine wpList_store_mid rfl 33 (.tmp 4) (.tmp 85) rfl (w.heap.size + 1) 0 #[.int .i64 0, .bool false, .bool false, .slice none 0 0, .int .i64 0] (by kernel_rfl) (by kernel_rfl) th (by kernel_rfl) (by simp [Value.oneCell']) ?_
                  refine wpList_take rfl (.int .i64 4) (by kernel_rfl) ?_
                  refine wpList_nil ?_
                  rename_i KK hKK
                  refine hKK _ _ (wp_ret ?_)
                  exact bodyPost_ret (results_two Tryz.results7 (by kernel_rfl) (by kernel_rfl) hl) rfl ⟨_, rfl, rd_zero _, bR⟩
                · obtain ⟨rfl, rfl, rfl, rfl⟩ := E5.out rfl
                  clear E3 E4 E5 E6 E7 E8 HO HB HI UW
                  have y0 := F2.v.cell 0 rfl; have y1 := F2.v.cell 1 rfl; have y2 := F2.v.cell 2 rfl; have y3 := F2.v.cell 3 rfl
                  have x0 := F2.f.cell 0 rfl; have x1 := F2.f.cell 1 rfl; have x2 := F2.f.cell 2 rfl; have x3 := F2.f.cell 3 rfl; have x4 := F2.f.cell 4 rfl; have x5 := F2.f.cell 5 rfl; have x6 := F2.f.cell 6 rfl; have x7 := F2.f.cell 7 rfl; have x8 := F2.f.cell 8 rfl
                  obtain ⟨hl, bR, bu⟩ := enc_end F2 (.int .i64 c) (.bool ng) (.bool false) (.slice none 0 0) (.int .i64 0)
                  have th := F2.z.there 5 rfl
                  clear HWI hl1 hh1 h3 h4 h5 h2 hf1 hf3 he3 hla hp0 hg4 hpu hpo hl0
                  go_upto_region 12 with fail
                  refine wp_region_lit ?_
                  refine wpList_take rfl (.pointer (some ⟨w.heap.size, 0, none⟩)) (by kernel_rfl) ?_
                  refine wpList_take rfl (.int .i64 c) (exec_load 3 (.tmp 86) rfl w.heap.size 0 (by kernel_rfl) _ _ Tryz.underlying3 rfl (F2.v.cell 0 rfl)) ?_
                  refine wpList_take rfl (.pointer (some ⟨w.heap.size, 1, none⟩)) (by kernel_rfl) ?_
                  refine wpList_take rfl (.bool ng) (exec_load 4 (.tmp 88) rfl w.heap.size 1 (by kernel_rfl) _ _ Tryz.underlying4 rfl (F2.v.cell 1 rfl)) ?_
                  refine wpList_take rfl (.agg #[.int .i64 c, .bool ng, .bool false, .slice none 0 0, .int .i64 0]) (by kernel_rfl) ?_
                  refine wpList_store_mid rfl 33 (.tmp 4) (.tmp 90) rfl (w.heap.size + 1) 0 #[.int .i64 c, .bool ng, .bool false, .slice none 0 0, .int .i64 0] (by kernel_rfl) (by kernel_rfl) th (by kernel_rfl) (by simp [Value.oneCell']) ?_
                  refine wpList_take rfl (.int .i64 0) (by kernel_rfl) ?_
                  refine wpList_nil ?_
                  rename_i KK hKK
                  refine hKK _ _ (wp_ret ?_)
                  exact bodyPost_ret (results_two Tryz.results7 (by kernel_rfl) (by kernel_rfl) hl) rfl ⟨_, rfl, rd_zero _, bR⟩
            · skip
              replace E6 : Hid _ := E6.out rfl
              replace HO : Hid _ := HO.out rfl
              replace UW : Hid _ := UW.out rfl
              replace HB : Hid _ := HB.out rfl
              replace HI : Hid _ := HI.out rfl
              replace E7 : Hid _ := E7.out rfl
              replace E8 : Hid _ := E8.out rfl
              obtain rfl : c = 2 := by simpa using h2'
              clear h2'
              have y0 := F2.v.cell 0 rfl; have y1 := F2.v.cell 1 rfl; have y2 := F2.v.cell 2 rfl; have y3 := F2.v.cell 3 rfl
              go_upto_region 13 with fail
              clear y0 y1 y2 y3
              have y0 := F2.v.cell 0 rfl; have y1 := F2.v.cell 1 rfl; have y2 := F2.v.cell 2 rfl; have y3 := F2.v.cell 3 rfl
              have x0 := F2.f.cell 0 rfl; have x1 := F2.f.cell 1 rfl; have x2 := F2.f.cell 2 rfl; have x3 := F2.f.cell 3 rfl; have x4 := F2.f.cell 4 rfl; have x5 := F2.f.cell 5 rfl; have x6 := F2.f.cell 6 rfl; have x7 := F2.f.cell 7 rfl; have x8 := F2.f.cell 8 rfl
              have hpu' := hpu.out
              have hpo' := hpo.out
              go_cut [98] (fun s wx => s = .bool (qpu || qpo) ∧ w2 = wx)
              case first =>
                as_aux_lemma =>
                  cases qpu
                  · skip
                    cases qpo
                    · skip
                      go_wp2_with fail
                      go_meet
                      exact ⟨rfl, rfl⟩
                    · skip
                      go_wp2_with fail
                      go_meet
                      exact ⟨rfl, rfl⟩
                  · skip
                    go_wp2_with fail
                    go_meet
                    exact ⟨rfl, rfl⟩
              case rest =>
                obtain ⟨hs, hw⟩ := hcut
                subst hs
                subst hw
                clear y0 y1 y2 y3 x0 x1 x2 x3 x4 x5 x6 x7 x8
                clear hpu' hpo'
                generalize (qpu || qpo) = b13 at *
                cases b13
                rotate_left
                · skip
                  obtain ⟨rfl, rfl, rfl, rfl⟩ := E6.out rfl
                  clear E3 E4 E5 E6 E7 E8 HO HB HI UW
                  have y0 := F2.v.cell 0 rfl; have y1 := F2.v.cell 1 rfl; have y2 := F2.v.cell 2 rfl; have y3 := F2.v.cell 3 rfl
                  have x0 := F2.f.cell 0 rfl; have x1 := F2.f.cell 1 rfl; have x2 := F2.f.cell 2 rfl; have x3 := F2.f.cell 3 rfl; have x4 := F2.f.cell 4 rfl; have x5 := F2.f.cell 5 rfl; have x6 := F2.f.cell 6 rfl; have x7 := F2.f.cell 7 rfl; have x8 := F2.f.cell 8 rfl
                  obtain ⟨hl, bR, bu⟩ := enc_end F2 (.int .i64 0) (.bool false) (.bool false) (.slice none 0 0) (.int .i64 0)
                  have th := F2.z.there 5 rfl
                  clear HWI hl1 hh1 h3 h4 h5 h2 hf1 hf3 he3 hla hp0 hg4 hpu hpo hl0
                  go_upto_region 14 with fail
                  refine wp_region_lit ?_
                  refine wpList_take rfl (.agg #[.int .i64 0, .bool false, .bool false, .slice none 0 0, .int .i64 0]) (by kernel_rfl) ?_
                  refine wpList_store_mid rfl 33 (.tmp 4) (.tmp 99) rfl (w.heap.size + 1) 0 #[.int .i64 0, .bool false, .bool false, .slice none 0 0, .int .i64 0] (by kernel_rfl) (by kernel_rfl) th (by kernel_rfl) (by simp [Value.oneCell']) ?_
                  refine wpList_take rfl (.int .i64 3) (by kernel_rfl) ?_
                  refine wpList_nil ?_
                  rename_i KK hKK
                  refine hKK _ _ (wp_ret ?_)
                  exact bodyPost_ret (results_two Tryz.results7 (by kernel_rfl) (by kernel_rfl) hl) rfl ⟨_, rfl, rd_zero _, bR⟩
                · skip
                  replace HO : Hid _ := HO.out rfl
                  replace HB : Hid _ := HB.out rfl
                  replace HI : Hid _ := HI.out rfl
                  replace E7 : Hid _ := E7.out rfl
                  replace E8 : Hid _ := E8.out rfl
                  have UW' := UW.out rfl
                  clear E3 E4 E5 E6 UW
                  go_upto_region 15 with fail
                  go_cut [9] (fun s9 wx => EnX w bf [.int .i64 2, .bool ng, .slice ao la ca, .int .i64 p] [.int .i64 (sz : Int), .int .i64 (ex : Int), .int .i64 (fr : Int), .int .i64 R, .int .i64 D, .int .i64 L, .int .i64 G, .bool gr, .int .i64 fam] x s9 wx)
                  case first =>
                    have Fd := F2.later (Below.refl _ _).drew
                    have hS : (_ ∧ _ ∧ _) ∧ (_ ∧ _ ∧ _ ∧ _ ∧ _) := ⟨⟨Fd.v.cell 1 rfl, Fd.v.cell 2 rfl, Fd.v.cell 3 rfl⟩, Fd.f.cell 3 rfl, Fd.f.cell 4 rfl, Fd.f.cell 5 rfl, Fd.f.cell 6 rfl, Fd.f.cell 7 rfl⟩
                    refine wp_region_held_drew (S := fun wq => (wq.cell? ⟨w.heap.size, 1, none⟩ = some (.bool ng) ∧ wq.cell? ⟨w.heap.size, 2, none⟩ = some (.slice ao la ca) ∧ wq.cell? ⟨w.heap.size, 3, none⟩ = some (.int .i64 p)) ∧ wq.cell? ⟨bf, 3, none⟩ = some (.int .i64 R) ∧ wq.cell? ⟨bf, 4, none⟩ = some (.int .i64 D) ∧ wq.cell? ⟨bf, 5, none⟩ = some (.int .i64 L) ∧ wq.cell? ⟨bf, 6, none⟩ = some (.int .i64 G) ∧ wq.cell? ⟨bf, 7, none⟩ = some (.bool gr)) (by kernel_rfl) hS (fun hS0 => ?_)
                    clear hS
                    generalize World.drew _ = W0 at Fd hS0 ⊢
                    refine wpAnyH_take (i := 0) (v := .pointer (some ⟨w.heap.size, 1, none⟩)) rfl (by kernel_rfl) (by kernel_rfl) (by kernel_rfl) (fun _ _ _ h => h) (Or.inl ⟨by kernel_rfl, fun w0 _ => by kernel_rfl⟩) hS0 ?_
                    refine wpAnyH_take (i := 1) (v := .bool ng) rfl (by kernel_rfl) (by kernel_rfl) (by kernel_rfl) (fun _ _ _ h => h) (Or.inl ⟨by kernel_rfl, fun w0 hw0 => exec_load 4 (.tmp 100) rfl w.heap.size 1 (by kernel_rfl) _ _ Tryz.underlying4 rfl hw0.1.1⟩) hS0 ?_
                    refine wpAnyH_take (i := 2) (v := .pointer (some ⟨w.heap.size, 2, none⟩)) rfl (by kernel_rfl) (by kernel_rfl) (by kernel_rfl) (fun _ _ _ h => h) (Or.inl ⟨by kernel_rfl, fun w0 _ => by kernel_rfl⟩) hS0 ?_
                    refine wpAnyH_take (i := 3) (v := .slice ao la ca) rfl (by kernel_rfl) (by kernel_rfl) (by kernel_rfl) (fun _ _ _ h => h) (Or.inl ⟨by kernel_rfl, fun w0 hw0 => exec_load 23 (.tmp 102) rfl w.heap.size 2 (by kernel_rfl) _ _ Tryz.underlying23 rfl hw0.1.2.1⟩) hS0 ?_
                    refine wpAnyH_take (i := 5) (v := .pointer (some ⟨bf, 3, none⟩)) rfl (by kernel_rfl) (by kernel_rfl) (by kernel_rfl) (fun _ _ _ h => h) (Or.inl ⟨by kernel_rfl, fun w0 _ => by kernel_rfl⟩) hS0 ?_
                    refine wpAnyH_take (i := 6) (v := .agg #[.int .i64 R, .int .i64 D, .int .i64 L, .int .i64 G, .bool gr]) rfl (by kernel_rfl) (by kernel_rfl) (by kernel_rfl) (fun _ _ _ h => h) (Or.inl ⟨by kernel_rfl, fun w0 hw0 => exec_row 42 (.tmp 105) rfl bf 3 (by kernel_rfl) [.int .i64 R, .int .i64 D, .int .i64 L, .int .i64 G, .bool gr] _ (range5 hw0.2) Tryz.underlying42 rfl (by kernel_rfl)⟩) hS0 ?_
                    refine wpAnyH_take (i := 8) (v := .pointer (some ⟨w.heap.size, 3, none⟩)) rfl (by kernel_rfl) (by kernel_rfl) (by kernel_rfl) (fun _ _ _ h => h) (Or.inl ⟨by kernel_rfl, fun w0 _ => by kernel_rfl⟩) hS0 ?_
                    refine wpAnyH_take (i := 9) (v := .int .i64 p) rfl (by kernel_rfl) (by kernel_rfl) (by kernel_rfl) (fun _ _ _ h => h) (Or.inl ⟨by kernel_rfl, fun w0 hw0 => exec_load 3 (.tmp 108) rfl w.heap.size 3 (by kernel_rfl) _ _ Tryz.underlying3 rfl hw0.1.2.2⟩) hS0 ?_
                    refine wpAnyH_ready (rs := [4, 13]) (by kernel_rfl) (by simp) ?_
                    refine AllReadyH.cons rfl (fun K hK => ?_) (AllReadyH.cons rfl (fun K hK => ?_) AllReadyH.nil)
                    · skip
                      go_simp
                      refine (HO.out _ Fd.b).mono ?_
                      rintro z W1 ⟨v1, rfl, rO1, bb1⟩
                      obtain ⟨oo, oc, rfl⟩ := rO1.shape
                      have F1_ := Fd.later bb1
                      refine hK.out _ _ ⟨⟨F1_.v.cell 1 rfl, F1_.v.cell 2 rfl, F1_.v.cell 3 rfl⟩, F1_.f.cell 3 rfl, F1_.f.cell 4 rfl, F1_.f.cell 5 rfl, F1_.f.cell 6 rfl, F1_.f.cell 7 rfl⟩ (fun hS1 => ?_)
                      clear hK K
                      refine wpAnyH_ready (rs := [7, 13]) (by kernel_rfl) (by simp) ?_
                      refine AllReadyH.cons rfl (fun K hK => ?_) (AllReadyH.cons rfl (fun K hK => ?_) AllReadyH.nil)
                      · skip
                        go_simp
                        refine (HWI.out _).mono ?_
                        rintro z W2 ⟨rfl, bb2⟩
                        have F2_ := F1_.later bb2
                        have rO2 := rO1.later bb2
                        refine hK.out _ _ ⟨⟨F2_.v.cell 1 rfl, F2_.v.cell 2 rfl, F2_.v.cell 3 rfl⟩, F2_.f.cell 3 rfl, F2_.f.cell 4 rfl, F2_.f.cell 5 rfl, F2_.f.cell 6 rfl, F2_.f.cell 7 rfl⟩ (fun hS2 => ?_)
                        clear hK K
                        refine wpAnyH_take (i := 10) (v := .int .i64 (IntKind.i64.wrap (wd * p))) rfl (by kernel_rfl) (by kernel_rfl) (by kernel_rfl) (fun _ _ _ h => h) (Or.inl ⟨by kernel_rfl, fun w0 _ => by kernel_rfl⟩) hS2 ?_
                        rw [UW']
                        refine wpAnyH_take (i := 11) (v := .agg #[.bool ng, .slice oo (Dg.dg 65536 N).length oc, .int .i64 (wd * p)]) rfl (by kernel_rfl) (by kernel_rfl) (by kernel_rfl) (fun _ _ _ h => h) (Or.inl ⟨by kernel_rfl, fun w0 _ => by kernel_rfl⟩) hS2 ?_
                        refine wpAnyH_ready (rs := [12, 13]) (by kernel_rfl) (by simp) ?_
                        refine AllReadyH.cons rfl (fun K hK => ?_) (AllReadyH.cons rfl (fun K hK => ?_) AllReadyH.nil)
                        · skip
                          go_simp
                          refine (HB.out _ _ _ rO2).mono ?_
                          rintro z W3 ⟨v3, rfl, rB3, far3, bb3⟩
                          obtain ⟨xo, xc, rfl⟩ := rB3.shape
                          have F3_ := F2_.later bb3
                          have rO3 := rO2.later bb3
                          refine hK.out _ _ ⟨⟨F3_.v.cell 1 rfl, F3_.v.cell 2 rfl, F3_.v.cell 3 rfl⟩, F3_.f.cell 3 rfl, F3_.f.cell 4 rfl, F3_.f.cell 5 rfl, F3_.f.cell 6 rfl, F3_.f.cell 7 rfl⟩ (fun hS3 => ?_)
                          clear hK K
                          refine wpAnyH_ready (rs := [13]) (by kernel_rfl) (by simp) ?_
                          refine AllReadyH.cons rfl (fun K hK => ?_) AllReadyH.nil
                          go_simp
                          have bb4 := below_alloc W3 (.cells #[.bool false, .slice none 0 0, .int .i64 0] 31)
                          have nA4 := locE_new W3 [.bool false, .slice none 0 0, .int .i64 0] 31
                          obtain ⟨hlt1, hlt2⟩ := F3_.lt
                          have F4_ := F3_.later bb4
                          have rO4 := rO3.later bb4
                          have rB4 := rB3.later bb4
                          generalize W3.alloc (.cells #[.bool false, .slice none 0 0, .int .i64 0] 31) = W4 at bb4 F4_ rO4 rB4 nA4  ⊢
                          refine hK.out _ _ ⟨⟨F4_.v.cell 1 rfl, F4_.v.cell 2 rfl, F4_.v.cell 3 rfl⟩, F4_.f.cell 3 rfl, F4_.f.cell 4 rfl, F4_.f.cell 5 rfl, F4_.f.cell 6 rfl, F4_.f.cell 7 rfl⟩ (fun hS4 => ?_)
                          clear hK K
                          have bu := ((but_set W4 (W3.heap.size) 0 (.bool x.s)).trans (but_set _ (W3.heap.size) 1 (.slice xo (Dg.dg 65536 x.n).length xc))).trans (but_set _ (W3.heap.size) 2 (.int .i64 x.e))
                          have nX := (((nA4.set 0 (.bool x.s)).set 1 (.slice xo (Dg.dg 65536 x.n).length xc)).set 2 (.int .i64 x.e))
                          simp only [List.set_cons_succ, List.set_cons_zero] at nX
                          have FX := F4_.but bu hlt1 hlt2
                          have rX := rB3.later (bu.below bb4 (Nat.le_refl _))
                          have n0 := nA4.cell 0 rfl; have n1 := nA4.cell 1 rfl; have n2 := nA4.cell 2 rfl; have g0 := nA4.free 0; have g1 := nA4.free 1; have g2 := nA4.free 2
                          refine wpAnyH_ready (rs := [14]) (by kernel_rfl) (by simp) ?_
                          refine AllReadyH.cons rfl (fun K hK => ?_) AllReadyH.nil
                          go_simp
                          refine hK.out _ _ ⟨⟨FX.v.cell 1 rfl, FX.v.cell 2 rfl, FX.v.cell 3 rfl⟩, FX.f.cell 3 rfl, FX.f.cell 4 rfl, FX.f.cell 5 rfl, FX.f.cell 6 rfl, FX.f.cell 7 rfl⟩ (fun hSX => ?_)
                          clear hK K
                          refine wpAnyH_done (by kernel_rfl) ?_ _
                          go_wp2_with fail
                          go_meet
                          exact ⟨_, _, _, rfl, nX, rX, FX⟩
                        · skip
                          go_simp
                          have bb5 := below_alloc W2 (.cells #[.bool false, .slice none 0 0, .int .i64 0] 31)
                          have nA5 := locE_new W2 [.bool false, .slice none 0 0, .int .i64 0] 31
                          obtain ⟨hlt1, hlt2⟩ := F2_.lt
                          have F5_ := F2_.later bb5
                          have rO5 := rO2.later bb5
                          generalize W2.alloc (.cells #[.bool false, .slice none 0 0, .int .i64 0] 31) = W5 at bb5 F5_ rO5 nA5  ⊢
                          refine hK.out _ _ ⟨⟨F5_.v.cell 1 rfl, F5_.v.cell 2 rfl, F5_.v.cell 3 rfl⟩, F5_.f.cell 3 rfl, F5_.f.cell 4 rfl, F5_.f.cell 5 rfl, F5_.f.cell 6 rfl, F5_.f.cell 7 rfl⟩ (fun hS5 => ?_)
                          clear hK K
                          refine wpAnyH_ready (rs := [12]) (by kernel_rfl) (by simp) ?_
                          refine AllReadyH.cons rfl (fun K hK => ?_) AllReadyH.nil
                          go_simp
                          refine (HB.out _ _ _ rO5).mono ?_
                          rintro z W6 ⟨v6, rfl, rB6, far6, bb6⟩
                          obtain ⟨xo, xc, rfl⟩ := rB6.shape
                          have F6_ := F5_.later bb6
                          have rO6 := rO5.later bb6
                          have nA6 := nA5.later bb6
                          have hfar6 : W2.heap.size < W5.heap.size := nA5.lt
                          refine hK.out _ _ ⟨⟨F6_.v.cell 1 rfl, F6_.v.cell 2 rfl, F6_.v.cell 3 rfl⟩, F6_.f.cell 3 rfl, F6_.f.cell 4 rfl, F6_.f.cell 5 rfl, F6_.f.cell 6 rfl, F6_.f.cell 7 rfl⟩ (fun hS6 => ?_)
                          clear hK K
                          have bu := ((but_set W6 (W2.heap.size) 0 (.bool x.s)).trans (but_set _ (W2.heap.size) 1 (.slice xo (Dg.dg 65536 x.n).length xc))).trans (but_set _ (W2.heap.size) 2 (.int .i64 x.e))
                          have nX := (((nA6.set 0 (.bool x.s)).set 1 (.slice xo (Dg.dg 65536 x.n).length xc)).set 2 (.int .i64 x.e))
                          simp only [List.set_cons_succ, List.set_cons_zero] at nX
                          have FX := F6_.but bu hlt1 hlt2
                          have rX := bu.rd rB6 (off_far far6 hfar6)
                          have n0 := nA6.cell 0 rfl; have n1 := nA6.cell 1 rfl; have n2 := nA6.cell 2 rfl; have g0 := nA6.free 0; have g1 := nA6.free 1; have g2 := nA6.free 2
                          refine wpAnyH_ready (rs := [14]) (by kernel_rfl) (by simp) ?_
                          refine AllReadyH.cons rfl (fun K hK => ?_) AllReadyH.nil
                          go_simp
                          refine hK.out _ _ ⟨⟨FX.v.cell 1 rfl, FX.v.cell 2 rfl, FX.v.cell 3 rfl⟩, FX.f.cell 3 rfl, FX.f.cell 4 rfl, FX.f.cell 5 rfl, FX.f.cell 6 rfl, FX.f.cell 7 rfl⟩ (fun hSX => ?_)
                          clear hK K
                          refine wpAnyH_done (by kernel_rfl) ?_ _
                          go_wp2_with fail
                          go_meet
                          exact ⟨_, _, _, rfl, nX, rX, FX⟩
                      · skip
                        go_simp
                        have bb7 := below_alloc W1 (.cells #[.bool false, .slice none 0 0, .int .i64 0] 31)
                        have nA7 := locE_new W1 [.bool false, .slice none 0 0, .int .i64 0] 31
                        obtain ⟨hlt1, hlt2⟩ := F1_.lt
                        have F7_ := F1_.later bb7
                        have rO7 := rO1.later bb7
                        generalize W1.alloc (.cells #[.bool false, .slice none 0 0, .int .i64 0] 31) = W7 at bb7 F7_ rO7 nA7  ⊢
                        refine hK.out _ _ ⟨⟨F7_.v.cell 1 rfl, F7_.v.cell 2 rfl, F7_.v.cell 3 rfl⟩, F7_.f.cell 3 rfl, F7_.f.cell 4 rfl, F7_.f.cell 5 rfl, F7_.f.cell 6 rfl, F7_.f.cell 7 rfl⟩ (fun hS7 => ?_)
                        clear hK K
                        refine wpAnyH_ready (rs := [7]) (by kernel_rfl) (by simp) ?_
                        refine AllReadyH.cons rfl (fun K hK => ?_) AllReadyH.nil
                        go_simp
                        refine (HWI.out _).mono ?_
                        rintro z W8 ⟨rfl, bb8⟩
                        have F8_ := F7_.later bb8
                        have rO8 := rO7.later bb8
                        have nA8 := nA7.later bb8
                        refine hK.out _ _ ⟨⟨F8_.v.cell 1 rfl, F8_.v.cell 2 rfl, F8_.v.cell 3 rfl⟩, F8_.f.cell 3 rfl, F8_.f.cell 4 rfl, F8_.f.cell 5 rfl, F8_.f.cell 6 rfl, F8_.f.cell 7 rfl⟩ (fun hS8 => ?_)
                        clear hK K
                        refine wpAnyH_take (i := 10) (v := .int .i64 (IntKind.i64.wrap (wd * p))) rfl (by kernel_rfl) (by kernel_rfl) (by kernel_rfl) (fun _ _ _ h => h) (Or.inl ⟨by kernel_rfl, fun w0 _ => by kernel_rfl⟩) hS8 ?_
                        rw [UW']
                        refine wpAnyH_take (i := 11) (v := .agg #[.bool ng, .slice oo (Dg.dg 65536 N).length oc, .int .i64 (wd * p)]) rfl (by kernel_rfl) (by kernel_rfl) (by kernel_rfl) (fun _ _ _ h => h) (Or.inl ⟨by kernel_rfl, fun w0 _ => by kernel_rfl⟩) hS8 ?_
                        refine wpAnyH_ready (rs := [12]) (by kernel_rfl) (by simp) ?_
                        refine AllReadyH.cons rfl (fun K hK => ?_) AllReadyH.nil
                        go_simp
                        refine (HB.out _ _ _ rO8).mono ?_
                        rintro z W9 ⟨v9, rfl, rB9, far9, bb9⟩
                        obtain ⟨xo, xc, rfl⟩ := rB9.shape
                        have F9_ := F8_.later bb9
                        have rO9 := rO8.later bb9
                        have nA9 := nA8.later bb9
                        have hfar9 : W1.heap.size < W8.heap.size := nA8.lt
                        refine hK.out _ _ ⟨⟨F9_.v.cell 1 rfl, F9_.v.cell 2 rfl, F9_.v.cell 3 rfl⟩, F9_.f.cell 3 rfl, F9_.f.cell 4 rfl, F9_.f.cell 5 rfl, F9_.f.cell 6 rfl, F9_.f.cell 7 rfl⟩ (fun hS9 => ?_)
                        clear hK K
                        have bu := ((but_set W9 (W1.heap.size) 0 (.bool x.s)).trans (but_set _ (W1.heap.size) 1 (.slice xo (Dg.dg 65536 x.n).length xc))).trans (but_set _ (W1.heap.size) 2 (.int .i64 x.e))
                        have nX := (((nA9.set 0 (.bool x.s)).set 1 (.slice xo (Dg.dg 65536 x.n).length xc)).set 2 (.int .i64 x.e))
                        simp only [List.set_cons_succ, List.set_cons_zero] at nX
                        have FX := F9_.but bu hlt1 hlt2
                        have rX := bu.rd rB9 (off_far far9 hfar9)
                        have n0 := nA9.cell 0 rfl; have n1 := nA9.cell 1 rfl; have n2 := nA9.cell 2 rfl; have g0 := nA9.free 0; have g1 := nA9.free 1; have g2 := nA9.free 2
                        refine wpAnyH_ready (rs := [14]) (by kernel_rfl) (by simp) ?_
                        refine AllReadyH.cons rfl (fun K hK => ?_) AllReadyH.nil
                        go_simp
                        refine hK.out _ _ ⟨⟨FX.v.cell 1 rfl, FX.v.cell 2 rfl, FX.v.cell 3 rfl⟩, FX.f.cell 3 rfl, FX.f.cell 4 rfl, FX.f.cell 5 rfl, FX.f.cell 6 rfl, FX.f.cell 7 rfl⟩ (fun hSX => ?_)
                        clear hK K
                        refine wpAnyH_done (by kernel_rfl) ?_ _
                        go_wp2_with fail
                        go_meet
                        exact ⟨_, _, _, rfl, nX, rX, FX⟩
                    · skip
                      go_simp
                      have bb10 := below_alloc W0 (.cells #[.bool false, .slice none 0 0, .int .i64 0] 31)
                      have nA10 := locE_new W0 [.bool false, .slice none 0 0, .int .i64 0] 31
                      obtain ⟨hlt1, hlt2⟩ := Fd.lt
                      have F10_ := Fd.later bb10
                      generalize W0.alloc (.cells #[.bool false, .slice none 0 0, .int .i64 0] 31) = W10 at bb10 F10_ nA10  ⊢
                      refine hK.out _ _ ⟨⟨F10_.v.cell 1 rfl, F10_.v.cell 2 rfl, F10_.v.cell 3 rfl⟩, F10_.f.cell 3 rfl, F10_.f.cell 4 rfl, F10_.f.cell 5 rfl, F10_.f.cell 6 rfl, F10_.f.cell 7 rfl⟩ (fun hS10 => ?_)
                      clear hK K
                      refine wpAnyH_ready (rs := [4]) (by kernel_rfl) (by simp) ?_
                      refine AllReadyH.cons rfl (fun K hK => ?_) AllReadyH.nil
                      go_simp
                      refine (HO.out _ F10_.b).mono ?_
                      rintro z W11 ⟨v11, rfl, rO11, bb11⟩
                      obtain ⟨oo, oc, rfl⟩ := rO11.shape
                      have F11_ := F10_.later bb11
                      have nA11 := nA10.later bb11
                      refine hK.out _ _ ⟨⟨F11_.v.cell 1 rfl, F11_.v.cell 2 rfl, F11_.v.cell 3 rfl⟩, F11_.f.cell 3 rfl, F11_.f.cell 4 rfl, F11_.f.cell 5 rfl, F11_.f.cell 6 rfl, F11_.f.cell 7 rfl⟩ (fun hS11 => ?_)
                      clear hK K
                      refine wpAnyH_ready (rs := [7]) (by kernel_rfl) (by simp) ?_
                      refine AllReadyH.cons rfl (fun K hK => ?_) AllReadyH.nil
                      go_simp
                      refine (HWI.out _).mono ?_
                      rintro z W12 ⟨rfl, bb12⟩
                      have F12_ := F11_.later bb12
                      have rO12 := rO11.later bb12
                      have nA12 := nA11.later bb12
                      refine hK.out _ _ ⟨⟨F12_.v.cell 1 rfl, F12_.v.cell 2 rfl, F12_.v.cell 3 rfl⟩, F12_.f.cell 3 rfl, F12_.f.cell 4 rfl, F12_.f.cell 5 rfl, F12_.f.cell 6 rfl, F12_.f.cell 7 rfl⟩ (fun hS12 => ?_)
                      clear hK K
                      refine wpAnyH_take (i := 10) (v := .int .i64 (IntKind.i64.wrap (wd * p))) rfl (by kernel_rfl) (by kernel_rfl) (by kernel_rfl) (fun _ _ _ h => h) (Or.inl ⟨by kernel_rfl, fun w0 _ => by kernel_rfl⟩) hS12 ?_
                      rw [UW']
                      refine wpAnyH_take (i := 11) (v := .agg #[.bool ng, .slice oo (Dg.dg 65536 N).length oc, .int .i64 (wd * p)]) rfl (by kernel_rfl) (by kernel_rfl) (by kernel_rfl) (fun _ _ _ h => h) (Or.inl ⟨by kernel_rfl, fun w0 _ => by kernel_rfl⟩) hS12 ?_
                      refine wpAnyH_ready (rs := [12]) (by kernel_rfl) (by simp) ?_
                      refine AllReadyH.cons rfl (fun K hK => ?_) AllReadyH.nil
                      go_simp
                      refine (HB.out _ _ _ rO12).mono ?_
                      rintro z W13 ⟨v13, rfl, rB13, far13, bb13⟩
                      obtain ⟨xo, xc, rfl⟩ := rB13.shape
                      have F13_ := F12_.later bb13
                      have rO13 := rO12.later bb13
                      have nA13 := nA12.later bb13
                      have hfar13 : W0.heap.size < W12.heap.size := nA12.lt
                      refine hK.out _ _ ⟨⟨F13_.v.cell 1 rfl, F13_.v.cell 2 rfl, F13_.v.cell 3 rfl⟩, F13_.f.cell 3 rfl, F13_.f.cell 4 rfl, F13_.f.cell 5 rfl, F13_.f.cell 6 rfl, F13_.f.cell 7 rfl⟩ (fun hS13 => ?_)
                      clear hK K
                      have bu := ((but_set W13 (W0.heap.size) 0 (.bool x.s)).trans (but_set _ (W0.heap.size) 1 (.slice xo (Dg.dg 65536 x.n).length xc))).trans (but_set _ (W0.heap.size) 2 (.int .i64 x.e))
                      have nX := (((nA13.set 0 (.bool x.s)).set 1 (.slice xo (Dg.dg 65536 x.n).length xc)).set 2 (.int .i64 x.e))
                      simp only [List.set_cons_succ, List.set_cons_zero] at nX
                      have FX := F13_.but bu hlt1 hlt2
                      have rX := bu.rd rB13 (off_far far13 hfar13)
                      have n0 := nA13.cell 0 rfl; have n1 := nA13.cell 1 rfl; have n2 := nA13.cell 2 rfl; have g0 := nA13.free 0; have g1 := nA13.free 1; have g2 := nA13.free 2
                      refine wpAnyH_ready (rs := [14]) (by kernel_rfl) (by simp) ?_
                      refine AllReadyH.cons rfl (fun K hK => ?_) AllReadyH.nil
                      go_simp
                      refine hK.out _ _ ⟨⟨FX.v.cell 1 rfl, FX.v.cell 2 rfl, FX.v.cell 3 rfl⟩, FX.f.cell 3 rfl, FX.f.cell 4 rfl, FX.f.cell 5 rfl, FX.f.cell 6 rfl, FX.f.cell 7 rfl⟩ (fun hSX => ?_)
                      clear hK K
                      refine wpAnyH_done (by kernel_rfl) ?_ _
                      go_wp2_with fail
                      go_meet
                      exact ⟨_, _, _, rfl, nX, rX, FX⟩
                  case rest =>
                    obtain ⟨gx, xo, xc, rfl, lx, rx', F3⟩ := hcut
                    obtain ⟨w5, hw5⟩ : ∃ y, y = wc := ⟨_, rfl⟩
                    subst hw5
                    have hl0' := hl0.out
                    cases ql0
                    rotate_left
                    · obtain ⟨rfl, rfl, rfl, rfl⟩ := E7.out rfl
                      clear E7 E8 HO HB HI F2
                      have y0 := F3.v.cell 0 rfl; have y1 := F3.v.cell 1 rfl; have y2 := F3.v.cell 2 rfl; have y3 := F3.v.cell 3 rfl
                      have x0 := F3.f.cell 0 rfl; have x1 := F3.f.cell 1 rfl; have x2 := F3.f.cell 2 rfl; have x3 := F3.f.cell 3 rfl; have x4 := F3.f.cell 4 rfl; have x5 := F3.f.cell 5 rfl; have x6 := F3.f.cell 6 rfl; have x7 := F3.f.cell 7 rfl; have x8 := F3.f.cell 8 rfl
                      obtain ⟨hl, bR, bu⟩ := enc_end F3 (.int .i64 0) (.bool false) (.bool false) (.slice none 0 0) (.int .i64 0)
                      have th := F3.z.there 5 rfl
                      clear HWI hl1 hh1 h3 h4 h5 h2 hf1 hf3 he3 hla hp0 hg4 hpu hpo hl0
                      go_upto_region 17 with fail
                      refine wp_region_lit ?_
                      refine wpList_take rfl (.agg #[.int .i64 0, .bool false, .bool false, .slice none 0 0, .int .i64 0]) (by kernel_rfl) ?_
                      refine wpList_store_mid rfl 33 (.tmp 4) (.tmp 124) rfl (w.heap.size + 1) 0 #[.int .i64 0, .bool false, .bool false, .slice none 0 0, .int .i64 0] (by kernel_rfl) (by kernel_rfl) th (by kernel_rfl) (by simp [Value.oneCell']) ?_
                      refine wpList_take rfl (.int .i64 4) (by kernel_rfl) ?_
                      refine wpList_nil ?_
                      rename_i KK hKK
                      refine hKK _ _ (wp_ret ?_)
                      exact bodyPost_ret (results_two Tryz.results7 (by kernel_rfl) (by kernel_rfl) hl) rfl ⟨_, rfl, rd_zero _, bR⟩
                    · replace HI : Hid _ := HI.out rfl
                      have m0 := lx.cell 0 rfl; have m1 := lx.cell 1 rfl; have m2 := lx.cell 2 rfl
                      have y0 := F3.v.cell 0 rfl; have y1 := F3.v.cell 1 rfl; have y2 := F3.v.cell 2 rfl; have y3 := F3.v.cell 3 rfl
                      have x0 := F3.f.cell 0 rfl; have x1 := F3.f.cell 1 rfl; have x2 := F3.f.cell 2 rfl; have x3 := F3.f.cell 3 rfl; have x4 := F3.f.cell 4 rfl; have x5 := F3.f.cell 5 rfl; have x6 := F3.f.cell 6 rfl; have x7 := F3.f.cell 7 rfl; have x8 := F3.f.cell 8 rfl
                      go_wp2_with fail
                      refine (HI.out _ _ _ rx').mono ?_
                      rintro z w6 ⟨rfl, b6⟩
                      have F6 := F3.later b6
                      have lx6 := lx.later b6
                      have rx6 := rx'.later b6
                      clear y0 y1 y2 y3 x0 x1 x2 x3 x4 x5 x6 x7 x8 m0 m1 m2 F3 lx rx' b6 F2
                      cases gi
                      · obtain ⟨rfl, rfl, rfl, rfl⟩ := E7.out rfl
                        clear E7 E8 HO HB HI
                        have y0 := F6.v.cell 0 rfl; have y1 := F6.v.cell 1 rfl; have y2 := F6.v.cell 2 rfl; have y3 := F6.v.cell 3 rfl
                        have x0 := F6.f.cell 0 rfl; have x1 := F6.f.cell 1 rfl; have x2 := F6.f.cell 2 rfl; have x3 := F6.f.cell 3 rfl; have x4 := F6.f.cell 4 rfl; have x5 := F6.f.cell 5 rfl; have x6 := F6.f.cell 6 rfl; have x7 := F6.f.cell 7 rfl; have x8 := F6.f.cell 8 rfl
                        obtain ⟨hl, bR, bu⟩ := enc_end F6 (.int .i64 0) (.bool false) (.bool false) (.slice none 0 0) (.int .i64 0)
                        have th := F6.z.there 5 rfl
                        clear HWI hl1 hh1 h3 h4 h5 h2 hf1 hf3 he3 hla hp0 hg4 hpu hpo hl0
                        go_upto_region 17 with fail
                        refine wp_region_lit ?_
                        refine wpList_take rfl (.agg #[.int .i64 0, .bool false, .bool false, .slice none 0 0, .int .i64 0]) (by kernel_rfl) ?_
                        refine wpList_store_mid rfl 33 (.tmp 4) (.tmp 124) rfl (w.heap.size + 1) 0 #[.int .i64 0, .bool false, .bool false, .slice none 0 0, .int .i64 0] (by kernel_rfl) (by kernel_rfl) th (by kernel_rfl) (by simp [Value.oneCell']) ?_
                        refine wpList_take rfl (.int .i64 4) (by kernel_rfl) ?_
                        refine wpList_nil ?_
                        rename_i KK hKK
                        refine hKK _ _ (wp_ret ?_)
                        exact bodyPost_ret (results_two Tryz.results7 (by kernel_rfl) (by kernel_rfl) hl) rfl ⟨_, rfl, rd_zero _, bR⟩
                      · obtain ⟨rfl, rfl, rfl, rfl⟩ := E8.out rfl
                        clear E7 E8 HO HB HI
                        have m0 := lx6.cell 0 rfl; have m1 := lx6.cell 1 rfl; have m2 := lx6.cell 2 rfl
                        have y0 := F6.v.cell 0 rfl; have y1 := F6.v.cell 1 rfl; have y2 := F6.v.cell 2 rfl; have y3 := F6.v.cell 3 rfl
                        have x0 := F6.f.cell 0 rfl; have x1 := F6.f.cell 1 rfl; have x2 := F6.f.cell 2 rfl; have x3 := F6.f.cell 3 rfl; have x4 := F6.f.cell 4 rfl; have x5 := F6.f.cell 5 rfl; have x6 := F6.f.cell 6 rfl; have x7 := F6.f.cell 7 rfl; have x8 := F6.f.cell 8 rfl
                        have hoff : OffB (w.heap.size + 1) (.slice xo (Dg.dg 65536 x.n).length xc) (Dg.dg 65536 x.n) := rd_offE rx6 (Dg.norm_dg _ _ (by omega)) F6.z (fun x hx n hn => by simp at hx; rcases hx with rfl | rfl | rfl | rfl <;> simp <;> omega)
                        obtain ⟨hl, bR, bu⟩ := enc_end F6 (.int .i64 2) (.bool ng) (.bool x.s) (.slice xo (Dg.dg 65536 x.n).length xc) (.int .i64 x.e)
                        have th := F6.z.there 5 rfl
                        clear HWI hl1 hh1 h3 h4 h5 h2 hf1 hf3 he3 hla hp0 hg4 hpu hpo hl0
                        go_upto_region 18 with fail
                        refine wp_region_lit ?_
                        refine wpList_take rfl (.pointer (some ⟨w.heap.size, 0, none⟩)) (by kernel_rfl) ?_
                        refine wpList_take rfl (.int .i64 2) (exec_load 3 (.tmp 125) rfl w.heap.size 0 (by kernel_rfl) _ _ Tryz.underlying3 rfl (F6.v.cell 0 rfl)) ?_
                        refine wpList_take rfl (.pointer (some ⟨w.heap.size, 1, none⟩)) (by kernel_rfl) ?_
                        refine wpList_take rfl (.bool ng) (exec_load 4 (.tmp 127) rfl w.heap.size 1 (by kernel_rfl) _ _ Tryz.underlying4 rfl (F6.v.cell 1 rfl)) ?_
                        refine wpList_load_mid rfl 31 (.tmp 9) rfl gx 0 (by kernel_rfl) [.bool x.s, .slice xo (Dg.dg 65536 x.n).length xc, .int .i64 x.e] _ lx6.range Tryz.underlying31 rfl (by kernel_rfl) ?_
                        refine wpList_take rfl (.agg #[.int .i64 2, .bool ng, .bool x.s, .slice xo (Dg.dg 65536 x.n).length xc, .int .i64 x.e]) (by kernel_rfl) ?_
                        refine wpList_store_mid rfl 33 (.tmp 4) (.tmp 130) rfl (w.heap.size + 1) 0 #[.int .i64 2, .bool ng, .bool x.s, .slice xo (Dg.dg 65536 x.n).length xc, .int .i64 x.e] (by kernel_rfl) (by kernel_rfl) th (by kernel_rfl) (by simp [Value.oneCell']) ?_
                        refine wpList_take rfl (.int .i64 0) (by kernel_rfl) ?_
                        refine wpList_nil ?_
                        rename_i KK hKK
                        refine hKK _ _ (wp_ret ?_)
                        exact bodyPost_ret (results_two Tryz.results7 (by kernel_rfl) (by kernel_rfl) hl) rfl ⟨_, rfl, bu.rd rx6 hoff, bR⟩
end Go.Proofs.YtiiphandhpilgaaGreatDoor

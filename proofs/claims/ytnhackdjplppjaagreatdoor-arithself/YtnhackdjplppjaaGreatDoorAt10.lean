/-
  Texts laid together: Co17, Co18, Ex.
-/
import Derived.Test.YtnhackdjplppjaaGreatDoorAt09
set_option maxRecDepth 100000
namespace Go.Proofs.YtnhackdjplppjaaGreatDoor
open Go.RowKit
def valG (k : Nat) (ng : Bool) (e f : Nat) : Bool := if clsN k ng e f ≤ 3 then ng else false
def valM (k : Nat) (ng : Bool) (e f : Nat) : Nat := if clsN k ng e f = 2 then (stripF (rdN k) 64 (plcN k e f) (plcP k e)).1 else 0
def valP (k : Nat) (ng : Bool) (e f : Nat) : Int := if clsN k ng e f = 2 then (stripF (rdN k) 64 (plcN k e f) (plcP k e)).2 else 0
theorem clsN_in (k : Nat) (ng : Bool) (e f : Nat) : clsN k ng e f = 1 ∨ clsN k ng e f = 2 ∨ clsN k ng e f = 3 ∨ clsN k ng e f = 4 ∨ clsN k ng e f = 5 := by
 unfold clsN
 repeat' split
 all_goals decide
theorem or_pos {a b : Nat} (h : 0 < b) : 0 < a ||| b := Nat.lt_of_lt_of_le h Nat.right_le_or
theorem leadN_pos (k : Nat) : 0 < leadN k := Nat.pow_pos (by omega)
theorem leadN_lt {k : Nat} (hk : 1 ≤ k ∧ k ≤ 8) : leadN k < 2 ^ 64 := by
 rcases eight hk with rfl | rfl | rfl | rfl | rfl | rfl | rfl | rfl <;> decide
theorem plcN_pos {k : Nat} {ng : Bool} {e f : Nat} (h : clsN k ng e f = 2) : 0 < plcN k e f := by
 unfold plcN
 by_cases h0 : e = 0
 ·subst h0
  rw [if_pos rfl, ite_self]
  rcases Nat.eq_zero_or_pos f with hf | hf
  ·subst hf
   unfold clsN at h
   simp only [if_true] at h
   split at h
   ·omega
   ·split at h
    ·omega
    ·split at h <;> omega
  ·exact hf
 ·rw [if_neg h0]
  by_cases hr : rdN k = 16
  ·rw [if_pos hr]
   have h45 : k = 4 ∨ k = 5 := by
    unfold rdN at hr
    split at hr
    ·exact .inl rfl
    ·exact .inr rfl
    ·omega
   unfold clsN at h
   rw [if_neg (by omega), if_pos (by omega)] at h
   rcases Nat.eq_zero_or_pos f with hf | hf
   ·rw [if_pos hf] at h
    omega
   ·exact hf
  ·rw [if_neg hr]
   exact or_pos (leadN_pos k)
theorem plcN_lt {k : Nat} (hk : 1 ≤ k ∧ k ≤ 8) (e : Nat) {f : Nat} (hf : f < 2 ^ 64) : plcN k e f < 2 ^ 64 := by
 unfold plcN
 split
 ·exact hf
 ·split
  ·exact hf
  ·exact Nat.or_lt_two_pow hf (leadN_lt hk)
theorem plcP_in {k : Nat} (hk : 1 ≤ k ∧ k ≤ 8) {e : Nat} (he : e < 65536) : -100000 ≤ plcP k e ∧ plcP k e ≤ 100000 := by
 have h : -20000 ≤ lsI k ∧ lsI k ≤ 0 := by rcases eight hk with rfl | rfl | rfl | rfl | rfl | rfl | rfl | rfl <;> decide
 unfold plcP
 split
 ·omega
 ·split <;> omega
theorem lvalue_any (k : Nat) (hk : 1 ≤ k ∧ k ≤ 8) (ng : Bool) (e f : Nat) (w : World) (hf : f < 18446744073709551616) (he : e < 65536) : Calls Tryz.prog 96 #[.agg (layV k).toArray, .agg #[.bool ng, .int .i64 (e : Int), .int .u64 (f : Int)]] w (ValRes w ((clsN k ng e f : Nat) : Int) (valG k ng e f) (valM k ng e f) (valP k ng e f)) := by
 have HC := fun w1 => lclass_any k hk ng e f w1 hf
 have HP := fun w1 => lplace_any k hk ng e f w1 hf he
 have hd := fun h => plcN_pos (k := k) (ng := ng) (e := e) (f := f) h
 have hl := plcN_lt hk e hf
 have hp := plcP_in hk he
 unfold valG valM valP
 generalize plcN k e f = d at *
 generalize plcP k e = p at *
 rcases clsN_in k ng e f with hc | hc | hc | hc | hc
 all_goals (rw [hc] at HC ⊢)
 ·rw [if_pos (by omega), if_neg (by omega), if_neg (by omega)]
  rcases eight hk with rfl | rfl | rfl | rfl | rfl | rfl | rfl | rfl
  all_goals exact value_c1 _ _ _ _ _ _ _ _ _ ng e f w HC
 ·rw [if_pos (by omega), if_pos rfl, if_pos rfl]
  have h0 := hd hc
  rcases eight hk with rfl | rfl | rfl | rfl | rfl | rfl | rfl | rfl
  all_goals exact value_num _ _ _ _ _ _ _ _ _ ng e f d p w (by decide) (by decide) h0 hl hp.1 hp.2 HC HP
 ·rw [if_pos (by omega), if_neg (by omega), if_neg (by omega)]
  rcases eight hk with rfl | rfl | rfl | rfl | rfl | rfl | rfl | rfl
  all_goals exact value_c3 _ _ _ _ _ _ _ _ _ ng e f w HC
 ·rw [if_neg (by omega), if_neg (by omega), if_neg (by omega)]
  rcases eight hk with rfl | rfl | rfl | rfl | rfl | rfl | rfl | rfl
  all_goals exact value_c4 _ _ _ _ _ _ _ _ _ ng e f w HC
 ·rw [if_neg (by omega), if_neg (by omega), if_neg (by omega)]
  rcases eight hk with rfl | rfl | rfl | rfl | rfl | rfl | rfl | rfl
  all_goals exact value_c5 _ _ _ _ _ _ _ _ _ ng e f w HC
theorem results_three {P : Program} {fn : Func} {a b t : Nat} {ta tb : TypeId} {tmps : Array Value} {w : World} {ba bb : Nat} {va vb u : Value} (hres : fn.results = #[.cell a ta, .cell b tb, .tmp t]) (ha : tmps.getD a undef = .pointer (some ⟨ba, 0, none⟩)) (hb : tmps.getD b undef = .pointer (some ⟨bb, 0, none⟩)) (hu : tmps.getD t undef = u) (hla : (loadVar ta ⟨ba, 0, none⟩).run P w = .ok va w) (hlb : (loadVar tb ⟨bb, 0, none⟩).run P w = .ok vb w) : (results fn tmps).run P w = .ok (.tuple #[va, vb, u]) w := by
 rw [Array.getD_eq_getD_getElem?] at ha hb hu
 unfold results
 simp [hres, ha, hb, hu, asAddr, hla, hlb]
theorem layoutOf_any (k : Nat) (hk : 1 ≤ k ∧ k ≤ 8) (w : World) : Calls Tryz.prog 97 #[.int .i64 (k : Int)] w (LayRes w k 0) := by
 rcases eight hk with rfl | rfl | rfl | rfl | rfl | rfl | rfl | rfl
 ·exact layoutOf_1 w
 ·exact layoutOf_2 w
 ·exact layoutOf_3 w
 ·exact layoutOf_4 w
 ·exact layoutOf_5 w
 ·exact layoutOf_6 w
 ·exact layoutOf_7 w
 ·exact layoutOf_8 w
set_option maxHeartbeats 6400000 in
theorem codecRead_W (n : Int) (R sz ex : Nat) (D L G fam : Int) (gr : Bool) (F : Nat) (ng : Bool) (e f : Nat) (s : ByteArray) (w : World) (hs : s.size = sz)
  (HL : ∀ w1, Calls Tryz.prog 97 #[.int .i64 n] w1 fun z w' => z = .returned (.tuple #[.agg #[.int .i64 (R : Int), .int .i64 D, .int .i64 L, .int .i64 G, .bool gr, .int .i64 (sz : Int), .int .i64 (ex : Int), .int .i64 fam, .func (.func F) #[] #[]], .int .i64 0]) ∧ Below w1.heap.size w1 w')
  (HR : ∀ w1, Calls Tryz.prog 150 #[.agg #[.int .i64 (R : Int), .int .i64 D, .int .i64 L, .int .i64 G, .bool gr, .int .i64 (sz : Int), .int .i64 (ex : Int), .int .i64 fam, .func (.func F) #[] #[]], .string s] w1 fun z w' => z = .returned (.agg #[.bool ng, .int .i64 (e : Int), .int .u64 (f : Int)]) ∧ Below w1.heap.size w1 w') :
  Calls Tryz.prog 95 #[.int .i64 n, .string s] w fun z w' => z = .returned (.tuple #[.agg #[.int .i64 (R : Int), .int .i64 D, .int .i64 L, .int .i64 G, .bool gr, .int .i64 (sz : Int), .int .i64 (ex : Int), .int .i64 fam, .func (.func F) #[] #[]], .agg #[.bool ng, .int .i64 (e : Int), .int .u64 (f : Int)], .int .i64 0]) ∧ Below w.heap.size w w' := by
 have hsf := hsf_z
 have hsn := hsn_z
 have bl := below_alloc w (.cells #[.int .i64 0, .int .i64 0, .int .i64 0, .int .i64 0, .bool false, .int .i64 0, .int .i64 0, .int .i64 0, .nilFunc] 144)
 have bf := below_alloc (w.alloc (.cells #[.int .i64 0, .int .i64 0, .int .i64 0, .int .i64 0, .bool false, .int .i64 0, .int .i64 0, .int .i64 0, .nilFunc] 144)) (.cells #[.bool false, .int .i64 0, .int .u64 0] 147)
 have l0 := (locE_new w [.int .i64 0, .int .i64 0, .int .i64 0, .int .i64 0, .bool false, .int .i64 0, .int .i64 0, .int .i64 0, .nilFunc] 144).later bf
 have m0 := locE_new (w.alloc (.cells #[.int .i64 0, .int .i64 0, .int .i64 0, .int .i64 0, .bool false, .int .i64 0, .int .i64 0, .int .i64 0, .nilFunc] 144)) [.bool false, .int .i64 0, .int .u64 0] 147
 have b0 := below_trans bl bf
 rw [World.size_alloc] at m0
 clear bl bf
 have HL' : Hid _ := HL
 have HR' : Hid _ := HR
 clear HL HR
 go_enter Tryz.func95, Tryz.ntmps95
 go_wp2_with fail
 refine (HL'.out _).mono ?_
 rintro z w1 ⟨rfl, b1⟩
 have bq := below_alloc w1 (.cells #[.int .i64 (R : Int), .int .i64 D, .int .i64 L, .int .i64 G, .bool gr, .int .i64 (sz : Int), .int .i64 (ex : Int), .int .i64 fam, .func (.func F) #[] #[]] 144)
 have l1 := ((l0.later b1).later bq).drew
 have m1 := ((m0.later b1).later bq).drew
 have q1 := locE_new w1 [.int .i64 (R : Int), .int .i64 D, .int .i64 L, .int .i64 G, .bool gr, .int .i64 (sz : Int), .int .i64 (ex : Int), .int .i64 fam, .func (.func F) #[] #[]] 144
 have b01 := (below_trans (below_trans b0 b1) bq).drew
 have q1d := q1.drew
 have hne0 : w.heap.size ≠ w1.heap.size := Nat.ne_of_lt (l0.later b1).lt
 have hne1 : w.heap.size + 1 ≠ w1.heap.size := Nat.ne_of_lt (m0.later b1).lt
 obtain ⟨p0, p1, p2, p3, p4, p5, p6, p7, p8⟩ := q1.cs9
 have hsz : ((s.size : Int) != (sz : Int)) = false := by rw [hs]; simp
 go_wp2_with fail
 go_region_held3 (fun wq => wq.cell? ⟨w1.heap.size, 0, none⟩ = some (.int .i64 (R : Int)) ∧ wq.cell? ⟨w1.heap.size, 1, none⟩ = some (.int .i64 D) ∧ wq.cell? ⟨w1.heap.size, 2, none⟩ = some (.int .i64 L) ∧ wq.cell? ⟨w1.heap.size, 3, none⟩ = some (.int .i64 G) ∧ wq.cell? ⟨w1.heap.size, 4, none⟩ = some (.bool gr) ∧ wq.cell? ⟨w1.heap.size, 5, none⟩ = some (.int .i64 (sz : Int)) ∧ wq.cell? ⟨w1.heap.size, 6, none⟩ = some (.int .i64 (ex : Int)) ∧ wq.cell? ⟨w1.heap.size, 7, none⟩ = some (.int .i64 fam) ∧ wq.cell? ⟨w1.heap.size, 8, none⟩ = some (.func (.func F) #[] #[])) (go_keep) (first
  | (go_at_call 150; refine (HR'.out _).mono ?_; rintro z w2 ⟨rfl, b2⟩; have l2 := l1.later b2; have m2 := m1.later b2; have q2 := q1d.later b2; have b02 := below_trans b01 b2; obtain ⟨x0, x1, x2, x3, x4, x5, x6, x7, x8⟩ := l2.cs9; have jx0 := l2.free 0; have jx1 := l2.free 1; have jx2 := l2.free 2; have jx3 := l2.free 3; have jx4 := l2.free 4; have jx5 := l2.free 5; have jx6 := l2.free 6; have jx7 := l2.free 7; have jx8 := l2.free 8; obtain ⟨y0, y1, y2⟩ := m2.cs3; have jy0 := m2.free 0; have jy1 := m2.free 1; have jy2 := m2.free 2; obtain ⟨s0, s1, s2, s3, s4, s5, s6, s7, s8⟩ := q2.cs9))
 have hn1 : w.heap.size + 1 ≠ w.heap.size := Nat.succ_ne_self _
 have cL : LocE ((((((((((((w2.setCell ⟨w.heap.size, 0, none⟩ (.int .i64 (R : Int))).setCell ⟨w.heap.size, 1, none⟩ (.int .i64 D)).setCell ⟨w.heap.size, 2, none⟩ (.int .i64 L)).setCell ⟨w.heap.size, 3, none⟩ (.int .i64 G)).setCell ⟨w.heap.size, 4, none⟩ (.bool gr)).setCell ⟨w.heap.size, 5, none⟩ (.int .i64 (sz : Int))).setCell ⟨w.heap.size, 6, none⟩ (.int .i64 (ex : Int))).setCell ⟨w.heap.size, 7, none⟩ (.int .i64 fam)).setCell ⟨w.heap.size, 8, none⟩ (.func (.func F) #[] #[])).setCell ⟨w.heap.size + 1, 0, none⟩ (.bool ng)).setCell ⟨w.heap.size + 1, 1, none⟩ (.int .i64 (e : Int))).setCell ⟨w.heap.size + 1, 2, none⟩ (.int .u64 (f : Int))) w.heap.size 144 [.int .i64 (R : Int), .int .i64 D, .int .i64 L, .int .i64 G, .bool gr, .int .i64 (sz : Int), .int .i64 (ex : Int), .int .i64 fam, .func (.func F) #[] #[]] := ((((((((((((l2.set 0 (.int .i64 (R : Int))).set 1 (.int .i64 D)).set 2 (.int .i64 L)).set 3 (.int .i64 G)).set 4 (.bool gr)).set 5 (.int .i64 (sz : Int))).set 6 (.int .i64 (ex : Int))).set 7 (.int .i64 fam)).set 8 (.func (.func F) #[] #[])).off hn1 0 (.bool ng)).off hn1 1 (.int .i64 (e : Int))).off hn1 2 (.int .u64 (f : Int)))
 have cM : LocE ((((((((((((w2.setCell ⟨w.heap.size, 0, none⟩ (.int .i64 (R : Int))).setCell ⟨w.heap.size, 1, none⟩ (.int .i64 D)).setCell ⟨w.heap.size, 2, none⟩ (.int .i64 L)).setCell ⟨w.heap.size, 3, none⟩ (.int .i64 G)).setCell ⟨w.heap.size, 4, none⟩ (.bool gr)).setCell ⟨w.heap.size, 5, none⟩ (.int .i64 (sz : Int))).setCell ⟨w.heap.size, 6, none⟩ (.int .i64 (ex : Int))).setCell ⟨w.heap.size, 7, none⟩ (.int .i64 fam)).setCell ⟨w.heap.size, 8, none⟩ (.func (.func F) #[] #[])).setCell ⟨w.heap.size + 1, 0, none⟩ (.bool ng)).setCell ⟨w.heap.size + 1, 1, none⟩ (.int .i64 (e : Int))).setCell ⟨w.heap.size + 1, 2, none⟩ (.int .u64 (f : Int))) (w.heap.size + 1) 147 [.bool ng, .int .i64 (e : Int), .int .u64 (f : Int)] := ((((((((((((m2.off (Ne.symm hn1) 0 (.int .i64 (R : Int))).off (Ne.symm hn1) 1 (.int .i64 D)).off (Ne.symm hn1) 2 (.int .i64 L)).off (Ne.symm hn1) 3 (.int .i64 G)).off (Ne.symm hn1) 4 (.bool gr)).off (Ne.symm hn1) 5 (.int .i64 (sz : Int))).off (Ne.symm hn1) 6 (.int .i64 (ex : Int))).off (Ne.symm hn1) 7 (.int .i64 fam)).off (Ne.symm hn1) 8 (.func (.func F) #[] #[])).set 0 (.bool ng)).set 1 (.int .i64 (e : Int))).set 2 (.int .u64 (f : Int)))
 have bR := (((but_set _ (w.heap.size + 1) 0 (.bool ng)).trans (but_set _ (w.heap.size + 1) 1 (.int .i64 (e : Int)))).trans (but_set _ (w.heap.size + 1) 2 (.int .u64 (f : Int)))).below ((((((((((but_set w2 w.heap.size 0 (.int .i64 (R : Int))).trans (but_set _ w.heap.size 1 (.int .i64 D))).trans (but_set _ w.heap.size 2 (.int .i64 L))).trans (but_set _ w.heap.size 3 (.int .i64 G))).trans (but_set _ w.heap.size 4 (.bool gr))).trans (but_set _ w.heap.size 5 (.int .i64 (sz : Int)))).trans (but_set _ w.heap.size 6 (.int .i64 (ex : Int)))).trans (but_set _ w.heap.size 7 (.int .i64 fam))).trans (but_set _ w.heap.size 8 (.func (.func F) #[] #[]))).below b02 (Nat.le_refl _)) (Nat.le_succ _)
 have hl := run_loadVar_mid (P := Tryz.prog) _ w.heap.size 0 144 [.int .i64 (R : Int), .int .i64 D, .int .i64 L, .int .i64 G, .bool gr, .int .i64 (sz : Int), .int .i64 (ex : Int), .int .i64 fam, .func (.func F) #[] #[]] _ cL.range Tryz.underlying144 rfl (by kernel_rfl)
 have hm := run_loadVar_mid (P := Tryz.prog) _ (w.heap.size + 1) 0 147 [.bool ng, .int .i64 (e : Int), .int .u64 (f : Int)] _ cM.range Tryz.underlying147 rfl (by kernel_rfl)
 have HH : Hid (_ ∧ _ ∧ _) := ⟨hl, hm, bR⟩
 clear hl hm bR cL cM l2 m2 q2 b02 l1 m1 q1 q1d b01 l0 m0 b0 bq b1 b2
 go_wp2
 obtain ⟨hl, hm, bR⟩ := HH.out
 exact bodyPost_ret (results_three Tryz.results95 rfl rfl rfl hl hm) rfl ⟨rfl, bR⟩
set_option maxHeartbeats 3200000 in
theorem codecRead_none (n : Int) (s : ByteArray) (w : World)
  (HL : ∀ w1, Calls Tryz.prog 97 #[.int .i64 n] w1 fun z w' => z = .returned (.tuple #[.agg #[.int .i64 0, .int .i64 0, .int .i64 0, .int .i64 0, .bool false, .int .i64 0, .int .i64 0, .int .i64 0, .nilFunc], .int .i64 6]) ∧ Below w1.heap.size w1 w') :
  Calls Tryz.prog 95 #[.int .i64 n, .string s] w fun z w' => z = .returned (.tuple #[.agg #[.int .i64 0, .int .i64 0, .int .i64 0, .int .i64 0, .bool false, .int .i64 0, .int .i64 0, .int .i64 0, .nilFunc], .agg #[.bool false, .int .i64 0, .int .u64 0], .int .i64 6]) ∧ Below w.heap.size w w' := by
 have hsf := hsf_z
 have hsn := hsn_z
 have bl := below_alloc w (.cells #[.int .i64 0, .int .i64 0, .int .i64 0, .int .i64 0, .bool false, .int .i64 0, .int .i64 0, .int .i64 0, .nilFunc] 144)
 have bf := below_alloc (w.alloc (.cells #[.int .i64 0, .int .i64 0, .int .i64 0, .int .i64 0, .bool false, .int .i64 0, .int .i64 0, .int .i64 0, .nilFunc] 144)) (.cells #[.bool false, .int .i64 0, .int .u64 0] 147)
 have l0 := (locE_new w [.int .i64 0, .int .i64 0, .int .i64 0, .int .i64 0, .bool false, .int .i64 0, .int .i64 0, .int .i64 0, .nilFunc] 144).later bf
 have m0 := locE_new (w.alloc (.cells #[.int .i64 0, .int .i64 0, .int .i64 0, .int .i64 0, .bool false, .int .i64 0, .int .i64 0, .int .i64 0, .nilFunc] 144)) [.bool false, .int .i64 0, .int .u64 0] 147
 have b0 := below_trans bl bf
 rw [World.size_alloc] at m0
 clear bl bf
 have HL' : Hid _ := HL
 clear HL
 go_enter Tryz.func95, Tryz.ntmps95
 go_wp2_with fail
 refine (HL'.out _).mono ?_
 rintro z w1 ⟨rfl, b1⟩
 have bq := below_alloc w1 (.cells #[.int .i64 0, .int .i64 0, .int .i64 0, .int .i64 0, .bool false, .int .i64 0, .int .i64 0, .int .i64 0, .nilFunc] 144)
 have l1 := (l0.later b1).later bq
 have m1 := (m0.later b1).later bq
 have q1 := locE_new w1 [.int .i64 0, .int .i64 0, .int .i64 0, .int .i64 0, .bool false, .int .i64 0, .int .i64 0, .int .i64 0, .nilFunc] 144
 have b01 := below_trans (below_trans b0 b1) bq
 have hne0 : w.heap.size ≠ w1.heap.size := Nat.ne_of_lt (l0.later b1).lt
 have hne1 : w.heap.size + 1 ≠ w1.heap.size := Nat.ne_of_lt (m0.later b1).lt
 obtain ⟨p0, p1, p2, p3, p4, p5, p6, p7, p8⟩ := q1.cs9; obtain ⟨x0, x1, x2, x3, x4, x5, x6, x7, x8⟩ := l1.cs9; have jx0 := l1.free 0; have jx1 := l1.free 1; have jx2 := l1.free 2; have jx3 := l1.free 3; have jx4 := l1.free 4; have jx5 := l1.free 5; have jx6 := l1.free 6; have jx7 := l1.free 7; have jx8 := l1.free 8; obtain ⟨y0, y1, y2⟩ := m1.cs3; have jy0 := m1.free 0; have jy1 := m1.free 1; have jy2 := m1.free 2
 have hn1 : w.heap.size + 1 ≠ w.heap.size := Nat.succ_ne_self _
 have cL : LocE (((((((((((((w1.alloc (.cells #[.int .i64 0, .int .i64 0, .int .i64 0, .int .i64 0, .bool false, .int .i64 0, .int .i64 0, .int .i64 0, .nilFunc] 144)).setCell ⟨w.heap.size, 0, none⟩ (.int .i64 0)).setCell ⟨w.heap.size, 1, none⟩ (.int .i64 0)).setCell ⟨w.heap.size, 2, none⟩ (.int .i64 0)).setCell ⟨w.heap.size, 3, none⟩ (.int .i64 0)).setCell ⟨w.heap.size, 4, none⟩ (.bool false)).setCell ⟨w.heap.size, 5, none⟩ (.int .i64 0)).setCell ⟨w.heap.size, 6, none⟩ (.int .i64 0)).setCell ⟨w.heap.size, 7, none⟩ (.int .i64 0)).setCell ⟨w.heap.size, 8, none⟩ (.nilFunc)).setCell ⟨w.heap.size + 1, 0, none⟩ (.bool false)).setCell ⟨w.heap.size + 1, 1, none⟩ (.int .i64 0)).setCell ⟨w.heap.size + 1, 2, none⟩ (.int .u64 0)) w.heap.size 144 [.int .i64 0, .int .i64 0, .int .i64 0, .int .i64 0, .bool false, .int .i64 0, .int .i64 0, .int .i64 0, .nilFunc] := ((((((((((((l1.set 0 (.int .i64 0)).set 1 (.int .i64 0)).set 2 (.int .i64 0)).set 3 (.int .i64 0)).set 4 (.bool false)).set 5 (.int .i64 0)).set 6 (.int .i64 0)).set 7 (.int .i64 0)).set 8 (.nilFunc)).off hn1 0 (.bool false)).off hn1 1 (.int .i64 0)).off hn1 2 (.int .u64 0))
 have cM : LocE (((((((((((((w1.alloc (.cells #[.int .i64 0, .int .i64 0, .int .i64 0, .int .i64 0, .bool false, .int .i64 0, .int .i64 0, .int .i64 0, .nilFunc] 144)).setCell ⟨w.heap.size, 0, none⟩ (.int .i64 0)).setCell ⟨w.heap.size, 1, none⟩ (.int .i64 0)).setCell ⟨w.heap.size, 2, none⟩ (.int .i64 0)).setCell ⟨w.heap.size, 3, none⟩ (.int .i64 0)).setCell ⟨w.heap.size, 4, none⟩ (.bool false)).setCell ⟨w.heap.size, 5, none⟩ (.int .i64 0)).setCell ⟨w.heap.size, 6, none⟩ (.int .i64 0)).setCell ⟨w.heap.size, 7, none⟩ (.int .i64 0)).setCell ⟨w.heap.size, 8, none⟩ (.nilFunc)).setCell ⟨w.heap.size + 1, 0, none⟩ (.bool false)).setCell ⟨w.heap.size + 1, 1, none⟩ (.int .i64 0)).setCell ⟨w.heap.size + 1, 2, none⟩ (.int .u64 0)) (w.heap.size + 1) 147 [.bool false, .int .i64 0, .int .u64 0] := ((((((((((((m1.off (Ne.symm hn1) 0 (.int .i64 0)).off (Ne.symm hn1) 1 (.int .i64 0)).off (Ne.symm hn1) 2 (.int .i64 0)).off (Ne.symm hn1) 3 (.int .i64 0)).off (Ne.symm hn1) 4 (.bool false)).off (Ne.symm hn1) 5 (.int .i64 0)).off (Ne.symm hn1) 6 (.int .i64 0)).off (Ne.symm hn1) 7 (.int .i64 0)).off (Ne.symm hn1) 8 (.nilFunc)).set 0 (.bool false)).set 1 (.int .i64 0)).set 2 (.int .u64 0))
 have bR := (((but_set _ (w.heap.size + 1) 0 (.bool false)).trans (but_set _ (w.heap.size + 1) 1 (.int .i64 0))).trans (but_set _ (w.heap.size + 1) 2 (.int .u64 0))).below ((((((((((but_set (w1.alloc (.cells #[.int .i64 0, .int .i64 0, .int .i64 0, .int .i64 0, .bool false, .int .i64 0, .int .i64 0, .int .i64 0, .nilFunc] 144)) w.heap.size 0 (.int .i64 0)).trans (but_set _ w.heap.size 1 (.int .i64 0))).trans (but_set _ w.heap.size 2 (.int .i64 0))).trans (but_set _ w.heap.size 3 (.int .i64 0))).trans (but_set _ w.heap.size 4 (.bool false))).trans (but_set _ w.heap.size 5 (.int .i64 0))).trans (but_set _ w.heap.size 6 (.int .i64 0))).trans (but_set _ w.heap.size 7 (.int .i64 0))).trans (but_set _ w.heap.size 8 (.nilFunc))).below b01 (Nat.le_refl _)) (Nat.le_succ _)
 have hl := run_loadVar_mid (P := Tryz.prog) _ w.heap.size 0 144 [.int .i64 0, .int .i64 0, .int .i64 0, .int .i64 0, .bool false, .int .i64 0, .int .i64 0, .int .i64 0, .nilFunc] _ cL.range Tryz.underlying144 rfl (by kernel_rfl)
 have hm := run_loadVar_mid (P := Tryz.prog) _ (w.heap.size + 1) 0 147 [.bool false, .int .i64 0, .int .u64 0] _ cM.range Tryz.underlying147 rfl (by kernel_rfl)
 have HH : Hid (_ ∧ _ ∧ _) := ⟨hl, hm, bR⟩
 clear hl hm bR cL cM l1 m1 q1 b01 l0 m0 b0 bq b1
 go_wp2
 obtain ⟨hl, hm, bR⟩ := HH.out
 exact bodyPost_ret (results_three Tryz.results95 rfl rfl rfl hl hm) rfl ⟨rfl, bR⟩
set_option maxHeartbeats 3200000 in
theorem codecRead_len (n : Int) (R sz ex : Nat) (D L G fam : Int) (gr : Bool) (F : Nat) (s : ByteArray) (w : World) (hs : s.size ≠ sz)
  (HL : ∀ w1, Calls Tryz.prog 97 #[.int .i64 n] w1 fun z w' => z = .returned (.tuple #[.agg #[.int .i64 (R : Int), .int .i64 D, .int .i64 L, .int .i64 G, .bool gr, .int .i64 (sz : Int), .int .i64 (ex : Int), .int .i64 fam, .func (.func F) #[] #[]], .int .i64 0]) ∧ Below w1.heap.size w1 w') :
  Calls Tryz.prog 95 #[.int .i64 n, .string s] w fun z w' => z = .returned (.tuple #[.agg #[.int .i64 0, .int .i64 0, .int .i64 0, .int .i64 0, .bool false, .int .i64 0, .int .i64 0, .int .i64 0, .nilFunc], .agg #[.bool false, .int .i64 0, .int .u64 0], .int .i64 1]) ∧ Below w.heap.size w w' := by
 have hsf := hsf_z
 have hsn := hsn_z
 have bl := below_alloc w (.cells #[.int .i64 0, .int .i64 0, .int .i64 0, .int .i64 0, .bool false, .int .i64 0, .int .i64 0, .int .i64 0, .nilFunc] 144)
 have bf := below_alloc (w.alloc (.cells #[.int .i64 0, .int .i64 0, .int .i64 0, .int .i64 0, .bool false, .int .i64 0, .int .i64 0, .int .i64 0, .nilFunc] 144)) (.cells #[.bool false, .int .i64 0, .int .u64 0] 147)
 have l0 := (locE_new w [.int .i64 0, .int .i64 0, .int .i64 0, .int .i64 0, .bool false, .int .i64 0, .int .i64 0, .int .i64 0, .nilFunc] 144).later bf
 have m0 := locE_new (w.alloc (.cells #[.int .i64 0, .int .i64 0, .int .i64 0, .int .i64 0, .bool false, .int .i64 0, .int .i64 0, .int .i64 0, .nilFunc] 144)) [.bool false, .int .i64 0, .int .u64 0] 147
 have b0 := below_trans bl bf
 rw [World.size_alloc] at m0
 clear bl bf
 have HL' : Hid _ := HL
 clear HL
 go_enter Tryz.func95, Tryz.ntmps95
 go_wp2_with fail
 refine (HL'.out _).mono ?_
 rintro z w1 ⟨rfl, b1⟩
 have bq := below_alloc w1 (.cells #[.int .i64 (R : Int), .int .i64 D, .int .i64 L, .int .i64 G, .bool gr, .int .i64 (sz : Int), .int .i64 (ex : Int), .int .i64 fam, .func (.func F) #[] #[]] 144)
 have l1 := (l0.later b1).later bq
 have m1 := (m0.later b1).later bq
 have q1 := locE_new w1 [.int .i64 (R : Int), .int .i64 D, .int .i64 L, .int .i64 G, .bool gr, .int .i64 (sz : Int), .int .i64 (ex : Int), .int .i64 fam, .func (.func F) #[] #[]] 144
 have b01 := below_trans (below_trans b0 b1) bq
 have hne0 : w.heap.size ≠ w1.heap.size := Nat.ne_of_lt (l0.later b1).lt
 have hne1 : w.heap.size + 1 ≠ w1.heap.size := Nat.ne_of_lt (m0.later b1).lt
 obtain ⟨p0, p1, p2, p3, p4, p5, p6, p7, p8⟩ := q1.cs9; obtain ⟨x0, x1, x2, x3, x4, x5, x6, x7, x8⟩ := l1.cs9; have jx0 := l1.free 0; have jx1 := l1.free 1; have jx2 := l1.free 2; have jx3 := l1.free 3; have jx4 := l1.free 4; have jx5 := l1.free 5; have jx6 := l1.free 6; have jx7 := l1.free 7; have jx8 := l1.free 8; obtain ⟨y0, y1, y2⟩ := m1.cs3; have jy0 := m1.free 0; have jy1 := m1.free 1; have jy2 := m1.free 2
 have hsz : ((s.size : Int) == (sz : Int)) = false := by simp; omega
 clear hs
 have hn1 : w.heap.size + 1 ≠ w.heap.size := Nat.succ_ne_self _
 have cL : LocE (((((((((((((w1.alloc (.cells #[.int .i64 (R : Int), .int .i64 D, .int .i64 L, .int .i64 G, .bool gr, .int .i64 (sz : Int), .int .i64 (ex : Int), .int .i64 fam, .func (.func F) #[] #[]] 144)).setCell ⟨w.heap.size, 0, none⟩ (.int .i64 0)).setCell ⟨w.heap.size, 1, none⟩ (.int .i64 0)).setCell ⟨w.heap.size, 2, none⟩ (.int .i64 0)).setCell ⟨w.heap.size, 3, none⟩ (.int .i64 0)).setCell ⟨w.heap.size, 4, none⟩ (.bool false)).setCell ⟨w.heap.size, 5, none⟩ (.int .i64 0)).setCell ⟨w.heap.size, 6, none⟩ (.int .i64 0)).setCell ⟨w.heap.size, 7, none⟩ (.int .i64 0)).setCell ⟨w.heap.size, 8, none⟩ (.nilFunc)).setCell ⟨w.heap.size + 1, 0, none⟩ (.bool false)).setCell ⟨w.heap.size + 1, 1, none⟩ (.int .i64 0)).setCell ⟨w.heap.size + 1, 2, none⟩ (.int .u64 0)) w.heap.size 144 [.int .i64 0, .int .i64 0, .int .i64 0, .int .i64 0, .bool false, .int .i64 0, .int .i64 0, .int .i64 0, .nilFunc] := ((((((((((((l1.set 0 (.int .i64 0)).set 1 (.int .i64 0)).set 2 (.int .i64 0)).set 3 (.int .i64 0)).set 4 (.bool false)).set 5 (.int .i64 0)).set 6 (.int .i64 0)).set 7 (.int .i64 0)).set 8 (.nilFunc)).off hn1 0 (.bool false)).off hn1 1 (.int .i64 0)).off hn1 2 (.int .u64 0))
 have cM : LocE (((((((((((((w1.alloc (.cells #[.int .i64 (R : Int), .int .i64 D, .int .i64 L, .int .i64 G, .bool gr, .int .i64 (sz : Int), .int .i64 (ex : Int), .int .i64 fam, .func (.func F) #[] #[]] 144)).setCell ⟨w.heap.size, 0, none⟩ (.int .i64 0)).setCell ⟨w.heap.size, 1, none⟩ (.int .i64 0)).setCell ⟨w.heap.size, 2, none⟩ (.int .i64 0)).setCell ⟨w.heap.size, 3, none⟩ (.int .i64 0)).setCell ⟨w.heap.size, 4, none⟩ (.bool false)).setCell ⟨w.heap.size, 5, none⟩ (.int .i64 0)).setCell ⟨w.heap.size, 6, none⟩ (.int .i64 0)).setCell ⟨w.heap.size, 7, none⟩ (.int .i64 0)).setCell ⟨w.heap.size, 8, none⟩ (.nilFunc)).setCell ⟨w.heap.size + 1, 0, none⟩ (.bool false)).setCell ⟨w.heap.size + 1, 1, none⟩ (.int .i64 0)).setCell ⟨w.heap.size + 1, 2, none⟩ (.int .u64 0)) (w.heap.size + 1) 147 [.bool false, .int .i64 0, .int .u64 0] := ((((((((((((m1.off (Ne.symm hn1) 0 (.int .i64 0)).off (Ne.symm hn1) 1 (.int .i64 0)).off (Ne.symm hn1) 2 (.int .i64 0)).off (Ne.symm hn1) 3 (.int .i64 0)).off (Ne.symm hn1) 4 (.bool false)).off (Ne.symm hn1) 5 (.int .i64 0)).off (Ne.symm hn1) 6 (.int .i64 0)).off (Ne.symm hn1) 7 (.int .i64 0)).off (Ne.symm hn1) 8 (.nilFunc)).set 0 (.bool false)).set 1 (.int .i64 0)).set 2 (.int .u64 0))
 have bR := (((but_set _ (w.heap.size + 1) 0 (.bool false)).trans (but_set _ (w.heap.size + 1) 1 (.int .i64 0))).trans (but_set _ (w.heap.size + 1) 2 (.int .u64 0))).below ((((((((((but_set (w1.alloc (.cells #[.int .i64 (R : Int), .int .i64 D, .int .i64 L, .int .i64 G, .bool gr, .int .i64 (sz : Int), .int .i64 (ex : Int), .int .i64 fam, .func (.func F) #[] #[]] 144)) w.heap.size 0 (.int .i64 0)).trans (but_set _ w.heap.size 1 (.int .i64 0))).trans (but_set _ w.heap.size 2 (.int .i64 0))).trans (but_set _ w.heap.size 3 (.int .i64 0))).trans (but_set _ w.heap.size 4 (.bool false))).trans (but_set _ w.heap.size 5 (.int .i64 0))).trans (but_set _ w.heap.size 6 (.int .i64 0))).trans (but_set _ w.heap.size 7 (.int .i64 0))).trans (but_set _ w.heap.size 8 (.nilFunc))).below b01 (Nat.le_refl _)) (Nat.le_succ _)
 have hl := run_loadVar_mid (P := Tryz.prog) _ w.heap.size 0 144 [.int .i64 0, .int .i64 0, .int .i64 0, .int .i64 0, .bool false, .int .i64 0, .int .i64 0, .int .i64 0, .nilFunc] _ cL.range Tryz.underlying144 rfl (by kernel_rfl)
 have hm := run_loadVar_mid (P := Tryz.prog) _ (w.heap.size + 1) 0 147 [.bool false, .int .i64 0, .int .u64 0] _ cM.range Tryz.underlying147 rfl (by kernel_rfl)
 have HH : Hid (_ ∧ _ ∧ _) := ⟨hl, hm, bR⟩
 clear hl hm bR cL cM l1 m1 q1 b01 l0 m0 b0 bq b1
 go_wp2
 obtain ⟨hl, hm, bR⟩ := HH.out
 exact bodyPost_ret (results_three Tryz.results95 rfl rfl rfl hl hm) rfl ⟨rfl, bR⟩
end Go.Proofs.YtnhackdjplppjaaGreatDoor
namespace Go.Proofs.YtnhackdjplppjaaGreatDoor
open Go.RowKit
def DecRes (w : World) (c : Int) (ng : Bool) (m : Nat) (p : Int) (er : Int) (z : Ending) (w' : World) : Prop :=
 ∃ v, z = .returned (.tuple #[.agg #[.int .i64 c, .bool ng, v, .int .i64 p], .int .i64 er]) ∧ Rd w' .u32 v (Dg.dg 4294967296 m) ∧ Below w.heap.size w w'
set_option maxHeartbeats 3200000 in
theorem decode_W (n : Int) (R sz ex : Nat) (D L G fam : Int) (gr : Bool) (F : Nat) (ng : Bool) (e f : Nat) (c : Int) (gg : Bool) (m : Nat) (p : Int) (s : ByteArray) (w : World)
  (HR : ∀ w1, Calls Tryz.prog 95 #[.int .i64 n, .string s] w1 fun z w' => z = .returned (.tuple #[.agg #[.int .i64 (R : Int), .int .i64 D, .int .i64 L, .int .i64 G, .bool gr, .int .i64 (sz : Int), .int .i64 (ex : Int), .int .i64 fam, .func (.func F) #[] #[]], .agg #[.bool ng, .int .i64 (e : Int), .int .u64 (f : Int)], .int .i64 0]) ∧ Below w1.heap.size w1 w')
  (HV : ∀ w1, Calls Tryz.prog 96 #[.agg #[.int .i64 (R : Int), .int .i64 D, .int .i64 L, .int .i64 G, .bool gr, .int .i64 (sz : Int), .int .i64 (ex : Int), .int .i64 fam, .func (.func F) #[] #[]], .agg #[.bool ng, .int .i64 (e : Int), .int .u64 (f : Int)]] w1 (ValRes w1 c gg m p)) :
  Calls Tryz.prog 43 #[.int .i64 n, .string s] w (DecRes w c gg m p 0) := by
 have hsf := hsf_z
 have HR' : Hid _ := HR
 have HV' : Hid _ := HV
 have v0 := locE_new w [.int .i64 0, .bool false, .slice none 0 0, .int .i64 0] 73
 have b0 := below_alloc w (.cells #[.int .i64 0, .bool false, .slice none 0 0, .int .i64 0] 73)
 clear HR HV
 go_enter Tryz.func43, Tryz.ntmps43
 go_wp2_with fail
 refine (HR'.out _).mono ?_
 rintro z w1 ⟨rfl, b1⟩
 have bl := below_alloc w1 (.cells #[.int .i64 (R : Int), .int .i64 D, .int .i64 L, .int .i64 G, .bool gr, .int .i64 (sz : Int), .int .i64 (ex : Int), .int .i64 fam, .func (.func F) #[] #[]] 144)
 have bf := below_alloc (w1.alloc (.cells #[.int .i64 (R : Int), .int .i64 D, .int .i64 L, .int .i64 G, .bool gr, .int .i64 (sz : Int), .int .i64 (ex : Int), .int .i64 fam, .func (.func F) #[] #[]] 144)) (.cells #[.bool ng, .int .i64 (e : Int), .int .u64 (f : Int)] 147)
 have v2 := ((v0.later b1).later bl).later bf
 have b2 := below_trans (below_trans (below_trans b0 b1) bl) bf
 go_wp2_with fail
 refine (HV'.out _).mono ?_
 rintro z w3 ⟨v, rfl, r3, b3⟩
 obtain ⟨vo, vc, hv⟩ := r3.shape
 subst hv
 have v3 := v2.later b3
 have b03 := below_trans b2 b3
 have ov := rd_offE r3 (Dg.norm_dg _ _ (by omega)) v3 (fun x hx n hn => by simp at hx; rcases hx with rfl | rfl | rfl | rfl <;> simp)
 have bu := (((but_set w3 w.heap.size 0 (.int .i64 c)).trans (but_set _ w.heap.size 1 (.bool gg))).trans (but_set _ w.heap.size 2 (.slice vo (Dg.dg 4294967296 m).length vc))).trans (but_set _ w.heap.size 3 (.int .i64 p))
 have cR : LocE ((((w3.setCell ⟨w.heap.size, 0, none⟩ (.int .i64 c)).setCell ⟨w.heap.size, 1, none⟩ (.bool gg)).setCell ⟨w.heap.size, 2, none⟩ (.slice vo (Dg.dg 4294967296 m).length vc)).setCell ⟨w.heap.size, 3, none⟩ (.int .i64 p)) w.heap.size 73 [.int .i64 c, .bool gg, .slice vo (Dg.dg 4294967296 m).length vc, .int .i64 p] := ((((v3.set 0 (.int .i64 c)).set 1 (.bool gg)).set 2 (.slice vo (Dg.dg 4294967296 m).length vc)).set 3 (.int .i64 p))
 have bR := bu.below b03 (Nat.le_refl _)
 have rR := bu.rd r3 ov
 have hl := run_loadVar_mid (P := Tryz.prog) _ w.heap.size 0 73 [.int .i64 c, .bool gg, .slice vo (Dg.dg 4294967296 m).length vc, .int .i64 p] _ cR.range Tryz.underlying73 rfl (by kernel_rfl)
 have HH : Hid (_ ∧ _ ∧ _) := ⟨hl, rR, bR⟩
 obtain ⟨x0, x1, x2, x3⟩ := v3.cs4; have j0 := v3.free 0; have j1 := v3.free 1; have j2 := v3.free 2; have j3 := v3.free 3
 clear hl bR rR cR bu ov v3 b03 r3 b3 v2 b2 bl bf b1 v0 b0
 go_wp2
 obtain ⟨hl, rR, bR⟩ := HH.out
 exact bodyPost_ret (results_two Tryz.results43 rfl rfl hl) rfl ⟨_, rfl, rR, bR⟩
set_option maxHeartbeats 3200000 in
theorem decode_err (n : Int) (er : Int) (her : er ≠ 0) (s : ByteArray) (w : World)
  (HR : ∀ w1, Calls Tryz.prog 95 #[.int .i64 n, .string s] w1 fun z w' => z = .returned (.tuple #[.agg #[.int .i64 0, .int .i64 0, .int .i64 0, .int .i64 0, .bool false, .int .i64 0, .int .i64 0, .int .i64 0, .nilFunc], .agg #[.bool false, .int .i64 0, .int .u64 0], .int .i64 er]) ∧ Below w1.heap.size w1 w') :
  Calls Tryz.prog 43 #[.int .i64 n, .string s] w (DecRes w 0 false 0 0 er) := by
 have hsn := hsn_z
 have HR' : Hid _ := HR
 have v0 := locE_new w [.int .i64 0, .bool false, .slice none 0 0, .int .i64 0] 73
 have b0 := below_alloc w (.cells #[.int .i64 0, .bool false, .slice none 0 0, .int .i64 0] 73)
 have he : (er == 0) = false := by simpa using her
 clear HR her
 go_enter Tryz.func43, Tryz.ntmps43
 go_wp2_with fail
 refine (HR'.out _).mono ?_
 rintro z w1 ⟨rfl, b1⟩
 have bl := below_alloc w1 (.cells #[.int .i64 0, .int .i64 0, .int .i64 0, .int .i64 0, .bool false, .int .i64 0, .int .i64 0, .int .i64 0, .nilFunc] 144)
 have bf := below_alloc (w1.alloc (.cells #[.int .i64 0, .int .i64 0, .int .i64 0, .int .i64 0, .bool false, .int .i64 0, .int .i64 0, .int .i64 0, .nilFunc] 144)) (.cells #[.bool false, .int .i64 0, .int .u64 0] 147)
 have v2 := ((v0.later b1).later bl).later bf
 have b2 := below_trans (below_trans (below_trans b0 b1) bl) bf
 have bu := (((but_set ((w1.alloc (.cells #[.int .i64 0, .int .i64 0, .int .i64 0, .int .i64 0, .bool false, .int .i64 0, .int .i64 0, .int .i64 0, .nilFunc] 144)).alloc (.cells #[.bool false, .int .i64 0, .int .u64 0] 147)) w.heap.size 0 (.int .i64 0)).trans (but_set _ w.heap.size 1 (.bool false))).trans (but_set _ w.heap.size 2 (.slice none 0 0))).trans (but_set _ w.heap.size 3 (.int .i64 0))
 have cR : LocE ((((((w1.alloc (.cells #[.int .i64 0, .int .i64 0, .int .i64 0, .int .i64 0, .bool false, .int .i64 0, .int .i64 0, .int .i64 0, .nilFunc] 144)).alloc (.cells #[.bool false, .int .i64 0, .int .u64 0] 147)).setCell ⟨w.heap.size, 0, none⟩ (.int .i64 0)).setCell ⟨w.heap.size, 1, none⟩ (.bool false)).setCell ⟨w.heap.size, 2, none⟩ (.slice none 0 0)).setCell ⟨w.heap.size, 3, none⟩ (.int .i64 0)) w.heap.size 73 [.int .i64 0, .bool false, .slice none 0 0, .int .i64 0] := ((((v2.set 0 (.int .i64 0)).set 1 (.bool false)).set 2 (.slice none 0 0)).set 3 (.int .i64 0))
 have bR := bu.below b2 (Nat.le_refl _)
 have hl := run_loadVar_mid (P := Tryz.prog) _ w.heap.size 0 73 [.int .i64 0, .bool false, .slice none 0 0, .int .i64 0] _ cR.range Tryz.underlying73 rfl (by kernel_rfl)
 have HH : Hid (_ ∧ _) := ⟨hl, bR⟩
 have hnA : w1.heap.size ≠ w.heap.size := Nat.ne_of_gt (v0.later b1).lt
 have hnB : w1.heap.size + 1 ≠ w.heap.size := by have := (v0.later b1).lt; omega
 obtain ⟨x0, x1, x2, x3⟩ := v2.cs4; have j0 := v2.free 0; have j1 := v2.free 1; have j2 := v2.free 2; have j3 := v2.free 3
 clear hl bR cR bu v2 b2 bl bf b1 v0 b0
 go_wp2
 obtain ⟨hl, bR⟩ := HH.out
 exact bodyPost_ret (results_two Tryz.results43 rfl rfl hl) rfl ⟨_, rfl, rd_nil _ _, bR⟩
def patC (n : Int) (s : ByteArray) : Int := if famC n = 0 then 6 else if s.size = szN n.toNat then 0 else 1
theorem famC_in {n : Int} (h : famC n ≠ 0) : 1 ≤ n.toNat ∧ n.toNat ≤ 8 ∧ ((n.toNat : Nat) : Int) = n := by
 unfold famC at h
 by_cases c : n < 1 ∨ 8 < n
 ·rw [if_pos c] at h
  exact absurd rfl h
 ·omega
theorem codecRead_ok (n : Int) (s : ByteArray) (w : World) (h : patC n s = 0) :
  Calls Tryz.prog 95 #[.int .i64 n, .string s] w fun z w' => z = .returned (.tuple #[.agg (layV n.toNat).toArray, .agg #[.bool (fldN n.toNat s), .int .i64 ((fldE n.toNat s : Nat) : Int), .int .u64 ((fldF n.toNat s : Nat) : Int)], .int .i64 0]) ∧ Below w.heap.size w w' := by
 unfold patC at h
 by_cases hf : famC n = 0
 ·rw [if_pos hf] at h
  omega
 ·rw [if_neg hf] at h
  obtain ⟨h1, h2, h3⟩ := famC_in hf
  obtain ⟨k, rfl⟩ : ∃ k : Nat, n = (k : Int) := ⟨n.toNat, h3.symm⟩
  rw [Int.toNat_natCast] at h h1 h2 ⊢
  have hs : s.size = szN k := by
   by_cases c : s.size = szN k
   ·exact c
   ·rw [if_neg c] at h
    omega
  have HL := fun w1 => layoutOf_any k ⟨h1, h2⟩ w1
  have HR := fun w1 => cread_any k ⟨h1, h2⟩ s w1 hs
  generalize fldN k s = ng at *
  generalize fldE k s = e at *
  generalize fldF k s = f at *
  rcases eight ⟨h1, h2⟩ with rfl | rfl | rfl | rfl | rfl | rfl | rfl | rfl
  all_goals exact codecRead_W _ _ _ _ _ _ _ _ _ _ ng e f s w hs HL HR
theorem codecRead_bad (n : Int) (s : ByteArray) (w : World) (h : patC n s ≠ 0) :
  Calls Tryz.prog 95 #[.int .i64 n, .string s] w fun z w' => z = .returned (.tuple #[.agg #[.int .i64 0, .int .i64 0, .int .i64 0, .int .i64 0, .bool false, .int .i64 0, .int .i64 0, .int .i64 0, .nilFunc], .agg #[.bool false, .int .i64 0, .int .u64 0], .int .i64 (patC n s)]) ∧ Below w.heap.size w w' := by
 unfold patC at h ⊢
 by_cases hf : famC n = 0
 ·rw [if_pos hf]
  exact codecRead_none n s w (fun w1 => layoutOf_none n w1 hf)
 ·rw [if_neg hf] at h ⊢
  obtain ⟨h1, h2, h3⟩ := famC_in hf
  obtain ⟨k, rfl⟩ : ∃ k : Nat, n = (k : Int) := ⟨n.toNat, h3.symm⟩
  rw [Int.toNat_natCast] at h h1 h2 ⊢
  by_cases hs : s.size = szN k
  ·rw [if_pos hs] at h
   omega
  ·rw [if_neg hs]
   have HL := fun w1 => layoutOf_any k ⟨h1, h2⟩ w1
   rcases eight ⟨h1, h2⟩ with rfl | rfl | rfl | rfl | rfl | rfl | rfl | rfl
   all_goals exact codecRead_len _ _ _ _ _ _ _ _ _ _ s w hs HL
def decC (n : Int) (s : ByteArray) : Nat := if patC n s = 0 then clsN n.toNat (fldN n.toNat s) (fldE n.toNat s) (fldF n.toNat s) else 0
def decG (n : Int) (s : ByteArray) : Bool := if patC n s = 0 then valG n.toNat (fldN n.toNat s) (fldE n.toNat s) (fldF n.toNat s) else false
def decM (n : Int) (s : ByteArray) : Nat := if patC n s = 0 then valM n.toNat (fldN n.toNat s) (fldE n.toNat s) (fldF n.toNat s) else 0
def decP (n : Int) (s : ByteArray) : Int := if patC n s = 0 then valP n.toNat (fldN n.toNat s) (fldE n.toNat s) (fldF n.toNat s) else 0
theorem decode_any (n : Int) (s : ByteArray) (w : World) : Calls Tryz.prog 43 #[.int .i64 n, .string s] w (DecRes w ((decC n s : Nat) : Int) (decG n s) (decM n s) (decP n s) (patC n s)) := by
 unfold decC decG decM decP
 by_cases h : patC n s = 0
 ·rw [if_pos h, if_pos h, if_pos h, if_pos h]
  have hf : famC n ≠ 0 := fun hf => by
   unfold patC at h
   rw [if_pos hf] at h
   omega
  obtain ⟨h1, h2, h3⟩ := famC_in hf
  have HR := fun w1 => codecRead_ok n s w1 h
  have HV := fun w1 => lvalue_any n.toNat ⟨h1, h2⟩ (fldN n.toNat s) (fldE n.toNat s) (fldF n.toNat s) w1 (fldF_small ⟨h1, h2⟩ s) (fldE_small ⟨h1, h2⟩ s)
  rw [h]
  generalize n.toNat = k at *
  generalize clsN k (fldN k s) (fldE k s) (fldF k s) = c at *
  generalize valG k (fldN k s) (fldE k s) (fldF k s) = g at *
  generalize valM k (fldN k s) (fldE k s) (fldF k s) = m at *
  generalize valP k (fldN k s) (fldE k s) (fldF k s) = p at *
  generalize fldN k s = ng at *
  generalize fldE k s = e at *
  generalize fldF k s = f at *
  rcases eight ⟨h1, h2⟩ with rfl | rfl | rfl | rfl | rfl | rfl | rfl | rfl
  all_goals exact decode_W _ _ _ _ _ _ _ _ _ _ ng e f _ _ _ _ s w HR HV
 ·rw [if_neg h, if_neg h, if_neg h, if_neg h]
  exact decode_err n _ h s w (fun w1 => codecRead_bad n s w1 h)
end Go.Proofs.YtnhackdjplppjaaGreatDoor
namespace Go.Proofs.YtnhackdjplppjaaGreatDoor
open Go.RowKit
theorem xload {P : Program} {o : Oper} {a : Act} {w : World} (t : TypeId) (x : Operand) (ho : o.op = .load t x) (b i : Nat) (hx : a.eval x = .pointer (some ⟨b, i, none⟩)) (v : Value) (d : TypeDesc) (hu : P.underlying t = some d) (hd : d.isRow = false) (hc : w.cell? ⟨b, i, none⟩ = some v) : (execOp a.eval o).run P w = .ok (.value v) w := by
 have hagg : (isAgg t).run P w = .ok false w := by
  unfold isAgg
  rw [Sem.run_bind, run_underlying hu w]
  cases d <;> simp_all
 have hl : (loadVar t ⟨b, i, none⟩).run P w = .ok v w := by
  simp [loadVar, Sem.run_bind, hagg, hc]
 unfold execOp
 simp [ho, hx, Instr.loadAt, Instr.sureAddr, hl]
theorem xrow {P : Program} {o : Oper} {a : Act} {w : World} (t : TypeId) (x : Operand) (ho : o.op = .load t x) (b i : Nat) (hx : a.eval x = .pointer (some ⟨b, i, none⟩)) (cs : List Value) (d : TypeDesc) (hr : w.rangeAt b i cs) (hu : P.underlying t = some d) (hd : d.isRow = true) (hi : (P.info? t).map (·.size) = some cs.length) : (execOp a.eval o).run P w = .ok (.value (.agg cs.toArray)) w := by
 unfold execOp
 simp only [ho, hx]
 have := run_loadAt_mid (P := P) w b i t cs d hr hu hd hi
 simp [this]
theorem there_of {w : World} {b : Nat} {ty : TypeId} {vs : List Value} (h : LocE w b ty vs) : w.there b 0 vs.length := fun j hj => by
 have := h.cell j (List.getElem?_eq_getElem hj)
 have hf := h.free j
 simp [this, hf]
end Go.Proofs.YtnhackdjplppjaaGreatDoor

/-
  Texts laid together: Gk2, Gr6.
-/
import Derived.Test.YtiiphandhpilgaaDoorEb32
namespace Go.Proofs.YtiiphandhpilgaaDoor
open Go.RowKit
theorem topQ_one {n : Nat} (h : n ≠ 0) (E : Int) : topQ n 1 E = (bitLen n : Int) - 1 + E := by
  obtain ⟨b1, b2, b3⟩ := bitLen_hi n h
  have t1 := (top_iff n 1 0 (bitLen n - 1) h (by omega)).1 (by simpa using b2)
  have t2 : ¬((bitLen n : Nat) : Int) ≤ topQ n 1 0 + ((0 : Nat) : Int) := fun c => by
    have := (top_iff n 1 0 (bitLen n) h (by omega)).2 c
    simp at this
    omega
  rw [topQ_zero]
  omega

/-- A number over a power that it holds: nothing is left, and it is the same number. -/
theorem one_parts (s : Bool) (n : Nat) (e k : Int) (hk : k ≤ e + (tz n : Int)) : numP n (e - k) % denP 1 (e - k) = 0 ∧ bare ⟨s, numP n (e - k) / denP 1 (e - k), k⟩ = bare ⟨s, n, e⟩ := by
  by_cases h0 : n = 0
  · subst h0
    have e1 : numP 0 (e - k) = 0 := by rw [numP_pow]; simp
    rw [e1]
    simp [bare]
  · by_cases hle : k ≤ e
    · have e1 : denP 1 (e - k) = 1 := by rw [denP_pow, show (-(e - k)).toNat = 0 by omega]
      rw [e1, numP_pow, Nat.mod_one, Nat.div_one]
      refine ⟨rfl, ?_⟩
      refine bare_of_V (K := (max (-k) 0).toNat) (by simp only; omega) (by simp only; omega) ?_
      rw [V_nat, V_nat]
      simp only
      rw [Nat.mul_assoc, ← Nat.pow_add, show (e - k).toNat + (k + ((max (-k) 0).toNat : Int)).toNat = (e + ((max (-k) 0).toNat : Int)).toNat by omega]
    · obtain ⟨m, hm⟩ := tz_spec h0
      obtain ⟨q, hq⟩ : ∃ q, n = q * 2 ^ (k - e).toNat := by
        refine ⟨2 ^ (tz n - (k - e).toNat) * (2 * m + 1), ?_⟩
        rw [Nat.mul_right_comm, ← Nat.pow_add, show tz n - (k - e).toNat + (k - e).toNat = tz n by omega]
        exact hm
      have e1 : numP n (e - k) = n := by rw [numP_pow, show (e - k).toNat = 0 by omega, Nat.pow_zero, Nat.mul_one]
      have e2 : denP 1 (e - k) = 2 ^ (k - e).toNat := by rw [denP_pow, Nat.one_mul, show -(e - k) = k - e by omega]
      rw [e1, e2, hq, Nat.mul_mod_left, Nat.mul_div_cancel _ (two_pos _)]
      refine ⟨rfl, ?_⟩
      refine bare_of_V (K := (max (-e) 0).toNat) (by simp only; omega) (by simp only; omega) ?_
      rw [V_nat, V_nat]
      simp only
      rw [Nat.mul_assoc, ← Nat.pow_add, show (k - e).toNat + (e + ((max (-e) 0).toNat : Int)).toNat = (k + ((max (-e) 0).toNat : Int)).toNat by omega]

/-- What the grid holds is rounded to itself. -/
theorem held_round {R D L G : Int} {gr s : Bool} {n : Nat} {e way : Int} (h1 : 1 ≤ D) (hLG : L ≤ G) (h0 : n ≠ 0) (hh : heldB R D L G gr n e = true) :
    (roundT R D L G gr s n 1 e way).ov = false ∧ ((roundT R D L G gr s n 1 e way).un = false ∨ gr = true) ∧ bare ⟨(roundT R D L G gr s n 1 e way).s, (roundT R D L G gr s n 1 e way).d, (widthN R : Int) * (roundT R D L G gr s n 1 e way).p⟩ = bare ⟨s, n, e⟩ := by
  have hM : (1 : Nat) ≠ 0 := by omega
  have hs : L ≤ spotK R D L gr n e ∧ spotK R D L gr n e ≤ G ∧ (widthN R : Int) * spotK R D L gr n e ≤ e + (tz n : Int) := by
    unfold heldB at hh
    rcases of_decide_eq_true hh with h | h
    · exact absurd h h0
    · exact h
  have hc : cutP R D L gr n 1 e = spotK R D L gr n e := by
    unfold cutP spotK
    rw [topQ_one h0]
  obtain ⟨p1, p2⟩ := one_parts s n e ((widthN R : Int) * spotK R D L gr n e) hs.2.2
  have hl : leftP R D L gr n 1 e = 0 := by
    unfold leftP shP
    rw [hc]
    exact p1
  have hd : digP R D L gr s n 1 e way = wholeP R D L gr n 1 e := by
    unfold digP
    rw [if_neg]
    rintro ⟨c, -⟩
    exact of_decide_eq_false c hl
  obtain ⟨c1, c2⟩ := dig_short R D L gr n 1 e h1 h0 hM (cutP R D L gr n 1 e)
  have hw : wholeP R D L gr n 1 e = numP n (e - (widthN R : Int) * spotK R D L gr n e) / denP 1 (e - (widthN R : Int) * spotK R D L gr n e) := by
    unfold wholeP shP
    rw [hc]
  rw [roundT_flat gr s n 1 e way h1 hLG h0 hM, hd, c1, c2, hc]
  refine ⟨decide_eq_false (by omega), ?_, ?_⟩
  · by_cases hg : gr = true
    · exact .inr hg
    · refine .inl (decide_eq_false fun c => ?_)
      have e1 : spotK R D L gr n e = powerR R D (topQ n 1 e) := by
        unfold spotK
        rw [topQ_one h0, if_neg]
        intro c2
        exact hg (Bool.and_eq_true_iff.1 c2).2
      omega
  · show bare ⟨s, wholeP R D L gr n 1 e, (widthN R : Int) * (if wholeP R D L gr n 1 e = 0 then 0 else spotK R D L gr n e)⟩ = _
    by_cases hz : wholeP R D L gr n 1 e = 0
    · rw [← p2, ← hw, hz]
      simp [bare]
    · rw [if_neg hz, hw, p2]

/-- What is rounded, if it is in the grid, lies at a spot of it. -/
theorem round_spot {R D L G : Int} {gr qs : Bool} {N M : Nat} {E way : Int} (h1 : 1 ≤ D) (hLG : L ≤ G) (hN : N ≠ 0) (hM : M ≠ 0) (ho : (roundT R D L G gr qs N M E way).ov = false) (hu : (roundT R D L G gr qs N M E way).un = false ∨ gr = true) :
    ((roundT R D L G gr qs N M E way).d = 0 ∧ (roundT R D L G gr qs N M E way).p = 0) ∨ ((roundT R D L G gr qs N M E way).d ≠ 0 ∧ L ≤ (roundT R D L G gr qs N M E way).p ∧ (roundT R D L G gr qs N M E way).p ≤ G ∧ (roundT R D L G gr qs N M E way).d < 2 ^ (widthN R * D.toNat) ∧ (2 ^ (widthN R * (D - 1).toNat) ≤ (roundT R D L G gr qs N M E way).d ∨ (gr = true ∧ (roundT R D L G gr qs N M E way).p = L))) := by
  rw [roundT_flat gr qs N M E way h1 hLG hN hM] at ho hu ⊢
  simp only at ho hu ⊢
  have hov := of_decide_eq_false ho
  by_cases hz : carD R D (digP R D L gr qs N M E way) = 0
  · exact .inl ⟨hz, if_pos hz⟩
  · refine .inr ⟨hz, ?_⟩
    rw [if_neg hz]
    have hwl := whole_lt R D L gr N M E h1 hN hM
    have hge := dig_ge R D L gr qs N M E way
    have hle : digP R D L gr qs N M E way ≤ wholeP R D L gr N M E + 1 := by
      unfold digP
      split <;> omega
    have hpw : 2 ^ (widthN R * (D - 1).toNat) < 2 ^ (widthN R * D.toNat) := by
      refine Nat.pow_lt_pow_right (by omega) ?_
      exact Nat.mul_lt_mul_of_pos_left (by omega) (by have := widthN_le R; omega)
    have hcut : L ≤ cutP R D L gr N M E ∧ (cutP R D L gr N M E = powerR R D (topQ N M E) ∨ (gr = true ∧ cutP R D L gr N M E = L)) := by
      unfold cutP
      by_cases hc : (decide (powerR R D (topQ N M E) < L) && gr) = true
      · rw [if_pos hc]
        exact ⟨Int.le_refl _, .inr ⟨(Bool.and_eq_true_iff.1 hc).2, rfl⟩⟩
      · rw [if_neg hc]
        refine ⟨?_, .inl rfl⟩
        rcases hu with hu | hu
        · have := of_decide_eq_false hu
          omega
        · rw [hu, Bool.and_true] at hc
          have : ¬powerR R D (topQ N M E) < L := fun c => hc (decide_eq_true c)
          omega
    unfold carD carP at *
    by_cases hq : digP R D L gr qs N M E way = 2 ^ (widthN R * D.toNat)
    · rw [if_pos hq] at hov ⊢
      rw [if_pos hq]
      exact ⟨by omega, by omega, hpw, .inl (Nat.le_refl _)⟩
    · rw [if_neg hq] at hov ⊢
      rw [if_neg hq]
      refine ⟨hcut.1, by omega, by omega, ?_⟩
      rcases hcut.2 with h | h
      · refine .inl (Nat.le_trans ?_ hge)
        have := mt (seek_iff R D (powerR R D (topQ N M E)) N M E h1 hN hM).1 (Int.lt_irrefl _)
        rw [lt_bits] at this
        unfold wholeP shP
        rw [h]
        omega
      · exact .inr h
end Go.Proofs.YtiiphandhpilgaaDoor
namespace Go.Proofs.YtiiphandhpilgaaDoor
open Go.RowKit
/-- Round's answer: a place, and an error's number. -/
def PlaceAns (w : World) (c : Int) (t : PlaceT) (e : Ending) (w' : World) : Prop :=
  ∃ v, e = .returned (.tuple #[.agg #[.bool t.s, v, .int .i64 t.p, .bool t.ex, .bool t.ov, .bool t.un], .int .i64 c]) ∧ Own w' w.heap.size 38 .u32 v (Dg.dg 4294967296 t.d) ∧ Below w.heap.size w w'

def noPlace : PlaceT := ⟨false, 0, 0, false, false, false⟩

theorem equalIn_fn_nil {P : Program} (w : World) (d : Nat) {t : TypeId} {ps rs : Array TypeId} {vd : Bool} (h : P.underlying t = some (.func ps rs vd)) (f : Fn) (a b : Array Value) : (Op.equalIn (d + 1) t (.func f a b) .nilFunc).run P w = .ok false w := by
  simp [Op.equalIn, run_underlying h]

theorem equalIn_nil_nil {P : Program} (w : World) (d : Nat) {t : TypeId} {ps rs : Array TypeId} {vd : Bool} (h : P.underlying t = some (.func ps rs vd)) : (Op.equalIn (d + 1) t .nilFunc .nilFunc).run P w = .ok true w := by
  simp [Op.equalIn, run_underlying h]

/-- A function is not nil. -/
theorem eql_fn_nil {P : Program} (w : World) {t : TypeId} {ps rs : Array TypeId} {vd : Bool} (h : P.underlying t = some (.func ps rs vd)) (f : Fn) (a b : Array Value) : (binOp .eql t (.func f a b) .nilFunc).run P w = .ok (.bool false) w := by
  simp only [binOp]
  simp [Op.equal, Op.maxDepth, equalIn_fn_nil w 9999 h f a b]

theorem eql_nil_nil {P : Program} (w : World) {t : TypeId} {ps rs : Array TypeId} {vd : Bool} (h : P.underlying t = some (.func ps rs vd)) : (binOp .eql t .nilFunc .nilFunc).run P w = .ok (.bool true) w := by
  simp only [binOp]
  simp [Op.equal, Op.maxDepth, equalIn_nil_nil w 9999 h]

set_option maxRecDepth 100000 in
set_option maxHeartbeats 3200000 in
theorem gRoundW_any (R D L G : Int) (gr : Bool) (qs : Bool) (no : Option Addr) (nl nc : Nat) (eo : Option Addr) (el ec : Nat) (E way : Int) (c : Int) (fv : Value) (fn : FuncId) (isf z : Bool) (PT : PlaceT) (ac : Int) (at_ : PlaceT) (w : World)
    (hfv : isf = true → fv = .func (.func fn) #[] #[]) (hfn : isf = false → fv = .nilFunc) (hz : ((nl : Int) == 0) = z)
    (HB : ¬c = 0 → ac = c ∧ at_ = noPlace) (HK : c = 0 → isf = false → ac = 6 ∧ at_ = noPlace) (HZ : c = 0 → isf = true → z = true → ac = 0 ∧ at_ = ⟨false, 0, 0, true, false, false⟩) (HG : c = 0 → isf = true → z = false → ac = 0 ∧ at_ = PT)
    (HW : ∀ w1, Below w.heap.size w w1 → Calls Tryd.prog 52 #[.agg #[.bool qs, .slice no nl nc, .slice eo el ec, .int .i64 E], .agg #[.int .i64 R, .int .i64 D, .int .i64 L, .int .i64 G, .bool gr]] w1 fun z w' => z = .returned (.int .i64 c) ∧ Below w1.heap.size w1 w')
    (HL : ∀ w1 r, w1.heap[r]? = some (.map wayE 5) → (Instr.lookup 108 (.map (some r)) (.int .i64 way) false).run Tryd.prog w1 = .ok fv w1)
    (HR : c = 0 → isf = true → z = false → ∀ w1, Below w.heap.size w w1 → Calls Tryd.prog 54 #[.agg #[.int .i64 R, .int .i64 D, .int .i64 L, .int .i64 G, .bool gr], .agg #[.bool qs, .slice no nl nc, .slice eo el ec, .int .i64 E], .func (.func fn) #[] #[]] w1 (PlaceRes w1 PT)) :
    Calls Tryd.prog 34 #[.agg #[.bool qs, .slice no nl nc, .slice eo el ec, .int .i64 E], .agg #[.int .i64 R, .int .i64 D, .int .i64 L, .int .i64 G, .bool gr], .int .i64 way] w (PlaceAns w ac at_) := by
  replace HB : Hid _ := HB
  replace HK : Hid _ := HK
  replace HZ : Hid _ := HZ
  replace HG : Hid _ := HG
  replace HW : Hid _ := HW
  replace HL : Hid _ := HL
  replace HR : Hid _ := HR
  replace hfv : Hid _ := hfv
  replace hfn : Hid _ := hfn
  have HWY : Hid (∀ w1, Calls Tryd.prog 53 #[] w1 fun z w' => z = .returned (.map (some w1.heap.size)) ∧ w'.heap[w1.heap.size]? = some (.map wayE 5) ∧ Below w1.heap.size w1 w') := ways_any
  have b1 := below_trans (below_trans (below_alloc w (.cells #[.bool qs, .slice no nl nc, .slice eo el ec, .int .i64 E] 85)) (below_alloc _ (.cells #[.int .i64 R, .int .i64 D, .int .i64 L, .int .i64 G, .bool gr] 40))) (below_alloc _ (.cells #[.bool false, .slice none 0 0, .int .i64 0, .bool false, .bool false, .bool false] 77))
  have q1 := ((locE_new w [.bool qs, .slice no nl nc, .slice eo el ec, .int .i64 E] 85).later (below_alloc _ (.cells #[.int .i64 R, .int .i64 D, .int .i64 L, .int .i64 G, .bool gr] 40))).later (below_alloc _ (.cells #[.bool false, .slice none 0 0, .int .i64 0, .bool false, .bool false, .bool false] 77))
  have g1 := (locE_new (w.alloc (.cells #[.bool qs, .slice no nl nc, .slice eo el ec, .int .i64 E] 85)) [.int .i64 R, .int .i64 D, .int .i64 L, .int .i64 G, .bool gr] 40).later (below_alloc _ (.cells #[.bool false, .slice none 0 0, .int .i64 0, .bool false, .bool false, .bool false] 77))
  have c1 := locE_new ((w.alloc (.cells #[.bool qs, .slice no nl nc, .slice eo el ec, .int .i64 E] 85)).alloc (.cells #[.int .i64 R, .int .i64 D, .int .i64 L, .int .i64 G, .bool gr] 40)) [.bool false, .slice none 0 0, .int .i64 0, .bool false, .bool false, .bool false] 77
  simp only [World.size_alloc] at g1 c1
  have x0 := q1.cell 0 rfl
  have x1 := q1.cell 1 rfl
  have x2 := q1.cell 2 rfl
  have x3 := q1.cell 3 rfl
  have y0 := g1.cell 0 rfl
  have y1 := g1.cell 1 rfl
  have y2 := g1.cell 2 rfl
  have y3 := g1.cell 3 rfl
  have y4 := g1.cell 4 rfl
  have en := fun w1 => eql_nil_nil (P := Tryd.prog) w1 Tryd.underlying107
  have ef := fun w1 => eql_fn_nil (P := Tryd.prog) w1 Tryd.underlying107 (.func fn) #[] #[]
  go_enter Tryd.func34, Tryd.ntmps34
  go_wp2_with fail
  refine (HW.out _ b1).mono ?_
  rintro z wa ⟨rfl, bb2⟩
  have q_2 := q1.later bb2
  have g_2 := g1.later bb2
  have c_2 := c1.later bb2
  have b0_2 := below_trans b1 bb2
  clear q1 g1 c1 b1 bb2
  clear x0 x1 x2 x3 y0 y1 y2 y3 y4
  by_cases hc : c = 0
  · have HK2 : Hid _ := HK.out hc
    have HZ2 : Hid _ := HZ.out hc
    have HG2 : Hid _ := HG.out hc
    have HR2 : Hid _ := HR.out hc
    clear HB HK HZ HG HR
    subst hc
    go_wp2_with fail
    refine (HWY.out _).mono ?_
    rintro z wb ⟨rfl, hm, bb3⟩
    have q_3 := q_2.later bb3
    have g_3 := g_2.later bb3
    have c_3 := c_2.later bb3
    have b0_3 := below_trans b0_2 bb3
    clear q_2 g_2 c_2 b0_2 bb3
    have hl := HL.out wb _ hm
    clear hm
    cases isf
    · have hf := hfn.out rfl
      have HF : Hid _ := HK2.out rfl
      clear HK2 HZ2 HG2 HR2 hfn hfv
      subst hf
      have s0 := c_3.cell 0 rfl
      have f0 := c_3.free 0
      have s1 := c_3.cell 1 rfl
      have f1 := c_3.free 1
      have s2 := c_3.cell 2 rfl
      have f2 := c_3.free 2
      have s3 := c_3.cell 3 rfl
      have f3 := c_3.free 3
      have s4 := c_3.cell 4 rfl
      have f4 := c_3.free 4
      have s5 := c_3.cell 5 rfl
      have f5 := c_3.free 5
      go_wp2
      have bu : But (w.heap.size + 1 + 1) wb ((((((wb.setCell ⟨w.heap.size + 1 + 1, 0, none⟩ (.bool false)).setCell ⟨w.heap.size + 1 + 1, 1, none⟩ (.slice none 0 0)).setCell ⟨w.heap.size + 1 + 1, 2, none⟩ (.int .i64 0)).setCell ⟨w.heap.size + 1 + 1, 3, none⟩ (.bool false)).setCell ⟨w.heap.size + 1 + 1, 4, none⟩ (.bool false)).setCell ⟨w.heap.size + 1 + 1, 5, none⟩ (.bool false)) := (((((but_set wb (w.heap.size + 1 + 1) 0 (.bool false)).trans (but_set _ (w.heap.size + 1 + 1) 1 (.slice none 0 0))).trans (but_set _ (w.heap.size + 1 + 1) 2 (.int .i64 0))).trans (but_set _ (w.heap.size + 1 + 1) 3 (.bool false))).trans (but_set _ (w.heap.size + 1 + 1) 4 (.bool false))).trans (but_set _ (w.heap.size + 1 + 1) 5 (.bool false))
      have cR : LocE ((((((wb.setCell ⟨w.heap.size + 1 + 1, 0, none⟩ (.bool false)).setCell ⟨w.heap.size + 1 + 1, 1, none⟩ (.slice none 0 0)).setCell ⟨w.heap.size + 1 + 1, 2, none⟩ (.int .i64 0)).setCell ⟨w.heap.size + 1 + 1, 3, none⟩ (.bool false)).setCell ⟨w.heap.size + 1 + 1, 4, none⟩ (.bool false)).setCell ⟨w.heap.size + 1 + 1, 5, none⟩ (.bool false)) (w.heap.size + 1 + 1) 77 [.bool false, .slice none 0 0, .int .i64 0, .bool false, .bool false, .bool false] := (((((c_3.set 0 (.bool false)).set 1 (.slice none 0 0)).set 2 (.int .i64 0)).set 3 (.bool false)).set 4 (.bool false)).set 5 (.bool false)
      have bR := bu.below b0_3 (show w.heap.size ≤ w.heap.size + 1 + 1 by omega)
      clear bu s0 s1 s2 s3 s4 s5 f0 f1 f2 f3 f4 f5 q_3 g_3 c_3
      generalize ((((((wb.setCell ⟨w.heap.size + 1 + 1, 0, none⟩ (.bool false)).setCell ⟨w.heap.size + 1 + 1, 1, none⟩ (.slice none 0 0)).setCell ⟨w.heap.size + 1 + 1, 2, none⟩ (.int .i64 0)).setCell ⟨w.heap.size + 1 + 1, 3, none⟩ (.bool false)).setCell ⟨w.heap.size + 1 + 1, 4, none⟩ (.bool false)).setCell ⟨w.heap.size + 1 + 1, 5, none⟩ (.bool false)) = WR at cR bR ⊢
      have s0 := cR.cell 0 rfl
      have s1 := cR.cell 1 rfl
      have s2 := cR.cell 2 rfl
      have s3 := cR.cell 3 rfl
      have s4 := cR.cell 4 rfl
      have s5 := cR.cell 5 rfl
      rw [HF.out.1, HF.out.2]
      show bodyPost _ _ _ .ret _ _
      refine bodyPost_ret (v := .tuple #[.agg #[.bool false, .slice none 0 0, .int .i64 0, .bool false, .bool false, .bool false], .int .i64 6]) (by simp [results, Tryd.results34, go_sem, s0, s1, s2, s3, s4, s5]) rfl ?_
      exact ⟨_, rfl, own_nil _ _ _ _, bR⟩
    · have hf := hfv.out rfl
      have HZ3 : Hid _ := HZ2.out rfl
      have HG3 : Hid _ := HG2.out rfl
      have HR3 : Hid _ := HR2.out rfl
      clear HK2 HZ2 HG2 HR2 hfn hfv
      subst hf
      have x1 := q_3.cell 1 rfl
      cases z
      · have HF : Hid _ := HG3.out rfl
        have HRF : Hid _ := HR3.out rfl
        clear HZ3 HG3 HR3
        have x0 := q_3.cell 0 rfl
        have x2 := q_3.cell 2 rfl
        have x3 := q_3.cell 3 rfl
        have y0 := g_3.cell 0 rfl
        have y1 := g_3.cell 1 rfl
        have y2 := g_3.cell 2 rfl
        have y3 := g_3.cell 3 rfl
        have y4 := g_3.cell 4 rfl
        have hwb := b0_3.size
        go_wp2_with fail
        refine (HRF.out _ b0_3).mono ?_
        rintro z wc ⟨v, rfl, ou, bb4⟩
        have q_4 := q_3.later bb4
        have g_4 := g_3.later bb4
        have c_4 := c_3.later bb4
        have b0_4 := below_trans b0_3 bb4
        clear q_3 g_3 c_3 b0_3 bb4
        clear x0 x1 x2 x3 y0 y1 y2 y3 y4
        obtain ⟨uo, uk, hv⟩ := ou.rd.shape
        subst hv
        obtain ⟨lu, hlu⟩ : ∃ x, (Dg.dg 4294967296 PT.d).length = x := ⟨_, rfl⟩
        rw [hlu] at ou
        rw [hlu]
        clear hlu
        have s0 := c_4.cell 0 rfl
        have f0 := c_4.free 0
        have s1 := c_4.cell 1 rfl
        have f1 := c_4.free 1
        have s2 := c_4.cell 2 rfl
        have f2 := c_4.free 2
        have s3 := c_4.cell 3 rfl
        have f3 := c_4.free 3
        have s4 := c_4.cell 4 rfl
        have f4 := c_4.free 4
        have s5 := c_4.cell 5 rfl
        have f5 := c_4.free 5
        go_wp2
        have bu : But (w.heap.size + 1 + 1) wc ((((((wc.setCell ⟨w.heap.size + 1 + 1, 0, none⟩ (.bool PT.s)).setCell ⟨w.heap.size + 1 + 1, 1, none⟩ (.slice uo lu uk)).setCell ⟨w.heap.size + 1 + 1, 2, none⟩ (.int .i64 PT.p)).setCell ⟨w.heap.size + 1 + 1, 3, none⟩ (.bool PT.ex)).setCell ⟨w.heap.size + 1 + 1, 4, none⟩ (.bool PT.ov)).setCell ⟨w.heap.size + 1 + 1, 5, none⟩ (.bool PT.un)) := (((((but_set wc (w.heap.size + 1 + 1) 0 (.bool PT.s)).trans (but_set _ (w.heap.size + 1 + 1) 1 (.slice uo lu uk))).trans (but_set _ (w.heap.size + 1 + 1) 2 (.int .i64 PT.p))).trans (but_set _ (w.heap.size + 1 + 1) 3 (.bool PT.ex))).trans (but_set _ (w.heap.size + 1 + 1) 4 (.bool PT.ov))).trans (but_set _ (w.heap.size + 1 + 1) 5 (.bool PT.un))
        have cR : LocE ((((((wc.setCell ⟨w.heap.size + 1 + 1, 0, none⟩ (.bool PT.s)).setCell ⟨w.heap.size + 1 + 1, 1, none⟩ (.slice uo lu uk)).setCell ⟨w.heap.size + 1 + 1, 2, none⟩ (.int .i64 PT.p)).setCell ⟨w.heap.size + 1 + 1, 3, none⟩ (.bool PT.ex)).setCell ⟨w.heap.size + 1 + 1, 4, none⟩ (.bool PT.ov)).setCell ⟨w.heap.size + 1 + 1, 5, none⟩ (.bool PT.un)) (w.heap.size + 1 + 1) 77 [.bool PT.s, .slice uo lu uk, .int .i64 PT.p, .bool PT.ex, .bool PT.ov, .bool PT.un] := (((((c_4.set 0 (.bool PT.s)).set 1 (.slice uo lu uk)).set 2 (.int .i64 PT.p)).set 3 (.bool PT.ex)).set 4 (.bool PT.ov)).set 5 (.bool PT.un)
        have bR := bu.below b0_4 (show w.heap.size ≤ w.heap.size + 1 + 1 by omega)
        have oR := bu.own (ou.lower hwb) c_4 (by decide)
        clear bu s0 s1 s2 s3 s4 s5 f0 f1 f2 f3 f4 f5 q_4 g_4 c_4
        generalize ((((((wc.setCell ⟨w.heap.size + 1 + 1, 0, none⟩ (.bool PT.s)).setCell ⟨w.heap.size + 1 + 1, 1, none⟩ (.slice uo lu uk)).setCell ⟨w.heap.size + 1 + 1, 2, none⟩ (.int .i64 PT.p)).setCell ⟨w.heap.size + 1 + 1, 3, none⟩ (.bool PT.ex)).setCell ⟨w.heap.size + 1 + 1, 4, none⟩ (.bool PT.ov)).setCell ⟨w.heap.size + 1 + 1, 5, none⟩ (.bool PT.un)) = WR at cR bR oR ⊢
        have s0 := cR.cell 0 rfl
        have s1 := cR.cell 1 rfl
        have s2 := cR.cell 2 rfl
        have s3 := cR.cell 3 rfl
        have s4 := cR.cell 4 rfl
        have s5 := cR.cell 5 rfl
        rw [HF.out.1, HF.out.2]
        show bodyPost _ _ _ .ret _ _
        refine bodyPost_ret (v := .tuple #[.agg #[.bool PT.s, .slice uo lu uk, .int .i64 PT.p, .bool PT.ex, .bool PT.ov, .bool PT.un], .int .i64 0]) (by simp [results, Tryd.results34, go_sem, s0, s1, s2, s3, s4, s5]) rfl ?_
        exact ⟨_, rfl, oR, bR⟩
      · have HF : Hid _ := HZ3.out rfl
        clear HZ3 HG3 HR3
        have s0 := c_3.cell 0 rfl
        have f0 := c_3.free 0
        have s1 := c_3.cell 1 rfl
        have f1 := c_3.free 1
        have s2 := c_3.cell 2 rfl
        have f2 := c_3.free 2
        have s3 := c_3.cell 3 rfl
        have f3 := c_3.free 3
        have s4 := c_3.cell 4 rfl
        have f4 := c_3.free 4
        have s5 := c_3.cell 5 rfl
        have f5 := c_3.free 5
        go_wp2
        have bu : But (w.heap.size + 1 + 1) wb ((((((wb.setCell ⟨w.heap.size + 1 + 1, 0, none⟩ (.bool false)).setCell ⟨w.heap.size + 1 + 1, 1, none⟩ (.slice none 0 0)).setCell ⟨w.heap.size + 1 + 1, 2, none⟩ (.int .i64 0)).setCell ⟨w.heap.size + 1 + 1, 3, none⟩ (.bool true)).setCell ⟨w.heap.size + 1 + 1, 4, none⟩ (.bool false)).setCell ⟨w.heap.size + 1 + 1, 5, none⟩ (.bool false)) := (((((but_set wb (w.heap.size + 1 + 1) 0 (.bool false)).trans (but_set _ (w.heap.size + 1 + 1) 1 (.slice none 0 0))).trans (but_set _ (w.heap.size + 1 + 1) 2 (.int .i64 0))).trans (but_set _ (w.heap.size + 1 + 1) 3 (.bool true))).trans (but_set _ (w.heap.size + 1 + 1) 4 (.bool false))).trans (but_set _ (w.heap.size + 1 + 1) 5 (.bool false))
        have cR : LocE ((((((wb.setCell ⟨w.heap.size + 1 + 1, 0, none⟩ (.bool false)).setCell ⟨w.heap.size + 1 + 1, 1, none⟩ (.slice none 0 0)).setCell ⟨w.heap.size + 1 + 1, 2, none⟩ (.int .i64 0)).setCell ⟨w.heap.size + 1 + 1, 3, none⟩ (.bool true)).setCell ⟨w.heap.size + 1 + 1, 4, none⟩ (.bool false)).setCell ⟨w.heap.size + 1 + 1, 5, none⟩ (.bool false)) (w.heap.size + 1 + 1) 77 [.bool false, .slice none 0 0, .int .i64 0, .bool true, .bool false, .bool false] := (((((c_3.set 0 (.bool false)).set 1 (.slice none 0 0)).set 2 (.int .i64 0)).set 3 (.bool true)).set 4 (.bool false)).set 5 (.bool false)
        have bR := bu.below b0_3 (show w.heap.size ≤ w.heap.size + 1 + 1 by omega)
        clear bu s0 s1 s2 s3 s4 s5 f0 f1 f2 f3 f4 f5 q_3 g_3 c_3
        generalize ((((((wb.setCell ⟨w.heap.size + 1 + 1, 0, none⟩ (.bool false)).setCell ⟨w.heap.size + 1 + 1, 1, none⟩ (.slice none 0 0)).setCell ⟨w.heap.size + 1 + 1, 2, none⟩ (.int .i64 0)).setCell ⟨w.heap.size + 1 + 1, 3, none⟩ (.bool true)).setCell ⟨w.heap.size + 1 + 1, 4, none⟩ (.bool false)).setCell ⟨w.heap.size + 1 + 1, 5, none⟩ (.bool false)) = WR at cR bR ⊢
        have s0 := cR.cell 0 rfl
        have s1 := cR.cell 1 rfl
        have s2 := cR.cell 2 rfl
        have s3 := cR.cell 3 rfl
        have s4 := cR.cell 4 rfl
        have s5 := cR.cell 5 rfl
        rw [HF.out.1, HF.out.2]
        show bodyPost _ _ _ .ret _ _
        refine bodyPost_ret (v := .tuple #[.agg #[.bool false, .slice none 0 0, .int .i64 0, .bool true, .bool false, .bool false], .int .i64 0]) (by simp [results, Tryd.results34, go_sem, s0, s1, s2, s3, s4, s5]) rfl ?_
        exact ⟨_, rfl, own_nil _ _ _ _, bR⟩
  · have hcf : (c == 0) = false := by simp; exact hc
    have HF : Hid _ := HB.out hc
    clear hc HB HK HZ HG HR
    have s0 := c_2.cell 0 rfl
    have f0 := c_2.free 0
    have s1 := c_2.cell 1 rfl
    have f1 := c_2.free 1
    have s2 := c_2.cell 2 rfl
    have f2 := c_2.free 2
    have s3 := c_2.cell 3 rfl
    have f3 := c_2.free 3
    have s4 := c_2.cell 4 rfl
    have f4 := c_2.free 4
    have s5 := c_2.cell 5 rfl
    have f5 := c_2.free 5
    go_wp2
    have bu : But (w.heap.size + 1 + 1) wa ((((((wa.setCell ⟨w.heap.size + 1 + 1, 0, none⟩ (.bool false)).setCell ⟨w.heap.size + 1 + 1, 1, none⟩ (.slice none 0 0)).setCell ⟨w.heap.size + 1 + 1, 2, none⟩ (.int .i64 0)).setCell ⟨w.heap.size + 1 + 1, 3, none⟩ (.bool false)).setCell ⟨w.heap.size + 1 + 1, 4, none⟩ (.bool false)).setCell ⟨w.heap.size + 1 + 1, 5, none⟩ (.bool false)) := (((((but_set wa (w.heap.size + 1 + 1) 0 (.bool false)).trans (but_set _ (w.heap.size + 1 + 1) 1 (.slice none 0 0))).trans (but_set _ (w.heap.size + 1 + 1) 2 (.int .i64 0))).trans (but_set _ (w.heap.size + 1 + 1) 3 (.bool false))).trans (but_set _ (w.heap.size + 1 + 1) 4 (.bool false))).trans (but_set _ (w.heap.size + 1 + 1) 5 (.bool false))
    have cR : LocE ((((((wa.setCell ⟨w.heap.size + 1 + 1, 0, none⟩ (.bool false)).setCell ⟨w.heap.size + 1 + 1, 1, none⟩ (.slice none 0 0)).setCell ⟨w.heap.size + 1 + 1, 2, none⟩ (.int .i64 0)).setCell ⟨w.heap.size + 1 + 1, 3, none⟩ (.bool false)).setCell ⟨w.heap.size + 1 + 1, 4, none⟩ (.bool false)).setCell ⟨w.heap.size + 1 + 1, 5, none⟩ (.bool false)) (w.heap.size + 1 + 1) 77 [.bool false, .slice none 0 0, .int .i64 0, .bool false, .bool false, .bool false] := (((((c_2.set 0 (.bool false)).set 1 (.slice none 0 0)).set 2 (.int .i64 0)).set 3 (.bool false)).set 4 (.bool false)).set 5 (.bool false)
    have bR := bu.below b0_2 (show w.heap.size ≤ w.heap.size + 1 + 1 by omega)
    clear bu s0 s1 s2 s3 s4 s5 f0 f1 f2 f3 f4 f5 q_2 g_2 c_2
    generalize ((((((wa.setCell ⟨w.heap.size + 1 + 1, 0, none⟩ (.bool false)).setCell ⟨w.heap.size + 1 + 1, 1, none⟩ (.slice none 0 0)).setCell ⟨w.heap.size + 1 + 1, 2, none⟩ (.int .i64 0)).setCell ⟨w.heap.size + 1 + 1, 3, none⟩ (.bool false)).setCell ⟨w.heap.size + 1 + 1, 4, none⟩ (.bool false)).setCell ⟨w.heap.size + 1 + 1, 5, none⟩ (.bool false)) = WR at cR bR ⊢
    have s0 := cR.cell 0 rfl
    have s1 := cR.cell 1 rfl
    have s2 := cR.cell 2 rfl
    have s3 := cR.cell 3 rfl
    have s4 := cR.cell 4 rfl
    have s5 := cR.cell 5 rfl
    rw [HF.out.1, HF.out.2]
    show bodyPost _ _ _ .ret _ _
    refine bodyPost_ret (v := .tuple #[.agg #[.bool false, .slice none 0 0, .int .i64 0, .bool false, .bool false, .bool false], .int .i64 c]) (by simp [results, Tryd.results34, go_sem, s0, s1, s2, s3, s4, s5]) rfl ?_
    exact ⟨_, rfl, own_nil _ _ _ _, bR⟩
end Go.Proofs.YtiiphandhpilgaaDoor

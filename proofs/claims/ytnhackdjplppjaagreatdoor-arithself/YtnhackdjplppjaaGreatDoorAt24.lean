/-
  Texts laid together: Gr6, Gr7, Ce10.
-/
import Derived.Test.YtnhackdjplppjaaGreatDoorAt20
import Derived.Test.YtnhackdjplppjaaGreatDoorAt21
import Derived.Test.YtnhackdjplppjaaGreatDoorAt23
set_option maxRecDepth 100000
namespace Go.Proofs.YtnhackdjplppjaaGreatDoor
open Go.RowKit
def PlaceAns (w : World) (c : Int) (t : PlaceT) (e : Ending) (w' : World) : Prop :=
 ∃ v, e = .returned (.tuple #[.agg #[.bool t.s, v, .int .i64 t.p, .bool t.ex, .bool t.ov, .bool t.un], .int .i64 c]) ∧ Own w' w.heap.size 141 .u32 v (Dg.dg 4294967296 t.d) ∧ Below w.heap.size w w'
def noPlace : PlaceT := ⟨false, 0, 0, false, false, false⟩
theorem equalIn_fn_nil {P : Program} (w : World) (d : Nat) {t : TypeId} {ps rs : Array TypeId} {vd : Bool} (h : P.underlying t = some (.func ps rs vd)) (f : Fn) (a b : Array Value) : (Op.equalIn (d + 1) t (.func f a b) .nilFunc).run P w = .ok false w := by
 simp [Op.equalIn, run_underlying h]
theorem equalIn_nil_nil {P : Program} (w : World) (d : Nat) {t : TypeId} {ps rs : Array TypeId} {vd : Bool} (h : P.underlying t = some (.func ps rs vd)) : (Op.equalIn (d + 1) t .nilFunc .nilFunc).run P w = .ok true w := by
 simp [Op.equalIn, run_underlying h]
theorem eql_fn_nil {P : Program} (w : World) {t : TypeId} {ps rs : Array TypeId} {vd : Bool} (h : P.underlying t = some (.func ps rs vd)) (f : Fn) (a b : Array Value) : (binOp .eql t (.func f a b) .nilFunc).run P w = .ok (.bool false) w := by
 simp only [binOp]
 simp [Op.equal, Op.maxDepth, equalIn_fn_nil w 9999 h f a b]
theorem eql_nil_nil {P : Program} (w : World) {t : TypeId} {ps rs : Array TypeId} {vd : Bool} (h : P.underlying t = some (.func ps rs vd)) : (binOp .eql t .nilFunc .nilFunc).run P w = .ok (.bool true) w := by
 simp only [binOp]
 simp [Op.equal, Op.maxDepth, equalIn_nil_nil w 9999 h]
set_option maxHeartbeats 3200000 in
theorem gRoundW_any (R D L G : Int) (gr : Bool) (qs : Bool) (no : Option Addr) (nl nc : Nat) (eo : Option Addr) (el ec : Nat) (E way : Int) (c : Int) (fv : Value) (fn : FuncId) (isf z : Bool) (PT : PlaceT) (ac : Int) (at_ : PlaceT) (w : World)
  (hfv : isf = true → fv = .func (.func fn) #[] #[]) (hfn : isf = false → fv = .nilFunc) (hz : ((nl : Int) == 0) = z)
  (HB : ¬c = 0 → ac = c ∧ at_ = noPlace) (HK : c = 0 → isf = false → ac = 6 ∧ at_ = noPlace) (HZ : c = 0 → isf = true → z = true → ac = 0 ∧ at_ = ⟨false, 0, 0, true, false, false⟩) (HG : c = 0 → isf = true → z = false → ac = 0 ∧ at_ = PT)
  (HW : ∀ w1, Below w.heap.size w w1 → Calls Tryz.prog 142 #[.agg #[.bool qs, .slice no nl nc, .slice eo el ec, .int .i64 E], .agg #[.int .i64 R, .int .i64 D, .int .i64 L, .int .i64 G, .bool gr]] w1 fun z w' => z = .returned (.int .i64 c) ∧ Below w1.heap.size w1 w')
  (HL : ∀ w1 r, w1.heap[r]? = some (.map wayE 5) → (Instr.lookup 197 (.map (some r)) (.int .i64 way) false).run Tryz.prog w1 = .ok fv w1)
  (HR : c = 0 → isf = true → z = false → ∀ w1, Below w.heap.size w w1 → Calls Tryz.prog 144 #[.agg #[.int .i64 R, .int .i64 D, .int .i64 L, .int .i64 G, .bool gr], .agg #[.bool qs, .slice no nl nc, .slice eo el ec, .int .i64 E], .func (.func fn) #[] #[]] w1 (PlaceRes w1 PT)) :
  Calls Tryz.prog 86 #[.agg #[.bool qs, .slice no nl nc, .slice eo el ec, .int .i64 E], .agg #[.int .i64 R, .int .i64 D, .int .i64 L, .int .i64 G, .bool gr], .int .i64 way] w (PlaceAns w ac at_) := by
 replace HB : Hid _ := HB
 replace HK : Hid _ := HK
 replace HZ : Hid _ := HZ
 replace HG : Hid _ := HG
 replace HW : Hid _ := HW
 replace HL : Hid _ := HL
 replace HR : Hid _ := HR
 replace hfv : Hid _ := hfv
 replace hfn : Hid _ := hfn
 have HWY : Hid _ := ways_any
 have b1 := below_trans (below_trans (below_alloc w (.cells #[.bool qs, .slice no nl nc, .slice eo el ec, .int .i64 E] 53)) (below_alloc _ (.cells #[.int .i64 R, .int .i64 D, .int .i64 L, .int .i64 G, .bool gr] 56))) (below_alloc _ (.cells #[.bool false, .slice none 0 0, .int .i64 0, .bool false, .bool false, .bool false] 86))
 have q1 := ((locE_new w [.bool qs, .slice no nl nc, .slice eo el ec, .int .i64 E] 53).later (below_alloc _ (.cells #[.int .i64 R, .int .i64 D, .int .i64 L, .int .i64 G, .bool gr] 56))).later (below_alloc _ (.cells #[.bool false, .slice none 0 0, .int .i64 0, .bool false, .bool false, .bool false] 86))
 have g1 := (locE_new (w.alloc (.cells #[.bool qs, .slice no nl nc, .slice eo el ec, .int .i64 E] 53)) [.int .i64 R, .int .i64 D, .int .i64 L, .int .i64 G, .bool gr] 56).later (below_alloc _ (.cells #[.bool false, .slice none 0 0, .int .i64 0, .bool false, .bool false, .bool false] 86))
 have c1 := locE_new ((w.alloc (.cells #[.bool qs, .slice no nl nc, .slice eo el ec, .int .i64 E] 53)).alloc (.cells #[.int .i64 R, .int .i64 D, .int .i64 L, .int .i64 G, .bool gr] 56)) [.bool false, .slice none 0 0, .int .i64 0, .bool false, .bool false, .bool false] 86
 simp only [World.size_alloc] at g1 c1
 obtain ⟨x0, x1, x2, x3⟩ := q1.cs4
 obtain ⟨y0, y1, y2, y3, y4⟩ := g1.cs5
 have en := fun w1 => eql_nil_nil (P := Tryz.prog) w1 Tryz.underlying196
 have ef := fun w1 => eql_fn_nil (P := Tryz.prog) w1 Tryz.underlying196 (.func fn) #[] #[]
 go_enter Tryz.func86, Tryz.ntmps86
 go_wp2_with fail
 refine (HW.out _ b1).mono ?_
 rintro z wa ⟨rfl, bb2⟩
 have q_2 := q1.later bb2
 have g_2 := g1.later bb2
 have c_2 := c1.later bb2
 have b0_2 := below_trans b1 bb2
 clear q1 g1 c1 b1 bb2
 clear x0 x1 x2 x3 y0 y1 y2 y3 y4
 by_cases hc : c = 0
 ·have HK2 : Hid _ := HK.out hc
  have HZ2 : Hid _ := HZ.out hc
  have HG2 : Hid _ := HG.out hc
  have HR2 : Hid _ := HR.out hc
  clear HB HK HZ HG HR
  subst hc
  go_wp2_with fail
  refine (HWY.out _).mono ?_
  rintro z wb ⟨rfl, hm, bb3⟩
  have q_3 := q_2.later bb3
  have g_3 := g_2.later bb3
  have c_3 := c_2.later bb3
  have b0_3 := below_trans b0_2 bb3
  clear q_2 g_2 c_2 b0_2 bb3
  have hl := HL.out wb _ hm
  clear hm
  cases isf
  ·have hf := hfn.out rfl
   have HF : Hid _ := HK2.out rfl
   clear HK2 HZ2 HG2 HR2 hfn hfv
   subst hf
   have s0 := c_3.cell 0 rfl
   have f0 := c_3.free 0
   have s1 := c_3.cell 1 rfl
   have f1 := c_3.free 1
   have s2 := c_3.cell 2 rfl
   have f2 := c_3.free 2
   have s3 := c_3.cell 3 rfl
   have f3 := c_3.free 3
   have s4 := c_3.cell 4 rfl
   have f4 := c_3.free 4
   have s5 := c_3.cell 5 rfl
   have f5 := c_3.free 5
   go_wp2
   have bu : But (w.heap.size + 1 + 1) wb ((((((wb.setCell ⟨w.heap.size + 1 + 1, 0, none⟩ (.bool false)).setCell ⟨w.heap.size + 1 + 1, 1, none⟩ (.slice none 0 0)).setCell ⟨w.heap.size + 1 + 1, 2, none⟩ (.int .i64 0)).setCell ⟨w.heap.size + 1 + 1, 3, none⟩ (.bool false)).setCell ⟨w.heap.size + 1 + 1, 4, none⟩ (.bool false)).setCell ⟨w.heap.size + 1 + 1, 5, none⟩ (.bool false)) := (((((but_set wb (w.heap.size + 1 + 1) 0 (.bool false)).trans (but_set _ (w.heap.size + 1 + 1) 1 (.slice none 0 0))).trans (but_set _ (w.heap.size + 1 + 1) 2 (.int .i64 0))).trans (but_set _ (w.heap.size + 1 + 1) 3 (.bool false))).trans (but_set _ (w.heap.size + 1 + 1) 4 (.bool false))).trans (but_set _ (w.heap.size + 1 + 1) 5 (.bool false))
   have cR : LocE ((((((wb.setCell ⟨w.heap.size + 1 + 1, 0, none⟩ (.bool false)).setCell ⟨w.heap.size + 1 + 1, 1, none⟩ (.slice none 0 0)).setCell ⟨w.heap.size + 1 + 1, 2, none⟩ (.int .i64 0)).setCell ⟨w.heap.size + 1 + 1, 3, none⟩ (.bool false)).setCell ⟨w.heap.size + 1 + 1, 4, none⟩ (.bool false)).setCell ⟨w.heap.size + 1 + 1, 5, none⟩ (.bool false)) (w.heap.size + 1 + 1) 86 [.bool false, .slice none 0 0, .int .i64 0, .bool false, .bool false, .bool false] := (((((c_3.set 0 (.bool false)).set 1 (.slice none 0 0)).set 2 (.int .i64 0)).set 3 (.bool false)).set 4 (.bool false)).set 5 (.bool false)
   have bR := bu.below b0_3 (show w.heap.size ≤ w.heap.size + 1 + 1 by omega)
   clear bu s0 s1 s2 s3 s4 s5 f0 f1 f2 f3 f4 f5 q_3 g_3 c_3
   generalize ((((((wb.setCell ⟨w.heap.size + 1 + 1, 0, none⟩ (.bool false)).setCell ⟨w.heap.size + 1 + 1, 1, none⟩ (.slice none 0 0)).setCell ⟨w.heap.size + 1 + 1, 2, none⟩ (.int .i64 0)).setCell ⟨w.heap.size + 1 + 1, 3, none⟩ (.bool false)).setCell ⟨w.heap.size + 1 + 1, 4, none⟩ (.bool false)).setCell ⟨w.heap.size + 1 + 1, 5, none⟩ (.bool false)) = WR at cR bR ⊢
   obtain ⟨s0, s1, s2, s3, s4, s5⟩ := cR.cs6
   rw [HF.out.1, HF.out.2]
   show bodyPost _ _ _ .ret _ _
   refine bodyPost_ret (v := .tuple #[.agg #[.bool false, .slice none 0 0, .int .i64 0, .bool false, .bool false, .bool false], .int .i64 6]) (by simp [results, Tryz.results86, go_sem, s0, s1, s2, s3, s4, s5]) rfl ?_
   exact ⟨_, rfl, own_nil _ _ _ _, bR⟩
  ·have hf := hfv.out rfl
   have HZ3 : Hid _ := HZ2.out rfl
   have HG3 : Hid _ := HG2.out rfl
   have HR3 : Hid _ := HR2.out rfl
   clear HK2 HZ2 HG2 HR2 hfn hfv
   subst hf
   have x1 := q_3.cell 1 rfl
   cases z
   ·have HF : Hid _ := HG3.out rfl
    have HRF : Hid _ := HR3.out rfl
    clear HZ3 HG3 HR3
    have x0 := q_3.cell 0 rfl
    have x2 := q_3.cell 2 rfl
    have x3 := q_3.cell 3 rfl
    obtain ⟨y0, y1, y2, y3, y4⟩ := g_3.cs5
    have hwb := b0_3.size
    go_wp2_with fail
    refine (HRF.out _ b0_3).mono ?_
    rintro z wc ⟨v, rfl, ou, bb4⟩
    have q_4 := q_3.later bb4
    have g_4 := g_3.later bb4
    have c_4 := c_3.later bb4
    have b0_4 := below_trans b0_3 bb4
    clear q_3 g_3 c_3 b0_3 bb4
    clear x0 x1 x2 x3 y0 y1 y2 y3 y4
    obtain ⟨uo, uk, hv⟩ := ou.rd.shape
    subst hv
    obtain ⟨lu, hlu⟩ : ∃ x, (Dg.dg 4294967296 PT.d).length = x := ⟨_, rfl⟩
    rw [hlu] at ou
    rw [hlu]
    clear hlu
    have s0 := c_4.cell 0 rfl
    have f0 := c_4.free 0
    have s1 := c_4.cell 1 rfl
    have f1 := c_4.free 1
    have s2 := c_4.cell 2 rfl
    have f2 := c_4.free 2
    have s3 := c_4.cell 3 rfl
    have f3 := c_4.free 3
    have s4 := c_4.cell 4 rfl
    have f4 := c_4.free 4
    have s5 := c_4.cell 5 rfl
    have f5 := c_4.free 5
    go_wp2
    have bu : But (w.heap.size + 1 + 1) wc ((((((wc.setCell ⟨w.heap.size + 1 + 1, 0, none⟩ (.bool PT.s)).setCell ⟨w.heap.size + 1 + 1, 1, none⟩ (.slice uo lu uk)).setCell ⟨w.heap.size + 1 + 1, 2, none⟩ (.int .i64 PT.p)).setCell ⟨w.heap.size + 1 + 1, 3, none⟩ (.bool PT.ex)).setCell ⟨w.heap.size + 1 + 1, 4, none⟩ (.bool PT.ov)).setCell ⟨w.heap.size + 1 + 1, 5, none⟩ (.bool PT.un)) := (((((but_set wc (w.heap.size + 1 + 1) 0 (.bool PT.s)).trans (but_set _ (w.heap.size + 1 + 1) 1 (.slice uo lu uk))).trans (but_set _ (w.heap.size + 1 + 1) 2 (.int .i64 PT.p))).trans (but_set _ (w.heap.size + 1 + 1) 3 (.bool PT.ex))).trans (but_set _ (w.heap.size + 1 + 1) 4 (.bool PT.ov))).trans (but_set _ (w.heap.size + 1 + 1) 5 (.bool PT.un))
    have cR : LocE ((((((wc.setCell ⟨w.heap.size + 1 + 1, 0, none⟩ (.bool PT.s)).setCell ⟨w.heap.size + 1 + 1, 1, none⟩ (.slice uo lu uk)).setCell ⟨w.heap.size + 1 + 1, 2, none⟩ (.int .i64 PT.p)).setCell ⟨w.heap.size + 1 + 1, 3, none⟩ (.bool PT.ex)).setCell ⟨w.heap.size + 1 + 1, 4, none⟩ (.bool PT.ov)).setCell ⟨w.heap.size + 1 + 1, 5, none⟩ (.bool PT.un)) (w.heap.size + 1 + 1) 86 [.bool PT.s, .slice uo lu uk, .int .i64 PT.p, .bool PT.ex, .bool PT.ov, .bool PT.un] := (((((c_4.set 0 (.bool PT.s)).set 1 (.slice uo lu uk)).set 2 (.int .i64 PT.p)).set 3 (.bool PT.ex)).set 4 (.bool PT.ov)).set 5 (.bool PT.un)
    have bR := bu.below b0_4 (show w.heap.size ≤ w.heap.size + 1 + 1 by omega)
    have oR := bu.own (ou.lower hwb) c_4 (by decide)
    clear bu s0 s1 s2 s3 s4 s5 f0 f1 f2 f3 f4 f5 q_4 g_4 c_4
    generalize ((((((wc.setCell ⟨w.heap.size + 1 + 1, 0, none⟩ (.bool PT.s)).setCell ⟨w.heap.size + 1 + 1, 1, none⟩ (.slice uo lu uk)).setCell ⟨w.heap.size + 1 + 1, 2, none⟩ (.int .i64 PT.p)).setCell ⟨w.heap.size + 1 + 1, 3, none⟩ (.bool PT.ex)).setCell ⟨w.heap.size + 1 + 1, 4, none⟩ (.bool PT.ov)).setCell ⟨w.heap.size + 1 + 1, 5, none⟩ (.bool PT.un)) = WR at cR bR oR ⊢
    obtain ⟨s0, s1, s2, s3, s4, s5⟩ := cR.cs6
    rw [HF.out.1, HF.out.2]
    show bodyPost _ _ _ .ret _ _
    refine bodyPost_ret (v := .tuple #[.agg #[.bool PT.s, .slice uo lu uk, .int .i64 PT.p, .bool PT.ex, .bool PT.ov, .bool PT.un], .int .i64 0]) (by simp [results, Tryz.results86, go_sem, s0, s1, s2, s3, s4, s5]) rfl ?_
    exact ⟨_, rfl, oR, bR⟩
   ·have HF : Hid _ := HZ3.out rfl
    clear HZ3 HG3 HR3
    have s0 := c_3.cell 0 rfl
    have f0 := c_3.free 0
    have s1 := c_3.cell 1 rfl
    have f1 := c_3.free 1
    have s2 := c_3.cell 2 rfl
    have f2 := c_3.free 2
    have s3 := c_3.cell 3 rfl
    have f3 := c_3.free 3
    have s4 := c_3.cell 4 rfl
    have f4 := c_3.free 4
    have s5 := c_3.cell 5 rfl
    have f5 := c_3.free 5
    go_wp2
    have bu : But (w.heap.size + 1 + 1) wb ((((((wb.setCell ⟨w.heap.size + 1 + 1, 0, none⟩ (.bool false)).setCell ⟨w.heap.size + 1 + 1, 1, none⟩ (.slice none 0 0)).setCell ⟨w.heap.size + 1 + 1, 2, none⟩ (.int .i64 0)).setCell ⟨w.heap.size + 1 + 1, 3, none⟩ (.bool true)).setCell ⟨w.heap.size + 1 + 1, 4, none⟩ (.bool false)).setCell ⟨w.heap.size + 1 + 1, 5, none⟩ (.bool false)) := (((((but_set wb (w.heap.size + 1 + 1) 0 (.bool false)).trans (but_set _ (w.heap.size + 1 + 1) 1 (.slice none 0 0))).trans (but_set _ (w.heap.size + 1 + 1) 2 (.int .i64 0))).trans (but_set _ (w.heap.size + 1 + 1) 3 (.bool true))).trans (but_set _ (w.heap.size + 1 + 1) 4 (.bool false))).trans (but_set _ (w.heap.size + 1 + 1) 5 (.bool false))
    have cR : LocE ((((((wb.setCell ⟨w.heap.size + 1 + 1, 0, none⟩ (.bool false)).setCell ⟨w.heap.size + 1 + 1, 1, none⟩ (.slice none 0 0)).setCell ⟨w.heap.size + 1 + 1, 2, none⟩ (.int .i64 0)).setCell ⟨w.heap.size + 1 + 1, 3, none⟩ (.bool true)).setCell ⟨w.heap.size + 1 + 1, 4, none⟩ (.bool false)).setCell ⟨w.heap.size + 1 + 1, 5, none⟩ (.bool false)) (w.heap.size + 1 + 1) 86 [.bool false, .slice none 0 0, .int .i64 0, .bool true, .bool false, .bool false] := (((((c_3.set 0 (.bool false)).set 1 (.slice none 0 0)).set 2 (.int .i64 0)).set 3 (.bool true)).set 4 (.bool false)).set 5 (.bool false)
    have bR := bu.below b0_3 (show w.heap.size ≤ w.heap.size + 1 + 1 by omega)
    clear bu s0 s1 s2 s3 s4 s5 f0 f1 f2 f3 f4 f5 q_3 g_3 c_3
    generalize ((((((wb.setCell ⟨w.heap.size + 1 + 1, 0, none⟩ (.bool false)).setCell ⟨w.heap.size + 1 + 1, 1, none⟩ (.slice none 0 0)).setCell ⟨w.heap.size + 1 + 1, 2, none⟩ (.int .i64 0)).setCell ⟨w.heap.size + 1 + 1, 3, none⟩ (.bool true)).setCell ⟨w.heap.size + 1 + 1, 4, none⟩ (.bool false)).setCell ⟨w.heap.size + 1 + 1, 5, none⟩ (.bool false)) = WR at cR bR ⊢
    obtain ⟨s0, s1, s2, s3, s4, s5⟩ := cR.cs6
    rw [HF.out.1, HF.out.2]
    show bodyPost _ _ _ .ret _ _
    refine bodyPost_ret (v := .tuple #[.agg #[.bool false, .slice none 0 0, .int .i64 0, .bool true, .bool false, .bool false], .int .i64 0]) (by simp [results, Tryz.results86, go_sem, s0, s1, s2, s3, s4, s5]) rfl ?_
    exact ⟨_, rfl, own_nil _ _ _ _, bR⟩
 ·have hcf : (c == 0) = false := by simp; exact hc
  have HF : Hid _ := HB.out hc
  clear hc HB HK HZ HG HR
  have s0 := c_2.cell 0 rfl
  have f0 := c_2.free 0
  have s1 := c_2.cell 1 rfl
  have f1 := c_2.free 1
  have s2 := c_2.cell 2 rfl
  have f2 := c_2.free 2
  have s3 := c_2.cell 3 rfl
  have f3 := c_2.free 3
  have s4 := c_2.cell 4 rfl
  have f4 := c_2.free 4
  have s5 := c_2.cell 5 rfl
  have f5 := c_2.free 5
  go_wp2
  have bu : But (w.heap.size + 1 + 1) wa ((((((wa.setCell ⟨w.heap.size + 1 + 1, 0, none⟩ (.bool false)).setCell ⟨w.heap.size + 1 + 1, 1, none⟩ (.slice none 0 0)).setCell ⟨w.heap.size + 1 + 1, 2, none⟩ (.int .i64 0)).setCell ⟨w.heap.size + 1 + 1, 3, none⟩ (.bool false)).setCell ⟨w.heap.size + 1 + 1, 4, none⟩ (.bool false)).setCell ⟨w.heap.size + 1 + 1, 5, none⟩ (.bool false)) := (((((but_set wa (w.heap.size + 1 + 1) 0 (.bool false)).trans (but_set _ (w.heap.size + 1 + 1) 1 (.slice none 0 0))).trans (but_set _ (w.heap.size + 1 + 1) 2 (.int .i64 0))).trans (but_set _ (w.heap.size + 1 + 1) 3 (.bool false))).trans (but_set _ (w.heap.size + 1 + 1) 4 (.bool false))).trans (but_set _ (w.heap.size + 1 + 1) 5 (.bool false))
  have cR : LocE ((((((wa.setCell ⟨w.heap.size + 1 + 1, 0, none⟩ (.bool false)).setCell ⟨w.heap.size + 1 + 1, 1, none⟩ (.slice none 0 0)).setCell ⟨w.heap.size + 1 + 1, 2, none⟩ (.int .i64 0)).setCell ⟨w.heap.size + 1 + 1, 3, none⟩ (.bool false)).setCell ⟨w.heap.size + 1 + 1, 4, none⟩ (.bool false)).setCell ⟨w.heap.size + 1 + 1, 5, none⟩ (.bool false)) (w.heap.size + 1 + 1) 86 [.bool false, .slice none 0 0, .int .i64 0, .bool false, .bool false, .bool false] := (((((c_2.set 0 (.bool false)).set 1 (.slice none 0 0)).set 2 (.int .i64 0)).set 3 (.bool false)).set 4 (.bool false)).set 5 (.bool false)
  have bR := bu.below b0_2 (show w.heap.size ≤ w.heap.size + 1 + 1 by omega)
  clear bu s0 s1 s2 s3 s4 s5 f0 f1 f2 f3 f4 f5 q_2 g_2 c_2
  generalize ((((((wa.setCell ⟨w.heap.size + 1 + 1, 0, none⟩ (.bool false)).setCell ⟨w.heap.size + 1 + 1, 1, none⟩ (.slice none 0 0)).setCell ⟨w.heap.size + 1 + 1, 2, none⟩ (.int .i64 0)).setCell ⟨w.heap.size + 1 + 1, 3, none⟩ (.bool false)).setCell ⟨w.heap.size + 1 + 1, 4, none⟩ (.bool false)).setCell ⟨w.heap.size + 1 + 1, 5, none⟩ (.bool false)) = WR at cR bR ⊢
  obtain ⟨s0, s1, s2, s3, s4, s5⟩ := cR.cs6
  rw [HF.out.1, HF.out.2]
  show bodyPost _ _ _ .ret _ _
  refine bodyPost_ret (v := .tuple #[.agg #[.bool false, .slice none 0 0, .int .i64 0, .bool false, .bool false, .bool false], .int .i64 c]) (by simp [results, Tryz.results86, go_sem, s0, s1, s2, s3, s4, s5]) rfl ?_
  exact ⟨_, rfl, own_nil _ _ _ _, bR⟩
end Go.Proofs.YtnhackdjplppjaaGreatDoor
namespace Go.Proofs.YtnhackdjplppjaaGreatDoor
open Go.RowKit
def wayF (way : Int) : FuncId := if way = 1 then 183 else if way = 2 then 184 else if way = 3 then 185 else if way = 4 then 186 else 187
def isWay (way : Int) : Bool := decide (1 ≤ way ∧ way ≤ 5)
def wayV (way : Int) : Value := if isWay way = true then .func (.func (wayF way)) #[] #[] else .nilFunc
theorem way_cases {way : Int} (h : isWay way = true) : way = 1 ∨ way = 2 ∨ way = 3 ∨ way = 4 ∨ way = 5 := by
 have := of_decide_eq_true h
 omega
theorem same_int (x y : Int) : Instr.sameNow (.int .i64) (.int .i64 x) (.int .i64 y) = some (decide (x = y)) := by
 simp [Instr.sameNow]
 by_cases h : x = y <;> simp [h]
theorem way_lookup (way : Int) (w1 : World) (r : Nat) (hm : w1.heap[r]? = some (.map wayE 5)) : (Instr.lookup 197 (.map (some r)) (.int .i64 way) false).run Tryz.prog w1 = .ok (wayV way) w1 := by
 by_cases h : isWay way = true
 ·rcases way_cases h with rfl | rfl | rfl | rfl | rfl
  ·exact find_run Tryz.underlying197 Tryz.underlying3 hm 1 rfl
  ·exact find_run Tryz.underlying197 Tryz.underlying3 hm 2 rfl
  ·exact find_run Tryz.underlying197 Tryz.underlying3 hm 3 rfl
  ·exact find_run Tryz.underlying197 Tryz.underlying3 hm 4 rfl
  ·exact find_run Tryz.underlying197 Tryz.underlying3 hm 5 rfl
 ·have hn : ¬(1 ≤ way ∧ way ≤ 5) := fun c => h (decide_eq_true c)
  unfold wayV
  rw [if_neg h]
  refine miss_run Tryz.underlying197 Tryz.underlying3 hm way ?_ ?_
  ·kernel_rfl
  ·simp [wayE, Instr.findNow, same_int, show ¬way = 1 by omega, show ¬way = 2 by omega, show ¬way = 3 by omega, show ¬way = 4 by omega, show ¬way = 5 by omega]
theorem wayF_calls {way : Int} (h : isWay way = true) (half : Int) (odd neg : Bool) (w1 : World) : Calls Tryz.prog (wayF way) #[.agg #[.int .i64 half, .bool odd, .bool neg]] w1 fun z w' => z = .returned (.bool (awayB way half odd neg)) ∧ Below w1.heap.size w1 w' := by
 rcases way_cases h with rfl | rfl | rfl | rfl | rfl
 ·exact way1_any half odd neg w1
 ·exact way2_any half odd neg w1
 ·exact way3_any half odd neg w1
 ·exact way4_any half odd neg w1
 ·exact way5_any half odd neg w1
theorem enter_of {P : Program} {f : FuncId} {fn : Func} {c : Code} (hf : P.funcs[f]? = some fn) (hname : (fn.name == "runtime.NumGoroutine") = false) (hb : fn.body = some c) (args : Array Value) (w : World) : Sem.run P (callFunc f args) w = .ok (.enter f args) w := by
 have hn : ¬fn.name = "runtime.NumGoroutine" := by simpa using hname
 simp [callFunc, hf, hn, hb]
theorem wayF_enter {way : Int} (h : isWay way = true) (args : Array Value) (W : World) : Sem.run Tryz.prog (callFunc (wayF way) args) W = .ok (.enter (wayF way) args) W := by
 rcases way_cases h with rfl | rfl | rfl | rfl | rfl
 ·exact enter_of Tryz.func183 (by kernel_rfl) rfl args W
 ·exact enter_of Tryz.func184 (by kernel_rfl) rfl args W
 ·exact enter_of Tryz.func185 (by kernel_rfl) rfl args W
 ·exact enter_of Tryz.func186 (by kernel_rfl) rfl args W
 ·exact enter_of Tryz.func187 (by kernel_rfl) rfl args W
def roundC (xs ys : List Nat) (E R D L G way : Int) : Int :=
 if wrongG (ratioC xs ys E) (gridC R D L G) = 0 then (if isWay way = true then 0 else 6) else wrongG (ratioC xs ys E) (gridC R D L G)
def roundP (xs ys : List Nat) (E R D L G : Int) (gr qs : Bool) (way : Int) : PlaceT :=
 if roundC xs ys E R D L G way = 0 then (if xs.length = 0 then ⟨false, 0, 0, true, false, false⟩ else roundT R D L G gr qs (Dg.vl 4294967296 xs) (Dg.vl 4294967296 ys) E way) else noPlace
theorem wrongG_zero {c d : Int} (h : wrongG c d = 0) : c = 0 ∧ d = 0 := by
 unfold wrongG at h
 split at h
 ·exact ⟨by assumption, h⟩
 ·exact absurd h (by assumption)
theorem ratioC_zero {xs ys : List Nat} {E : Int} (h : ratioC xs ys E = 0) : chk xs = 0 ∧ chk ys = 0 ∧ 0 < ys.length ∧ -20000 ≤ E ∧ E ≤ 20000 := by
 unfold ratioC at h
 by_cases h1 : chk xs = 0
 ·rw [if_pos h1] at h
  by_cases h2 : chk ys = 0
  ·rw [if_pos h2] at h
   by_cases h3 : ys.length = 0 ∨ farB 20000 E = true
   ·rw [if_pos h3] at h
    cases h
   ·have h4 : ¬farB 20000 E = true := fun c => h3 (Or.inr c)
    unfold farB at h4
    simp at h4
    refine ⟨h1, h2, ?_, by omega, by omega⟩
    have : ¬ys.length = 0 := fun c => h3 (Or.inl c)
    omega
  ·rw [if_neg h2] at h
   exact absurd h h2
 ·rw [if_neg h1] at h
  exact absurd h h1
theorem gRound_any (qs : Bool) (ao : Option Addr) (ca : Nat) (xs : List Nat) (bo : Option Addr) (cb : Nat) (ys : List Nat) (E R D L G : Int) (gr : Bool) (way : Int) (w : World) (ha : Rd w .u32 (.slice ao xs.length ca) xs) (hb : Rd w .u32 (.slice bo ys.length cb) ys) (sa : Dg.Small 4294967296 xs) (sb : Dg.Small 4294967296 ys) :
  Calls Tryz.prog 86 #[.agg #[.bool qs, .slice ao xs.length ca, .slice bo ys.length cb, .int .i64 E], .agg #[.int .i64 R, .int .i64 D, .int .i64 L, .int .i64 G, .bool gr], .int .i64 way] w (PlaceAns w (roundC xs ys E R D L G way) (roundP xs ys E R D L G gr qs way)) := by
 refine gRoundW_any R D L G gr qs ao xs.length ca bo ys.length cb E way (wrongG (ratioC xs ys E) (gridC R D L G)) (wayV way) (wayF way) (isWay way) ((xs.length : Int) == 0) (roundT R D L G gr qs (Dg.vl 4294967296 xs) (Dg.vl 4294967296 ys) E way) _ _ w ?_ ?_ rfl ?_ ?_ ?_ ?_ ?_ ?_ ?_
 ·intro h
  exact if_pos h
 ·intro h
  exact if_neg (by rw [h]; decide)
 ·intro h
  have e : roundC xs ys E R D L G way = wrongG (ratioC xs ys E) (gridC R D L G) := if_neg h
  exact ⟨e, by unfold roundP; rw [e, if_neg h]⟩
 ·intro h hw
  have e : roundC xs ys E R D L G way = 6 := (if_pos h).trans (if_neg (by rw [hw]; decide))
  exact ⟨e, by unfold roundP; rw [e]; rfl⟩
 ·intro h hw hz
  have e : roundC xs ys E R D L G way = 0 := (if_pos h).trans (if_pos hw)
  have hx : xs.length = 0 := by simpa using hz
  exact ⟨e, by unfold roundP; rw [e, if_pos rfl, if_pos hx]⟩
 ·intro h hw hz
  have e : roundC xs ys E R D L G way = 0 := (if_pos h).trans (if_pos hw)
  have hx : ¬xs.length = 0 := by simpa using hz
  exact ⟨e, by unfold roundP; rw [e, if_pos rfl, if_neg hx]⟩
 ·intro w1 b
  exact gwrong_any qs ao ca xs bo cb ys E R D L G gr w1 (ha.later b) (hb.later b)
 ·intro w1 r hm
  exact way_lookup way w1 r hm
 ·intro h hw hz w1 b
  obtain ⟨h1, h2⟩ := wrongG_zero h
  obtain ⟨c1, c2, hl, e1, e2⟩ := ratioC_zero h1
  obtain ⟨nx, lx⟩ := chk_zero c1
  obtain ⟨ny, ly⟩ := chk_zero c2
  have ex : Dg.dg 4294967296 (Dg.vl 4294967296 xs) = xs := Dg.dg_vl _ (by omega) _ sa nx
  have ey : Dg.dg 4294967296 (Dg.vl 4294967296 ys) = ys := Dg.dg_vl _ (by omega) _ sb ny
  have hM : 0 < Dg.vl 4294967296 ys := by
   refine Nat.pos_of_ne_zero fun c => ?_
   rw [c] at ey
   rw [← ey] at hl
   exact absurd hl (by decide)
  have := ground_any R D L G gr qs ao ca bo cb (Dg.vl 4294967296 xs) (Dg.vl 4294967296 ys) E way (wayF way) w1 h2 (by rw [ex]; exact ha.later b) (by rw [ey]; exact hb.later b) (by rw [ex]; omega) (by rw [ey]; omega) hM e1 e2 (wayF_enter hw) (wayF_calls hw)
  rwa [ex, ey] at this
end Go.Proofs.YtnhackdjplppjaaGreatDoor
namespace Go.Proofs.YtnhackdjplppjaaGreatDoor
open Go.RowKit
theorem rd_one {w : World} {q : Nat} (h : w.cell? ⟨q, 0, none⟩ = some (.int .u32 1)) : Rd w .u32 (.slice (some ⟨q, 0, none⟩) 1 1) [1] :=
 ⟨_, 1, rfl, Nat.le_refl _, by unfold maxLen; omega, fun _ => ⟨q, 0, rfl, fun i hi => by
  obtain rfl : i = 0 := by simpa using hi
  exact h⟩⟩
theorem bareN_nil (a : Trip) : (bare a).n = 0 ↔ a.n = 0 := by
 by_cases h : a.n = 0
 ·unfold bare
  rw [if_pos h]
  exact ⟨fun _ => h, fun _ => rfl⟩
 ·unfold bare
  rw [if_neg h]
  obtain ⟨m, hm⟩ := tz_spec h
  have := div_tz hm
  exact ⟨fun h2 => by simp only at h2; omega, fun h2 => absurd h2 h⟩
theorem leadN_lt64 {k : Nat} (hk : 1 ≤ k ∧ k ≤ 8) : leadN k < 18446744073709551616 := by
 rcases eight hk with rfl | rfl | rfl | rfl | rfl | rfl | rfl | rfl <;> decide
def heE (R L : Int) (ld : Nat) (t : PlaceT) : Nat := (t.p - L).toNat + if R = 2 ∧ t.d &&& ld ≠ 0 then 1 else 0
set_option maxHeartbeats 1600000 in
theorem held_pay (R D L G fam : Int) (gr : Bool) (sz ex : Nat) (F ld : Nat) (s : Bool) (ao : Option Addr) (ca : Nat) (xs : List Nat) (E : Int) (w : World) (WB : Bool → Nat → Nat → ByteArray)
  (hr : Rd w .u32 (.slice ao xs.length ca) xs) (sa : Dg.Small 4294967296 xs) (hd : dchk xs E = 0) (h0 : Dg.vl 4294967296 xs ≠ 0) (hg : gridC R D L G = 0) (h1 : 1 ≤ D) (hLG : L ≤ G) (hD : widthN R * D.toNat ≤ 64) (hGL : G - L < 60000) (hRc : R = 2 ∨ R = 16) (hld : ld < 18446744073709551616)
  (hh : heldB R D L G gr (Dg.vl 4294967296 xs) E = true)
  (HL : ∀ w1, Calls Tryz.prog 198 #[.agg #[.int .i64 R, .int .i64 D, .int .i64 L, .int .i64 G, .bool gr, .int .i64 (sz : Int), .int .i64 (ex : Int), .int .i64 fam, .func (.func F) #[] #[]]] w1 fun z w' => z = .returned (.int .u64 (ld : Int)) ∧ Below w1.heap.size w1 w')
  (HW : ∀ ng e f w1, e < 65536 → f < 18446744073709551616 → Calls Tryz.prog 158 #[.agg #[.int .i64 R, .int .i64 D, .int .i64 L, .int .i64 G, .bool gr, .int .i64 (sz : Int), .int .i64 (ex : Int), .int .i64 fam, .func (.func F) #[] #[]], .agg #[.bool ng, .int .i64 ((e : Nat) : Int), .int .u64 ((f : Nat) : Int)]] w1 fun z w' => z = .returned (.string (WB ng e f)) ∧ Below w1.heap.size w1 w') :
  Calls Tryz.prog 155 #[.agg #[.int .i64 R, .int .i64 D, .int .i64 L, .int .i64 G, .bool gr, .int .i64 (sz : Int), .int .i64 (ex : Int), .int .i64 fam, .func (.func F) #[] #[]], .agg #[.bool s, .slice ao xs.length ca, .int .i64 E]] w fun z w' => z = .returned (.tuple #[.string (WB (roundT R D L G gr s (Dg.vl 4294967296 xs) 1 E 3).s (heE R L ld (roundT R D L G gr s (Dg.vl 4294967296 xs) 1 E 3)) (roundT R D L G gr s (Dg.vl 4294967296 xs) 1 E 3).d), .int .i64 0]) ∧ Below w.heap.size w w' := by
 obtain ⟨c1, e1, e2⟩ := dchk_zero hd
 have hlen : xs.length ≠ 0 := fun h => h0 (by rw [List.eq_nil_of_length_eq_zero h]; rfl)
 have hC : roundC xs [1] E R D L G 3 = 0 := by
  have hq : ratioC xs [1] E = 0 := by
   unfold ratioC
   rw [if_pos c1, if_pos (show chk [1] = 0 by decide), if_neg]
   rintro (h | h)
   ·simp at h
   ·unfold farB at h
    simp at h
    omega
  have hw : wrongG (ratioC xs [1] E) (gridC R D L G) = 0 := by unfold wrongG; rw [if_pos hq]; exact hg
  unfold roundC
  rw [if_pos hw, if_pos (by decide)]
 have hP : roundP xs [1] E R D L G gr s 3 = roundT R D L G gr s (Dg.vl 4294967296 xs) 1 E 3 := by
  unfold roundP
  rw [if_pos hC, if_neg hlen]
  rfl
 obtain ⟨hov, hun, hbare⟩ := held_round (s := s) (way := 3) h1 hLG h0 hh
 have hsp := round_spot h1 hLG h0 (by omega : (1 : Nat) ≠ 0) hov hun
 have hR := fun q w1 (b : Below w.heap.size w w1) (hc : w1.cell? ⟨q, 0, none⟩ = some (.int .u32 1)) => gRound_any s ao ca xs (some ⟨q, 0, none⟩) 1 [1] E R D L G gr 3 w1 (hr.later b) (rd_one hc) sa (fun i => by
  match i with
  | 0 => decide
  | i + 1 => simp)
 rw [hC, hP] at hR
 obtain ⟨t, ht⟩ : ∃ t, roundT R D L G gr s (Dg.vl 4294967296 xs) 1 E 3 = t := ⟨_, rfl⟩
 rw [ht] at hsp hbare hR ⊢
 have hd0 : t.d ≠ 0 := fun h => by
  have hz := congrArg Trip.n hbare
  have a1 := (bareN_nil ⟨t.s, t.d, (widthN R : Int) * t.p⟩).2 h
  rw [hz] at a1
  exact h0 ((bareN_nil ⟨s, Dg.vl 4294967296 xs, E⟩).1 a1)
 obtain ⟨-, hp1, hp2, hdl, -⟩ := hsp.resolve_left (fun h => hd0 h.1)
 have hd64 : t.d < 18446744073709551616 := by
  have : (2 : Nat) ^ (widthN R * D.toNat) ≤ 2 ^ 64 := Nat.pow_le_pow_right (by omega) hD
  omega
 clear ht hov hun hbare hsp hC hP hh
 obtain ⟨e, he⟩ : ∃ e : Nat, t.p - L = (e : Int) := ⟨(t.p - L).toNat, by omega⟩
 have hel : e < 60000 := by omega
 have hew : IntKind.i64.wrap (t.p - L) = (e : Int) := by rw [he]; exact IntWalk.i64_in _ ⟨by omega, by omega⟩
 have hzl : (Dg.dg 4294967296 t.d).length ≤ 2 := Dg.dg_len_le 4294967296 t.d 2 (by omega) hd64
 have hzp : 0 < (Dg.dg 4294967296 t.d).length := List.length_pos_iff.2 (by rw [Ne, Dg.dg_nil_iff 4294967296 t.d (by omega)]; exact hd0)
 have HWd : ∀ po pc w1, Rd w1 .u32 (.slice po (Dg.dg 4294967296 t.d).length pc) (Dg.dg 4294967296 t.d) → ∀ w2, Below w1.heap.size w1 w2 → Calls Tryz.prog 226 #[.slice po (Dg.dg 4294967296 t.d).length pc] w2 fun z w' => z = .returned (.int .u64 (t.d : Int)) ∧ w2 = w' := fun po pc w1 h w2 b => by
  have := word_any _ _ w2 (h.later b) (Dg.small_dg 4294967296 t.d (by omega)) hzl
  rw [Dg.vl_dg 4294967296 t.d (by omega)] at this
  exact this.mono (fun _ _ h => ⟨h.1, h.2.symm⟩)
 have hen : (t.p - L).toNat = e := by omega
 unfold heE
 rw [hen]
 have HR2 : ∀ q w1, Below w.heap.size w w1 → w1.cell? ⟨q, 0, none⟩ = some (.int .u32 1) → Calls Tryz.prog 86 #[.agg #[.bool s, .slice ao xs.length ca, .slice (some ⟨q, 0, none⟩) 1 1, .int .i64 E], .agg #[.int .i64 R, .int .i64 D, .int .i64 L, .int .i64 G, .bool gr], .int .i64 3] w1 fun z w' => ∃ po pc, z = .returned (.tuple #[.agg #[.bool t.s, .slice po (Dg.dg 4294967296 t.d).length pc, .int .i64 t.p, .bool t.ex, .bool t.ov, .bool t.un], .int .i64 0]) ∧ Rd w' .u32 (.slice po (Dg.dg 4294967296 t.d).length pc) (Dg.dg 4294967296 t.d) ∧ Below w1.heap.size w1 w' := fun q w1 b hc => (hR q w1 b hc).mono (fun z w' h => by
  obtain ⟨v, rfl, own, b2⟩ := h
  obtain ⟨po, pc, hv⟩ := own.rd.shape
  subst hv
  exact ⟨po, pc, rfl, own.rd, b2⟩)
 rcases hRc with rfl | rfl
 ·by_cases hb : t.d &&& ld = 0
  ·rw [if_neg (fun h => h.2 hb), Nat.add_zero]
   exact heldW_num _ D L G fam gr sz ex F s ao xs.length ca E w (Dg.dg 4294967296 t.d) _ t.s t.ex t.ov t.un t.p 0 HR2 t.s e t.d (fun po pc w1 _ h => fieldsOf_low D L G fam gr sz ex F t.s t.ex t.ov t.un po _ pc t.p e t.d w1 hew (by omega) (HWd po pc w1 h) ld 0 (by rw [u64_and_nat t.d ld hd64 hld, hb]; rfl) rfl HL) _ (fun w1 => HW t.s e t.d w1 (by omega) hd64) rfl hzp
  ·rw [if_pos ⟨rfl, hb⟩]
   have hF : ∀ po pc w1, Below w.heap.size w w1 → Rd w1 .u32 (.slice po (Dg.dg 4294967296 t.d).length pc) (Dg.dg 4294967296 t.d) → _ := fun po pc w1 _ h => fieldsOf_set D L G fam gr sz ex F t.s t.ex t.ov t.un po _ pc t.p e t.d w1 hew (by omega) (HWd po pc w1 h) ld ((t.d &&& ld : Nat) : Int) (u64_and_nat t.d ld hd64 hld) (by omega) HL
   exact heldW_num _ D L G fam gr sz ex F s ao xs.length ca E w (Dg.dg 4294967296 t.d) _ t.s t.ex t.ov t.un t.p 0 HR2 t.s (e + 1) t.d hF _ (fun w1 => HW t.s (e + 1) t.d w1 (by omega) hd64) rfl hzp
 ·rw [if_neg (fun h => by have := h.1; omega), Nat.add_zero]
  exact heldW_num _ D L G fam gr sz ex F s ao xs.length ca E w (Dg.dg 4294967296 t.d) _ t.s t.ex t.ov t.un t.p 0 HR2 t.s e t.d (fun po pc w1 _ h => fieldsOf_hex D L G fam gr sz ex F t.s t.ex t.ov t.un po _ pc t.p e t.d w1 hew (by omega) (HWd po pc w1 h)) _ (fun w1 => HW t.s e t.d w1 (by omega) hd64) rfl hzp
def gsI : Nat → Int
 | 1 => 104 | 2 => 971 | 3 => 16320 | 4 => 57 | 5 => 49 | 6 => 103 | 7 => 71 | 8 => 970 | _ => 0
def plT (k : Nat) (s : Bool) (n : Nat) (E : Int) : PlaceT := roundT (rdN k : Int) (dgN k : Int) (lsI k) (gsI k) (decide (k ≤ 3)) s n 1 E 3
theorem encodeHeld_any (k : Nat) (hk : 1 ≤ k ∧ k ≤ 8) (s : Bool) (ao : Option Addr) (ca : Nat) (xs : List Nat) (E : Int) (w : World) (hr : Rd w .u32 (.slice ao xs.length ca) xs) (sa : Dg.Small 4294967296 xs) (hd : dchk xs E = 0) (h0 : Dg.vl 4294967296 xs ≠ 0)
  (hh : heldB (rdN k : Int) (dgN k : Int) (lsI k) (gsI k) (decide (k ≤ 3)) (Dg.vl 4294967296 xs) E = true) :
  Calls Tryz.prog 155 #[.agg (layV k).toArray, .agg #[.bool s, .slice ao xs.length ca, .int .i64 E]] w fun z w' => z = .returned (.tuple #[.string (strOf (wrtB k (plT k s (Dg.vl 4294967296 xs) E).s (heE (rdN k : Int) (lsI k) (leadN k) (plT k s (Dg.vl 4294967296 xs) E)) (plT k s (Dg.vl 4294967296 xs) E).d)), .int .i64 0]) ∧ Below w.heap.size w w' := by
 have HL := fun w1 => llead_any k hk w1
 have HW := fun ng e f w1 (he : e < 65536) (hf : f < 18446744073709551616) => cwrite_any k hk ng e f w1 he hf
 have hl := leadN_lt64 hk
 unfold plT
 rcases eight hk with rfl | rfl | rfl | rfl | rfl | rfl | rfl | rfl
 all_goals exact held_pay _ _ _ _ _ _ _ _ _ _ s ao ca xs E w (fun ng e f => strOf (wrtB _ ng e f)) hr sa hd h0 (by decide) (by decide) (by decide) (by decide) (by decide) (by decide) hl hh HL HW
end Go.Proofs.YtnhackdjplppjaaGreatDoor

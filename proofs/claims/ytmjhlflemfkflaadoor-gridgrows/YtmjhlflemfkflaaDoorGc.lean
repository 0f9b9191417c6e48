/-
  Texts laid together: Gb4, Gb5.
-/
import Derived.Test.YtmjhlflemfkflaaDoorGb
import Derived.Deep.Cut
import Derived.Deep.DeepCutAuto
import Derived.Test.YtmjhlflemfkflaaDoorGr8
/-
  Grids: the walk of GridBetween.
-/
namespace Go.Proofs.YtmjhlflemfkflaaDoor
open Go.RowKit

/-- Where the loop over the ways stands. -/
def BetL (w : World) (s9 _s10 _s11 : Value) (wr : World) : Prop := ∃ i : Int, s9 = .int .i64 i ∧ 1 ≤ i ∧ i ≤ 4 ∧ Below w.heap.size w wr

def sameT (a b : Trip) : Bool := decide (a.s = b.s ∧ a.e = b.e ∧ Dg.dg 4294967296 a.n = Dg.dg 4294967296 b.n)

theorem sameT_self (a : Trip) : sameT a a = true := decide_eq_true ⟨rfl, rfl, rfl⟩

theorem sameT_not {a b : Trip} (h : ¬a = b) : sameT a b = false := decide_eq_false fun c => h (by
  obtain ⟨a1, a2, a3⟩ := a
  obtain ⟨b1, b2, b3⟩ := b
  obtain ⟨c1, c2, c3⟩ := c
  simp only at c1 c2 c3
  rw [c1, c2, Dg.dg_inj 4294967296 _ _ (by omega) c3])

set_option maxRecDepth 100000 in
set_option maxHeartbeats 6400000 in
theorem gridBetweenW (qs : Bool) (no : Option Addr) (nl nc : Nat) (mo : Option Addr) (ml mc : Nat) (E R D L G : Int) (gr : Bool) (oka okb : Bool) (ls : Bool) (ln : Nat) (le : Int) (hs : Bool) (hn : Nat) (he : Int) (mt : Int → Trip) (ts : Bool) (td : Nat) (tp : Int) (tv tu : Bool) (w : World)
    (HBG : ∀ w1, Calls Tryd.prog 21 #[] w1 fun z w' => z = .returned (.bool true) ∧ Below w1.heap.size w1 w')
    (HRA : ∀ w1, Below w.heap.size w w1 → Calls Tryd.prog 30 #[.agg #[.bool qs, .slice no nl nc, .slice mo ml mc, .int .i64 E], .agg #[.int .i64 R, .int .i64 D, .int .i64 L, .int .i64 G, .bool gr], .int .i64 5] w1 (RndRes w1 ⟨ls, ln, le⟩ oka))
    (HRB : ∀ w1, Below w.heap.size w w1 → Calls Tryd.prog 30 #[.agg #[.bool qs, .slice no nl nc, .slice mo ml mc, .int .i64 E], .agg #[.int .i64 R, .int .i64 D, .int .i64 L, .int .i64 G, .bool gr], .int .i64 4] w1 (RndRes w1 ⟨hs, hn, he⟩ okb))
    (HRI : oka = true → okb = true → ∀ i w1, 1 ≤ i → i ≤ 3 → Below w.heap.size w w1 → Calls Tryd.prog 30 #[.agg #[.bool qs, .slice no nl nc, .slice mo ml mc, .int .i64 E], .agg #[.int .i64 R, .int .i64 D, .int .i64 L, .int .i64 G, .bool gr], .int .i64 i] w1 (RndRes w1 (mt i) true))
    (HTW : oka = true → okb = true → ∀ i, 1 ≤ i → i ≤ 3 → ¬mt i = ⟨ls, ln, le⟩ → mt i = ⟨hs, hn, he⟩)
    (HSD : ∀ (a b : Trip) so sc tq tc w1, Rd w1 .u32 (.slice so (Dg.dg 4294967296 a.n).length sc) (Dg.dg 4294967296 a.n) → Rd w1 .u32 (.slice tq (Dg.dg 4294967296 b.n).length tc) (Dg.dg 4294967296 b.n) → Calls Tryd.prog 31 #[.agg #[.bool a.s, .slice so (Dg.dg 4294967296 a.n).length sc, .int .i64 a.e], .agg #[.bool b.s, .slice tq (Dg.dg 4294967296 b.n).length tc, .int .i64 b.e]] w1 fun z w' => z = .returned (.bool (sameT a b)) ∧ Below w1.heap.size w1 w')
    (HRO : oka = true → okb = true → (⟨ls, ln, le⟩ : Trip) = ⟨hs, hn, he⟩ → ∀ w1, Below w.heap.size w w1 → Calls Tryd.prog 32 #[.agg #[.bool qs, .slice no nl nc, .slice mo ml mc, .int .i64 E], .agg #[.int .i64 R, .int .i64 D, .int .i64 L, .int .i64 G, .bool gr], .int .i64 1] w1 (PlaceAns w1 0 ⟨ts, td, tp, true, tv, tu⟩))
    (HST : oka = true → okb = true → ¬(⟨ls, ln, le⟩ : Trip) = ⟨hs, hn, he⟩ → ∀ so sc w1, Below w.heap.size w w1 → Rd w1 .u32 (.slice so (Dg.dg 4294967296 ln).length sc) (Dg.dg 4294967296 ln) → Calls Tryd.prog 27 #[.agg #[.bool ls, .slice so (Dg.dg 4294967296 ln).length sc, .int .i64 le], .agg #[.int .i64 R, .int .i64 D, .int .i64 L, .int .i64 G, .bool gr], .bool true] w1 (DAns w1 (⟨hs, hn, he⟩, 0))) :
    Calls Tryd.prog 7 #[.agg #[.bool qs, .slice no nl nc, .slice mo ml mc, .int .i64 E], .agg #[.int .i64 R, .int .i64 D, .int .i64 L, .int .i64 G, .bool gr]] w fun z w' => z = .returned (.bool true) ∧ Below w.heap.size w w' := by
  replace HBG : Hid _ := HBG
  replace HRA : Hid _ := HRA
  replace HRB : Hid _ := HRB
  replace HRI : Hid _ := HRI
  replace HTW : Hid _ := HTW
  replace HSD : Hid _ := HSD
  replace HRO : Hid _ := HRO
  replace HST : Hid _ := HST
  have b1 := below_trans (below_alloc w (.cells #[.bool qs, .slice no nl nc, .slice mo ml mc, .int .i64 E] 62)) (below_alloc _ (.cells #[.int .i64 R, .int .i64 D, .int .i64 L, .int .i64 G, .bool gr] 39))
  have q1 := (locE_new w [.bool qs, .slice no nl nc, .slice mo ml mc, .int .i64 E] 62).later (below_alloc _ (.cells #[.int .i64 R, .int .i64 D, .int .i64 L, .int .i64 G, .bool gr] 39))
  have g1 := locE_new (w.alloc (.cells #[.bool qs, .slice no nl nc, .slice mo ml mc, .int .i64 E] 62)) [.int .i64 R, .int .i64 D, .int .i64 L, .int .i64 G, .bool gr] 39
  simp only [World.size_alloc] at g1
  go_enter Tryd.func7, Tryd.ntmps7
  go_wp2_with fail
  refine (HBG.out _).mono ?_
  rintro z w2 ⟨rfl, bb2⟩
  have q_2 := q1.later bb2
  have g_2 := g1.later bb2
  have b0_2 := below_trans b1 bb2
  clear q1 g1 b1 bb2
  have x0 := q_2.cell 0 rfl
  have x1 := q_2.cell 1 rfl
  have x2 := q_2.cell 2 rfl
  have x3 := q_2.cell 3 rfl
  have y0 := g_2.cell 0 rfl
  have y1 := g_2.cell 1 rfl
  have y2 := g_2.cell 2 rfl
  have y3 := g_2.cell 3 rfl
  have y4 := g_2.cell 4 rfl
  go_wp2_with fail
  refine (HRA.out _ b0_2).mono ?_
  rintro z w3 ⟨vw3, rfl, ow3, bbw3⟩
  obtain ⟨lo, loc, hvw3⟩ := ow3.rd.shape
  subst hvw3
  have rw3 := ow3.rd
  simp only at rw3 ⊢
  clear ow3 x0 x1 x2 x3 y0 y1 y2 y3 y4
  have q_3 := q_2.later bbw3
  have g_3 := g_2.later bbw3
  have b0_3 := below_trans b0_2 bbw3
  clear q_2 g_2 b0_2 bbw3
  have alw3 := below_alloc w3 (.cells #[.bool ls, .slice lo (Dg.dg 4294967296 ln).length loc, .int .i64 le] 25)
  have nw3 := locE_new w3 [.bool ls, .slice lo (Dg.dg 4294967296 ln).length loc, .int .i64 le] 25
  have q_4 := q_3.later alw3
  have g_4 := g_3.later alw3
  have rl_4 := rw3.later alw3
  have b0_4 := below_trans b0_3 alw3
  clear q_3 g_3 rw3 b0_3 alw3
  go_upto_region 4 with fail
  generalize w3.alloc (.cells #[.bool ls, .slice lo (Dg.dg 4294967296 ln).length loc, .int .i64 le] 25) = W3 at q_4 g_4 rl_4 nw3 b0_4 ⊢
  generalize w3.heap.size = PL at nw3 ⊢
  have x0 := q_4.cell 0 rfl
  have x1 := q_4.cell 1 rfl
  have x2 := q_4.cell 2 rfl
  have x3 := q_4.cell 3 rfl
  have y0 := g_4.cell 0 rfl
  have y1 := g_4.cell 1 rfl
  have y2 := g_4.cell 2 rfl
  have y3 := g_4.cell 3 rfl
  have y4 := g_4.cell 4 rfl
  go_wp2_with fail
  refine (HRB.out _ b0_4).mono ?_
  rintro z w4 ⟨vw4, rfl, ow4, bbw4⟩
  obtain ⟨ho, hoc, hvw4⟩ := ow4.rd.shape
  subst hvw4
  have rw4 := ow4.rd
  simp only at rw4 ⊢
  clear ow4 x0 x1 x2 x3 y0 y1 y2 y3 y4
  have q_5 := q_4.later bbw4
  have g_5 := g_4.later bbw4
  have rl_5 := rl_4.later bbw4
  have nl_5 := nw3.later bbw4
  have b0_5 := below_trans b0_4 bbw4
  clear q_4 g_4 rl_4 nw3 b0_4 bbw4
  have alw4 := below_alloc w4 (.cells #[.bool hs, .slice ho (Dg.dg 4294967296 hn).length hoc, .int .i64 he] 25)
  have nw4 := locE_new w4 [.bool hs, .slice ho (Dg.dg 4294967296 hn).length hoc, .int .i64 he] 25
  have q_6 := q_5.later alw4
  have g_6 := g_5.later alw4
  have rl_6 := rl_5.later alw4
  have nl_6 := nl_5.later alw4
  have rh_6 := rw4.later alw4
  have b0_6 := below_trans b0_5 alw4
  clear q_5 g_5 rl_5 nl_5 rw4 b0_5 alw4
  go_upto_region 5 with fail
  generalize w4.alloc (.cells #[.bool hs, .slice ho (Dg.dg 4294967296 hn).length hoc, .int .i64 he] 25) = W4 at q_6 g_6 rl_6 nl_6 rh_6 nw4 b0_6 ⊢
  generalize w4.heap.size = PH at nw4 ⊢
  cases oka
  · go_wp2
    go_ret
    exact ⟨rfl, b0_6⟩
  cases okb
  · go_wp2
    go_ret
    exact ⟨rfl, b0_6⟩
  have HRJ : Hid _ := HRI.out rfl rfl
  have HTX : Hid _ := HTW.out rfl rfl
  have HRP : Hid _ := HRO.out rfl rfl
  have HSU : Hid _ := HST.out rfl rfl
  clear HRI HTW HRO HST HRA HRB HBG
  have L0 : BetL W4 (.int .i64 1) undef undef W4 := ⟨1, rfl, by omega, by omega, Below.refl _ _⟩
  go_wp2_with fail
  go_loopw [9, 10, 11] (BetL W4) (fun iv _ _ _ => (4 - intOf iv).toNat)
  case atStart => exact ⟨1, rfl, by omega, by omega, Below.refl _ _⟩
  case round =>
    clear L0
    obtain ⟨i, rfl, hi1, hi2, bel⟩ := hrel
    have bel2 := bel
    have q_7 := q_6.later bel
    have g_7 := g_6.later bel
    have rl_7 := rl_6.later bel
    have nl_7 := nl_6.later bel
    have rh_7 := rh_6.later bel
    have nh_7 := nw4.later bel
    have b0_7 := below_trans b0_6 bel
    clear q_6 g_6 rl_6 nl_6 rh_6 nw4 b0_6 bel
    by_cases hlt : i ≤ 3
    · have HX : Hid _ := HRJ.out i
      have HT : Hid _ := HTX.out i hi1 hlt
      have wi : IntKind.i64.wrap (i + 1) = i + 1 := IntWalk.i64_in _ ⟨by omega, by omega⟩
      obtain ⟨⟨xs, xn, xe⟩, hm⟩ : ∃ t, mt i = t := ⟨_, rfl⟩
      rw [hm] at HX HT
      clear hm
      have x0 := q_7.cell 0 rfl
      have x1 := q_7.cell 1 rfl
      have x2 := q_7.cell 2 rfl
      have x3 := q_7.cell 3 rfl
      have y0 := g_7.cell 0 rfl
      have y1 := g_7.cell 1 rfl
      have y2 := g_7.cell 2 rfl
      have y3 := g_7.cell 3 rfl
      have y4 := g_7.cell 4 rfl
      go_wp2_with fail
      refine (HX.out _ hi1 hlt b0_7).mono ?_
      rintro z w6 ⟨v6, rfl, o6, bb6⟩
      obtain ⟨xo, xoc, hv6⟩ := o6.rd.shape
      subst hv6
      have r6 := o6.rd
      simp only at r6 ⊢
      clear o6 x0 x1 x2 x3 y0 y1 y2 y3 y4
      have be1 := below_trans bel2 bb6
      have q_8 := q_7.later bb6
      have g_8 := g_7.later bb6
      have rl_8 := rl_7.later bb6
      have nl_8 := nl_7.later bb6
      have rh_8 := rh_7.later bb6
      have nh_8 := nh_7.later bb6
      have b0_8 := below_trans b0_7 bb6
      clear q_7 g_7 rl_7 nl_7 rh_7 nh_7 b0_7 bb6
      have al6 := below_alloc w6 (.cells #[.bool xs, .slice xo (Dg.dg 4294967296 xn).length xoc, .int .i64 xe] 25)
      have n6 := locE_new w6 [.bool xs, .slice xo (Dg.dg 4294967296 xn).length xoc, .int .i64 xe] 25
      have be2 := below_trans be1 al6
      have q_9 := q_8.later al6
      have g_9 := g_8.later al6
      have rl_9 := rl_8.later al6
      have nl_9 := nl_8.later al6
      have rh_9 := rh_8.later al6
      have nh_9 := nh_8.later al6
      have rx_9 := r6.later al6
      have b0_9 := below_trans b0_8 al6
      clear q_8 g_8 rl_8 nl_8 rh_8 nh_8 r6 b0_8 al6
      go_upto_region 11 with fail
      generalize w6.alloc (.cells #[.bool xs, .slice xo (Dg.dg 4294967296 xn).length xoc, .int .i64 xe] 25) = W6 at q_9 g_9 rl_9 nl_9 rh_9 nh_9 rx_9 n6 b0_9 be2 ⊢
      generalize w6.heap.size = PX at n6 ⊢
      have u0 := n6.cell 0 rfl
      have u1 := n6.cell 1 rfl
      have u2 := n6.cell 2 rfl
      have v0 := nl_9.cell 0 rfl
      have v1 := nl_9.cell 1 rfl
      have v2 := nl_9.cell 2 rfl
      have t0 := nh_9.cell 0 rfl
      have t1 := nh_9.cell 1 rfl
      have t2 := nh_9.cell 2 rfl
      have S1 := HSD.out ⟨xs, xn, xe⟩ ⟨ls, ln, le⟩ _ _ _ _ _ rx_9 rl_9
      simp only at S1
      by_cases hml : (⟨xs, xn, xe⟩ : Trip) = ⟨ls, ln, le⟩
      · rw [hml, sameT_self] at S1
        skip
        simp only [Trip.mk.injEq] at hml
        obtain ⟨rfl, rfl, rfl⟩ := hml
        go_wp2_with fail
        refine S1.mono ?_
        rintro z w7 ⟨rfl, bb7⟩
        have be3 := below_trans be2 bb7
        go_wp2
        go_roundw
        case rel => exact ⟨i + 1, rfl, by omega, by omega, be3⟩
        case measure => simp [intOf]; omega
      · have hmh := HT.out hml
        rw [sameT_not hml] at S1
        go_wp2_with fail
        refine S1.mono ?_
        rintro z w7 ⟨rfl, bb7⟩
        have be3 := below_trans be2 bb7
        clear u0 u1 u2 v0 v1 v2 t0 t1 t2 S1
        have q_10 := q_9.later bb7
        have g_10 := g_9.later bb7
        have rl_10 := rl_9.later bb7
        have nl_10 := nl_9.later bb7
        have rh_10 := rh_9.later bb7
        have nh_10 := nh_9.later bb7
        have rx_10 := rx_9.later bb7
        have nx_10 := n6.later bb7
        have b0_10 := below_trans b0_9 bb7
        clear q_9 g_9 rl_9 nl_9 rh_9 nh_9 rx_9 n6 b0_9 bb7
        have u0 := nx_10.cell 0 rfl
        have u1 := nx_10.cell 1 rfl
        have u2 := nx_10.cell 2 rfl
        have v0 := nl_10.cell 0 rfl
        have v1 := nl_10.cell 1 rfl
        have v2 := nl_10.cell 2 rfl
        have t0 := nh_10.cell 0 rfl
        have t1 := nh_10.cell 1 rfl
        have t2 := nh_10.cell 2 rfl
        have S2 := HSD.out ⟨xs, xn, xe⟩ ⟨hs, hn, he⟩ _ _ _ _ _ rx_10 rh_10
        simp only at S2
        rw [hmh, sameT_self] at S2
        go_wp2_with fail
        refine S2.mono ?_
        rintro z w8 ⟨rfl, bb8⟩
        have be4 := below_trans be3 bb8
        go_wp2
        go_roundw
        case rel => exact ⟨i + 1, rfl, by omega, by omega, be4⟩
        case measure => simp [intOf]; omega
    · have hle : decide (i ≤ 3) = false := decide_eq_false hlt
      have v0 := nl_7.cell 0 rfl
      have v1 := nl_7.cell 1 rfl
      have v2 := nl_7.cell 2 rfl
      have t0 := nh_7.cell 0 rfl
      have t1 := nh_7.cell 1 rfl
      have t2 := nh_7.cell 2 rfl
      have S1 := HSD.out ⟨ls, ln, le⟩ ⟨hs, hn, he⟩ _ _ _ _ _ rl_7 rh_7
      simp only at S1
      by_cases hlh : (⟨ls, ln, le⟩ : Trip) = ⟨hs, hn, he⟩
      · have HX : Hid _ := HRP.out hlh
        rw [hlh, sameT_self] at S1
        go_wp2_with fail
        refine S1.mono ?_
        rintro z w9 ⟨rfl, bb9⟩
        clear S1 v0 v1 v2 t0 t1 t2
        have q_8 := q_7.later bb9
        have g_8 := g_7.later bb9
        have rl_8 := rl_7.later bb9
        have nl_8 := nl_7.later bb9
        have rh_8 := rh_7.later bb9
        have nh_8 := nh_7.later bb9
        have b0_8 := below_trans b0_7 bb9
        clear q_7 g_7 rl_7 nl_7 rh_7 nh_7 b0_7 bb9
        have x0 := q_8.cell 0 rfl
        have x1 := q_8.cell 1 rfl
        have x2 := q_8.cell 2 rfl
        have x3 := q_8.cell 3 rfl
        have y0 := g_8.cell 0 rfl
        have y1 := g_8.cell 1 rfl
        have y2 := g_8.cell 2 rfl
        have y3 := g_8.cell 3 rfl
        have y4 := g_8.cell 4 rfl
        go_wp2_with fail
        refine (HX.out _ b0_8).mono ?_
        rintro z wA ⟨vA, rfl, oA, bbA⟩
        obtain ⟨po, pc, hvA⟩ := oA.rd.shape
        subst hvA
        clear oA x0 x1 x2 x3 y0 y1 y2 y3 y4
        have q_9 := q_8.later bbA
        have g_9 := g_8.later bbA
        have rl_9 := rl_8.later bbA
        have nl_9 := nl_8.later bbA
        have rh_9 := rh_8.later bbA
        have nh_9 := nh_8.later bbA
        have b0_9 := below_trans b0_8 bbA
        clear q_8 g_8 rl_8 nl_8 rh_8 nh_8 b0_8 bbA
        have bE := below_trans b0_9 (below_alloc wA (.cells #[.bool ts, .slice po (Dg.dg 4294967296 td).length pc, .int .i64 tp, .bool true, .bool tv, .bool tu] 37))
        go_wp2
        go_ret
        exact ⟨by simp, bE⟩
      · have HX : Hid _ := HSU.out hlh
        rw [sameT_not hlh] at S1
        go_wp2_with fail
        refine S1.mono ?_
        rintro z w9 ⟨rfl, bb9⟩
        clear S1 v0 v1 v2 t0 t1 t2
        have q_8 := q_7.later bb9
        have g_8 := g_7.later bb9
        have rl_8 := rl_7.later bb9
        have nl_8 := nl_7.later bb9
        have rh_8 := rh_7.later bb9
        have nh_8 := nh_7.later bb9
        have b0_8 := below_trans b0_7 bb9
        clear q_7 g_7 rl_7 nl_7 rh_7 nh_7 b0_7 bb9
        have v0 := nl_8.cell 0 rfl
        have v1 := nl_8.cell 1 rfl
        have v2 := nl_8.cell 2 rfl
        have y0 := g_8.cell 0 rfl
        have y1 := g_8.cell 1 rfl
        have y2 := g_8.cell 2 rfl
        have y3 := g_8.cell 3 rfl
        have y4 := g_8.cell 4 rfl
        go_wp2_with fail
        refine (HX.out _ _ _ b0_8 rl_8).mono ?_
        rintro z wA ⟨vA, rfl, oA, bbA⟩
        obtain ⟨po, poc, hvA⟩ := oA.rd.shape
        subst hvA
        have rA := oA.rd
        simp only at rA ⊢
        clear oA v0 v1 v2 y0 y1 y2 y3 y4
        have q_9 := q_8.later bbA
        have g_9 := g_8.later bbA
        have rl_9 := rl_8.later bbA
        have nl_9 := nl_8.later bbA
        have rh_9 := rh_8.later bbA
        have nh_9 := nh_8.later bbA
        have b0_9 := below_trans b0_8 bbA
        clear q_8 g_8 rl_8 nl_8 rh_8 nh_8 b0_8 bbA
        have alA := below_alloc wA (.cells #[.bool hs, .slice po (Dg.dg 4294967296 hn).length poc, .int .i64 he] 25)
        have nA := locE_new wA [.bool hs, .slice po (Dg.dg 4294967296 hn).length poc, .int .i64 he] 25
        have q_10 := q_9.later alA
        have g_10 := g_9.later alA
        have rl_10 := rl_9.later alA
        have nl_10 := nl_9.later alA
        have rh_10 := rh_9.later alA
        have nh_10 := nh_9.later alA
        have ra_10 := rA.later alA
        have b0_10 := below_trans b0_9 alA
        clear q_9 g_9 rl_9 nl_9 rh_9 nh_9 rA b0_9 alA
        go_upto_region 17 with fail
        generalize wA.alloc (.cells #[.bool hs, .slice po (Dg.dg 4294967296 hn).length poc, .int .i64 he] 25) = WA at q_10 g_10 rl_10 nl_10 rh_10 nh_10 ra_10 nA b0_10 ⊢
        generalize wA.heap.size = PN at nA ⊢
        have u0 := nA.cell 0 rfl
        have u1 := nA.cell 1 rfl
        have u2 := nA.cell 2 rfl
        have t0 := nh_10.cell 0 rfl
        have t1 := nh_10.cell 1 rfl
        have t2 := nh_10.cell 2 rfl
        have S2 := HSD.out ⟨hs, hn, he⟩ ⟨hs, hn, he⟩ _ _ _ _ _ ra_10 rh_10
        simp only at S2
        rw [sameT_self] at S2
        go_wp2_with fail
        refine S2.mono ?_
        rintro z wB ⟨rfl, bbB⟩
        have bE := below_trans b0_10 bbB
        go_wp2
        go_ret
        exact ⟨by simp, bE⟩
end Go.Proofs.YtmjhlflemfkflaaDoor
/-
  Grids: the walk of GridBetween, paid.
-/
namespace Go.Proofs.YtmjhlflemfkflaaDoor
open Go.RowKit

theorem cut_spot {R D L : Int} {gr : Bool} {N M : Nat} {E : Int} (h1 : 1 ≤ D) (hN : N ≠ 0) (hM : M ≠ 0) (hu : ¬powerR R D (topQ N M E) < L ∨ gr = true) :
    L ≤ cutP R D L gr N M E ∧ (2 ^ (widthN R * (D - 1).toNat) ≤ wholeP R D L gr N M E ∨ (gr = true ∧ cutP R D L gr N M E = L)) := by
  have hcut : L ≤ cutP R D L gr N M E ∧ (cutP R D L gr N M E = powerR R D (topQ N M E) ∨ (gr = true ∧ cutP R D L gr N M E = L)) := by
    unfold cutP
    by_cases hc : (decide (powerR R D (topQ N M E) < L) && gr) = true
    · rw [if_pos hc]
      exact ⟨Int.le_refl _, .inr ⟨(Bool.and_eq_true_iff.1 hc).2, rfl⟩⟩
    · rw [if_neg hc]
      refine ⟨?_, .inl rfl⟩
      rcases hu with hu | hu
      · omega
      · rw [hu, Bool.and_true] at hc
        have : ¬powerR R D (topQ N M E) < L := fun c => hc (decide_eq_true c)
        omega
  refine ⟨hcut.1, ?_⟩
  rcases hcut.2 with h | h
  · left
    have := mt (seek_iff R D (powerR R D (topQ N M E)) N M E h1 hN hM).1 (Int.lt_irrefl _)
    rw [lt_bits] at this
    unfold wholeP shP
    rw [h]
    omega
  · exact .inr h

theorem roundC_way {xs ys : List Nat} {E R D L G way : Int} (h1 : ratioC xs ys E = 0) (h2 : gridC R D L G = 0) (h3 : isWay way = true) : roundC xs ys E R D L G way = 0 := by
  unfold roundC
  rw [if_pos (show wrongG (ratioC xs ys E) (gridC R D L G) = 0 from (if_pos h1).trans h2), if_pos h3]

theorem between {xs ys : List Nat} {E R D L G : Int} {gr qs : Bool} (sa : Dg.Small 4294967296 xs) (sb : Dg.Small 4294967296 ys) (h5 : rndBad xs ys E R D L G gr qs 5 = false) (h4 : rndBad xs ys E R D L G gr qs 4 = false) :
    (∀ i, 1 ≤ i → i ≤ 3 → rndBad xs ys E R D L G gr qs i = false ∧ (rndT xs ys E R D L G gr qs i = rndT xs ys E R D L G gr qs 5 ∨ rndT xs ys E R D L G gr qs i = rndT xs ys E R D L G gr qs 4)) ∧
    (rndT xs ys E R D L G gr qs 5 = rndT xs ys E R D L G gr qs 4 → roundC xs ys E R D L G 1 = 0 ∧ (roundP xs ys E R D L G gr qs 1).ex = true) ∧
    (¬rndT xs ys E R D L G gr qs 5 = rndT xs ys E R D L G gr qs 4 → stepR R D L G gr (rndT xs ys E R D L G gr qs 5).s true (Dg.dg 4294967296 (rndT xs ys E R D L G gr qs 5).n) (rndT xs ys E R D L G gr qs 5).e = (rndT xs ys E R D L G gr qs 4, 0)) := by
  obtain ⟨c1, c2, -⟩ := roundC_all (rnd_parts h5).1
  obtain ⟨-, d1, -, -, -, -, -, lg, -⟩ := gridC_zero c2
  obtain ⟨a1, a2, hm, -, -⟩ := ratioC_zero c1
  have hC : ∀ i, 1 ≤ i → i ≤ 5 → roundC xs ys E R D L G i = 0 := fun i i1 i2 => roundC_way c1 c2 (decide_eq_true ⟨i1, i2⟩)
  by_cases hl : xs.length = 0
  · have hP : ∀ i, 1 ≤ i → i ≤ 5 → roundP xs ys E R D L G gr qs i = ⟨false, 0, 0, true, false, false⟩ := fun i i1 i2 => (if_pos (hC i i1 i2)).trans (if_pos hl)
    have hb : ∀ i, 1 ≤ i → i ≤ 5 → rndBad xs ys E R D L G gr qs i = false := fun i i1 i2 => by
      unfold rndBad
      rw [hP i i1 i2, hC i i1 i2]
      rfl
    have ht : ∀ i, 1 ≤ i → i ≤ 5 → rndT xs ys E R D L G gr qs i = bare ⟨false, 0, (widthN R : Int) * 0⟩ := fun i i1 i2 => by
      unfold rndT
      rw [if_neg (by rw [hb i i1 i2]; decide), hP i i1 i2]
    refine ⟨fun i i1 i2 => ⟨hb i i1 (by omega), .inl ?_⟩, fun _ => ⟨hC 1 (by omega) (by omega), by rw [hP 1 (by omega) (by omega)]⟩, fun hne => ?_⟩
    · rw [ht i i1 (by omega), ht 5 (by omega) (by omega)]
    · exact absurd ((ht 5 (by omega) (by omega)).trans (ht 4 (by omega) (by omega)).symm) hne
  · have hN := gvl_ne sa a1 hl
    have hM := gvl_ne sb a2 (by omega)
    have hr := fun i (i1 : 1 ≤ i) (i2 : i ≤ 5) => rnd_is (gr := gr) (qs := qs) (hC i i1 i2) sa sb hl
    obtain ⟨b5, t5, -⟩ := hr 5 (by omega) (by omega)
    obtain ⟨b4, t4, -⟩ := hr 4 (by omega) (by omega)
    have e1 := (hr 1 (by omega) (by omega)).2.2
    have g5 := b5.1 h5
    have g4 := b4.1 h4
    have u5 := t5 h5
    have u4 := t4 h4
    obtain ⟨N, hNN⟩ : ∃ N, Dg.vl 4294967296 xs = N := ⟨_, rfl⟩
    obtain ⟨M, hMM⟩ : ∃ M, Dg.vl 4294967296 ys = M := ⟨_, rfl⟩
    rw [hNN] at hN
    rw [hMM] at hM
    simp only [hNN, hMM] at hr e1 g5 g4 u5 u4
    obtain ⟨k1, k2⟩ := cut_spot (R := R) (D := D) (L := L) (gr := gr) (E := E) d1 hN hM g5.2
    have hwl := whole_lt R D L gr N M E d1 hN hM
    have hway : ∀ i, 1 ≤ i → i ≤ 3 → (digP R D L gr qs N M E i = digP R D L gr qs N M E 5 ∨ digP R D L gr qs N M E i = digP R D L gr qs N M E 4) → rndBad xs ys E R D L G gr qs i = false ∧ (rndT xs ys E R D L G gr qs i = rndT xs ys E R D L G gr qs 5 ∨ rndT xs ys E R D L G gr qs i = rndT xs ys E R D L G gr qs 4) := fun i i1 i2 h => by
      obtain ⟨bi, ti, -⟩ := hr i i1 (by omega)
      rcases h with h | h
      · have := bi.2 (by rw [h]; exact g5)
        exact ⟨this, .inl (by rw [ti this, u5, h])⟩
      · have := bi.2 (by rw [h]; exact g4)
        exact ⟨this, .inr (by rw [ti this, u4, h])⟩
    by_cases hlf : leftP R D L gr N M E = 0
    · refine ⟨fun i i1 i2 => hway i i1 i2 (.inl (by rw [dig_none hlf, dig_none hlf])), fun _ => ⟨hC 1 (by omega) (by omega), by rw [e1]; exact decide_eq_true hlf⟩, fun hne => absurd ?_ hne⟩
      rw [u5, u4, dig_none hlf, dig_none hlf]
    · rw [dig_down hlf] at g5 u5
      rw [dig_up hlf] at g4 u4
      cases qs
      · simp only [Bool.false_eq_true, if_false] at g5 u5 g4 u4
        refine ⟨fun i i1 i2 => hway i i1 i2 ?_, fun he => ?_, fun _ => ?_⟩
        · rw [dig_down hlf, dig_up hlf]
          simp only [Bool.false_eq_true, if_false]
          exact dig_two R D L gr false N M E i
        · rw [u5, u4] at he
          exact absurd he (next_ne _ _ _)
        · rw [u5, u4]
          exact step_pos c2 k1 (by omega) hwl k2
      · simp only [if_true] at g5 u5 g4 u4
        refine ⟨fun i i1 i2 => hway i i1 i2 ?_, fun he => ?_, fun _ => ?_⟩
        · rw [dig_down hlf, dig_up hlf]
          simp only [if_true]
          exact (dig_two R D L gr true N M E i).symm
        · rw [u5, u4] at he
          exact absurd he.symm (next_ne _ _ _)
        · rw [u5, u4]
          exact step_neg c2 k1 (by omega) hwl k2

theorem place_ex (T : PlaceT) (h : T.ex = true) : T = ⟨T.s, T.d, T.p, true, T.ov, T.un⟩ := by
  obtain ⟨x1, x2, x3, x4, x5, x6⟩ := T
  change x4 = true at h
  rw [h]

theorem gridBetween_walk (qs : Bool) (no : Option Addr) (nc : Nat) (us : List Nat) (mo : Option Addr) (mc : Nat) (vs : List Nat) (E R D L G : Int) (gr : Bool) (w : World) (hu : Rd w .u32 (.slice no us.length nc) us) (su : Dg.Small 4294967296 us) (hv : Rd w .u32 (.slice mo vs.length mc) vs) (sv : Dg.Small 4294967296 vs) (hT : Tab w) :
    Calls Tryd.prog 7 #[.agg #[.bool qs, .slice no us.length nc, .slice mo vs.length mc, .int .i64 E], .agg #[.int .i64 R, .int .i64 D, .int .i64 L, .int .i64 G, .bool gr]] w fun z w' => z = .returned (.bool true) ∧ Below w.heap.size w w' := by
  have hbt : (!rndBad us vs E R D L G gr qs 5) = true → (!rndBad us vs E R D L G gr qs 4) = true → _ := fun h5 h4 => between (E := E) (R := R) (D := D) (L := L) (G := G) (gr := gr) (qs := qs) su sv (by simpa using h5) (by simpa using h4)
  have hrd : ∀ i w1, Below w.heap.size w w1 → Calls Tryd.prog 30 #[.agg #[.bool qs, .slice no us.length nc, .slice mo vs.length mc, .int .i64 E], .agg #[.int .i64 R, .int .i64 D, .int .i64 L, .int .i64 G, .bool gr], .int .i64 i] w1 (RndRes w1 (rndT us vs E R D L G gr qs i) (!rndBad us vs E R D L G gr qs i)) := fun i w1 b => rounded_any qs no nc us mo mc vs E R D L G gr i w1 (hu.later b) (hv.later b) su sv (hT.later b)
  have hA := hrd 5
  have hB := hrd 4
  obtain ⟨⟨ls, ln, le⟩, hlo⟩ : ∃ t, rndT us vs E R D L G gr qs 5 = t := ⟨_, rfl⟩
  obtain ⟨⟨hs, hn, he⟩, hhi⟩ : ∃ t, rndT us vs E R D L G gr qs 4 = t := ⟨_, rfl⟩
  rw [hlo] at hA
  rw [hhi] at hB
  simp only [hlo, hhi] at hbt
  have hRO : (roundP us vs E R D L G gr qs 1).ex = true → roundP us vs E R D L G gr qs 1 = ⟨(roundP us vs E R D L G gr qs 1).s, (roundP us vs E R D L G gr qs 1).d, (roundP us vs E R D L G gr qs 1).p, true, (roundP us vs E R D L G gr qs 1).ov, (roundP us vs E R D L G gr qs 1).un⟩ := place_ex _
  refine gridBetweenW qs no _ nc mo _ mc E R D L G gr (!rndBad us vs E R D L G gr qs 5) (!rndBad us vs E R D L G gr qs 4) ls ln le hs hn he (fun i => rndT us vs E R D L G gr qs i) (roundP us vs E R D L G gr qs 1).s (roundP us vs E R D L G gr qs 1).d (roundP us vs E R D L G gr qs 1).p (roundP us vs E R D L G gr qs 1).ov (roundP us vs E R D L G gr qs 1).un w gbegun_any hA hB ?_ ?_ ?_ ?_ ?_
  · intro h5 h4 i w1 i1 i2 b
    have := hrd i w1 b
    rw [((hbt h5 h4).1 i i1 i2).1] at this
    exact this
  · intro h5 h4 i i1 i2 hne
    exact ((hbt h5 h4).1 i i1 i2).2.resolve_left hne
  · intro a b so sc tq tc w1 r1 r2
    exact sameDy_any a.s so sc _ a.e b.s tq tc _ b.e w1 r1 r2
  · intro h5 h4 he w1 b
    obtain ⟨x1, x2⟩ := (hbt h5 h4).2.1 he
    have := gRound_any qs no nc us mo mc vs E R D L G gr 1 w1 (hu.later b) (hv.later b) su sv
    rw [x1, hRO x2] at this
    exact this
  · intro h5 h4 hne so sc w1 b r
    have := gStep_any R D L G gr ls true so sc (Dg.dg 4294967296 ln) le w1 r (Dg.small_dg _ _ (by omega)) (hT.later b)
    rw [(hbt h5 h4).2.2 hne] at this
    exact this
end Go.Proofs.YtmjhlflemfkflaaDoor

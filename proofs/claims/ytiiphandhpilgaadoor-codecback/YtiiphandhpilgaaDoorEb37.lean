/-
  Texts laid together: Gh3, Gh4, Gh5, Gh6, Gh7.
-/
import Derived.Deep.Cut
import Derived.Deep.DeepCutAuto
import Derived.Test.YtiiphandhpilgaaDoorEb36
import Derived.Test.YtiiphandhpilgaaDoorEb05
import Derived.Test.YtiiphandhpilgaaDoorEb32
import Derived.Test.YtiiphandhpilgaaDoorEb34
import Derived.Test.YtiiphandhpilgaaDoorEb03
namespace Go.Proofs.YtiiphandhpilgaaDoor
open Go.RowKit
/-- A spot that is found, or not, and an error. -/
def FindAns (w : World) (h : Bool) (d : Nat) (k c : Int) (e : Ending) (w' : World) : Prop :=
  ∃ u, e = .returned (.tuple #[.agg #[u, .int .i64 k], .bool h, .int .i64 c]) ∧ Own w' w.heap.size 38 .u32 u (Dg.dg 4294967296 d) ∧ Below w.heap.size w w'

/-- What lies there behind the call: the spot in a block of its own. -/
def FindS (w : World) (s9 s10 : Value) (hd : Bool) (rd : Nat) (rk : Int) (wx : World) : Prop :=
  ∃ pb so sc, s9 = .pointer (some ⟨pb, 0, none⟩) ∧ s10 = .bool hd ∧ w.heap.size + 1 + 1 ≠ pb ∧ w.heap.size ≤ pb ∧ LocE wx pb 79 [.slice so (Dg.dg 4294967296 rd).length sc, .int .i64 rk] ∧ Own wx w.heap.size 38 .u32 (.slice so (Dg.dg 4294967296 rd).length sc) (Dg.dg 4294967296 rd) ∧ LocE wx (w.heap.size + 1 + 1) 79 [.slice none 0 0, .int .i64 0] ∧ Below w.heap.size w wx

theorem findS_new {w wb : World} {hd : Bool} {rd : Nat} {rk : Int} {so : Option Addr} {sc : Nat} (hc : LocE wb (w.heap.size + 1 + 1) 79 [.slice none 0 0, .int .i64 0]) (ho : Own wb w.heap.size 38 .u32 (.slice so (Dg.dg 4294967296 rd).length sc) (Dg.dg 4294967296 rd)) (hb : Below w.heap.size w wb) :
    FindS w (.pointer (some ⟨wb.heap.size, 0, none⟩)) (.bool hd) hd rd rk (wb.alloc (.cells #[.slice so (Dg.dg 4294967296 rd).length sc, .int .i64 rk] 79)) := by
  have ba := below_alloc wb (.cells #[.slice so (Dg.dg 4294967296 rd).length sc, .int .i64 rk] 79)
  have := hc.lt
  exact ⟨_, so, sc, rfl, rfl, by omega, by omega, locE_new wb [.slice so (Dg.dg 4294967296 rd).length sc, .int .i64 rk] 79, ho.later ba, hc.later ba, below_trans hb ba⟩

theorem findS_set {w wb : World} {hd : Bool} {rd : Nat} {rk : Int} {so : Option Addr} {sc nb : Nat} (hc : LocE wb (w.heap.size + 1 + 1) 79 [.slice none 0 0, .int .i64 0]) (hn : LocE wb nb 79 [.slice none 0 0, .int .i64 0]) (ho : Own wb w.heap.size 38 .u32 (.slice so (Dg.dg 4294967296 rd).length sc) (Dg.dg 4294967296 rd)) (hb : Below w.heap.size w wb) (h1 : w.heap.size + 1 + 1 ≠ nb) (h2 : w.heap.size ≤ nb) :
    FindS w (.pointer (some ⟨nb, 0, none⟩)) (.bool hd) hd rd rk ((wb.setCell ⟨nb, 0, none⟩ (.slice so (Dg.dg 4294967296 rd).length sc)).setCell ⟨nb, 1, none⟩ (.int .i64 rk)) := by
  have bu := (but_set wb nb 0 (.slice so (Dg.dg 4294967296 rd).length sc)).trans (but_set _ nb 1 (.int .i64 rk))
  exact ⟨nb, so, sc, rfl, rfl, h1, h2, (hn.set 0 _).set 1 _, bu.own ho hn (by decide), bu.loc hc h1, bu.below hb h2⟩

set_option maxRecDepth 100000 in
set_option maxHeartbeats 3200000 in
theorem gfindW (R D L G : Int) (gr s : Bool) (ao : Option Addr) (la ca : Nat) (e dc gc c : Int) (hd : Bool) (rd : Nat) (rk : Int) (w : World)
    (HA : ¬dc = 0 → hd = false ∧ rd = 0 ∧ rk = 0 ∧ c = dc) (HB : dc = 0 → ¬gc = 0 → hd = false ∧ rd = 0 ∧ rk = 0 ∧ c = gc) (HC : dc = 0 → gc = 0 → c = 0)
    (HD : ∀ w1, Below w.heap.size w w1 → Calls Tryd.prog 49 #[.agg #[.bool s, .slice ao la ca, .int .i64 e]] w1 fun z w' => z = .returned (.int .i64 dc) ∧ Below w1.heap.size w1 w')
    (HG : ∀ w1, Calls Tryd.prog 45 #[.agg #[.int .i64 R, .int .i64 D, .int .i64 L, .int .i64 G, .bool gr]] w1 fun z w' => z = .returned (.int .i64 gc) ∧ Below w1.heap.size w1 w')
    (HO : ∀ w1, Calls Tryd.prog 51 #[.agg #[.bool s, .slice ao la ca, .int .i64 e]] w1 fun z w' => z = .returned (.agg #[.bool s, .slice ao la ca, .int .i64 e]) ∧ Below w1.heap.size w1 w')
    (HF : dc = 0 → gc = 0 → ∀ w1, Below w.heap.size w w1 → Calls Tryd.prog 50 #[.agg #[.int .i64 R, .int .i64 D, .int .i64 L, .int .i64 G, .bool gr], .agg #[.bool s, .slice ao la ca, .int .i64 e]] w1 (FindRes w1 hd rd rk)) :
    Calls Tryd.prog 33 #[.agg #[.bool s, .slice ao la ca, .int .i64 e], .agg #[.int .i64 R, .int .i64 D, .int .i64 L, .int .i64 G, .bool gr]] w (FindAns w hd rd rk c) := by
  replace HA : Hid _ := HA
  replace HB : Hid _ := HB
  replace HC : Hid _ := HC
  replace HD : Hid _ := HD
  replace HG : Hid _ := HG
  replace HO : Hid _ := HO
  replace HF : Hid _ := HF
  have b1 := below_trans (below_trans (below_alloc w (.cells #[.bool s, .slice ao la ca, .int .i64 e] 59)) (below_alloc _ (.cells #[.int .i64 R, .int .i64 D, .int .i64 L, .int .i64 G, .bool gr] 40))) (below_alloc _ (.cells #[.slice none 0 0, .int .i64 0] 79))
  have q1 := ((locE_new w [.bool s, .slice ao la ca, .int .i64 e] 59).later (below_alloc _ (.cells #[.int .i64 R, .int .i64 D, .int .i64 L, .int .i64 G, .bool gr] 40))).later (below_alloc _ (.cells #[.slice none 0 0, .int .i64 0] 79))
  have g1 := (locE_new (w.alloc (.cells #[.bool s, .slice ao la ca, .int .i64 e] 59)) [.int .i64 R, .int .i64 D, .int .i64 L, .int .i64 G, .bool gr] 40).later (below_alloc _ (.cells #[.slice none 0 0, .int .i64 0] 79))
  have c1 := locE_new ((w.alloc (.cells #[.bool s, .slice ao la ca, .int .i64 e] 59)).alloc (.cells #[.int .i64 R, .int .i64 D, .int .i64 L, .int .i64 G, .bool gr] 40)) [.slice none 0 0, .int .i64 0] 79
  simp only [World.size_alloc] at g1 c1
  by_cases hdc : dc = 0
  · have HB1 : Hid _ := HB.out hdc
    have HC1 : Hid _ := HC.out hdc
    have HF1 : Hid _ := HF.out hdc
    clear HA HB HC HF
    subst hdc
    by_cases hgc : gc = 0
    · have hc := HC1.out hgc
      have HF2 : Hid _ := HF1.out hgc
      clear HB1 HC1 HF1
      subst hgc hc
      have y0 := q1.cell 0 rfl
      have y1 := q1.cell 1 rfl
      have y2 := q1.cell 2 rfl
      go_enter Tryd.func33, Tryd.ntmps33
      go_wp2_with fail
      refine (HD.out _ b1).mono ?_
      rintro z w2 ⟨rfl, bb2⟩
      clear y0 y1 y2
      have g_2 := g1.later bb2
      have q_2 := q1.later bb2
      have c_2 := c1.later bb2
      have b0_2 := below_trans b1 bb2
      clear g1 q1 c1 b1 bb2
      have x0 := g_2.cell 0 rfl
      have x1 := g_2.cell 1 rfl
      have x2 := g_2.cell 2 rfl
      have x3 := g_2.cell 3 rfl
      have x4 := g_2.cell 4 rfl
      go_wp2_with fail
      refine (HG.out _).mono ?_
      rintro z w3 ⟨rfl, bb3⟩
      have g_3 := g_2.later bb3
      have q_3 := q_2.later bb3
      have c_3 := c_2.later bb3
      have b0_3 := below_trans b0_2 bb3
      clear g_2 q_2 c_2 b0_2 bb3
      clear x0 x1 x2 x3 x4
      have hR3 : w.heap.size + 1 + 1 < w3.heap.size := c_3.lt
      have be : Below w3.heap.size w3 (w3.alloc (.cells #[.slice none 0 0, .int .i64 0] 79)).drew := (below_alloc w3 (.cells #[.slice none 0 0, .int .i64 0] 79)).drew
      have g_e := g_3.later be
      have q_e := q_3.later be
      have c_e := c_3.later be
      have n_e := (locE_new w3 [.slice none 0 0, .int .i64 0] 79).drew
      have b_e := below_trans b0_3 be
      have bd_3 : Below w3.heap.size w3 w3.drew := (Below.refl _ _).drew
      have g_4 := g_3.later bd_3
      have q_4 := q_3.later bd_3
      have c_4 := c_3.later bd_3
      have b0_4 := below_trans b0_3 bd_3
      clear g_3 q_3 c_3 b0_3 bd_3
      have x0 := g_4.cell 0 rfl
      have x1 := g_4.cell 1 rfl
      have x2 := g_4.cell 2 rfl
      have x3 := g_4.cell 3 rfl
      have x4 := g_4.cell 4 rfl
      have y0 := q_4.cell 0 rfl
      have y1 := q_4.cell 1 rfl
      have y2 := q_4.cell 2 rfl
      have nn0 : w3.heap.size ≠ w.heap.size + 1 := by omega
      have nn1 : w3.heap.size ≠ w.heap.size := by omega
      have xe0 := g_e.cell 0 rfl
      have xe1 := g_e.cell 1 rfl
      have xe2 := g_e.cell 2 rfl
      have xe3 := g_e.cell 3 rfl
      have xe4 := g_e.cell 4 rfl
      have ye0 := q_e.cell 0 rfl
      have ye1 := q_e.cell 1 rfl
      have ye2 := q_e.cell 2 rfl
      go_upto_region 7 with fail
      go_cut [9, 10] (fun s9 s10 wx => FindS w s9 s10 hd rd rk wx)
      case first =>
        go_wp2_with fail
        go_region_held3 (fun wq => (wq.cell? ⟨w.heap.size + 1, 0, none⟩ = some (.int .i64 R) ∧ wq.cell? ⟨w.heap.size + 1, 1, none⟩ = some (.int .i64 D) ∧ wq.cell? ⟨w.heap.size + 1, 2, none⟩ = some (.int .i64 L) ∧ wq.cell? ⟨w.heap.size + 1, 3, none⟩ = some (.int .i64 G) ∧ wq.cell? ⟨w.heap.size + 1, 4, none⟩ = some (.bool gr)) ∧ wq.cell? ⟨w.heap.size, 0, none⟩ = some (.bool s) ∧ wq.cell? ⟨w.heap.size, 1, none⟩ = some (.slice ao la ca) ∧ wq.cell? ⟨w.heap.size, 2, none⟩ = some (.int .i64 e)) (go_keep) (first
          | (go_at_call 51; refine (HO.out _).mono ?_; rintro z wa ⟨rfl, ba⟩; have g_wa := g_4.later ba; have q_wa := q_4.later ba; have c_wa := c_4.later ba; have b_wa := below_trans b0_4 ba; have xwa0 := g_wa.cell 0 rfl; have xwa1 := g_wa.cell 1 rfl; have xwa2 := g_wa.cell 2 rfl; have xwa3 := g_wa.cell 3 rfl; have xwa4 := g_wa.cell 4 rfl; have ywa0 := q_wa.cell 0 rfl; have ywa1 := q_wa.cell 1 rfl; have ywa2 := q_wa.cell 2 rfl; have m0_wa := World.new_ne wa _ xwa0; have m1_wa := World.new_ne wa _ ywa0; have zab := below_alloc wa (.cells #[.slice none 0 0, .int .i64 0] 79); have zag := g_wa.later zab; have zaq := q_wa.later zab; have zax0 := zag.cell 0 rfl; have zax1 := zag.cell 1 rfl; have zax2 := zag.cell 2 rfl; have zax3 := zag.cell 3 rfl; have zax4 := zag.cell 4 rfl; have zay0 := zaq.cell 0 rfl; have zay1 := zaq.cell 1 rfl; have zay2 := zaq.cell 2 rfl)
          | (go_at_call 51; refine (HO.out _).mono ?_; rintro z wa ⟨rfl, ba⟩; have g_wa := g_e.later ba; have q_wa := q_e.later ba; have c_wa := c_e.later ba; have n_wa := n_e.later ba; have b_wa := below_trans b_e ba; have xwa0 := g_wa.cell 0 rfl; have xwa1 := g_wa.cell 1 rfl; have xwa2 := g_wa.cell 2 rfl; have xwa3 := g_wa.cell 3 rfl; have xwa4 := g_wa.cell 4 rfl; have ywa0 := q_wa.cell 0 rfl; have ywa1 := q_wa.cell 1 rfl; have ywa2 := q_wa.cell 2 rfl; have m0_wa := World.new_ne wa _ xwa0; have m1_wa := World.new_ne wa _ ywa0)
          | (go_at_call 50; have n_x := n_wa; clear n_x; refine (HF2.out _ b_wa).mono ?_; rintro z wb ⟨u, rfl, ou, bb⟩; have oL := ou.lower b_wa.size; have g_wb := g_wa.later bb; have q_wb := q_wa.later bb; have c_wb := c_wa.later bb; have n_wb := n_wa.later bb; have b_wb := below_trans b_wa bb; obtain ⟨so, sc, hu⟩ := ou.rd.shape; subst hu; have xwb0 := g_wb.cell 0 rfl; have xwb1 := g_wb.cell 1 rfl; have xwb2 := g_wb.cell 2 rfl; have xwb3 := g_wb.cell 3 rfl; have xwb4 := g_wb.cell 4 rfl; have ywb0 := q_wb.cell 0 rfl; have ywb1 := q_wb.cell 1 rfl; have ywb2 := q_wb.cell 2 rfl; have m0_wb := World.new_ne wb _ xwb0; have m1_wb := World.new_ne wb _ ywb0; have d0 := n_wb.cell 0 rfl; have d1 := n_wb.cell 1 rfl; have f0 := n_wb.free 0; have f1 := n_wb.free 1)
          | (go_at_call 50; refine (HF2.out _ b_wa).mono ?_; rintro z wb ⟨u, rfl, ou, bb⟩; have oL := ou.lower b_wa.size; have g_wb := g_wa.later bb; have q_wb := q_wa.later bb; have c_wb := c_wa.later bb; have b_wb := below_trans b_wa bb; obtain ⟨so, sc, hu⟩ := ou.rd.shape; subst hu; have xwb0 := g_wb.cell 0 rfl; have xwb1 := g_wb.cell 1 rfl; have xwb2 := g_wb.cell 2 rfl; have xwb3 := g_wb.cell 3 rfl; have xwb4 := g_wb.cell 4 rfl; have ywb0 := q_wb.cell 0 rfl; have ywb1 := q_wb.cell 1 rfl; have ywb2 := q_wb.cell 2 rfl; have m0_wb := World.new_ne wb _ xwb0; have m1_wb := World.new_ne wb _ ywb0; have zbb := below_alloc wb (.cells #[.slice none 0 0, .int .i64 0] 79); have zbg := g_wb.later zbb; have zbq := q_wb.later zbb; have zbx0 := zbg.cell 0 rfl; have zbx1 := zbg.cell 1 rfl; have zbx2 := zbg.cell 2 rfl; have zbx3 := zbg.cell 3 rfl; have zbx4 := zbg.cell 4 rfl; have zby0 := zbq.cell 0 rfl; have zby1 := zbq.cell 1 rfl; have zby2 := zbq.cell 2 rfl; have zcb := below_alloc wb (.cells #[.slice so (Dg.dg 4294967296 rd).length sc, .int .i64 rk] 79); have zcg := g_wb.later zcb; have zcq := q_wb.later zcb; have zcx0 := zcg.cell 0 rfl; have zcx1 := zcg.cell 1 rfl; have zcx2 := zcg.cell 2 rfl; have zcx3 := zcg.cell 3 rfl; have zcx4 := zcg.cell 4 rfl; have zcy0 := zcq.cell 0 rfl; have zcy1 := zcq.cell 1 rfl; have zcy2 := zcq.cell 2 rfl)
          | (go_at_call 50; have bn := below_alloc wa (.cells #[.slice none 0 0, .int .i64 0] 79); refine (HF2.out _ (below_trans b_wa bn)).mono ?_; rintro z wb ⟨u, rfl, ou, bb⟩; have oL := ou.lower (below_trans b_wa bn).size; have hRa : w.heap.size + 1 + 1 < wa.heap.size := c_wa.lt; have kk0 : wa.heap.size ≠ w.heap.size + 1 := (by omega); have kk1 : wa.heap.size ≠ w.heap.size := (by omega); have g_wb := (g_wa.later bn).later bb; have q_wb := (q_wa.later bn).later bb; have c_wb := (c_wa.later bn).later bb; have n_wb := (locE_new wa [.slice none 0 0, .int .i64 0] 79).later bb; have b_wb := below_trans (below_trans b_wa bn) bb; obtain ⟨so, sc, hu⟩ := ou.rd.shape; subst hu; have xwb0 := g_wb.cell 0 rfl; have xwb1 := g_wb.cell 1 rfl; have xwb2 := g_wb.cell 2 rfl; have xwb3 := g_wb.cell 3 rfl; have xwb4 := g_wb.cell 4 rfl; have ywb0 := q_wb.cell 0 rfl; have ywb1 := q_wb.cell 1 rfl; have ywb2 := q_wb.cell 2 rfl; have m0_wb := World.new_ne wb _ xwb0; have m1_wb := World.new_ne wb _ ywb0; have d0 := n_wb.cell 0 rfl; have d1 := n_wb.cell 1 rfl; have f0 := n_wb.free 0; have f1 := n_wb.free 1))
        all_goals (go_wp2_with fail)
        all_goals (first
          | (go_meet; exact findS_new c_wb oL b_wb)
          | (go_meet; exact findS_set c_wb n_wb oL b_wb (by omega) (by omega))
          | (go_meet; exact findS_set c_wb n_wb oL b_wb (by omega) (by omega)))
      case rest =>
        obtain ⟨pb, so, sc, rfl, rfl, hpb, hpw, n9, o9, c9, b9⟩ := hcut
        clear g_4 q_4 c_4 b0_4 g_e q_e c_e n_e b_e be nn0 nn1 x0 x1 x2 x3 x4 y0 y1 y2 xe0 xe1 xe2 xe3 xe4 ye0 ye1 ye2
        have p0 := n9.cell 0 rfl
        have p1 := n9.cell 1 rfl
        have d0 := c9.cell 0 rfl
        have f0 := c9.free 0
        have d1 := c9.cell 1 rfl
        have f1 := c9.free 1
        go_wp2
        have bu : But (w.heap.size + 1 + 1) wc ((wc.setCell ⟨w.heap.size + 1 + 1, 0, none⟩ (.slice so (Dg.dg 4294967296 rd).length sc)).setCell ⟨w.heap.size + 1 + 1, 1, none⟩ (.int .i64 rk)) := (but_set wc (w.heap.size + 1 + 1) 0 (.slice so (Dg.dg 4294967296 rd).length sc)).trans (but_set _ (w.heap.size + 1 + 1) 1 (.int .i64 rk))
        have cX : LocE ((wc.setCell ⟨w.heap.size + 1 + 1, 0, none⟩ (.slice so (Dg.dg 4294967296 rd).length sc)).setCell ⟨w.heap.size + 1 + 1, 1, none⟩ (.int .i64 rk)) (w.heap.size + 1 + 1) 79 [.slice so (Dg.dg 4294967296 rd).length sc, .int .i64 rk] := (c9.set 0 (.slice so (Dg.dg 4294967296 rd).length sc)).set 1 (.int .i64 rk)
        have bX := bu.below b9 (show w.heap.size ≤ w.heap.size + 1 + 1 by omega)
        have oX := bu.own o9 c9 (by decide)
        have s0 := cX.cell 0 rfl
        have s1 := cX.cell 1 rfl
        refine bodyPost_ret (v := .tuple #[.agg #[.slice so (Dg.dg 4294967296 rd).length sc, .int .i64 rk], .bool hd, .int .i64 0]) (by simp [results, Tryd.results33, go_sem, s0, s1]) rfl ?_
        exact ⟨_, rfl, oX, bX⟩
    · obtain ⟨h1, h2, h3, h4⟩ := HB1.out hgc
      clear HB1 HC1 HF1
      have hgf : (gc == 0) = false := by simp [hgc]
      subst h1 h2 h3 h4
      have y0 := q1.cell 0 rfl
      have y1 := q1.cell 1 rfl
      have y2 := q1.cell 2 rfl
      go_enter Tryd.func33, Tryd.ntmps33
      go_wp2_with fail
      refine (HD.out _ b1).mono ?_
      rintro z w2 ⟨rfl, bb2⟩
      clear y0 y1 y2
      have g_2 := g1.later bb2
      have q_2 := q1.later bb2
      have c_2 := c1.later bb2
      have b0_2 := below_trans b1 bb2
      clear g1 q1 c1 b1 bb2
      have x0 := g_2.cell 0 rfl
      have x1 := g_2.cell 1 rfl
      have x2 := g_2.cell 2 rfl
      have x3 := g_2.cell 3 rfl
      have x4 := g_2.cell 4 rfl
      go_wp2_with fail
      refine (HG.out _).mono ?_
      rintro z w3 ⟨rfl, bb3⟩
      have g_3 := g_2.later bb3
      have q_3 := q_2.later bb3
      have c_3 := c_2.later bb3
      have b0_3 := below_trans b0_2 bb3
      clear g_2 q_2 c_2 b0_2 bb3
      clear x0 x1 x2 x3 x4
      have d0 := c_3.cell 0 rfl
      have f0 := c_3.free 0
      have d1 := c_3.cell 1 rfl
      have f1 := c_3.free 1
      go_wp2
      have bu : But (w.heap.size + 1 + 1) w3 ((w3.setCell ⟨w.heap.size + 1 + 1, 0, none⟩ (.slice none 0 0)).setCell ⟨w.heap.size + 1 + 1, 1, none⟩ (.int .i64 0)) := (but_set w3 (w.heap.size + 1 + 1) 0 (.slice none 0 0)).trans (but_set _ (w.heap.size + 1 + 1) 1 (.int .i64 0))
      have cX : LocE ((w3.setCell ⟨w.heap.size + 1 + 1, 0, none⟩ (.slice none 0 0)).setCell ⟨w.heap.size + 1 + 1, 1, none⟩ (.int .i64 0)) (w.heap.size + 1 + 1) 79 [.slice none 0 0, .int .i64 0] := (c_3.set 0 (.slice none 0 0)).set 1 (.int .i64 0)
      have bX := bu.below b0_3 (show w.heap.size ≤ w.heap.size + 1 + 1 by omega)
      have s0 := cX.cell 0 rfl
      have s1 := cX.cell 1 rfl
      refine bodyPost_ret (v := .tuple #[.agg #[.slice none 0 0, .int .i64 0], .bool false, .int .i64 c]) (by simp [results, Tryd.results33, go_sem, s0, s1]) rfl ?_
      exact ⟨_, rfl, own_nil _ _ _ _, bX⟩
  · obtain ⟨h1, h2, h3, h4⟩ := HA.out hdc
    clear HA HB HC HF
    have hdf : (dc == 0) = false := by simp [hdc]
    subst h1 h2 h3 h4
    have y0 := q1.cell 0 rfl
    have y1 := q1.cell 1 rfl
    have y2 := q1.cell 2 rfl
    go_enter Tryd.func33, Tryd.ntmps33
    go_wp2_with fail
    refine (HD.out _ b1).mono ?_
    rintro z w2 ⟨rfl, bb2⟩
    clear y0 y1 y2
    have g_2 := g1.later bb2
    have q_2 := q1.later bb2
    have c_2 := c1.later bb2
    have b0_2 := below_trans b1 bb2
    clear g1 q1 c1 b1 bb2
    have d0 := c_2.cell 0 rfl
    have f0 := c_2.free 0
    have d1 := c_2.cell 1 rfl
    have f1 := c_2.free 1
    go_wp2
    have bu : But (w.heap.size + 1 + 1) w2 ((w2.setCell ⟨w.heap.size + 1 + 1, 0, none⟩ (.slice none 0 0)).setCell ⟨w.heap.size + 1 + 1, 1, none⟩ (.int .i64 0)) := (but_set w2 (w.heap.size + 1 + 1) 0 (.slice none 0 0)).trans (but_set _ (w.heap.size + 1 + 1) 1 (.int .i64 0))
    have cX : LocE ((w2.setCell ⟨w.heap.size + 1 + 1, 0, none⟩ (.slice none 0 0)).setCell ⟨w.heap.size + 1 + 1, 1, none⟩ (.int .i64 0)) (w.heap.size + 1 + 1) 79 [.slice none 0 0, .int .i64 0] := (c_2.set 0 (.slice none 0 0)).set 1 (.int .i64 0)
    have bX := bu.below b0_2 (show w.heap.size ≤ w.heap.size + 1 + 1 by omega)
    have s0 := cX.cell 0 rfl
    have s1 := cX.cell 1 rfl
    refine bodyPost_ret (v := .tuple #[.agg #[.slice none 0 0, .int .i64 0], .bool false, .int .i64 c]) (by simp [results, Tryd.results33, go_sem, s0, s1]) rfl ?_
    exact ⟨_, rfl, own_nil _ _ _ _, bX⟩
end Go.Proofs.YtiiphandhpilgaaDoor
namespace Go.Proofs.YtiiphandhpilgaaDoor
open Go.RowKit
/-- What is wrong with a number, or with a grid. -/
def onC (dc gc : Int) : Int := if dc = 0 then gc else dc

end Go.Proofs.YtiiphandhpilgaaDoor
namespace Go.Proofs.YtiiphandhpilgaaDoor
open Go.RowKit
/-- What find answers: held, digits, power. -/
def ansH (xs : List Nat) (e R D L G : Int) (gr : Bool) : Bool := if onC (dchk xs e) (gridC R D L G) = 0 then heldB R D L G gr (Dg.vl 4294967296 xs) e else false
def ansD (xs : List Nat) (e R D L G : Int) (gr : Bool) : Nat := if onC (dchk xs e) (gridC R D L G) = 0 then fD R D L G gr (Dg.vl 4294967296 xs) e else 0
def ansK (xs : List Nat) (e R D L G : Int) (gr : Bool) : Int := if onC (dchk xs e) (gridC R D L G) = 0 then fK R D L G gr (Dg.vl 4294967296 xs) e else 0

theorem gfind_any (R D L G : Int) (gr s : Bool) (ao : Option Addr) (ca : Nat) (xs : List Nat) (e : Int) (w : World) (hr : Rd w .u32 (.slice ao xs.length ca) xs) (sa : Dg.Small 4294967296 xs) (hT : Tab w) :
    Calls Tryd.prog 33 #[.agg #[.bool s, .slice ao xs.length ca, .int .i64 e], .agg #[.int .i64 R, .int .i64 D, .int .i64 L, .int .i64 G, .bool gr]] w (FindAns w (ansH xs e R D L G gr) (ansD xs e R D L G gr) (ansK xs e R D L G gr) (onC (dchk xs e) (gridC R D L G))) := by
  have herr : ¬onC (dchk xs e) (gridC R D L G) = 0 → ansH xs e R D L G gr = false ∧ ansD xs e R D L G gr = 0 ∧ ansK xs e R D L G gr = 0 := fun h => ⟨if_neg h, if_neg h, if_neg h⟩
  refine gfindW R D L G gr s ao _ ca e (dchk xs e) (gridC R D L G) _ _ _ _ w ?_ ?_ ?_ ?_ ?_ ?_ ?_
  · intro h
    have h1 : onC (dchk xs e) (gridC R D L G) = dchk xs e := if_neg h
    obtain ⟨a, b, c⟩ := herr (by rw [h1]; exact h)
    exact ⟨a, b, c, h1⟩
  · intro h h2
    have h1 : onC (dchk xs e) (gridC R D L G) = gridC R D L G := if_pos h
    obtain ⟨a, b, c⟩ := herr (by rw [h1]; exact h2)
    exact ⟨a, b, c, h1⟩
  · intro h h2
    exact (if_pos h).trans h2
  · intro w1 b
    exact dcheck_any s ao ca xs e w1 (hr.later b)
  · intro w1
    exact gcheck_any R D L G gr w1
  · intro w1
    exact of_dy s ao _ ca e w1
  · intro h h2 w1 b
    have h1 : onC (dchk xs e) (gridC R D L G) = 0 := (if_pos h).trans h2
    rw [show ansH xs e R D L G gr = _ from if_pos h1, show ansD xs e R D L G gr = _ from if_pos h1, show ansK xs e R D L G gr = _ from if_pos h1]
    obtain ⟨c1, e1, e2⟩ := dchk_zero h
    obtain ⟨n1, l1⟩ := chk_zero c1
    have ex : Dg.dg 4294967296 (Dg.vl 4294967296 xs) = xs := Dg.dg_vl _ (by omega) _ sa n1
    have := mfind_any R D L G gr s ao ca (Dg.vl 4294967296 xs) e w1 h2 (by rw [ex]; exact hr.later b) (by rw [ex]; exact l1) e1 e2 (hT.later b)
    rwa [ex] at this

end Go.Proofs.YtiiphandhpilgaaDoor
namespace Go.Proofs.YtiiphandhpilgaaDoor
open Go.RowKit
set_option maxRecDepth 100000 in
set_option maxHeartbeats 1600000 in
theorem gHoldsW (R D L G : Int) (gr s : Bool) (ao : Option Addr) (la ca : Nat) (e c : Int) (hd : Bool) (rd : Nat) (rk : Int) (w : World)
    (HF : ∀ w1, Below w.heap.size w w1 → Calls Tryd.prog 33 #[.agg #[.bool s, .slice ao la ca, .int .i64 e], .agg #[.int .i64 R, .int .i64 D, .int .i64 L, .int .i64 G, .bool gr]] w1 (FindAns w1 hd rd rk c)) :
    Calls Tryd.prog 19 #[.agg #[.bool s, .slice ao la ca, .int .i64 e], .agg #[.int .i64 R, .int .i64 D, .int .i64 L, .int .i64 G, .bool gr]] w fun z w' => z = .returned (.tuple #[.bool hd, .int .i64 c]) ∧ Below w.heap.size w w' := by
  replace HF : Hid _ := HF
  have b1 := below_trans (below_alloc w (.cells #[.bool s, .slice ao la ca, .int .i64 e] 59)) (below_alloc _ (.cells #[.int .i64 R, .int .i64 D, .int .i64 L, .int .i64 G, .bool gr] 40))
  have q1 := (locE_new w [.bool s, .slice ao la ca, .int .i64 e] 59).later (below_alloc _ (.cells #[.int .i64 R, .int .i64 D, .int .i64 L, .int .i64 G, .bool gr] 40))
  have g1 := locE_new (w.alloc (.cells #[.bool s, .slice ao la ca, .int .i64 e] 59)) [.int .i64 R, .int .i64 D, .int .i64 L, .int .i64 G, .bool gr] 40
  simp only [World.size_alloc] at g1
  have x0 := g1.cell 0 rfl
  have x1 := g1.cell 1 rfl
  have x2 := g1.cell 2 rfl
  have x3 := g1.cell 3 rfl
  have x4 := g1.cell 4 rfl
  have y0 := q1.cell 0 rfl
  have y1 := q1.cell 1 rfl
  have y2 := q1.cell 2 rfl
  go_enter Tryd.func19, Tryd.ntmps19
  go_wp2_with fail
  refine (HF.out _ b1).mono ?_
  rintro z w2 ⟨u, rfl, ou, bb2⟩
  obtain ⟨so, sc, hu⟩ := ou.rd.shape
  subst hu
  clear ou x0 x1 x2 x3 x4 y0 y1 y2
  have b2 := below_trans b1 bb2
  have b3 := below_trans b2 (below_alloc w2 (.cells #[.slice so (Dg.dg 4294967296 rd).length sc, .int .i64 rk] 79))
  go_wp2
  go_ret2
  exact ⟨rfl, b3⟩

end Go.Proofs.YtiiphandhpilgaaDoor
namespace Go.Proofs.YtiiphandhpilgaaDoor
open Go.RowKit
theorem gHolds_any (R D L G : Int) (gr s : Bool) (ao : Option Addr) (ca : Nat) (xs : List Nat) (e : Int) (w : World) (hr : Rd w .u32 (.slice ao xs.length ca) xs) (sa : Dg.Small 4294967296 xs) (hT : Tab w) :
    Calls Tryd.prog 19 #[.agg #[.bool s, .slice ao xs.length ca, .int .i64 e], .agg #[.int .i64 R, .int .i64 D, .int .i64 L, .int .i64 G, .bool gr]] w fun z w' => z = .returned (.tuple #[.bool (ansH xs e R D L G gr), .int .i64 (onC (dchk xs e) (gridC R D L G))]) ∧ Below w.heap.size w w' :=
  gHoldsW R D L G gr s ao _ ca e _ _ _ _ w (fun w1 b => gfind_any R D L G gr s ao ca xs e w1 (hr.later b) sa (hT.later b))

end Go.Proofs.YtiiphandhpilgaaDoor

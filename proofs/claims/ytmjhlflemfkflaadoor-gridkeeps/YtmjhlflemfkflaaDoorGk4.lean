/-
  Grids: the walk of GridKeeps.
-/
import Derived.Test.YtmjhlflemfkflaaDoorGj
import Derived.Test.YtmjhlflemfkflaaDoorGi
import Derived.Deep.Cut
import Derived.Deep.DeepCutAuto
namespace Go.Proofs.YtmjhlflemfkflaaDoor
open Go.RowKit

/-- What lies there behind the first call of rounded. -/
def KeepS (_w : World) (s11 s12 : Value) (ys : Bool) (yn : Nat) (ye : Int) (wx : World) : Prop :=
  ∃ pb so sc, s11 = .pointer (some ⟨pb, 0, none⟩) ∧ s12 = .bool true ∧ LocE wx pb 25 [.bool ys, .slice so (Dg.dg 4294967296 yn).length sc, .int .i64 ye] ∧ Rd wx .u32 (.slice so (Dg.dg 4294967296 yn).length sc) (Dg.dg 4294967296 yn)

theorem keepS_new {w wr : World} {ys : Bool} {yn : Nat} {ye : Int} {so : Option Addr} {sc : Nat} (ho : Own wr w.heap.size 69 .u32 (.slice so (Dg.dg 4294967296 yn).length sc) (Dg.dg 4294967296 yn)) :
    KeepS w (.pointer (some ⟨wr.heap.size, 0, none⟩)) (.bool true) ys yn ye (wr.alloc (.cells #[.bool ys, .slice so (Dg.dg 4294967296 yn).length sc, .int .i64 ye] 25)) :=
  ⟨_, so, sc, rfl, rfl, locE_new wr [.bool ys, .slice so (Dg.dg 4294967296 yn).length sc, .int .i64 ye] 25, (ho.later (below_alloc wr (.cells #[.bool ys, .slice so (Dg.dg 4294967296 yn).length sc, .int .i64 ye] 25))).rd⟩

theorem keepS_set {w wr : World} {ys : Bool} {yn : Nat} {ye : Int} {so : Option Addr} {sc nb : Nat} (hn : LocE wr nb 25 [.bool false, .slice none 0 0, .int .i64 0]) (ho : Own wr w.heap.size 69 .u32 (.slice so (Dg.dg 4294967296 yn).length sc) (Dg.dg 4294967296 yn)) :
    KeepS w (.pointer (some ⟨nb, 0, none⟩)) (.bool true) ys yn ye (((wr.setCell ⟨nb, 0, none⟩ (.bool ys)).setCell ⟨nb, 1, none⟩ (.slice so (Dg.dg 4294967296 yn).length sc)).setCell ⟨nb, 2, none⟩ (.int .i64 ye)) := by
  have bu := ((but_set wr nb 0 (.bool ys)).trans (but_set _ nb 1 (.slice so (Dg.dg 4294967296 yn).length sc))).trans (but_set _ nb 2 (.int .i64 ye))
  exact ⟨nb, so, sc, rfl, rfl, ((hn.set 0 _).set 1 _).set 2 _, (bu.own ho hn (by decide)).rd⟩

set_option maxRecDepth 100000 in
set_option maxHeartbeats 6400000 in
theorem gridKeepsW (s : Bool) (ao : Option Addr) (la ca : Nat) (e : Int) (qs : Bool) (no : Option Addr) (nl nc : Nat) (mo : Option Addr) (ml mc : Nat) (E R D L G : Int) (gr : Bool) (way c ch : Int) (hd ok : Bool) (ys : Bool) (yn : Nat) (ye : Int) (zs : Bool) (zn : Nat) (ze : Int) (w : World)
    (WC : IntKind.i64.wrap (1 + ch) = 1 + ch)
    (HBG : ∀ w1, Calls Tryd.prog 21 #[] w1 fun z w' => z = .returned (.bool true) ∧ Below w1.heap.size w1 w')
    (HH : ∀ w1, Below w.heap.size w w1 → Calls Tryd.prog 23 #[.agg #[.bool s, .slice ao la ca, .int .i64 e], .agg #[.int .i64 R, .int .i64 D, .int .i64 L, .int .i64 G, .bool gr]] w1 fun z w' => z = .returned (.tuple #[.bool hd, .int .i64 c]) ∧ Below w1.heap.size w1 w')
    (HCH : ∀ w1, Calls Tryd.prog 33 #[.int .i64 way, .int .i64 5] w1 fun z w' => z = .returned (.int .i64 ch) ∧ w' = w1)
    (HR1 : c = 0 → hd = true → ∀ ro rc w1, Below w.heap.size w w1 → Rd w1 .u32 (.slice ro 1 rc) [1] → Calls Tryd.prog 30 #[.agg #[.bool s, .slice ao la ca, .slice ro 1 rc, .int .i64 e], .agg #[.int .i64 R, .int .i64 D, .int .i64 L, .int .i64 G, .bool gr], .int .i64 (1 + ch)] w1 (RndRes w1 ⟨ys, yn, ye⟩ true))
    (HBA : c = 0 → hd = true → ∀ w1, Below w.heap.size w w1 → Calls Tryd.prog 34 #[.agg #[.bool s, .slice ao la ca, .int .i64 e]] w1 (DAns w1 (⟨ys, yn, ye⟩, 0)))
    (HSD : ∀ so sc tq tc w1, Rd w1 .u32 (.slice so (Dg.dg 4294967296 yn).length sc) (Dg.dg 4294967296 yn) → Rd w1 .u32 (.slice tq (Dg.dg 4294967296 yn).length tc) (Dg.dg 4294967296 yn) → Calls Tryd.prog 31 #[.agg #[.bool ys, .slice so (Dg.dg 4294967296 yn).length sc, .int .i64 ye], .agg #[.bool ys, .slice tq (Dg.dg 4294967296 yn).length tc, .int .i64 ye]] w1 fun z w' => z = .returned (.bool true) ∧ Below w1.heap.size w1 w')
    (HR2 : ∀ w1, Below w.heap.size w w1 → Calls Tryd.prog 30 #[.agg #[.bool qs, .slice no nl nc, .slice mo ml mc, .int .i64 E], .agg #[.int .i64 R, .int .i64 D, .int .i64 L, .int .i64 G, .bool gr], .int .i64 way] w1 (RndRes w1 ⟨zs, zn, ze⟩ ok))
    (HH2 : ok = true → ∀ so sc w1, Below w.heap.size w w1 → Rd w1 .u32 (.slice so (Dg.dg 4294967296 zn).length sc) (Dg.dg 4294967296 zn) → Calls Tryd.prog 23 #[.agg #[.bool zs, .slice so (Dg.dg 4294967296 zn).length sc, .int .i64 ze], .agg #[.int .i64 R, .int .i64 D, .int .i64 L, .int .i64 G, .bool gr]] w1 fun z w' => z = .returned (.tuple #[.bool true, .int .i64 0]) ∧ Below w1.heap.size w1 w') :
    Calls Tryd.prog 8 #[.agg #[.bool s, .slice ao la ca, .int .i64 e], .agg #[.bool qs, .slice no nl nc, .slice mo ml mc, .int .i64 E], .agg #[.int .i64 R, .int .i64 D, .int .i64 L, .int .i64 G, .bool gr], .int .i64 way] w fun z w' => z = .returned (.bool true) ∧ Below w.heap.size w w' := by
  replace HBG : Hid _ := HBG
  replace HH : Hid _ := HH
  replace HCH : Hid _ := HCH
  replace HR1 : Hid _ := HR1
  replace HBA : Hid _ := HBA
  replace HSD : Hid _ := HSD
  replace HR2 : Hid _ := HR2
  replace HH2 : Hid _ := HH2
  have b1 := below_trans (below_trans (below_alloc w (.cells #[.bool s, .slice ao la ca, .int .i64 e] 25)) (below_alloc _ (.cells #[.bool qs, .slice no nl nc, .slice mo ml mc, .int .i64 E] 62))) (below_alloc _ (.cells #[.int .i64 R, .int .i64 D, .int .i64 L, .int .i64 G, .bool gr] 39))
  have d1 := ((locE_new w [.bool s, .slice ao la ca, .int .i64 e] 25).later (below_alloc _ (.cells #[.bool qs, .slice no nl nc, .slice mo ml mc, .int .i64 E] 62))).later (below_alloc _ (.cells #[.int .i64 R, .int .i64 D, .int .i64 L, .int .i64 G, .bool gr] 39))
  have q1 := (locE_new (w.alloc (.cells #[.bool s, .slice ao la ca, .int .i64 e] 25)) [.bool qs, .slice no nl nc, .slice mo ml mc, .int .i64 E] 62).later (below_alloc _ (.cells #[.int .i64 R, .int .i64 D, .int .i64 L, .int .i64 G, .bool gr] 39))
  have g1 := locE_new ((w.alloc (.cells #[.bool s, .slice ao la ca, .int .i64 e] 25)).alloc (.cells #[.bool qs, .slice no nl nc, .slice mo ml mc, .int .i64 E] 62)) [.int .i64 R, .int .i64 D, .int .i64 L, .int .i64 G, .bool gr] 39
  simp only [World.size_alloc] at q1 g1
  go_enter Tryd.func8, Tryd.ntmps8
  go_wp2_with fail
  refine (HBG.out _).mono ?_
  rintro z w2 ⟨rfl, bb2⟩
  have d_2 := d1.later bb2
  have q_2 := q1.later bb2
  have g_2 := g1.later bb2
  have b0_2 := below_trans b1 bb2
  clear d1 q1 g1 b1 bb2
  have x0 := d_2.cell 0 rfl
  have x1 := d_2.cell 1 rfl
  have x2 := d_2.cell 2 rfl
  have y0 := g_2.cell 0 rfl
  have y1 := g_2.cell 1 rfl
  have y2 := g_2.cell 2 rfl
  have y3 := g_2.cell 3 rfl
  have y4 := g_2.cell 4 rfl
  go_wp2_with fail
  refine (HH.out _ b0_2).mono ?_
  rintro z w3 ⟨rfl, bb3⟩
  have d_3 := d_2.later bb3
  have q_3 := q_2.later bb3
  have g_3 := g_2.later bb3
  have b0_3 := below_trans b0_2 bb3
  clear d_2 q_2 g_2 b0_2 bb3
  clear x0 x1 x2 y0 y1 y2 y3 y4
  have hG3 : w.heap.size + 1 + 1 < w3.heap.size := g_3.lt
  go_upto_region 4 with fail
  by_cases hact : c = 0 ∧ hd = true
  · obtain ⟨rfl, rfl⟩ := hact
    have HR : Hid _ := HR1.out rfl rfl
    have HA : Hid _ := HBA.out rfl rfl
    clear HR1 HBA
    have al_B := below_alloc w3 (.cells #[.int .u32 1] 69)
    have al_A := below_alloc w3 (.cells #[.bool false, .slice none 0 0, .int .i64 0] 25)
    have al_BA := below_trans al_B (below_alloc (w3.alloc (.cells #[.int .u32 1] 69)) (.cells #[.bool false, .slice none 0 0, .int .i64 0] 25))
    have al_AB := below_trans al_A (below_alloc (w3.alloc (.cells #[.bool false, .slice none 0 0, .int .i64 0] 25)) (.cells #[.int .u32 1] 69))
    have d_B := (d_3.later al_B).drew
    have q_B := (q_3.later al_B).drew
    have g_B := (g_3.later al_B).drew
    have b_B := below_trans (below_trans b0_3 al_B) ((Below.refl _ _).drew)
    have xB0 := d_B.cell 0 rfl
    have xB1 := d_B.cell 1 rfl
    have xB2 := d_B.cell 2 rfl
    have yB0 := g_B.cell 0 rfl
    have yB1 := g_B.cell 1 rfl
    have yB2 := g_B.cell 2 rfl
    have yB3 := g_B.cell 3 rfl
    have yB4 := g_B.cell 4 rfl
    have d_A := (d_3.later al_A).drew
    have q_A := (q_3.later al_A).drew
    have g_A := (g_3.later al_A).drew
    have b_A := below_trans (below_trans b0_3 al_A) ((Below.refl _ _).drew)
    have xA0 := d_A.cell 0 rfl
    have xA1 := d_A.cell 1 rfl
    have xA2 := d_A.cell 2 rfl
    have yA0 := g_A.cell 0 rfl
    have yA1 := g_A.cell 1 rfl
    have yA2 := g_A.cell 2 rfl
    have yA3 := g_A.cell 3 rfl
    have yA4 := g_A.cell 4 rfl
    have d_BA := (d_3.later al_BA).drew
    have q_BA := (q_3.later al_BA).drew
    have g_BA := (g_3.later al_BA).drew
    have b_BA := below_trans (below_trans b0_3 al_BA) ((Below.refl _ _).drew)
    have xBA0 := d_BA.cell 0 rfl
    have xBA1 := d_BA.cell 1 rfl
    have xBA2 := d_BA.cell 2 rfl
    have yBA0 := g_BA.cell 0 rfl
    have yBA1 := g_BA.cell 1 rfl
    have yBA2 := g_BA.cell 2 rfl
    have yBA3 := g_BA.cell 3 rfl
    have yBA4 := g_BA.cell 4 rfl
    have d_AB := (d_3.later al_AB).drew
    have q_AB := (q_3.later al_AB).drew
    have g_AB := (g_3.later al_AB).drew
    have b_AB := below_trans (below_trans b0_3 al_AB) ((Below.refl _ _).drew)
    have xAB0 := d_AB.cell 0 rfl
    have xAB1 := d_AB.cell 1 rfl
    have xAB2 := d_AB.cell 2 rfl
    have yAB0 := g_AB.cell 0 rfl
    have yAB1 := g_AB.cell 1 rfl
    have yAB2 := g_AB.cell 2 rfl
    have yAB3 := g_AB.cell 3 rfl
    have yAB4 := g_AB.cell 4 rfl
    have one_B := (rd_new (w := w3) (k := .u32) (e := 69) [1] #[.int .u32 1] rfl (by unfold maxLen; simp)).later ((Below.refl _ _).drew)
    have one_BA := ((rd_new (w := w3) (k := .u32) (e := 69) [1] #[.int .u32 1] rfl (by unfold maxLen; simp)).later (below_alloc (w3.alloc (.cells #[.int .u32 1] 69)) (.cells #[.bool false, .slice none 0 0, .int .i64 0] 25))).later ((Below.refl _ _).drew)
    have one_AB := (rd_new (w := w3.alloc (.cells #[.bool false, .slice none 0 0, .int .i64 0] 25)) (k := .u32) (e := 69) [1] #[.int .u32 1] rfl (by unfold maxLen; simp)).later ((Below.refl _ _).drew)
    have new_BA := (locE_new (w3.alloc (.cells #[.int .u32 1] 69)) [.bool false, .slice none 0 0, .int .i64 0] 25).drew
    have new_AB := ((locE_new w3 [.bool false, .slice none 0 0, .int .i64 0] 25).later (below_alloc (w3.alloc (.cells #[.bool false, .slice none 0 0, .int .i64 0] 25)) (.cells #[.int .u32 1] 69))).drew
    simp only [World.size_alloc] at new_BA one_AB
    have bd_3 : Below w3.heap.size w3 w3.drew := (Below.refl _ _).drew
    have d_4 := d_3.later bd_3
    have q_4 := q_3.later bd_3
    have g_4 := g_3.later bd_3
    have b0_4 := below_trans b0_3 bd_3
    clear d_3 q_3 g_3 b0_3 bd_3
    have x0 := d_4.cell 0 rfl
    have x1 := d_4.cell 1 rfl
    have x2 := d_4.cell 2 rfl
    have y0 := g_4.cell 0 rfl
    have y1 := g_4.cell 1 rfl
    have y2 := g_4.cell 2 rfl
    have y3 := g_4.cell 3 rfl
    have y4 := g_4.cell 4 rfl
    have nn0 : w3.heap.size ≠ w.heap.size := by omega
    have nn1 : w3.heap.size ≠ w.heap.size + 1 + 1 := by omega
    have nn2 : w3.heap.size + 1 ≠ w.heap.size := by omega
    have nn3 : w3.heap.size + 1 ≠ w.heap.size + 1 + 1 := by omega
    have nn4 : w3.heap.size ≠ w.heap.size + 1 := by omega
    have nn5 : w3.heap.size + 1 ≠ w.heap.size + 1 := by omega
    go_upto_region 5 with fail
    go_cut [11, 12] (fun s11 s12 wx => KeepS w s11 s12 ys yn ye wx ∧ LocE wx w.heap.size 25 [.bool s, .slice ao la ca, .int .i64 e] ∧ LocE wx (w.heap.size + 1) 62 [.bool qs, .slice no nl nc, .slice mo ml mc, .int .i64 E] ∧ LocE wx (w.heap.size + 1 + 1) 39 [.int .i64 R, .int .i64 D, .int .i64 L, .int .i64 G, .bool gr] ∧ Below w.heap.size w wx)
    case first =>
      go_wp2_with fail
      go_region_held3 (fun wq => (wq.cell? ⟨w.heap.size, 0, none⟩ = some (.bool s) ∧ wq.cell? ⟨w.heap.size, 1, none⟩ = some (.slice ao la ca) ∧ wq.cell? ⟨w.heap.size, 2, none⟩ = some (.int .i64 e)) ∧ wq.cell? ⟨w.heap.size + 1 + 1, 0, none⟩ = some (.int .i64 R) ∧ wq.cell? ⟨w.heap.size + 1 + 1, 1, none⟩ = some (.int .i64 D) ∧ wq.cell? ⟨w.heap.size + 1 + 1, 2, none⟩ = some (.int .i64 L) ∧ wq.cell? ⟨w.heap.size + 1 + 1, 3, none⟩ = some (.int .i64 G) ∧ wq.cell? ⟨w.heap.size + 1 + 1, 4, none⟩ = some (.bool gr)) (go_keep) (first
        | (go_at_call 33; refine (HCH.out _).mono ?_; rintro z wq ⟨rfl, rfl⟩)
        | (go_at_call 30; (with_reducible (refine (HR.out _ _ _ b_B one_B).mono ?_)); rintro z wr ⟨vy, rfl, oy, by1⟩; obtain ⟨so, sc, hvy⟩ := oy.rd.shape; subst hvy; have oL := oy.lower b_B.size; have d_r := d_B.later by1; have q_r := q_B.later by1; have g_r := g_B.later by1; have b_r := below_trans b_B by1; have xr0 := d_r.cell 0 rfl; have xr1 := d_r.cell 1 rfl; have xr2 := d_r.cell 2 rfl; have yr0 := g_r.cell 0 rfl; have yr1 := g_r.cell 1 rfl; have yr2 := g_r.cell 2 rfl; have yr3 := g_r.cell 3 rfl; have yr4 := g_r.cell 4 rfl; have ub := below_alloc wr (.cells #[.bool false, .slice none 0 0, .int .i64 0] 25); have ud := d_r.later ub; have ug := g_r.later ub; have ux0 := ud.cell 0 rfl; have ux1 := ud.cell 1 rfl; have ux2 := ud.cell 2 rfl; have uy0 := ug.cell 0 rfl; have uy1 := ug.cell 1 rfl; have uy2 := ug.cell 2 rfl; have uy3 := ug.cell 3 rfl; have uy4 := ug.cell 4 rfl; have vb := below_alloc wr (.cells #[.bool ys, .slice so (Dg.dg 4294967296 yn).length sc, .int .i64 ye] 25); have vd := d_r.later vb; have vg := g_r.later vb; have vx0 := vd.cell 0 rfl; have vx1 := vd.cell 1 rfl; have vx2 := vd.cell 2 rfl; have vy0 := vg.cell 0 rfl; have vy1 := vg.cell 1 rfl; have vy2 := vg.cell 2 rfl; have vy3 := vg.cell 3 rfl; have vy4 := vg.cell 4 rfl; have nr0 : wr.heap.size ≠ w.heap.size := (by have := g_r.lt; omega); have nr1 : wr.heap.size ≠ w.heap.size + 1 + 1 := (by have := g_r.lt; omega))
        | (go_at_call 30; (with_reducible (refine (HR.out _ _ _ b_BA one_BA).mono ?_)); rintro z wr ⟨vy, rfl, oy, by1⟩; obtain ⟨so, sc, hvy⟩ := oy.rd.shape; subst hvy; have oL := oy.lower b_BA.size; have d_r := d_BA.later by1; have q_r := q_BA.later by1; have g_r := g_BA.later by1; have b_r := below_trans b_BA by1; have xr0 := d_r.cell 0 rfl; have xr1 := d_r.cell 1 rfl; have xr2 := d_r.cell 2 rfl; have yr0 := g_r.cell 0 rfl; have yr1 := g_r.cell 1 rfl; have yr2 := g_r.cell 2 rfl; have yr3 := g_r.cell 3 rfl; have yr4 := g_r.cell 4 rfl; have new_r := new_BA.later by1; have z0 := new_r.cell 0 rfl; have f0 := new_r.free 0; have z1 := new_r.cell 1 rfl; have f1 := new_r.free 1; have z2 := new_r.cell 2 rfl; have f2 := new_r.free 2)
        | (go_at_call 30; (with_reducible (refine (HR.out _ _ _ b_AB one_AB).mono ?_)); rintro z wr ⟨vy, rfl, oy, by1⟩; obtain ⟨so, sc, hvy⟩ := oy.rd.shape; subst hvy; have oL := oy.lower b_AB.size; have d_r := d_AB.later by1; have q_r := q_AB.later by1; have g_r := g_AB.later by1; have b_r := below_trans b_AB by1; have xr0 := d_r.cell 0 rfl; have xr1 := d_r.cell 1 rfl; have xr2 := d_r.cell 2 rfl; have yr0 := g_r.cell 0 rfl; have yr1 := g_r.cell 1 rfl; have yr2 := g_r.cell 2 rfl; have yr3 := g_r.cell 3 rfl; have yr4 := g_r.cell 4 rfl; have new_r := new_AB.later by1; have z0 := new_r.cell 0 rfl; have f0 := new_r.free 0; have z1 := new_r.cell 1 rfl; have f1 := new_r.free 1; have z2 := new_r.cell 2 rfl; have f2 := new_r.free 2))
      all_goals (go_wp2_with fail)
      all_goals (first
        | (go_meet; exact ⟨keepS_new oL, d_r.later vb, q_r.later vb, g_r.later vb, below_trans b_r vb⟩)
        | (go_meet; have bu := ((but_set wr (w3.heap.size) 0 (.bool ys)).trans (but_set _ (w3.heap.size) 1 (.slice so (Dg.dg 4294967296 yn).length sc))).trans (but_set _ (w3.heap.size) 2 (.int .i64 ye)); exact ⟨keepS_set new_r oL, bu.loc d_r (by omega), bu.loc q_r (by omega), bu.loc g_r (by omega), bu.below b_r (by omega)⟩)
        | (go_meet; have bu := ((but_set wr (w3.heap.size + 1) 0 (.bool ys)).trans (but_set _ (w3.heap.size + 1) 1 (.slice so (Dg.dg 4294967296 yn).length sc))).trans (but_set _ (w3.heap.size + 1) 2 (.int .i64 ye)); exact ⟨keepS_set new_r oL, bu.loc d_r (by omega), bu.loc q_r (by omega), bu.loc g_r (by omega), bu.below b_r (by omega)⟩))
    case rest =>
      obtain ⟨⟨pb, so, sc, rfl, rfl, n9, r9⟩, d9, q9, g9, b9⟩ := hcut
      clear d_4 q_4 g_4 b0_4 d_B d_A d_BA d_AB q_B q_A q_BA q_AB g_B g_A g_BA g_AB b_B b_A b_BA b_AB al_B al_A al_BA al_AB one_B one_BA one_AB new_BA new_AB xB0 xB1 xB2 xA0 xA1 xA2 xBA0 xBA1 xBA2 xAB0 xAB1 xAB2 yB0 yB1 yB2 yB3 yB4 yA0 yA1 yA2 yA3 yA4 yBA0 yBA1 yBA2 yBA3 yBA4 yAB0 yAB1 yAB2 yAB3 yAB4 x0 x1 x2 y0 y1 y2 y3 y4
      have x0 := d9.cell 0 rfl
      have x1 := d9.cell 1 rfl
      have x2 := d9.cell 2 rfl
      go_wp2_with fail
      refine (HA.out _ b9).mono ?_
      rintro z we ⟨ve, rfl, oe, bbe⟩
      obtain ⟨tq, tc, hve⟩ := oe.rd.shape
      subst hve
      have re := oe.rd
      simp only at re ⊢
      clear oe x0 x1 x2
      have d_51 := d9.later bbe
      have q_51 := q9.later bbe
      have g_51 := g9.later bbe
      have n_51 := n9.later bbe
      have r_51 := r9.later bbe
      have b0_51 := below_trans b9 bbe
      clear d9 q9 g9 n9 r9 b9 bbe
      have ae := below_alloc we (.cells #[.bool ys, .slice tq (Dg.dg 4294967296 yn).length tc, .int .i64 ye] 25)
      have e9 := locE_new we [.bool ys, .slice tq (Dg.dg 4294967296 yn).length tc, .int .i64 ye] 25
      have d_52 := d_51.later ae
      have q_52 := q_51.later ae
      have g_52 := g_51.later ae
      have n_52 := n_51.later ae
      have r_52 := r_51.later ae
      have e_52 := re.later ae
      have b0_52 := below_trans b0_51 ae
      clear d_51 q_51 g_51 n_51 r_51 re b0_51 ae
      go_upto_region 7 with fail
      generalize we.alloc (.cells #[.bool ys, .slice tq (Dg.dg 4294967296 yn).length tc, .int .i64 ye] 25) = WE at d_52 q_52 g_52 n_52 r_52 e_52 e9 b0_52 ⊢
      generalize we.heap.size = PE at e9 ⊢
      have x0 := n_52.cell 0 rfl
      have x1 := n_52.cell 1 rfl
      have x2 := n_52.cell 2 rfl
      have y0 := e9.cell 0 rfl
      have y1 := e9.cell 1 rfl
      have y2 := e9.cell 2 rfl
      go_wp2_with fail
      refine (HSD.out _ _ _ _ _ r_52 e_52).mono ?_
      rintro z wf ⟨rfl, bbf⟩
      clear x0 x1 x2 y0 y1 y2
      have d_53 := d_52.later bbf
      have q_53 := q_52.later bbf
      have g_53 := g_52.later bbf
      have n_53 := n_52.later bbf
      have r_53 := r_52.later bbf
      have e_53 := e_52.later bbf
      have m_53 := e9.later bbf
      have b0_53 := below_trans b0_52 bbf
      clear d_52 q_52 g_52 n_52 r_52 e_52 e9 b0_52 bbf
      skip
      have x0 := q_53.cell 0 rfl
      have x1 := q_53.cell 1 rfl
      have x2 := q_53.cell 2 rfl
      have x3 := q_53.cell 3 rfl
      have y0 := g_53.cell 0 rfl
      have y1 := g_53.cell 1 rfl
      have y2 := g_53.cell 2 rfl
      have y3 := g_53.cell 3 rfl
      have y4 := g_53.cell 4 rfl
      go_wp2_with fail
      refine (HR2.out _ b0_53).mono ?_
      rintro z wa ⟨va, rfl, oa, ba⟩
      obtain ⟨to1, tc1, hva⟩ := oa.rd.shape
      subst hva
      have ra := oa.rd
      clear oa x0 x1 x2 x3 y0 y1 y2 y3 y4
      have q_54 := q_53.later ba
      have g_54 := g_53.later ba
      have b0_54 := below_trans b0_53 ba
      clear q_53 g_53 b0_53 ba
      skip
      have az := below_alloc wa (.cells #[.bool zs, .slice to1 (Dg.dg 4294967296 zn).length tc1, .int .i64 ze] 25)
      have z5 := locE_new wa [.bool zs, .slice to1 (Dg.dg 4294967296 zn).length tc1, .int .i64 ze] 25
      have q_55 := q_54.later az
      have g_55 := g_54.later az
      have r_55 := ra.later az
      have b0_55 := below_trans b0_54 az
      clear q_54 g_54 ra b0_54 az
      cases ok
      · go_wp2
        go_ret
        exact ⟨rfl, b0_55⟩
      · have HX : Hid _ := HH2.out rfl
        go_upto_region 12 with fail
        generalize wa.alloc (.cells #[.bool zs, .slice to1 (Dg.dg 4294967296 zn).length tc1, .int .i64 ze] 25) = WA at q_55 g_55 r_55 z5 b0_55 ⊢
        generalize wa.heap.size = PZ at z5 ⊢
        have x0 := z5.cell 0 rfl
        have x1 := z5.cell 1 rfl
        have x2 := z5.cell 2 rfl
        have y0 := g_55.cell 0 rfl
        have y1 := g_55.cell 1 rfl
        have y2 := g_55.cell 2 rfl
        have y3 := g_55.cell 3 rfl
        have y4 := g_55.cell 4 rfl
        go_wp2_with fail
        refine (HX.out _ _ _ b0_55 r_55).mono ?_
        rintro z wh ⟨rfl, bh⟩
        have bE := below_trans b0_55 bh
        go_wp2
        go_ret
        exact ⟨by simp, bE⟩
  · skip
    have hcut : ((c == 0) = false ∨ ((c == 0) = true ∧ hd = false)) := by
      by_cases hc : c = 0
      · refine .inr ⟨by simp [hc], ?_⟩
        cases hd
        · rfl
        · exact absurd ⟨hc, rfl⟩ hact
      · exact .inl (by simp [hc])
    clear HR1 HBA hact
    rcases hcut with hcf | ⟨hct, rfl⟩
    · skip
      skip
      have x0 := q_3.cell 0 rfl
      have x1 := q_3.cell 1 rfl
      have x2 := q_3.cell 2 rfl
      have x3 := q_3.cell 3 rfl
      have y0 := g_3.cell 0 rfl
      have y1 := g_3.cell 1 rfl
      have y2 := g_3.cell 2 rfl
      have y3 := g_3.cell 3 rfl
      have y4 := g_3.cell 4 rfl
      go_wp2_with fail
      refine (HR2.out _ b0_3).mono ?_
      rintro z wa ⟨va, rfl, oa, ba⟩
      obtain ⟨to1, tc1, hva⟩ := oa.rd.shape
      subst hva
      have ra := oa.rd
      clear oa x0 x1 x2 x3 y0 y1 y2 y3 y4
      have d_4 := d_3.later ba
      have q_4 := q_3.later ba
      have g_4 := g_3.later ba
      have b0_4 := below_trans b0_3 ba
      clear d_3 q_3 g_3 b0_3 ba
      skip
      have az := below_alloc wa (.cells #[.bool zs, .slice to1 (Dg.dg 4294967296 zn).length tc1, .int .i64 ze] 25)
      have z5 := locE_new wa [.bool zs, .slice to1 (Dg.dg 4294967296 zn).length tc1, .int .i64 ze] 25
      have d_5 := d_4.later az
      have q_5 := q_4.later az
      have g_5 := g_4.later az
      have r_5 := ra.later az
      have b0_5 := below_trans b0_4 az
      clear d_4 q_4 g_4 ra b0_4 az
      cases ok
      · go_wp2
        go_ret
        exact ⟨rfl, b0_5⟩
      · have HX : Hid _ := HH2.out rfl
        go_upto_region 12 with fail
        generalize wa.alloc (.cells #[.bool zs, .slice to1 (Dg.dg 4294967296 zn).length tc1, .int .i64 ze] 25) = WA at d_5 q_5 g_5 r_5 z5 b0_5 ⊢
        generalize wa.heap.size = PZ at z5 ⊢
        have x0 := z5.cell 0 rfl
        have x1 := z5.cell 1 rfl
        have x2 := z5.cell 2 rfl
        have y0 := g_5.cell 0 rfl
        have y1 := g_5.cell 1 rfl
        have y2 := g_5.cell 2 rfl
        have y3 := g_5.cell 3 rfl
        have y4 := g_5.cell 4 rfl
        go_wp2_with fail
        refine (HX.out _ _ _ b0_5 r_5).mono ?_
        rintro z wh ⟨rfl, bh⟩
        have bE := below_trans b0_5 bh
        go_wp2
        go_ret
        exact ⟨by simp, bE⟩
    · skip
      skip
      have x0 := q_3.cell 0 rfl
      have x1 := q_3.cell 1 rfl
      have x2 := q_3.cell 2 rfl
      have x3 := q_3.cell 3 rfl
      have y0 := g_3.cell 0 rfl
      have y1 := g_3.cell 1 rfl
      have y2 := g_3.cell 2 rfl
      have y3 := g_3.cell 3 rfl
      have y4 := g_3.cell 4 rfl
      go_wp2_with fail
      refine (HR2.out _ b0_3).mono ?_
      rintro z wa ⟨va, rfl, oa, ba⟩
      obtain ⟨to1, tc1, hva⟩ := oa.rd.shape
      subst hva
      have ra := oa.rd
      clear oa x0 x1 x2 x3 y0 y1 y2 y3 y4
      have d_4 := d_3.later ba
      have q_4 := q_3.later ba
      have g_4 := g_3.later ba
      have b0_4 := below_trans b0_3 ba
      clear d_3 q_3 g_3 b0_3 ba
      skip
      have az := below_alloc wa (.cells #[.bool zs, .slice to1 (Dg.dg 4294967296 zn).length tc1, .int .i64 ze] 25)
      have z5 := locE_new wa [.bool zs, .slice to1 (Dg.dg 4294967296 zn).length tc1, .int .i64 ze] 25
      have d_5 := d_4.later az
      have q_5 := q_4.later az
      have g_5 := g_4.later az
      have r_5 := ra.later az
      have b0_5 := below_trans b0_4 az
      clear d_4 q_4 g_4 ra b0_4 az
      cases ok
      · go_wp2
        go_ret
        exact ⟨rfl, b0_5⟩
      · have HX : Hid _ := HH2.out rfl
        go_upto_region 12 with fail
        generalize wa.alloc (.cells #[.bool zs, .slice to1 (Dg.dg 4294967296 zn).length tc1, .int .i64 ze] 25) = WA at d_5 q_5 g_5 r_5 z5 b0_5 ⊢
        generalize wa.heap.size = PZ at z5 ⊢
        have x0 := z5.cell 0 rfl
        have x1 := z5.cell 1 rfl
        have x2 := z5.cell 2 rfl
        have y0 := g_5.cell 0 rfl
        have y1 := g_5.cell 1 rfl
        have y2 := g_5.cell 2 rfl
        have y3 := g_5.cell 3 rfl
        have y4 := g_5.cell 4 rfl
        go_wp2_with fail
        refine (HX.out _ _ _ b0_5 r_5).mono ?_
        rintro z wh ⟨rfl, bh⟩
        have bE := below_trans b0_5 bh
        go_wp2
        go_ret
        exact ⟨by simp, bE⟩
end Go.Proofs.YtmjhlflemfkflaaDoor

/-
  Texts laid together: As4, Dl3.
-/
import Derived.Deep.CutBlock
import Derived.Test.YtnhackdjplppjaaGreatDoorAt19
import Derived.Test.YtnhackdjplppjaaGreatDoorAt23
set_option maxRecDepth 100000
namespace Go.Proofs.YtnhackdjplppjaaGreatDoor
open Go.RowKit
def SetRes (w : World) (c : Int) (g : Bool) (m : Nat) (q fl : Int) (z : Ending) (w' : World) : Prop :=
 ∃ v, z = .returned (.tuple #[.agg #[.int .i64 c, .bool g, v, .int .i64 q], .int .i64 fl]) ∧ Rd w' .u32 v (Dg.dg 4294967296 m) ∧ Below w.heap.size w w'
set_option maxHeartbeats 3200000 in
theorem settle_over (n wy fam R D L G pw : Int) (gr ng ex un : Bool) (ao : Option Addr) (la ca : Nat) (c q : Int) (g : Bool) (m : Nat) (w : World)
  (HO : ∀ w1, Below w.heap.size w w1 → Calls Tryz.prog 145 #[.agg #[.int .i64 n, .int .i64 wy, .int .i64 fam, .int .i64 R, .int .i64 D, .int .i64 L, .int .i64 G, .bool gr], .bool ng] w1 (ValRes w1 c g m q)) :
  Calls Tryz.prog 88 #[.agg #[.int .i64 n, .int .i64 wy, .int .i64 fam, .int .i64 R, .int .i64 D, .int .i64 L, .int .i64 G, .bool gr], .agg #[.bool ng, .slice ao la ca, .int .i64 pw, .bool ex, .bool true, .bool un]] w (SetRes w c g m q 5) := by
 replace HO : Hid _ := HO
 have a1 := below_alloc w (.cells #[.int .i64 n, .int .i64 wy, .int .i64 fam, .int .i64 R, .int .i64 D, .int .i64 L, .int .i64 G, .bool gr] 93)
 have a2 := below_alloc (w.alloc (.cells #[.int .i64 n, .int .i64 wy, .int .i64 fam, .int .i64 R, .int .i64 D, .int .i64 L, .int .i64 G, .bool gr] 93)) (.cells #[.bool ng, .slice ao la ca, .int .i64 pw, .bool ex, .bool true, .bool un] 86)
 have a3 := below_alloc ((w.alloc (.cells #[.int .i64 n, .int .i64 wy, .int .i64 fam, .int .i64 R, .int .i64 D, .int .i64 L, .int .i64 G, .bool gr] 93)).alloc (.cells #[.bool ng, .slice ao la ca, .int .i64 pw, .bool ex, .bool true, .bool un] 86)) (.cells #[.int .i64 0, .bool false, .slice none 0 0, .int .i64 0] 73)
 have d0 := ((locE_new w [.int .i64 n, .int .i64 wy, .int .i64 fam, .int .i64 R, .int .i64 D, .int .i64 L, .int .i64 G, .bool gr] 93).later a2).later a3
 have p0 := (locE_new (w.alloc (.cells #[.int .i64 n, .int .i64 wy, .int .i64 fam, .int .i64 R, .int .i64 D, .int .i64 L, .int .i64 G, .bool gr] 93)) [.bool ng, .slice ao la ca, .int .i64 pw, .bool ex, .bool true, .bool un] 86).later a3
 have v0 := locE_new ((w.alloc (.cells #[.int .i64 n, .int .i64 wy, .int .i64 fam, .int .i64 R, .int .i64 D, .int .i64 L, .int .i64 G, .bool gr] 93)).alloc (.cells #[.bool ng, .slice ao la ca, .int .i64 pw, .bool ex, .bool true, .bool un] 86)) [.int .i64 0, .bool false, .slice none 0 0, .int .i64 0] 73
 rw [World.size_alloc] at p0
 rw [World.size_alloc, World.size_alloc] at v0
 have b0 := below_trans (below_trans a1 a2) a3
 clear a1 a2 a3
 go_enter Tryz.func88, Tryz.ntmps88
 go_upto_block 0 with fail
 generalize ((w.alloc (.cells #[.int .i64 n, .int .i64 wy, .int .i64 fam, .int .i64 R, .int .i64 D, .int .i64 L, .int .i64 G, .bool gr] 93)).alloc (.cells #[.bool ng, .slice ao la ca, .int .i64 pw, .bool ex, .bool true, .bool un] 86)).alloc (.cells #[.int .i64 0, .bool false, .slice none 0 0, .int .i64 0] 73) = W0 at d0 p0 v0 b0 ⊢
 obtain ⟨y0, y1, y2, y3, y4, y5, y6, y7⟩ := d0.cs8
 obtain ⟨x0, x1, x2, x3, x4, x5⟩ := p0.cs6
 go_wp2_with fail
 refine (HO.out _ b0).mono ?_
 rintro z w1 ⟨u, rfl, r1, b1⟩
 obtain ⟨mo, mc, hu⟩ := r1.shape
 subst hu
 have v1 := v0.later b1
 have b01 := below_trans b0 b1
 clear y0 y1 y2 y3 y4 y5 y6 y7 x0 x1 x2 x3 x4 x5 d0 p0 v0 b0 b1 HO
 have cR : LocE ((((w1.setCell ⟨w.heap.size + 1 + 1, 0, none⟩ (.int .i64 c)).setCell ⟨w.heap.size + 1 + 1, 1, none⟩ (.bool g)).setCell ⟨w.heap.size + 1 + 1, 2, none⟩ (.slice mo (Dg.dg 4294967296 m).length mc)).setCell ⟨w.heap.size + 1 + 1, 3, none⟩ (.int .i64 q)) (w.heap.size + 1 + 1) 73 [.int .i64 c, .bool g, .slice mo (Dg.dg 4294967296 m).length mc, .int .i64 q] := ((((v1.set 0 (.int .i64 c)).set 1 (.bool g)).set 2 (.slice mo (Dg.dg 4294967296 m).length mc)).set 3 (.int .i64 q))
 have bu := (((but_set w1 (w.heap.size + 1 + 1) 0 (.int .i64 c)).trans (but_set _ (w.heap.size + 1 + 1) 1 (.bool g))).trans (but_set _ (w.heap.size + 1 + 1) 2 (.slice mo (Dg.dg 4294967296 m).length mc))).trans (but_set _ (w.heap.size + 1 + 1) 3 (.int .i64 q))
 have bR := bu.below b01 (by omega)
 have rR := bu.rd r1 (rd_offU r1 v1 (by simp))
 have hl := run_loadVar_mid (P := Tryz.prog) _ (w.heap.size + 1 + 1) 0 73 [.int .i64 c, .bool g, .slice mo (Dg.dg 4294967296 m).length mc, .int .i64 q] _ cR.range Tryz.underlying73 rfl (by kernel_rfl)
 have HH : Hid (_ ∧ _ ∧ _) := ⟨hl, rR, bR⟩
 obtain ⟨z0, z1, z2, z3⟩ := v1.cs4
 have fz0 := v1.free 0
 have fz1 := v1.free 1
 have fz2 := v1.free 2
 have fz3 := v1.free 3
 clear hl bR bu cR rR
 clear v1 b01 r1
 go_wp2
 obtain ⟨hl, rR, bR⟩ := HH.out
 exact bodyPost_ret (results_two Tryz.results88 rfl rfl hl) rfl ⟨_, rfl, rR, bR⟩
set_option maxHeartbeats 3200000 in
theorem settle_low (n wy fam R D L G pw : Int) (gr ng ex : Bool) (ao : Option Addr) (la ca : Nat) (w : World) (hlt : pw < L) :
  Calls Tryz.prog 88 #[.agg #[.int .i64 n, .int .i64 wy, .int .i64 fam, .int .i64 R, .int .i64 D, .int .i64 L, .int .i64 G, .bool gr], .agg #[.bool ng, .slice ao la ca, .int .i64 pw, .bool ex, .bool false, .bool true]] w (SetRes w 1 false 0 0 3) := by
 have a1 := below_alloc w (.cells #[.int .i64 n, .int .i64 wy, .int .i64 fam, .int .i64 R, .int .i64 D, .int .i64 L, .int .i64 G, .bool gr] 93)
 have a2 := below_alloc (w.alloc (.cells #[.int .i64 n, .int .i64 wy, .int .i64 fam, .int .i64 R, .int .i64 D, .int .i64 L, .int .i64 G, .bool gr] 93)) (.cells #[.bool ng, .slice ao la ca, .int .i64 pw, .bool ex, .bool false, .bool true] 86)
 have a3 := below_alloc ((w.alloc (.cells #[.int .i64 n, .int .i64 wy, .int .i64 fam, .int .i64 R, .int .i64 D, .int .i64 L, .int .i64 G, .bool gr] 93)).alloc (.cells #[.bool ng, .slice ao la ca, .int .i64 pw, .bool ex, .bool false, .bool true] 86)) (.cells #[.int .i64 0, .bool false, .slice none 0 0, .int .i64 0] 73)
 have d0 := ((locE_new w [.int .i64 n, .int .i64 wy, .int .i64 fam, .int .i64 R, .int .i64 D, .int .i64 L, .int .i64 G, .bool gr] 93).later a2).later a3
 have p0 := (locE_new (w.alloc (.cells #[.int .i64 n, .int .i64 wy, .int .i64 fam, .int .i64 R, .int .i64 D, .int .i64 L, .int .i64 G, .bool gr] 93)) [.bool ng, .slice ao la ca, .int .i64 pw, .bool ex, .bool false, .bool true] 86).later a3
 have v0 := locE_new ((w.alloc (.cells #[.int .i64 n, .int .i64 wy, .int .i64 fam, .int .i64 R, .int .i64 D, .int .i64 L, .int .i64 G, .bool gr] 93)).alloc (.cells #[.bool ng, .slice ao la ca, .int .i64 pw, .bool ex, .bool false, .bool true] 86)) [.int .i64 0, .bool false, .slice none 0 0, .int .i64 0] 73
 rw [World.size_alloc] at p0
 rw [World.size_alloc, World.size_alloc] at v0
 have b0 := below_trans (below_trans a1 a2) a3
 clear a1 a2 a3
 go_enter Tryz.func88, Tryz.ntmps88
 go_upto_block 0 with fail
 generalize ((w.alloc (.cells #[.int .i64 n, .int .i64 wy, .int .i64 fam, .int .i64 R, .int .i64 D, .int .i64 L, .int .i64 G, .bool gr] 93)).alloc (.cells #[.bool ng, .slice ao la ca, .int .i64 pw, .bool ex, .bool false, .bool true] 86)).alloc (.cells #[.int .i64 0, .bool false, .slice none 0 0, .int .i64 0] 73) = W0 at d0 p0 v0 b0 ⊢
 obtain ⟨x0, x1, x2, x3, x4, x5⟩ := p0.cs6
 have y5 := d0.cell 5 rfl
 have cR : LocE ((((W0.setCell ⟨w.heap.size + 1 + 1, 0, none⟩ (.int .i64 1)).setCell ⟨w.heap.size + 1 + 1, 1, none⟩ (.bool false)).setCell ⟨w.heap.size + 1 + 1, 2, none⟩ (.slice none 0 0)).setCell ⟨w.heap.size + 1 + 1, 3, none⟩ (.int .i64 0)) (w.heap.size + 1 + 1) 73 [.int .i64 1, .bool false, .slice none 0 0, .int .i64 0] := ((((v0.set 0 (.int .i64 1)).set 1 (.bool false)).set 2 (.slice none 0 0)).set 3 (.int .i64 0))
 have bu := (((but_set W0 (w.heap.size + 1 + 1) 0 (.int .i64 1)).trans (but_set _ (w.heap.size + 1 + 1) 1 (.bool false))).trans (but_set _ (w.heap.size + 1 + 1) 2 (.slice none 0 0))).trans (but_set _ (w.heap.size + 1 + 1) 3 (.int .i64 0))
 have bR := bu.below b0 (by omega)
 have hl := run_loadVar_mid (P := Tryz.prog) _ (w.heap.size + 1 + 1) 0 73 [.int .i64 1, .bool false, .slice none 0 0, .int .i64 0] _ cR.range Tryz.underlying73 rfl (by kernel_rfl)
 have HH : Hid (_ ∧ _) := ⟨hl, bR⟩
 obtain ⟨z0, z1, z2, z3⟩ := v0.cs4
 have fz0 := v0.free 0
 have fz1 := v0.free 1
 have fz2 := v0.free 2
 have fz3 := v0.free 3
 clear hl bR bu cR
 clear v0 b0 d0 p0
 go_wp2
 obtain ⟨hl, bR⟩ := HH.out
 exact bodyPost_ret (results_two Tryz.results88 rfl rfl hl) rfl ⟨_, rfl, rd_nil _ _, bR⟩
set_option maxHeartbeats 6400000 in
theorem settle_in (n wy fam R D L G pw : Int) (gr ng ex un : Bool) (ao : Option Addr) (la ca : Nat) (m : Nat) (w : World) (hla : la = (Dg.dg 4294967296 m).length) (hr : Rd w .u32 (.slice ao la ca) (Dg.dg 4294967296 m)) (hlt : un = true → ¬ pw < L) (cl fl : Int) (hcl : cl = if la = 0 then 1 else 2) (hfl : fl = if ex = true then 0 else if un = true then 3 else 1) :
  Calls Tryz.prog 88 #[.agg #[.int .i64 n, .int .i64 wy, .int .i64 fam, .int .i64 R, .int .i64 D, .int .i64 L, .int .i64 G, .bool gr], .agg #[.bool ng, .slice ao la ca, .int .i64 pw, .bool ex, .bool false, .bool un]] w (SetRes w cl ng m pw fl) := by
 have HE : Hid (la = (Dg.dg 4294967296 m).length ∧ cl = (if la = 0 then 1 else 2) ∧ fl = if ex = true then 0 else if un = true then 3 else 1) := ⟨hla, hcl, hfl⟩
 clear hcl hfl hla
 have a1 := below_alloc w (.cells #[.int .i64 n, .int .i64 wy, .int .i64 fam, .int .i64 R, .int .i64 D, .int .i64 L, .int .i64 G, .bool gr] 93)
 have a2 := below_alloc (w.alloc (.cells #[.int .i64 n, .int .i64 wy, .int .i64 fam, .int .i64 R, .int .i64 D, .int .i64 L, .int .i64 G, .bool gr] 93)) (.cells #[.bool ng, .slice ao la ca, .int .i64 pw, .bool ex, .bool false, .bool un] 86)
 have a3 := below_alloc ((w.alloc (.cells #[.int .i64 n, .int .i64 wy, .int .i64 fam, .int .i64 R, .int .i64 D, .int .i64 L, .int .i64 G, .bool gr] 93)).alloc (.cells #[.bool ng, .slice ao la ca, .int .i64 pw, .bool ex, .bool false, .bool un] 86)) (.cells #[.int .i64 0, .bool false, .slice none 0 0, .int .i64 0] 73)
 have d0 := ((locE_new w [.int .i64 n, .int .i64 wy, .int .i64 fam, .int .i64 R, .int .i64 D, .int .i64 L, .int .i64 G, .bool gr] 93).later a2).later a3
 have p0 := (locE_new (w.alloc (.cells #[.int .i64 n, .int .i64 wy, .int .i64 fam, .int .i64 R, .int .i64 D, .int .i64 L, .int .i64 G, .bool gr] 93)) [.bool ng, .slice ao la ca, .int .i64 pw, .bool ex, .bool false, .bool un] 86).later a3
 have v0 := locE_new ((w.alloc (.cells #[.int .i64 n, .int .i64 wy, .int .i64 fam, .int .i64 R, .int .i64 D, .int .i64 L, .int .i64 G, .bool gr] 93)).alloc (.cells #[.bool ng, .slice ao la ca, .int .i64 pw, .bool ex, .bool false, .bool un] 86)) [.int .i64 0, .bool false, .slice none 0 0, .int .i64 0] 73
 rw [World.size_alloc] at p0
 rw [World.size_alloc, World.size_alloc] at v0
 have b0 := below_trans (below_trans a1 a2) a3
 clear a1 a2 a3
 go_enter Tryz.func88, Tryz.ntmps88
 go_upto_block 0 with fail
 generalize ((w.alloc (.cells #[.int .i64 n, .int .i64 wy, .int .i64 fam, .int .i64 R, .int .i64 D, .int .i64 L, .int .i64 G, .bool gr] 93)).alloc (.cells #[.bool ng, .slice ao la ca, .int .i64 pw, .bool ex, .bool false, .bool un] 86)).alloc (.cells #[.int .i64 0, .bool false, .slice none 0 0, .int .i64 0] 73) = W0 at d0 p0 v0 b0 ⊢
 have r0 := hr.later b0
 clear hr
 have al := below_alloc W0 (.cells #[.int .i64 2, .bool ng, .slice ao la ca, .int .i64 pw] 73)
 have q1 := locE_new W0 [.int .i64 2, .bool ng, .slice ao la ca, .int .i64 pw] 73
 have p1 := p0.later al
 have v1 := v0.later al
 have r1 := r0.later al
 have b1 := below_trans b0 al
 have hq : w.heap.size + 1 + 1 < W0.heap.size := v0.lt
 have hne : W0.heap.size ≠ w.heap.size + 1 := by omega
 obtain ⟨x0, x1, x2, x3, x4, x5⟩ := p0.cs6
 have y5 := d0.cell 5 rfl
 clear al p0 v0 b0 r0
 have go : ∀ UU, UU = un → (UU = false ∨ (UU = true ∧ ¬ pw < L)) := fun UU h => by
  subst h
  cases UU
  ·exact .inl rfl
  ·exact .inr ⟨rfl, hlt rfl⟩
 rcases go un rfl with hun | ⟨hun, hl0⟩
 ·subst hun
  clear hlt go
  go_upto_region 6 with fail
  generalize W0.alloc (.cells #[.int .i64 2, .bool ng, .slice ao la ca, .int .i64 pw] 73) = WA at q1 p1 v1 r1 b1 ⊢
  generalize W0.heap.size = Q at q1 hq hne ⊢
  clear x0 x1 x2 x3 x4 x5 y5 d0
  obtain ⟨x0, x1, x2, x3, x4, x5⟩ := p1.cs6
  by_cases hz : la = 0
  ·have hz1 : (((la : Nat) : Int) == 0) = true := by rw [hz]; rfl
   have hcl : cl = 1 := by rw [HE.out.2.1, if_pos hz]
   subst hcl
   clear hz
   have c0 := q1.cell 0 rfl
   have f0 := q1.free 0
   have bq := but_set WA Q 0 (.int .i64 1)
   have q2 : LocE (WA.setCell ⟨Q, 0, none⟩ (.int .i64 1)) Q 73 [.int .i64 1, .bool ng, .slice ao la ca, .int .i64 pw] := q1.set 0 (.int .i64 1)
   have p2 := bq.loc p1 (by omega)
   have v2 := bq.loc v1 (by omega)
   have r2 := bq.rd r1 (rd_offU r1 q1 (by simp))
   have b2 := bq.below b1 (by omega)
   go_upto_block 1 with fail
   generalize WA.setCell ⟨Q, 0, none⟩ (.int .i64 1) = W1 at q2 p2 v2 r2 b2 ⊢
   clear c0 f0 bq q1 p1 v1 r1 b1 x0 x1 x2 x3 x4 x5 hz1
   obtain ⟨x0, x1, x2, x3, x4, x5⟩ := p2.cs6
   clear p2
   cases ex
   ·have hfl : fl = 1 := HE.out.2.2
    subst hfl
    clear HE
    have cR : LocE ((((W1.setCell ⟨w.heap.size + 1 + 1, 0, none⟩ (.int .i64 1)).setCell ⟨w.heap.size + 1 + 1, 1, none⟩ (.bool ng)).setCell ⟨w.heap.size + 1 + 1, 2, none⟩ (.slice ao la ca)).setCell ⟨w.heap.size + 1 + 1, 3, none⟩ (.int .i64 pw)) (w.heap.size + 1 + 1) 73 [.int .i64 1, .bool ng, .slice ao la ca, .int .i64 pw] := ((((v2.set 0 (.int .i64 1)).set 1 (.bool ng)).set 2 (.slice ao la ca)).set 3 (.int .i64 pw))
    have bu := (((but_set W1 (w.heap.size + 1 + 1) 0 (.int .i64 1)).trans (but_set _ (w.heap.size + 1 + 1) 1 (.bool ng))).trans (but_set _ (w.heap.size + 1 + 1) 2 (.slice ao la ca))).trans (but_set _ (w.heap.size + 1 + 1) 3 (.int .i64 pw))
    have bR := bu.below b2 (by omega)
    have rR := bu.rd r2 (rd_offU r2 v2 (by simp))
    have hl := run_loadVar_mid (P := Tryz.prog) _ (w.heap.size + 1 + 1) 0 73 [.int .i64 1, .bool ng, .slice ao la ca, .int .i64 pw] _ cR.range Tryz.underlying73 rfl (by kernel_rfl)
    have HH : Hid (_ ∧ _ ∧ _) := ⟨hl, rR, bR⟩
    obtain ⟨z0, z1, z2, z3⟩ := v2.cs4
    have fz0 := v2.free 0
    have fz1 := v2.free 1
    have fz2 := v2.free 2
    have fz3 := v2.free 3
    clear hl bR bu cR rR
    obtain ⟨k0, k1, k2, k3⟩ := q2.cs4
    clear v2 b2 r2 q2
    go_wp2
    obtain ⟨hl, rR, bR⟩ := HH.out
    exact bodyPost_ret (results_two Tryz.results88 rfl rfl hl) rfl ⟨_, rfl, rR, bR⟩
   ·have hfl : fl = 0 := HE.out.2.2
    subst hfl
    clear HE
    have cR : LocE ((((W1.setCell ⟨w.heap.size + 1 + 1, 0, none⟩ (.int .i64 1)).setCell ⟨w.heap.size + 1 + 1, 1, none⟩ (.bool ng)).setCell ⟨w.heap.size + 1 + 1, 2, none⟩ (.slice ao la ca)).setCell ⟨w.heap.size + 1 + 1, 3, none⟩ (.int .i64 pw)) (w.heap.size + 1 + 1) 73 [.int .i64 1, .bool ng, .slice ao la ca, .int .i64 pw] := ((((v2.set 0 (.int .i64 1)).set 1 (.bool ng)).set 2 (.slice ao la ca)).set 3 (.int .i64 pw))
    have bu := (((but_set W1 (w.heap.size + 1 + 1) 0 (.int .i64 1)).trans (but_set _ (w.heap.size + 1 + 1) 1 (.bool ng))).trans (but_set _ (w.heap.size + 1 + 1) 2 (.slice ao la ca))).trans (but_set _ (w.heap.size + 1 + 1) 3 (.int .i64 pw))
    have bR := bu.below b2 (by omega)
    have rR := bu.rd r2 (rd_offU r2 v2 (by simp))
    have hl := run_loadVar_mid (P := Tryz.prog) _ (w.heap.size + 1 + 1) 0 73 [.int .i64 1, .bool ng, .slice ao la ca, .int .i64 pw] _ cR.range Tryz.underlying73 rfl (by kernel_rfl)
    have HH : Hid (_ ∧ _ ∧ _) := ⟨hl, rR, bR⟩
    obtain ⟨z0, z1, z2, z3⟩ := v2.cs4
    have fz0 := v2.free 0
    have fz1 := v2.free 1
    have fz2 := v2.free 2
    have fz3 := v2.free 3
    clear hl bR bu cR rR
    obtain ⟨k0, k1, k2, k3⟩ := q2.cs4
    clear v2 b2 r2 q2
    go_wp2
    obtain ⟨hl, rR, bR⟩ := HH.out
    exact bodyPost_ret (results_two Tryz.results88 rfl rfl hl) rfl ⟨_, rfl, rR, bR⟩
  ·have hz1 : (((la : Nat) : Int) == 0) = false := beq_eq_false_iff_ne.2 (by omega)
   have hcl : cl = 2 := by rw [HE.out.2.1, if_neg hz]
   subst hcl
   clear hz
   go_upto_block 1 with fail
   have q2 := q1
   have v2 := v1
   have r2 := r1
   have b2 := b1
   clear q1 v1 r1 b1 p1 hz1
   generalize WA = W1 at *
   cases ex
   ·have hfl : fl = 1 := HE.out.2.2
    subst hfl
    clear HE
    have cR : LocE ((((W1.setCell ⟨w.heap.size + 1 + 1, 0, none⟩ (.int .i64 2)).setCell ⟨w.heap.size + 1 + 1, 1, none⟩ (.bool ng)).setCell ⟨w.heap.size + 1 + 1, 2, none⟩ (.slice ao la ca)).setCell ⟨w.heap.size + 1 + 1, 3, none⟩ (.int .i64 pw)) (w.heap.size + 1 + 1) 73 [.int .i64 2, .bool ng, .slice ao la ca, .int .i64 pw] := ((((v2.set 0 (.int .i64 2)).set 1 (.bool ng)).set 2 (.slice ao la ca)).set 3 (.int .i64 pw))
    have bu := (((but_set W1 (w.heap.size + 1 + 1) 0 (.int .i64 2)).trans (but_set _ (w.heap.size + 1 + 1) 1 (.bool ng))).trans (but_set _ (w.heap.size + 1 + 1) 2 (.slice ao la ca))).trans (but_set _ (w.heap.size + 1 + 1) 3 (.int .i64 pw))
    have bR := bu.below b2 (by omega)
    have rR := bu.rd r2 (rd_offU r2 v2 (by simp))
    have hl := run_loadVar_mid (P := Tryz.prog) _ (w.heap.size + 1 + 1) 0 73 [.int .i64 2, .bool ng, .slice ao la ca, .int .i64 pw] _ cR.range Tryz.underlying73 rfl (by kernel_rfl)
    have HH : Hid (_ ∧ _ ∧ _) := ⟨hl, rR, bR⟩
    obtain ⟨z0, z1, z2, z3⟩ := v2.cs4
    have fz0 := v2.free 0
    have fz1 := v2.free 1
    have fz2 := v2.free 2
    have fz3 := v2.free 3
    clear hl bR bu cR rR
    obtain ⟨k0, k1, k2, k3⟩ := q2.cs4
    clear v2 b2 r2 q2
    go_wp2
    obtain ⟨hl, rR, bR⟩ := HH.out
    exact bodyPost_ret (results_two Tryz.results88 rfl rfl hl) rfl ⟨_, rfl, rR, bR⟩
   ·have hfl : fl = 0 := HE.out.2.2
    subst hfl
    clear HE
    have cR : LocE ((((W1.setCell ⟨w.heap.size + 1 + 1, 0, none⟩ (.int .i64 2)).setCell ⟨w.heap.size + 1 + 1, 1, none⟩ (.bool ng)).setCell ⟨w.heap.size + 1 + 1, 2, none⟩ (.slice ao la ca)).setCell ⟨w.heap.size + 1 + 1, 3, none⟩ (.int .i64 pw)) (w.heap.size + 1 + 1) 73 [.int .i64 2, .bool ng, .slice ao la ca, .int .i64 pw] := ((((v2.set 0 (.int .i64 2)).set 1 (.bool ng)).set 2 (.slice ao la ca)).set 3 (.int .i64 pw))
    have bu := (((but_set W1 (w.heap.size + 1 + 1) 0 (.int .i64 2)).trans (but_set _ (w.heap.size + 1 + 1) 1 (.bool ng))).trans (but_set _ (w.heap.size + 1 + 1) 2 (.slice ao la ca))).trans (but_set _ (w.heap.size + 1 + 1) 3 (.int .i64 pw))
    have bR := bu.below b2 (by omega)
    have rR := bu.rd r2 (rd_offU r2 v2 (by simp))
    have hl := run_loadVar_mid (P := Tryz.prog) _ (w.heap.size + 1 + 1) 0 73 [.int .i64 2, .bool ng, .slice ao la ca, .int .i64 pw] _ cR.range Tryz.underlying73 rfl (by kernel_rfl)
    have HH : Hid (_ ∧ _ ∧ _) := ⟨hl, rR, bR⟩
    obtain ⟨z0, z1, z2, z3⟩ := v2.cs4
    have fz0 := v2.free 0
    have fz1 := v2.free 1
    have fz2 := v2.free 2
    have fz3 := v2.free 3
    clear hl bR bu cR rR
    obtain ⟨k0, k1, k2, k3⟩ := q2.cs4
    clear v2 b2 r2 q2
    go_wp2
    obtain ⟨hl, rR, bR⟩ := HH.out
    exact bodyPost_ret (results_two Tryz.results88 rfl rfl hl) rfl ⟨_, rfl, rR, bR⟩
 ·subst hun
  clear hlt go
  go_upto_region 6 with fail
  generalize W0.alloc (.cells #[.int .i64 2, .bool ng, .slice ao la ca, .int .i64 pw] 73) = WA at q1 p1 v1 r1 b1 ⊢
  generalize W0.heap.size = Q at q1 hq hne ⊢
  clear x0 x1 x2 x3 x4 x5 y5 d0
  obtain ⟨x0, x1, x2, x3, x4, x5⟩ := p1.cs6
  by_cases hz : la = 0
  ·have hz1 : (((la : Nat) : Int) == 0) = true := by rw [hz]; rfl
   have hcl : cl = 1 := by rw [HE.out.2.1, if_pos hz]
   subst hcl
   clear hz
   have c0 := q1.cell 0 rfl
   have f0 := q1.free 0
   have bq := but_set WA Q 0 (.int .i64 1)
   have q2 : LocE (WA.setCell ⟨Q, 0, none⟩ (.int .i64 1)) Q 73 [.int .i64 1, .bool ng, .slice ao la ca, .int .i64 pw] := q1.set 0 (.int .i64 1)
   have p2 := bq.loc p1 (by omega)
   have v2 := bq.loc v1 (by omega)
   have r2 := bq.rd r1 (rd_offU r1 q1 (by simp))
   have b2 := bq.below b1 (by omega)
   go_upto_block 1 with fail
   generalize WA.setCell ⟨Q, 0, none⟩ (.int .i64 1) = W1 at q2 p2 v2 r2 b2 ⊢
   clear c0 f0 bq q1 p1 v1 r1 b1 x0 x1 x2 x3 x4 x5 hz1
   obtain ⟨x0, x1, x2, x3, x4, x5⟩ := p2.cs6
   clear p2
   cases ex
   ·have hfl : fl = 3 := HE.out.2.2
    subst hfl
    clear HE
    have cR : LocE ((((W1.setCell ⟨w.heap.size + 1 + 1, 0, none⟩ (.int .i64 1)).setCell ⟨w.heap.size + 1 + 1, 1, none⟩ (.bool ng)).setCell ⟨w.heap.size + 1 + 1, 2, none⟩ (.slice ao la ca)).setCell ⟨w.heap.size + 1 + 1, 3, none⟩ (.int .i64 pw)) (w.heap.size + 1 + 1) 73 [.int .i64 1, .bool ng, .slice ao la ca, .int .i64 pw] := ((((v2.set 0 (.int .i64 1)).set 1 (.bool ng)).set 2 (.slice ao la ca)).set 3 (.int .i64 pw))
    have bu := (((but_set W1 (w.heap.size + 1 + 1) 0 (.int .i64 1)).trans (but_set _ (w.heap.size + 1 + 1) 1 (.bool ng))).trans (but_set _ (w.heap.size + 1 + 1) 2 (.slice ao la ca))).trans (but_set _ (w.heap.size + 1 + 1) 3 (.int .i64 pw))
    have bR := bu.below b2 (by omega)
    have rR := bu.rd r2 (rd_offU r2 v2 (by simp))
    have hl := run_loadVar_mid (P := Tryz.prog) _ (w.heap.size + 1 + 1) 0 73 [.int .i64 1, .bool ng, .slice ao la ca, .int .i64 pw] _ cR.range Tryz.underlying73 rfl (by kernel_rfl)
    have HH : Hid (_ ∧ _ ∧ _) := ⟨hl, rR, bR⟩
    obtain ⟨z0, z1, z2, z3⟩ := v2.cs4
    have fz0 := v2.free 0
    have fz1 := v2.free 1
    have fz2 := v2.free 2
    have fz3 := v2.free 3
    clear hl bR bu cR rR
    obtain ⟨k0, k1, k2, k3⟩ := q2.cs4
    clear v2 b2 r2 q2
    go_wp2
    obtain ⟨hl, rR, bR⟩ := HH.out
    exact bodyPost_ret (results_two Tryz.results88 rfl rfl hl) rfl ⟨_, rfl, rR, bR⟩
   ·have hfl : fl = 0 := HE.out.2.2
    subst hfl
    clear HE
    have cR : LocE ((((W1.setCell ⟨w.heap.size + 1 + 1, 0, none⟩ (.int .i64 1)).setCell ⟨w.heap.size + 1 + 1, 1, none⟩ (.bool ng)).setCell ⟨w.heap.size + 1 + 1, 2, none⟩ (.slice ao la ca)).setCell ⟨w.heap.size + 1 + 1, 3, none⟩ (.int .i64 pw)) (w.heap.size + 1 + 1) 73 [.int .i64 1, .bool ng, .slice ao la ca, .int .i64 pw] := ((((v2.set 0 (.int .i64 1)).set 1 (.bool ng)).set 2 (.slice ao la ca)).set 3 (.int .i64 pw))
    have bu := (((but_set W1 (w.heap.size + 1 + 1) 0 (.int .i64 1)).trans (but_set _ (w.heap.size + 1 + 1) 1 (.bool ng))).trans (but_set _ (w.heap.size + 1 + 1) 2 (.slice ao la ca))).trans (but_set _ (w.heap.size + 1 + 1) 3 (.int .i64 pw))
    have bR := bu.below b2 (by omega)
    have rR := bu.rd r2 (rd_offU r2 v2 (by simp))
    have hl := run_loadVar_mid (P := Tryz.prog) _ (w.heap.size + 1 + 1) 0 73 [.int .i64 1, .bool ng, .slice ao la ca, .int .i64 pw] _ cR.range Tryz.underlying73 rfl (by kernel_rfl)
    have HH : Hid (_ ∧ _ ∧ _) := ⟨hl, rR, bR⟩
    obtain ⟨z0, z1, z2, z3⟩ := v2.cs4
    have fz0 := v2.free 0
    have fz1 := v2.free 1
    have fz2 := v2.free 2
    have fz3 := v2.free 3
    clear hl bR bu cR rR
    obtain ⟨k0, k1, k2, k3⟩ := q2.cs4
    clear v2 b2 r2 q2
    go_wp2
    obtain ⟨hl, rR, bR⟩ := HH.out
    exact bodyPost_ret (results_two Tryz.results88 rfl rfl hl) rfl ⟨_, rfl, rR, bR⟩
  ·have hz1 : (((la : Nat) : Int) == 0) = false := beq_eq_false_iff_ne.2 (by omega)
   have hcl : cl = 2 := by rw [HE.out.2.1, if_neg hz]
   subst hcl
   clear hz
   go_upto_block 1 with fail
   have q2 := q1
   have v2 := v1
   have r2 := r1
   have b2 := b1
   clear q1 v1 r1 b1 p1 hz1
   generalize WA = W1 at *
   cases ex
   ·have hfl : fl = 3 := HE.out.2.2
    subst hfl
    clear HE
    have cR : LocE ((((W1.setCell ⟨w.heap.size + 1 + 1, 0, none⟩ (.int .i64 2)).setCell ⟨w.heap.size + 1 + 1, 1, none⟩ (.bool ng)).setCell ⟨w.heap.size + 1 + 1, 2, none⟩ (.slice ao la ca)).setCell ⟨w.heap.size + 1 + 1, 3, none⟩ (.int .i64 pw)) (w.heap.size + 1 + 1) 73 [.int .i64 2, .bool ng, .slice ao la ca, .int .i64 pw] := ((((v2.set 0 (.int .i64 2)).set 1 (.bool ng)).set 2 (.slice ao la ca)).set 3 (.int .i64 pw))
    have bu := (((but_set W1 (w.heap.size + 1 + 1) 0 (.int .i64 2)).trans (but_set _ (w.heap.size + 1 + 1) 1 (.bool ng))).trans (but_set _ (w.heap.size + 1 + 1) 2 (.slice ao la ca))).trans (but_set _ (w.heap.size + 1 + 1) 3 (.int .i64 pw))
    have bR := bu.below b2 (by omega)
    have rR := bu.rd r2 (rd_offU r2 v2 (by simp))
    have hl := run_loadVar_mid (P := Tryz.prog) _ (w.heap.size + 1 + 1) 0 73 [.int .i64 2, .bool ng, .slice ao la ca, .int .i64 pw] _ cR.range Tryz.underlying73 rfl (by kernel_rfl)
    have HH : Hid (_ ∧ _ ∧ _) := ⟨hl, rR, bR⟩
    obtain ⟨z0, z1, z2, z3⟩ := v2.cs4
    have fz0 := v2.free 0
    have fz1 := v2.free 1
    have fz2 := v2.free 2
    have fz3 := v2.free 3
    clear hl bR bu cR rR
    obtain ⟨k0, k1, k2, k3⟩ := q2.cs4
    clear v2 b2 r2 q2
    go_wp2
    obtain ⟨hl, rR, bR⟩ := HH.out
    exact bodyPost_ret (results_two Tryz.results88 rfl rfl hl) rfl ⟨_, rfl, rR, bR⟩
   ·have hfl : fl = 0 := HE.out.2.2
    subst hfl
    clear HE
    have cR : LocE ((((W1.setCell ⟨w.heap.size + 1 + 1, 0, none⟩ (.int .i64 2)).setCell ⟨w.heap.size + 1 + 1, 1, none⟩ (.bool ng)).setCell ⟨w.heap.size + 1 + 1, 2, none⟩ (.slice ao la ca)).setCell ⟨w.heap.size + 1 + 1, 3, none⟩ (.int .i64 pw)) (w.heap.size + 1 + 1) 73 [.int .i64 2, .bool ng, .slice ao la ca, .int .i64 pw] := ((((v2.set 0 (.int .i64 2)).set 1 (.bool ng)).set 2 (.slice ao la ca)).set 3 (.int .i64 pw))
    have bu := (((but_set W1 (w.heap.size + 1 + 1) 0 (.int .i64 2)).trans (but_set _ (w.heap.size + 1 + 1) 1 (.bool ng))).trans (but_set _ (w.heap.size + 1 + 1) 2 (.slice ao la ca))).trans (but_set _ (w.heap.size + 1 + 1) 3 (.int .i64 pw))
    have bR := bu.below b2 (by omega)
    have rR := bu.rd r2 (rd_offU r2 v2 (by simp))
    have hl := run_loadVar_mid (P := Tryz.prog) _ (w.heap.size + 1 + 1) 0 73 [.int .i64 2, .bool ng, .slice ao la ca, .int .i64 pw] _ cR.range Tryz.underlying73 rfl (by kernel_rfl)
    have HH : Hid (_ ∧ _ ∧ _) := ⟨hl, rR, bR⟩
    obtain ⟨z0, z1, z2, z3⟩ := v2.cs4
    have fz0 := v2.free 0
    have fz1 := v2.free 1
    have fz2 := v2.free 2
    have fz3 := v2.free 3
    clear hl bR bu cR rR
    obtain ⟨k0, k1, k2, k3⟩ := q2.cs4
    clear v2 b2 r2 q2
    go_wp2
    obtain ⟨hl, rR, bR⟩ := HH.out
    exact bodyPost_ret (results_two Tryz.results88 rfl rfl hl) rfl ⟨_, rfl, rR, bR⟩
end Go.Proofs.YtnhackdjplppjaaGreatDoor
namespace Go.Proofs.YtnhackdjplppjaaGreatDoor
open Go.RowKit
theorem bare_fits {t : Trip} (h : (Dg.dg 4294967296 t.n).length ≤ 1200) (h1 : -20000 ≤ t.e) (h2 : t.e ≤ 20000) : (Dg.dg 65536 (bare t).n).length ≤ 2400 ∧ -20000 ≤ (bare t).e ∧ (bare t).e ≤ 58400 := by
 have h3 := tz_fits t.n 1200 h
 have h4 := dg16_len t.n 1200 h
 unfold bare
 split
 ·exact ⟨by show ([] : List Nat).length ≤ 2400; simp, by simp, by simp⟩
 ·refine ⟨Nat.le_trans (dg_len_mono 65536 _ t.n (by omega) (Nat.div_le_self _ _)) (by omega), ?_, ?_⟩
  ·simp only; omega
  ·simp only; omega
theorem bare_n_le (t : Trip) : (bare t).n ≤ t.n := by
 unfold bare
 split
 ·exact Nat.zero_le _
 ·exact Nat.div_le_self _ _
end Go.Proofs.YtnhackdjplppjaaGreatDoor

/-
  Texts laid together: As4, As5, As6.
-/
import Derived.Test.YtnhackdjplppjaaGreatDoorAc34
set_option maxRecDepth 100000
namespace Go.Proofs.YtnhackdjplppjaaGreatDoor
open Go.RowKit
def SetRes (w : World) (c : Int) (g : Bool) (m : Nat) (q fl : Int) (z : Ending) (w' : World) : Prop :=
 ∃ v, z = .returned (.tuple #[.agg #[.int .i64 c, .bool g, v, .int .i64 q], .int .i64 fl]) ∧ Rd w' .u32 v (Dg.dg 4294967296 m) ∧ Below w.heap.size w w'
set_option maxHeartbeats 6400000 in
theorem settle_in (n wy fam R D L G pw : Int) (gr ng ex un : Bool) (ao : Option Addr) (la ca : Nat) (m : Nat) (w : World) (hla : la = (Dg.dg 4294967296 m).length) (hr : Rd w .u32 (.slice ao la ca) (Dg.dg 4294967296 m)) (hlt : un = true → ¬ pw < L) (cl fl : Int) (hcl : cl = if la = 0 then 1 else 2) (hfl : fl = if ex = true then 0 else if un = true then 3 else 1) :
  Calls Tryz.prog 88 #[.agg #[.int .i64 n, .int .i64 wy, .int .i64 fam, .int .i64 R, .int .i64 D, .int .i64 L, .int .i64 G, .bool gr], .agg #[.bool ng, .slice ao la ca, .int .i64 pw, .bool ex, .bool false, .bool un]] w (SetRes w cl ng m pw fl) := by
 have HE : Hid (la = (Dg.dg 4294967296 m).length ∧ cl = (if la = 0 then 1 else 2) ∧ fl = if ex = true then 0 else if un = true then 3 else 1) := ⟨hla, hcl, hfl⟩
 clear hcl hfl hla
 have a1 := below_alloc w (.cells #[.int .i64 n, .int .i64 wy, .int .i64 fam, .int .i64 R, .int .i64 D, .int .i64 L, .int .i64 G, .bool gr] 93)
 have a2 := below_alloc (w.alloc (.cells #[.int .i64 n, .int .i64 wy, .int .i64 fam, .int .i64 R, .int .i64 D, .int .i64 L, .int .i64 G, .bool gr] 93)) (.cells #[.bool ng, .slice ao la ca, .int .i64 pw, .bool ex, .bool false, .bool un] 86)
 have a3 := below_alloc ((w.alloc (.cells #[.int .i64 n, .int .i64 wy, .int .i64 fam, .int .i64 R, .int .i64 D, .int .i64 L, .int .i64 G, .bool gr] 93)).alloc (.cells #[.bool ng, .slice ao la ca, .int .i64 pw, .bool ex, .bool false, .bool un] 86)) (.cells #[.int .i64 0, .bool false, .slice none 0 0, .int .i64 0] 73)
 have d0 := ((locE_new w [.int .i64 n, .int .i64 wy, .int .i64 fam, .int .i64 R, .int .i64 D, .int .i64 L, .int .i64 G, .bool gr] 93).later a2).later a3
 have p0 := (locE_new (w.alloc (.cells #[.int .i64 n, .int .i64 wy, .int .i64 fam, .int .i64 R, .int .i64 D, .int .i64 L, .int .i64 G, .bool gr] 93)) [.bool ng, .slice ao la ca, .int .i64 pw, .bool ex, .bool false, .bool un] 86).later a3
 have v0 := locE_new ((w.alloc (.cells #[.int .i64 n, .int .i64 wy, .int .i64 fam, .int .i64 R, .int .i64 D, .int .i64 L, .int .i64 G, .bool gr] 93)).alloc (.cells #[.bool ng, .slice ao la ca, .int .i64 pw, .bool ex, .bool false, .bool un] 86)) [.int .i64 0, .bool false, .slice none 0 0, .int .i64 0] 73
 rw [World.size_alloc] at p0
 rw [World.size_alloc, World.size_alloc] at v0
 have b0 := below_trans (below_trans a1 a2) a3
 clear a1 a2 a3
 go_enter Tryz.func88, Tryz.ntmps88
 go_upto_block 0 with fail
 generalize ((w.alloc (.cells #[.int .i64 n, .int .i64 wy, .int .i64 fam, .int .i64 R, .int .i64 D, .int .i64 L, .int .i64 G, .bool gr] 93)).alloc (.cells #[.bool ng, .slice ao la ca, .int .i64 pw, .bool ex, .bool false, .bool un] 86)).alloc (.cells #[.int .i64 0, .bool false, .slice none 0 0, .int .i64 0] 73) = W0 at d0 p0 v0 b0 ⊢
 have r0 := hr.later b0
 clear hr
 have al := below_alloc W0 (.cells #[.int .i64 2, .bool ng, .slice ao la ca, .int .i64 pw] 73)
 have q1 := locE_new W0 [.int .i64 2, .bool ng, .slice ao la ca, .int .i64 pw] 73
 have p1 := p0.later al
 have v1 := v0.later al
 have r1 := r0.later al
 have b1 := below_trans b0 al
 have hq : w.heap.size + 1 + 1 < W0.heap.size := v0.lt
 have hne : W0.heap.size ≠ w.heap.size + 1 := by omega
 obtain ⟨x0, x1, x2, x3, x4, x5⟩ := p0.cs6
 have y5 := d0.cell 5 rfl
 clear al p0 v0 b0 r0
 have go : ∀ UU, UU = un → (UU = false ∨ (UU = true ∧ ¬ pw < L)) := fun UU h => by
  subst h
  cases UU
  ·exact .inl rfl
  ·exact .inr ⟨rfl, hlt rfl⟩
 rcases go un rfl with hun | ⟨hun, hl0⟩
 ·subst hun
  clear hlt go
  go_upto_region 6 with fail
  generalize W0.alloc (.cells #[.int .i64 2, .bool ng, .slice ao la ca, .int .i64 pw] 73) = WA at q1 p1 v1 r1 b1 ⊢
  generalize W0.heap.size = Q at q1 hq hne ⊢
  clear x0 x1 x2 x3 x4 x5 y5 d0
  obtain ⟨x0, x1, x2, x3, x4, x5⟩ := p1.cs6
  by_cases hz : la = 0
  ·have hz1 : (((la : Nat) : Int) == 0) = true := by rw [hz]; rfl
   have hcl : cl = 1 := by rw [HE.out.2.1, if_pos hz]
   subst hcl
   clear hz
   have c0 := q1.cell 0 rfl
   have f0 := q1.free 0
   have bq := but_set WA Q 0 (.int .i64 1)
   have q2 : LocE (WA.setCell ⟨Q, 0, none⟩ (.int .i64 1)) Q 73 [.int .i64 1, .bool ng, .slice ao la ca, .int .i64 pw] := q1.set 0 (.int .i64 1)
   have p2 := bq.loc p1 (by omega)
   have v2 := bq.loc v1 (by omega)
   have r2 := bq.rd r1 (rd_offU r1 q1 (by simp))
   have b2 := bq.below b1 (by omega)
   go_upto_block 1 with fail
   generalize WA.setCell ⟨Q, 0, none⟩ (.int .i64 1) = W1 at q2 p2 v2 r2 b2 ⊢
   clear c0 f0 bq q1 p1 v1 r1 b1 x0 x1 x2 x3 x4 x5 hz1
   obtain ⟨x0, x1, x2, x3, x4, x5⟩ := p2.cs6
   clear p2
   cases ex
   ·have hfl : fl = 1 := HE.out.2.2
    subst hfl
    clear HE
    have cR : LocE ((((W1.setCell ⟨w.heap.size + 1 + 1, 0, none⟩ (.int .i64 1)).setCell ⟨w.heap.size + 1 + 1, 1, none⟩ (.bool ng)).setCell ⟨w.heap.size + 1 + 1, 2, none⟩ (.slice ao la ca)).setCell ⟨w.heap.size + 1 + 1, 3, none⟩ (.int .i64 pw)) (w.heap.size + 1 + 1) 73 [.int .i64 1, .bool ng, .slice ao la ca, .int .i64 pw] := ((((v2.set 0 (.int .i64 1)).set 1 (.bool ng)).set 2 (.slice ao la ca)).set 3 (.int .i64 pw))
    have bu := (((but_set W1 (w.heap.size + 1 + 1) 0 (.int .i64 1)).trans (but_set _ (w.heap.size + 1 + 1) 1 (.bool ng))).trans (but_set _ (w.heap.size + 1 + 1) 2 (.slice ao la ca))).trans (but_set _ (w.heap.size + 1 + 1) 3 (.int .i64 pw))
    have bR := bu.below b2 (by omega)
    have rR := bu.rd r2 (rd_offU r2 v2 (by simp))
    have hl := run_loadVar_mid (P := Tryz.prog) _ (w.heap.size + 1 + 1) 0 73 [.int .i64 1, .bool ng, .slice ao la ca, .int .i64 pw] _ cR.range Tryz.underlying73 rfl (by kernel_rfl)
    have HH : Hid (_ ∧ _ ∧ _) := ⟨hl, rR, bR⟩
    obtain ⟨z0, z1, z2, z3⟩ := v2.cs4
    have fz0 := v2.free 0
    have fz1 := v2.free 1
    have fz2 := v2.free 2
    have fz3 := v2.free 3
    clear hl bR bu cR rR
    obtain ⟨k0, k1, k2, k3⟩ := q2.cs4
    clear v2 b2 r2 q2
    go_wp2
    obtain ⟨hl, rR, bR⟩ := HH.out
    exact bodyPost_ret (results_two Tryz.results88 rfl rfl hl) rfl ⟨_, rfl, rR, bR⟩
   ·have hfl : fl = 0 := HE.out.2.2
    subst hfl
    clear HE
    have cR : LocE ((((W1.setCell ⟨w.heap.size + 1 + 1, 0, none⟩ (.int .i64 1)).setCell ⟨w.heap.size + 1 + 1, 1, none⟩ (.bool ng)).setCell ⟨w.heap.size + 1 + 1, 2, none⟩ (.slice ao la ca)).setCell ⟨w.heap.size + 1 + 1, 3, none⟩ (.int .i64 pw)) (w.heap.size + 1 + 1) 73 [.int .i64 1, .bool ng, .slice ao la ca, .int .i64 pw] := ((((v2.set 0 (.int .i64 1)).set 1 (.bool ng)).set 2 (.slice ao la ca)).set 3 (.int .i64 pw))
    have bu := (((but_set W1 (w.heap.size + 1 + 1) 0 (.int .i64 1)).trans (but_set _ (w.heap.size + 1 + 1) 1 (.bool ng))).trans (but_set _ (w.heap.size + 1 + 1) 2 (.slice ao la ca))).trans (but_set _ (w.heap.size + 1 + 1) 3 (.int .i64 pw))
    have bR := bu.below b2 (by omega)
    have rR := bu.rd r2 (rd_offU r2 v2 (by simp))
    have hl := run_loadVar_mid (P := Tryz.prog) _ (w.heap.size + 1 + 1) 0 73 [.int .i64 1, .bool ng, .slice ao la ca, .int .i64 pw] _ cR.range Tryz.underlying73 rfl (by kernel_rfl)
    have HH : Hid (_ ∧ _ ∧ _) := ⟨hl, rR, bR⟩
    obtain ⟨z0, z1, z2, z3⟩ := v2.cs4
    have fz0 := v2.free 0
    have fz1 := v2.free 1
    have fz2 := v2.free 2
    have fz3 := v2.free 3
    clear hl bR bu cR rR
    obtain ⟨k0, k1, k2, k3⟩ := q2.cs4
    clear v2 b2 r2 q2
    go_wp2
    obtain ⟨hl, rR, bR⟩ := HH.out
    exact bodyPost_ret (results_two Tryz.results88 rfl rfl hl) rfl ⟨_, rfl, rR, bR⟩
  ·have hz1 : (((la : Nat) : Int) == 0) = false := beq_eq_false_iff_ne.2 (by omega)
   have hcl : cl = 2 := by rw [HE.out.2.1, if_neg hz]
   subst hcl
   clear hz
   go_upto_block 1 with fail
   have q2 := q1
   have v2 := v1
   have r2 := r1
   have b2 := b1
   clear q1 v1 r1 b1 p1 hz1
   generalize WA = W1 at *
   cases ex
   ·have hfl : fl = 1 := HE.out.2.2
    subst hfl
    clear HE
    have cR : LocE ((((W1.setCell ⟨w.heap.size + 1 + 1, 0, none⟩ (.int .i64 2)).setCell ⟨w.heap.size + 1 + 1, 1, none⟩ (.bool ng)).setCell ⟨w.heap.size + 1 + 1, 2, none⟩ (.slice ao la ca)).setCell ⟨w.heap.size + 1 + 1, 3, none⟩ (.int .i64 pw)) (w.heap.size + 1 + 1) 73 [.int .i64 2, .bool ng, .slice ao la ca, .int .i64 pw] := ((((v2.set 0 (.int .i64 2)).set 1 (.bool ng)).set 2 (.slice ao la ca)).set 3 (.int .i64 pw))
    have bu := (((but_set W1 (w.heap.size + 1 + 1) 0 (.int .i64 2)).trans (but_set _ (w.heap.size + 1 + 1) 1 (.bool ng))).trans (but_set _ (w.heap.size + 1 + 1) 2 (.slice ao la ca))).trans (but_set _ (w.heap.size + 1 + 1) 3 (.int .i64 pw))
    have bR := bu.below b2 (by omega)
    have rR := bu.rd r2 (rd_offU r2 v2 (by simp))
    have hl := run_loadVar_mid (P := Tryz.prog) _ (w.heap.size + 1 + 1) 0 73 [.int .i64 2, .bool ng, .slice ao la ca, .int .i64 pw] _ cR.range Tryz.underlying73 rfl (by kernel_rfl)
    have HH : Hid (_ ∧ _ ∧ _) := ⟨hl, rR, bR⟩
    obtain ⟨z0, z1, z2, z3⟩ := v2.cs4
    have fz0 := v2.free 0
    have fz1 := v2.free 1
    have fz2 := v2.free 2
    have fz3 := v2.free 3
    clear hl bR bu cR rR
    obtain ⟨k0, k1, k2, k3⟩ := q2.cs4
    clear v2 b2 r2 q2
    go_wp2
    obtain ⟨hl, rR, bR⟩ := HH.out
    exact bodyPost_ret (results_two Tryz.results88 rfl rfl hl) rfl ⟨_, rfl, rR, bR⟩
   ·have hfl : fl = 0 := HE.out.2.2
    subst hfl
    clear HE
    have cR : LocE ((((W1.setCell ⟨w.heap.size + 1 + 1, 0, none⟩ (.int .i64 2)).setCell ⟨w.heap.size + 1 + 1, 1, none⟩ (.bool ng)).setCell ⟨w.heap.size + 1 + 1, 2, none⟩ (.slice ao la ca)).setCell ⟨w.heap.size + 1 + 1, 3, none⟩ (.int .i64 pw)) (w.heap.size + 1 + 1) 73 [.int .i64 2, .bool ng, .slice ao la ca, .int .i64 pw] := ((((v2.set 0 (.int .i64 2)).set 1 (.bool ng)).set 2 (.slice ao la ca)).set 3 (.int .i64 pw))
    have bu := (((but_set W1 (w.heap.size + 1 + 1) 0 (.int .i64 2)).trans (but_set _ (w.heap.size + 1 + 1) 1 (.bool ng))).trans (but_set _ (w.heap.size + 1 + 1) 2 (.slice ao la ca))).trans (but_set _ (w.heap.size + 1 + 1) 3 (.int .i64 pw))
    have bR := bu.below b2 (by omega)
    have rR := bu.rd r2 (rd_offU r2 v2 (by simp))
    have hl := run_loadVar_mid (P := Tryz.prog) _ (w.heap.size + 1 + 1) 0 73 [.int .i64 2, .bool ng, .slice ao la ca, .int .i64 pw] _ cR.range Tryz.underlying73 rfl (by kernel_rfl)
    have HH : Hid (_ ∧ _ ∧ _) := ⟨hl, rR, bR⟩
    obtain ⟨z0, z1, z2, z3⟩ := v2.cs4
    have fz0 := v2.free 0
    have fz1 := v2.free 1
    have fz2 := v2.free 2
    have fz3 := v2.free 3
    clear hl bR bu cR rR
    obtain ⟨k0, k1, k2, k3⟩ := q2.cs4
    clear v2 b2 r2 q2
    go_wp2
    obtain ⟨hl, rR, bR⟩ := HH.out
    exact bodyPost_ret (results_two Tryz.results88 rfl rfl hl) rfl ⟨_, rfl, rR, bR⟩
 ·subst hun
  clear hlt go
  go_upto_region 6 with fail
  generalize W0.alloc (.cells #[.int .i64 2, .bool ng, .slice ao la ca, .int .i64 pw] 73) = WA at q1 p1 v1 r1 b1 ⊢
  generalize W0.heap.size = Q at q1 hq hne ⊢
  clear x0 x1 x2 x3 x4 x5 y5 d0
  obtain ⟨x0, x1, x2, x3, x4, x5⟩ := p1.cs6
  by_cases hz : la = 0
  ·have hz1 : (((la : Nat) : Int) == 0) = true := by rw [hz]; rfl
   have hcl : cl = 1 := by rw [HE.out.2.1, if_pos hz]
   subst hcl
   clear hz
   have c0 := q1.cell 0 rfl
   have f0 := q1.free 0
   have bq := but_set WA Q 0 (.int .i64 1)
   have q2 : LocE (WA.setCell ⟨Q, 0, none⟩ (.int .i64 1)) Q 73 [.int .i64 1, .bool ng, .slice ao la ca, .int .i64 pw] := q1.set 0 (.int .i64 1)
   have p2 := bq.loc p1 (by omega)
   have v2 := bq.loc v1 (by omega)
   have r2 := bq.rd r1 (rd_offU r1 q1 (by simp))
   have b2 := bq.below b1 (by omega)
   go_upto_block 1 with fail
   generalize WA.setCell ⟨Q, 0, none⟩ (.int .i64 1) = W1 at q2 p2 v2 r2 b2 ⊢
   clear c0 f0 bq q1 p1 v1 r1 b1 x0 x1 x2 x3 x4 x5 hz1
   obtain ⟨x0, x1, x2, x3, x4, x5⟩ := p2.cs6
   clear p2
   cases ex
   ·have hfl : fl = 3 := HE.out.2.2
    subst hfl
    clear HE
    have cR : LocE ((((W1.setCell ⟨w.heap.size + 1 + 1, 0, none⟩ (.int .i64 1)).setCell ⟨w.heap.size + 1 + 1, 1, none⟩ (.bool ng)).setCell ⟨w.heap.size + 1 + 1, 2, none⟩ (.slice ao la ca)).setCell ⟨w.heap.size + 1 + 1, 3, none⟩ (.int .i64 pw)) (w.heap.size + 1 + 1) 73 [.int .i64 1, .bool ng, .slice ao la ca, .int .i64 pw] := ((((v2.set 0 (.int .i64 1)).set 1 (.bool ng)).set 2 (.slice ao la ca)).set 3 (.int .i64 pw))
    have bu := (((but_set W1 (w.heap.size + 1 + 1) 0 (.int .i64 1)).trans (but_set _ (w.heap.size + 1 + 1) 1 (.bool ng))).trans (but_set _ (w.heap.size + 1 + 1) 2 (.slice ao la ca))).trans (but_set _ (w.heap.size + 1 + 1) 3 (.int .i64 pw))
    have bR := bu.below b2 (by omega)
    have rR := bu.rd r2 (rd_offU r2 v2 (by simp))
    have hl := run_loadVar_mid (P := Tryz.prog) _ (w.heap.size + 1 + 1) 0 73 [.int .i64 1, .bool ng, .slice ao la ca, .int .i64 pw] _ cR.range Tryz.underlying73 rfl (by kernel_rfl)
    have HH : Hid (_ ∧ _ ∧ _) := ⟨hl, rR, bR⟩
    obtain ⟨z0, z1, z2, z3⟩ := v2.cs4
    have fz0 := v2.free 0
    have fz1 := v2.free 1
    have fz2 := v2.free 2
    have fz3 := v2.free 3
    clear hl bR bu cR rR
    obtain ⟨k0, k1, k2, k3⟩ := q2.cs4
    clear v2 b2 r2 q2
    go_wp2
    obtain ⟨hl, rR, bR⟩ := HH.out
    exact bodyPost_ret (results_two Tryz.results88 rfl rfl hl) rfl ⟨_, rfl, rR, bR⟩
   ·have hfl : fl = 0 := HE.out.2.2
    subst hfl
    clear HE
    have cR : LocE ((((W1.setCell ⟨w.heap.size + 1 + 1, 0, none⟩ (.int .i64 1)).setCell ⟨w.heap.size + 1 + 1, 1, none⟩ (.bool ng)).setCell ⟨w.heap.size + 1 + 1, 2, none⟩ (.slice ao la ca)).setCell ⟨w.heap.size + 1 + 1, 3, none⟩ (.int .i64 pw)) (w.heap.size + 1 + 1) 73 [.int .i64 1, .bool ng, .slice ao la ca, .int .i64 pw] := ((((v2.set 0 (.int .i64 1)).set 1 (.bool ng)).set 2 (.slice ao la ca)).set 3 (.int .i64 pw))
    have bu := (((but_set W1 (w.heap.size + 1 + 1) 0 (.int .i64 1)).trans (but_set _ (w.heap.size + 1 + 1) 1 (.bool ng))).trans (but_set _ (w.heap.size + 1 + 1) 2 (.slice ao la ca))).trans (but_set _ (w.heap.size + 1 + 1) 3 (.int .i64 pw))
    have bR := bu.below b2 (by omega)
    have rR := bu.rd r2 (rd_offU r2 v2 (by simp))
    have hl := run_loadVar_mid (P := Tryz.prog) _ (w.heap.size + 1 + 1) 0 73 [.int .i64 1, .bool ng, .slice ao la ca, .int .i64 pw] _ cR.range Tryz.underlying73 rfl (by kernel_rfl)
    have HH : Hid (_ ∧ _ ∧ _) := ⟨hl, rR, bR⟩
    obtain ⟨z0, z1, z2, z3⟩ := v2.cs4
    have fz0 := v2.free 0
    have fz1 := v2.free 1
    have fz2 := v2.free 2
    have fz3 := v2.free 3
    clear hl bR bu cR rR
    obtain ⟨k0, k1, k2, k3⟩ := q2.cs4
    clear v2 b2 r2 q2
    go_wp2
    obtain ⟨hl, rR, bR⟩ := HH.out
    exact bodyPost_ret (results_two Tryz.results88 rfl rfl hl) rfl ⟨_, rfl, rR, bR⟩
  ·have hz1 : (((la : Nat) : Int) == 0) = false := beq_eq_false_iff_ne.2 (by omega)
   have hcl : cl = 2 := by rw [HE.out.2.1, if_neg hz]
   subst hcl
   clear hz
   go_upto_block 1 with fail
   have q2 := q1
   have v2 := v1
   have r2 := r1
   have b2 := b1
   clear q1 v1 r1 b1 p1 hz1
   generalize WA = W1 at *
   cases ex
   ·have hfl : fl = 3 := HE.out.2.2
    subst hfl
    clear HE
    have cR : LocE ((((W1.setCell ⟨w.heap.size + 1 + 1, 0, none⟩ (.int .i64 2)).setCell ⟨w.heap.size + 1 + 1, 1, none⟩ (.bool ng)).setCell ⟨w.heap.size + 1 + 1, 2, none⟩ (.slice ao la ca)).setCell ⟨w.heap.size + 1 + 1, 3, none⟩ (.int .i64 pw)) (w.heap.size + 1 + 1) 73 [.int .i64 2, .bool ng, .slice ao la ca, .int .i64 pw] := ((((v2.set 0 (.int .i64 2)).set 1 (.bool ng)).set 2 (.slice ao la ca)).set 3 (.int .i64 pw))
    have bu := (((but_set W1 (w.heap.size + 1 + 1) 0 (.int .i64 2)).trans (but_set _ (w.heap.size + 1 + 1) 1 (.bool ng))).trans (but_set _ (w.heap.size + 1 + 1) 2 (.slice ao la ca))).trans (but_set _ (w.heap.size + 1 + 1) 3 (.int .i64 pw))
    have bR := bu.below b2 (by omega)
    have rR := bu.rd r2 (rd_offU r2 v2 (by simp))
    have hl := run_loadVar_mid (P := Tryz.prog) _ (w.heap.size + 1 + 1) 0 73 [.int .i64 2, .bool ng, .slice ao la ca, .int .i64 pw] _ cR.range Tryz.underlying73 rfl (by kernel_rfl)
    have HH : Hid (_ ∧ _ ∧ _) := ⟨hl, rR, bR⟩
    obtain ⟨z0, z1, z2, z3⟩ := v2.cs4
    have fz0 := v2.free 0
    have fz1 := v2.free 1
    have fz2 := v2.free 2
    have fz3 := v2.free 3
    clear hl bR bu cR rR
    obtain ⟨k0, k1, k2, k3⟩ := q2.cs4
    clear v2 b2 r2 q2
    go_wp2
    obtain ⟨hl, rR, bR⟩ := HH.out
    exact bodyPost_ret (results_two Tryz.results88 rfl rfl hl) rfl ⟨_, rfl, rR, bR⟩
   ·have hfl : fl = 0 := HE.out.2.2
    subst hfl
    clear HE
    have cR : LocE ((((W1.setCell ⟨w.heap.size + 1 + 1, 0, none⟩ (.int .i64 2)).setCell ⟨w.heap.size + 1 + 1, 1, none⟩ (.bool ng)).setCell ⟨w.heap.size + 1 + 1, 2, none⟩ (.slice ao la ca)).setCell ⟨w.heap.size + 1 + 1, 3, none⟩ (.int .i64 pw)) (w.heap.size + 1 + 1) 73 [.int .i64 2, .bool ng, .slice ao la ca, .int .i64 pw] := ((((v2.set 0 (.int .i64 2)).set 1 (.bool ng)).set 2 (.slice ao la ca)).set 3 (.int .i64 pw))
    have bu := (((but_set W1 (w.heap.size + 1 + 1) 0 (.int .i64 2)).trans (but_set _ (w.heap.size + 1 + 1) 1 (.bool ng))).trans (but_set _ (w.heap.size + 1 + 1) 2 (.slice ao la ca))).trans (but_set _ (w.heap.size + 1 + 1) 3 (.int .i64 pw))
    have bR := bu.below b2 (by omega)
    have rR := bu.rd r2 (rd_offU r2 v2 (by simp))
    have hl := run_loadVar_mid (P := Tryz.prog) _ (w.heap.size + 1 + 1) 0 73 [.int .i64 2, .bool ng, .slice ao la ca, .int .i64 pw] _ cR.range Tryz.underlying73 rfl (by kernel_rfl)
    have HH : Hid (_ ∧ _ ∧ _) := ⟨hl, rR, bR⟩
    obtain ⟨z0, z1, z2, z3⟩ := v2.cs4
    have fz0 := v2.free 0
    have fz1 := v2.free 1
    have fz2 := v2.free 2
    have fz3 := v2.free 3
    clear hl bR bu cR rR
    obtain ⟨k0, k1, k2, k3⟩ := q2.cs4
    clear v2 b2 r2 q2
    go_wp2
    obtain ⟨hl, rR, bR⟩ := HH.out
    exact bodyPost_ret (results_two Tryz.results88 rfl rfl hl) rfl ⟨_, rfl, rR, bR⟩
end Go.Proofs.YtnhackdjplppjaaGreatDoor
namespace Go.Proofs.YtnhackdjplppjaaGreatDoor
open Go.RowKit
set_option maxHeartbeats 3200000 in
theorem kept_short (t : Trip) (to0 : Option Addr) (tc : Nat) (w : World) (hr : Rd w .u32 (.slice to0 (Dg.dg 4294967296 t.n).length tc) (Dg.dg 4294967296 t.n)) (hL : (Dg.dg 4294967296 t.n).length ≤ 100000) (hb : bitLen t.n ≤ 128) :
  Calls Tryz.prog 210 #[.agg #[.bool t.s, .slice to0 (Dg.dg 4294967296 t.n).length tc, .int .i64 t.e], .int .i64 128] w fun z w' => z = .returned (.agg #[.bool t.s, .slice to0 (Dg.dg 4294967296 t.n).length tc, .int .i64 t.e]) ∧ Below w.heap.size w w' := by
 have HD : Hid (∀ w1, Calls Tryz.prog 172 #[.agg #[.bool t.s, .slice to0 (Dg.dg 4294967296 t.n).length tc, .int .i64 t.e]] w1 fun x w' => x = .returned (.slice to0 (Dg.dg 4294967296 t.n).length tc) ∧ Below w1.heap.size w1 w') := fun w1 => digits_any _ _ _ _ _ w1
 have HB : Hid (∀ w1, Below w.heap.size w w1 → Calls Tryz.prog 176 #[.slice to0 (Dg.dg 4294967296 t.n).length tc] w1 fun e w' => e = .returned (.int .i64 ((bitLen t.n : Nat) : Int)) ∧ w' = w1) := fun w1 b => by
  have := bits_any _ _ w1 (hr.later b) (Dg.small_dg 4294967296 _ (by omega)) (Dg.norm_dg 4294967296 _ (by omega)) (by omega)
  rw [Dg.vl_dg _ _ (by omega)] at this
  exact this
 have ax := below_alloc w (.cells #[.bool t.s, .slice to0 (Dg.dg 4294967296 t.n).length tc, .int .i64 t.e] 96)
 have ao := below_alloc (w.alloc (.cells #[.bool t.s, .slice to0 (Dg.dg 4294967296 t.n).length tc, .int .i64 t.e] 96)) (.cells #[.bool false, .slice none 0 0, .int .i64 0] 96)
 have x0 := (locE_new w [.bool t.s, .slice to0 (Dg.dg 4294967296 t.n).length tc, .int .i64 t.e] 96).later ao
 have o0 := locE_new (w.alloc (.cells #[.bool t.s, .slice to0 (Dg.dg 4294967296 t.n).length tc, .int .i64 t.e] 96)) [.bool false, .slice none 0 0, .int .i64 0] 96
 rw [World.size_alloc] at o0
 have b0 := below_trans ax ao
 clear ax ao hr hL
 generalize bitLen t.n = k at *
 have hk : IntKind.i64.wrap ((k : Int) - 128) = (k : Int) - 128 := IntWalk.i64_in _ ⟨by omega, by omega⟩
 have hle : (k : Int) - 128 ≤ 0 := by omega
 go_enter Tryz.func210, Tryz.ntmps210
 go_upto_region 1 with fail
 generalize (w.alloc (.cells #[.bool t.s, .slice to0 (Dg.dg 4294967296 t.n).length tc, .int .i64 t.e] 96)).alloc (.cells #[.bool false, .slice none 0 0, .int .i64 0] 96) = W0 at x0 o0 b0 ⊢
 obtain ⟨y0, y1, y2⟩ := x0.cs3
 go_wp2_with fail
 refine (HD.out _).mono ?_
 rintro z w1 ⟨rfl, b1⟩
 have x1 := x0.later b1
 have o1 := o0.later b1
 have b01 := below_trans b0 b1
 clear y0 y1 y2 x0 o0 b0 b1 HD
 go_wp2_with fail
 refine (HB.out _ b01).mono ?_
 rintro z w2 ⟨rfl, rfl⟩
 clear HB
 obtain ⟨y0, y1, y2⟩ := x1.cs3
 have cR : LocE (((w2.setCell ⟨w.heap.size + 1, 0, none⟩ (.bool t.s)).setCell ⟨w.heap.size + 1, 1, none⟩ (.slice to0 (Dg.dg 4294967296 t.n).length tc)).setCell ⟨w.heap.size + 1, 2, none⟩ (.int .i64 t.e)) (w.heap.size + 1) 96 [.bool t.s, .slice to0 (Dg.dg 4294967296 t.n).length tc, .int .i64 t.e] := (((o1.set 0 (.bool t.s)).set 1 (.slice to0 (Dg.dg 4294967296 t.n).length tc)).set 2 (.int .i64 t.e))
 have bu := ((but_set w2 (w.heap.size + 1) 0 (.bool t.s)).trans (but_set _ (w.heap.size + 1) 1 (.slice to0 (Dg.dg 4294967296 t.n).length tc))).trans (but_set _ (w.heap.size + 1) 2 (.int .i64 t.e))
 have bR := bu.below b01 (by omega)
 have hl := run_loadVar_mid (P := Tryz.prog) _ (w.heap.size + 1) 0 96 [.bool t.s, .slice to0 (Dg.dg 4294967296 t.n).length tc, .int .i64 t.e] _ cR.range Tryz.underlying96 rfl (by kernel_rfl)
 have HH : Hid (_ ∧ _) := ⟨hl, bR⟩
 obtain ⟨z0, z1, z2⟩ := o1.cs3
 have fz0 := o1.free 0
 have fz1 := o1.free 1
 have fz2 := o1.free 2
 clear hl bR bu cR
 clear o1 b01 x1
 go_wp2
 obtain ⟨hl, bR⟩ := HH.out
 exact bodyPost_ret (results_one Tryz.results210 rfl hl) rfl ⟨rfl, bR⟩
end Go.Proofs.YtnhackdjplppjaaGreatDoor
namespace Go.Proofs.YtnhackdjplppjaaGreatDoor
open Go.RowKit
def RatRes (w : World) (s : Bool) (N M : Nat) (e : Int) (z : Ending) (w' : World) : Prop :=
 ∃ no nc mo mc, z = .returned (.agg #[.bool s, .slice no (Dg.dg 4294967296 N).length nc, .slice mo (Dg.dg 4294967296 M).length mc, .int .i64 e]) ∧ Rd w' .u32 (.slice no (Dg.dg 4294967296 N).length nc) (Dg.dg 4294967296 N) ∧ Rd w' .u32 (.slice mo (Dg.dg 4294967296 M).length mc) (Dg.dg 4294967296 M) ∧ Below w.heap.size w w'
theorem dg_one32 : Dg.dg 4294967296 1 = [1] := rfl
set_option maxHeartbeats 6400000 in
theorem ratioOf_W (t k : Trip) (to0 : Option Addr) (tc : Nat) (e2 dn : Int) (N M : Nat) (w : World) (hmx : min (max k.e (-20000)) 20000 = e2)
  (HK : ∀ w1, Below w.heap.size w w1 → Calls Tryz.prog 210 #[.agg #[.bool t.s, .slice to0 (Dg.dg 4294967296 t.n).length tc, .int .i64 t.e], .int .i64 128] w1 fun z w' => ∃ v, z = .returned (.agg #[.bool k.s, v, .int .i64 k.e]) ∧ Rd w' .u32 v (Dg.dg 4294967296 k.n) ∧ Below w1.heap.size w1 w')
  (HU : e2 < k.e → IntKind.i64.wrap (k.e - e2) = dn ∧ M = 1 ∧ ∀ ko kc w1, Rd w1 .u32 (.slice ko (Dg.dg 4294967296 k.n).length kc) (Dg.dg 4294967296 k.n) → Calls Tryz.prog 177 #[.slice ko (Dg.dg 4294967296 k.n).length kc, .int .i64 dn] w1 (Num w1 N))
  (HV : k.e ≤ e2 → IntKind.i64.wrap (e2 - k.e) = dn ∧ N = k.n ∧ ∀ q w1, w1.cell? ⟨q, 0, none⟩ = some (.int .u32 1) → Calls Tryz.prog 177 #[.slice (some ⟨q, 0, none⟩) 1 1, .int .i64 dn] w1 (Num w1 M)) :
  Calls Tryz.prog 164 #[.agg #[.bool t.s, .slice to0 (Dg.dg 4294967296 t.n).length tc, .int .i64 t.e]] w (RatRes w k.s N M e2) := by
 replace HK : Hid _ := HK
 replace HU : Hid _ := HU
 replace HV : Hid _ := HV
 have ax := below_alloc w (.cells #[.bool t.s, .slice to0 (Dg.dg 4294967296 t.n).length tc, .int .i64 t.e] 96)
 have ar := below_alloc (w.alloc (.cells #[.bool t.s, .slice to0 (Dg.dg 4294967296 t.n).length tc, .int .i64 t.e] 96)) (.cells #[.bool false, .slice none 0 0, .slice none 0 0, .int .i64 0] 53)
 have x0 := (locE_new w [.bool t.s, .slice to0 (Dg.dg 4294967296 t.n).length tc, .int .i64 t.e] 96).later ar
 have r0 := locE_new (w.alloc (.cells #[.bool t.s, .slice to0 (Dg.dg 4294967296 t.n).length tc, .int .i64 t.e] 96)) [.bool false, .slice none 0 0, .slice none 0 0, .int .i64 0] 53
 rw [World.size_alloc] at r0
 have b0 := below_trans ax ar
 clear ax ar
 go_enter Tryz.func164, Tryz.ntmps164
 go_upto_region 1 with fail
 generalize (w.alloc (.cells #[.bool t.s, .slice to0 (Dg.dg 4294967296 t.n).length tc, .int .i64 t.e] 96)).alloc (.cells #[.bool false, .slice none 0 0, .slice none 0 0, .int .i64 0] 53) = W0 at x0 r0 b0 ⊢
 obtain ⟨y0, y1, y2⟩ := x0.cs3
 go_wp2_with fail
 refine (HK.out _ b0).mono ?_
 rintro z w1 ⟨v, rfl, q1, b1⟩
 obtain ⟨ko, kc, hv⟩ := q1.shape
 subst hv
 have x1 := x0.later b1
 have r1 := r0.later b1
 have b01 := below_trans b0 b1
 clear y0 y1 y2 x0 r0 b0 b1 HK
 obtain ⟨z0, z1, z2⟩ := x1.cs3
 have f0 := x1.free 0
 have f1 := x1.free 1
 have f2 := x1.free 2
 have x2 : LocE (((w1.setCell ⟨w.heap.size, 0, none⟩ (.bool k.s)).setCell ⟨w.heap.size, 1, none⟩ (.slice ko (Dg.dg 4294967296 k.n).length kc)).setCell ⟨w.heap.size, 2, none⟩ (.int .i64 k.e)) w.heap.size 96 [.bool k.s, .slice ko (Dg.dg 4294967296 k.n).length kc, .int .i64 k.e] := (((x1.set 0 (.bool k.s)).set 1 (.slice ko (Dg.dg 4294967296 k.n).length kc)).set 2 (.int .i64 k.e))
 have bu := ((but_set w1 w.heap.size 0 (.bool k.s)).trans (but_set _ w.heap.size 1 (.slice ko (Dg.dg 4294967296 k.n).length kc))).trans (but_set _ w.heap.size 2 (.int .i64 k.e))
 have r2 := bu.loc r1 (by omega)
 have q2 := bu.rd q1 (rd_offU q1 x1 (by simp))
 have b2 := bu.below b01 (Nat.le_refl _)
 go_upto_region 2 with fail
 generalize (((w1.setCell ⟨w.heap.size, 0, none⟩ (.bool k.s)).setCell ⟨w.heap.size, 1, none⟩ (.slice ko (Dg.dg 4294967296 k.n).length kc)).setCell ⟨w.heap.size, 2, none⟩ (.int .i64 k.e)) = W2 at x2 r2 q2 b2 ⊢
 clear z0 z1 z2 f0 f1 f2 bu x1 r1 b01 q1
 obtain ⟨y0, y1, y2⟩ := x2.cs3
 have HD : Hid (∀ w1, Calls Tryz.prog 172 #[.agg #[.bool k.s, .slice ko (Dg.dg 4294967296 k.n).length kc, .int .i64 k.e]] w1 fun x w' => x = .returned (.slice ko (Dg.dg 4294967296 k.n).length kc) ∧ Below w1.heap.size w1 w') := fun w1 => digits_any _ _ _ _ _ w1
 go_wp2_with fail
 refine (HD.out _).mono ?_
 rintro z w3 ⟨rfl, b3⟩
 have al := below_alloc w3 (.cells #[.int .u32 1] 141)
 have ln := locE_new w3 [.int .u32 1] 141
 have x4 := (x2.later b3).later al
 have r4 := (r2.later b3).later al
 have q4 := (q2.later b3).later al
 have b4 := below_trans (below_trans b2 b3) al
 clear y0 y1 y2 x2 r2 q2 b2 b3 al HD
 go_upto_region 3 with fail
 generalize w3.alloc (.cells #[.int .u32 1] 141) = W4 at ln x4 r4 q4 b4 ⊢
 generalize w3.heap.size = Q at ln ⊢
 obtain ⟨y0, y1, y2⟩ := x4.cs3
 have hone := ln.cell 0 rfl
 by_cases hc : e2 < k.e
 ·obtain ⟨h1, h2, h3⟩ := HU.out hc
  have H3 : Hid _ := h3
  subst h2
  clear HU HV h3
  go_wp2_with fail
  refine (H3.out _ _ _ q4).mono ?_
  rintro z w5 ⟨u, rfl, o5, b5⟩
  obtain ⟨no, nc, hu⟩ := o5.rd.shape
  subst hu
  have r5 := r4.later b5
  have x5 := x4.later b5
  have n5 := o5.rd
  have hone5 := (ln.later b5).cell 0 rfl
  have m5 : Rd w5 .u32 (.slice (some ⟨Q, 0, none⟩) 1 1) (Dg.dg 4294967296 1) := by rw [dg_one32]; exact rd_one hone5
  have b05 := below_trans b4 b5
  clear y0 y1 y2 hone hone5 x4 r4 q4 b4 b5 o5 ln H3
  obtain ⟨y0, y1, y2⟩ := x5.cs3
  have h1l : (Dg.dg 4294967296 1).length = 1 := by rw [dg_one32]; rfl
  have cR : LocE ((((w5.setCell ⟨w.heap.size + 1, 0, none⟩ (.bool k.s)).setCell ⟨w.heap.size + 1, 1, none⟩ (.slice no (Dg.dg 4294967296 N).length nc)).setCell ⟨w.heap.size + 1, 2, none⟩ (.slice (some ⟨Q, 0, none⟩) 1 1)).setCell ⟨w.heap.size + 1, 3, none⟩ (.int .i64 e2)) (w.heap.size + 1) 53 [.bool k.s, .slice no (Dg.dg 4294967296 N).length nc, .slice (some ⟨Q, 0, none⟩) 1 1, .int .i64 e2] := ((((r5.set 0 (.bool k.s)).set 1 (.slice no (Dg.dg 4294967296 N).length nc)).set 2 (.slice (some ⟨Q, 0, none⟩) 1 1)).set 3 (.int .i64 e2))
  have bu := (((but_set w5 (w.heap.size + 1) 0 (.bool k.s)).trans (but_set _ (w.heap.size + 1) 1 (.slice no (Dg.dg 4294967296 N).length nc))).trans (but_set _ (w.heap.size + 1) 2 (.slice (some ⟨Q, 0, none⟩) 1 1))).trans (but_set _ (w.heap.size + 1) 3 (.int .i64 e2))
  have bR := bu.below b05 (by omega)
  have rN := bu.rd n5 (rd_offU n5 r5 (by simp))
  have rM := bu.rd m5 (rd_offU m5 r5 (by simp))
  have hl := run_loadVar_mid (P := Tryz.prog) _ (w.heap.size + 1) 0 53 [.bool k.s, .slice no (Dg.dg 4294967296 N).length nc, .slice (some ⟨Q, 0, none⟩) 1 1, .int .i64 e2] _ cR.range Tryz.underlying53 rfl (by kernel_rfl)
  have HH : Hid (_ ∧ _ ∧ _ ∧ _) := ⟨hl, rN, rM, bR⟩
  obtain ⟨z0, z1, z2, z3⟩ := r5.cs4
  have fz0 := r5.free 0
  have fz1 := r5.free 1
  have fz2 := r5.free 2
  have fz3 := r5.free 3
  clear hl bR bu cR rN rM
  clear r5 b05 n5 m5 x5
  go_wp2
  obtain ⟨hl, rN, rM, bR⟩ := HH.out
  refine bodyPost_ret (results_one Tryz.results164 rfl hl) rfl ⟨no, nc, some ⟨Q, 0, none⟩, 1, ?_, rN, ?_, bR⟩
  ·rw [h1l]
  ·rw [h1l]
   exact rM
 ·obtain ⟨h1, h2, h3⟩ := HV.out (by omega)
  have H3 : Hid _ := h3
  subst h2
  clear HU HV h3
  go_wp2_with fail
  refine (H3.out _ _ hone).mono ?_
  rintro z w5 ⟨u, rfl, o5, b5⟩
  obtain ⟨mo, mc, hu⟩ := o5.rd.shape
  subst hu
  have r5 := r4.later b5
  have x5 := x4.later b5
  have n5 := q4.later b5
  have m5 := o5.rd
  have b05 := below_trans b4 b5
  clear y0 y1 y2 hone x4 r4 q4 b4 b5 o5 ln H3
  obtain ⟨y0, y1, y2⟩ := x5.cs3
  have cR : LocE ((((w5.setCell ⟨w.heap.size + 1, 0, none⟩ (.bool k.s)).setCell ⟨w.heap.size + 1, 1, none⟩ (.slice ko (Dg.dg 4294967296 k.n).length kc)).setCell ⟨w.heap.size + 1, 2, none⟩ (.slice mo (Dg.dg 4294967296 M).length mc)).setCell ⟨w.heap.size + 1, 3, none⟩ (.int .i64 e2)) (w.heap.size + 1) 53 [.bool k.s, .slice ko (Dg.dg 4294967296 k.n).length kc, .slice mo (Dg.dg 4294967296 M).length mc, .int .i64 e2] := ((((r5.set 0 (.bool k.s)).set 1 (.slice ko (Dg.dg 4294967296 k.n).length kc)).set 2 (.slice mo (Dg.dg 4294967296 M).length mc)).set 3 (.int .i64 e2))
  have bu := (((but_set w5 (w.heap.size + 1) 0 (.bool k.s)).trans (but_set _ (w.heap.size + 1) 1 (.slice ko (Dg.dg 4294967296 k.n).length kc))).trans (but_set _ (w.heap.size + 1) 2 (.slice mo (Dg.dg 4294967296 M).length mc))).trans (but_set _ (w.heap.size + 1) 3 (.int .i64 e2))
  have bR := bu.below b05 (by omega)
  have rN := bu.rd n5 (rd_offU n5 r5 (by simp))
  have rM := bu.rd m5 (rd_offU m5 r5 (by simp))
  have hl := run_loadVar_mid (P := Tryz.prog) _ (w.heap.size + 1) 0 53 [.bool k.s, .slice ko (Dg.dg 4294967296 k.n).length kc, .slice mo (Dg.dg 4294967296 M).length mc, .int .i64 e2] _ cR.range Tryz.underlying53 rfl (by kernel_rfl)
  have HH : Hid (_ ∧ _ ∧ _ ∧ _) := ⟨hl, rN, rM, bR⟩
  obtain ⟨z0, z1, z2, z3⟩ := r5.cs4
  have fz0 := r5.free 0
  have fz1 := r5.free 1
  have fz2 := r5.free 2
  have fz3 := r5.free 3
  clear hl bR bu cR rN rM
  clear r5 b05 n5 m5 x5
  go_wp2
  obtain ⟨hl, rN, rM, bR⟩ := HH.out
  exact bodyPost_ret (results_one Tryz.results164 rfl hl) rfl ⟨_, _, _, _, rfl, rN, rM, bR⟩
end Go.Proofs.YtnhackdjplppjaaGreatDoor

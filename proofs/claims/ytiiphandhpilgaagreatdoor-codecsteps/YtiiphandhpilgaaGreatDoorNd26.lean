/-
  Texts laid together: Gr3.
-/
import Derived.ChangeMaps4
import Derived.Test.YtiiphandhpilgaaGreatDoorNd24
set_option maxRecDepth 100000
namespace Go.Proofs.YtiiphandhpilgaaGreatDoor
open Go.RowKit Go.ChangeMaps Go.MapKept
theorem put_new {P : Program} {t k e : TypeId} (ht : P.underlying t = some (.map k e)) (hk : P.underlying k = some (.int .i64)) {w W : World} {r : Nat} {es : Array MapEntry} {c : Nat} (hb : W.heap[r]? = some (.map es c)) (hr : w.heap.size ≤ r) (bel : Below w.heap.size w W) (x : Int) (v : Value) (hno : Instr.findNow (.int .i64) (.int .i64 x) es.toList 0 = some none) :
  ∃ W', (Instr.mapUpdate t (.map (some r)) (.int .i64 x) v).run P W = .ok () W' ∧ W'.heap[r]? = some (.map (es.push ⟨.int .i64 x, v, c⟩) (c + 1)) ∧ Below w.heap.size w W' := by
 have hkey : IsKey (.int .i64) (.int .i64 x) := rfl
 refine ⟨setBlock W r (.map (es.push ⟨.int .i64 x, v, c⟩) (c + 1)), ?_, ?_, ?_⟩
 ·simp [Instr.mapUpdate, run_underlying ht, MapKept.run_getObj_map hb, run_checkKey hk hkey, run_findKey hk hno, MapKept.run_setObj_map _ hb, Result.andThen, setBlock]
 ·exact (MapKept.heap_set hb).1
 ·refine ⟨bel.os, bel.tape, bel.output, ?_, fun i hi => ?_⟩
  ·show w.heap.size ≤ (W.heap.setIfInBounds r _).size
   rw [Array.size_setIfInBounds]
   exact bel.size
  ·show (W.heap.setIfInBounds r _)[i]? = _
   rw [(MapKept.heap_set (o' := Obj.map (es.push ⟨.int .i64 x, v, c⟩) (c + 1)) hb).2 i (by omega)]
   exact bel.block i hi
theorem find_run {P : Program} {t k e : TypeId} (ht : P.underlying t = some (.map k e)) (hk : P.underlying k = some (.int .i64)) {W : World} {r : Nat} {es : Array MapEntry} {c : Nat} (hb : W.heap[r]? = some (.map es c)) (x : Int) {i : Nat} {v : Value} (h : Instr.findNow (.int .i64) (.int .i64 x) es.toList 0 = some (some (i, v))) :
  (Instr.lookup t (.map (some r)) (.int .i64 x) false).run P W = .ok v W := by
 have hkey : IsKey (.int .i64) (.int .i64 x) := rfl
 simp [Instr.lookup, run_underlying ht, MapKept.run_getObj_map hb, run_checkKey hk hkey, run_findKey hk h, Result.andThen]
theorem miss_run {P : Program} {t k e : TypeId} (ht : P.underlying t = some (.map k e)) (hk : P.underlying k = some (.int .i64)) {W : World} {r : Nat} {es : Array MapEntry} {c : Nat} (hb : W.heap[r]? = some (.map es c)) (x : Int) {z : Value} (hz : (zeroValue e).run P W = .ok z W) (h : Instr.findNow (.int .i64) (.int .i64 x) es.toList 0 = some none) :
  (Instr.lookup t (.map (some r)) (.int .i64 x) false).run P W = .ok z W := by
 have hkey : IsKey (.int .i64) (.int .i64 x) := rfl
 simp [Instr.lookup, run_underlying ht, MapKept.run_getObj_map hb, run_checkKey hk hkey, run_findKey hk h, hz, Result.andThen]
def wayE : Array MapEntry := #[⟨.int .i64 1, .func (.func 128) #[] #[], 0⟩, ⟨.int .i64 2, .func (.func 129) #[] #[], 1⟩, ⟨.int .i64 3, .func (.func 130) #[] #[], 2⟩, ⟨.int .i64 4, .func (.func 131) #[] #[], 3⟩, ⟨.int .i64 5, .func (.func 132) #[] #[], 4⟩]
set_option maxHeartbeats 800000 in
theorem ways_any (w : World) : Calls Tryz.prog 111 #[] w fun z w' => z = .returned (.map (some w.heap.size)) ∧ w'.heap[w.heap.size]? = some (.map wayE 5) ∧ Below w.heap.size w w' := by
 have ht := Tryz.underlying174
 have hk := Tryz.underlying3
 have hb0 : (w.alloc (.map #[] 0)).heap[w.heap.size]? = some (.map #[] 0) := heap_alloc_new _ _
 have b0 := below_alloc w (.map #[] 0)
 have e0 := run_makeMap (P := Tryz.prog) 174 w
 obtain ⟨W1, e1, hb1, b1⟩ := put_new ht hk hb0 (Nat.le_refl _) b0 1 (.func (.func 128) #[] #[]) rfl
 obtain ⟨W2, e2, hb2, b2⟩ := put_new ht hk hb1 (Nat.le_refl _) b1 2 (.func (.func 129) #[] #[]) rfl
 obtain ⟨W3, e3, hb3, b3⟩ := put_new ht hk hb2 (Nat.le_refl _) b2 3 (.func (.func 130) #[] #[]) rfl
 obtain ⟨W4, e4, hb4, b4⟩ := put_new ht hk hb3 (Nat.le_refl _) b3 4 (.func (.func 131) #[] #[]) rfl
 obtain ⟨W5, e5, hb5, b5⟩ := put_new ht hk hb4 (Nat.le_refl _) b4 5 (.func (.func 132) #[] #[]) rfl
 have HB : Hid (W5.heap[w.heap.size]? = some (.map wayE 5)) := hb5
 clear hb1 hb2 hb3 hb4 hb5 b1 b2 b3 b4 ht hk hb0
 go_enter Tryz.func111, Tryz.ntmps111
 go_wp2
 go_ret
 exact ⟨rfl, HB.out, b5⟩
def awayB (way half : Int) (odd neg : Bool) : Bool :=
 if way = 1 then (decide (0 < half) || (decide (half = 0) && odd)) else if way = 2 then decide (0 ≤ half) else if way = 4 then !neg else if way = 5 then neg else false
theorem way1_any (half : Int) (odd neg : Bool) (w : World) : Calls Tryz.prog 128 #[.agg #[.int .i64 half, .bool odd, .bool neg]] w fun z w' => z = .returned (.bool (awayB 1 half odd neg)) ∧ Below w.heap.size w w' := by
 have bA := below_alloc w (.cells #[.int .i64 half, .bool odd, .bool neg] 185)
 have hv : awayB 1 half odd neg = (decide (0 < half) || (decide (half = 0) && odd)) := by simp [awayB]
 rw [hv]
 by_cases h : 0 < half
 ·go_enter Tryz.func128, Tryz.ntmps128
  go_wp2
  go_ret
  exact ⟨by simp [h], bA⟩
 ·have hf : decide (0 < half) = false := by simp; omega
  by_cases h0 : half = 0
  ·subst h0
   clear hv h hf
   go_enter Tryz.func128, Tryz.ntmps128
   go_wp2
   go_ret
   exact ⟨by simp, bA⟩
  ·have h0f : (half == 0) = false := by simp; exact h0
   rw [hf, show decide (half = 0) = false by simp; exact h0]
   clear hv
   go_enter Tryz.func128, Tryz.ntmps128
   go_wp2
   go_ret
   exact ⟨by simp, bA⟩
theorem way2_any (half : Int) (odd neg : Bool) (w : World) : Calls Tryz.prog 129 #[.agg #[.int .i64 half, .bool odd, .bool neg]] w fun z w' => z = .returned (.bool (awayB 2 half odd neg)) ∧ Below w.heap.size w w' := by
 have bA := below_alloc w (.cells #[.int .i64 half, .bool odd, .bool neg] 185)
 have hv : awayB 2 half odd neg = decide (0 ≤ half) := by simp [awayB]
 rw [hv]
 clear hv
 go_enter Tryz.func129, Tryz.ntmps129
 go_wp2
 go_ret
 exact ⟨rfl, bA⟩
theorem way3_any (half : Int) (odd neg : Bool) (w : World) : Calls Tryz.prog 130 #[.agg #[.int .i64 half, .bool odd, .bool neg]] w fun z w' => z = .returned (.bool (awayB 3 half odd neg)) ∧ Below w.heap.size w w' := by
 have hv : awayB 3 half odd neg = false := by simp [awayB]
 have bA := below_alloc w (.cells #[.int .i64 half, .bool odd, .bool neg] 185)
 rw [hv]
 clear hv
 go_enter Tryz.func130, Tryz.ntmps130
 go_wp2
 go_ret
 exact ⟨rfl, bA⟩
theorem way4_any (half : Int) (odd neg : Bool) (w : World) : Calls Tryz.prog 131 #[.agg #[.int .i64 half, .bool odd, .bool neg]] w fun z w' => z = .returned (.bool (awayB 4 half odd neg)) ∧ Below w.heap.size w w' := by
 have bA := below_alloc w (.cells #[.int .i64 half, .bool odd, .bool neg] 185)
 have hv : awayB 4 half odd neg = !neg := by simp [awayB]
 rw [hv]
 clear hv
 go_enter Tryz.func131, Tryz.ntmps131
 go_wp2
 go_ret
 exact ⟨rfl, bA⟩
theorem way5_any (half : Int) (odd neg : Bool) (w : World) : Calls Tryz.prog 132 #[.agg #[.int .i64 half, .bool odd, .bool neg]] w fun z w' => z = .returned (.bool (awayB 5 half odd neg)) ∧ Below w.heap.size w w' := by
 have bA := below_alloc w (.cells #[.int .i64 half, .bool odd, .bool neg] 185)
 have hv : awayB 5 half odd neg = neg := by simp [awayB]
 rw [hv]
 clear hv
 go_enter Tryz.func132, Tryz.ntmps132
 go_wp2
 go_ret
 exact ⟨rfl, bA⟩
def carD (R D : Int) (d : Nat) : Nat := if d = 2 ^ (widthN R * D.toNat) then 2 ^ (widthN R * (D - 1).toNat) else d
def carP (R D : Int) (d : Nat) (p : Int) : Int := if d = 2 ^ (widthN R * D.toNat) then p + 1 else p
set_option maxHeartbeats 1600000 in
theorem gcarried_any (R D L G : Int) (gr : Bool) (v : Value) (d : Nat) (p : Int) (base : Nat) (w : World) (ho : Own w base 79 .u32 v (Dg.dg 4294967296 d)) (hbs : base ≤ w.heap.size) (h1 : 1 ≤ D) (h2 : D ≤ 120) (p1 : -1000000 ≤ p) (p2 : p ≤ 1000000) :
  Calls Tryz.prog 105 #[.agg #[.int .i64 R, .int .i64 D, .int .i64 L, .int .i64 G, .bool gr], .agg #[v, .int .i64 p]] w fun z w' => ∃ u, z = .returned (.agg #[u, .int .i64 (carP R D d p)]) ∧ Own w' base 79 .u32 u (Dg.dg 4294967296 (carD R D d)) ∧ Below w.heap.size w w' := by
 obtain ⟨ao, ca, hv⟩ := ho.rd.shape
 subst hv
 obtain ⟨m, hm⟩ : ∃ m, (Dg.dg 4294967296 d).length = m := ⟨_, rfl⟩
 have HE : Hid (∀ w1, Calls Tryz.prog 104 #[.agg #[.int .i64 R, .int .i64 D, .int .i64 L, .int .i64 G, .bool gr]] w1 (Num w1 (2 ^ (widthN R * D.toNat)))) := fun w1 => gend_any R D L G gr w1 h1 h2
 have HF : Hid (∀ w1, Calls Tryz.prog 102 #[.agg #[.int .i64 R, .int .i64 D, .int .i64 L, .int .i64 G, .bool gr]] w1 (Num w1 (2 ^ (widthN R * (D - 1).toNat)))) := fun w1 => gfirst_any R D L G gr w1 h1 h2
 obtain ⟨X, hX⟩ : ∃ X, 2 ^ (widthN R * D.toNat) = X := ⟨_, rfl⟩
 obtain ⟨Y, hY⟩ : ∃ Y, 2 ^ (widthN R * (D - 1).toNat) = Y := ⟨_, rfl⟩
 rw [hX] at HE
 rw [hY] at HF
 have HCM : Hid (∀ u w1, Rd w1 .u32 (.slice ao m ca) (Dg.dg 4294967296 d) → Rd w1 .u32 u (Dg.dg 4294967296 X) → Calls Tryz.prog 101 #[.slice ao m ca, u] w1 fun z w' => z = .returned (.int .i64 (cmpI (d : Int) (X : Int))) ∧ Below w1.heap.size w1 w') := fun u w1 r1 r2 => by
  have := compare_any _ u _ _ w1 r1 r2 (Dg.small_dg _ _ (by omega)) (Dg.small_dg _ _ (by omega)) (Dg.norm_dg _ _ (by omega)) (Dg.norm_dg _ _ (by omega))
  rwa [Dg.vl_dg _ _ (by omega), Dg.vl_dg _ _ (by omega)] at this
 obtain ⟨cd, hcd⟩ : ∃ x, carD R D d = x := ⟨_, rfl⟩
 obtain ⟨cp, hcp⟩ : ∃ x, carP R D d p = x := ⟨_, rfl⟩
 have HPOS : Hid (d = X → Y = cd ∧ p + 1 = cp) := fun h => by
  rw [← hcd, ← hcp, ← hY]
  unfold carD carP
  rw [if_pos (h.trans hX.symm), if_pos (h.trans hX.symm)]
  exact ⟨rfl, rfl⟩
 have HNEG : Hid (¬d = X → d = cd ∧ p = cp) := fun h => by
  rw [← hcd, ← hcp]
  unfold carD carP
  rw [if_neg (fun e => h (e.trans hX)), if_neg (fun e => h (e.trans hX))]
  exact ⟨rfl, rfl⟩
 rw [hcd, hcp]
 clear hcd hcp
 rw [hm] at ho ⊢
 obtain ⟨ds, hds⟩ : ∃ ds, Dg.dg 4294967296 d = ds := ⟨_, rfl⟩
 have HDS : Hid (Dg.dg 4294967296 d = ds) := hds
 rw [hds] at ho HCM
 clear hX hY hm hds
 obtain ⟨cc, hcc⟩ : ∃ c, cmpI (d : Int) (X : Int) = c := ⟨_, rfl⟩
 have hc0 : cc = 0 ↔ d = X := by
  rw [← hcc]
  unfold cmpI
  split
  ·omega
  ·split <;> omega
 rw [hcc] at HCM
 clear hcc
 have b1 := below_trans (below_trans (below_alloc w (.cells #[.int .i64 R, .int .i64 D, .int .i64 L, .int .i64 G, .bool gr] 140)) (below_alloc _ (.cells #[.slice ao m ca, .int .i64 p] 136))) (below_alloc _ (.cells #[.slice none 0 0, .int .i64 0] 136))
 have g1 := ((locE_new w [.int .i64 R, .int .i64 D, .int .i64 L, .int .i64 G, .bool gr] 140).later (below_alloc _ (.cells #[.slice ao m ca, .int .i64 p] 136))).later (below_alloc _ (.cells #[.slice none 0 0, .int .i64 0] 136))
 have s1 := (locE_new (w.alloc (.cells #[.int .i64 R, .int .i64 D, .int .i64 L, .int .i64 G, .bool gr] 140)) [.slice ao m ca, .int .i64 p] 136).later (below_alloc _ (.cells #[.slice none 0 0, .int .i64 0] 136))
 have z1 := locE_new ((w.alloc (.cells #[.int .i64 R, .int .i64 D, .int .i64 L, .int .i64 G, .bool gr] 140)).alloc (.cells #[.slice ao m ca, .int .i64 p] 136)) [.slice none 0 0, .int .i64 0] 136
 simp only [World.size_alloc] at s1 z1
 have bd := below_trans b1 ((Below.refl _ _).drew)
 replace g1 := g1.drew
 replace s1 := s1.drew
 replace z1 := z1.drew
 have o1 := ho.later bd
 clear b1 ho
 obtain ⟨c0, c1, c2, c3, c4⟩ := g1.cs5
 have d0 := s1.cell 0 rfl
 have ne1 : w.heap.size + 1 + 1 ≠ w.heap.size := by omega
 have ne2 : w.heap.size + 1 + 1 ≠ w.heap.size + 1 := by omega
 have w1 : IntKind.i64.wrap (p + 1) = p + 1 := IntWalk.i64_in _ ⟨by omega, by omega⟩
 go_enter Tryz.func105, Tryz.ntmps105
 go_wp2_with fail
 go_region_held3 (fun wq => wq.cell? ⟨w.heap.size + 1, 0, none⟩ = some (.slice ao m ca) ∧ (wq.cell? ⟨w.heap.size, 0, none⟩ = some (.int .i64 R) ∧ wq.cell? ⟨w.heap.size, 1, none⟩ = some (.int .i64 D) ∧ wq.cell? ⟨w.heap.size, 2, none⟩ = some (.int .i64 L) ∧ wq.cell? ⟨w.heap.size, 3, none⟩ = some (.int .i64 G) ∧ wq.cell? ⟨w.heap.size, 4, none⟩ = some (.bool gr))) (go_keep) (first
  | (go_at_call 104; refine (HE.out _).mono ?_; rintro z w3 ⟨v3, rfl, o3, b3⟩; have b03 := below_trans bd b3; have g3 := g1.later b3; have s3 := s1.later b3; have z3 := z1.later b3; have o13 := o1.later b3; obtain ⟨k0, k1, k2, k3, k4⟩ := g3.cs5; have k5 := s3.cell 0 rfl)
  | (go_at_call 101; refine (HCM.out _ w3 (HDS.out ▸ o13.rd) o3.rd).mono ?_; rintro z w4 ⟨rfl, b4⟩; have b04 := below_trans b03 b4; have g4 := g3.later b4; have s4 := s3.later b4; have z4 := z3.later b4; have o14 := o13.later b4; obtain ⟨j0, j1, j2, j3, j4⟩ := g4.cs5; have j5 := s4.cell 0 rfl))
 by_cases h0 : cc = 0
 ·obtain ⟨h3, h4⟩ := HPOS.out (hc0.1 h0)
  subst h3
  subst h4
  subst h0
  clear hc0 HPOS HNEG k0 k1 k2 k3 k4 k5 c0 c1 c2 c3 c4 d0 o3 g1 g3 s1 s3 z1 z3 o1 o13 bd b03 b3 b4 HE HCM
  have bd4 : Below w4.heap.size w4 w4.drew := (Below.refl _ _).drew
  have b05 := below_trans b04 bd4
  have g5 := g4.later bd4
  have s5 := s4.later bd4
  have z5 := z4.later bd4
  clear b04 g4 s4 z4 o14 bd4 j0 j1 j2 j3 j4 j5
  obtain ⟨j0, j1, j2, j3, j4⟩ := g5.cs5
  have j5 := s5.cell 1 rfl
  go_goals
  go_wp2_with fail
  go_region_held3 (fun wq => wq.cell? ⟨w.heap.size + 1, 1, none⟩ = some (.int .i64 p) ∧ (wq.cell? ⟨w.heap.size, 0, none⟩ = some (.int .i64 R) ∧ wq.cell? ⟨w.heap.size, 1, none⟩ = some (.int .i64 D) ∧ wq.cell? ⟨w.heap.size, 2, none⟩ = some (.int .i64 L) ∧ wq.cell? ⟨w.heap.size, 3, none⟩ = some (.int .i64 G) ∧ wq.cell? ⟨w.heap.size, 4, none⟩ = some (.bool gr))) (go_keep) (first
   | (go_at_call 102; refine (HF.out _).mono ?_; rintro z w6 ⟨v6, rfl, o6, b6⟩; have b06 := below_trans b05 b6; have g6 := g5.later b6; have s6 := s5.later b6; have z6 := z5.later b6; obtain ⟨k0, k1, k2, k3, k4⟩ := g6.cs5; have k5 := s6.cell 1 rfl; obtain ⟨y0, y1⟩ := z6.cs2; have f0 := z6.free 0; have f1 := z6.free 1; obtain ⟨so, sc, hs⟩ := o6.rd.shape; subst hs))
  all_goals go_wp2
  have z7 : LocE _ _ _ [.slice so (Dg.dg 4294967296 Y).length sc, .int .i64 (p + 1)] := (z6.set 0 (.slice so (Dg.dg 4294967296 Y).length sc)).set 1 (.int .i64 (p + 1))
  have o7 := (o6.setE z6 (by decide) 0 (.slice so (Dg.dg 4294967296 Y).length sc)).setE (z6.set 0 (.slice so (Dg.dg 4294967296 Y).length sc)) (by decide) 1 (.int .i64 (p + 1))
  have b7 := (b06.setCell (p := ⟨w.heap.size + 1 + 1, 0, none⟩) (by show w.heap.size ≤ w.heap.size + 1 + 1; omega) (.slice so (Dg.dg 4294967296 Y).length sc)).setCell (p := ⟨w.heap.size + 1 + 1, 1, none⟩) (by show w.heap.size ≤ w.heap.size + 1 + 1; omega) (.int .i64 (p + 1))
  obtain ⟨x0, x1⟩ := z7.cs2
  refine bodyPost_ret (v := .agg #[.slice so (Dg.dg 4294967296 Y).length sc, .int .i64 (p + 1)]) (by simp [results, Tryz.results105, go_sem, x0, x1]) rfl ?_
  exact ⟨_, rfl, o7.lower (Nat.le_trans hbs b05.size), b7⟩
 ·obtain ⟨h3, h4⟩ := HNEG.out (fun h => h0 (hc0.2 h))
  subst h3
  subst h4
  have hcf : (cc == 0) = false := by simp; exact h0
  clear hc0 HPOS HNEG k0 k1 k2 k3 k4 k5 c0 c1 c2 c3 c4 d0 o3 g1 g3 s1 s3 z1 z3 o1 o13 bd b03 b3 b4 HE HCM HF j0 j1 j2 j3 j4 g4
  have j6 := s4.cell 1 rfl
  obtain ⟨y0, y1⟩ := z4.cs2
  have f0 := z4.free 0
  have f1 := z4.free 1
  go_goals
  go_wp2
  have z7 : LocE _ _ _ [.slice ao m ca, .int .i64 p] := (z4.set 0 (.slice ao m ca)).set 1 (.int .i64 p)
  have o7 := (o14.setE z4 (by decide) 0 (.slice ao m ca)).setE (z4.set 0 (.slice ao m ca)) (by decide) 1 (.int .i64 p)
  have b7 := (b04.setCell (p := ⟨w.heap.size + 1 + 1, 0, none⟩) (by show w.heap.size ≤ w.heap.size + 1 + 1; omega) (.slice ao m ca)).setCell (p := ⟨w.heap.size + 1 + 1, 1, none⟩) (by show w.heap.size ≤ w.heap.size + 1 + 1; omega) (.int .i64 p)
  obtain ⟨x0, x1⟩ := z7.cs2
  refine bodyPost_ret (v := .agg #[.slice ao m ca, .int .i64 p]) (by simp [results, Tryz.results105, go_sem, x0, x1]) rfl ?_
  exact ⟨_, rfl, HDS.out ▸ o7, b7⟩
end Go.Proofs.YtiiphandhpilgaaGreatDoor

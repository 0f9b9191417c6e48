/-
  Texts laid together: Ce5, Co15.
-/
import Derived.Test.YtiiphandhpilgaaGreatDoorNd12
import Derived.Test.YtiiphandhpilgaaGreatDoorNd14
set_option maxRecDepth 100000
namespace Go.Proofs.YtiiphandhpilgaaGreatDoor
open Go.RowKit
set_option maxHeartbeats 3200000 in
theorem lnumber_W (R D L G fam : Int) (gr : Bool) (sz ex : Nat) (F : Nat) (c p : Int) (ng : Bool) (ao : Option Addr) (dn dc : Nat) (r : Trip × Int) (w : World)
  (HN : ∀ w1, Below w.heap.size w w1 → Calls Tryz.prog 68 #[.agg #[.bool ng, .slice ao dn dc, .int .i64 p, .bool false, .bool false, .bool false], .agg #[.int .i64 R, .int .i64 D, .int .i64 L, .int .i64 G, .bool gr]] w1 (DAns w1 r)) :
  Calls Tryz.prog 39 #[.agg #[.int .i64 R, .int .i64 D, .int .i64 L, .int .i64 G, .bool gr, .int .i64 (sz : Int), .int .i64 (ex : Int), .int .i64 fam, .func (.func F) #[] #[]], .agg #[.int .i64 c, .bool ng, .slice ao dn dc, .int .i64 p]] w (DAns w r) := by
 have hsf := hsf_z
 have HN' : Hid _ := HN
 have bl := below_alloc w (.cells #[.int .i64 R, .int .i64 D, .int .i64 L, .int .i64 G, .bool gr, .int .i64 (sz : Int), .int .i64 (ex : Int), .int .i64 fam, .func (.func F) #[] #[]] 63)
 have bv := below_alloc (w.alloc (.cells #[.int .i64 R, .int .i64 D, .int .i64 L, .int .i64 G, .bool gr, .int .i64 (sz : Int), .int .i64 (ex : Int), .int .i64 fam, .func (.func F) #[] #[]] 63)) (.cells #[.int .i64 c, .bool ng, .slice ao dn dc, .int .i64 p] 25)
 have bd := below_alloc ((w.alloc (.cells #[.int .i64 R, .int .i64 D, .int .i64 L, .int .i64 G, .bool gr, .int .i64 (sz : Int), .int .i64 (ex : Int), .int .i64 fam, .func (.func F) #[] #[]] 63)).alloc (.cells #[.int .i64 c, .bool ng, .slice ao dn dc, .int .i64 p] 25)) (.cells #[.bool false, .slice none 0 0, .int .i64 0] 87)
 have d0 := locE_new ((w.alloc (.cells #[.int .i64 R, .int .i64 D, .int .i64 L, .int .i64 G, .bool gr, .int .i64 (sz : Int), .int .i64 (ex : Int), .int .i64 fam, .func (.func F) #[] #[]] 63)).alloc (.cells #[.int .i64 c, .bool ng, .slice ao dn dc, .int .i64 p] 25)) [.bool false, .slice none 0 0, .int .i64 0] 87
 have b0 := below_trans (below_trans bl bv) bd
 rw [World.size_alloc, World.size_alloc] at d0
 clear HN bl bv bd
 go_enter Tryz.func39, Tryz.ntmps39
 go_wp2_with fail
 refine (HN'.out _ b0).mono ?_
 rintro z w1 ⟨s1, rfl, own1, b1⟩
 obtain ⟨so, sc, hs1⟩ := own1.rd.shape
 subst hs1
 have d1 := d0.later b1
 have b01 := below_trans b0 b1
 have bu := ((but_set w1 (w.heap.size + 1 + 1) 0 (.bool r.1.s)).trans (but_set _ (w.heap.size + 1 + 1) 1 (.slice so (Dg.dg 4294967296 r.1.n).length sc))).trans (but_set _ (w.heap.size + 1 + 1) 2 (.int .i64 r.1.e))
 have cR : LocE (((w1.setCell ⟨w.heap.size + 1 + 1, 0, none⟩ (.bool r.1.s)).setCell ⟨w.heap.size + 1 + 1, 1, none⟩ (.slice so (Dg.dg 4294967296 r.1.n).length sc)).setCell ⟨w.heap.size + 1 + 1, 2, none⟩ (.int .i64 r.1.e)) (w.heap.size + 1 + 1) 87 [.bool r.1.s, .slice so (Dg.dg 4294967296 r.1.n).length sc, .int .i64 r.1.e] := (((d1.set 0 (.bool r.1.s)).set 1 (.slice so (Dg.dg 4294967296 r.1.n).length sc)).set 2 (.int .i64 r.1.e))
 have oR := (bu.own own1 d1 (by decide)).lower b0.size
 have bR := bu.below b01 (by omega)
 have hl := run_loadVar_mid (P := Tryz.prog) _ (w.heap.size + 1 + 1) 0 87 [.bool r.1.s, .slice so (Dg.dg 4294967296 r.1.n).length sc, .int .i64 r.1.e] _ cR.range Tryz.underlying87 rfl (by kernel_rfl)
 have HH : Hid (_ ∧ _ ∧ _) := ⟨hl, oR, bR⟩
 obtain ⟨x0, x1, x2⟩ := d1.cs3; have j0 := d1.free 0; have j1 := d1.free 1; have j2 := d1.free 2
 clear hl oR bR cR bu d1 d0 b01 b1 own1 b0
 go_wp2
 obtain ⟨hl, oR, bR⟩ := HH.out
 exact bodyPost_ret (results_two Tryz.results39 rfl rfl hl) rfl ⟨_, rfl, oR, bR⟩
end Go.Proofs.YtiiphandhpilgaaGreatDoor
namespace Go.Proofs.YtiiphandhpilgaaGreatDoor
open Go.RowKit
theorem word_digits (x : Nat) : Dg.vl 4294967296 [x % 4294967296, x / 4294967296] = x := by
 simp only [Dg.vl]
 omega
set_option maxHeartbeats 1600000 in
theorem fromWord_any (x : Nat) (hx : x < 18446744073709551616) (w : World) :
  Calls Tryz.prog 67 #[.int .u64 (x : Int)] w fun z w' => ∃ v, z = .returned v ∧ Own w' w.heap.size 79 .u32 v (Dg.dg 4294967296 x) ∧ Below w.heap.size w w' := by
 have hlo : (x : Int) % 4294967296 = ((x % 4294967296 : Nat) : Int) := by omega
 have hhi : (x : Int) / 4294967296 = ((x / 4294967296 : Nat) : Int) := by omega
 have hx2 : x / 4294967296 < 4294967296 := by omega
 have hx1 : x % 4294967296 < 4294967296 := Nat.mod_lt _ (by omega)
 have hd := word_digits x
 obtain ⟨lo, elo⟩ : ∃ n, x % 4294967296 = n := ⟨_, rfl⟩
 obtain ⟨hi, ehi⟩ : ∃ n, x / 4294967296 = n := ⟨_, rfl⟩
 rw [elo] at hlo hd hx1
 rw [ehi] at hhi hd hx2
 have own : Own (w.alloc (.cells #[.int .u32 (lo : Int), .int .u32 (hi : Int)] 79)) w.heap.size 79 .u32 (.slice (some ⟨w.heap.size, 0, none⟩) 2 2) [lo, hi] :=
  own_of_heap (zs := [lo, hi]) (heap_alloc_new _ _) (Nat.le_refl _) (by unfold maxLen; simp)
 have htr := trim_any (some ⟨w.heap.size, 0, none⟩) 2 2 [lo, hi] _ own.rd
 have hsm : Dg.Small 4294967296 [lo, hi] := by
  intro i
  match i with
  | 0 => exact hx1
  | 1 => exact hx2
  | i + 2 => simp
 have b0 := below_alloc w (.cells #[.int .u32 (lo : Int), .int .u32 (hi : Int)] 79)
 have HH : Hid (_ ∧ _) := ⟨hd, hsm⟩
 have hxI : (x : Int) < 18446744073709551616 := by omega
 clear elo ehi hd hsm
 go_enter Tryz.func67, Tryz.ntmps67
 go_wp2_with fail
 refine htr.mono ?_
 rintro z w1 ⟨n, rfl, ht, rfl⟩
 go_wp2
 go_ret
 obtain ⟨hd, hsm⟩ := HH.out
 refine ⟨_, rfl, ?_, b0⟩
 have := Dg.trim_eq 4294967296 (by omega) [lo, hi] n hsm ht.1 ht.2.1 ht.2.2
 rw [hd] at this
 rw [← this]
 exact own.take n ht.1
end Go.Proofs.YtiiphandhpilgaaGreatDoor

/-
  Texts laid together: Co16.
-/
import Derived.Test.YtnhackdjplppjaaGreatDoorAt08
set_option maxRecDepth 100000
namespace Go.Proofs.YtnhackdjplppjaaGreatDoor
open Go.RowKit
def stripF (r : Nat) : Nat → Nat → Int → Nat × Int
 | 0, d, p => (d, p)
 | n + 1, d, p => if d % r = 0 then stripF r n (d / r) (p + 1) else (d, p)
def ValRes (w : World) (c : Int) (ng : Bool) (m : Nat) (p : Int) (z : Ending) (w' : World) : Prop :=
 ∃ v, z = .returned (.agg #[.int .i64 c, .bool ng, v, .int .i64 p]) ∧ Rd w' .u32 v (Dg.dg 4294967296 m) ∧ Below w.heap.size w w'
set_option maxHeartbeats 6400000 in
theorem value_num (R sz ex : Nat) (D L G fam : Int) (gr : Bool) (F : Nat) (ng : Bool) (e f d : Nat) (p : Int) (w : World) (hR : 2 ≤ R) (hR2 : R ≤ 16) (hd0 : 0 < d) (hd : d < 18446744073709551616) (hp1 : -100000 ≤ p) (hp2 : p ≤ 100000)
  (HC : ∀ w1, Calls Tryz.prog 149 #[.agg #[.int .i64 (R : Int), .int .i64 D, .int .i64 L, .int .i64 G, .bool gr, .int .i64 (sz : Int), .int .i64 (ex : Int), .int .i64 fam, .func (.func F) #[] #[]], .agg #[.bool ng, .int .i64 (e : Int), .int .u64 (f : Int)]] w1 fun z w' => z = .returned (.int .i64 2) ∧ Below w1.heap.size w1 w')
  (HP : ∀ w1, Calls Tryz.prog 151 #[.agg #[.int .i64 (R : Int), .int .i64 D, .int .i64 L, .int .i64 G, .bool gr, .int .i64 (sz : Int), .int .i64 (ex : Int), .int .i64 fam, .func (.func F) #[] #[]], .agg #[.bool ng, .int .i64 (e : Int), .int .u64 (f : Int)]] w1 fun z w' => z = .returned (.tuple #[.int .u64 (d : Int), .int .i64 p]) ∧ Below w1.heap.size w1 w') :
  Calls Tryz.prog 96 #[.agg #[.int .i64 (R : Int), .int .i64 D, .int .i64 L, .int .i64 G, .bool gr, .int .i64 (sz : Int), .int .i64 (ex : Int), .int .i64 fam, .func (.func F) #[] #[]], .agg #[.bool ng, .int .i64 (e : Int), .int .u64 (f : Int)]] w (ValRes w 2 ng (stripF R 64 d p).1 (stripF R 64 d p).2) := by
 have hsf := hsf_z
 have bl := below_alloc w (.cells #[.int .i64 (R : Int), .int .i64 D, .int .i64 L, .int .i64 G, .bool gr, .int .i64 (sz : Int), .int .i64 (ex : Int), .int .i64 fam, .func (.func F) #[] #[]] 144)
 have bf := below_alloc (w.alloc (.cells #[.int .i64 (R : Int), .int .i64 D, .int .i64 L, .int .i64 G, .bool gr, .int .i64 (sz : Int), .int .i64 (ex : Int), .int .i64 fam, .func (.func F) #[] #[]] 144)) (.cells #[.bool ng, .int .i64 (e : Int), .int .u64 (f : Int)] 147)
 have bz := below_alloc ((w.alloc (.cells #[.int .i64 (R : Int), .int .i64 D, .int .i64 L, .int .i64 G, .bool gr, .int .i64 (sz : Int), .int .i64 (ex : Int), .int .i64 fam, .func (.func F) #[] #[]] 144)).alloc (.cells #[.bool ng, .int .i64 (e : Int), .int .u64 (f : Int)] 147)) (.cells #[.int .i64 0, .bool false, .slice none 0 0, .int .i64 0] 73)
 have l0 := ((locE_new w [.int .i64 (R : Int), .int .i64 D, .int .i64 L, .int .i64 G, .bool gr, .int .i64 (sz : Int), .int .i64 (ex : Int), .int .i64 fam, .func (.func F) #[] #[]] 144).later bf).later bz
 have m0 := (locE_new (w.alloc (.cells #[.int .i64 (R : Int), .int .i64 D, .int .i64 L, .int .i64 G, .bool gr, .int .i64 (sz : Int), .int .i64 (ex : Int), .int .i64 fam, .func (.func F) #[] #[]] 144)) [.bool ng, .int .i64 (e : Int), .int .u64 (f : Int)] 147).later bz
 have v0 := locE_new ((w.alloc (.cells #[.int .i64 (R : Int), .int .i64 D, .int .i64 L, .int .i64 G, .bool gr, .int .i64 (sz : Int), .int .i64 (ex : Int), .int .i64 fam, .func (.func F) #[] #[]] 144)).alloc (.cells #[.bool ng, .int .i64 (e : Int), .int .u64 (f : Int)] 147)) [.int .i64 0, .bool false, .slice none 0 0, .int .i64 0] 73
 have b0 := below_trans (below_trans bl bf) bz
 rw [World.size_alloc] at m0
 rw [World.size_alloc, World.size_alloc] at v0
 clear bl bf bz
 have HC' : Hid _ := HC
 have HP' : Hid _ := HP
 obtain ⟨m, hm⟩ : ∃ m, (stripF R 64 d p).1 = m := ⟨_, rfl⟩
 obtain ⟨pw, hpw⟩ : ∃ m, (stripF R 64 d p).2 = m := ⟨_, rfl⟩
 have HS : Hid (stripF R 64 d p = (m, pw)) := Prod.ext hm hpw
 rw [hm, hpw]
 clear hm hpw HC HP
 go_enter Tryz.func96, Tryz.ntmps96
 go_wp2_with fail
 refine (HC'.out _).mono ?_
 rintro z w1 ⟨rfl, b1⟩
 have bq := below_alloc w1 (.cells #[.int .i64 2, .bool false, .slice none 0 0, .int .i64 0] 73)
 have l1 := (l0.later b1).later bq
 have m1 := (m0.later b1).later bq
 have v1 := (v0.later b1).later bq
 have q1 := locE_new w1 [.int .i64 2, .bool false, .slice none 0 0, .int .i64 0] 73
 have b01 := below_trans (below_trans b0 b1) bq
 have hq3 : w.heap.size + 3 ≤ w1.heap.size := (v0.later b1).lt
 obtain ⟨x0, x1, x2, x3, x4, x5, x6, x7, x8⟩ := l1.cs9
 obtain ⟨y0, y1, y2⟩ := m1.cs3
 clear l0 m0 v0 b0 b1 bq
 go_wp2_with fail
 refine (HP'.out _).mono ?_
 rintro z w2 ⟨rfl, b2⟩
 have l2 := l1.later b2
 have m2 := m1.later b2
 have v2 := v1.later b2
 have q2 := q1.later b2
 have b02 := below_trans b01 b2
 clear l1 m1 v1 q1 b01 b2 x0 x1 x2 x3 x4 x5 x6 x7 x8 y0 y1 y2
 generalize w1.heap.size = q at *
 have x0 := l2.cell 0 rfl
 have hwR : IntKind.u64.wrap (R : Int) = (R : Int) := IntWalk.u64_in _ ⟨by omega, by omega⟩
 have hRn : ((R : Int) != 0) = true := by rw [bne_iff_ne]; omega
 go_wp2
 go_loop [6, 7] (fun dv pv => ∃ (n y : Nat) (r : Int), Hid (stripF R n y r = (m, pw) ∧ y < 2 ^ n) ∧ n ≤ 64 ∧ 0 < y ∧ y < 18446744073709551616 ∧ r + n ≤ p + 64 ∧ p ≤ r ∧ dv = .int .u64 (y : Int) ∧ pv = .int .i64 r) (fun dv _ => (intOf dv).toNat)
 case atStart => exact ⟨64, d, p, ⟨HS.out, hd⟩, by omega, hd0, hd, by omega, by omega, rfl, rfl⟩
 case round =>
  obtain ⟨n, y, r, HY, hn, hy0, hy, hr1, hr2, rfl, rfl⟩ := hrel
  obtain ⟨t, ht⟩ : ∃ t, y % R = t := ⟨_, rfl⟩
  obtain ⟨u, hu⟩ : ∃ u, y / R = u := ⟨_, rfl⟩
  have htI : (y : Int) % (R : Int) = (t : Int) := by rw [← ht]; exact (Int.natCast_emod y R).symm
  have huI : (y : Int) / (R : Int) = (u : Int) := by rw [← hu]; exact (Int.natCast_ediv y R).symm
  by_cases ht0 : t = 0
  ·subst ht0
   have hul : u < y := by rw [← hu]; exact Nat.div_lt_self hy0 hR
   have hu0 : 0 < u := by
    rw [← hu]
    exact Nat.div_pos (Nat.le_of_dvd hy0 (Nat.dvd_of_mod_eq_zero ht)) (by omega)
   have HH : Hid (_ ∧ _) := ⟨ht, hu⟩
   clear ht hu
   go_wp2
   obtain ⟨ht, hu⟩ := HH.out
   obtain ⟨hs1, hs2⟩ := HY.out
   obtain ⟨n', rfl⟩ : ∃ n', n = n' + 1 := by
    cases n with
    | zero => simp at hs2; omega
    | succ n' => exact ⟨n', rfl⟩
   rw [stripF, if_pos ht, hu] at hs1
   refine ⟨⟨n', u, r + 1, ⟨hs1, ?_⟩, by omega, hu0, by omega, by omega, by omega, rfl, rfl⟩, ?_⟩
   ·rw [Nat.pow_succ] at hs2
    have h2 : y / R ≤ y / 2 := Nat.div_le_div_left hR (by omega)
    omega
   ·simp only [intOf]
    omega
  ·have ht1 : ((t : Int) == 0) = false := by simp; omega
   have HH : Hid (_ ∧ _) := ⟨ht, hu⟩
   obtain ⟨hs1, hs2⟩ := HY.out
   obtain ⟨n', rfl⟩ : ∃ n', n = n' + 1 := by
    cases n with
    | zero => simp at hs2; omega
    | succ n' => exact ⟨n', rfl⟩
   rw [stripF, if_neg (by omega), Prod.mk.injEq] at hs1
   obtain ⟨rfl, rfl⟩ := hs1
   clear ht hu huI hs2 HY HH HS
   obtain ⟨y0, y1, y2⟩ := m2.cs3
   obtain ⟨u0, u1, u2, u3⟩ := q2.cs4
   have k1 := q2.free 1
   have k2 := q2.free 2
   have k3 := q2.free 3
   have q2d := q2.drew
   have q2a := q2d.set 1 (.bool ng)
   have q2b := q2d.set 3 (.int .i64 r)
   have q2ab := q2a.set 3 (.int .i64 r)
   have q2ba := q2b.set 1 (.bool ng)
   have hne : q ≠ w.heap.size + 1 := by omega
   have hnv : q ≠ w.heap.size + 1 + 1 := by omega
   have m2d := m2.drew
   have m2a := m2d.off hne 1 (.bool ng)
   have m2b := m2d.off hne 3 (.int .i64 r)
   have m2ab := m2a.off hne 3 (.int .i64 r)
   have m2ba := m2b.off hne 1 (.bool ng)
   have v2d := v2.drew
   have v2a := v2d.off hnv 1 (.bool ng)
   have v2b := v2d.off hnv 3 (.int .i64 r)
   have v2ab := v2a.off hnv 3 (.int .i64 r)
   have v2ba := v2b.off hnv 1 (.bool ng)
   have hbq : w.heap.size ≤ q := by omega
   have b2d := b02.drew
   have b2a := (but_set _ q 1 (.bool ng)).below b2d hbq
   have b2b := (but_set _ q 3 (.int .i64 r)).below b2d hbq
   have b2ab := (but_set _ q 3 (.int .i64 r)).below b2a hbq
   have b2ba := (but_set _ q 1 (.bool ng)).below b2b hbq
   have HFW : Hid (∀ w1, Calls Tryz.prog 152 #[.int .u64 (y : Int)] w1 fun z w' => ∃ v, z = .returned v ∧ Own w' w1.heap.size 141 .u32 v (Dg.dg 4294967296 y) ∧ Below w1.heap.size w1 w') := fun w1 => fromWord_any y hy w1
   go_wp2_with fail
   go_region_held3 (fun wq => wq.cell? ⟨w.heap.size + 1, 0, none⟩ = some (.bool ng) ∧ wq.cell? ⟨w.heap.size + 1, 1, none⟩ = some (.int .i64 (e : Int)) ∧ wq.cell? ⟨w.heap.size + 1, 2, none⟩ = some (.int .u64 (f : Int))) (go_keep) (first
    | (go_at_call 152; refine (HFW.out _).mono ?_; rintro z w3 ⟨v, rfl, own3, b3⟩; obtain ⟨so, sc, hvs⟩ := own3.rd.shape; subst hvs; (first | (have q3 := q2d.later b3; have m3 := m2d.later b3; have v3 := v2d.later b3; have b03 := below_trans b2d b3) | (have q3 := q2a.later b3; have m3 := m2a.later b3; have v3 := v2a.later b3; have b03 := below_trans b2a b3) | (have q3 := q2b.later b3; have m3 := m2b.later b3; have v3 := v2b.later b3; have b03 := below_trans b2b b3) | (have q3 := q2ab.later b3; have m3 := m2ab.later b3; have v3 := v2ab.later b3; have b03 := below_trans b2ab b3) | (have q3 := q2ba.later b3; have m3 := m2ba.later b3; have v3 := v2ba.later b3; have b03 := below_trans b2ba b3)); obtain ⟨t0, t1, t2⟩ := m3.cs3; obtain ⟨s0, s1, s2, s3⟩ := q3.cs4; have j1 := q3.free 1; have j2 := q3.free 2; have j3 := q3.free 3))
   have bu4 := ((but_set w3 q 1 (.bool ng)).trans (but_set _ q 2 (.slice so (Dg.dg 4294967296 y).length sc))).trans (but_set _ q 3 (.int .i64 r))
   have q4 : LocE (((w3.setCell ⟨q, 1, none⟩ (.bool ng)).setCell ⟨q, 2, none⟩ (.slice so (Dg.dg 4294967296 y).length sc)).setCell ⟨q, 3, none⟩ (.int .i64 r)) q 73 [.int .i64 2, .bool ng, .slice so (Dg.dg 4294967296 y).length sc, .int .i64 r] := ((q3.set 1 (.bool ng)).set 2 (.slice so (Dg.dg 4294967296 y).length sc)).set 3 (.int .i64 r)
   have v4 := ((v3.off hnv 1 (.bool ng)).off hnv 2 (.slice so (Dg.dg 4294967296 y).length sc)).off hnv 3 (.int .i64 r)
   have b04 := bu4.below b03 hbq
   have own4 := (bu4.own own3 q3 (by decide)).rd
   have ov4 := rd_offE own4 (Dg.norm_dg _ _ (by omega)) v4 (fun x hx n hn => by simp at hx; rcases hx with rfl | rfl | rfl | rfl <;> simp)
   generalize (((w3.setCell ⟨q, 1, none⟩ (.bool ng)).setCell ⟨q, 2, none⟩ (.slice so (Dg.dg 4294967296 y).length sc)).setCell ⟨q, 3, none⟩ (.int .i64 r)) = w4 at *
   clear b3 q3 m3 v3 own3 bu4 t0 t1 t2 s0 s1 s2 s3 j1 j2 j3 u0 u1 u2 u3 k1 k2 k3 y0 y1 y2 x0 q2d q2a q2b q2ab q2ba m2d m2a m2b m2ab m2ba v2d v2a v2b v2ab v2ba b2d b2a b2b b2ab b2ba q2 m2 v2 l2 b02 b03
   obtain ⟨s0, s1, s2, s3⟩ := q4.cs4
   obtain ⟨t0, t1, t2, t3⟩ := v4.cs4
   have j0 := v4.free 0
   have j1 := v4.free 1
   have j2 := v4.free 2
   have j3 := v4.free 3
   have bu5 := (((but_set w4 (w.heap.size + 1 + 1) 0 (.int .i64 2)).trans (but_set _ (w.heap.size + 1 + 1) 1 (.bool ng))).trans (but_set _ (w.heap.size + 1 + 1) 2 (.slice so (Dg.dg 4294967296 y).length sc))).trans (but_set _ (w.heap.size + 1 + 1) 3 (.int .i64 r))
   have cR : LocE ((((w4.setCell ⟨w.heap.size + 1 + 1, 0, none⟩ (.int .i64 2)).setCell ⟨w.heap.size + 1 + 1, 1, none⟩ (.bool ng)).setCell ⟨w.heap.size + 1 + 1, 2, none⟩ (.slice so (Dg.dg 4294967296 y).length sc)).setCell ⟨w.heap.size + 1 + 1, 3, none⟩ (.int .i64 r)) (w.heap.size + 1 + 1) 73 [.int .i64 2, .bool ng, .slice so (Dg.dg 4294967296 y).length sc, .int .i64 r] := (((v4.set 0 (.int .i64 2)).set 1 (.bool ng)).set 2 (.slice so (Dg.dg 4294967296 y).length sc)).set 3 (.int .i64 r)
   have bR := bu5.below b04 (by omega)
   have rR := bu5.rd own4 ov4
   have hl := run_loadVar_mid (P := Tryz.prog) _ (w.heap.size + 1 + 1) 0 73 [.int .i64 2, .bool ng, .slice so (Dg.dg 4294967296 y).length sc, .int .i64 r] _ cR.range Tryz.underlying73 rfl (by kernel_rfl)
   have HH : Hid (_ ∧ _ ∧ _) := ⟨hl, rR, bR⟩
   clear hl rR bR cR bu5 own4 ov4 b04 q4 v4
   go_wp2
   obtain ⟨hl, rR, bR⟩ := HH.out
   exact bodyPost_ret (results_one Tryz.results96 rfl hl) rfl ⟨_, rfl, rR, bR⟩
set_option maxHeartbeats 3200000 in
theorem value_c1 (R sz ex : Nat) (D L G fam : Int) (gr : Bool) (F : Nat) (ng : Bool) (e f : Nat) (w : World)
  (HC : ∀ w1, Calls Tryz.prog 149 #[.agg #[.int .i64 (R : Int), .int .i64 D, .int .i64 L, .int .i64 G, .bool gr, .int .i64 (sz : Int), .int .i64 (ex : Int), .int .i64 fam, .func (.func F) #[] #[]], .agg #[.bool ng, .int .i64 (e : Int), .int .u64 (f : Int)]] w1 fun z w' => z = .returned (.int .i64 1) ∧ Below w1.heap.size w1 w') :
  Calls Tryz.prog 96 #[.agg #[.int .i64 (R : Int), .int .i64 D, .int .i64 L, .int .i64 G, .bool gr, .int .i64 (sz : Int), .int .i64 (ex : Int), .int .i64 fam, .func (.func F) #[] #[]], .agg #[.bool ng, .int .i64 (e : Int), .int .u64 (f : Int)]] w (ValRes w 1 ng 0 0) := by
 have hsf := hsf_z
 have bl := below_alloc w (.cells #[.int .i64 (R : Int), .int .i64 D, .int .i64 L, .int .i64 G, .bool gr, .int .i64 (sz : Int), .int .i64 (ex : Int), .int .i64 fam, .func (.func F) #[] #[]] 144)
 have bf := below_alloc (w.alloc (.cells #[.int .i64 (R : Int), .int .i64 D, .int .i64 L, .int .i64 G, .bool gr, .int .i64 (sz : Int), .int .i64 (ex : Int), .int .i64 fam, .func (.func F) #[] #[]] 144)) (.cells #[.bool ng, .int .i64 (e : Int), .int .u64 (f : Int)] 147)
 have bz := below_alloc ((w.alloc (.cells #[.int .i64 (R : Int), .int .i64 D, .int .i64 L, .int .i64 G, .bool gr, .int .i64 (sz : Int), .int .i64 (ex : Int), .int .i64 fam, .func (.func F) #[] #[]] 144)).alloc (.cells #[.bool ng, .int .i64 (e : Int), .int .u64 (f : Int)] 147)) (.cells #[.int .i64 0, .bool false, .slice none 0 0, .int .i64 0] 73)
 have l0 := ((locE_new w [.int .i64 (R : Int), .int .i64 D, .int .i64 L, .int .i64 G, .bool gr, .int .i64 (sz : Int), .int .i64 (ex : Int), .int .i64 fam, .func (.func F) #[] #[]] 144).later bf).later bz
 have m0 := (locE_new (w.alloc (.cells #[.int .i64 (R : Int), .int .i64 D, .int .i64 L, .int .i64 G, .bool gr, .int .i64 (sz : Int), .int .i64 (ex : Int), .int .i64 fam, .func (.func F) #[] #[]] 144)) [.bool ng, .int .i64 (e : Int), .int .u64 (f : Int)] 147).later bz
 have v0 := locE_new ((w.alloc (.cells #[.int .i64 (R : Int), .int .i64 D, .int .i64 L, .int .i64 G, .bool gr, .int .i64 (sz : Int), .int .i64 (ex : Int), .int .i64 fam, .func (.func F) #[] #[]] 144)).alloc (.cells #[.bool ng, .int .i64 (e : Int), .int .u64 (f : Int)] 147)) [.int .i64 0, .bool false, .slice none 0 0, .int .i64 0] 73
 have b0 := below_trans (below_trans bl bf) bz
 rw [World.size_alloc] at m0
 rw [World.size_alloc, World.size_alloc] at v0
 clear bl bf bz
 have HC' : Hid _ := HC
 clear HC
 go_enter Tryz.func96, Tryz.ntmps96
 go_wp2_with fail
 refine (HC'.out _).mono ?_
 rintro z w1 ⟨rfl, b1⟩
 have bq := below_alloc w1 (.cells #[.int .i64 1, .bool ng, .slice none 0 0, .int .i64 0] 73)
 have m1 := (m0.later b1).later bq
 have v1 := (v0.later b1).later bq
 have q1 := locE_new w1 [.int .i64 1, .bool ng, .slice none 0 0, .int .i64 0] 73
 have b01 := below_trans (below_trans b0 b1) bq
 have hq3 : w.heap.size + 3 ≤ w1.heap.size := (v0.later b1).lt
 have y0 := ((m0.later b1).later (below_alloc w1 (.cells #[.int .i64 1, .bool false, .slice none 0 0, .int .i64 0] 73))).cell 0 rfl
 obtain ⟨z0, z1, z2, z3⟩ := v1.cs4
 have j0 := v1.free 0
 have j1 := v1.free 1
 have j2 := v1.free 2
 have j3 := v1.free 3
 obtain ⟨s0, s1, s2, s3⟩ := q1.cs4
 have hne : w1.heap.size ≠ w.heap.size + 1 + 1 := by omega
 have bu5 := (((but_set (w1.alloc (.cells #[.int .i64 1, .bool ng, .slice none 0 0, .int .i64 0] 73)) (w.heap.size + 1 + 1) 0 (.int .i64 1)).trans (but_set _ (w.heap.size + 1 + 1) 1 (.bool ng))).trans (but_set _ (w.heap.size + 1 + 1) 2 (.slice none 0 0))).trans (but_set _ (w.heap.size + 1 + 1) 3 (.int .i64 0))
 have cR : LocE (((((w1.alloc (.cells #[.int .i64 1, .bool ng, .slice none 0 0, .int .i64 0] 73)).setCell ⟨w.heap.size + 1 + 1, 0, none⟩ (.int .i64 1)).setCell ⟨w.heap.size + 1 + 1, 1, none⟩ (.bool ng)).setCell ⟨w.heap.size + 1 + 1, 2, none⟩ (.slice none 0 0)).setCell ⟨w.heap.size + 1 + 1, 3, none⟩ (.int .i64 0)) (w.heap.size + 1 + 1) 73 [.int .i64 1, .bool ng, .slice none 0 0, .int .i64 0] := (((v1.set 0 (.int .i64 1)).set 1 (.bool ng)).set 2 (.slice none 0 0)).set 3 (.int .i64 0)
 have bR := bu5.below b01 (by omega)
 have hl := run_loadVar_mid (P := Tryz.prog) _ (w.heap.size + 1 + 1) 0 73 [.int .i64 1, .bool ng, .slice none 0 0, .int .i64 0] _ cR.range Tryz.underlying73 rfl (by kernel_rfl)
 have HH : Hid (_ ∧ _) := ⟨hl, bR⟩
 clear hl bR cR bu5 b01 q1 v1 m1 l0 m0 v0 b0 b1 bq
 go_wp2
 obtain ⟨hl, bR⟩ := HH.out
 exact bodyPost_ret (results_one Tryz.results96 rfl hl) rfl ⟨_, rfl, rd_nil _ _, bR⟩
set_option maxHeartbeats 3200000 in
theorem value_c3 (R sz ex : Nat) (D L G fam : Int) (gr : Bool) (F : Nat) (ng : Bool) (e f : Nat) (w : World)
  (HC : ∀ w1, Calls Tryz.prog 149 #[.agg #[.int .i64 (R : Int), .int .i64 D, .int .i64 L, .int .i64 G, .bool gr, .int .i64 (sz : Int), .int .i64 (ex : Int), .int .i64 fam, .func (.func F) #[] #[]], .agg #[.bool ng, .int .i64 (e : Int), .int .u64 (f : Int)]] w1 fun z w' => z = .returned (.int .i64 3) ∧ Below w1.heap.size w1 w') :
  Calls Tryz.prog 96 #[.agg #[.int .i64 (R : Int), .int .i64 D, .int .i64 L, .int .i64 G, .bool gr, .int .i64 (sz : Int), .int .i64 (ex : Int), .int .i64 fam, .func (.func F) #[] #[]], .agg #[.bool ng, .int .i64 (e : Int), .int .u64 (f : Int)]] w (ValRes w 3 ng 0 0) := by
 have hsf := hsf_z
 have bl := below_alloc w (.cells #[.int .i64 (R : Int), .int .i64 D, .int .i64 L, .int .i64 G, .bool gr, .int .i64 (sz : Int), .int .i64 (ex : Int), .int .i64 fam, .func (.func F) #[] #[]] 144)
 have bf := below_alloc (w.alloc (.cells #[.int .i64 (R : Int), .int .i64 D, .int .i64 L, .int .i64 G, .bool gr, .int .i64 (sz : Int), .int .i64 (ex : Int), .int .i64 fam, .func (.func F) #[] #[]] 144)) (.cells #[.bool ng, .int .i64 (e : Int), .int .u64 (f : Int)] 147)
 have bz := below_alloc ((w.alloc (.cells #[.int .i64 (R : Int), .int .i64 D, .int .i64 L, .int .i64 G, .bool gr, .int .i64 (sz : Int), .int .i64 (ex : Int), .int .i64 fam, .func (.func F) #[] #[]] 144)).alloc (.cells #[.bool ng, .int .i64 (e : Int), .int .u64 (f : Int)] 147)) (.cells #[.int .i64 0, .bool false, .slice none 0 0, .int .i64 0] 73)
 have l0 := ((locE_new w [.int .i64 (R : Int), .int .i64 D, .int .i64 L, .int .i64 G, .bool gr, .int .i64 (sz : Int), .int .i64 (ex : Int), .int .i64 fam, .func (.func F) #[] #[]] 144).later bf).later bz
 have m0 := (locE_new (w.alloc (.cells #[.int .i64 (R : Int), .int .i64 D, .int .i64 L, .int .i64 G, .bool gr, .int .i64 (sz : Int), .int .i64 (ex : Int), .int .i64 fam, .func (.func F) #[] #[]] 144)) [.bool ng, .int .i64 (e : Int), .int .u64 (f : Int)] 147).later bz
 have v0 := locE_new ((w.alloc (.cells #[.int .i64 (R : Int), .int .i64 D, .int .i64 L, .int .i64 G, .bool gr, .int .i64 (sz : Int), .int .i64 (ex : Int), .int .i64 fam, .func (.func F) #[] #[]] 144)).alloc (.cells #[.bool ng, .int .i64 (e : Int), .int .u64 (f : Int)] 147)) [.int .i64 0, .bool false, .slice none 0 0, .int .i64 0] 73
 have b0 := below_trans (below_trans bl bf) bz
 rw [World.size_alloc] at m0
 rw [World.size_alloc, World.size_alloc] at v0
 clear bl bf bz
 have HC' : Hid _ := HC
 clear HC
 go_enter Tryz.func96, Tryz.ntmps96
 go_wp2_with fail
 refine (HC'.out _).mono ?_
 rintro z w1 ⟨rfl, b1⟩
 have bq := below_alloc w1 (.cells #[.int .i64 3, .bool ng, .slice none 0 0, .int .i64 0] 73)
 have m1 := (m0.later b1).later bq
 have v1 := (v0.later b1).later bq
 have q1 := locE_new w1 [.int .i64 3, .bool ng, .slice none 0 0, .int .i64 0] 73
 have b01 := below_trans (below_trans b0 b1) bq
 have hq3 : w.heap.size + 3 ≤ w1.heap.size := (v0.later b1).lt
 have y0 := ((m0.later b1).later (below_alloc w1 (.cells #[.int .i64 3, .bool false, .slice none 0 0, .int .i64 0] 73))).cell 0 rfl
 obtain ⟨z0, z1, z2, z3⟩ := v1.cs4
 have j0 := v1.free 0
 have j1 := v1.free 1
 have j2 := v1.free 2
 have j3 := v1.free 3
 obtain ⟨s0, s1, s2, s3⟩ := q1.cs4
 have hne : w1.heap.size ≠ w.heap.size + 1 + 1 := by omega
 have bu5 := (((but_set (w1.alloc (.cells #[.int .i64 3, .bool ng, .slice none 0 0, .int .i64 0] 73)) (w.heap.size + 1 + 1) 0 (.int .i64 3)).trans (but_set _ (w.heap.size + 1 + 1) 1 (.bool ng))).trans (but_set _ (w.heap.size + 1 + 1) 2 (.slice none 0 0))).trans (but_set _ (w.heap.size + 1 + 1) 3 (.int .i64 0))
 have cR : LocE (((((w1.alloc (.cells #[.int .i64 3, .bool ng, .slice none 0 0, .int .i64 0] 73)).setCell ⟨w.heap.size + 1 + 1, 0, none⟩ (.int .i64 3)).setCell ⟨w.heap.size + 1 + 1, 1, none⟩ (.bool ng)).setCell ⟨w.heap.size + 1 + 1, 2, none⟩ (.slice none 0 0)).setCell ⟨w.heap.size + 1 + 1, 3, none⟩ (.int .i64 0)) (w.heap.size + 1 + 1) 73 [.int .i64 3, .bool ng, .slice none 0 0, .int .i64 0] := (((v1.set 0 (.int .i64 3)).set 1 (.bool ng)).set 2 (.slice none 0 0)).set 3 (.int .i64 0)
 have bR := bu5.below b01 (by omega)
 have hl := run_loadVar_mid (P := Tryz.prog) _ (w.heap.size + 1 + 1) 0 73 [.int .i64 3, .bool ng, .slice none 0 0, .int .i64 0] _ cR.range Tryz.underlying73 rfl (by kernel_rfl)
 have HH : Hid (_ ∧ _) := ⟨hl, bR⟩
 clear hl bR cR bu5 b01 q1 v1 m1 l0 m0 v0 b0 b1 bq
 go_wp2
 obtain ⟨hl, bR⟩ := HH.out
 exact bodyPost_ret (results_one Tryz.results96 rfl hl) rfl ⟨_, rfl, rd_nil _ _, bR⟩
set_option maxHeartbeats 3200000 in
theorem value_c4 (R sz ex : Nat) (D L G fam : Int) (gr : Bool) (F : Nat) (ng : Bool) (e f : Nat) (w : World)
  (HC : ∀ w1, Calls Tryz.prog 149 #[.agg #[.int .i64 (R : Int), .int .i64 D, .int .i64 L, .int .i64 G, .bool gr, .int .i64 (sz : Int), .int .i64 (ex : Int), .int .i64 fam, .func (.func F) #[] #[]], .agg #[.bool ng, .int .i64 (e : Int), .int .u64 (f : Int)]] w1 fun z w' => z = .returned (.int .i64 4) ∧ Below w1.heap.size w1 w') :
  Calls Tryz.prog 96 #[.agg #[.int .i64 (R : Int), .int .i64 D, .int .i64 L, .int .i64 G, .bool gr, .int .i64 (sz : Int), .int .i64 (ex : Int), .int .i64 fam, .func (.func F) #[] #[]], .agg #[.bool ng, .int .i64 (e : Int), .int .u64 (f : Int)]] w (ValRes w 4 false 0 0) := by
 have hsf := hsf_z
 have bl := below_alloc w (.cells #[.int .i64 (R : Int), .int .i64 D, .int .i64 L, .int .i64 G, .bool gr, .int .i64 (sz : Int), .int .i64 (ex : Int), .int .i64 fam, .func (.func F) #[] #[]] 144)
 have bf := below_alloc (w.alloc (.cells #[.int .i64 (R : Int), .int .i64 D, .int .i64 L, .int .i64 G, .bool gr, .int .i64 (sz : Int), .int .i64 (ex : Int), .int .i64 fam, .func (.func F) #[] #[]] 144)) (.cells #[.bool ng, .int .i64 (e : Int), .int .u64 (f : Int)] 147)
 have bz := below_alloc ((w.alloc (.cells #[.int .i64 (R : Int), .int .i64 D, .int .i64 L, .int .i64 G, .bool gr, .int .i64 (sz : Int), .int .i64 (ex : Int), .int .i64 fam, .func (.func F) #[] #[]] 144)).alloc (.cells #[.bool ng, .int .i64 (e : Int), .int .u64 (f : Int)] 147)) (.cells #[.int .i64 0, .bool false, .slice none 0 0, .int .i64 0] 73)
 have l0 := ((locE_new w [.int .i64 (R : Int), .int .i64 D, .int .i64 L, .int .i64 G, .bool gr, .int .i64 (sz : Int), .int .i64 (ex : Int), .int .i64 fam, .func (.func F) #[] #[]] 144).later bf).later bz
 have m0 := (locE_new (w.alloc (.cells #[.int .i64 (R : Int), .int .i64 D, .int .i64 L, .int .i64 G, .bool gr, .int .i64 (sz : Int), .int .i64 (ex : Int), .int .i64 fam, .func (.func F) #[] #[]] 144)) [.bool ng, .int .i64 (e : Int), .int .u64 (f : Int)] 147).later bz
 have v0 := locE_new ((w.alloc (.cells #[.int .i64 (R : Int), .int .i64 D, .int .i64 L, .int .i64 G, .bool gr, .int .i64 (sz : Int), .int .i64 (ex : Int), .int .i64 fam, .func (.func F) #[] #[]] 144)).alloc (.cells #[.bool ng, .int .i64 (e : Int), .int .u64 (f : Int)] 147)) [.int .i64 0, .bool false, .slice none 0 0, .int .i64 0] 73
 have b0 := below_trans (below_trans bl bf) bz
 rw [World.size_alloc] at m0
 rw [World.size_alloc, World.size_alloc] at v0
 clear bl bf bz
 have HC' : Hid _ := HC
 clear HC
 go_enter Tryz.func96, Tryz.ntmps96
 go_wp2_with fail
 refine (HC'.out _).mono ?_
 rintro z w1 ⟨rfl, b1⟩
 have bq := below_alloc w1 (.cells #[.int .i64 4, .bool false, .slice none 0 0, .int .i64 0] 73)
 have m1 := (m0.later b1).later bq
 have v1 := (v0.later b1).later bq
 have q1 := locE_new w1 [.int .i64 4, .bool false, .slice none 0 0, .int .i64 0] 73
 have b01 := below_trans (below_trans b0 b1) bq
 have hq3 : w.heap.size + 3 ≤ w1.heap.size := (v0.later b1).lt
 have y0 := ((m0.later b1).later (below_alloc w1 (.cells #[.int .i64 4, .bool false, .slice none 0 0, .int .i64 0] 73))).cell 0 rfl
 obtain ⟨z0, z1, z2, z3⟩ := v1.cs4
 have j0 := v1.free 0
 have j1 := v1.free 1
 have j2 := v1.free 2
 have j3 := v1.free 3
 obtain ⟨s0, s1, s2, s3⟩ := q1.cs4
 have hne : w1.heap.size ≠ w.heap.size + 1 + 1 := by omega
 have bu5 := (((but_set (w1.alloc (.cells #[.int .i64 4, .bool false, .slice none 0 0, .int .i64 0] 73)) (w.heap.size + 1 + 1) 0 (.int .i64 4)).trans (but_set _ (w.heap.size + 1 + 1) 1 (.bool false))).trans (but_set _ (w.heap.size + 1 + 1) 2 (.slice none 0 0))).trans (but_set _ (w.heap.size + 1 + 1) 3 (.int .i64 0))
 have cR : LocE (((((w1.alloc (.cells #[.int .i64 4, .bool false, .slice none 0 0, .int .i64 0] 73)).setCell ⟨w.heap.size + 1 + 1, 0, none⟩ (.int .i64 4)).setCell ⟨w.heap.size + 1 + 1, 1, none⟩ (.bool false)).setCell ⟨w.heap.size + 1 + 1, 2, none⟩ (.slice none 0 0)).setCell ⟨w.heap.size + 1 + 1, 3, none⟩ (.int .i64 0)) (w.heap.size + 1 + 1) 73 [.int .i64 4, .bool false, .slice none 0 0, .int .i64 0] := (((v1.set 0 (.int .i64 4)).set 1 (.bool false)).set 2 (.slice none 0 0)).set 3 (.int .i64 0)
 have bR := bu5.below b01 (by omega)
 have hl := run_loadVar_mid (P := Tryz.prog) _ (w.heap.size + 1 + 1) 0 73 [.int .i64 4, .bool false, .slice none 0 0, .int .i64 0] _ cR.range Tryz.underlying73 rfl (by kernel_rfl)
 have HH : Hid (_ ∧ _) := ⟨hl, bR⟩
 clear hl bR cR bu5 b01 q1 v1 m1 l0 m0 v0 b0 b1 bq
 go_wp2
 obtain ⟨hl, bR⟩ := HH.out
 exact bodyPost_ret (results_one Tryz.results96 rfl hl) rfl ⟨_, rfl, rd_nil _ _, bR⟩
set_option maxHeartbeats 3200000 in
theorem value_c5 (R sz ex : Nat) (D L G fam : Int) (gr : Bool) (F : Nat) (ng : Bool) (e f : Nat) (w : World)
  (HC : ∀ w1, Calls Tryz.prog 149 #[.agg #[.int .i64 (R : Int), .int .i64 D, .int .i64 L, .int .i64 G, .bool gr, .int .i64 (sz : Int), .int .i64 (ex : Int), .int .i64 fam, .func (.func F) #[] #[]], .agg #[.bool ng, .int .i64 (e : Int), .int .u64 (f : Int)]] w1 fun z w' => z = .returned (.int .i64 5) ∧ Below w1.heap.size w1 w') :
  Calls Tryz.prog 96 #[.agg #[.int .i64 (R : Int), .int .i64 D, .int .i64 L, .int .i64 G, .bool gr, .int .i64 (sz : Int), .int .i64 (ex : Int), .int .i64 fam, .func (.func F) #[] #[]], .agg #[.bool ng, .int .i64 (e : Int), .int .u64 (f : Int)]] w (ValRes w 5 false 0 0) := by
 have hsf := hsf_z
 have bl := below_alloc w (.cells #[.int .i64 (R : Int), .int .i64 D, .int .i64 L, .int .i64 G, .bool gr, .int .i64 (sz : Int), .int .i64 (ex : Int), .int .i64 fam, .func (.func F) #[] #[]] 144)
 have bf := below_alloc (w.alloc (.cells #[.int .i64 (R : Int), .int .i64 D, .int .i64 L, .int .i64 G, .bool gr, .int .i64 (sz : Int), .int .i64 (ex : Int), .int .i64 fam, .func (.func F) #[] #[]] 144)) (.cells #[.bool ng, .int .i64 (e : Int), .int .u64 (f : Int)] 147)
 have bz := below_alloc ((w.alloc (.cells #[.int .i64 (R : Int), .int .i64 D, .int .i64 L, .int .i64 G, .bool gr, .int .i64 (sz : Int), .int .i64 (ex : Int), .int .i64 fam, .func (.func F) #[] #[]] 144)).alloc (.cells #[.bool ng, .int .i64 (e : Int), .int .u64 (f : Int)] 147)) (.cells #[.int .i64 0, .bool false, .slice none 0 0, .int .i64 0] 73)
 have l0 := ((locE_new w [.int .i64 (R : Int), .int .i64 D, .int .i64 L, .int .i64 G, .bool gr, .int .i64 (sz : Int), .int .i64 (ex : Int), .int .i64 fam, .func (.func F) #[] #[]] 144).later bf).later bz
 have m0 := (locE_new (w.alloc (.cells #[.int .i64 (R : Int), .int .i64 D, .int .i64 L, .int .i64 G, .bool gr, .int .i64 (sz : Int), .int .i64 (ex : Int), .int .i64 fam, .func (.func F) #[] #[]] 144)) [.bool ng, .int .i64 (e : Int), .int .u64 (f : Int)] 147).later bz
 have v0 := locE_new ((w.alloc (.cells #[.int .i64 (R : Int), .int .i64 D, .int .i64 L, .int .i64 G, .bool gr, .int .i64 (sz : Int), .int .i64 (ex : Int), .int .i64 fam, .func (.func F) #[] #[]] 144)).alloc (.cells #[.bool ng, .int .i64 (e : Int), .int .u64 (f : Int)] 147)) [.int .i64 0, .bool false, .slice none 0 0, .int .i64 0] 73
 have b0 := below_trans (below_trans bl bf) bz
 rw [World.size_alloc] at m0
 rw [World.size_alloc, World.size_alloc] at v0
 clear bl bf bz
 have HC' : Hid _ := HC
 clear HC
 go_enter Tryz.func96, Tryz.ntmps96
 go_wp2_with fail
 refine (HC'.out _).mono ?_
 rintro z w1 ⟨rfl, b1⟩
 have bq := below_alloc w1 (.cells #[.int .i64 5, .bool false, .slice none 0 0, .int .i64 0] 73)
 have m1 := (m0.later b1).later bq
 have v1 := (v0.later b1).later bq
 have q1 := locE_new w1 [.int .i64 5, .bool false, .slice none 0 0, .int .i64 0] 73
 have b01 := below_trans (below_trans b0 b1) bq
 have hq3 : w.heap.size + 3 ≤ w1.heap.size := (v0.later b1).lt
 have y0 := ((m0.later b1).later (below_alloc w1 (.cells #[.int .i64 5, .bool false, .slice none 0 0, .int .i64 0] 73))).cell 0 rfl
 obtain ⟨z0, z1, z2, z3⟩ := v1.cs4
 have j0 := v1.free 0
 have j1 := v1.free 1
 have j2 := v1.free 2
 have j3 := v1.free 3
 obtain ⟨s0, s1, s2, s3⟩ := q1.cs4
 have hne : w1.heap.size ≠ w.heap.size + 1 + 1 := by omega
 have bu5 := (((but_set (w1.alloc (.cells #[.int .i64 5, .bool false, .slice none 0 0, .int .i64 0] 73)) (w.heap.size + 1 + 1) 0 (.int .i64 5)).trans (but_set _ (w.heap.size + 1 + 1) 1 (.bool false))).trans (but_set _ (w.heap.size + 1 + 1) 2 (.slice none 0 0))).trans (but_set _ (w.heap.size + 1 + 1) 3 (.int .i64 0))
 have cR : LocE (((((w1.alloc (.cells #[.int .i64 5, .bool false, .slice none 0 0, .int .i64 0] 73)).setCell ⟨w.heap.size + 1 + 1, 0, none⟩ (.int .i64 5)).setCell ⟨w.heap.size + 1 + 1, 1, none⟩ (.bool false)).setCell ⟨w.heap.size + 1 + 1, 2, none⟩ (.slice none 0 0)).setCell ⟨w.heap.size + 1 + 1, 3, none⟩ (.int .i64 0)) (w.heap.size + 1 + 1) 73 [.int .i64 5, .bool false, .slice none 0 0, .int .i64 0] := (((v1.set 0 (.int .i64 5)).set 1 (.bool false)).set 2 (.slice none 0 0)).set 3 (.int .i64 0)
 have bR := bu5.below b01 (by omega)
 have hl := run_loadVar_mid (P := Tryz.prog) _ (w.heap.size + 1 + 1) 0 73 [.int .i64 5, .bool false, .slice none 0 0, .int .i64 0] _ cR.range Tryz.underlying73 rfl (by kernel_rfl)
 have HH : Hid (_ ∧ _) := ⟨hl, bR⟩
 clear hl bR cR bu5 b01 q1 v1 m1 l0 m0 v0 b0 b1 bq
 go_wp2
 obtain ⟨hl, bR⟩ := HH.out
 exact bodyPost_ret (results_one Tryz.results96 rfl hl) rfl ⟨_, rfl, rd_nil _ _, bR⟩
end Go.Proofs.YtnhackdjplppjaaGreatDoor

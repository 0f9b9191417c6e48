/-
  Texts laid together: Ce7, Knuth, Read2, Take.
-/
import Derived.Test.YtiiphandhpilgaaGreatDoorNd12
import Derived.Test.YtiiphandhpilgaaGreatDoorNd03
set_option maxRecDepth 100000
namespace Go.Proofs.YtiiphandhpilgaaGreatDoor
open Go.RowKit
set_option maxHeartbeats 6400000 in
theorem heldW_zero (R D L G fam : Int) (gr : Bool) (sz ex : Nat) (F : Nat) (s : Bool) (ao : Option Addr) (dn dc : Nat) (e : Int) (w : World) (zs : List Nat) (pn : Nat) (ps k1 k2 k3 : Bool) (pw er : Int)
  (HR : ∀ q w1, Below w.heap.size w w1 → w1.cell? ⟨q, 0, none⟩ = some (.int .u32 1) → Calls Tryz.prog 74 #[.agg #[.bool s, .slice ao dn dc, .slice (some ⟨q, 0, none⟩) 1 1, .int .i64 e], .agg #[.int .i64 R, .int .i64 D, .int .i64 L, .int .i64 G, .bool gr], .int .i64 3] w1 fun z w' => ∃ po pc, z = .returned (.tuple #[.agg #[.bool ps, .slice po pn pc, .int .i64 pw, .bool k1, .bool k2, .bool k3], .int .i64 er]) ∧ Rd w' .u32 (.slice po pn pc) zs ∧ Below w1.heap.size w1 w')
  (st : ByteArray) (HW : ∀ w1, Calls Tryz.prog 58 #[.agg #[.int .i64 R, .int .i64 D, .int .i64 L, .int .i64 G, .bool gr, .int .i64 (sz : Int), .int .i64 (ex : Int), .int .i64 fam, .func (.func F) #[] #[]], .agg #[.bool false, .int .i64 0, .int .u64 0]] w1 fun z w' => z = .returned (.string st) ∧ Below w1.heap.size w1 w') (he : er = 0) (hp : pn = 0) :
  Calls Tryz.prog 41 #[.agg #[.int .i64 R, .int .i64 D, .int .i64 L, .int .i64 G, .bool gr, .int .i64 (sz : Int), .int .i64 (ex : Int), .int .i64 fam, .func (.func F) #[] #[]], .agg #[.bool s, .slice ao dn dc, .int .i64 e]] w fun z w' => z = .returned (.tuple #[.string st, .int .i64 0]) ∧ Below w.heap.size w w' := by
 subst he hp
 have HW' : Hid _ := HW
 clear HW
 have hsf := hsf_z
 have HR' : Hid _ := HR
 clear HR
 have bd := below_alloc (w.alloc (.cells #[.int .i64 R, .int .i64 D, .int .i64 L, .int .i64 G, .bool gr, .int .i64 (sz : Int), .int .i64 (ex : Int), .int .i64 fam, .func (.func F) #[] #[]] 63)) (.cells #[.bool s, .slice ao dn dc, .int .i64 e] 87)
 have bo := below_alloc ((w.alloc (.cells #[.int .i64 R, .int .i64 D, .int .i64 L, .int .i64 G, .bool gr, .int .i64 (sz : Int), .int .i64 (ex : Int), .int .i64 fam, .func (.func F) #[] #[]] 63)).alloc (.cells #[.bool s, .slice ao dn dc, .int .i64 e] 87)) (.cells #[.int .u32 1] 79)
 have l0 := ((locE_new w [.int .i64 R, .int .i64 D, .int .i64 L, .int .i64 G, .bool gr, .int .i64 (sz : Int), .int .i64 (ex : Int), .int .i64 fam, .func (.func F) #[] #[]] 63).later bd).later bo
 have o0 := locE_new ((w.alloc (.cells #[.int .i64 R, .int .i64 D, .int .i64 L, .int .i64 G, .bool gr, .int .i64 (sz : Int), .int .i64 (ex : Int), .int .i64 fam, .func (.func F) #[] #[]] 63)).alloc (.cells #[.bool s, .slice ao dn dc, .int .i64 e] 87)) [.int .u32 1] 79
 have b0 := below_trans (below_trans (below_alloc w (.cells #[.int .i64 R, .int .i64 D, .int .i64 L, .int .i64 G, .bool gr, .int .i64 (sz : Int), .int .i64 (ex : Int), .int .i64 fam, .func (.func F) #[] #[]] 63)) bd) bo
 rw [World.size_alloc, World.size_alloc] at o0
 clear bd bo
 go_enter Tryz.func41, Tryz.ntmps41
 go_wp2_with fail
 refine (HR'.out _ _ b0 (o0.cell 0 rfl)).mono ?_
 rintro z w1 ⟨po, pc, rfl, rp, b1⟩
 have bq := below_alloc w1 (.cells #[.bool ps, .slice po 0 pc, .int .i64 pw, .bool k1, .bool k2, .bool k3] 134)
 have l1 := (l0.later b1).later bq
 have q1 := locE_new w1 [.bool ps, .slice po 0 pc, .int .i64 pw, .bool k1, .bool k2, .bool k3] 134
 have rp1 := rp.later bq
 have b01 := below_trans (below_trans b0 b1) bq
 clear l0 o0 b0 b1 bq rp HR'
 obtain ⟨x0, x1, x2, x3, x4, x5, x6, x7, x8⟩ := l1.cs9
 obtain ⟨u0, u1, u2, u3, u4, u5⟩ := q1.cs6
 go_wp2_with fail
 refine (HW'.out _).mono ?_
 rintro z w2 ⟨rfl, b2⟩
 go_wp2
 go_ret2
 exact ⟨rfl, below_trans b01 b2⟩
set_option maxHeartbeats 6400000 in
theorem heldW_num (R D L G fam : Int) (gr : Bool) (sz ex : Nat) (F : Nat) (s : Bool) (ao : Option Addr) (dn dc : Nat) (e : Int) (w : World) (zs : List Nat) (pn : Nat) (ps k1 k2 k3 : Bool) (pw er : Int)
  (HR : ∀ q w1, Below w.heap.size w w1 → w1.cell? ⟨q, 0, none⟩ = some (.int .u32 1) → Calls Tryz.prog 74 #[.agg #[.bool s, .slice ao dn dc, .slice (some ⟨q, 0, none⟩) 1 1, .int .i64 e], .agg #[.int .i64 R, .int .i64 D, .int .i64 L, .int .i64 G, .bool gr], .int .i64 3] w1 fun z w' => ∃ po pc, z = .returned (.tuple #[.agg #[.bool ps, .slice po pn pc, .int .i64 pw, .bool k1, .bool k2, .bool k3], .int .i64 er]) ∧ Rd w' .u32 (.slice po pn pc) zs ∧ Below w1.heap.size w1 w')
  (fs : Bool) (fe ff : Nat) (HF : ∀ po pc w1, Below w.heap.size w w1 → Rd w1 .u32 (.slice po pn pc) zs → Calls Tryz.prog 75 #[.agg #[.int .i64 R, .int .i64 D, .int .i64 L, .int .i64 G, .bool gr, .int .i64 (sz : Int), .int .i64 (ex : Int), .int .i64 fam, .func (.func F) #[] #[]], .agg #[.bool ps, .slice po pn pc, .int .i64 pw, .bool k1, .bool k2, .bool k3]] w1 fun z w' => z = .returned (.agg #[.bool fs, .int .i64 (fe : Int), .int .u64 (ff : Int)]) ∧ Below w1.heap.size w1 w')
  (st : ByteArray) (HW : ∀ w1, Calls Tryz.prog 58 #[.agg #[.int .i64 R, .int .i64 D, .int .i64 L, .int .i64 G, .bool gr, .int .i64 (sz : Int), .int .i64 (ex : Int), .int .i64 fam, .func (.func F) #[] #[]], .agg #[.bool fs, .int .i64 (fe : Int), .int .u64 (ff : Int)]] w1 fun z w' => z = .returned (.string st) ∧ Below w1.heap.size w1 w') (he : er = 0) (hp : 0 < pn) :
  Calls Tryz.prog 41 #[.agg #[.int .i64 R, .int .i64 D, .int .i64 L, .int .i64 G, .bool gr, .int .i64 (sz : Int), .int .i64 (ex : Int), .int .i64 fam, .func (.func F) #[] #[]], .agg #[.bool s, .slice ao dn dc, .int .i64 e]] w fun z w' => z = .returned (.tuple #[.string st, .int .i64 0]) ∧ Below w.heap.size w w' := by
 subst he
 have HF' : Hid _ := HF
 clear HF
 have HW' : Hid _ := HW
 clear HW
 have hpb : ((pn : Int) == 0) = false := by simp; omega
 have hsf := hsf_z
 have HR' : Hid _ := HR
 clear HR
 have bd := below_alloc (w.alloc (.cells #[.int .i64 R, .int .i64 D, .int .i64 L, .int .i64 G, .bool gr, .int .i64 (sz : Int), .int .i64 (ex : Int), .int .i64 fam, .func (.func F) #[] #[]] 63)) (.cells #[.bool s, .slice ao dn dc, .int .i64 e] 87)
 have bo := below_alloc ((w.alloc (.cells #[.int .i64 R, .int .i64 D, .int .i64 L, .int .i64 G, .bool gr, .int .i64 (sz : Int), .int .i64 (ex : Int), .int .i64 fam, .func (.func F) #[] #[]] 63)).alloc (.cells #[.bool s, .slice ao dn dc, .int .i64 e] 87)) (.cells #[.int .u32 1] 79)
 have l0 := ((locE_new w [.int .i64 R, .int .i64 D, .int .i64 L, .int .i64 G, .bool gr, .int .i64 (sz : Int), .int .i64 (ex : Int), .int .i64 fam, .func (.func F) #[] #[]] 63).later bd).later bo
 have o0 := locE_new ((w.alloc (.cells #[.int .i64 R, .int .i64 D, .int .i64 L, .int .i64 G, .bool gr, .int .i64 (sz : Int), .int .i64 (ex : Int), .int .i64 fam, .func (.func F) #[] #[]] 63)).alloc (.cells #[.bool s, .slice ao dn dc, .int .i64 e] 87)) [.int .u32 1] 79
 have b0 := below_trans (below_trans (below_alloc w (.cells #[.int .i64 R, .int .i64 D, .int .i64 L, .int .i64 G, .bool gr, .int .i64 (sz : Int), .int .i64 (ex : Int), .int .i64 fam, .func (.func F) #[] #[]] 63)) bd) bo
 rw [World.size_alloc, World.size_alloc] at o0
 clear bd bo
 go_enter Tryz.func41, Tryz.ntmps41
 go_wp2_with fail
 refine (HR'.out _ _ b0 (o0.cell 0 rfl)).mono ?_
 rintro z w1 ⟨po, pc, rfl, rp, b1⟩
 have bq := below_alloc w1 (.cells #[.bool ps, .slice po pn pc, .int .i64 pw, .bool k1, .bool k2, .bool k3] 134)
 have l1 := (l0.later b1).later bq
 have q1 := locE_new w1 [.bool ps, .slice po pn pc, .int .i64 pw, .bool k1, .bool k2, .bool k3] 134
 have rp1 := rp.later bq
 have b01 := below_trans (below_trans b0 b1) bq
 clear l0 o0 b0 b1 bq rp HR'
 obtain ⟨x0, x1, x2, x3, x4, x5, x6, x7, x8⟩ := l1.cs9
 obtain ⟨u0, u1, u2, u3, u4, u5⟩ := q1.cs6
 have l1d := l1.drew
 have q1d := q1.drew
 have rp1d := rp1.later (Below.refl _ _).drew
 have b01d := b01.drew
 obtain ⟨xd0, xd1, xd2, xd3, xd4, xd5, xd6, xd7, xd8⟩ := l1d.cs9
 obtain ⟨ud0, ud1, ud2, ud3, ud4, ud5⟩ := q1d.cs6
 go_wp2_with fail
 go_region_held3 (fun wq => (wq.cell? ⟨w.heap.size, 0, none⟩ = some (.int .i64 R) ∧ wq.cell? ⟨w.heap.size, 1, none⟩ = some (.int .i64 D) ∧ wq.cell? ⟨w.heap.size, 2, none⟩ = some (.int .i64 L) ∧ wq.cell? ⟨w.heap.size, 3, none⟩ = some (.int .i64 G) ∧ wq.cell? ⟨w.heap.size, 4, none⟩ = some (.bool gr) ∧ wq.cell? ⟨w.heap.size, 5, none⟩ = some (.int .i64 (sz : Int)) ∧ wq.cell? ⟨w.heap.size, 6, none⟩ = some (.int .i64 (ex : Int)) ∧ wq.cell? ⟨w.heap.size, 7, none⟩ = some (.int .i64 fam) ∧ wq.cell? ⟨w.heap.size, 8, none⟩ = some (.func (.func F) #[] #[])) ∧ (wq.cell? ⟨w1.heap.size, 0, none⟩ = some (.bool ps) ∧ wq.cell? ⟨w1.heap.size, 1, none⟩ = some (.slice po pn pc) ∧ wq.cell? ⟨w1.heap.size, 2, none⟩ = some (.int .i64 pw) ∧ wq.cell? ⟨w1.heap.size, 3, none⟩ = some (.bool k1) ∧ wq.cell? ⟨w1.heap.size, 4, none⟩ = some (.bool k2) ∧ wq.cell? ⟨w1.heap.size, 5, none⟩ = some (.bool k3))) (go_keep) (first
  | (go_at_call 75; refine (HF'.out _ _ _ b01d rp1d).mono ?_; rintro z w2 ⟨rfl, b2⟩; have l2 := l1d.later b2; have q2 := q1d.later b2; have b02 := below_trans b01d b2; obtain ⟨y0, y1, y2, y3, y4, y5, y6, y7, y8⟩ := l2.cs9; obtain ⟨v0, v1, v2, v3, v4, v5⟩ := q2.cs6)
  | (go_at_call 58; refine (HW'.out _).mono ?_; rintro z w3 ⟨rfl, b3⟩; have l3 := l2.later b3; have q3 := q2.later b3; have b03 := below_trans b02 b3; obtain ⟨t0, t1, t2, t3, t4, t5, t6, t7, t8⟩ := l3.cs9; obtain ⟨g0, g1, g2, g3, g4, g5⟩ := q3.cs6))
 all_goals go_wp2
 all_goals go_ret2
 all_goals exact ⟨rfl, b03⟩
end Go.Proofs.YtiiphandhpilgaaGreatDoor
namespace Go.Proofs.YtiiphandhpilgaaGreatDoor
open Go.RowKit
theorem guess_lower {u v seg D E q : Nat} (_hE : 0 < E) (hseg : seg < (u + 1) * E) (hD : v * E ≤ D) (hq : q * D ≤ seg) : q * v ≤ u := by
 have h1 : q * v * E ≤ q * D := by rw [Nat.mul_assoc]; exact Nat.mul_le_mul_left _ hD
 have h2 : q * v * E < (u + 1) * E := by omega
 have := Nat.lt_of_mul_lt_mul_right h2
 omega
theorem guess_upper {u v seg D E g : Nat} (hg : g * v ≤ u) (hgv : g ≤ v + 1) (hseg : u * E ≤ seg) (hD : D ≤ (v + 1) * E) : (g - 1) * D ≤ seg := by
 have h1 : (g - 1) * D ≤ (g - 1) * (v + 1) * E := by rw [Nat.mul_assoc]; exact Nat.mul_le_mul_left _ hD
 have h2 : (g - 1) * (v + 1) ≤ u := by
  rcases Nat.eq_zero_or_pos g with e | e
  ·subst e; simp
  ·obtain ⟨h, rfl⟩ : ∃ h, g = h + 1 := ⟨g - 1, by omega⟩
   rw [Nat.add_sub_cancel]
   rw [Nat.add_mul] at hg
   rw [Nat.mul_add]
   omega
 have h3 : (g - 1) * (v + 1) * E ≤ u * E := Nat.mul_le_mul_right _ h2
 omega
def GsI (top d1 d0 p0 g r : Nat) : Prop := g * d1 + r = top ∧ ∀ q, q * (d1 * 4294967296 + d0) ≤ top * 4294967296 + p0 → q < 4294967296 → q ≤ g
theorem gs_start (top d1 d0 p0 : Nat) (h1 : 0 < d1) (hp : p0 < 4294967296) : GsI top d1 d0 p0 (top / d1) (top % d1) := by
 refine ⟨by have := Nat.div_add_mod top d1; rw [Nat.mul_comm] at this; exact this, fun q hq _ => ?_⟩
 have h2 : q * d1 ≤ top := by
  rcases Nat.lt_or_ge top (q * d1) with h | h
  ·exfalso
   have h3 : (top + 1) * 4294967296 ≤ q * d1 * 4294967296 := Nat.mul_le_mul_right _ h
   have h4 : q * d1 * 4294967296 ≤ q * (d1 * 4294967296 + d0) := by rw [Nat.mul_assoc]; exact Nat.mul_le_mul_left q (Nat.le_add_right _ _)
   omega
  ·exact h
 exact (Nat.le_div_iff_mul_le h1).2 h2
theorem gs_step {top d1 d0 p0 g r : Nat} (h : GsI top d1 d0 p0 g r) (hg : 0 < g) (hc : 4294967296 ≤ g ∨ r * 4294967296 + p0 < g * d0) : GsI top d1 d0 p0 (g - 1) (r + d1) := by
 obtain ⟨h1, h2⟩ := h
 obtain ⟨k, rfl⟩ : ∃ k, g = k + 1 := ⟨g - 1, by omega⟩
 rw [Nat.add_sub_cancel]
 refine ⟨by rw [Nat.add_mul] at h1; omega, fun q hq hqB => ?_⟩
 have h3 := h2 q hq hqB
 rcases Nat.lt_or_ge k q with e | e
 ·exfalso
  have hqk : q = k + 1 := by omega
  subst hqk
  rcases hc with hc | hc
  ·omega
  ·rw [← h1, Nat.mul_add] at hq
   rw [Nat.add_mul ((k + 1) * d1)] at hq
   rw [Nat.mul_assoc] at hq
   omega
 ·exact e
theorem gs_end {top d1 d0 p0 g r : Nat} (h : GsI top d1 d0 p0 g r) (hc : g * d0 ≤ r * 4294967296 + p0) : g * (d1 * 4294967296 + d0) ≤ top * 4294967296 + p0 := by
 rw [← h.1, Nat.mul_add, Nat.add_mul (g * d1), Nat.mul_assoc]
 omega
end Go.Proofs.YtiiphandhpilgaaGreatDoor
namespace Go.Proofs.YtiiphandhpilgaaGreatDoor
open Go.RowKit
theorem cast_g1 (c x s : Nat) : ((c : Int) + (x : Int) * (s : Int)) % 4294967296 = (((c + x * s) % 4294967296 : Nat) : Int) := by rw [← Int.natCast_mul]; omega
theorem cast_g2 (c x s : Nat) : ((c : Int) + (x : Int) * (s : Int)) / 4294967296 = (((c + x * s) / 4294967296 : Nat) : Int) := by rw [← Int.natCast_mul]; omega
end Go.Proofs.YtiiphandhpilgaaGreatDoor
namespace Go.Proofs.YtiiphandhpilgaaGreatDoor
open Go.RowKit
def TakeI (R cur ys : List Nat) (i t k c b : Nat) : Prop :=
 cur.length = R.length ∧ Dg.Small 4294967296 cur ∧ c < 4294967296 ∧ b ≤ 1 ∧ (∀ j, i + k ≤ j → cur.getD j 0 = R.getD j 0) ∧ Dg.vl 4294967296 cur + 4294967296 ^ i * (Dg.vl 4294967296 (ys.take k) * t) = Dg.vl 4294967296 R + 4294967296 ^ (i + k) * (b + c)
theorem take_step {R cur ys : List Nat} {i t k c b y p ct : Nat} (h : TakeI R cur ys i t k c b) (_hk : k < ys.length) (hl : i + k < R.length) (hy : ys.getD k 0 = y) (hp : R.getD (i + k) 0 = p) (hpl : p < 4294967296) (hct : ct = c + y * t) (hcl : ct / 4294967296 < 4294967296) :
  TakeI R (cur.set (i + k) ((p + 4294967296 - ct % 4294967296 - b) % 4294967296)) ys i t (k + 1) (ct / 4294967296) (brw p (ct % 4294967296) b) := by
 obtain ⟨h1, h2, h3, h4, h5, h6⟩ := h
 refine ⟨by simpa using h1, Dg.small_set h2 _ _ (Nat.mod_lt _ (by omega)), hcl, brw_le _ _ _, fun j hj => ?_, ?_⟩
 ·rw [Dg.getD_set _ _ _ _ (by omega), if_neg (by omega)]; exact h5 j (by omega)
 ·have hs := Dg.vl_set 4294967296 cur (i + k) ((p + 4294967296 - ct % 4294967296 - b) % 4294967296) (by omega)
  rw [h5 _ (Nat.le_refl _), hp] at hs
  have hlo : ct % 4294967296 < 4294967296 := Nat.mod_lt _ (by omega)
  have eb : p + 4294967296 * brw p (ct % 4294967296) b = (p + 4294967296 - ct % 4294967296 - b) % 4294967296 + ct % 4294967296 + b := by unfold brw; split <;> omega
  generalize hnew : (p + 4294967296 - ct % 4294967296 - b) % 4294967296 = new at *
  generalize brw p (ct % 4294967296) b = b' at *
  rw [vl_take_any, hy]
  have e1 : 4294967296 ^ i * ((Dg.vl 4294967296 (ys.take k) + 4294967296 ^ k * y) * t) = 4294967296 ^ i * (Dg.vl 4294967296 (ys.take k) * t) + 4294967296 ^ (i + k) * (y * t) := by
   rw [Nat.add_mul, Nat.mul_add, Nat.pow_add, Nat.mul_assoc, Nat.mul_assoc]
  have e2 : 4294967296 ^ (i + (k + 1)) * (b' + ct / 4294967296) = 4294967296 ^ (i + k) * (4294967296 * b' + 4294967296 * (ct / 4294967296)) := by
   rw [show i + (k + 1) = i + k + 1 from by omega, Nat.pow_succ, Nat.mul_assoc, Nat.mul_add]
  have e3 := Nat.mod_add_div ct 4294967296
  have e4 : 4294967296 ^ (i + k) * (4294967296 * b' + 4294967296 * (ct / 4294967296) + p) = 4294967296 ^ (i + k) * (new + b + c + y * t) := by congr 1; omega
  rw [Nat.mul_add, Nat.mul_add, Nat.mul_add, Nat.mul_add, Nat.mul_add] at e4
  rw [Nat.mul_add] at h6
  rw [e1, e2, Nat.mul_add]
  omega
theorem take_last {R cur ys : List Nat} {i t c b p : Nat} (h : TakeI R cur ys i t ys.length c b) (hl : i + ys.length < R.length) (hp : R.getD (i + ys.length) 0 = p) (hpl : p < 4294967296) :
  (cur.set (i + ys.length) ((p + 4294967296 - c - b) % 4294967296)).length = R.length ∧ Dg.Small 4294967296 (cur.set (i + ys.length) ((p + 4294967296 - c - b) % 4294967296)) ∧ (∀ j, i + ys.length < j → (cur.set (i + ys.length) ((p + 4294967296 - c - b) % 4294967296)).getD j 0 = R.getD j 0) ∧
   Dg.vl 4294967296 (cur.set (i + ys.length) ((p + 4294967296 - c - b) % 4294967296)) + 4294967296 ^ i * (Dg.vl 4294967296 ys * t) = Dg.vl 4294967296 R + 4294967296 ^ (i + ys.length + 1) * brw p c b := by
 obtain ⟨h1, h2, h3, h4, h5, h6⟩ := h
 refine ⟨by simpa using h1, Dg.small_set h2 _ _ (Nat.mod_lt _ (by omega)), fun j hj => ?_, ?_⟩
 ·rw [Dg.getD_set _ _ _ _ (by omega), if_neg (by omega)]; exact h5 j (by omega)
 ·have hs := Dg.vl_set 4294967296 cur (i + ys.length) ((p + 4294967296 - c - b) % 4294967296) (by omega)
  rw [h5 _ (Nat.le_refl _), hp] at hs
  have eb : p + 4294967296 * brw p c b = (p + 4294967296 - c - b) % 4294967296 + c + b := by unfold brw; split <;> omega
  generalize (p + 4294967296 - c - b) % 4294967296 = new at *
  generalize brw p c b = b' at *
  rw [List.take_of_length_le (Nat.le_refl _)] at h6
  have e2 : 4294967296 ^ (i + ys.length + 1) * b' = 4294967296 ^ (i + ys.length) * (4294967296 * b') := by rw [Nat.pow_succ, Nat.mul_assoc]
  have e4 : 4294967296 ^ (i + ys.length) * (p + 4294967296 * b') = 4294967296 ^ (i + ys.length) * (new + c + b) := by rw [eb]
  rw [Nat.mul_add, Nat.mul_add, Nat.mul_add] at e4
  rw [Nat.mul_add] at h6
  rw [e2]
  omega
def Took (R cur ys : List Nat) (i t b : Nat) : Prop :=
 cur.length = R.length ∧ Dg.Small 4294967296 cur ∧ (∀ j, i + ys.length < j → cur.getD j 0 = R.getD j 0) ∧ b ≤ 1 ∧ Dg.vl 4294967296 cur + 4294967296 ^ i * (Dg.vl 4294967296 ys * t) = Dg.vl 4294967296 R + 4294967296 ^ (i + ys.length + 1) * b
set_option maxHeartbeats 3200000 in
theorem takeTimes_any (g N i pc base t : Nat) (R ys : List Nat) (vb : Value) (w : World) (ho : Own w base 79 .u32 (.slice (some ⟨g, 0, none⟩) N N) R) (sR : Dg.Small 4294967296 R) (sb : Dg.Small 4294967296 ys)
  (hby : ∀ w', w.grownBy w' (some g) → Rd w' .u32 vb ys) (hl : i + ys.length < R.length) (ht : t < 4294967296) (hRl : R.length ≤ 2000000) :
  Calls Tryz.prog 151 #[.slice (some ⟨g, i, none⟩) (ys.length + 1) pc, vb, .int .u32 t] w fun e w' =>
   ∃ (b : Nat) (cur : List Nat), e = .returned (.bool (decide (b = 1))) ∧ Took R cur ys i t b ∧ Own w' base 79 .u32 (.slice (some ⟨g, 0, none⟩) N N) cur ∧ w.grownBy w' (some g) := by
 obtain ⟨bo, cb, rfl⟩ := (hby w (grown_refl _ _)).shape
 have HBY : Hid _ := hby
 clear hby
 go_enter Tryz.func151, Tryz.ntmps151
 go_wp2
 go_loopw [7, 8, 14] (fun cv bv kv wr => ∃ (k c b : Nat) (cur : List Nat), k ≤ ys.length ∧ kv = .int .i64 k ∧ cv = .int .u64 c ∧ bv = .int .u32 b ∧ Own wr base 79 .u32 (.slice (some ⟨g, 0, none⟩) N N) cur ∧ TakeI R cur ys i t k c b ∧ w.grownBy wr (some g)) (fun _ _ kv _ => ys.length - (intOf kv).toNat)
 case atStart => exact ⟨0, 0, 0, R, Nat.zero_le _, rfl, rfl, rfl, ho, ⟨rfl, sR, by omega, by omega, fun _ _ => rfl, by simp [Dg.vl]⟩, grown_refl _ _⟩
 case round =>
  clear ho
  obtain ⟨k, c, b, cur, hk, rfl, rfl, rfl, own, hI, gr⟩ := hrel
  have hcl := hI.1
  have hc32 := hI.2.2.1
  have hb1 := hI.2.2.2.1
  by_cases hlt : k < ys.length
  ·obtain ⟨-, -, hcb⟩ := rd_open (HBY.out wr gr)
   obtain ⟨b2, off2, rfl, hcell2⟩ := hcb (by omega)
   have hy := hcell2 k hlt
   have hyl := sb k
   have hp := own.cell (i + k) (by omega)
   have hf := own.free (i + k)
   rw [hI.2.2.2.2.1 _ (Nat.le_refl _)] at hp
   have hpl := sR (i + k)
   obtain ⟨y, ey⟩ : ∃ y, ys.getD k 0 = y := ⟨_, rfl⟩
   obtain ⟨p, ep⟩ : ∃ p, R.getD (i + k) 0 = p := ⟨_, rfl⟩
   rw [ey] at hy hyl
   rw [ep] at hp hpl
   have hxy := mul_bound hyl ht
   have hxyI : (y : Int) * (t : Int) ≤ 18446744065119617025 := by rw [← Int.natCast_mul]; omega
   have hxy0 : 0 ≤ (y : Int) * (t : Int) := by rw [← Int.natCast_mul]; omega
   have hst := take_step hI hlt (by omega) ey ep hpl rfl (by omega)
   have hlo : (c + y * t) % 4294967296 < 4294967296 := Nat.mod_lt _ (by omega)
   have hs32 := sub32_any p ((c + y * t) % 4294967296) b wr hpl hlo hb1
   rw [← cast_g1] at hs32
   have HST : Hid _ := hst
   obtain ⟨nw, hnw⟩ : ∃ nw, (p + 4294967296 - (c + y * t) % 4294967296 - b) % 4294967296 = nw := ⟨_, rfl⟩
   obtain ⟨nb, hnb⟩ : ∃ nb, brw p ((c + y * t) % 4294967296) b = nb := ⟨_, rfl⟩
   rw [hnw, hnb] at hs32 HST
   clear ey ep hcell2 hcb hst hlo hcl hnw hnb
   go_wp2_with fail
   refine hs32.mono ?_
   rintro e w' ⟨rfl, rfl⟩
   clear hs32
   go_wp2
   go_roundw
   case rel =>
    rw [cast_g2]
    exact ⟨k + 1, _, nb, _, by omega, by go_num, rfl, rfl, own.store (i + k) _, HST.out, grown_trans gr (grown_set _ _ _ _)⟩
   case measure => simp [intOf]; omega
  ·have hke : k = ys.length := by omega
   subst hke
   have hp := own.cell (i + ys.length) (by omega)
   have hf := own.free (i + ys.length)
   rw [hI.2.2.2.2.1 _ (Nat.le_refl _)] at hp
   have hpl := sR (i + ys.length)
   obtain ⟨p, ep⟩ : ∃ p, R.getD (i + ys.length) 0 = p := ⟨_, rfl⟩
   rw [ep] at hp hpl
   have hst := take_last hI hl ep hpl
   have hs32 := sub32_any p c b wr hpl hc32 hb1
   have hbl := brw_le p c b
   obtain ⟨nw, hnw⟩ : ∃ nw, (p + 4294967296 - c - b) % 4294967296 = nw := ⟨_, rfl⟩
   obtain ⟨nb, hnb⟩ : ∃ nb, brw p c b = nb := ⟨_, rfl⟩
   rw [hnw, hnb] at hs32 hst
   rw [hnb] at hbl
   have HST : Hid (Took R (cur.set (i + ys.length) nw) ys i t nb) := ⟨hst.1, hst.2.1, hst.2.2.1, hbl, hst.2.2.2⟩
   have own2 := own.store (i + ys.length) nw
   have gr2 := grown_trans gr (grown_set wr g (i + ys.length) (.int .u32 (nw : Int)))
   clear ep hst hcl hnw hnb
   go_wp2_with fail
   refine hs32.mono ?_
   rintro e w' ⟨rfl, rfl⟩
   clear hs32
   by_cases hz : nb = 0
   ·subst hz
    go_wp2
    go_ret
    exact ⟨0, _, rfl, HST, own2, gr2⟩
   ·have hz1 : nb = 1 := by omega
    subst hz1
    go_wp2
    go_ret
    exact ⟨1, _, rfl, HST, own2, gr2⟩
end Go.Proofs.YtiiphandhpilgaaGreatDoor

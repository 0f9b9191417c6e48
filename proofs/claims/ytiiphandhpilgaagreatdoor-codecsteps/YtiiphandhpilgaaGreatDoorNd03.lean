/-
  Texts laid together: Add, Plus, Minus, Cmp.
-/
import Derived.Test.YtiiphandhpilgaaGreatDoorNd02
set_option maxRecDepth 100000
namespace Go.Proofs.YtiiphandhpilgaaGreatDoor
open Go.RowKit
theorem add32_any (x y c : Nat) (w : World) (hx : x < 4294967296) (hy : y < 4294967296) (hc : c ≤ 1) :
  Calls Tryz.prog 126 #[.int .u32 x, .int .u32 y, .int .u32 c] w fun e w' => e = .returned (.tuple #[.int .u32 ((x + y + c) % 4294967296 : Nat), .int .u32 ((x + y + c) / 4294967296 : Nat)]) ∧ w' = w := by
 go_enter Tryz.func126, Tryz.ntmps126
 go_wp2
 go_ret2
 exact ⟨by go_num, rfl⟩
def brw (x y c : Nat) : Nat := if x < y + c then 1 else 0
theorem top_bit (v : Nat) (h : v < 4294967296) : v.testBit 31 = decide (2147483648 ≤ v) := by
 rw [Nat.testBit_eq_decide_div_mod_eq]
 by_cases e : 2147483648 ≤ v
 ·rw [decide_eq_true e, decide_eq_true (by omega)]
 ·rw [decide_eq_false e, decide_eq_false (by omega)]
theorem div_top (v : Nat) (h : v < 4294967296) : v / 2147483648 = (v.testBit 31).toNat := by
 rw [top_bit v h]
 by_cases e : 2147483648 ≤ v
 ·rw [decide_eq_true e, Bool.toNat_true]; omega
 ·rw [decide_eq_false e, Bool.toNat_false]; omega
theorem borrow_nat (x y c d : Nat) (hx : x < 4294967296) (hy : y < 4294967296) (hc : c ≤ 1) (hd : d = (x + 4294967296 - y - c) % 4294967296) :
  (((4294967295 ^^^ x) &&& y) ||| ((4294967295 ^^^ (x ^^^ y)) &&& d)) / 2147483648 = brw x y c := by
 have hdl : d < 4294967296 := by omega
 have h1 : (4294967295 ^^^ x) < 2 ^ 32 := Nat.xor_lt_two_pow (by omega) (by omega)
 have h2 : (x ^^^ y) < 2 ^ 32 := Nat.xor_lt_two_pow (by omega) (by omega)
 have h3 : (4294967295 ^^^ (x ^^^ y)) < 2 ^ 32 := Nat.xor_lt_two_pow (by omega) h2
 have h4 : ((4294967295 ^^^ x) &&& y) < 2 ^ 32 := Nat.and_lt_two_pow _ (by omega)
 have h5 : ((4294967295 ^^^ (x ^^^ y)) &&& d) < 2 ^ 32 := Nat.and_lt_two_pow _ (by omega)
 have h6 := Nat.or_lt_two_pow h4 h5
 rw [div_top _ (by omega)]
 have hM : Nat.testBit 4294967295 31 = true := by decide
 simp only [Nat.testBit_or, Nat.testBit_and, Nat.testBit_xor, hM, top_bit x hx, top_bit y hy, top_bit d hdl]
 unfold brw
 by_cases a1 : 2147483648 ≤ x <;> by_cases a2 : 2147483648 ≤ y <;> by_cases a3 : 2147483648 ≤ d <;> by_cases a4 : x < y + c <;> simp [a1, a2, a3, a4] <;> omega
theorem borrow_bits (x y c : Nat) (hx : x < 4294967296) (hy : y < 4294967296) (hc : c ≤ 1) :
  bits .or .u32 (bits .and .u32 (bits .xor .u32 IntKind.u32.max (x : Int)) (y : Int)) (bits .and .u32 (bits .xor .u32 IntKind.u32.max (bits .xor .u32 (x : Int) (y : Int))) (((x : Int) - (y : Int) - (c : Int)) % 4294967296)) / 2147483648 = ((brw x y c : Nat) : Int) := by
 have hM : IntKind.u32.max = ((4294967295 : Nat) : Int) := by decide
 have hd : ((x : Int) - (y : Int) - (c : Int)) % 4294967296 = (((x + 4294967296 - y - c) % 4294967296 : Nat) : Int) := by omega
 have hdl : (x + 4294967296 - y - c) % 4294967296 < 4294967296 := Nat.mod_lt _ (by omega)
 have h1 : (4294967295 ^^^ x) < 2 ^ 32 := Nat.xor_lt_two_pow (by omega) (by omega)
 have h2 : (x ^^^ y) < 2 ^ 32 := Nat.xor_lt_two_pow (by omega) (by omega)
 have h3 : (4294967295 ^^^ (x ^^^ y)) < 2 ^ 32 := Nat.xor_lt_two_pow (by omega) h2
 have h4 : ((4294967295 ^^^ x) &&& y) < 2 ^ 32 := Nat.and_lt_two_pow _ (by omega)
 have h5 : ((4294967295 ^^^ (x ^^^ y)) &&& ((x + 4294967296 - y - c) % 4294967296)) < 2 ^ 32 := Nat.and_lt_two_pow _ (by omega)
 rw [hM, hd, u32_xor_nat _ _ (by omega) (by omega), u32_xor_nat _ _ (by omega) (by omega), u32_xor_nat _ _ (by omega) (by omega), u32_and_nat _ _ (by omega) (by omega), u32_and_nat _ _ (by omega) (by omega), u32_or_nat _ _ (by omega) (by omega)]
 rw [← borrow_nat x y c _ hx hy hc rfl]
 exact (Int.natCast_ediv _ _).symm
theorem sub32_any (x y c : Nat) (w : World) (hx : x < 4294967296) (hy : y < 4294967296) (hc : c ≤ 1) :
  Calls Tryz.prog 125 #[.int .u32 x, .int .u32 y, .int .u32 c] w fun e w' => e = .returned (.tuple #[.int .u32 ((x + 4294967296 - y - c) % 4294967296 : Nat), .int .u32 ((brw x y c : Nat) : Int)]) ∧ w' = w := by
 have hb := borrow_bits x y c hx hy hc
 have hsg : ¬ IntKind.u32.signed = true := by decide
 have hd : (((x : Int) - (y : Int)) % 4294967296 - (c : Int)) % 4294967296 = (((x + 4294967296 - y - c) % 4294967296 : Nat) : Int) := by omega
 obtain ⟨d, ed⟩ : ∃ d, (x + 4294967296 - y - c) % 4294967296 = d := ⟨_, rfl⟩
 rw [ed] at hd ⊢
 have Hd : Hid _ := hd
 clear hd ed
 go_enter Tryz.func125, Tryz.ntmps125
 go_wp2
 go_ret2
 exact ⟨by rw [← Hd.out]; rfl, rfl⟩
end Go.Proofs.YtiiphandhpilgaaGreatDoor
namespace Go.Proofs.YtiiphandhpilgaaGreatDoor
open Go.RowKit
def AddI (xs ys ps : List Nat) (k c : Nat) : Prop :=
 ps.length = xs.length + 1 ∧ Dg.Small 4294967296 ps ∧ c ≤ 1 ∧ Dg.vl 4294967296 (ps.take k) + 4294967296 ^ k * c = Dg.vl 4294967296 (xs.take k) + Dg.vl 4294967296 (ys.take k)
theorem vl_take_set (l : List Nat) (k x : Nat) (h : k < l.length) : Dg.vl 4294967296 ((l.set k x).take (k + 1)) = Dg.vl 4294967296 (l.take k) + 4294967296 ^ k * x := by
 rw [Dg.vl_take_succ _ _ _ (by simpa using h), Dg.getD_set _ _ _ _ h, if_pos rfl, List.take_set_of_le (Nat.le_refl _)]
theorem vl_take_over (l : List Nat) (k : Nat) : Dg.vl 4294967296 (l.take (k + 1)) = Dg.vl 4294967296 (l.take k) + 4294967296 ^ k * l.getD k 0 := by
 by_cases h : k < l.length
 ·exact Dg.vl_take_succ _ _ _ h
 ·rw [List.take_of_length_le (by omega), List.take_of_length_le (by omega), Dg.getD_of_le _ _ (by omega)]; omega
theorem addI_step {xs ys ps : List Nat} {k c x y : Nat} (h : AddI xs ys ps k c) (hk : k < xs.length) (hx : xs.getD k 0 = x) (hy : ys.getD k 0 = y) (hxl : x < 4294967296) (hyl : y < 4294967296) :
  AddI xs ys (ps.set k ((x + y + c) % 4294967296)) (k + 1) ((x + y + c) / 4294967296) := by
 obtain ⟨h1, h2, h3, h4⟩ := h
 refine ⟨by simpa using h1, Dg.small_set h2 _ _ (Nat.mod_lt _ (by omega)), by omega, ?_⟩
 rw [vl_take_set _ _ _ (by omega), vl_take_over xs, vl_take_over ys, hx, hy]
 have e : 4294967296 ^ (k + 1) * ((x + y + c) / 4294967296) = 4294967296 ^ k * (4294967296 * ((x + y + c) / 4294967296)) := by rw [Nat.pow_succ, Nat.mul_assoc]
 have e2 : 4294967296 ^ k * (x + y + c) = 4294967296 ^ k * ((x + y + c) % 4294967296) + 4294967296 ^ k * (4294967296 * ((x + y + c) / 4294967296)) := by
  rw [← Nat.mul_add, Nat.mod_add_div]
 have e3 : 4294967296 ^ k * (x + y + c) = 4294967296 ^ k * x + 4294967296 ^ k * y + 4294967296 ^ k * c := by rw [Nat.mul_add, Nat.mul_add]
 rw [e]
 omega
theorem addI_end {xs ys ps : List Nat} {c : Nat} (h : AddI xs ys ps xs.length c) (hl : ys.length ≤ xs.length) : (ps.set xs.length c).length = xs.length + 1 ∧ Dg.Small 4294967296 (ps.set xs.length c) ∧ Dg.vl 4294967296 (ps.set xs.length c) = Dg.vl 4294967296 xs + Dg.vl 4294967296 ys := by
 obtain ⟨h1, h2, h3, h4⟩ := h
 refine ⟨by simpa using h1, Dg.small_set h2 _ _ (by omega), ?_⟩
 have := vl_take_set ps xs.length c (by omega)
 rw [List.take_of_length_le (by simp; omega)] at this
 rw [this]
 rw [List.take_of_length_le (Nat.le_refl xs.length), List.take_of_length_le hl] at h4
 omega
set_option maxHeartbeats 3200000 in
theorem plus_le (va vb : Value) (xs ys : List Nat) (w : World) (ha : Rd w .u32 va xs) (hb : Rd w .u32 vb ys) (sa : Dg.Small 4294967296 xs) (sb : Dg.Small 4294967296 ys) (hla : xs.length ≤ 1000000) (hlb : ys.length ≤ xs.length) :
  Calls Tryz.prog 106 #[va, vb] w (Num w (Dg.vl 4294967296 xs + Dg.vl 4294967296 ys)) := by
 obtain ⟨i0, hi, hz0, hz1, hz2⟩ := info_parts Tryz.infoU32
 obtain ⟨ao, ca, rfl, -, -, hca⟩ := ha
 obtain ⟨bo, cb, rfl, -, -, hcb⟩ := hb
 go_enter Tryz.func106, Tryz.ntmps106
 go_wp2_with (at_make; refine wpList_make_full _ rfl _ _ 130 rfl w.heap.size 79 i0 (.int .u32 0) 1 Tryz.underlying130 hi hz0 hz1 _ _ _ _ (xs.length + 1) rfl rfl (by omega) (by omega) ?b2 ?b3 (Nat.le_refl _) ?_)
 case b2 => rw [hz2]; omega
 case b3 => unfold maxLen; omega
 intro w0 hown0 hgrow0
 have own0 := own_made hown0
 have bel0 : Below w.heap.size w w0 := (Below.refl _ _).grown hgrow0 (Nat.le_refl _) (fun k h => by cases h)
 clear hown0 hgrow0
 go_wp2
 go_loopw [6, 23] (fun cv kv wr => ∃ (k c : Nat) (ps : List Nat), k ≤ ys.length ∧ kv = .int .i64 k ∧ cv = .int .u32 c ∧ Own wr w.heap.size 79 .u32 (.slice (some ⟨w.heap.size, 0, none⟩) (xs.length + 1) (xs.length + 1)) ps ∧ AddI xs ys ps k c ∧ Below w.heap.size w wr)
  (fun _ kv _ => ys.length - (intOf kv).toNat)
 case atStart => exact ⟨0, 0, _, Nat.zero_le _, rfl, rfl, own0, ⟨by simp, Dg.small_replicate _ _ (by omega), by omega, by simp [Dg.vl]⟩, bel0⟩
 case round =>
  clear own0 bel0
  obtain ⟨k, c, ps, hkl, rfl, rfl, own, hI, bel⟩ := hrel
  have hpl := hI.1
  have hcl := hI.2.2.1
  by_cases hlt : k < ys.length
  ·obtain ⟨b, off, rfl, hcell⟩ := hca (by omega)
   obtain ⟨b2, off2, rfl, hcell2⟩ := hcb (by omega)
   have hx := cell_later bel (hcell k (by omega))
   have hy := cell_later bel (hcell2 k (by omega))
   have hp := own.cell k (by omega)
   have hf := own.free k
   have hxl := sa k
   have hyl := sb k
   obtain ⟨x, ex⟩ : ∃ x, xs.getD k 0 = x := ⟨_, rfl⟩
   obtain ⟨y, ey⟩ : ∃ y, ys.getD k 0 = y := ⟨_, rfl⟩
   have hst := addI_step hI (by omega) ex ey (by omega) (by omega)
   rw [ex] at hx hxl
   rw [ey] at hy hyl
   clear ex ey hcell hcell2 hca hcb
   go_wp2_with fail
   refine (add32_any x y c _ hxl hyl hcl).mono ?_
   rintro e w' ⟨rfl, rfl⟩
   go_wp2
   go_roundw
   case rel => exact ⟨k + 1, _, _, by omega, by go_num, rfl, own.store k _, hst, bel.setCell (by exact Nat.le_refl _) _⟩
   case measure => simp [intOf]; omega
  ·have hk : k = ys.length := by omega
   subst hk
   go_wp2
   go_loopw [6, 9] (fun cv kv wr => ∃ (k c : Nat) (ps : List Nat), ys.length ≤ k ∧ k ≤ xs.length ∧ kv = .int .i64 k ∧ cv = .int .u32 c ∧ Own wr w.heap.size 79 .u32 (.slice (some ⟨w.heap.size, 0, none⟩) (xs.length + 1) (xs.length + 1)) ps ∧ AddI xs ys ps k c ∧ Below w.heap.size w wr)
    (fun _ kv _ => xs.length - (intOf kv).toNat)
   case atStart => exact ⟨ys.length, c, ps, Nat.le_refl _, by omega, rfl, rfl, own, hI, bel⟩
   case round =>
    clear own hI bel hpl hcl
    obtain ⟨k, c, ps, hky, hkl, rfl, rfl, own, hI, bel⟩ := hrel
    have hpl := hI.1
    have hcl := hI.2.2.1
    by_cases hlt : k < xs.length
    ·obtain ⟨b, off, rfl, hcell⟩ := hca (by omega)
     have hx := cell_later bel (hcell k (by omega))
     have hp := own.cell k (by omega)
     have hf := own.free k
     have hxl := sa k
     obtain ⟨x, ex⟩ : ∃ x, xs.getD k 0 = x := ⟨_, rfl⟩
     have hst := addI_step hI (by omega) ex (Dg.getD_of_le ys k hky) (by omega) (by omega)
     rw [ex] at hx hxl
     clear ex hcell hca hcb
     go_wp2_with fail
     refine (add32_any x 0 c _ hxl (by omega) hcl).mono ?_
     rintro e w' ⟨rfl, rfl⟩
     go_wp2
     go_roundw
     case rel => exact ⟨k + 1, _, _, by omega, by omega, by go_num, rfl, own.store k _, hst, bel.setCell (by exact Nat.le_refl _) _⟩
     case measure => simp [intOf]; omega
    ·have hk : k = xs.length := by omega
     subst hk
     have hp := own.cell xs.length (by omega)
     have hf := own.free xs.length
     have hen := addI_end hI (by omega)
     have own2 := own.store xs.length c
     have bel2 := bel.setCell (p := ⟨w.heap.size, xs.length, none⟩) (by exact Nat.le_refl _) (.int .u32 (c : Int))
     have rd := own2.rd
     go_wp2_with fail
     refine (trim_any _ _ _ _ _ rd).mono ?_
     rintro e w' ⟨m, rfl, hm, rfl⟩
     have ht := own_trim 4294967296 (by omega) own2 hen.2.1 hm
     rw [hen.2.2] at ht
     clear rd own2 hen hp hf own
     go_wp2
     go_ret
     exact ⟨_, rfl, ht, bel2⟩
set_option maxHeartbeats 3200000 in
theorem plus_gt (va vb : Value) (xs ys : List Nat) (w : World) (ha : Rd w .u32 va xs) (hb : Rd w .u32 vb ys) (sa : Dg.Small 4294967296 xs) (sb : Dg.Small 4294967296 ys) (hla : xs.length ≤ 1000000) (hlb : ys.length < xs.length) :
  Calls Tryz.prog 106 #[vb, va] w (Num w (Dg.vl 4294967296 xs + Dg.vl 4294967296 ys)) := by
 obtain ⟨i0, hi, hz0, hz1, hz2⟩ := info_parts Tryz.infoU32
 obtain ⟨ao, ca, rfl, -, -, hca⟩ := ha
 obtain ⟨bo, cb, rfl, -, -, hcb⟩ := hb
 go_enter Tryz.func106, Tryz.ntmps106
 go_wp2_with (at_make; refine wpList_make_full _ rfl _ _ 130 rfl w.heap.size 79 i0 (.int .u32 0) 1 Tryz.underlying130 hi hz0 hz1 _ _ _ _ (xs.length + 1) rfl rfl (by omega) (by omega) ?b2 ?b3 (Nat.le_refl _) ?_)
 case b2 => rw [hz2]; omega
 case b3 => unfold maxLen; omega
 intro w0 hown0 hgrow0
 have own0 := own_made hown0
 have bel0 : Below w.heap.size w w0 := (Below.refl _ _).grown hgrow0 (Nat.le_refl _) (fun k h => by cases h)
 clear hown0 hgrow0
 go_wp2
 go_loopw [6, 23] (fun cv kv wr => ∃ (k c : Nat) (ps : List Nat), k ≤ ys.length ∧ kv = .int .i64 k ∧ cv = .int .u32 c ∧ Own wr w.heap.size 79 .u32 (.slice (some ⟨w.heap.size, 0, none⟩) (xs.length + 1) (xs.length + 1)) ps ∧ AddI xs ys ps k c ∧ Below w.heap.size w wr)
  (fun _ kv _ => ys.length - (intOf kv).toNat)
 case atStart => exact ⟨0, 0, _, Nat.zero_le _, rfl, rfl, own0, ⟨by simp, Dg.small_replicate _ _ (by omega), by omega, by simp [Dg.vl]⟩, bel0⟩
 case round =>
  clear own0 bel0
  obtain ⟨k, c, ps, hkl, rfl, rfl, own, hI, bel⟩ := hrel
  have hpl := hI.1
  have hcl := hI.2.2.1
  by_cases hlt : k < ys.length
  ·obtain ⟨b, off, rfl, hcell⟩ := hca (by omega)
   obtain ⟨b2, off2, rfl, hcell2⟩ := hcb (by omega)
   have hx := cell_later bel (hcell k (by omega))
   have hy := cell_later bel (hcell2 k (by omega))
   have hp := own.cell k (by omega)
   have hf := own.free k
   have hxl := sa k
   have hyl := sb k
   obtain ⟨x, ex⟩ : ∃ x, xs.getD k 0 = x := ⟨_, rfl⟩
   obtain ⟨y, ey⟩ : ∃ y, ys.getD k 0 = y := ⟨_, rfl⟩
   have hst := addI_step hI (by omega) ex ey (by omega) (by omega)
   rw [ex] at hx hxl
   rw [ey] at hy hyl
   clear ex ey hcell hcell2 hca hcb
   go_wp2_with fail
   refine (add32_any x y c _ hxl hyl hcl).mono ?_
   rintro e w' ⟨rfl, rfl⟩
   go_wp2
   go_roundw
   case rel => exact ⟨k + 1, _, _, by omega, by go_num, rfl, own.store k _, hst, bel.setCell (by exact Nat.le_refl _) _⟩
   case measure => simp [intOf]; omega
  ·have hk : k = ys.length := by omega
   subst hk
   go_wp2
   go_loopw [6, 9] (fun cv kv wr => ∃ (k c : Nat) (ps : List Nat), ys.length ≤ k ∧ k ≤ xs.length ∧ kv = .int .i64 k ∧ cv = .int .u32 c ∧ Own wr w.heap.size 79 .u32 (.slice (some ⟨w.heap.size, 0, none⟩) (xs.length + 1) (xs.length + 1)) ps ∧ AddI xs ys ps k c ∧ Below w.heap.size w wr)
    (fun _ kv _ => xs.length - (intOf kv).toNat)
   case atStart => exact ⟨ys.length, c, ps, Nat.le_refl _, by omega, rfl, rfl, own, hI, bel⟩
   case round =>
    clear own hI bel hpl hcl
    obtain ⟨k, c, ps, hky, hkl, rfl, rfl, own, hI, bel⟩ := hrel
    have hpl := hI.1
    have hcl := hI.2.2.1
    by_cases hlt : k < xs.length
    ·obtain ⟨b, off, rfl, hcell⟩ := hca (by omega)
     have hx := cell_later bel (hcell k (by omega))
     have hp := own.cell k (by omega)
     have hf := own.free k
     have hxl := sa k
     obtain ⟨x, ex⟩ : ∃ x, xs.getD k 0 = x := ⟨_, rfl⟩
     have hst := addI_step hI (by omega) ex (Dg.getD_of_le ys k hky) (by omega) (by omega)
     rw [ex] at hx hxl
     clear ex hcell hca hcb
     go_wp2_with fail
     refine (add32_any x 0 c _ hxl (by omega) hcl).mono ?_
     rintro e w' ⟨rfl, rfl⟩
     go_wp2
     go_roundw
     case rel => exact ⟨k + 1, _, _, by omega, by omega, by go_num, rfl, own.store k _, hst, bel.setCell (by exact Nat.le_refl _) _⟩
     case measure => simp [intOf]; omega
    ·have hk : k = xs.length := by omega
     subst hk
     have hp := own.cell xs.length (by omega)
     have hf := own.free xs.length
     have hen := addI_end hI (by omega)
     have own2 := own.store xs.length c
     have bel2 := bel.setCell (p := ⟨w.heap.size, xs.length, none⟩) (by exact Nat.le_refl _) (.int .u32 (c : Int))
     have rd := own2.rd
     go_wp2_with fail
     refine (trim_any _ _ _ _ _ rd).mono ?_
     rintro e w' ⟨m, rfl, hm, rfl⟩
     have ht := own_trim 4294967296 (by omega) own2 hen.2.1 hm
     rw [hen.2.2] at ht
     clear rd own2 hen hp hf own
     go_wp2
     go_ret
     exact ⟨_, rfl, ht, bel2⟩
theorem plus_any (va vb : Value) (xs ys : List Nat) (w : World) (ha : Rd w .u32 va xs) (hb : Rd w .u32 vb ys) (sa : Dg.Small 4294967296 xs) (sb : Dg.Small 4294967296 ys) (hla : xs.length ≤ 1000000) (hlb : ys.length ≤ 1000000) :
  Calls Tryz.prog 106 #[va, vb] w (Num w (Dg.vl 4294967296 xs + Dg.vl 4294967296 ys)) := by
 by_cases h : ys.length ≤ xs.length
 ·exact plus_le va vb xs ys w ha hb sa sb hla h
 ·rw [Nat.add_comm]
  exact plus_gt vb va ys xs w hb ha sb sa hlb (by omega)
end Go.Proofs.YtiiphandhpilgaaGreatDoor
namespace Go.Proofs.YtiiphandhpilgaaGreatDoor
open Go.RowKit
def SubI (xs ys ps : List Nat) (k c : Nat) : Prop :=
 ps.length = xs.length ∧ Dg.Small 4294967296 ps ∧ c ≤ 1 ∧ Dg.vl 4294967296 (xs.take k) + 4294967296 ^ k * c = Dg.vl 4294967296 (ps.take k) + Dg.vl 4294967296 (ys.take k)
theorem brw_le (x y c : Nat) : brw x y c ≤ 1 := by unfold brw; split <;> omega
theorem subI_step {xs ys ps : List Nat} {k c x y : Nat} (h : SubI xs ys ps k c) (hk : k < xs.length) (hx : xs.getD k 0 = x) (hy : ys.getD k 0 = y) (hxl : x < 4294967296) (hyl : y < 4294967296) :
  SubI xs ys (ps.set k ((x + 4294967296 - y - c) % 4294967296)) (k + 1) (brw x y c) := by
 obtain ⟨h1, h2, h3, h4⟩ := h
 refine ⟨by simpa using h1, Dg.small_set h2 _ _ (Nat.mod_lt _ (by omega)), brw_le _ _ _, ?_⟩
 rw [vl_take_set _ _ _ (by omega), vl_take_over xs, vl_take_over ys, hx, hy]
 have e : x + 4294967296 * brw x y c = (x + 4294967296 - y - c) % 4294967296 + y + c := by unfold brw; split <;> omega
 have e2 : 4294967296 ^ k * (x + 4294967296 * brw x y c) = 4294967296 ^ k * ((x + 4294967296 - y - c) % 4294967296 + y + c) := by rw [e]
 have e3 : 4294967296 ^ (k + 1) * brw x y c = 4294967296 ^ k * (4294967296 * brw x y c) := by rw [Nat.pow_succ, Nat.mul_assoc]
 rw [Nat.mul_add, Nat.mul_add, Nat.mul_add] at e2
 rw [e3]
 omega
theorem subI_end {xs ys ps : List Nat} {c : Nat} (h : SubI xs ys ps xs.length c) (hl : ys.length ≤ xs.length) (hv : Dg.vl 4294967296 ys ≤ Dg.vl 4294967296 xs) : Dg.vl 4294967296 ps = Dg.vl 4294967296 xs - Dg.vl 4294967296 ys := by
 obtain ⟨h1, h2, h3, h4⟩ := h
 rw [List.take_of_length_le (Nat.le_refl xs.length), List.take_of_length_le hl, List.take_of_length_le (by omega)] at h4
 have hlt := Dg.vl_lt 4294967296 ps h2
 rw [h1] at hlt
 have hc : c = 0 := by
  rcases Nat.eq_zero_or_pos c with e | e
  ·exact e
  ·have : c = 1 := by omega
   subst this
   omega
 subst hc
 omega
set_option maxHeartbeats 3200000 in
theorem minus_any (va vb : Value) (xs ys : List Nat) (w : World) (ha : Rd w .u32 va xs) (hb : Rd w .u32 vb ys) (sa : Dg.Small 4294967296 xs) (sb : Dg.Small 4294967296 ys) (hla : xs.length ≤ 1000000) (hlb : ys.length ≤ xs.length) (hv : Dg.vl 4294967296 ys ≤ Dg.vl 4294967296 xs) :
  Calls Tryz.prog 103 #[va, vb] w (Num w (Dg.vl 4294967296 xs - Dg.vl 4294967296 ys)) := by
 obtain ⟨i0, hi, hz0, hz1, hz2⟩ := info_parts Tryz.infoU32
 obtain ⟨ao, ca, rfl, -, -, hca⟩ := ha
 obtain ⟨bo, cb, rfl, -, -, hcb⟩ := hb
 have HV : Hid _ := hv
 clear hv
 go_enter Tryz.func103, Tryz.ntmps103
 go_wp2_with (at_make; refine wpList_make_full _ rfl _ _ 130 rfl w.heap.size 79 i0 (.int .u32 0) 1 Tryz.underlying130 hi hz0 hz1 _ _ _ _ xs.length rfl rfl (by omega) (by omega) ?b2 ?b3 (Nat.le_refl _) ?_)
 case b2 => rw [hz2]; omega
 case b3 => unfold maxLen; omega
 intro w0 hown0 hgrow0
 have own0 := own_made hown0
 have bel0 : Below w.heap.size w w0 := (Below.refl _ _).grown hgrow0 (Nat.le_refl _) (fun k h => by cases h)
 clear hown0 hgrow0
 go_wp2
 go_loopw [6, 15] (fun cv kv wr => ∃ (k c : Nat) (ps : List Nat), k ≤ ys.length ∧ kv = .int .i64 k ∧ cv = .int .u32 c ∧ Own wr w.heap.size 79 .u32 (.slice (some ⟨w.heap.size, 0, none⟩) xs.length xs.length) ps ∧ SubI xs ys ps k c ∧ Below w.heap.size w wr)
  (fun _ kv _ => ys.length - (intOf kv).toNat)
 case atStart => exact ⟨0, 0, _, Nat.zero_le _, rfl, rfl, own0, ⟨by simp, Dg.small_replicate _ _ (by omega), by omega, by simp [Dg.vl]⟩, bel0⟩
 case round =>
  clear own0 bel0
  obtain ⟨k, c, ps, hkl, rfl, rfl, own, hI, bel⟩ := hrel
  have hpl := hI.1
  have hcl := hI.2.2.1
  by_cases hlt : k < ys.length
  ·obtain ⟨b, off, rfl, hcell⟩ := hca (by omega)
   obtain ⟨b2, off2, rfl, hcell2⟩ := hcb (by omega)
   have hx := cell_later bel (hcell k (by omega))
   have hy := cell_later bel (hcell2 k (by omega))
   have hp := own.cell k (by omega)
   have hf := own.free k
   have hxl := sa k
   have hyl := sb k
   obtain ⟨x, ex⟩ : ∃ x, xs.getD k 0 = x := ⟨_, rfl⟩
   obtain ⟨y, ey⟩ : ∃ y, ys.getD k 0 = y := ⟨_, rfl⟩
   have hst := subI_step hI (by omega) ex ey (by omega) (by omega)
   rw [ex] at hx hxl
   rw [ey] at hy hyl
   clear ex ey hcell hcell2 hca hcb
   go_wp2_with fail
   refine (sub32_any x y c _ hxl hyl hcl).mono ?_
   rintro e w' ⟨rfl, rfl⟩
   go_wp2
   go_roundw
   case rel => exact ⟨k + 1, _, _, by omega, by go_num, rfl, own.store k _, hst, bel.setCell (by exact Nat.le_refl _) _⟩
   case measure => simp [intOf]; omega
  ·have hk : k = ys.length := by omega
   subst hk
   go_wp2
   go_loopw [6, 9] (fun cv kv wr => ∃ (k c : Nat) (ps : List Nat), ys.length ≤ k ∧ k ≤ xs.length ∧ kv = .int .i64 k ∧ cv = .int .u32 c ∧ Own wr w.heap.size 79 .u32 (.slice (some ⟨w.heap.size, 0, none⟩) xs.length xs.length) ps ∧ SubI xs ys ps k c ∧ Below w.heap.size w wr)
    (fun _ kv _ => xs.length - (intOf kv).toNat)
   case atStart => exact ⟨ys.length, c, ps, Nat.le_refl _, by omega, rfl, rfl, own, hI, bel⟩
   case round =>
    clear own hI bel hpl hcl
    obtain ⟨k, c, ps, hky, hkl, rfl, rfl, own, hI, bel⟩ := hrel
    have hpl := hI.1
    have hcl := hI.2.2.1
    by_cases hlt : k < xs.length
    ·obtain ⟨b, off, rfl, hcell⟩ := hca (by omega)
     have hx := cell_later bel (hcell k (by omega))
     have hp := own.cell k (by omega)
     have hf := own.free k
     have hxl := sa k
     obtain ⟨x, ex⟩ : ∃ x, xs.getD k 0 = x := ⟨_, rfl⟩
     have hst := subI_step hI (by omega) ex (Dg.getD_of_le ys k hky) (by omega) (by omega)
     rw [ex] at hx hxl
     clear ex hcell hca hcb
     go_wp2_with fail
     refine (sub32_any x 0 c _ hxl (by omega) hcl).mono ?_
     rintro e w' ⟨rfl, rfl⟩
     go_wp2
     go_roundw
     case rel => exact ⟨k + 1, _, _, by omega, by omega, by go_num, rfl, own.store k _, hst, bel.setCell (by exact Nat.le_refl _) _⟩
     case measure => simp [intOf]; omega
    ·have hk : k = xs.length := by omega
     subst hk
     have hen := subI_end hI (by omega) HV.out
     have rd := own.rd
     go_wp2_with fail
     refine (trim_any _ _ _ _ _ rd).mono ?_
     rintro e w' ⟨m, rfl, hm, rfl⟩
     have ht := own_trim 4294967296 (by omega) own hI.2.1 hm
     rw [hen] at ht
     clear rd hen own
     go_wp2
     go_ret
     exact ⟨_, rfl, ht, bel⟩
end Go.Proofs.YtiiphandhpilgaaGreatDoor
namespace Go.Proofs.YtiiphandhpilgaaGreatDoor
open Go.RowKit
theorem cmpI_lt {a b : Int} (h : a < b) : cmpI a b = -1 := by unfold cmpI; rw [if_pos h]
theorem cmpI_gt {a b : Int} (h : b < a) : cmpI a b = 1 := by unfold cmpI; rw [if_neg (by omega), if_pos h]
theorem cmpI_eq (a : Int) : cmpI a a = 0 := by unfold cmpI; rw [if_neg (by omega), if_neg (by omega)]
set_option maxHeartbeats 1600000 in
theorem compare_any (va vb : Value) (xs ys : List Nat) (w : World) (ha : Rd w .u32 va xs) (hb : Rd w .u32 vb ys) (sa : Dg.Small 4294967296 xs) (sb : Dg.Small 4294967296 ys) (na : Dg.Norm xs) (nb : Dg.Norm ys) :
  Calls Tryz.prog 101 #[va, vb] w fun e w' => e = .returned (.int .i64 (cmpI (Dg.vl 4294967296 xs) (Dg.vl 4294967296 ys))) ∧ Below w.heap.size w w' := by
 obtain ⟨ao, ca, rfl, hla, hma, hca⟩ := ha
 obtain ⟨bo, cb, rfl, hlb, hmb, hcb⟩ := hb
 unfold maxLen at hma hmb
 obtain ⟨r, hr⟩ : ∃ r, cmpI (Dg.vl 4294967296 xs) (Dg.vl 4294967296 ys) = r := ⟨_, rfl⟩
 have hc0 := cmpInt_any (xs.length : Int) (ys.length : Int) w
 by_cases h1 : xs.length < ys.length
 ·have hv := Dg.vl_lt_of_len 4294967296 (by omega) xs ys sa nb h1
  rw [cmpI_lt (by omega)] at hr
  subst hr
  rw [cmpI_lt (by omega)] at hc0
  rw [cmpI_lt (by omega)]
  go_enter Tryz.func101, Tryz.ntmps101
  go_wp2_with fail
  refine hc0.mono ?_
  rintro e w' ⟨rfl, rfl⟩
  go_wp2
  go_ret
  exact ⟨rfl, Below.refl _ _⟩
 ·by_cases h2 : ys.length < xs.length
  ·have hv := Dg.vl_lt_of_len 4294967296 (by omega) ys xs sb na h2
   rw [cmpI_gt (by omega)] at hc0
   rw [cmpI_gt (by omega)]
   clear hr
   go_enter Tryz.func101, Tryz.ntmps101
   go_wp2_with fail
   refine hc0.mono ?_
   rintro e w' ⟨rfl, rfl⟩
   go_wp2
   go_ret
   exact ⟨rfl, Below.refl _ _⟩
  ·have hle : xs.length = ys.length := by omega
   rw [hle, cmpI_eq] at hc0
   rw [hr]
   have HR : Hid _ := hr
   have HL : Hid _ := hle
   rw [hle] at hla hca ⊢
   clear hr hle h1 h2
   go_enter Tryz.func101, Tryz.ntmps101
   go_wp2_with fail
   refine hc0.mono ?_
   rintro e w' ⟨rfl, rfl⟩
   clear hc0
   go_wp2
   go_loopw [6] (fun iv wr => ∃ k : Nat, k ≤ ys.length ∧ iv = .int .i64 ((k : Int) - 1) ∧ Hid (∀ j, k ≤ j → xs.getD j 0 = ys.getD j 0) ∧ Below w'.heap.size w' wr) (fun iv _ => (intOf iv + 1).toNat)
   case atStart => exact ⟨ys.length, Nat.le_refl _, rfl, fun j hj => by rw [Dg.getD_of_le xs j (by rw [HL.out]; exact hj), Dg.getD_of_le ys j hj], Below.refl _ _⟩
   case round =>
    obtain ⟨k, hk, rfl, hall, bel⟩ := hrel
    by_cases hk0 : k = 0
    ·subst hk0
     have he := Dg.eq_of_all xs ys HL.out (fun j => hall j (by omega))
     have hr0 : r = 0 := by rw [← HR.out, he, cmpI_eq]
     subst hr0
     clear he
     go_wp2
     go_ret
     exact ⟨rfl, bel⟩
    ·obtain ⟨m, rfl⟩ : ∃ m, k = m + 1 := ⟨k - 1, by omega⟩
     obtain ⟨b, off, rfl, hcell⟩ := hca (by omega)
     obtain ⟨b2, off2, rfl, hcell2⟩ := hcb (by omega)
     have hx := cell_later bel (hcell m (by omega))
     have hy := cell_later bel (hcell2 m (by omega))
     have hst : xs.getD m 0 < ys.getD m 0 → cmpI (Dg.vl 4294967296 xs) (Dg.vl 4294967296 ys) = -1 := fun h =>
      cmpI_lt (by have := Dg.vl_lt_of_digit 4294967296 xs ys m HL.out (by rw [HL.out]; omega) hall h sa; omega)
     have hst2 : ys.getD m 0 < xs.getD m 0 → cmpI (Dg.vl 4294967296 xs) (Dg.vl 4294967296 ys) = 1 := fun h =>
      cmpI_gt (by have := Dg.vl_lt_of_digit 4294967296 ys xs m HL.out.symm (by omega) (fun j hj => (hall j hj).symm) h sb; omega)
     rw [HR.out] at hst hst2
     obtain ⟨x, ex⟩ : ∃ x, xs.getD m 0 = x := ⟨_, rfl⟩
     obtain ⟨y, ey⟩ : ∃ y, ys.getD m 0 = y := ⟨_, rfl⟩
     have HX : Hid _ := ex
     have HY : Hid _ := ey
     rw [ex] at hx hst hst2
     rw [ey] at hy hst hst2
     clear ex ey hcell hcell2 hca hcb
     have hcm := fun wx => cmpU32_any (x : Int) (y : Int) wx
     have hmI : ((m + 1 : Nat) : Int) - 1 = (m : Int) := by omega
     by_cases hxy : x < y
     ·have hr1 := hst hxy
      subst hr1
      rw [cmpI_lt (by omega)] at hcm
      clear hst hst2
      go_wp2
      go_quiet ((go_at_call 123; exact Calls.quiet_of_same (hcm _)))
      go_wp2
      go_ret
      exact ⟨rfl, below_drewN bel _⟩
     ·by_cases hyx : y < x
      ·have hr1 := hst2 hyx
       subst hr1
       rw [cmpI_gt (by omega)] at hcm
       clear hst hst2
       go_wp2
       go_quiet ((go_at_call 123; exact Calls.quiet_of_same (hcm _)))
       go_wp2
       go_ret
       exact ⟨rfl, below_drewN bel _⟩
      ·have hxe : x = y := by omega
       subst hxe
       rw [cmpI_eq] at hcm
       clear hst hst2
       go_wp2
       go_quiet ((go_at_call 123; exact Calls.quiet_of_same (hcm _)))
       go_wp2
       go_roundw
       case rel => exact ⟨m, by omega, by go_num, fun j hj => by
        by_cases e : j = m
        ·rw [e]; exact HX.out.trans HY.out.symm
        ·exact hall j (by omega), below_drewN bel _⟩
       case measure => simp [intOf]
end Go.Proofs.YtiiphandhpilgaaGreatDoor

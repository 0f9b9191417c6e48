/-
  Texts laid together: Co8, Co10, Co2, Co3, Co9.
-/
import Derived.Deep.Cut
import Derived.Test.YtiiphandhpilgaaGreatDoorNd06
set_option maxRecDepth 100000
namespace Go.Proofs.YtiiphandhpilgaaGreatDoor
open Go.RowKit
theorem bit_join (x y r : Nat) (hx : x < 9223372036854775808) (hy : y < 256) : bits .or .u64 (IntKind.u64.wrap ((x : Int) * 2)) (IntKind.u64.wrap (bits .and .u8 ((y : Int) / 2 ^ (7 - r)) 1)) = ((2 * x + y / 2 ^ (7 - r) % 2 : Nat) : Int) := by
 have e1 : (y : Int) / 2 ^ (7 - r) = ((y / 2 ^ (7 - r) : Nat) : Int) := by simp
 have h1 : y / 2 ^ (7 - r) < 256 := Nat.lt_of_le_of_lt (Nat.div_le_self _ _) hy
 have e2 := u8_and_nat (y / 2 ^ (7 - r)) 1 h1 (by omega)
 rw [Nat.and_one_is_mod] at e2
 rw [e1, show (1 : Int) = ((1 : Nat) : Int) from rfl, e2]
 have h2 := Nat.mod_lt (y / 2 ^ (7 - r)) (show 0 < 2 by omega)
 generalize y / 2 ^ (7 - r) % 2 = b at *
 rw [IntKind.wrap_u64, IntKind.wrap_u64, show ((x : Int) * 2) % 18446744073709551616 = ((2 * x : Nat) : Int) from by omega, show (b : Int) % 18446744073709551616 = (b : Int) from by omega]
 rw [u64_or_nat _ _ (by omega) (by omega), nat_join 1 _ _ (by omega) (by omega)]
set_option maxHeartbeats 3200000 in
theorem cbits_any (g cap : Nat) (zs : List Nat) (f c : Nat) (w : World) (hr : BRow w g zs) (hs : Dg.Small 256 zs) (hc : c ≤ 64) (hfc : f + c ≤ 8 * zs.length) (hl : zs.length ≤ 1000) :
  Calls Tryz.prog 93 #[.slice (some ⟨g, 0, none⟩) zs.length cap, .int .i64 f, .int .i64 c] w fun e w' => e = .returned (.int .u64 (bitsV zs f c : Nat)) ∧ w' = w := by
 go_enter Tryz.func93, Tryz.ntmps93
 go_wp2
 go_loop [7, 8] (fun xv iv => ∃ j i x : Nat, Hid (i = f + j) ∧ j ≤ c ∧ iv = .int .i64 (i : Int) ∧ xv = .int .u64 (x : Int) ∧ Hid (x = bitsV zs f j)) (fun xv iv => ((f : Int) + c - intOf iv).toNat)
 case atStart => exact ⟨0, f, 0, rfl, by omega, rfl, rfl, rfl⟩
 case round =>
  obtain ⟨j, i, x, Hi, hj, rfl, rfl, hx⟩ := hrel
  have hi := Hi.out
  by_cases hjc : j < c
  ·obtain ⟨q, hq⟩ : ∃ q, i / 8 = q := ⟨_, rfl⟩
   obtain ⟨r, hr'⟩ : ∃ r, i % 8 = r := ⟨_, rfl⟩
   have hqI : (i : Int) / 8 = (q : Int) := by omega
   have hrI : (i : Int) % 8 = (r : Int) := by omega
   have hcell := hr.cell q (by omega)
   have hsm := hs q
   obtain ⟨y, hy⟩ : ∃ y, zs.getD q 0 = y := ⟨_, rfl⟩
   rw [hy] at hcell hsm
   have hql : q < zs.length := by omega
   have hr8 : r < 8 := by omega
   have HH : Hid (_ ∧ _ ∧ _ ∧ _) := ⟨hi, hq, hr', hy⟩
   have hic : (i : Int) < (f : Int) + (c : Int) := by omega
   have hib : (i : Int) ≤ 8000 := by omega
   clear hi hq hr' hy
   go_wp2
   obtain ⟨hi, hq, hr', hy⟩ := HH.out
   have hxl := bitsV_lt zs f j
   have hpw : (2 : Nat) ^ j ≤ 2 ^ 63 := Nat.pow_le_pow_right (by omega) (by omega)
   refine ⟨⟨j + 1, i + 1, 2 * x + y / 2 ^ (7 - r) % 2, ?_, by omega, rfl, ?_, ?_⟩, ?_⟩
   ·show i + 1 = f + (j + 1)
    omega
   ·rw [bit_join x y r (by have := hx.out; omega) hsm]
   ·show 2 * x + y / 2 ^ (7 - r) % 2 = bitsV zs f (j + 1)
    have := hx.out
    rw [bitsV, ← this, bitB, ← hi, hq, hr', hy]
   ·simp only [intOf]
    omega
  ·have hd : ¬ ((i : Int) < (f : Int) + (c : Int)) := by omega
   have hjc' : j = c := by omega
   have HX : Hid (_ ∧ _) := ⟨hx.out, hjc'⟩
   have hib : (i : Int) ≤ 8000 := by omega
   clear hi hjc'
   go_wp2
   go_ret
   obtain ⟨h1, h2⟩ := HX.out
   subst h1 h2
   exact ⟨rfl, rfl⟩
end Go.Proofs.YtiiphandhpilgaaGreatDoor
namespace Go.Proofs.YtiiphandhpilgaaGreatDoor
open Go.RowKit
def setB (f : Nat) : Nat → Nat → List Nat → List Nat
 | 0, _, zs => zs
 | c + 1, x, zs => setB f c (x / 2) (zs.set ((f + c) / 8) (zs.getD ((f + c) / 8) 0 ||| x % 2 * 2 ^ (7 - (f + c) % 8)))
theorem bit_at_lt (x r : Nat) : x % 2 * 2 ^ (7 - r) < 256 := by
 have h1 : (2 : Nat) ^ (7 - r) ≤ 2 ^ 7 := Nat.pow_le_pow_right (by omega) (by omega)
 have h2 := Nat.mod_lt x (show 0 < 2 by omega)
 have h3 : x % 2 * 2 ^ (7 - r) ≤ 1 * 2 ^ 7 := Nat.mul_le_mul (by omega) h1
 omega
theorem set_small {B : Nat} {zs : List Nat} (h : Dg.Small B zs) (i x : Nat) (hx : x < B) : Dg.Small B (zs.set i x) := by
 intro k
 by_cases hk : i < zs.length
 ·rw [Dg.getD_set _ _ _ _ hk]
  by_cases e : i = k
  ·rw [if_pos e]; exact hx
  ·rw [if_neg e]; exact h k
 ·rw [List.set_eq_of_length_le (by omega)]
  exact h k
theorem bit_put (b y r : Nat) (hb : b < 256) (hy : y < 18446744073709551616) : bits .or .u8 (b : Int) (bits .and .u64 (y : Int) 1 % 256 * 2 ^ (7 - r) % 256) = ((b ||| y % 2 * 2 ^ (7 - r) : Nat) : Int) := by
 have e2 := u64_and_nat y 1 hy (by omega)
 rw [Nat.and_one_is_mod] at e2
 have h2 := Nat.mod_lt y (show 0 < 2 by omega)
 have h3 := bit_at_lt y r
 have e3 : (((y % 2 : Nat) : Int) % 256 * 2 ^ (7 - r)) = ((y % 2 * 2 ^ (7 - r) : Nat) : Int) := by
  rw [show ((y % 2 : Nat) : Int) % 256 = ((y % 2 : Nat) : Int) from by omega]
  push_cast
  rfl
 rw [show (1 : Int) = ((1 : Nat) : Int) from rfl, e2, e3, show ((y % 2 * 2 ^ (7 - r) : Nat) : Int) % 256 = ((y % 2 * 2 ^ (7 - r) : Nat) : Int) from by omega]
 exact u8_or_nat _ _ hb h3
set_option maxHeartbeats 3200000 in
theorem csetBits_any (g cap : Nat) (zs : List Nat) (f c x : Nat) (w : World) (hr : BRow w g zs) (hs : Dg.Small 256 zs) (hx : x < 18446744073709551616) (hfc : f + c ≤ 8 * zs.length) (hl : zs.length ≤ 1000) :
  Calls Tryz.prog 91 #[.slice (some ⟨g, 0, none⟩) zs.length cap, .int .i64 f, .int .i64 c, .int .u64 x] w fun e w' => e = .returned (.tuple #[]) ∧ BRow w' g (setB f c x zs) ∧ w.grownBy w' (some g) := by
 go_enter Tryz.func91, Tryz.ntmps91
 go_wp2
 go_loopw [3, 8] (fun xv iv wr => ∃ (j y : Nat) (cur : List Nat), j ≤ c ∧ iv = .int .i64 ((f : Int) + j - 1) ∧ xv = .int .u64 (y : Int) ∧ y < 18446744073709551616 ∧ BRow wr g cur ∧ Dg.Small 256 cur ∧ Hid (cur.length = zs.length) ∧ Hid (setB f j y cur = setB f c x zs) ∧ w.grownBy wr (some g))
  (fun _ iv _ => (intOf iv + 1).toNat)
 case atStart => exact ⟨c, x, zs, Nat.le_refl _, by go_num, rfl, hx, hr, hs, rfl, rfl, grown_refl _ _⟩
 case round =>
  obtain ⟨j, y, cur, hj, rfl, rfl, hy, own, hsm, Hl, Hx, gr⟩ := hrel
  have hlen := Hl.out
  by_cases hj0 : 0 < j
  ·obtain ⟨j', rfl⟩ : ∃ j', j = j' + 1 := ⟨j - 1, by omega⟩
   obtain ⟨i, hi⟩ : ∃ i, f + j' = i := ⟨_, rfl⟩
   have hiI : (f : Int) + ((j' + 1 : Nat) : Int) - 1 = (i : Int) := by omega
   rw [hiI]
   obtain ⟨q, hq⟩ : ∃ q, i / 8 = q := ⟨_, rfl⟩
   obtain ⟨r, hr'⟩ : ∃ r, i % 8 = r := ⟨_, rfl⟩
   have hqI : (i : Int) / 8 = (q : Int) := by omega
   have hrI : (i : Int) % 8 = (r : Int) := by omega
   have hcell := own.cell q (by omega)
   have hfree := own.free q (by omega)
   have hs1 := hsm q
   obtain ⟨b, hb⟩ : ∃ b, cur.getD q 0 = b := ⟨_, rfl⟩
   rw [hb] at hcell hs1
   have hql : q < zs.length := by omega
   have hr8 : r < 8 := by omega
   have HH : Hid (_ ∧ _ ∧ _ ∧ _) := ⟨hi, hq, hr', hb⟩
   have hic : (f : Int) ≤ (i : Int) := by omega
   have hib : (i : Int) ≤ 8000 := by omega
   clear hi hq hr' hb hlen hiI
   go_wp2
   go_region
   all_goals go_wp2
   all_goals go_roundw
   case rel =>
    obtain ⟨hi, hq, hr', hb⟩ := HH.out
    have hbl : b ||| y % 2 * 2 ^ (7 - r) < 256 := Nat.or_lt_two_pow (n := 8) hs1 (bit_at_lt y r)
    refine ⟨j', y / 2, cur.set q (b ||| y % 2 * 2 ^ (7 - r)), by omega, by congr 1; omega, rfl, by omega, ?_, set_small hsm _ _ hbl, ?_, ?_, grown_trans gr (grown_trans (grown_set _ _ _ _) (grown_drew _ _))⟩
    ·rw [bit_put b y r hs1 hy]
     exact (own.store q _).drew
    ·show _ = _
     rw [List.length_set]
     exact Hl.out
    ·show _ = _
     have := Hx.out
     rw [setB, hi, hq, hr', hb] at this
     exact this
   case measure => simp only [intOf]; omega
  ·have hd : ¬ ((f : Int) ≤ (f : Int) + (j : Int) - 1) := by omega
   have h0 : Hid (j = 0) := (by omega : j = 0)
   clear hlen
   go_wp2
   go_end0
   have h1 := h0.out
   subst h1
   have := Hx.out
   rw [setB] at this
   rw [← this]
   exact ⟨rfl, own, gr⟩
end Go.Proofs.YtiiphandhpilgaaGreatDoor
namespace Go.Proofs.YtiiphandhpilgaaGreatDoor
open Go.RowKit
def layV : Nat → List Value
 | 1 => [.int .i64 2, .int .i64 24, .int .i64 (-149), .int .i64 104, .bool true, .int .i64 4, .int .i64 8, .int .i64 1, .func (.func 84) #[] #[]]
 | 2 => [.int .i64 2, .int .i64 53, .int .i64 (-1074), .int .i64 971, .bool true, .int .i64 8, .int .i64 11, .int .i64 1, .func (.func 84) #[] #[]]
 | 3 => [.int .i64 2, .int .i64 64, .int .i64 (-16445), .int .i64 16320, .bool true, .int .i64 10, .int .i64 15, .int .i64 1, .func (.func 85) #[] #[]]
 | 4 => [.int .i64 16, .int .i64 6, .int .i64 (-70), .int .i64 57, .bool false, .int .i64 4, .int .i64 7, .int .i64 2, .func (.func 84) #[] #[]]
 | 5 => [.int .i64 16, .int .i64 14, .int .i64 (-78), .int .i64 49, .bool false, .int .i64 8, .int .i64 7, .int .i64 2, .func (.func 84) #[] #[]]
 | 6 => [.int .i64 2, .int .i64 24, .int .i64 (-151), .int .i64 103, .bool false, .int .i64 4, .int .i64 8, .int .i64 3, .func (.func 87) #[] #[]]
 | 7 => [.int .i64 2, .int .i64 56, .int .i64 (-183), .int .i64 71, .bool false, .int .i64 8, .int .i64 8, .int .i64 3, .func (.func 87) #[] #[]]
 | 8 => [.int .i64 2, .int .i64 53, .int .i64 (-1076), .int .i64 970, .bool false, .int .i64 8, .int .i64 11, .int .i64 3, .func (.func 87) #[] #[]]
 | _ => [.int .i64 0, .int .i64 0, .int .i64 0, .int .i64 0, .bool false, .int .i64 0, .int .i64 0, .int .i64 0, .nilFunc]
def layAll : List Value := [.int .i64 0, .int .i64 0, .int .i64 0, .int .i64 0, .bool false, .int .i64 0, .int .i64 0, .int .i64 0, .nilFunc, .int .i64 2, .int .i64 24, .int .i64 (-149), .int .i64 104, .bool true, .int .i64 4, .int .i64 8, .int .i64 1, .func (.func 84) #[] #[], .int .i64 2, .int .i64 53, .int .i64 (-1074), .int .i64 971, .bool true, .int .i64 8, .int .i64 11, .int .i64 1, .func (.func 84) #[] #[], .int .i64 2, .int .i64 64, .int .i64 (-16445), .int .i64 16320, .bool true, .int .i64 10, .int .i64 15, .int .i64 1, .func (.func 85) #[] #[], .int .i64 16, .int .i64 6, .int .i64 (-70), .int .i64 57, .bool false, .int .i64 4, .int .i64 7, .int .i64 2, .func (.func 84) #[] #[], .int .i64 16, .int .i64 14, .int .i64 (-78), .int .i64 49, .bool false, .int .i64 8, .int .i64 7, .int .i64 2, .func (.func 84) #[] #[], .int .i64 2, .int .i64 24, .int .i64 (-151), .int .i64 103, .bool false, .int .i64 4, .int .i64 8, .int .i64 3, .func (.func 87) #[] #[], .int .i64 2, .int .i64 56, .int .i64 (-183), .int .i64 71, .bool false, .int .i64 8, .int .i64 8, .int .i64 3, .func (.func 87) #[] #[], .int .i64 2, .int .i64 53, .int .i64 (-1076), .int .i64 970, .bool false, .int .i64 8, .int .i64 11, .int .i64 3, .func (.func 87) #[] #[]]
theorem results_one {P : Program} {fn : Func} {a : Nat} {ty : TypeId} {tmps : Array Value} {w : World} {b : Nat} {v : Value} (hres : fn.results = #[.cell a ty]) (hp : tmps.getD a undef = .pointer (some ⟨b, 0, none⟩)) (hl : (loadVar ty ⟨b, 0, none⟩).run P w = .ok v w) : (results fn tmps).run P w = .ok v w := by
 rw [Array.getD_eq_getD_getElem?] at hp
 unfold results
 simp [hres, hp, asAddr, hl]
set_option maxHeartbeats 6400000 in
set_option maxRecDepth 20000 in
theorem layouts_any (w : World) : Calls Tryz.prog 54 #[] w fun z w' => z = .returned (.agg layAll.toArray) ∧ Below w.heap.size w w' := by
 have l0 : LocE (w.alloc (.cells Tryz.zeroCells113 113)) w.heap.size 113 Tryz.zeroCells113.toList := by
  have := locE_new w Tryz.zeroCells113.toList 113
  rwa [Array.toArray_toList] at this
 have th := l0.there 81 (by kernel_rfl)
 have cR := l0.sets layAll (by kernel_rfl)
 have bu := but_sets w.heap.size layAll 0 (w.alloc (.cells Tryz.zeroCells113 113))
 have bR := bu.below (below_alloc w (.cells Tryz.zeroCells113 113)) (Nat.le_refl _)
 have hl := run_loadVar_mid (P := Tryz.prog) _ w.heap.size 0 113 layAll _ cR.range Tryz.underlying113 rfl (by kernel_rfl)
 have HH : Hid (_ ∧ _) := ⟨hl, bR⟩
 clear hl bR cR bu l0
 go_enter Tryz.func54, Tryz.ntmps54
 go_wp2_with (refine wpList_store_mid rfl 113 (.tmp 0) (.tmp 28) rfl w.heap.size 0 #[.int .i64 0, .int .i64 0, .int .i64 0, .int .i64 0, .bool false, .int .i64 0, .int .i64 0, .int .i64 0, .nilFunc, .int .i64 2, .int .i64 24, .int .i64 (-149), .int .i64 104, .bool true, .int .i64 4, .int .i64 8, .int .i64 1, .func (.func 84) #[] #[], .int .i64 2, .int .i64 53, .int .i64 (-1074), .int .i64 971, .bool true, .int .i64 8, .int .i64 11, .int .i64 1, .func (.func 84) #[] #[], .int .i64 2, .int .i64 64, .int .i64 (-16445), .int .i64 16320, .bool true, .int .i64 10, .int .i64 15, .int .i64 1, .func (.func 85) #[] #[], .int .i64 16, .int .i64 6, .int .i64 (-70), .int .i64 57, .bool false, .int .i64 4, .int .i64 7, .int .i64 2, .func (.func 84) #[] #[], .int .i64 16, .int .i64 14, .int .i64 (-78), .int .i64 49, .bool false, .int .i64 8, .int .i64 7, .int .i64 2, .func (.func 84) #[] #[], .int .i64 2, .int .i64 24, .int .i64 (-151), .int .i64 103, .bool false, .int .i64 4, .int .i64 8, .int .i64 3, .func (.func 87) #[] #[], .int .i64 2, .int .i64 56, .int .i64 (-183), .int .i64 71, .bool false, .int .i64 8, .int .i64 8, .int .i64 3, .func (.func 87) #[] #[], .int .i64 2, .int .i64 53, .int .i64 (-1076), .int .i64 970, .bool false, .int .i64 8, .int .i64 11, .int .i64 3, .func (.func 87) #[] #[]] rfl rfl th (by kernel_rfl) (by simp [Value.oneCell']) ?_)
 change bodyPost _ _ _ _ _ (World.setCells (w.alloc (.cells Tryz.zeroCells113 113)) w.heap.size 0 layAll)
 obtain ⟨hl, bR⟩ := HH.out
 generalize World.setCells (w.alloc (.cells Tryz.zeroCells113 113)) w.heap.size 0 layAll = W at hl bR ⊢
 exact bodyPost_ret (v := .agg layAll.toArray) (results_one Tryz.results54 rfl hl) rfl ⟨rfl, bR⟩
end Go.Proofs.YtiiphandhpilgaaGreatDoor
namespace Go.Proofs.YtiiphandhpilgaaGreatDoor
open Go.RowKit
theorem results_two {P : Program} {fn : Func} {a t : Nat} {ty : TypeId} {tmps : Array Value} {w : World} {b : Nat} {v u : Value} (hres : fn.results = #[.cell a ty, .tmp t]) (hp : tmps.getD a undef = .pointer (some ⟨b, 0, none⟩)) (hu : tmps.getD t undef = u) (hl : (loadVar ty ⟨b, 0, none⟩).run P w = .ok v w) : (results fn tmps).run P w = .ok (.tuple #[v, u]) w := by
 rw [Array.getD_eq_getD_getElem?] at hp hu
 unfold results
 simp [hres, hp, hu, asAddr, hl]
def LayRes (w : World) (n : Nat) (c : Int) (e : Ending) (w' : World) : Prop :=
 e = .returned (.tuple #[.agg (layV n).toArray, .int .i64 c]) ∧ Below w.heap.size w w'
set_option maxHeartbeats 3200000 in
theorem layoutOf_none (n : Int) (w : World) (h : famC n = 0) : Calls Tryz.prog 20 #[.int .i64 n] w (LayRes w 0 6) := by
 have hf := family_any n
 rw [h] at hf
 have HF : Hid _ := hf
 clear hf h
 have l0 := locE_new w [.int .i64 0, .int .i64 0, .int .i64 0, .int .i64 0, .bool false, .int .i64 0, .int .i64 0, .int .i64 0, .nilFunc] 63
 have hsn := hsn_z
 have b0 := below_alloc w (.cells #[.int .i64 0, .int .i64 0, .int .i64 0, .int .i64 0, .bool false, .int .i64 0, .int .i64 0, .int .i64 0, .nilFunc] 63)
 have hl := run_loadVar_mid (P := Tryz.prog) _ w.heap.size 0 63 (layV 0) _ l0.range Tryz.underlying63 rfl (by kernel_rfl)
 have HH : Hid (_ ∧ _) := ⟨hl, b0⟩
 clear hl b0 l0
 go_enter Tryz.func20, Tryz.ntmps20
 go_wp2_with fail
 refine (HF.out _).mono ?_
 rintro z w' ⟨rfl, rfl⟩
 go_wp2
 obtain ⟨hl, bR⟩ := HH.out
 exact bodyPost_ret (results_two Tryz.results20 rfl rfl hl) rfl ⟨rfl, bR⟩
set_option maxHeartbeats 3200000 in
theorem layoutOf_W (k R D L G sz ex fam c : Int) (gr : Bool) (F : Nat) (A : Value) (w : World) (hc : (c == 0) = false)
  (HF : ∀ w1, Calls Tryz.prog 53 #[.int .i64 k] w1 fun z w' => z = .returned (.int .i64 c) ∧ w' = w1)
  (HL : ∀ w1, Calls Tryz.prog 54 #[] w1 fun z w' => z = .returned A ∧ Below w1.heap.size w1 w')
  (hix : ∀ W : World, (Instr.index 113 A (.int .i64 k)).run Tryz.prog W = .ok (.agg #[.int .i64 R, .int .i64 D, .int .i64 L, .int .i64 G, .bool gr, .int .i64 sz, .int .i64 ex, .int .i64 fam, .func (.func F) #[] #[]]) W) :
  Calls Tryz.prog 20 #[.int .i64 k] w fun z w' => z = .returned (.tuple #[.agg #[.int .i64 R, .int .i64 D, .int .i64 L, .int .i64 G, .bool gr, .int .i64 sz, .int .i64 ex, .int .i64 fam, .func (.func F) #[] #[]], .int .i64 0]) ∧ Below w.heap.size w w' := by
 replace HF : Hid _ := HF
 replace HL : Hid _ := HL
 have hsf := hsf_z
 have l0 := locE_new w [.int .i64 0, .int .i64 0, .int .i64 0, .int .i64 0, .bool false, .int .i64 0, .int .i64 0, .int .i64 0, .nilFunc] 63
 have b0 := below_alloc w (.cells #[.int .i64 0, .int .i64 0, .int .i64 0, .int .i64 0, .bool false, .int .i64 0, .int .i64 0, .int .i64 0, .nilFunc] 63)
 go_enter Tryz.func20, Tryz.ntmps20
 go_wp2_with fail
 refine (HF.out _).mono ?_
 rintro z w' ⟨rfl, rfl⟩
 go_wp2_with fail
 refine (HL.out _).mono ?_
 rintro z w2 ⟨rfl, b2⟩
 have l2 := l0.later b2
 have cR : LocE (((((((((w2.setCell ⟨w.heap.size, 0, none⟩ (.int .i64 R)).setCell ⟨w.heap.size, 1, none⟩ (.int .i64 D)).setCell ⟨w.heap.size, 2, none⟩ (.int .i64 L)).setCell ⟨w.heap.size, 3, none⟩ (.int .i64 G)).setCell ⟨w.heap.size, 4, none⟩ (.bool gr)).setCell ⟨w.heap.size, 5, none⟩ (.int .i64 sz)).setCell ⟨w.heap.size, 6, none⟩ (.int .i64 ex)).setCell ⟨w.heap.size, 7, none⟩ (.int .i64 fam)).setCell ⟨w.heap.size, 8, none⟩ (.func (.func F) #[] #[])) w.heap.size 63 [.int .i64 R, .int .i64 D, .int .i64 L, .int .i64 G, .bool gr, .int .i64 sz, .int .i64 ex, .int .i64 fam, .func (.func F) #[] #[]] := (((((((((l2.set 0 (.int .i64 R)).set 1 (.int .i64 D)).set 2 (.int .i64 L)).set 3 (.int .i64 G)).set 4 (.bool gr)).set 5 (.int .i64 sz)).set 6 (.int .i64 ex)).set 7 (.int .i64 fam)).set 8 (.func (.func F) #[] #[]))
 have bR := (((((((((but_set w2 w.heap.size 0 (.int .i64 R)).trans (but_set _ w.heap.size 1 (.int .i64 D))).trans (but_set _ w.heap.size 2 (.int .i64 L))).trans (but_set _ w.heap.size 3 (.int .i64 G))).trans (but_set _ w.heap.size 4 (.bool gr))).trans (but_set _ w.heap.size 5 (.int .i64 sz))).trans (but_set _ w.heap.size 6 (.int .i64 ex))).trans (but_set _ w.heap.size 7 (.int .i64 fam))).trans (but_set _ w.heap.size 8 (.func (.func F) #[] #[]))).below (below_trans b0 b2) (Nat.le_refl _)
 have hl := run_loadVar_mid (P := Tryz.prog) _ w.heap.size 0 63 [.int .i64 R, .int .i64 D, .int .i64 L, .int .i64 G, .bool gr, .int .i64 sz, .int .i64 ex, .int .i64 fam, .func (.func F) #[] #[]] _ cR.range Tryz.underlying63 rfl (by kernel_rfl)
 have HH : Hid (_ ∧ _) := ⟨hl, bR⟩
 have f0 := l2.free 0
 have f1 := l2.free 1
 have f2 := l2.free 2
 have f3 := l2.free 3
 have f4 := l2.free 4
 have f5 := l2.free 5
 have f6 := l2.free 6
 have f7 := l2.free 7
 have f8 := l2.free 8
 obtain ⟨x0, x1, x2, x3, x4, x5, x6, x7, x8⟩ := l2.cs9
 clear hl bR cR l0 l2 b0 b2 HF HL
 go_wp2
 obtain ⟨hl, bR⟩ := HH.out
 exact bodyPost_ret (results_two Tryz.results20 rfl rfl hl) rfl ⟨rfl, bR⟩
theorem layoutOf_1 (w : World) : Calls Tryz.prog 20 #[.int .i64 1] w (LayRes w 1 0) :=
 layoutOf_W 1 _ _ _ _ _ _ _ 1 _ _ _ w rfl (family_any 1) layouts_any (fun W => by kernel_rfl)
theorem layoutOf_2 (w : World) : Calls Tryz.prog 20 #[.int .i64 2] w (LayRes w 2 0) :=
 layoutOf_W 2 _ _ _ _ _ _ _ 1 _ _ _ w rfl (family_any 2) layouts_any (fun W => by kernel_rfl)
theorem layoutOf_3 (w : World) : Calls Tryz.prog 20 #[.int .i64 3] w (LayRes w 3 0) :=
 layoutOf_W 3 _ _ _ _ _ _ _ 1 _ _ _ w rfl (family_any 3) layouts_any (fun W => by kernel_rfl)
theorem layoutOf_4 (w : World) : Calls Tryz.prog 20 #[.int .i64 4] w (LayRes w 4 0) :=
 layoutOf_W 4 _ _ _ _ _ _ _ 2 _ _ _ w rfl (family_any 4) layouts_any (fun W => by kernel_rfl)
theorem layoutOf_5 (w : World) : Calls Tryz.prog 20 #[.int .i64 5] w (LayRes w 5 0) :=
 layoutOf_W 5 _ _ _ _ _ _ _ 2 _ _ _ w rfl (family_any 5) layouts_any (fun W => by kernel_rfl)
theorem layoutOf_6 (w : World) : Calls Tryz.prog 20 #[.int .i64 6] w (LayRes w 6 0) :=
 layoutOf_W 6 _ _ _ _ _ _ _ 3 _ _ _ w rfl (family_any 6) layouts_any (fun W => by kernel_rfl)
theorem layoutOf_7 (w : World) : Calls Tryz.prog 20 #[.int .i64 7] w (LayRes w 7 0) :=
 layoutOf_W 7 _ _ _ _ _ _ _ 3 _ _ _ w rfl (family_any 7) layouts_any (fun W => by kernel_rfl)
theorem layoutOf_8 (w : World) : Calls Tryz.prog 20 #[.int .i64 8] w (LayRes w 8 0) :=
 layoutOf_W 8 _ _ _ _ _ _ _ 3 _ _ _ w rfl (family_any 8) layouts_any (fun W => by kernel_rfl)
end Go.Proofs.YtiiphandhpilgaaGreatDoor
namespace Go.Proofs.YtiiphandhpilgaaGreatDoor
open Go.RowKit
def szN : Nat → Nat
 | 1 => 4 | 2 => 8 | 3 => 10 | 4 => 4 | 5 => 8 | 6 => 4 | 7 => 8 | 8 => 8 | _ => 0
def exN : Nat → Nat
 | 1 => 8 | 2 => 11 | 3 => 15 | 4 => 7 | 5 => 7 | 6 => 8 | 7 => 8 | 8 => 11 | _ => 0
def dgN : Nat → Nat
 | 1 => 24 | 2 => 53 | 3 => 64 | 4 => 6 | 5 => 14 | 6 => 24 | 7 => 56 | 8 => 53 | _ => 0
def rdN : Nat → Nat
 | 4 => 16 | 5 => 16 | _ => 2
def lsI : Nat → Int
 | 1 => -149 | 2 => -1074 | 3 => -16445 | 4 => -70 | 5 => -78 | 6 => -151 | 7 => -183 | 8 => -1076 | _ => 0
def frN (k : Nat) : Nat := 8 * szN k - 1 - exN k
def onesN (k : Nat) : Nat := 2 ^ exN k - 1
def leadN (k : Nat) : Nat := 2 ^ (dgN k - 1)
def wrN (k : Nat) : Nat := if k = 3 then 2 ^ 63 else if k = 4 then 2 ^ 5 else if k = 5 then 2 ^ 13 else 0
theorem eight {k : Nat} (h : 1 ≤ k ∧ k ≤ 8) : k = 1 ∨ k = 2 ∨ k = 3 ∨ k = 4 ∨ k = 5 ∨ k = 6 ∨ k = 7 ∨ k = 8 := by omega
theorem zeroOr_any (b : Bool) (w : World) : Calls Tryz.prog 95 #[.bool b] w fun z w' => z = .returned (.int .i64 (if b then 1 else 2)) ∧ w' = w := by
 cases b
 ·go_enter Tryz.func95, Tryz.ntmps95
  go_wp2
  go_ret
  exact ⟨rfl, rfl⟩
 ·go_enter Tryz.func95, Tryz.ntmps95
  go_wp2
  go_ret
  exact ⟨rfl, rfl⟩
set_option maxHeartbeats 1600000 in
theorem lfraction_any (k : Nat) (hk : 1 ≤ k ∧ k ≤ 8) (w : World) : Calls Tryz.prog 92 #[.agg (layV k).toArray] w fun z w' => z = .returned (.int .i64 ((frN k : Nat) : Int)) ∧ Below w.heap.size w w' := by
 have hsf := hsf_z
 rcases eight hk with rfl | rfl | rfl | rfl | rfl | rfl | rfl | rfl
 all_goals
  change Calls _ _ #[.agg #[_, _, _, _, _, _, _, _, _]] _ _
  go_enter Tryz.func92, Tryz.ntmps92
  go_wp2
  go_ret
  exact ⟨rfl, below_alloc _ _⟩
set_option maxHeartbeats 1600000 in
theorem lones_any (k : Nat) (hk : 1 ≤ k ∧ k ≤ 8) (w : World) : Calls Tryz.prog 88 #[.agg (layV k).toArray] w fun z w' => z = .returned (.int .i64 ((onesN k : Nat) : Int)) ∧ Below w.heap.size w w' := by
 have hsf := hsf_z
 rcases eight hk with rfl | rfl | rfl | rfl | rfl | rfl | rfl | rfl
 all_goals
  change Calls _ _ #[.agg #[_, _, _, _, _, _, _, _, _]] _ _
  go_enter Tryz.func88, Tryz.ntmps88
  go_wp2
  go_ret
  exact ⟨rfl, below_alloc _ _⟩
set_option maxHeartbeats 1600000 in
theorem llead_any (k : Nat) (hk : 1 ≤ k ∧ k ≤ 8) (w : World) : Calls Tryz.prog 90 #[.agg (layV k).toArray] w fun z w' => z = .returned (.int .u64 ((leadN k : Nat) : Int)) ∧ Below w.heap.size w w' := by
 have hsf := hsf_z
 rcases eight hk with rfl | rfl | rfl | rfl | rfl | rfl | rfl | rfl
 all_goals
  change Calls _ _ #[.agg #[_, _, _, _, _, _, _, _, _]] _ _
  go_enter Tryz.func90, Tryz.ntmps90
  go_wp2
  go_ret
  exact ⟨rfl, below_alloc _ _⟩
set_option maxHeartbeats 1600000 in
theorem lwritten_lt (R D L G sz ex fam fr : Int) (gr : Bool) (F : Nat) (w : World) (hlt : fr < D)
  (HF : ∀ w1, Calls Tryz.prog 92 #[.agg #[.int .i64 R, .int .i64 D, .int .i64 L, .int .i64 G, .bool gr, .int .i64 sz, .int .i64 ex, .int .i64 fam, .func (.func F) #[] #[]]] w1 fun z w' => z = .returned (.int .i64 fr) ∧ Below w1.heap.size w1 w') :
  Calls Tryz.prog 89 #[.agg #[.int .i64 R, .int .i64 D, .int .i64 L, .int .i64 G, .bool gr, .int .i64 sz, .int .i64 ex, .int .i64 fam, .func (.func F) #[] #[]]] w fun z w' => z = .returned (.int .u64 0) ∧ Below w.heap.size w w' := by
 have hsf := hsf_z
 replace HF : Hid _ := HF
 have l0 := locE_new w [.int .i64 R, .int .i64 D, .int .i64 L, .int .i64 G, .bool gr, .int .i64 sz, .int .i64 ex, .int .i64 fam, .func (.func F) #[] #[]] 63
 have b0 := below_alloc w (.cells #[.int .i64 R, .int .i64 D, .int .i64 L, .int .i64 G, .bool gr, .int .i64 sz, .int .i64 ex, .int .i64 fam, .func (.func F) #[] #[]] 63)
 obtain ⟨x0, x1, x2, x3, x4, x5, x6, x7, x8⟩ := l0.cs9
 go_enter Tryz.func89, Tryz.ntmps89
 go_wp2_with fail
 go_region_held3 (fun wq => wq.cell? ⟨w.heap.size, 0, none⟩ = some (.int .i64 R) ∧ wq.cell? ⟨w.heap.size, 1, none⟩ = some (.int .i64 D) ∧ wq.cell? ⟨w.heap.size, 2, none⟩ = some (.int .i64 L) ∧ wq.cell? ⟨w.heap.size, 3, none⟩ = some (.int .i64 G) ∧ wq.cell? ⟨w.heap.size, 4, none⟩ = some (.bool gr) ∧ wq.cell? ⟨w.heap.size, 5, none⟩ = some (.int .i64 sz) ∧ wq.cell? ⟨w.heap.size, 6, none⟩ = some (.int .i64 ex) ∧ wq.cell? ⟨w.heap.size, 7, none⟩ = some (.int .i64 fam) ∧ wq.cell? ⟨w.heap.size, 8, none⟩ = some (.func (.func F) #[] #[])) (go_keep) (first
  | (go_at_call 92; refine (HF.out _).mono ?_; rintro z w2 ⟨rfl, b2⟩; have l2 := l0.drew.later b2; obtain ⟨y0, y1, y2, y3, y4, y5, y6, y7, y8⟩ := l2.cs9))
 all_goals go_wp2
 all_goals go_ret
 all_goals exact ⟨rfl, below_trans b0.drew b2⟩
set_option maxHeartbeats 1600000 in
theorem lwritten_ge (R D L G sz ex fam fr ld : Int) (gr : Bool) (F : Nat) (w : World) (hlt : ¬ fr < D)
  (HF : ∀ w1, Calls Tryz.prog 92 #[.agg #[.int .i64 R, .int .i64 D, .int .i64 L, .int .i64 G, .bool gr, .int .i64 sz, .int .i64 ex, .int .i64 fam, .func (.func F) #[] #[]]] w1 fun z w' => z = .returned (.int .i64 fr) ∧ Below w1.heap.size w1 w')
  (HL : ∀ w1, Calls Tryz.prog 90 #[.agg #[.int .i64 R, .int .i64 D, .int .i64 L, .int .i64 G, .bool gr, .int .i64 sz, .int .i64 ex, .int .i64 fam, .func (.func F) #[] #[]]] w1 fun z w' => z = .returned (.int .u64 ld) ∧ Below w1.heap.size w1 w') :
  Calls Tryz.prog 89 #[.agg #[.int .i64 R, .int .i64 D, .int .i64 L, .int .i64 G, .bool gr, .int .i64 sz, .int .i64 ex, .int .i64 fam, .func (.func F) #[] #[]]] w fun z w' => z = .returned (.int .u64 ld) ∧ Below w.heap.size w w' := by
 have hsf := hsf_z
 replace HF : Hid _ := HF
 replace HL : Hid _ := HL
 have l0 := locE_new w [.int .i64 R, .int .i64 D, .int .i64 L, .int .i64 G, .bool gr, .int .i64 sz, .int .i64 ex, .int .i64 fam, .func (.func F) #[] #[]] 63
 have b0 := below_alloc w (.cells #[.int .i64 R, .int .i64 D, .int .i64 L, .int .i64 G, .bool gr, .int .i64 sz, .int .i64 ex, .int .i64 fam, .func (.func F) #[] #[]] 63)
 obtain ⟨x0, x1, x2, x3, x4, x5, x6, x7, x8⟩ := l0.cs9
 go_enter Tryz.func89, Tryz.ntmps89
 go_wp2_with fail
 go_region_held3 (fun wq => wq.cell? ⟨w.heap.size, 0, none⟩ = some (.int .i64 R) ∧ wq.cell? ⟨w.heap.size, 1, none⟩ = some (.int .i64 D) ∧ wq.cell? ⟨w.heap.size, 2, none⟩ = some (.int .i64 L) ∧ wq.cell? ⟨w.heap.size, 3, none⟩ = some (.int .i64 G) ∧ wq.cell? ⟨w.heap.size, 4, none⟩ = some (.bool gr) ∧ wq.cell? ⟨w.heap.size, 5, none⟩ = some (.int .i64 sz) ∧ wq.cell? ⟨w.heap.size, 6, none⟩ = some (.int .i64 ex) ∧ wq.cell? ⟨w.heap.size, 7, none⟩ = some (.int .i64 fam) ∧ wq.cell? ⟨w.heap.size, 8, none⟩ = some (.func (.func F) #[] #[])) (go_keep) (first
  | (go_at_call 92; refine (HF.out _).mono ?_; rintro z w2 ⟨rfl, b2⟩; have l2 := l0.drew.later b2; obtain ⟨y0, y1, y2, y3, y4, y5, y6, y7, y8⟩ := l2.cs9))
 all_goals go_wp2_with fail
 all_goals (refine (HL.out _).mono ?_; rintro z w3 ⟨rfl, b3⟩; go_wp2; go_ret; exact ⟨rfl, below_trans (below_trans b0.drew b2) b3⟩)
theorem lwritten_any (k : Nat) (hk : 1 ≤ k ∧ k ≤ 8) (w : World) : Calls Tryz.prog 89 #[.agg (layV k).toArray] w fun z w' => z = .returned (.int .u64 ((wrN k : Nat) : Int)) ∧ Below w.heap.size w w' := by
 have HF := fun w1 => lfraction_any k hk w1
 have HL := fun w1 => llead_any k hk w1
 rcases eight hk with rfl | rfl | rfl | rfl | rfl | rfl | rfl | rfl
 all_goals first | exact lwritten_lt _ _ _ _ _ _ _ _ _ _ w (by decide) HF | exact lwritten_ge _ _ _ _ _ _ _ _ _ _ _ w (by decide) HF HL
end Go.Proofs.YtiiphandhpilgaaGreatDoor

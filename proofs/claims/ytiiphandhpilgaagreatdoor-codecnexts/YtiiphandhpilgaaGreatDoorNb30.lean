/-
  Texts laid together: Gh5, Ce11, Co23, Co5.
-/
import Derived.Test.YtiiphandhpilgaaGreatDoorNb23
import Derived.Test.YtiiphandhpilgaaGreatDoorNb29
set_option maxRecDepth 100000
namespace Go.Proofs.YtiiphandhpilgaaGreatDoor
open Go.RowKit
theorem onC_zero {dc gc : Int} (h : onC dc gc = 0) : dc = 0 ∧ gc = 0 := by
 unfold onC at h
 by_cases h1 : dc = 0
 ·rw [if_pos h1] at h
  exact ⟨h1, h⟩
 ·rw [if_neg h1] at h
  exact absurd h h1
def ansH (xs : List Nat) (e R D L G : Int) (gr : Bool) : Bool := if onC (dchk xs e) (gridC R D L G) = 0 then heldB R D L G gr (Dg.vl 4294967296 xs) e else false
def ansD (xs : List Nat) (e R D L G : Int) (gr : Bool) : Nat := if onC (dchk xs e) (gridC R D L G) = 0 then fD R D L G gr (Dg.vl 4294967296 xs) e else 0
def ansK (xs : List Nat) (e R D L G : Int) (gr : Bool) : Int := if onC (dchk xs e) (gridC R D L G) = 0 then fK R D L G gr (Dg.vl 4294967296 xs) e else 0
theorem gfind_any (R D L G : Int) (gr s : Bool) (ao : Option Addr) (ca : Nat) (xs : List Nat) (e : Int) (w : World) (hr : Rd w .u32 (.slice ao xs.length ca) xs) (sa : Dg.Small 4294967296 xs) (hT : Tab w) :
  Calls Tryz.prog 69 #[.agg #[.bool s, .slice ao xs.length ca, .int .i64 e], .agg #[.int .i64 R, .int .i64 D, .int .i64 L, .int .i64 G, .bool gr]] w (FindAns w (ansH xs e R D L G gr) (ansD xs e R D L G gr) (ansK xs e R D L G gr) (onC (dchk xs e) (gridC R D L G))) := by
 have herr : ¬onC (dchk xs e) (gridC R D L G) = 0 → ansH xs e R D L G gr = false ∧ ansD xs e R D L G gr = 0 ∧ ansK xs e R D L G gr = 0 := fun h => ⟨if_neg h, if_neg h, if_neg h⟩
 refine gfindW R D L G gr s ao _ ca e (dchk xs e) (gridC R D L G) _ _ _ _ w ?_ ?_ ?_ ?_ ?_ ?_ ?_
 ·intro h
  have h1 : onC (dchk xs e) (gridC R D L G) = dchk xs e := if_neg h
  obtain ⟨a, b, c⟩ := herr (by rw [h1]; exact h)
  exact ⟨a, b, c, h1⟩
 ·intro h h2
  have h1 : onC (dchk xs e) (gridC R D L G) = gridC R D L G := if_pos h
  obtain ⟨a, b, c⟩ := herr (by rw [h1]; exact h2)
  exact ⟨a, b, c, h1⟩
 ·intro h h2
  exact (if_pos h).trans h2
 ·intro w1 b
  exact dcheck_any s ao ca xs e w1 (hr.later b)
 ·intro w1
  exact gcheck_any R D L G gr w1
 ·intro w1
  exact of_dy s ao _ ca e w1
 ·intro h h2 w1 b
  have h1 : onC (dchk xs e) (gridC R D L G) = 0 := (if_pos h).trans h2
  rw [show ansH xs e R D L G gr = _ from if_pos h1, show ansD xs e R D L G gr = _ from if_pos h1, show ansK xs e R D L G gr = _ from if_pos h1]
  obtain ⟨c1, e1, e2⟩ := dchk_zero h
  obtain ⟨n1, l1⟩ := chk_zero c1
  have ex : Dg.dg 4294967296 (Dg.vl 4294967296 xs) = xs := Dg.dg_vl _ (by omega) _ sa n1
  have := mfind_any R D L G gr s ao ca (Dg.vl 4294967296 xs) e w1 h2 (by rw [ex]; exact hr.later b) (by rw [ex]; exact l1) e1 e2 (hT.later b)
  rwa [ex] at this
theorem gbits16 {a L : Nat} (h : (Dg.dg 65536 a).length ≤ L) : bitLen a ≤ 16 * L := by
 refine bitLen_le_of a _ ?_
 rw [Nat.pow_mul]
 have h1 := Dg.vl_lt 65536 _ (Dg.small_dg 65536 a (by omega))
 rw [Dg.vl_dg _ _ (by omega)] at h1
 exact Nat.lt_of_lt_of_le h1 (Nat.pow_le_pow_right (by omega) h)
theorem inR_seek (R D e : Int) (bl : Nat) (h : -79000 ≤ e + bl) : (e + (bl : Int) - 1 + 80000).tdiv (widthN R : Int) - (80000 : Int).tdiv (widthN R : Int) - D + 1 = powerR R D (e + (bl : Int) - 1) := by
 rw [Int.tdiv_eq_ediv_of_nonneg (by omega), Int.tdiv_eq_ediv_of_nonneg (by omega)]
 unfold powerR widthN
 split <;> simp <;> omega
set_option maxHeartbeats 1600000 in
theorem inGrid_any (R D L G : Int) (gr : Bool) (v : Value) (t : Trip) (w : World) (hg : gridC R D L G = 0) (hv : Rv w v t) (hl : (Dg.dg 65536 t.n).length ≤ 20000) (e1 : -79000 ≤ t.e) (e2 : t.e ≤ 200000) :
  Calls Tryz.prog 14 #[v, .agg #[.int .i64 R, .int .i64 D, .int .i64 L, .int .i64 G, .bool gr]] w fun z w' => z = .returned (.bool (inR R D L G gr t.n t.e)) ∧ Below w.heap.size w w' := by
 obtain ⟨s, n, e⟩ := t
 simp only at hl e1 e2
 obtain ⟨s0, rfl, hr⟩ := hv
 obtain ⟨ao, ca, rfl⟩ := hr.shape
 simp only at hr ⊢
 obtain ⟨hR, d1, d2, l1, l2, g1, g2, lg, l16⟩ := gridC_zero hg
 by_cases h0 : n = 0
 ·rw [show inR R D L G gr n e = true from decide_eq_true (.inl h0)]
  subst h0
  exact inGrid_zero R D L G gr s ao ca e w
 ·have hbl : bitLen n ≤ 16 * 20000 := gbits16 hl
  have hwl := widthN_le R
  have hsk := inR_seek R D e (bitLen n) (by omega)
  have hpr : -600000 ≤ powerR R D (e + (bitLen n : Int) - 1) ∧ powerR R D (e + (bitLen n : Int) - 1) ≤ 600000 ∧ -2400000 ≤ (widthN R : Int) * powerR R D (e + (bitLen n : Int) - 1) ∧ (widthN R : Int) * powerR R D (e + (bitLen n : Int) - 1) ≤ 2400000 := by
   clear hsk
   unfold powerR widthN
   split <;> simp <;> omega
  have hL : -68000 ≤ (widthN R : Int) * L ∧ (widthN R : Int) * L ≤ 68000 := by
   clear hsk hpr
   unfold widthN
   split <;> simp <;> omega
  have hGD : -70000 ≤ (widthN R : Int) * (G + D) ∧ (widthN R : Int) * (G + D) ≤ 70000 := by
   clear hsk hpr hL
   unfold widthN
   split <;> simp <;> omega
  have a1 := Int.natAbs_tdiv_le_natAbs (e + (bitLen n : Int) - 1 + 80000) (widthN R : Int)
  have a2 := Int.natAbs_tdiv_le_natAbs (80000 : Int) (widthN R : Int)
  have hin : inR R D L G gr n e = true ↔ ((widthN R : Int) * L ≤ e ∧ e + (bitLen n : Int) ≤ (widthN R : Int) * (G + D) ∧ (gr = true ∨ L ≤ powerR R D (e + (bitLen n : Int) - 1)) ∧ (widthN R : Int) * max L (powerR R D (e + (bitLen n : Int) - 1)) ≤ e) := by
   unfold inR
   rw [decide_eq_true_iff]
   constructor
   ·rintro (h | h)
    ·exact absurd h h0
    ·exact h
   ·exact .inr
  have hno : ∀ {b : Bool}, ¬b = true → b = false := fun h => by simpa using h
  refine inGridW R D L G gr s ao _ ca e (widthN R) (bitLen n) _ _ (powerR R D (e + (bitLen n : Int) - 1)) (inR R D L G gr n e) w ?_ ?_ ?_ ?_ ?_ ?_ ?_ ?_ ?_ rfl rfl ?_ ?_ ?_ ?_ ?_ ?_ ?_ ?_ ?_ ?_ ?_ ?_ ?_ ?_
  ·simp
   rw [Dg.dg_nil_iff _ _ (by omega)]
   exact h0
  ·simp
   omega
  ·omega
  ·exact IntWalk.i64_in _ ⟨by omega, by omega⟩
  ·exact IntWalk.i64_in _ ⟨by omega, by omega⟩
  ·exact IntWalk.i64_in _ ⟨by omega, by omega⟩
  ·exact IntWalk.i64_in _ ⟨by omega, by omega⟩
  ·exact IntWalk.i64_in _ ⟨by omega, by omega⟩
  ·exact IntWalk.i64_in _ ⟨by omega, by omega⟩
  ·exact IntWalk.i64_in _ ⟨by omega, by omega⟩
  ·exact IntWalk.i64_in _ ⟨by omega, by omega⟩
  ·exact IntWalk.i64_in _ ⟨by omega, by omega⟩
  ·exact IntWalk.i64_in _ ⟨by omega, by omega⟩
  ·rw [hsk]
   exact IntWalk.i64_in _ ⟨by omega, by omega⟩
  ·exact IntWalk.i64_in _ ⟨by omega, by omega⟩
  ·intro h
   refine hno fun c => ?_
   have := hin.1 c
   omega
  ·intro h h2
   refine hno fun c => ?_
   have := hin.1 c
   omega
  ·intro h h2 h3 h4
   refine hno fun c => ?_
   rcases (hin.1 c).2.2.1 with h5 | h5
   ·rw [h4] at h5
    cases h5
   ·omega
  ·intro h h2 h3 h4
   refine hin.2 ⟨by omega, by omega, .inl h4, ?_⟩
   rw [Int.max_eq_left (by omega)]
   omega
  ·intro h h2 h3 h4
   refine hin.2 ⟨by omega, by omega, .inr (by omega), ?_⟩
   rw [Int.max_eq_right (by omega)]
   omega
  ·intro h h2 h3 h4
   refine hno fun c => ?_
   have := (hin.1 c).2.2.2
   rw [Int.max_eq_right (by omega)] at this
   omega
  ·intro w1
   have := refWidth_any R D L G gr w1
   rwa [widthR_nat] at this
  ·intro w1 b
   have := reflen_any _ _ w1 (hr.later b) (Dg.small_dg _ _ (by omega)) (Dg.norm_dg _ _ (by omega)) (by omega)
   rw [Dg.vl_dg _ _ (by omega)] at this
   refine this.mono ?_
   rintro z w' ⟨rfl, rfl⟩
   exact ⟨rfl, Below.refl _ _⟩
end Go.Proofs.YtiiphandhpilgaaGreatDoor
namespace Go.Proofs.YtiiphandhpilgaaGreatDoor
open Go.RowKit
theorem en_short {c : Int} {t r : Trip} (h : dbothR c t = (r, 0)) : r = bare t ∧ dchk (Dg.dg 4294967296 r.n) r.e = 0 := by
 unfold dbothR at h
 by_cases h0 : c = 0
 ·rw [if_pos h0] at h
  unfold shortT at h
  by_cases h1 : 1200 < (Dg.dg 4294967296 (bare t).n).length
  ·rw [if_pos h1] at h
   simp at h
  ·rw [if_neg h1] at h
   by_cases h2 : (bare t).e < -20000 ∨ 20000 < (bare t).e
   ·rw [if_pos h2] at h
    simp at h
   ·rw [if_neg h2] at h
    simp only [Prod.mk.injEq, and_true] at h
    subst h
    have hn := Dg.norm_dg 4294967296 (bare t).n (by omega)
    refine ⟨rfl, ?_⟩
    unfold dchk
    rw [if_pos (chk_of hn (by omega)), if_neg h2]
 ·rw [if_neg h0] at h
  simp only [Prod.mk.injEq] at h
  exact absurd h.2 h0
end Go.Proofs.YtiiphandhpilgaaGreatDoor
namespace Go.Proofs.YtiiphandhpilgaaGreatDoor
open Go.RowKit
def patA : ByteArray := strOf [64, 64, 0, 0]
def patB : ByteArray := strOf [0, 128, 0, 0]
theorem patA_ok : patC 1 patA = 0 ∧ decC 1 patA = 2 ∧ decG 1 patA = false ∧ decM 1 patA = 3 ∧ decP 1 patA = 0 := by
 refine ⟨?_, ?_, ?_, ?_, ?_⟩ <;> kernel_rfl
theorem patB_ok : encOE 6 5 0 0 false 0 = 0 ∧ encOS 6 5 0 0 false 0 = patB := by
 refine ⟨?_, ?_⟩ <;> kernel_rfl
theorem dg3 : Dg.dg 4294967296 3 = [3] := by
 have := Dg.dg_vl 4294967296 (by omega) [3] (fun i => by
  match i with
  | 0 => decide
  | i + 1 => simp) (fun _ => by simp)
 simpa [Dg.vl] using this
theorem made_run {P : Program} (W : World) (e src dst : TypeId) (zs : List Nat) (hs : P.underlying src = some (.slice e)) (he : P.underlying e = some (.int .u8)) (hd : P.underlying dst = some .string) (hm : zs.length ≤ maxLen) :
  (convert src dst (.slice (some ⟨W.heap.size, 0, none⟩) zs.length zs.length)).run P (W.alloc (.cells (zs.map (fun n : Nat => Value.int .u8 (n : Int))).toArray e)) = .ok (.string (strOf zs)) (W.alloc (.cells (zs.map (fun n : Nat => Value.int .u8 (n : Int))).toArray e)) :=
 convert_bytes src dst hs he hd (own_of_heap (base := W.heap.size) (heap_alloc_new _ _) (Nat.le_refl _) hm)
set_option maxHeartbeats 6400000 in
theorem codecBegun_any (w : World) : Calls Tryz.prog 9 #[] w fun z w' => z = .returned (.bool true) ∧ Below w.heap.size w w' := by
 have hcA : ∀ W : World, (convert 77 9 (.slice (some ⟨W.heap.size, 0, none⟩) 4 4)).run Tryz.prog (W.alloc (.cells #[.int .u8 64, .int .u8 64, .int .u8 0, .int .u8 0] 5)) = .ok (.string patA) (W.alloc (.cells #[.int .u8 64, .int .u8 64, .int .u8 0, .int .u8 0] 5)) := fun W => made_run W 5 77 9 [64, 64, 0, 0] Tryz.underlying77 Tryz.underlying5 Tryz.underlying9 (by unfold maxLen; simp)
 have hcB : ∀ W : World, (convert 77 9 (.slice (some ⟨W.heap.size, 0, none⟩) 4 4)).run Tryz.prog (W.alloc (.cells #[.int .u8 0, .int .u8 128, .int .u8 0, .int .u8 0] 5)) = .ok (.string patB) (W.alloc (.cells #[.int .u8 0, .int .u8 128, .int .u8 0, .int .u8 0] 5)) := fun W => made_run W 5 77 9 [0, 128, 0, 0] Tryz.underlying77 Tryz.underlying5 Tryz.underlying9 (by unfold maxLen; simp)
 have HD : Hid (∀ w1, Calls Tryz.prog 17 #[.int .i64 1, .string patA] w1 (DecRes w1 2 false 3 0 0)) := fun w1 => by
  have := decode_any 1 patA w1
  obtain ⟨h1, h2, h3, h4, h5⟩ := patA_ok
  rw [h1, h2, h3, h4, h5] at this
  exact this
 have HE : Hid (∀ w1, Calls Tryz.prog 6 #[.int .i64 6, .agg #[.int .i64 5, .bool false, .slice none 0 0, .int .i64 0]] w1 fun z w' => z = .returned (.tuple #[.string patB, .int .i64 0]) ∧ Below w1.heap.size w1 w') := fun w1 => by
  have := encode_other 6 5 (by omega) false none 0 0 0 0 w1 (fun w2 _ => (check_any _ [] w2 (rd_nil _ _)).mono (fun _ _ h => ⟨h.1, by rw [h.2]; exact Below.refl _ _⟩))
  rw [patB_ok.1, patB_ok.2] at this
  exact this
 generalize patA = pA at *
 generalize patB = pB at *
 have b1 := below_alloc w (.cells #[.int .u8 64, .int .u8 64, .int .u8 0, .int .u8 0] 5)
 go_enter Tryz.func9, Tryz.ntmps9
 go_wp2_with fail
 refine (HD.out _).mono ?_
 rintro z w2 ⟨v, rfl, r2, b2⟩
 rw [dg3] at r2
 obtain ⟨vo, vc, hv⟩ := r2.shape
 subst hv
 have b3 := below_alloc w2 (.cells #[.int .i64 2, .bool false, .slice vo 1 vc, .int .i64 0] 25)
 have q3 := locE_new w2 [.int .i64 2, .bool false, .slice vo 1 vc, .int .i64 0] 25
 have b03 := below_trans (below_trans b1 b2) b3
 have r3 := r2.later b3
 go_wp2_with fail
 refine (HE.out _).mono ?_
 rintro z w4 ⟨rfl, b4⟩
 have q4 := q3.later b4
 have r4 := r3.later b4
 have b04 := below_trans b03 b4
 obtain ⟨x0, x1, x2, x3⟩ := q4.cs4
 have b5 := below_alloc w4 (.cells #[.int .u32 3] 79)
 have own5 : Own (w4.alloc (.cells #[.int .u32 3] 79)) w4.heap.size 79 .u32 (.slice (some ⟨w4.heap.size, 0, none⟩) 1 1) [3] := own_of_heap (zs := [3]) (heap_alloc_new _ _) (Nat.le_refl _) (by unfold maxLen; simp)
 have hsn := same_any _ _ _ [3] (w4.alloc (.cells #[.int .u32 3] 79)) (r4.later b5) own5.rd
 have HN : Hid _ := hsn
 have b05 := below_trans b04 b5
 have hx0 := World.new_ne w4 _ x0
 clear b1 b2 b3 b03 r2 r3 q3 HD HE hsn r4 b4 b04 own5
 go_wp2_with fail
 refine Calls.mono HN.out ?_
 rintro z w6 ⟨rfl, b6⟩
 have y3 := (q4.later b5).later b6 |>.cell 3 rfl
 have b06 := below_trans b05 b6
 go_wp2
 go_ret
 exact ⟨rfl, below_trans b06 (below_alloc _ _)⟩
end Go.Proofs.YtiiphandhpilgaaGreatDoor
namespace Go.Proofs.YtiiphandhpilgaaGreatDoor
open Go.RowKit
set_option maxHeartbeats 1600000 in
theorem fmtTwo_any (a b c d e f g : Int) (w : World) : Calls Tryz.prog 42 #[.int .i64 a, .int .i64 b, .int .i64 c, .int .i64 d, .int .i64 e, .int .i64 f, .int .i64 g] w fun z w' => z = .returned (.agg #[.int .i64 a, .int .i64 b, .int .i64 c, .int .i64 2, .int .i64 d, .int .i64 e, .int .i64 f, .bool (g == 1), .int .i64 g]) ∧ Below w.heap.size w w' := by
 go_enter Tryz.func42, Tryz.ntmps42
 go_wp2
 go_returns
 exact ⟨rfl, below_alloc _ _⟩
set_option maxHeartbeats 3200000 in
theorem format_none (n : Int) (w : World) (h : famC n = 0) : Calls Tryz.prog 12 #[.int .i64 n] w fun z w' => z = .returned (.tuple #[.agg #[.int .i64 0, .int .i64 0, .int .i64 0, .int .i64 0, .int .i64 0, .int .i64 0, .int .i64 0, .bool false, .int .i64 0], .bool false]) ∧ Below w.heap.size w w' := by
 have hn : n < 1 ∨ 8 < n := by
  unfold famC at h
  by_cases c : n < 1 ∨ 8 < n
  ·exact c
  ·rw [if_neg c] at h
   split at h
   ·omega
   ·split at h <;> omega
 clear h
 have e1 : (n == 1) = false := by simp; omega
 have e2 : (n == 2) = false := by simp; omega
 have e3 : (n == 3) = false := by simp; omega
 have e4 : (n == 4) = false := by simp; omega
 have e5 : (n == 5) = false := by simp; omega
 have e6 : (n == 6) = false := by simp; omega
 have e7 : (n == 7) = false := by simp; omega
 have e8 : (n == 8) = false := by simp; omega
 have l0 := locE_new w [.int .i64 0, .int .i64 0, .int .i64 0, .int .i64 0, .int .i64 0, .int .i64 0, .int .i64 0, .bool false, .int .i64 0] 44
 have b0 := below_alloc w (.cells #[.int .i64 0, .int .i64 0, .int .i64 0, .int .i64 0, .int .i64 0, .int .i64 0, .int .i64 0, .bool false, .int .i64 0] 44)
 have hl := run_loadVar_mid (P := Tryz.prog) _ w.heap.size 0 44 [.int .i64 0, .int .i64 0, .int .i64 0, .int .i64 0, .int .i64 0, .int .i64 0, .int .i64 0, .bool false, .int .i64 0] _ l0.range Tryz.underlying44 rfl (by kernel_rfl)
 have HH : Hid (_ ∧ _) := ⟨hl, b0⟩
 clear hl b0 l0
 go_enter Tryz.func12, Tryz.ntmps12
 go_wp2
 obtain ⟨hl, bR⟩ := HH.out
 exact bodyPost_ret (results_two Tryz.results12 rfl rfl hl) rfl ⟨rfl, bR⟩
set_option maxHeartbeats 3200000 in
theorem format_1 (w : World) : Calls Tryz.prog 12 #[.int .i64 1] w fun z w' => z = .returned (.tuple #[.agg #[.int .i64 4, .int .i64 8, .int .i64 23, .int .i64 2, .int .i64 24, .int .i64 (-149), .int .i64 104, .bool true, .int .i64 1], .bool true]) ∧ Below w.heap.size w w' := by
 have HT : Hid (∀ w1, Calls Tryz.prog 42 #[.int .i64 4, .int .i64 8, .int .i64 23, .int .i64 24, .int .i64 (-149), .int .i64 104, .int .i64 1] w1 fun z w' => z = .returned (.agg #[.int .i64 4, .int .i64 8, .int .i64 23, .int .i64 2, .int .i64 24, .int .i64 (-149), .int .i64 104, .bool true, .int .i64 1]) ∧ Below w1.heap.size w1 w') := fun w1 => fmtTwo_any _ _ _ _ _ _ _ w1
 have l0 := locE_new w [.int .i64 0, .int .i64 0, .int .i64 0, .int .i64 0, .int .i64 0, .int .i64 0, .int .i64 0, .bool false, .int .i64 0] 44
 have b0 := below_alloc w (.cells #[.int .i64 0, .int .i64 0, .int .i64 0, .int .i64 0, .int .i64 0, .int .i64 0, .int .i64 0, .bool false, .int .i64 0] 44)
 go_enter Tryz.func12, Tryz.ntmps12
 go_wp2_with fail
 refine (HT.out _).mono ?_
 rintro z w2 ⟨rfl, b2⟩
 have l2 := l0.later b2
 have cR : LocE (((((((((w2.setCell ⟨w.heap.size, 0, none⟩ (.int .i64 4)).setCell ⟨w.heap.size, 1, none⟩ (.int .i64 8)).setCell ⟨w.heap.size, 2, none⟩ (.int .i64 23)).setCell ⟨w.heap.size, 3, none⟩ (.int .i64 2)).setCell ⟨w.heap.size, 4, none⟩ (.int .i64 24)).setCell ⟨w.heap.size, 5, none⟩ (.int .i64 (-149))).setCell ⟨w.heap.size, 6, none⟩ (.int .i64 104)).setCell ⟨w.heap.size, 7, none⟩ (.bool true)).setCell ⟨w.heap.size, 8, none⟩ (.int .i64 1)) w.heap.size 44 [.int .i64 4, .int .i64 8, .int .i64 23, .int .i64 2, .int .i64 24, .int .i64 (-149), .int .i64 104, .bool true, .int .i64 1] := (((((((((l2.set 0 (.int .i64 4)).set 1 (.int .i64 8)).set 2 (.int .i64 23)).set 3 (.int .i64 2)).set 4 (.int .i64 24)).set 5 (.int .i64 (-149))).set 6 (.int .i64 104)).set 7 (.bool true)).set 8 (.int .i64 1))
 have bR := (((((((((but_set w2 w.heap.size 0 (.int .i64 4)).trans (but_set _ w.heap.size 1 (.int .i64 8))).trans (but_set _ w.heap.size 2 (.int .i64 23))).trans (but_set _ w.heap.size 3 (.int .i64 2))).trans (but_set _ w.heap.size 4 (.int .i64 24))).trans (but_set _ w.heap.size 5 (.int .i64 (-149)))).trans (but_set _ w.heap.size 6 (.int .i64 104))).trans (but_set _ w.heap.size 7 (.bool true))).trans (but_set _ w.heap.size 8 (.int .i64 1))).below (below_trans b0 b2) (Nat.le_refl _)
 have hl := run_loadVar_mid (P := Tryz.prog) _ w.heap.size 0 44 [.int .i64 4, .int .i64 8, .int .i64 23, .int .i64 2, .int .i64 24, .int .i64 (-149), .int .i64 104, .bool true, .int .i64 1] _ cR.range Tryz.underlying44 rfl (by kernel_rfl)
 have HH : Hid (_ ∧ _) := ⟨hl, bR⟩
 have x0 := l2.cell 0 rfl
 have f0 := l2.free 0
 have x1 := l2.cell 1 rfl
 have f1 := l2.free 1
 have x2 := l2.cell 2 rfl
 have f2 := l2.free 2
 have x3 := l2.cell 3 rfl
 have f3 := l2.free 3
 have x4 := l2.cell 4 rfl
 have f4 := l2.free 4
 have x5 := l2.cell 5 rfl
 have f5 := l2.free 5
 have x6 := l2.cell 6 rfl
 have f6 := l2.free 6
 have x7 := l2.cell 7 rfl
 have f7 := l2.free 7
 have x8 := l2.cell 8 rfl
 have f8 := l2.free 8
 clear hl bR cR l0 l2 b0 b2 HT
 go_wp2
 obtain ⟨hl, bR⟩ := HH.out
 exact bodyPost_ret (results_two Tryz.results12 rfl rfl hl) rfl ⟨rfl, bR⟩
set_option maxHeartbeats 3200000 in
theorem format_2 (w : World) : Calls Tryz.prog 12 #[.int .i64 2] w fun z w' => z = .returned (.tuple #[.agg #[.int .i64 8, .int .i64 11, .int .i64 52, .int .i64 2, .int .i64 53, .int .i64 (-1074), .int .i64 971, .bool true, .int .i64 1], .bool true]) ∧ Below w.heap.size w w' := by
 have HT : Hid (∀ w1, Calls Tryz.prog 42 #[.int .i64 8, .int .i64 11, .int .i64 52, .int .i64 53, .int .i64 (-1074), .int .i64 971, .int .i64 1] w1 fun z w' => z = .returned (.agg #[.int .i64 8, .int .i64 11, .int .i64 52, .int .i64 2, .int .i64 53, .int .i64 (-1074), .int .i64 971, .bool true, .int .i64 1]) ∧ Below w1.heap.size w1 w') := fun w1 => fmtTwo_any _ _ _ _ _ _ _ w1
 have l0 := locE_new w [.int .i64 0, .int .i64 0, .int .i64 0, .int .i64 0, .int .i64 0, .int .i64 0, .int .i64 0, .bool false, .int .i64 0] 44
 have b0 := below_alloc w (.cells #[.int .i64 0, .int .i64 0, .int .i64 0, .int .i64 0, .int .i64 0, .int .i64 0, .int .i64 0, .bool false, .int .i64 0] 44)
 go_enter Tryz.func12, Tryz.ntmps12
 go_wp2_with fail
 refine (HT.out _).mono ?_
 rintro z w2 ⟨rfl, b2⟩
 have l2 := l0.later b2
 have cR : LocE (((((((((w2.setCell ⟨w.heap.size, 0, none⟩ (.int .i64 8)).setCell ⟨w.heap.size, 1, none⟩ (.int .i64 11)).setCell ⟨w.heap.size, 2, none⟩ (.int .i64 52)).setCell ⟨w.heap.size, 3, none⟩ (.int .i64 2)).setCell ⟨w.heap.size, 4, none⟩ (.int .i64 53)).setCell ⟨w.heap.size, 5, none⟩ (.int .i64 (-1074))).setCell ⟨w.heap.size, 6, none⟩ (.int .i64 971)).setCell ⟨w.heap.size, 7, none⟩ (.bool true)).setCell ⟨w.heap.size, 8, none⟩ (.int .i64 1)) w.heap.size 44 [.int .i64 8, .int .i64 11, .int .i64 52, .int .i64 2, .int .i64 53, .int .i64 (-1074), .int .i64 971, .bool true, .int .i64 1] := (((((((((l2.set 0 (.int .i64 8)).set 1 (.int .i64 11)).set 2 (.int .i64 52)).set 3 (.int .i64 2)).set 4 (.int .i64 53)).set 5 (.int .i64 (-1074))).set 6 (.int .i64 971)).set 7 (.bool true)).set 8 (.int .i64 1))
 have bR := (((((((((but_set w2 w.heap.size 0 (.int .i64 8)).trans (but_set _ w.heap.size 1 (.int .i64 11))).trans (but_set _ w.heap.size 2 (.int .i64 52))).trans (but_set _ w.heap.size 3 (.int .i64 2))).trans (but_set _ w.heap.size 4 (.int .i64 53))).trans (but_set _ w.heap.size 5 (.int .i64 (-1074)))).trans (but_set _ w.heap.size 6 (.int .i64 971))).trans (but_set _ w.heap.size 7 (.bool true))).trans (but_set _ w.heap.size 8 (.int .i64 1))).below (below_trans b0 b2) (Nat.le_refl _)
 have hl := run_loadVar_mid (P := Tryz.prog) _ w.heap.size 0 44 [.int .i64 8, .int .i64 11, .int .i64 52, .int .i64 2, .int .i64 53, .int .i64 (-1074), .int .i64 971, .bool true, .int .i64 1] _ cR.range Tryz.underlying44 rfl (by kernel_rfl)
 have HH : Hid (_ ∧ _) := ⟨hl, bR⟩
 have x0 := l2.cell 0 rfl
 have f0 := l2.free 0
 have x1 := l2.cell 1 rfl
 have f1 := l2.free 1
 have x2 := l2.cell 2 rfl
 have f2 := l2.free 2
 have x3 := l2.cell 3 rfl
 have f3 := l2.free 3
 have x4 := l2.cell 4 rfl
 have f4 := l2.free 4
 have x5 := l2.cell 5 rfl
 have f5 := l2.free 5
 have x6 := l2.cell 6 rfl
 have f6 := l2.free 6
 have x7 := l2.cell 7 rfl
 have f7 := l2.free 7
 have x8 := l2.cell 8 rfl
 have f8 := l2.free 8
 clear hl bR cR l0 l2 b0 b2 HT
 go_wp2
 obtain ⟨hl, bR⟩ := HH.out
 exact bodyPost_ret (results_two Tryz.results12 rfl rfl hl) rfl ⟨rfl, bR⟩
set_option maxHeartbeats 3200000 in
theorem format_3 (w : World) : Calls Tryz.prog 12 #[.int .i64 3] w fun z w' => z = .returned (.tuple #[.agg #[.int .i64 10, .int .i64 15, .int .i64 64, .int .i64 2, .int .i64 64, .int .i64 (-16445), .int .i64 16320, .bool true, .int .i64 1], .bool true]) ∧ Below w.heap.size w w' := by
 have HT : Hid (∀ w1, Calls Tryz.prog 42 #[.int .i64 10, .int .i64 15, .int .i64 64, .int .i64 64, .int .i64 (-16445), .int .i64 16320, .int .i64 1] w1 fun z w' => z = .returned (.agg #[.int .i64 10, .int .i64 15, .int .i64 64, .int .i64 2, .int .i64 64, .int .i64 (-16445), .int .i64 16320, .bool true, .int .i64 1]) ∧ Below w1.heap.size w1 w') := fun w1 => fmtTwo_any _ _ _ _ _ _ _ w1
 have l0 := locE_new w [.int .i64 0, .int .i64 0, .int .i64 0, .int .i64 0, .int .i64 0, .int .i64 0, .int .i64 0, .bool false, .int .i64 0] 44
 have b0 := below_alloc w (.cells #[.int .i64 0, .int .i64 0, .int .i64 0, .int .i64 0, .int .i64 0, .int .i64 0, .int .i64 0, .bool false, .int .i64 0] 44)
 go_enter Tryz.func12, Tryz.ntmps12
 go_wp2_with fail
 refine (HT.out _).mono ?_
 rintro z w2 ⟨rfl, b2⟩
 have l2 := l0.later b2
 have cR : LocE (((((((((w2.setCell ⟨w.heap.size, 0, none⟩ (.int .i64 10)).setCell ⟨w.heap.size, 1, none⟩ (.int .i64 15)).setCell ⟨w.heap.size, 2, none⟩ (.int .i64 64)).setCell ⟨w.heap.size, 3, none⟩ (.int .i64 2)).setCell ⟨w.heap.size, 4, none⟩ (.int .i64 64)).setCell ⟨w.heap.size, 5, none⟩ (.int .i64 (-16445))).setCell ⟨w.heap.size, 6, none⟩ (.int .i64 16320)).setCell ⟨w.heap.size, 7, none⟩ (.bool true)).setCell ⟨w.heap.size, 8, none⟩ (.int .i64 1)) w.heap.size 44 [.int .i64 10, .int .i64 15, .int .i64 64, .int .i64 2, .int .i64 64, .int .i64 (-16445), .int .i64 16320, .bool true, .int .i64 1] := (((((((((l2.set 0 (.int .i64 10)).set 1 (.int .i64 15)).set 2 (.int .i64 64)).set 3 (.int .i64 2)).set 4 (.int .i64 64)).set 5 (.int .i64 (-16445))).set 6 (.int .i64 16320)).set 7 (.bool true)).set 8 (.int .i64 1))
 have bR := (((((((((but_set w2 w.heap.size 0 (.int .i64 10)).trans (but_set _ w.heap.size 1 (.int .i64 15))).trans (but_set _ w.heap.size 2 (.int .i64 64))).trans (but_set _ w.heap.size 3 (.int .i64 2))).trans (but_set _ w.heap.size 4 (.int .i64 64))).trans (but_set _ w.heap.size 5 (.int .i64 (-16445)))).trans (but_set _ w.heap.size 6 (.int .i64 16320))).trans (but_set _ w.heap.size 7 (.bool true))).trans (but_set _ w.heap.size 8 (.int .i64 1))).below (below_trans b0 b2) (Nat.le_refl _)
 have hl := run_loadVar_mid (P := Tryz.prog) _ w.heap.size 0 44 [.int .i64 10, .int .i64 15, .int .i64 64, .int .i64 2, .int .i64 64, .int .i64 (-16445), .int .i64 16320, .bool true, .int .i64 1] _ cR.range Tryz.underlying44 rfl (by kernel_rfl)
 have HH : Hid (_ ∧ _) := ⟨hl, bR⟩
 have x0 := l2.cell 0 rfl
 have f0 := l2.free 0
 have x1 := l2.cell 1 rfl
 have f1 := l2.free 1
 have x2 := l2.cell 2 rfl
 have f2 := l2.free 2
 have x3 := l2.cell 3 rfl
 have f3 := l2.free 3
 have x4 := l2.cell 4 rfl
 have f4 := l2.free 4
 have x5 := l2.cell 5 rfl
 have f5 := l2.free 5
 have x6 := l2.cell 6 rfl
 have f6 := l2.free 6
 have x7 := l2.cell 7 rfl
 have f7 := l2.free 7
 have x8 := l2.cell 8 rfl
 have f8 := l2.free 8
 clear hl bR cR l0 l2 b0 b2 HT
 go_wp2
 obtain ⟨hl, bR⟩ := HH.out
 exact bodyPost_ret (results_two Tryz.results12 rfl rfl hl) rfl ⟨rfl, bR⟩
set_option maxHeartbeats 3200000 in
theorem format_4 (w : World) : Calls Tryz.prog 12 #[.int .i64 4] w fun z w' => z = .returned (.tuple #[.agg #[.int .i64 4, .int .i64 7, .int .i64 24, .int .i64 16, .int .i64 6, .int .i64 (-70), .int .i64 57, .bool false, .int .i64 2], .bool true]) ∧ Below w.heap.size w w' := by
 have l0 := locE_new w [.int .i64 4, .int .i64 7, .int .i64 24, .int .i64 16, .int .i64 6, .int .i64 (-70), .int .i64 57, .bool false, .int .i64 2] 44
 have b0 := below_alloc w (.cells #[.int .i64 4, .int .i64 7, .int .i64 24, .int .i64 16, .int .i64 6, .int .i64 (-70), .int .i64 57, .bool false, .int .i64 2] 44)
 have hl := run_loadVar_mid (P := Tryz.prog) _ w.heap.size 0 44 [.int .i64 4, .int .i64 7, .int .i64 24, .int .i64 16, .int .i64 6, .int .i64 (-70), .int .i64 57, .bool false, .int .i64 2] _ l0.range Tryz.underlying44 rfl (by kernel_rfl)
 have HH : Hid (_ ∧ _) := ⟨hl, b0⟩
 clear hl b0 l0
 go_enter Tryz.func12, Tryz.ntmps12
 go_wp2
 obtain ⟨hl, bR⟩ := HH.out
 exact bodyPost_ret (results_two Tryz.results12 rfl rfl hl) rfl ⟨rfl, bR⟩
set_option maxHeartbeats 3200000 in
theorem format_5 (w : World) : Calls Tryz.prog 12 #[.int .i64 5] w fun z w' => z = .returned (.tuple #[.agg #[.int .i64 8, .int .i64 7, .int .i64 56, .int .i64 16, .int .i64 14, .int .i64 (-78), .int .i64 49, .bool false, .int .i64 2], .bool true]) ∧ Below w.heap.size w w' := by
 have l0 := locE_new w [.int .i64 8, .int .i64 7, .int .i64 56, .int .i64 16, .int .i64 14, .int .i64 (-78), .int .i64 49, .bool false, .int .i64 2] 44
 have b0 := below_alloc w (.cells #[.int .i64 8, .int .i64 7, .int .i64 56, .int .i64 16, .int .i64 14, .int .i64 (-78), .int .i64 49, .bool false, .int .i64 2] 44)
 have hl := run_loadVar_mid (P := Tryz.prog) _ w.heap.size 0 44 [.int .i64 8, .int .i64 7, .int .i64 56, .int .i64 16, .int .i64 14, .int .i64 (-78), .int .i64 49, .bool false, .int .i64 2] _ l0.range Tryz.underlying44 rfl (by kernel_rfl)
 have HH : Hid (_ ∧ _) := ⟨hl, b0⟩
 clear hl b0 l0
 go_enter Tryz.func12, Tryz.ntmps12
 go_wp2
 obtain ⟨hl, bR⟩ := HH.out
 exact bodyPost_ret (results_two Tryz.results12 rfl rfl hl) rfl ⟨rfl, bR⟩
set_option maxHeartbeats 3200000 in
theorem format_6 (w : World) : Calls Tryz.prog 12 #[.int .i64 6] w fun z w' => z = .returned (.tuple #[.agg #[.int .i64 4, .int .i64 8, .int .i64 23, .int .i64 2, .int .i64 24, .int .i64 (-151), .int .i64 103, .bool false, .int .i64 3], .bool true]) ∧ Below w.heap.size w w' := by
 have HT : Hid (∀ w1, Calls Tryz.prog 42 #[.int .i64 4, .int .i64 8, .int .i64 23, .int .i64 24, .int .i64 (-151), .int .i64 103, .int .i64 3] w1 fun z w' => z = .returned (.agg #[.int .i64 4, .int .i64 8, .int .i64 23, .int .i64 2, .int .i64 24, .int .i64 (-151), .int .i64 103, .bool false, .int .i64 3]) ∧ Below w1.heap.size w1 w') := fun w1 => fmtTwo_any _ _ _ _ _ _ _ w1
 have l0 := locE_new w [.int .i64 0, .int .i64 0, .int .i64 0, .int .i64 0, .int .i64 0, .int .i64 0, .int .i64 0, .bool false, .int .i64 0] 44
 have b0 := below_alloc w (.cells #[.int .i64 0, .int .i64 0, .int .i64 0, .int .i64 0, .int .i64 0, .int .i64 0, .int .i64 0, .bool false, .int .i64 0] 44)
 go_enter Tryz.func12, Tryz.ntmps12
 go_wp2_with fail
 refine (HT.out _).mono ?_
 rintro z w2 ⟨rfl, b2⟩
 have l2 := l0.later b2
 have cR : LocE (((((((((w2.setCell ⟨w.heap.size, 0, none⟩ (.int .i64 4)).setCell ⟨w.heap.size, 1, none⟩ (.int .i64 8)).setCell ⟨w.heap.size, 2, none⟩ (.int .i64 23)).setCell ⟨w.heap.size, 3, none⟩ (.int .i64 2)).setCell ⟨w.heap.size, 4, none⟩ (.int .i64 24)).setCell ⟨w.heap.size, 5, none⟩ (.int .i64 (-151))).setCell ⟨w.heap.size, 6, none⟩ (.int .i64 103)).setCell ⟨w.heap.size, 7, none⟩ (.bool false)).setCell ⟨w.heap.size, 8, none⟩ (.int .i64 3)) w.heap.size 44 [.int .i64 4, .int .i64 8, .int .i64 23, .int .i64 2, .int .i64 24, .int .i64 (-151), .int .i64 103, .bool false, .int .i64 3] := (((((((((l2.set 0 (.int .i64 4)).set 1 (.int .i64 8)).set 2 (.int .i64 23)).set 3 (.int .i64 2)).set 4 (.int .i64 24)).set 5 (.int .i64 (-151))).set 6 (.int .i64 103)).set 7 (.bool false)).set 8 (.int .i64 3))
 have bR := (((((((((but_set w2 w.heap.size 0 (.int .i64 4)).trans (but_set _ w.heap.size 1 (.int .i64 8))).trans (but_set _ w.heap.size 2 (.int .i64 23))).trans (but_set _ w.heap.size 3 (.int .i64 2))).trans (but_set _ w.heap.size 4 (.int .i64 24))).trans (but_set _ w.heap.size 5 (.int .i64 (-151)))).trans (but_set _ w.heap.size 6 (.int .i64 103))).trans (but_set _ w.heap.size 7 (.bool false))).trans (but_set _ w.heap.size 8 (.int .i64 3))).below (below_trans b0 b2) (Nat.le_refl _)
 have hl := run_loadVar_mid (P := Tryz.prog) _ w.heap.size 0 44 [.int .i64 4, .int .i64 8, .int .i64 23, .int .i64 2, .int .i64 24, .int .i64 (-151), .int .i64 103, .bool false, .int .i64 3] _ cR.range Tryz.underlying44 rfl (by kernel_rfl)
 have HH : Hid (_ ∧ _) := ⟨hl, bR⟩
 have x0 := l2.cell 0 rfl
 have f0 := l2.free 0
 have x1 := l2.cell 1 rfl
 have f1 := l2.free 1
 have x2 := l2.cell 2 rfl
 have f2 := l2.free 2
 have x3 := l2.cell 3 rfl
 have f3 := l2.free 3
 have x4 := l2.cell 4 rfl
 have f4 := l2.free 4
 have x5 := l2.cell 5 rfl
 have f5 := l2.free 5
 have x6 := l2.cell 6 rfl
 have f6 := l2.free 6
 have x7 := l2.cell 7 rfl
 have f7 := l2.free 7
 have x8 := l2.cell 8 rfl
 have f8 := l2.free 8
 clear hl bR cR l0 l2 b0 b2 HT
 go_wp2
 obtain ⟨hl, bR⟩ := HH.out
 exact bodyPost_ret (results_two Tryz.results12 rfl rfl hl) rfl ⟨rfl, bR⟩
set_option maxHeartbeats 3200000 in
theorem format_7 (w : World) : Calls Tryz.prog 12 #[.int .i64 7] w fun z w' => z = .returned (.tuple #[.agg #[.int .i64 8, .int .i64 8, .int .i64 55, .int .i64 2, .int .i64 56, .int .i64 (-183), .int .i64 71, .bool false, .int .i64 3], .bool true]) ∧ Below w.heap.size w w' := by
 have HT : Hid (∀ w1, Calls Tryz.prog 42 #[.int .i64 8, .int .i64 8, .int .i64 55, .int .i64 56, .int .i64 (-183), .int .i64 71, .int .i64 3] w1 fun z w' => z = .returned (.agg #[.int .i64 8, .int .i64 8, .int .i64 55, .int .i64 2, .int .i64 56, .int .i64 (-183), .int .i64 71, .bool false, .int .i64 3]) ∧ Below w1.heap.size w1 w') := fun w1 => fmtTwo_any _ _ _ _ _ _ _ w1
 have l0 := locE_new w [.int .i64 0, .int .i64 0, .int .i64 0, .int .i64 0, .int .i64 0, .int .i64 0, .int .i64 0, .bool false, .int .i64 0] 44
 have b0 := below_alloc w (.cells #[.int .i64 0, .int .i64 0, .int .i64 0, .int .i64 0, .int .i64 0, .int .i64 0, .int .i64 0, .bool false, .int .i64 0] 44)
 go_enter Tryz.func12, Tryz.ntmps12
 go_wp2_with fail
 refine (HT.out _).mono ?_
 rintro z w2 ⟨rfl, b2⟩
 have l2 := l0.later b2
 have cR : LocE (((((((((w2.setCell ⟨w.heap.size, 0, none⟩ (.int .i64 8)).setCell ⟨w.heap.size, 1, none⟩ (.int .i64 8)).setCell ⟨w.heap.size, 2, none⟩ (.int .i64 55)).setCell ⟨w.heap.size, 3, none⟩ (.int .i64 2)).setCell ⟨w.heap.size, 4, none⟩ (.int .i64 56)).setCell ⟨w.heap.size, 5, none⟩ (.int .i64 (-183))).setCell ⟨w.heap.size, 6, none⟩ (.int .i64 71)).setCell ⟨w.heap.size, 7, none⟩ (.bool false)).setCell ⟨w.heap.size, 8, none⟩ (.int .i64 3)) w.heap.size 44 [.int .i64 8, .int .i64 8, .int .i64 55, .int .i64 2, .int .i64 56, .int .i64 (-183), .int .i64 71, .bool false, .int .i64 3] := (((((((((l2.set 0 (.int .i64 8)).set 1 (.int .i64 8)).set 2 (.int .i64 55)).set 3 (.int .i64 2)).set 4 (.int .i64 56)).set 5 (.int .i64 (-183))).set 6 (.int .i64 71)).set 7 (.bool false)).set 8 (.int .i64 3))
 have bR := (((((((((but_set w2 w.heap.size 0 (.int .i64 8)).trans (but_set _ w.heap.size 1 (.int .i64 8))).trans (but_set _ w.heap.size 2 (.int .i64 55))).trans (but_set _ w.heap.size 3 (.int .i64 2))).trans (but_set _ w.heap.size 4 (.int .i64 56))).trans (but_set _ w.heap.size 5 (.int .i64 (-183)))).trans (but_set _ w.heap.size 6 (.int .i64 71))).trans (but_set _ w.heap.size 7 (.bool false))).trans (but_set _ w.heap.size 8 (.int .i64 3))).below (below_trans b0 b2) (Nat.le_refl _)
 have hl := run_loadVar_mid (P := Tryz.prog) _ w.heap.size 0 44 [.int .i64 8, .int .i64 8, .int .i64 55, .int .i64 2, .int .i64 56, .int .i64 (-183), .int .i64 71, .bool false, .int .i64 3] _ cR.range Tryz.underlying44 rfl (by kernel_rfl)
 have HH : Hid (_ ∧ _) := ⟨hl, bR⟩
 have x0 := l2.cell 0 rfl
 have f0 := l2.free 0
 have x1 := l2.cell 1 rfl
 have f1 := l2.free 1
 have x2 := l2.cell 2 rfl
 have f2 := l2.free 2
 have x3 := l2.cell 3 rfl
 have f3 := l2.free 3
 have x4 := l2.cell 4 rfl
 have f4 := l2.free 4
 have x5 := l2.cell 5 rfl
 have f5 := l2.free 5
 have x6 := l2.cell 6 rfl
 have f6 := l2.free 6
 have x7 := l2.cell 7 rfl
 have f7 := l2.free 7
 have x8 := l2.cell 8 rfl
 have f8 := l2.free 8
 clear hl bR cR l0 l2 b0 b2 HT
 go_wp2
 obtain ⟨hl, bR⟩ := HH.out
 exact bodyPost_ret (results_two Tryz.results12 rfl rfl hl) rfl ⟨rfl, bR⟩
set_option maxHeartbeats 3200000 in
theorem format_8 (w : World) : Calls Tryz.prog 12 #[.int .i64 8] w fun z w' => z = .returned (.tuple #[.agg #[.int .i64 8, .int .i64 11, .int .i64 52, .int .i64 2, .int .i64 53, .int .i64 (-1076), .int .i64 970, .bool false, .int .i64 3], .bool true]) ∧ Below w.heap.size w w' := by
 have HT : Hid (∀ w1, Calls Tryz.prog 42 #[.int .i64 8, .int .i64 11, .int .i64 52, .int .i64 53, .int .i64 (-1076), .int .i64 970, .int .i64 3] w1 fun z w' => z = .returned (.agg #[.int .i64 8, .int .i64 11, .int .i64 52, .int .i64 2, .int .i64 53, .int .i64 (-1076), .int .i64 970, .bool false, .int .i64 3]) ∧ Below w1.heap.size w1 w') := fun w1 => fmtTwo_any _ _ _ _ _ _ _ w1
 have l0 := locE_new w [.int .i64 0, .int .i64 0, .int .i64 0, .int .i64 0, .int .i64 0, .int .i64 0, .int .i64 0, .bool false, .int .i64 0] 44
 have b0 := below_alloc w (.cells #[.int .i64 0, .int .i64 0, .int .i64 0, .int .i64 0, .int .i64 0, .int .i64 0, .int .i64 0, .bool false, .int .i64 0] 44)
 go_enter Tryz.func12, Tryz.ntmps12
 go_wp2_with fail
 refine (HT.out _).mono ?_
 rintro z w2 ⟨rfl, b2⟩
 have l2 := l0.later b2
 have cR : LocE (((((((((w2.setCell ⟨w.heap.size, 0, none⟩ (.int .i64 8)).setCell ⟨w.heap.size, 1, none⟩ (.int .i64 11)).setCell ⟨w.heap.size, 2, none⟩ (.int .i64 52)).setCell ⟨w.heap.size, 3, none⟩ (.int .i64 2)).setCell ⟨w.heap.size, 4, none⟩ (.int .i64 53)).setCell ⟨w.heap.size, 5, none⟩ (.int .i64 (-1076))).setCell ⟨w.heap.size, 6, none⟩ (.int .i64 970)).setCell ⟨w.heap.size, 7, none⟩ (.bool false)).setCell ⟨w.heap.size, 8, none⟩ (.int .i64 3)) w.heap.size 44 [.int .i64 8, .int .i64 11, .int .i64 52, .int .i64 2, .int .i64 53, .int .i64 (-1076), .int .i64 970, .bool false, .int .i64 3] := (((((((((l2.set 0 (.int .i64 8)).set 1 (.int .i64 11)).set 2 (.int .i64 52)).set 3 (.int .i64 2)).set 4 (.int .i64 53)).set 5 (.int .i64 (-1076))).set 6 (.int .i64 970)).set 7 (.bool false)).set 8 (.int .i64 3))
 have bR := (((((((((but_set w2 w.heap.size 0 (.int .i64 8)).trans (but_set _ w.heap.size 1 (.int .i64 11))).trans (but_set _ w.heap.size 2 (.int .i64 52))).trans (but_set _ w.heap.size 3 (.int .i64 2))).trans (but_set _ w.heap.size 4 (.int .i64 53))).trans (but_set _ w.heap.size 5 (.int .i64 (-1076)))).trans (but_set _ w.heap.size 6 (.int .i64 970))).trans (but_set _ w.heap.size 7 (.bool false))).trans (but_set _ w.heap.size 8 (.int .i64 3))).below (below_trans b0 b2) (Nat.le_refl _)
 have hl := run_loadVar_mid (P := Tryz.prog) _ w.heap.size 0 44 [.int .i64 8, .int .i64 11, .int .i64 52, .int .i64 2, .int .i64 53, .int .i64 (-1076), .int .i64 970, .bool false, .int .i64 3] _ cR.range Tryz.underlying44 rfl (by kernel_rfl)
 have HH : Hid (_ ∧ _) := ⟨hl, bR⟩
 have x0 := l2.cell 0 rfl
 have f0 := l2.free 0
 have x1 := l2.cell 1 rfl
 have f1 := l2.free 1
 have x2 := l2.cell 2 rfl
 have f2 := l2.free 2
 have x3 := l2.cell 3 rfl
 have f3 := l2.free 3
 have x4 := l2.cell 4 rfl
 have f4 := l2.free 4
 have x5 := l2.cell 5 rfl
 have f5 := l2.free 5
 have x6 := l2.cell 6 rfl
 have f6 := l2.free 6
 have x7 := l2.cell 7 rfl
 have f7 := l2.free 7
 have x8 := l2.cell 8 rfl
 have f8 := l2.free 8
 clear hl bR cR l0 l2 b0 b2 HT
 go_wp2
 obtain ⟨hl, bR⟩ := HH.out
 exact bodyPost_ret (results_two Tryz.results12 rfl rfl hl) rfl ⟨rfl, bR⟩
end Go.Proofs.YtiiphandhpilgaaGreatDoor

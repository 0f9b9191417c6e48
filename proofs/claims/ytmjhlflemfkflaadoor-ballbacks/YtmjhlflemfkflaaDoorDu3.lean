/-
  Contract of long.Root.
-/
import Derived.Test.YtmjhlflemfkflaaDoorDu
import Derived.Test.YtmjhlflemfkflaaDoorRoo3
namespace Go.Proofs.YtmjhlflemfkflaaDoor
open Go.RowKit

theorem root_uniq {a k x y : Nat} (hx : IsRoot a k x) (hy : IsRoot a k y) : x = y := by
  have one : ∀ {u v : Nat}, IsRoot a k u → IsRoot a k v → u ≤ v := fun {u v} hu hv => by
    rcases Nat.lt_or_ge v u with h | h
    · exfalso
      have h1 : (v + 1) ^ k ≤ u ^ k := Nat.pow_le_pow_left h k
      have h2 := hu.1
      have h3 := hv.2
      omega
    · exact h
  have h1 := one hx hy
  have h2 := one hy hx
  omega

open Classical in
/-- The root, where there is one. -/
noncomputable def rootOf (a k : Nat) : Nat := if h : ∃ x, IsRoot a k x then h.choose else 0

theorem rootOf_eq {a k x : Nat} (h : IsRoot a k x) : rootOf a k = x := by
  have he : ∃ x, IsRoot a k x := ⟨x, h⟩
  unfold rootOf
  rw [dif_pos he]
  exact root_uniq he.choose_spec h

/-- How far a number is raised ahead of its root: so that its exponent is even. -/
def rootS (t : Trip) (B : Nat) : Nat := if (t.e - ((2 * B - bitLen t.n : Nat) : Int)) % 2 = 0 then 2 * B - bitLen t.n else 2 * B - bitLen t.n + 1

/-- long.Root's answer. -/
noncomputable def rootT (t : Trip) (B : Nat) : Trip :=
  endlessT false (rootOf (t.n * 2 ^ rootS t B) 2) ((t.e - (rootS t B : Int)) / 2) (decide (rootOf (t.n * 2 ^ rootS t B) 2 * rootOf (t.n * 2 ^ rootS t B) 2 < t.n * 2 ^ rootS t B))

theorem rootS_even (t : Trip) (B : Nat) : (t.e - (rootS t B : Int)) % 2 = 0 := by
  unfold rootS
  split
  · assumption
  · rename_i h
    omega
set_option maxRecDepth 100000 in
set_option maxHeartbeats 3200000 in
theorem droot_any (v : Value) (t : Trip) (B : Nat) (w : World) (hv : Dv w v t) (hL : (Dg.dg 4294967296 t.n).length ≤ 1299) (he1 : -100000 ≤ t.e) (he2 : t.e ≤ 100000) (hB : B ≤ 10000) (hw : (Dg.dg 4294967296 (t.n * 2 ^ rootS t B)).length ≤ 1300) :
    Calls Tryd.prog 49 #[v, .int .i64 B] w (DRes w (rootT t B)) := by
  obtain ⟨v0, rfl, hr⟩ := hv
  obtain ⟨ts, n, e⟩ := t
  have hev := rootS_even ⟨ts, n, e⟩ B
  unfold rootT
  have hbl := bitLen_of_len2 hL
  have hsd : rootS ⟨ts, n, e⟩ B = if (e - ((2 * B - bitLen n : Nat) : Int)) % 2 = 0 then 2 * B - bitLen n else 2 * B - bitLen n + 1 := rfl
  simp only at hr hL he1 he2 hw hev hbl ⊢
  have HBT : Hid (∀ w1, Below w.heap.size w w1 → Calls Tryd.prog 73 #[v0] w1 fun z w' => z = .returned (.int .i64 (bitLen n : Nat)) ∧ w' = w1) := fun w1 b1 => by
    have := bits_any v0 _ w1 (hr.later b1) (Dg.small_dg _ _ (by omega)) (Dg.norm_dg _ _ (by omega)) (by omega)
    rwa [Dg.vl_dg _ _ (by omega)] at this
  obtain ⟨L, hLe⟩ : ∃ L, bitLen n = L := ⟨_, rfl⟩
  rw [hLe] at HBT hbl hsd
  obtain ⟨s0, hs0⟩ : ∃ s0, 2 * B - L = s0 := ⟨_, rfl⟩
  rw [hs0] at hsd
  obtain ⟨sh, hsh⟩ : ∃ sh, rootS ⟨ts, n, e⟩ B = sh := ⟨_, rfl⟩
  rw [hsh] at hsd hw hev ⊢
  have hshl : sh ≤ 20001 := by rw [hsd]; split <;> omega
  have HSF : Hid (∀ w1, Below w.heap.size w w1 → Calls Tryd.prog 74 #[v0, .int .i64 sh] w1 (Num w1 (n * 2 ^ sh))) := fun w1 b1 => by
    have := shifted_any v0 _ (sh : Int) w1 (hr.later b1) (Dg.small_dg _ _ (by omega)) (by omega) (by omega) (by omega)
    rw [Dg.vl_dg _ _ (by omega), shN_up _ _ (by omega), Int.toNat_natCast] at this
    exact this
  obtain ⟨N, hN⟩ : ∃ N, n * 2 ^ sh = N := ⟨_, rfl⟩
  rw [hN] at HSF hw ⊢
  have HRO : Hid (∀ v1 w1, Rd w1 .u32 v1 (Dg.dg 4294967296 N) → Calls Tryd.prog 83 #[v1, .int .i64 2] w1 (RootA w1 N 2)) := fun v1 w1 r => root_any v1 N 2 w1 r (by omega) (by omega) hw
  have HXE : Hid (∀ x, IsRoot N 2 x → rootOf N 2 = x) := fun x h => rootOf_eq h
  have HLE : Hid (∀ x, IsRoot N 2 x → x * x ≤ N ∧ (Dg.dg 4294967296 x).length ≤ 1300) := fun x h => ⟨by have := h.1; rwa [Nat.pow_two] at this, Nat.le_trans (dg_len_mono 4294967296 _ N (by omega) (root_le (by omega) h)) hw⟩
  obtain ⟨R, hR⟩ : ∃ R, rootOf N 2 = R := ⟨_, rfl⟩
  rw [hR] at HXE ⊢
  obtain ⟨ao, ca, rfl⟩ := hr.shape
  obtain ⟨m, hm⟩ : ∃ m, (Dg.dg 4294967296 n).length = m := ⟨_, rfl⟩
  rw [hm] at HBT HSF ⊢
  have hmax : max (0 : Int) (2 * (B : Int) - (L : Int)) = (s0 : Int) := by omega
  have hq1 : (e - (sh : Int)).tdiv 2 = (e - (sh : Int)) / 2 := by
    obtain ⟨k, hk⟩ : ∃ k : Int, e - (sh : Int) = 2 * k := ⟨(e - (sh : Int)) / 2, by omega⟩
    rw [hk, Int.mul_tdiv_cancel_left k (by omega), Int.mul_ediv_cancel_left k (by omega)]
  have HTM : Hid (∀ v1 w1, Rd w1 .u32 v1 (Dg.dg 4294967296 R) → (Dg.dg 4294967296 R).length ≤ 1300 → Calls Tryd.prog 78 #[v1, v1] w1 (Num w1 (R * R))) := fun v1 w1 r hl => by
    have := times_any v1 v1 _ _ w1 r r (Dg.small_dg _ _ (by omega)) (Dg.small_dg _ _ (by omega)) (by omega) (by omega)
    rw [Dg.vl_dg _ _ (by omega)] at this
    exact this
  have HCM : Hid (∀ v1 v2 w1, Rd w1 .u32 v1 (Dg.dg 4294967296 (R * R)) → Rd w1 .u32 v2 (Dg.dg 4294967296 N) → Calls Tryd.prog 84 #[v1, v2] w1 fun z w' => z = .returned (.int .i64 (cmpI ((R * R : Nat) : Int) N)) ∧ Below w1.heap.size w1 w') := fun v1 v2 w1 h1 h2 => by
    have := compare_any v1 v2 _ _ w1 h1 h2 (Dg.small_dg _ _ (by omega)) (Dg.small_dg _ _ (by omega)) (Dg.norm_dg _ _ (by omega)) (Dg.norm_dg _ _ (by omega))
    rwa [Dg.vl_dg _ _ (by omega), Dg.vl_dg _ _ (by omega)] at this
  obtain ⟨g, hg⟩ : ∃ g, cmpI ((R * R : Nat) : Int) (N : Int) = g := ⟨_, rfl⟩
  have HG : Hid (R * R ≤ N → decide (R * R < N) = decide (g < 0)) := fun hle => by
    rw [← hg]
    rcases Nat.lt_or_ge (R * R) N with h | h
    · rw [cmpI_lt (Int.ofNat_lt.2 h)]
      simp [h]
    · have he : R * R = N := by omega
      rw [he, cmpI_eq]
      simp
  rw [hg] at HCM
  have HEN : Hid (∀ v1 lf w1, decide (R * R < N) = lf → (Dg.dg 4294967296 R).length ≤ 1300 → Rd w1 .u32 v1 (Dg.dg 4294967296 R) → Calls Tryd.prog 76 #[.bool false, v1, .int .i64 ((e - (sh : Int)) / 2), .bool lf] w1 (DRes w1 (endlessT false R ((e - (sh : Int)) / 2) (decide (R * R < N))))) := fun v1 lf w1 h hl r => by
    rw [h]
    exact endless_any _ v1 R _ lf w1 r (by omega) (by omega) (by omega)
  obtain ⟨⟨zs, zn, ze⟩, hz⟩ : ∃ r, endlessT false R ((e - (sh : Int)) / 2) (decide (R * R < N)) = r := ⟨_, rfl⟩
  rw [hz] at HEN ⊢
  obtain ⟨q, hq⟩ : ∃ q, (e - (sh : Int)) / 2 = q := ⟨_, rfl⟩
  rw [hq] at HEN hq1
  have hw1 : IntKind.i64.wrap (e - (sh : Int)) = e - (sh : Int) := IntWalk.i64_in _ ⟨by omega, by omega⟩
  have hw2 : IntKind.i64.wrap q = q := IntWalk.i64_in _ ⟨by omega, by omega⟩
  have bA := below_trans (below_alloc w (.cells #[.bool ts, .slice ao m ca, .int .i64 e] 81)) (below_alloc _ (.cells #[.bool false, .slice none 0 0, .int .i64 0] 81))
  have l1 := (loc_new w (.bool ts) (.slice ao m ca) (.int .i64 e) 81).later (below_alloc _ (.cells #[.bool false, .slice none 0 0, .int .i64 0] 81))
  have l2 := loc_new (w.alloc (.cells #[.bool ts, .slice ao m ca, .int .i64 e] 81)) (.bool false) (.slice none 0 0) (.int .i64 0) 81
  rw [World.size_alloc] at l2
  have hs0l : s0 ≤ 20000 := by omega
  clear hr hN hR hm hz hg hw hL hLe hs0 hsh
  by_cases hpar : (e - (s0 : Int)) % 2 = 0
  · rw [if_pos hpar] at hsd
    subst hsd
    have ht : (e - (sh : Int)).tmod 2 = 0 := by
      obtain ⟨k, hk⟩ : ∃ k : Int, e - (sh : Int) = 2 * k := ⟨(e - (sh : Int)) / 2, by omega⟩
      rw [hk]
      exact Int.mul_tmod_right 2 k
    clear hpar hev
    go_enter Tryd.func49, Tryd.ntmps49
    go_wp2_with fail
    refine (digits_any ts ao m ca e _).mono ?_
    rintro z w1 ⟨rfl, b1⟩
    replace l1 := l1.later b1
    replace l2 := l2.later b1
    replace bA := below_trans bA b1
    clear b1
    go_wp2_with fail
    refine (HBT.out _ bA).mono ?_
    rintro z w2 ⟨rfl, rfl⟩
    obtain ⟨-, ⟨c0, c1, c2⟩, -⟩ := id l1
    go_wp2_with fail
    refine (digits_any ts ao m ca e _).mono ?_
    rintro z w3 ⟨rfl, b3⟩
    replace l1 := l1.later b3
    replace l2 := l2.later b3
    replace bA := below_trans bA b3
    clear b3 c0 c1 c2
    go_wp2_with fail
    refine (HSF.out _ bA).mono ?_
    rintro z w4 ⟨v4, rfl, o4, b4⟩
    replace l1 := l1.later b4
    replace l2 := l2.later b4
    replace bA := below_trans bA b4
    have r4 := o4.rd
    clear b4 o4
    go_wp2_with fail
    refine (HRO.out _ _ r4).mono ?_
    rintro z w5 ⟨x, v5, rfl, hx, o5, b5⟩
    have hxe := HXE.out x hx
    subst hxe
    obtain ⟨hle, hxl⟩ := HLE.out _ hx
    have HLF : Hid _ := HG.out hle
    replace l1 := l1.later b5
    replace l2 := l2.later b5
    replace bA := below_trans bA b5
    replace r4 := r4.later b5
    have r5 := o5.rd
    have bd : Below w5.heap.size w5 w5.drew := (Below.refl _ _).drew
    replace l1 := l1.later bd
    replace l2 := l2.later bd
    replace bA := below_trans bA bd
    replace r4 := r4.later bd
    replace r5 := r5.later bd
    obtain ⟨-, ⟨c0, c1, c2⟩, -⟩ := id l1
    clear b5 o5 hx bd HBT HSF HRO
    go_wp2_with fail
    go_region_held3 (fun wq => wq.cell? ⟨w.heap.size, 0, none⟩ = some (.bool ts) ∧ wq.cell? ⟨w.heap.size, 1, none⟩ = some (.slice ao m ca) ∧ wq.cell? ⟨w.heap.size, 2, none⟩ = some (.int .i64 e)) (go_keep) (first
      | (go_at_call 78; refine (HTM.out _ _ r5 hxl).mono ?_; rintro z w6 ⟨v6, rfl, o6, b6⟩; have l16 := l1.later b6; have l26 := l2.later b6; have b06 := below_trans bA b6; have r46 := r4.later b6; have r56 := r5.later b6; have r6 := o6.rd; obtain ⟨-, ⟨p0, p1, p2⟩, -⟩ := id l16)
      | (go_at_call 84; refine (HCM.out _ _ w6 r6 r46).mono ?_; rintro z w7 ⟨rfl, b7⟩; have l17 := l16.later b7; have l27 := l26.later b7; have b07 := below_trans b06 b7; have r57 := r56.later b7; obtain ⟨-, ⟨q0, q1, q2⟩, -⟩ := id l17)
      | (go_at_call 76; refine (HEN.out _ _ w7 HLF.out hxl r57).mono ?_; rintro z w8 ⟨v8, rfl, o8, b8⟩; have l28 := l27.later b8; have b08 := below_trans b07 b8; have l18 := l17.later b8; obtain ⟨so, sc, hvs⟩ := o8.rd.shape; subst hvs; obtain ⟨-, ⟨t0, t1, t2⟩, -⟩ := id l18; obtain ⟨hl8, ⟨d0, d1, d2⟩, f0, f1, f2⟩ := id l28))
    all_goals go_wp2
    obtain ⟨-, ⟨g0, g1, g2⟩, -⟩ := loc_set l28 (.bool zs) (.slice so (Dg.dg 4294967296 zn).length sc) (.int .i64 ze)
    have o9 := o8.apart3 (b := w.heap.size + 1) l27.1 (.bool zs) (.slice so (Dg.dg 4294967296 zn).length sc) (.int .i64 ze)
    have b9 := below_set3 b08 (show w.heap.size ≤ w.heap.size + 1 by omega) (.bool zs) (.slice so (Dg.dg 4294967296 zn).length sc) (.int .i64 ze)
    refine bodyPost_ret (v := .agg #[.bool zs, .slice so (Dg.dg 4294967296 zn).length sc, .int .i64 ze]) (by simp [results, Tryd.results49, go_sem, g0, g1, g2]) rfl ?_
    exact ⟨_, rfl, o9.lower b07.size, b9⟩
  · rw [if_neg hpar] at hsd
    subst hsd
    have ht : ((e - (s0 : Int)).tmod 2 == 0) = false := by
      simp
      intro h
      have := Int.dvd_of_tmod_eq_zero h
      omega
    clear hpar hev
    have hw3 : IntKind.i64.wrap (e - (s0 : Int)) = e - (s0 : Int) := IntWalk.i64_in _ ⟨by omega, by omega⟩
    have hcast : ((s0 + 1 : Nat) : Int) = (s0 : Int) + 1 := by omega
    rw [hcast] at HSF hq1 hw1
    clear hcast hq
    go_enter Tryd.func49, Tryd.ntmps49
    go_wp2_with fail
    refine (digits_any ts ao m ca e _).mono ?_
    rintro z w1 ⟨rfl, b1⟩
    replace l1 := l1.later b1
    replace l2 := l2.later b1
    replace bA := below_trans bA b1
    clear b1
    go_wp2_with fail
    refine (HBT.out _ bA).mono ?_
    rintro z w2 ⟨rfl, rfl⟩
    obtain ⟨-, ⟨c0, c1, c2⟩, -⟩ := id l1
    go_wp2_with fail
    refine (digits_any ts ao m ca e _).mono ?_
    rintro z w3 ⟨rfl, b3⟩
    replace l1 := l1.later b3
    replace l2 := l2.later b3
    replace bA := below_trans bA b3
    clear b3 c0 c1 c2
    go_wp2_with fail
    refine (HSF.out _ bA).mono ?_
    rintro z w4 ⟨v4, rfl, o4, b4⟩
    replace l1 := l1.later b4
    replace l2 := l2.later b4
    replace bA := below_trans bA b4
    have r4 := o4.rd
    clear b4 o4
    go_wp2_with fail
    refine (HRO.out _ _ r4).mono ?_
    rintro z w5 ⟨x, v5, rfl, hx, o5, b5⟩
    have hxe := HXE.out x hx
    subst hxe
    obtain ⟨hle, hxl⟩ := HLE.out _ hx
    have HLF : Hid _ := HG.out hle
    replace l1 := l1.later b5
    replace l2 := l2.later b5
    replace bA := below_trans bA b5
    replace r4 := r4.later b5
    have r5 := o5.rd
    have bd : Below w5.heap.size w5 w5.drew := (Below.refl _ _).drew
    replace l1 := l1.later bd
    replace l2 := l2.later bd
    replace bA := below_trans bA bd
    replace r4 := r4.later bd
    replace r5 := r5.later bd
    obtain ⟨-, ⟨c0, c1, c2⟩, -⟩ := id l1
    clear b5 o5 hx bd HBT HSF HRO
    go_wp2_with fail
    go_region_held3 (fun wq => wq.cell? ⟨w.heap.size, 0, none⟩ = some (.bool ts) ∧ wq.cell? ⟨w.heap.size, 1, none⟩ = some (.slice ao m ca) ∧ wq.cell? ⟨w.heap.size, 2, none⟩ = some (.int .i64 e)) (go_keep) (first
      | (go_at_call 78; refine (HTM.out _ _ r5 hxl).mono ?_; rintro z w6 ⟨v6, rfl, o6, b6⟩; have l16 := l1.later b6; have l26 := l2.later b6; have b06 := below_trans bA b6; have r46 := r4.later b6; have r56 := r5.later b6; have r6 := o6.rd; obtain ⟨-, ⟨p0, p1, p2⟩, -⟩ := id l16)
      | (go_at_call 84; refine (HCM.out _ _ w6 r6 r46).mono ?_; rintro z w7 ⟨rfl, b7⟩; have l17 := l16.later b7; have l27 := l26.later b7; have b07 := below_trans b06 b7; have r57 := r56.later b7; obtain ⟨-, ⟨q0, q1, q2⟩, -⟩ := id l17)
      | (go_at_call 76; refine (HEN.out _ _ w7 HLF.out hxl r57).mono ?_; rintro z w8 ⟨v8, rfl, o8, b8⟩; have l28 := l27.later b8; have b08 := below_trans b07 b8; have l18 := l17.later b8; obtain ⟨so, sc, hvs⟩ := o8.rd.shape; subst hvs; obtain ⟨-, ⟨t0, t1, t2⟩, -⟩ := id l18; obtain ⟨hl8, ⟨d0, d1, d2⟩, f0, f1, f2⟩ := id l28))
    all_goals go_wp2
    obtain ⟨-, ⟨g0, g1, g2⟩, -⟩ := loc_set l28 (.bool zs) (.slice so (Dg.dg 4294967296 zn).length sc) (.int .i64 ze)
    have o9 := o8.apart3 (b := w.heap.size + 1) l27.1 (.bool zs) (.slice so (Dg.dg 4294967296 zn).length sc) (.int .i64 ze)
    have b9 := below_set3 b08 (show w.heap.size ≤ w.heap.size + 1 by omega) (.bool zs) (.slice so (Dg.dg 4294967296 zn).length sc) (.int .i64 ze)
    refine bodyPost_ret (v := .agg #[.bool zs, .slice so (Dg.dg 4294967296 zn).length sc, .int .i64 ze]) (by simp [results, Tryd.results49, go_sem, g0, g1, g2]) rfl ?_
    exact ⟨_, rfl, o9.lower b07.size, b9⟩
end Go.Proofs.YtmjhlflemfkflaaDoor

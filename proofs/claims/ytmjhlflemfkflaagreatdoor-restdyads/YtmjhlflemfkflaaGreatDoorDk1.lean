/-
  What is cut: numbers; contracts of long.Cut and dyad.Cut.
-/
import Derived.Test.YtmjhlflemfkflaaGreatDoorDt1
import Derived.Test.YtmjhlflemfkflaaGreatDoorDd
namespace Go.Proofs.YtmjhlflemfkflaaGreatDoor
open Go.RowKit

/-- long.Cut's answer. -/
def cutT (t : Trip) (b : Int) (up : Bool) : Trip :=
  if (bitLen t.n : Int) - b ≤ ((if t.n = 0 then 0 else tz t.n : Nat) : Int) then t
  else ⟨t.s, t.n / 2 ^ ((bitLen t.n : Int) - b).toNat + (if (up != t.s) = true then 1 else 0), t.e + ((bitLen t.n : Int) - b)⟩

/-- The reference's. -/
def dcutT (t : Trip) (b : Int) (up : Bool) : Trip :=
  if (bitLen t.n : Int) - b ≤ 0 then t
  else bare ⟨t.s, t.n / 2 ^ ((bitLen t.n : Int) - b).toNat + (if 0 < t.n % 2 ^ ((bitLen t.n : Int) - b).toNat ∧ (up != t.s) = true then 1 else 0), t.e + ((bitLen t.n : Int) - b)⟩

theorem bitLen_shl (q k : Nat) (h : q ≠ 0) : bitLen (2 ^ k * q) = k + bitLen q := by
  have hd : 2 ^ k * q / 2 ^ k = q := Nat.mul_div_cancel_left q (Nat.pow_pos (by omega))
  have := bitLen_shift (2 ^ k * q) k (by rw [hd]; exact h)
  rwa [hd] at this

theorem cut_bare (A : Trip) (b : Int) (up : Bool) (hb : 1 ≤ b) : bare (cutT A b up) = dcutT (bare A) b up := by
  obtain ⟨s, n, e⟩ := A
  by_cases h0 : n = 0
  · subst h0
    have hz : bare ⟨s, 0, e⟩ = ⟨false, 0, 0⟩ := rfl
    have c1 : cutT ⟨s, 0, e⟩ b up = ⟨s, 0, e⟩ := if_pos (by
      show ((bitLen 0 : Nat) : Int) - b ≤ ((if (0 : Nat) = 0 then 0 else tz 0 : Nat) : Int)
      rw [bitLen_zero, if_pos rfl]
      omega)
    have c2 : dcutT ⟨false, 0, 0⟩ b up = ⟨false, 0, 0⟩ := if_pos (by
      show ((bitLen 0 : Nat) : Int) - b ≤ 0
      rw [bitLen_zero]
      omega)
    rw [c1, hz, c2]
  · obtain ⟨m, hm⟩ := tz_spec h0
    have hd := div_tz hm
    have hba : bare ⟨s, n, e⟩ = ⟨s, 2 * m + 1, e + tz n⟩ := by
      unfold bare
      rw [if_neg h0]
      simp only [hd]
    obtain ⟨k, hk⟩ : ∃ k, tz n = k := ⟨_, rfl⟩
    rw [hk] at hba hm
    have hbl := bitLen_shl (2 * m + 1) k (by omega)
    rw [← hm] at hbl
    rw [hba]
    unfold cutT dcutT
    simp only [if_neg h0, hk, hbl]
    obtain ⟨L, hL⟩ : ∃ L, bitLen (2 * m + 1) = L := ⟨_, rfl⟩
    rw [hL]
    by_cases h1 : (L : Int) - b ≤ 0
    · rw [if_pos h1, if_pos (by omega)]
      exact hba
    · rw [if_neg h1, if_neg (by omega)]
      obtain ⟨j, hj⟩ : ∃ j : Nat, (L : Int) - b = (j : Int) := ⟨((L : Int) - b).toNat, by omega⟩
      have hj2 : ((k + L : Nat) : Int) - b = ((k + j : Nat) : Int) := by omega
      rw [hj2, hj, Int.toNat_natCast, Int.toNat_natCast]
      have hdiv : n / 2 ^ (k + j) = (2 * m + 1) / 2 ^ j := by
        rw [hm, Nat.pow_add, Nat.mul_div_mul_left _ _ (Nat.pow_pos (by omega))]
      have hmod : 0 < (2 * m + 1) % 2 ^ j := by
        rcases Nat.eq_zero_or_pos ((2 * m + 1) % 2 ^ j) with h | h
        · exfalso
          obtain ⟨i, hi⟩ : ∃ i, j = i + 1 := ⟨j - 1, by omega⟩
          have hdv := Nat.dvd_of_mod_eq_zero h
          rw [hi, Nat.pow_succ'] at hdv
          have : 2 ∣ 2 * m + 1 := Nat.dvd_trans (Nat.dvd_mul_right 2 _) hdv
          omega
        · exact h
      rw [hdiv]
      have he : e + ((k + j : Nat) : Int) = e + (k : Int) + (j : Int) := by omega
      rw [he]
      simp only [hmod, true_and]

theorem cutT_len {A : Trip} {b : Int} {up : Bool} {L : Nat} (h : (Dg.dg 4294967296 A.n).length ≤ L) (hL : 1 ≤ L) : (Dg.dg 4294967296 (cutT A b up).n).length ≤ L + 1 := by
  unfold cutT
  by_cases hc : (bitLen A.n : Int) - b ≤ ((if A.n = 0 then 0 else tz A.n : Nat) : Int)
  · rw [if_pos hc]
    omega
  · rw [if_neg hc]
    show (Dg.dg 4294967296 (A.n / 2 ^ ((bitLen A.n : Int) - b).toNat + (if (up != A.s) = true then 1 else 0))).length ≤ L + 1
    refine Nat.le_trans (dg_len_mono 4294967296 _ (A.n + 1) (by omega) ?_) (add_len A.n 1 L h hL)
    have := Nat.div_le_self A.n (2 ^ ((bitLen A.n : Int) - b).toNat)
    by_cases hu : (up != A.s) = true
    · rw [if_pos hu]; omega
    · rw [if_neg hu]; omega

theorem bitLen_of_len2 {a L : Nat} (h : (Dg.dg 4294967296 a).length ≤ L) : bitLen a ≤ 32 * L := by
  refine bitLen_le_of a _ ?_
  rw [Nat.pow_mul]
  have h1 := Dg.vl_lt 4294967296 _ (Dg.small_dg 4294967296 a (by omega))
  rw [Dg.vl_dg _ _ (by omega)] at h1
  exact Nat.lt_of_lt_of_le h1 (Nat.pow_le_pow_right (by omega) h)

theorem cutT_e {A : Trip} {b : Int} {up : Bool} {L : Nat} (h : (Dg.dg 4294967296 A.n).length ≤ L) (hb : 1 ≤ b) : A.e ≤ (cutT A b up).e ∧ (cutT A b up).e ≤ A.e + 32 * L := by
  have hl := bitLen_of_len2 h
  unfold cutT
  by_cases hc : (bitLen A.n : Int) - b ≤ ((if A.n = 0 then 0 else tz A.n : Nat) : Int)
  · rw [if_pos hc]
    omega
  · rw [if_neg hc]
    show A.e ≤ A.e + ((bitLen A.n : Int) - b) ∧ A.e + ((bitLen A.n : Int) - b) ≤ A.e + 32 * L
    omega

/-- The call answers a number with a point, wherever its digits lie. -/
def DVRes (w : World) (t : Trip) (e : Ending) (w' : World) : Prop := ∃ s, e = .returned (.agg #[.bool t.s, s, .int .i64 t.e]) ∧ Rd w' .u32 s (Dg.dg 4294967296 t.n) ∧ Below w.heap.size w w'

/-- A result's cell, fresh: behind a store into it what is read is as it was. -/
theorem ZB.rdu {w : World} {b : Nat} {v : Value} {zs : List Nat} (h : ZB w b) (hr : Rd w .u32 v zs) (x0 x1 x2 : Value) (hn : Dg.Norm zs) : Rd (((w.setCell ⟨b, 0, none⟩ x0).setCell ⟨b, 1, none⟩ x1).setCell ⟨b, 2, none⟩ x2) .u32 v zs := rd_set_apart hr h hn x0 x1 x2

set_option maxRecDepth 100000 in
set_option maxHeartbeats 1600000 in
theorem dcutL_any (v : Value) (t : Trip) (b : Int) (up : Bool) (w : World) (hv : Dv w v t) (hL : (Dg.dg 4294967296 t.n).length ≤ 9000) (he1 : -1000000 ≤ t.e) (he2 : t.e ≤ 1000000) (hb1 : 1 ≤ b) (hb2 : b ≤ 4096) (hT : Tab w) :
    Calls Tryz.prog 44 #[v, .int .i64 b, .bool up] w (DVRes w (cutT t b up)) := by
  obtain ⟨s0, rfl, hr⟩ := hv
  obtain ⟨ts, n, e⟩ := t
  simp only at hr hL he1 he2 ⊢
  have hbl := bitLen_of_len2 hL
  have HBT : Hid (∀ w1, Below w.heap.size w w1 → Calls Tryz.prog 57 #[s0] w1 fun z w' => z = .returned (.int .i64 (bitLen n : Nat)) ∧ w' = w1) := fun w1 b1 => by
    have := bits_any s0 _ w1 (hr.later b1) (Dg.small_dg _ _ (by omega)) (Dg.norm_dg _ _ (by omega)) (by omega)
    rwa [Dg.vl_dg _ _ (by omega)] at this
  have HTW : Hid (∀ w1, Below w.heap.size w w1 → Calls Tryz.prog 80 #[s0] w1 fun z w' => z = .returned (.int .i64 ((if n = 0 then 0 else tz n : Nat) : Int)) ∧ w' = w1) := fun w1 b1 => twos_any s0 n w1 (hr.later b1) (by omega) (hT.later b1)
  have htz : (if n = 0 then 0 else tz n : Nat) ≤ 288000 := by
    split
    · omega
    · have := tz_fits n 9000 hL; omega
  have HSH : Hid (∀ (j : Nat) w1, j ≤ 1000000 → Below w.heap.size w w1 → Calls Tryz.prog 58 #[s0, .int .i64 (-(j : Int))] w1 (Num w1 (n / 2 ^ j))) := fun j w1 hj b1 => by
    have := shifted_any s0 _ (-(j : Int)) w1 (hr.later b1) (Dg.small_dg _ _ (by omega)) (by omega) (by omega) (by omega)
    rw [Dg.vl_dg _ _ (by omega)] at this
    unfold shN at this
    rcases Nat.eq_zero_or_pos j with h | h
    · subst h
      simpa using this
    · rw [if_pos (by omega), Int.neg_neg, Int.toNat_natCast] at this
      exact this
  have HP1 : Hid (∀ v1 v2 x w1, (Dg.dg 4294967296 x).length ≤ 9000 → Rd w1 .u32 v1 (Dg.dg 4294967296 x) → Rd w1 .u32 v2 [1] → Calls Tryz.prog 77 #[v1, v2] w1 (Num w1 (x + 1))) := fun v1 v2 x w1 hl h1 h2 => by
    have := plus_any v1 v2 _ _ w1 h1 h2 (Dg.small_dg _ _ (by omega)) (Dg.small_cons.2 ⟨by omega, Dg.small_nil _ (by omega)⟩) (by omega) (by simp)
    rwa [Dg.vl_dg _ _ (by omega), show Dg.vl 4294967296 [1] = 1 from rfl] at this
  have HKL : Hid (∀ j, (Dg.dg 4294967296 (n / 2 ^ j)).length ≤ 9000) := fun j => Nat.le_trans (dg_len_mono 4294967296 _ n (by omega) (Nat.div_le_self _ _)) hL
  have HCUT : Hid (∀ (j : Nat), (bitLen n : Int) - b = (j : Int) → ¬(j : Int) ≤ ((if n = 0 then 0 else tz n : Nat) : Int) → cutT ⟨ts, n, e⟩ b up = ⟨ts, n / 2 ^ j + (if (up != ts) = true then 1 else 0), e + (j : Int)⟩) := fun j hj hc => by
    unfold cutT
    simp only
    rw [hj, if_neg hc, Int.toNat_natCast]
  have HSAME : Hid ((bitLen n : Int) - b ≤ ((if n = 0 then 0 else tz n : Nat) : Int) → cutT ⟨ts, n, e⟩ b up = ⟨ts, n, e⟩) := fun hc => if_pos hc
  have HNN := Dg.norm_dg 4294967296 n (by omega)
  obtain ⟨ao, ca, rfl⟩ := hr.shape
  obtain ⟨L, hLe⟩ : ∃ L, bitLen n = L := ⟨_, rfl⟩
  obtain ⟨k, hk⟩ : ∃ k, (if n = 0 then 0 else tz n : Nat) = k := ⟨_, rfl⟩
  rw [hLe] at HBT hbl HCUT HSAME
  rw [hk] at HTW htz HCUT HSAME
  obtain ⟨ds, hds⟩ : ∃ ds, Dg.dg 4294967296 n = ds := ⟨_, rfl⟩
  rw [hds] at hr hL HBT HTW HSH HNN ⊢
  have HDS : Hid (Dg.dg 4294967296 n = ds) := hds
  have HNN2 : Hid _ := HNN
  have HRR : Hid (Rd w .u32 (.slice ao ds.length ca) ds) := hr
  have bA := below_trans (below_alloc w (.cells #[.bool ts, .slice ao ds.length ca, .int .i64 e] 66)) (below_alloc _ (.cells #[.bool false, .slice none 0 0, .int .i64 0] 66))
  have l1 := (loc_new w (.bool ts) (.slice ao ds.length ca) (.int .i64 e) 66).later (below_alloc _ (.cells #[.bool false, .slice none 0 0, .int .i64 0] 66))
  have l2 := loc_new (w.alloc (.cells #[.bool ts, .slice ao ds.length ca, .int .i64 e] 66)) (.bool false) (.slice none 0 0) (.int .i64 0) 66
  have z2 := zb_new (w.alloc (.cells #[.bool ts, .slice ao ds.length ca, .int .i64 e] 66)) 66
  rw [World.size_alloc] at l2 z2
  clear hr hLe hk hds HNN
  by_cases hc : (L : Int) - b ≤ (k : Int)
  · have hcut := HSAME.out hc
    rw [hcut]
    go_enter Tryz.func44, Tryz.ntmps44
    go_wp2_with fail
    refine (digits_any ts ao ds.length ca e _).mono ?_
    rintro z w1 ⟨rfl, b1⟩
    replace l1 := l1.later b1
    replace l2 := l2.later b1
    replace z2 := z2.later b1
    replace bA := below_trans bA b1
    clear b1
    go_wp2_with fail
    refine (HBT.out _ bA).mono ?_
    rintro z w2 ⟨rfl, rfl⟩
    obtain ⟨-, ⟨c0, c1, c2⟩, -⟩ := id l1
    go_wp2_with fail
    refine (digits_any ts ao ds.length ca e _).mono ?_
    rintro z w3 ⟨rfl, b3⟩
    replace l1 := l1.later b3
    replace l2 := l2.later b3
    replace z2 := z2.later b3
    replace bA := below_trans bA b3
    clear b3 c0 c1 c2
    go_wp2_with fail
    refine (HTW.out _ bA).mono ?_
    rintro z w4 ⟨rfl, rfl⟩
    obtain ⟨-, ⟨c0, c1, c2⟩, -⟩ := id l1
    obtain ⟨hl2, ⟨d0, d1, d2⟩, f0, f1, f2⟩ := id l2
    have g3 := loc_set l2 (.bool ts) (.slice ao ds.length ca) (.int .i64 (e))
    obtain ⟨-, ⟨g0, g1, g2⟩, -⟩ := g3
    have rr := rd_set_apart (HRR.out.later bA) z2 HNN2.out (.bool ts) (.slice ao ds.length ca) (.int .i64 (e))
    have b8 := below_set3 bA (show w.heap.size ≤ w.heap.size + 1 by omega) (.bool ts) (.slice ao ds.length ca) (.int .i64 (e))
    go_wp2
    refine bodyPost_ret (v := .agg #[.bool ts, .slice ao ds.length ca, .int .i64 (e)]) (by simp [results, Tryz.results44, go_sem, g0, g1, g2]) rfl ?_
    exact ⟨_, rfl, by rw [HDS.out]; exact rr, b8⟩
  · obtain ⟨j, hj⟩ : ∃ j : Nat, (L : Int) - b = (j : Int) := ⟨((L : Int) - b).toNat, by omega⟩
    rw [hj] at hc
    have hcut := HCUT.out j hj hc
    have hjl : j ≤ 288000 := by omega
    have hew : IntKind.i64.wrap (e + (j : Int)) = e + (j : Int) := IntWalk.i64_in _ ⟨by omega, by omega⟩
    clear HCUT HSAME
    cases up
    · cases ts
      · rw [if_neg (by decide), Nat.add_zero] at hcut
        rw [hcut]
        go_enter Tryz.func44, Tryz.ntmps44
        go_wp2_with fail
        refine (digits_any false ao ds.length ca e _).mono ?_
        rintro z w1 ⟨rfl, b1⟩
        replace l1 := l1.later b1
        replace l2 := l2.later b1
        replace z2 := z2.later b1
        replace bA := below_trans bA b1
        clear b1
        go_wp2_with fail
        refine (HBT.out _ bA).mono ?_
        rintro z w2 ⟨rfl, rfl⟩
        obtain ⟨-, ⟨c0, c1, c2⟩, -⟩ := id l1
        go_wp2_with fail
        refine (digits_any false ao ds.length ca e _).mono ?_
        rintro z w3 ⟨rfl, b3⟩
        replace l1 := l1.later b3
        replace l2 := l2.later b3
        replace z2 := z2.later b3
        replace bA := below_trans bA b3
        clear b3 c0 c1 c2
        go_wp2_with fail
        refine (HTW.out _ bA).mono ?_
        rintro z w4 ⟨rfl, rfl⟩
        obtain ⟨-, ⟨c0, c1, c2⟩, -⟩ := id l1
        go_wp2_with fail
        refine (digits_any false ao ds.length ca e _).mono ?_
        rintro z w5 ⟨rfl, b5⟩
        replace l1 := l1.later b5
        replace l2 := l2.later b5
        replace z2 := z2.later b5
        replace bA := below_trans bA b5
        clear b5 c0 c1 c2
        go_wp2_with fail
        refine (HSH.out j _ (by omega) bA).mono ?_
        rintro z w6 ⟨v6, rfl, o6, b6⟩
        replace l1 := l1.later b6
        replace l2 := l2.later b6
        replace z2 := z2.later b6
        replace bA := below_trans bA b6
        have r6 := o6.rd
        clear b6 o6
        obtain ⟨-, ⟨c0, c1, c2⟩, -⟩ := id l1
        obtain ⟨so, sc, hvr⟩ := r6.shape
        subst hvr
        go_wp2_with fail
        refine (new_any false so (Dg.dg 4294967296 (n / 2 ^ j)).length sc (e + (j : Int)) _).mono ?_
        rintro z w8 ⟨rfl, b8⟩
        replace l2 := l2.later b8
        replace z2 := z2.later b8
        replace bA := below_trans bA b8
        replace r6 := r6.later b8
        clear b8 c0 c1 c2 l1
        obtain ⟨hl2, ⟨d0, d1, d2⟩, f0, f1, f2⟩ := id l2
        have g3 := loc_set l2 (.bool false) (.slice so (Dg.dg 4294967296 (n / 2 ^ j)).length sc) (.int .i64 (e + (j : Int)))
        obtain ⟨-, ⟨g0, g1, g2⟩, -⟩ := g3
        have rr := rd_set_apart r6 z2 (Dg.norm_dg _ _ (by omega)) (.bool false) (.slice so (Dg.dg 4294967296 (n / 2 ^ j)).length sc) (.int .i64 (e + (j : Int)))
        have b8 := below_set3 bA (show w.heap.size ≤ w.heap.size + 1 by omega) (.bool false) (.slice so (Dg.dg 4294967296 (n / 2 ^ j)).length sc) (.int .i64 (e + (j : Int)))
        go_wp2
        refine bodyPost_ret (v := .agg #[.bool false, .slice so (Dg.dg 4294967296 (n / 2 ^ j)).length sc, .int .i64 (e + (j : Int))]) (by simp [results, Tryz.results44, go_sem, g0, g1, g2]) rfl ?_
        exact ⟨_, rfl, rr, b8⟩
      · rw [if_pos (by decide)] at hcut
        rw [hcut]
        go_enter Tryz.func44, Tryz.ntmps44
        go_wp2_with fail
        refine (digits_any true ao ds.length ca e _).mono ?_
        rintro z w1 ⟨rfl, b1⟩
        replace l1 := l1.later b1
        replace l2 := l2.later b1
        replace z2 := z2.later b1
        replace bA := below_trans bA b1
        clear b1
        go_wp2_with fail
        refine (HBT.out _ bA).mono ?_
        rintro z w2 ⟨rfl, rfl⟩
        obtain ⟨-, ⟨c0, c1, c2⟩, -⟩ := id l1
        go_wp2_with fail
        refine (digits_any true ao ds.length ca e _).mono ?_
        rintro z w3 ⟨rfl, b3⟩
        replace l1 := l1.later b3
        replace l2 := l2.later b3
        replace z2 := z2.later b3
        replace bA := below_trans bA b3
        clear b3 c0 c1 c2
        go_wp2_with fail
        refine (HTW.out _ bA).mono ?_
        rintro z w4 ⟨rfl, rfl⟩
        obtain ⟨-, ⟨c0, c1, c2⟩, -⟩ := id l1
        go_wp2_with fail
        refine (digits_any true ao ds.length ca e _).mono ?_
        rintro z w5 ⟨rfl, b5⟩
        replace l1 := l1.later b5
        replace l2 := l2.later b5
        replace z2 := z2.later b5
        replace bA := below_trans bA b5
        clear b5 c0 c1 c2
        go_wp2_with fail
        refine (HSH.out j _ (by omega) bA).mono ?_
        rintro z w6 ⟨v6, rfl, o6, b6⟩
        replace l1 := l1.later b6
        replace l2 := l2.later b6
        replace z2 := z2.later b6
        replace bA := below_trans bA b6
        have r6 := o6.rd
        clear b6 o6
        obtain ⟨-, ⟨c0, c1, c2⟩, -⟩ := id l1
        have b7 := below_alloc w6 (.cells #[.int .u32 ((1 : Nat) : Int)] 76)
        have rn := rd_new (w := w6) (k := .u32) (e := 76) [1] #[.int .u32 ((1 : Nat) : Int)] rfl (by unfold maxLen; simp)
        have hpl := HP1.out _ _ (n / 2 ^ j) _ (HKL.out j) (r6.later b7) rn
        replace l1 := l1.later b7
        replace l2 := l2.later b7
        replace z2 := z2.later b7
        replace bA := below_trans bA b7
        clear b7 rn r6
        go_wp2_with fail
        refine hpl.mono ?_
        rintro z w7 ⟨v7, rfl, o7, b7⟩
        replace l1 := l1.later b7
        replace l2 := l2.later b7
        replace z2 := z2.later b7
        replace bA := below_trans bA b7
        have r6 := o7.rd
        clear b7 o7 hpl c0 c1 c2
        obtain ⟨-, ⟨c0, c1, c2⟩, -⟩ := id l1
        obtain ⟨so, sc, hvr⟩ := r6.shape
        subst hvr
        go_wp2_with fail
        refine (new_any true so (Dg.dg 4294967296 (n / 2 ^ j + 1)).length sc (e + (j : Int)) _).mono ?_
        rintro z w8 ⟨rfl, b8⟩
        replace l2 := l2.later b8
        replace z2 := z2.later b8
        replace bA := below_trans bA b8
        replace r6 := r6.later b8
        clear b8 c0 c1 c2 l1
        obtain ⟨hl2, ⟨d0, d1, d2⟩, f0, f1, f2⟩ := id l2
        have g3 := loc_set l2 (.bool true) (.slice so (Dg.dg 4294967296 (n / 2 ^ j + 1)).length sc) (.int .i64 (e + (j : Int)))
        obtain ⟨-, ⟨g0, g1, g2⟩, -⟩ := g3
        have rr := rd_set_apart r6 z2 (Dg.norm_dg _ _ (by omega)) (.bool true) (.slice so (Dg.dg 4294967296 (n / 2 ^ j + 1)).length sc) (.int .i64 (e + (j : Int)))
        have b8 := below_set3 bA (show w.heap.size ≤ w.heap.size + 1 by omega) (.bool true) (.slice so (Dg.dg 4294967296 (n / 2 ^ j + 1)).length sc) (.int .i64 (e + (j : Int)))
        go_wp2
        refine bodyPost_ret (v := .agg #[.bool true, .slice so (Dg.dg 4294967296 (n / 2 ^ j + 1)).length sc, .int .i64 (e + (j : Int))]) (by simp [results, Tryz.results44, go_sem, g0, g1, g2]) rfl ?_
        exact ⟨_, rfl, rr, b8⟩
    · cases ts
      · rw [if_pos (by decide)] at hcut
        rw [hcut]
        go_enter Tryz.func44, Tryz.ntmps44
        go_wp2_with fail
        refine (digits_any false ao ds.length ca e _).mono ?_
        rintro z w1 ⟨rfl, b1⟩
        replace l1 := l1.later b1
        replace l2 := l2.later b1
        replace z2 := z2.later b1
        replace bA := below_trans bA b1
        clear b1
        go_wp2_with fail
        refine (HBT.out _ bA).mono ?_
        rintro z w2 ⟨rfl, rfl⟩
        obtain ⟨-, ⟨c0, c1, c2⟩, -⟩ := id l1
        go_wp2_with fail
        refine (digits_any false ao ds.length ca e _).mono ?_
        rintro z w3 ⟨rfl, b3⟩
        replace l1 := l1.later b3
        replace l2 := l2.later b3
        replace z2 := z2.later b3
        replace bA := below_trans bA b3
        clear b3 c0 c1 c2
        go_wp2_with fail
        refine (HTW.out _ bA).mono ?_
        rintro z w4 ⟨rfl, rfl⟩
        obtain ⟨-, ⟨c0, c1, c2⟩, -⟩ := id l1
        go_wp2_with fail
        refine (digits_any false ao ds.length ca e _).mono ?_
        rintro z w5 ⟨rfl, b5⟩
        replace l1 := l1.later b5
        replace l2 := l2.later b5
        replace z2 := z2.later b5
        replace bA := below_trans bA b5
        clear b5 c0 c1 c2
        go_wp2_with fail
        refine (HSH.out j _ (by omega) bA).mono ?_
        rintro z w6 ⟨v6, rfl, o6, b6⟩
        replace l1 := l1.later b6
        replace l2 := l2.later b6
        replace z2 := z2.later b6
        replace bA := below_trans bA b6
        have r6 := o6.rd
        clear b6 o6
        obtain ⟨-, ⟨c0, c1, c2⟩, -⟩ := id l1
        have b7 := below_alloc w6 (.cells #[.int .u32 ((1 : Nat) : Int)] 76)
        have rn := rd_new (w := w6) (k := .u32) (e := 76) [1] #[.int .u32 ((1 : Nat) : Int)] rfl (by unfold maxLen; simp)
        have hpl := HP1.out _ _ (n / 2 ^ j) _ (HKL.out j) (r6.later b7) rn
        replace l1 := l1.later b7
        replace l2 := l2.later b7
        replace z2 := z2.later b7
        replace bA := below_trans bA b7
        clear b7 rn r6
        go_wp2_with fail
        refine hpl.mono ?_
        rintro z w7 ⟨v7, rfl, o7, b7⟩
        replace l1 := l1.later b7
        replace l2 := l2.later b7
        replace z2 := z2.later b7
        replace bA := below_trans bA b7
        have r6 := o7.rd
        clear b7 o7 hpl c0 c1 c2
        obtain ⟨-, ⟨c0, c1, c2⟩, -⟩ := id l1
        obtain ⟨so, sc, hvr⟩ := r6.shape
        subst hvr
        go_wp2_with fail
        refine (new_any false so (Dg.dg 4294967296 (n / 2 ^ j + 1)).length sc (e + (j : Int)) _).mono ?_
        rintro z w8 ⟨rfl, b8⟩
        replace l2 := l2.later b8
        replace z2 := z2.later b8
        replace bA := below_trans bA b8
        replace r6 := r6.later b8
        clear b8 c0 c1 c2 l1
        obtain ⟨hl2, ⟨d0, d1, d2⟩, f0, f1, f2⟩ := id l2
        have g3 := loc_set l2 (.bool false) (.slice so (Dg.dg 4294967296 (n / 2 ^ j + 1)).length sc) (.int .i64 (e + (j : Int)))
        obtain ⟨-, ⟨g0, g1, g2⟩, -⟩ := g3
        have rr := rd_set_apart r6 z2 (Dg.norm_dg _ _ (by omega)) (.bool false) (.slice so (Dg.dg 4294967296 (n / 2 ^ j + 1)).length sc) (.int .i64 (e + (j : Int)))
        have b8 := below_set3 bA (show w.heap.size ≤ w.heap.size + 1 by omega) (.bool false) (.slice so (Dg.dg 4294967296 (n / 2 ^ j + 1)).length sc) (.int .i64 (e + (j : Int)))
        go_wp2
        refine bodyPost_ret (v := .agg #[.bool false, .slice so (Dg.dg 4294967296 (n / 2 ^ j + 1)).length sc, .int .i64 (e + (j : Int))]) (by simp [results, Tryz.results44, go_sem, g0, g1, g2]) rfl ?_
        exact ⟨_, rfl, rr, b8⟩
      · rw [if_neg (by decide), Nat.add_zero] at hcut
        rw [hcut]
        go_enter Tryz.func44, Tryz.ntmps44
        go_wp2_with fail
        refine (digits_any true ao ds.length ca e _).mono ?_
        rintro z w1 ⟨rfl, b1⟩
        replace l1 := l1.later b1
        replace l2 := l2.later b1
        replace z2 := z2.later b1
        replace bA := below_trans bA b1
        clear b1
        go_wp2_with fail
        refine (HBT.out _ bA).mono ?_
        rintro z w2 ⟨rfl, rfl⟩
        obtain ⟨-, ⟨c0, c1, c2⟩, -⟩ := id l1
        go_wp2_with fail
        refine (digits_any true ao ds.length ca e _).mono ?_
        rintro z w3 ⟨rfl, b3⟩
        replace l1 := l1.later b3
        replace l2 := l2.later b3
        replace z2 := z2.later b3
        replace bA := below_trans bA b3
        clear b3 c0 c1 c2
        go_wp2_with fail
        refine (HTW.out _ bA).mono ?_
        rintro z w4 ⟨rfl, rfl⟩
        obtain ⟨-, ⟨c0, c1, c2⟩, -⟩ := id l1
        go_wp2_with fail
        refine (digits_any true ao ds.length ca e _).mono ?_
        rintro z w5 ⟨rfl, b5⟩
        replace l1 := l1.later b5
        replace l2 := l2.later b5
        replace z2 := z2.later b5
        replace bA := below_trans bA b5
        clear b5 c0 c1 c2
        go_wp2_with fail
        refine (HSH.out j _ (by omega) bA).mono ?_
        rintro z w6 ⟨v6, rfl, o6, b6⟩
        replace l1 := l1.later b6
        replace l2 := l2.later b6
        replace z2 := z2.later b6
        replace bA := below_trans bA b6
        have r6 := o6.rd
        clear b6 o6
        obtain ⟨-, ⟨c0, c1, c2⟩, -⟩ := id l1
        obtain ⟨so, sc, hvr⟩ := r6.shape
        subst hvr
        go_wp2_with fail
        refine (new_any true so (Dg.dg 4294967296 (n / 2 ^ j)).length sc (e + (j : Int)) _).mono ?_
        rintro z w8 ⟨rfl, b8⟩
        replace l2 := l2.later b8
        replace z2 := z2.later b8
        replace bA := below_trans bA b8
        replace r6 := r6.later b8
        clear b8 c0 c1 c2 l1
        obtain ⟨hl2, ⟨d0, d1, d2⟩, f0, f1, f2⟩ := id l2
        have g3 := loc_set l2 (.bool true) (.slice so (Dg.dg 4294967296 (n / 2 ^ j)).length sc) (.int .i64 (e + (j : Int)))
        obtain ⟨-, ⟨g0, g1, g2⟩, -⟩ := g3
        have rr := rd_set_apart r6 z2 (Dg.norm_dg _ _ (by omega)) (.bool true) (.slice so (Dg.dg 4294967296 (n / 2 ^ j)).length sc) (.int .i64 (e + (j : Int)))
        have b8 := below_set3 bA (show w.heap.size ≤ w.heap.size + 1 by omega) (.bool true) (.slice so (Dg.dg 4294967296 (n / 2 ^ j)).length sc) (.int .i64 (e + (j : Int)))
        go_wp2
        refine bodyPost_ret (v := .agg #[.bool true, .slice so (Dg.dg 4294967296 (n / 2 ^ j)).length sc, .int .i64 (e + (j : Int))]) (by simp [results, Tryz.results44, go_sem, g0, g1, g2]) rfl ?_
        exact ⟨_, rfl, rr, b8⟩
end Go.Proofs.YtmjhlflemfkflaaGreatDoor

/-
  Texts laid together: Gr2.
-/
import Derived.Test.YtiiphandhpilgaaGreatDoorNd14
import Derived.Test.YtiiphandhpilgaaGreatDoorNd23
set_option maxRecDepth 100000
namespace Go.Proofs.YtiiphandhpilgaaGreatDoor
open Go.RowKit
def numP (N : Nat) (n : Int) : Nat := if n < 0 then N else N * 2 ^ n.toNat
def denP (M : Nat) (n : Int) : Nat := if n < 0 then M * 2 ^ (-n).toNat else M
def Three (w : World) (q r d : Nat) (e : Ending) (w' : World) : Prop :=
 ∃ v1 v2 v3, e = .returned (.tuple #[v1, v2, v3]) ∧ Own w' w.heap.size 79 .u32 v1 (Dg.dg 4294967296 q) ∧ Own w' w.heap.size 79 .u32 v2 (Dg.dg 4294967296 r) ∧ Rd w' .u32 v3 (Dg.dg 4294967296 d) ∧ Below w.heap.size w w'
theorem up_len32 (n k L j : Nat) (h : (Dg.dg 4294967296 n).length ≤ L) (hk : k ≤ 32 * j) : (Dg.dg 4294967296 (n * 2 ^ k)).length ≤ L + j := by
 apply Dg.dg_len_le 4294967296 _ _ (by omega)
 have h1 := Dg.vl_lt 4294967296 (Dg.dg 4294967296 n) (Dg.small_dg _ _ (by omega))
 rw [Dg.vl_dg _ _ (by omega)] at h1
 have h2 : 4294967296 ^ (Dg.dg 4294967296 n).length ≤ 4294967296 ^ L := Nat.pow_le_pow_right (by omega) h
 have h3 : 2 ^ k ≤ 4294967296 ^ j := by
  rw [show (4294967296 : Nat) = 2 ^ 32 from rfl, ← Nat.pow_mul]
  exact Nat.pow_le_pow_right (by omega) hk
 rw [Nat.pow_add]
 exact Nat.lt_of_lt_of_le (Nat.mul_lt_mul_of_pos_right (Nat.lt_of_lt_of_le h1 h2) (Nat.pow_pos (by omega))) (Nat.mul_le_mul_left _ h3)
set_option maxHeartbeats 1600000 in
theorem gparts_any (qs : Bool) (ao : Option Addr) (ca : Nat) (bo : Option Addr) (cb : Nat) (N M : Nat) (E n : Int) (w : World)
  (ha : Rd w .u32 (.slice ao (Dg.dg 4294967296 N).length ca) (Dg.dg 4294967296 N)) (hb : Rd w .u32 (.slice bo (Dg.dg 4294967296 M).length cb) (Dg.dg 4294967296 M)) (hla : (Dg.dg 4294967296 N).length ≤ 100000) (hlb : (Dg.dg 4294967296 M).length ≤ 100000) (hM : 0 < M) (n1 : -500000 ≤ n) (n2 : n ≤ 500000) :
  Calls Tryz.prog 134 #[.agg #[.bool qs, .slice ao (Dg.dg 4294967296 N).length ca, .slice bo (Dg.dg 4294967296 M).length cb, .int .i64 E], .int .i64 n] w (Three w (numP N n / denP M n) (numP N n % denP M n) (denP M n)) := by
 have b1 := below_alloc w (.cells #[.bool qs, .slice ao (Dg.dg 4294967296 N).length ca, .slice bo (Dg.dg 4294967296 M).length cb, .int .i64 E] 147)
 have l1 := locE_new w [.bool qs, .slice ao (Dg.dg 4294967296 N).length ca, .slice bo (Dg.dg 4294967296 M).length cb, .int .i64 E] 147
 have hM0 : 0 < denP M n := by unfold denP; split <;> first | exact Nat.mul_pos hM (Nat.pow_pos (by omega)) | exact hM
 have hNl : (Dg.dg 4294967296 (numP N n)).length ≤ 115626 := by
  unfold numP
  split
  ·omega
  ·exact Nat.le_trans (up_len32 N n.toNat 100000 15626 hla (by omega)) (by omega)
 have HOV : Hid (∀ v u w1, Rd w1 .u32 v (Dg.dg 4294967296 (numP N n)) → Rd w1 .u32 u (Dg.dg 4294967296 (denP M n)) → Calls Tryz.prog 143 #[v, u] w1 (Two w1 (numP N n / denP M n) (numP N n % denP M n))) := fun v u w1 r1 r2 => by
  have := over_any v u _ _ w1 r1 r2 (Dg.small_dg _ _ (by omega)) (Dg.small_dg _ _ (by omega)) (Dg.norm_dg _ _ (by omega)) (Dg.norm_dg _ _ (by omega)) (by rw [Ne, Dg.dg_nil_iff _ _ (by omega)]; omega) (by omega)
  rwa [Dg.vl_dg _ _ (by omega), Dg.vl_dg _ _ (by omega)] at this
 have HSN : Hid (∀ w1, Below w.heap.size w w1 → ¬n < 0 → Calls Tryz.prog 122 #[.slice ao (Dg.dg 4294967296 N).length ca, .int .i64 n] w1 (Num w1 (numP N n))) := fun w1 b hn => by
  have := shifted_any _ _ n w1 (ha.later b) (Dg.small_dg _ _ (by omega)) (by omega) (by omega) (by omega)
  unfold numP
  rw [if_neg hn]
  rwa [shN_up _ _ (by omega), Dg.vl_dg _ _ (by omega)] at this
 have HSD : Hid (∀ w1, Below w.heap.size w w1 → n < 0 → Calls Tryz.prog 122 #[.slice bo (Dg.dg 4294967296 M).length cb, .int .i64 (-n)] w1 (Num w1 (denP M n))) := fun w1 b hn => by
  have := shifted_any _ _ (-n) w1 (hb.later b) (Dg.small_dg _ _ (by omega)) (by omega) (by omega) (by omega)
  unfold denP
  rw [if_pos hn]
  rwa [shN_up _ _ (by omega), Dg.vl_dg _ _ (by omega)] at this
 have HN0 : Hid (n < 0 → numP N n = N) := fun h => if_pos h
 have HD0 : Hid (¬n < 0 → denP M n = M) := fun h => if_neg h
 have RA : Hid (Rd _ _ _ _) := ha.later b1
 have RB : Hid (Rd _ _ _ _) := hb.later b1
 obtain ⟨ln, hln⟩ : ∃ l, (Dg.dg 4294967296 N).length = l := ⟨_, rfl⟩
 obtain ⟨lm, hlm⟩ : ∃ l, (Dg.dg 4294967296 M).length = l := ⟨_, rfl⟩
 obtain ⟨X, hX⟩ : ∃ X, numP N n = X := ⟨_, rfl⟩
 obtain ⟨Y, hY⟩ : ∃ Y, denP M n = Y := ⟨_, rfl⟩
 rw [hX] at HOV HSN HN0 ⊢
 rw [hY] at HOV HSD HD0 ⊢
 simp only [hln, hlm] at b1 l1 HSN HSD RA RB ⊢
 clear ha hb hla hlb hNl hX hY hM0 hln hlm
 have c1 := l1.cell 1 rfl
 have c2 := l1.cell 2 rfl
 by_cases hn : n < 0
 ·have hw : IntKind.i64.wrap (-n) = -n := IntWalk.i64_in _ ⟨by omega, by omega⟩
  obtain rfl := HN0.out hn
  go_enter Tryz.func134, Tryz.ntmps134
  go_wp2_with fail
  go_quiet (fail)
  have bd := below_drewN b1 nq
  have ra := Rd.later RA.out (below_drewN (Below.refl _ _) nq)
  go_wp2_with fail
  refine (HSD.out _ bd hn).mono ?_
  rintro z w2 ⟨v2, rfl, o2, b2⟩
  have b02 := below_trans bd b2
  go_wp2_with fail
  refine (HOV.out _ _ _ (ra.later b2) o2.rd).mono ?_
  rintro z w3 ⟨v3, v4, rfl, o3, o4, b3⟩
  have b03 := below_trans b02 b3
  go_wp2
  go_ret3
  exact ⟨_, _, _, rfl, o3.lower b02.size, o4.lower b02.size, (o2.later b3).rd, b03⟩
 ·have hnf : decide (n < 0) = false := by simp; omega
  obtain rfl := HD0.out hn
  go_enter Tryz.func134, Tryz.ntmps134
  go_wp2_with fail
  go_quiet (fail)
  have bd := below_drewN b1 nq
  have rb := Rd.later RB.out (below_drewN (Below.refl _ _) nq)
  go_wp2_with fail
  refine (HSN.out _ bd hn).mono ?_
  rintro z w2 ⟨v2, rfl, o2, b2⟩
  have b02 := below_trans bd b2
  have rb2 := rb.later b2
  go_wp2_with fail
  refine (HOV.out _ _ _ o2.rd rb2).mono ?_
  rintro z w3 ⟨v3, v4, rfl, o3, o4, b3⟩
  have b03 := below_trans b02 b3
  go_wp2
  go_ret3
  exact ⟨_, _, _, rfl, o3.lower b02.size, o4.lower b02.size, rb2.later b3, b03⟩
theorem bitLen_lenG {a L : Nat} (h : (Dg.dg 4294967296 a).length ≤ L) : bitLen a ≤ 32 * L := by
 refine bitLen_le_of a _ ?_
 rw [Nat.pow_mul]
 have h1 := Dg.vl_lt 4294967296 _ (Dg.small_dg 4294967296 a (by omega))
 rw [Dg.vl_dg _ _ (by omega)] at h1
 exact Nat.lt_of_lt_of_le h1 (Nat.pow_le_pow_right (by omega) h)
def topQ (N M : Nat) (E : Int) : Int :=
 E + (((bitLen N : Int) - (bitLen M : Int)) - (if numP N (-((bitLen N : Int) - (bitLen M : Int))) / denP M (-((bitLen N : Int) - (bitLen M : Int))) = 0 then 1 else 0))
set_option maxHeartbeats 1600000 in
theorem gtop_any (qs : Bool) (ao : Option Addr) (ca : Nat) (bo : Option Addr) (cb : Nat) (N M : Nat) (E : Int) (w : World)
  (ha : Rd w .u32 (.slice ao (Dg.dg 4294967296 N).length ca) (Dg.dg 4294967296 N)) (hb : Rd w .u32 (.slice bo (Dg.dg 4294967296 M).length cb) (Dg.dg 4294967296 M)) (hla : (Dg.dg 4294967296 N).length ≤ 10000) (hlb : (Dg.dg 4294967296 M).length ≤ 10000) (hM : 0 < M) (e1 : -500000 ≤ E) (e2 : E ≤ 500000) :
  Calls Tryz.prog 133 #[.agg #[.bool qs, .slice ao (Dg.dg 4294967296 N).length ca, .slice bo (Dg.dg 4294967296 M).length cb, .int .i64 E]] w fun z w' => z = .returned (.int .i64 (topQ N M E)) ∧ Below w.heap.size w w' := by
 have b1 := below_alloc w (.cells #[.bool qs, .slice ao (Dg.dg 4294967296 N).length ca, .slice bo (Dg.dg 4294967296 M).length cb, .int .i64 E] 147)
 have l1 := locE_new w [.bool qs, .slice ao (Dg.dg 4294967296 N).length ca, .slice bo (Dg.dg 4294967296 M).length cb, .int .i64 E] 147
 have hbn : bitLen N ≤ 32 * 10000 := bitLen_lenG hla
 have hbm : bitLen M ≤ 32 * 10000 := bitLen_lenG hlb
 have HB1 : Hid (∀ w1, Below w.heap.size w w1 → Calls Tryz.prog 121 #[.slice ao (Dg.dg 4294967296 N).length ca] w1 fun z w' => z = .returned (.int .i64 (bitLen N : Nat)) ∧ w' = w1) := fun w1 b => by
  have := bits_any _ _ w1 (ha.later b) (Dg.small_dg _ _ (by omega)) (Dg.norm_dg _ _ (by omega)) (by omega)
  rwa [Dg.vl_dg _ _ (by omega)] at this
 have HB2 : Hid (∀ w1, Below w.heap.size w w1 → Calls Tryz.prog 121 #[.slice bo (Dg.dg 4294967296 M).length cb] w1 fun z w' => z = .returned (.int .i64 (bitLen M : Nat)) ∧ w' = w1) := fun w1 b => by
  have := bits_any _ _ w1 (hb.later b) (Dg.small_dg _ _ (by omega)) (Dg.norm_dg _ _ (by omega)) (by omega)
  rwa [Dg.vl_dg _ _ (by omega)] at this
 obtain ⟨ld, hld⟩ : ∃ l, (bitLen N : Int) - (bitLen M : Int) = l := ⟨_, rfl⟩
 have HP : Hid (∀ w1, Below w.heap.size w w1 → Calls Tryz.prog 134 #[.agg #[.bool qs, .slice ao (Dg.dg 4294967296 N).length ca, .slice bo (Dg.dg 4294967296 M).length cb, .int .i64 E], .int .i64 (-ld)] w1 (Three w1 (numP N (-ld) / denP M (-ld)) (numP N (-ld) % denP M (-ld)) (denP M (-ld)))) := fun w1 b =>
  gparts_any qs ao ca bo cb N M E (-ld) w1 (ha.later b) (hb.later b) (by omega) (by omega) hM (by omega) (by omega)
 unfold topQ
 rw [hld]
 obtain ⟨Q, hQ⟩ : ∃ Q, numP N (-ld) / denP M (-ld) = Q := ⟨_, rfl⟩
 rw [hQ] at HP ⊢
 have hQn := Dg.dg_nil_iff 4294967296 Q (by omega)
 obtain ⟨T, hT⟩ : ∃ T, E + (ld - (if Q = 0 then 1 else 0)) = T := ⟨_, rfl⟩
 have HT : Hid _ := hT
 rw [hT]
 clear hT
 obtain ⟨x, hx⟩ : ∃ x, bitLen N = x := ⟨_, rfl⟩
 obtain ⟨y, hy⟩ : ∃ y, bitLen M = y := ⟨_, rfl⟩
 rw [hx] at HB1 hld hbn
 rw [hy] at HB2 hld hbm
 obtain ⟨ln, hln⟩ : ∃ l, (Dg.dg 4294967296 N).length = l := ⟨_, rfl⟩
 obtain ⟨lm, hlm⟩ : ∃ l, (Dg.dg 4294967296 M).length = l := ⟨_, rfl⟩
 simp only [hln, hlm] at b1 l1 HB1 HB2 HP ⊢
 have w1 : IntKind.i64.wrap (-ld) = -ld := IntWalk.i64_in _ ⟨by omega, by omega⟩
 have w0 : IntKind.i64.wrap ld = ld := IntWalk.i64_in _ ⟨by omega, by omega⟩
 clear ha hb hla hlb hx hy hln hlm hQ hM
 have l2 := l1.drew
 have bd := below_trans b1 ((Below.refl _ _).drew)
 have c1 := l2.cell 1 rfl
 have c2 := l2.cell 2 rfl
 clear l1 b1
 have hlde : (x : Int) - (y : Int) = ld := hld
 clear hld
 go_enter Tryz.func133, Tryz.ntmps133
 go_wp2_with fail
 go_region_held3 (fun wq => wq.cell? ⟨w.heap.size, 1, none⟩ = some (.slice ao ln ca) ∧ wq.cell? ⟨w.heap.size, 2, none⟩ = some (.slice bo lm cb)) (go_keep) (first
  | (go_at_call 121; (with_reducible (refine (HB1.out _ bd).mono ?_)); rintro z w3 ⟨rfl, rfl⟩)
  | (go_at_call 121; (with_reducible (refine (HB2.out _ bd).mono ?_)); rintro z w3 ⟨rfl, rfl⟩))
 have c0 := l2.cell 0 rfl
 have c3 := l2.cell 3 rfl
 go_goals
 go_wp2_with fail
 refine (HP.out _ bd).mono ?_
 rintro z w4 ⟨v1, v2, v3, rfl, o1, o2, r3, b4⟩
 have b04 := below_trans bd b4
 have l4 := l2.later b4
 obtain ⟨so, sc, hs⟩ := o1.rd.shape
 subst hs
 have c4 := l4.cell 3 rfl
 obtain ⟨lq, hlq⟩ : ∃ l, (Dg.dg 4294967296 Q).length = l := ⟨_, rfl⟩
 have hz : lq = 0 ↔ Q = 0 := by rw [← hlq, List.length_eq_zero_iff]; exact hQn
 rw [hlq]
 clear hlq hQn o1 o2 r3
 by_cases h0 : Q = 0
 ·have hT2 : E + (ld - 1) = T := by rw [← HT.out, if_pos h0]
  subst hT2
  have hl0 := hz.2 h0
  clear hz h0 HT
  subst hl0
  have w2 : IntKind.i64.wrap (ld - 1) = ld - 1 := IntWalk.i64_in _ ⟨by omega, by omega⟩
  have w3 : IntKind.i64.wrap (E + (ld - 1)) = E + (ld - 1) := IntWalk.i64_in _ ⟨by omega, by omega⟩
  go_wp2
  go_ret
  exact ⟨rfl, b04⟩
 ·have hT2 : E + ld = T := by rw [← HT.out, if_neg h0, Int.sub_zero]
  subst hT2
  have hqf : ((lq : Int) == 0) = false := by simp; exact fun h => h0 (hz.1 h)
  have w3 : IntKind.i64.wrap (E + ld) = E + ld := IntWalk.i64_in _ ⟨by omega, by omega⟩
  go_wp2
  go_ret
  exact ⟨rfl, b04⟩
theorem dg_head (B n : Nat) (hB : 2 ≤ B) : (Dg.dg B n).getD 0 0 = n % B := by
 by_cases h : n = 0
 ·subst h
  rw [show Dg.dg B 0 = [] from (Dg.dg_nil_iff B 0 hB).2 rfl]
  simp
 ·have hs := Dg.small_dg B n hB
  have hv := Dg.vl_dg B n hB
  obtain ⟨x, xs, hx⟩ : ∃ x xs, Dg.dg B n = x :: xs := by
   rcases hd : Dg.dg B n with _ | ⟨x, xs⟩
   ·exact absurd ((Dg.dg_nil_iff B n hB).1 hd) h
   ·exact ⟨x, xs, rfl⟩
  rw [hx] at hs hv ⊢
  have h0 : x < B := by simpa using hs 0
  simp only [Dg.vl] at hv
  rw [← hv]
  simp [Nat.mod_eq_of_lt h0]
set_option maxHeartbeats 800000 in
theorem odd_any (v : Value) (n : Nat) (w : World) (h : Rd w .u32 v (Dg.dg 4294967296 n)) : Calls Tryz.prog 135 #[v] w fun z w' => z = .returned (.bool (decide (n % 2 = 1))) ∧ w' = w := by
 have hh := dg_head 4294967296 n (by omega)
 have hnl := Dg.dg_nil_iff 4294967296 n (by omega)
 obtain ⟨ao, ca, rfl⟩ := h.shape
 obtain ⟨h1, h2, h3⟩ := rd_open h
 have hm2 : n % 4294967296 % 2 = n % 2 := by omega
 obtain ⟨m, hm⟩ : ∃ m, n % 4294967296 = m := ⟨_, rfl⟩
 rw [hm] at hh hm2
 have hml : m < 4294967296 := by omega
 by_cases h0 : n = 0
 ·have hl : (Dg.dg 4294967296 n).length = 0 := by rw [List.length_eq_zero_iff]; exact hnl.2 h0
  rw [hl]
  have hd : decide (n % 2 = 1) = false := by rw [h0]; rfl
  rw [hd]
  clear h0 hh hm2 hm hml hnl h1 h2 h3 h hl hd
  go_enter Tryz.func135, Tryz.ntmps135
  go_wp2
  go_ret
  exact ⟨rfl, rfl⟩
 ·have hl : 0 < (Dg.dg 4294967296 n).length := by
   rcases Nat.eq_zero_or_pos (Dg.dg 4294967296 n).length with h4 | h4
   ·exact absurd (hnl.1 (List.length_eq_zero_iff.1 h4)) h0
   ·exact h4
  obtain ⟨b, off, rfl, hc⟩ := h3 hl
  have c0 := hc 0 hl
  rw [hh, Nat.add_zero] at c0
  obtain ⟨L, hL⟩ : ∃ L, (Dg.dg 4294967296 n).length = L := ⟨_, rfl⟩
  rw [hL] at hl h1 ⊢
  have hl0 : (0 : Int) < (L : Int) := by omega
  have ht : (m : Int).tmod 2 = ((m % 2 : Nat) : Int) := by
   rw [Int.tmod_eq_emod_of_nonneg (by omega)]
   omega
  have ht2 : (m : Int) % 2 = ((m % 2 : Nat) : Int) := by omega
  clear hc h3 hL hh hm hnl h
  by_cases hodd : n % 2 = 1
  ·have e1 : m % 2 = 1 := by omega
   rw [e1] at ht ht2
   go_enter Tryz.func135, Tryz.ntmps135
   go_wp2
   go_ret
   simp [hodd]
  ·have e1 : m % 2 = 0 := by omega
   rw [e1] at ht ht2
   go_enter Tryz.func135, Tryz.ntmps135
   go_wp2
   go_ret
   simp [hodd]
end Go.Proofs.YtiiphandhpilgaaGreatDoor

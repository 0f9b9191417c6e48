/-
  Contracts of the reference's RootOf (of squares), DRoot.
-/
import Derived.Test.YtmjhlflemfkflaaGreatDoorBv1
import Derived.Test.YtmjhlflemfkflaaGreatDoorBm6
import Derived.Test.YtmjhlflemfkflaaGreatDoorBo
namespace Go.Proofs.YtmjhlflemfkflaaGreatDoor
open Go.RowKit

open Classical in
/-- The number that lies at a value of the reference's. -/
noncomputable def numOf16 (w : World) (v : Value) : Nat := if h : ∃ n, Rd w .i64 v (Dg.dg 65536 n) then h.choose else 0

theorem numOf16_eq {w : World} {v : Value} {n : Nat} (h : Rd w .i64 v (Dg.dg 65536 n)) : numOf16 w v = n := by
  have he : ∃ n, Rd w .i64 v (Dg.dg 65536 n) := ⟨n, h⟩
  unfold numOf16
  rw [dif_pos he]
  exact Dg.dg_inj 65536 _ _ (by omega) (rd_same he.choose_spec h)

/-- Where the loop of RootOf stands. -/
def RootL (w : World) (a n : Nat) (rv : Value) (wr : World) : Prop :=
  ∃ x, Rd wr .i64 rv (Dg.dg 65536 x) ∧ Above a 2 x ∧ x ≤ 2 ^ n ∧ Below w.heap.size w wr

theorem mean2 (a x : Nat) : meanN a x 1 = (x + a / x) / 2 := by
  unfold meanN
  rw [Nat.one_mul, Nat.pow_one]

set_option maxRecDepth 100000 in
set_option maxHeartbeats 1600000 in
theorem refroot_any (va : Value) (a : Nat) (w : World) (ha : Rd w .i64 va (Dg.dg 65536 a)) (hla : (Dg.dg 65536 a).length ≤ 3000) (ha0 : 0 < a) :
    Calls Tryz.prog 31 #[va, .int .i64 2] w (RNum w (rootOf a 2)) := by
  have hb1 := (bitLen_spec a).1
  have hb2 : bitLen a ≤ 16 * 3000 := bitLen_of_len16 hla
  have HLN : Hid (∀ wr, Below w.heap.size w wr → Calls Tryz.prog 65 #[va] wr fun e w' => e = .returned (.int .i64 (bitLen a : Nat)) ∧ w' = wr) := fun wr b => by
    have := reflen_any va _ wr (ha.later b) (Dg.small_dg _ _ (by omega)) (Dg.norm_dg _ _ (by omega)) (by omega)
    rwa [Dg.vl_dg _ _ (by omega)] at this
  obtain ⟨bt, hbt⟩ : ∃ bt, bitLen a = bt := ⟨_, rfl⟩
  rw [hbt] at HLN hb1 hb2
  obtain ⟨n, hn⟩ : ∃ n, (bt + 1) / 2 = n := ⟨_, rfl⟩
  have hnl : n ≤ 24001 := by omega
  have HAB : Hid (Above a 2 (2 ^ n)) := above_start hb1 (by omega)
  have HP2 : Hid (∀ wr, Calls Tryz.prog 64 #[.int .i64 n] wr (RNum wr (2 ^ n))) := fun wr => pow2_any n (n / 16) (n % 16) wr (by omega) (by omega) (by omega)
  have HXL : Hid (∀ x, x ≤ 2 ^ n → (Dg.dg 65536 x).length ≤ 3000) := fun x hx => pow_len16 (k := n + 1) (Nat.lt_of_le_of_lt hx (Nat.pow_lt_pow_right (by omega) (by omega))) (by omega)
  have HIN : Hid (∀ v x wr, Below w.heap.size w wr → Rd wr .i64 v (Dg.dg 65536 x) → 0 < x → x ≤ 2 ^ n → Calls Tryz.prog 66 #[va, v] wr (RTwo wr (a / x) (a % x))) := fun v x wr b r h0 hx =>
    into_any va v _ _ wr (ha.later b) r (by omega) (by have := HXL.out x hx; omega) h0
  have HPL : Hid (∀ v u x wr, Rd wr .i64 v (Dg.dg 65536 x) → Rd wr .i64 u (Dg.dg 65536 (a / x)) → x ≤ 2 ^ n → Calls Tryz.prog 34 #[v, u] wr (RNum wr (x + a / x))) := fun v u x wr r1 r2 hx => by
    have l1 := HXL.out x hx
    have l2 := dg_len_mono 65536 (a / x) a (by omega) (Nat.div_le_self _ _)
    have := refplus_any v u _ _ wr r1 r2 (Dg.small_dg _ _ (by omega)) (Dg.small_dg _ _ (by omega)) (Dg.norm_dg _ _ (by omega)) (Dg.norm_dg _ _ (by omega)) (by omega) (by omega)
    rwa [Dg.vl_dg _ _ (by omega), Dg.vl_dg _ _ (by omega)] at this
  have HDN : Hid (∀ v x wr, Rd wr .i64 v (Dg.dg 65536 (x + a / x)) → x ≤ 2 ^ n → Calls Tryz.prog 67 #[v, .int .i64 1] wr (RNum wr (meanN a x 1))) := fun v x wr r hx => by
    have l1 := HXL.out x hx
    have l2 := dg_len_mono 65536 (a / x) a (by omega) (Nat.div_le_self _ _)
    have l3 := add_len16 x (a / x) 3000 l1 (by omega)
    have := down_any v _ 1 0 1 2 32768 wr r (Dg.small_dg _ _ (by omega)) (by omega) (by omega) (by omega) (by omega) (by rfl) (by rfl)
    rw [Dg.vl_dg _ _ (by omega), Nat.pow_one] at this
    rw [mean2]
    exact this
  have HCM : Hid (∀ v u x y wr, Rd wr .i64 v (Dg.dg 65536 y) → Rd wr .i64 u (Dg.dg 65536 x) → Calls Tryz.prog 33 #[v, u] wr fun e w' => e = .returned (.int .i64 (cmpI (y : Int) (x : Int))) ∧ Below wr.heap.size wr w') := fun v u x y wr r1 r2 => by
    have := refcmp_any v u _ _ wr r1 r2 (Dg.small_dg _ _ (by omega)) (Dg.small_dg _ _ (by omega)) (Dg.norm_dg _ _ (by omega)) (Dg.norm_dg _ _ (by omega))
    rwa [Dg.vl_dg _ _ (by omega), Dg.vl_dg _ _ (by omega)] at this
  have hdiv : ((bt : Int) + 1).tdiv 2 = (n : Int) := by
    rw [Int.tdiv_eq_ediv_of_nonneg (by omega)]
    omega
  have hdiv2 : ((bt : Int) + 1) / 2 = (n : Int) := by omega
  have HRT : Hid (∀ x, IsRoot a 2 x → rootOf a 2 = x) := fun x h => rootOf_eq h
  obtain ⟨R, hR⟩ : ∃ R, rootOf a 2 = R := ⟨_, rfl⟩
  rw [hR] at HRT ⊢
  have hm0 : ¬(Dg.dg 65536 a).length = 0 := by rw [List.length_eq_zero_iff, Dg.dg_nil_iff _ _ (by omega)]; omega
  obtain ⟨ao, ca, rfl⟩ := ha.shape
  obtain ⟨ma, hma⟩ : ∃ m, (Dg.dg 65536 a).length = m := ⟨_, rfl⟩
  rw [hma] at hm0 HLN HIN ⊢
  have hml : (0 : Int) < (ma : Int) := by omega
  have HA0 : Hid (0 < a) := ha0
  clear ha hla hma hbt hn hb1 ha0 hm0 HXL hR
  go_enter Tryz.func31, Tryz.ntmps31
  go_wp2_with fail
  refine (HLN.out _ (Below.refl _ _)).mono ?_
  rintro e w1 ⟨rfl, rfl⟩
  clear HLN
  go_wp2_with fail
  refine (HP2.out _).mono ?_
  rintro e w2 ⟨v2, rfl, r2, b2⟩
  clear HP2
  go_wp2
  have L0 : RootL w1 a n v2 w2 := ⟨2 ^ n, r2, HAB.out, Nat.le_refl _, b2⟩
  go_loopw [5] (RootL w1 a n) (fun rv wr => numOf16 wr rv)
  case atStart => exact L0
  case round =>
    clear L0 r2 b2 HAB
    obtain ⟨x, rx, hab, hxl, bel⟩ := hrel
    have hx := above_pos hab HA0.out
    have hst := above_step (a := a) (m := 1) hx
    have HEN : Hid (x ≤ meanN a x 1 → IsRoot a 2 x) := fun h => root_end hab hx h
    have H1 : Hid _ := HIN.out _ x _ bel rx hx hxl
    have H2 : Hid (∀ v u wr, Rd wr .i64 v (Dg.dg 65536 x) → Rd wr .i64 u (Dg.dg 65536 (a / x)) → Calls Tryz.prog 34 #[v, u] wr (RNum wr (x + a / x))) := fun v u wr r1 r2 => HPL.out v u x wr r1 r2 hxl
    have H3 : Hid (∀ v wr, Rd wr .i64 v (Dg.dg 65536 (x + a / x)) → Calls Tryz.prog 67 #[v, .int .i64 1] wr (RNum wr (meanN a x 1))) := fun v wr r => HDN.out v x wr r hxl
    clear HIN HPL HDN
    obtain ⟨y, hy⟩ : ∃ y, meanN a x 1 = y := ⟨_, rfl⟩
    rw [hy] at H3 HEN hst
    have H4 : Hid (∀ v u wr, Rd wr .i64 v (Dg.dg 65536 y) → Rd wr .i64 u (Dg.dg 65536 x) → Calls Tryz.prog 33 #[v, u] wr fun e w' => e = .returned (.int .i64 (cmpI (y : Int) (x : Int))) ∧ Below wr.heap.size wr w') := fun v u wr r1 r2 => HCM.out v u x y wr r1 r2
    clear HCM hy
    obtain ⟨s, hs⟩ : ∃ s, x + a / x = s := ⟨_, rfl⟩
    obtain ⟨q, hq⟩ : ∃ q, a / x = q := ⟨_, rfl⟩
    rw [hs, hq] at H2
    rw [hs] at H3
    rw [hq] at H1
    clear hs hq
    go_wp2_with fail
    refine Calls.mono H1.out ?_
    rintro e w3 ⟨vq, vr, rfl, rq, -, b3⟩
    have b03 := below_trans bel b3
    have rx3 := rx.later b3
    clear H1 b3
    go_wp2_with fail
    refine (H2.out _ _ _ rx3 rq).mono ?_
    rintro e w4 ⟨v4, rfl, r4, b4⟩
    have b04 := below_trans b03 b4
    have rx4 := rx3.later b4
    clear H2 b4 rq rx3 b03
    go_wp2_with fail
    refine (H3.out _ _ r4).mono ?_
    rintro e w5 ⟨v5, rfl, r5, b5⟩
    have b05 := below_trans b04 b5
    have rx5 := rx4.later b5
    clear H3 b5 r4 rx4 b04
    go_wp2_with fail
    refine (H4.out _ _ _ r5 rx5).mono ?_
    rintro e w6 ⟨rfl, b6⟩
    have b06 := below_trans b05 b6
    have rx6 := rx5.later b6
    have r6 := r5.later b6
    clear H4 b6 r5 rx5 b05
    by_cases hlt : y < x
    · rw [cmpI_lt (by omega)]
      have e1 := numOf16_eq rx
      have e2 := numOf16_eq r6
      go_wp2
      go_roundw
      case rel => exact ⟨y, r6, hst, Nat.le_trans (Nat.le_of_lt hlt) hxl, b06⟩
      case measure => rw [e1, e2]; exact hlt
    · have hge := cmpI_nonneg (a := (y : Int)) (b := (x : Int)) (by omega)
      obtain ⟨r, hr⟩ : ∃ r, cmpI (y : Int) (x : Int) = r := ⟨_, rfl⟩
      rw [hr] at hge ⊢
      have hx2 := HRT.out x (HEN.out (by omega))
      subst hx2
      go_wp2
      go_ret
      exact ⟨_, rfl, rx6, b06⟩

set_option maxRecDepth 100000 in
set_option maxHeartbeats 3200000 in
theorem refdroot_any (v : Value) (a : Trip) (B : Nat) (up : Bool) (w : World) (hv : Rv w v a) (hLa : (Dg.dg 65536 a.n).length ≤ 2400)
    (ha1 : -20000 ≤ a.e) (ha2 : a.e ≤ 58400) (hB1 : 1 ≤ B) (hB2 : B ≤ 4096) :
    Calls Tryz.prog 9 #[v, .int .i64 B, .bool up] w (RDRes w (dRootT a B up)) := by
  obtain ⟨s0, rfl, ra⟩ := hv
  obtain ⟨sa, an, ae⟩ := a
  have hev := rootN_even ⟨sa, an, ae⟩ B
  have hdn : rootN ⟨sa, an, ae⟩ B = if (ae + ((2 * B + 8 : Nat) : Int)) % 2 = 0 then 2 * B + 8 else 2 * B + 9 := rfl
  simp only at ra hLa ha1 ha2 hev ⊢
  unfold dRootT refRootT
  simp only
  obtain ⟨nn, hnn⟩ : ∃ nn, rootN ⟨sa, an, ae⟩ B = nn := ⟨_, rfl⟩
  rw [hnn] at hev hdn ⊢
  have hnl : nn ≤ 8201 := by rw [hdn]; split <;> omega
  have HUP : Hid (∀ w1, Below w.heap.size w w1 → Calls Tryz.prog 30 #[s0, .int .i64 nn] w1 (RNum w1 (an * 2 ^ nn))) := fun w1 b1 => by
    have := up_any s0 _ nn w1 (ra.later b1) (Dg.small_dg _ _ (by omega)) (by omega) (by omega)
    rwa [Dg.vl_dg _ _ (by omega)] at this
  have lx := up_len16 an nn 2400 513 hLa (by omega)
  have HRO : Hid (an ≠ 0 → ∀ v1 w1, Rd w1 .i64 v1 (Dg.dg 65536 (an * 2 ^ nn)) → Calls Tryz.prog 31 #[v1, .int .i64 2] w1 (RNum w1 (rootOf (an * 2 ^ nn) 2))) := fun h0 v1 w1 r => refroot_any v1 _ w1 r (by omega) (Nat.mul_pos (Nat.pos_of_ne_zero h0) (Nat.pow_pos (by omega)))
  have hrs := rootOf_is (an * 2 ^ nn)
  have lq : (Dg.dg 65536 (rootOf (an * 2 ^ nn) 2)).length ≤ 2913 := Nat.le_trans (dg_len_mono 65536 _ _ (by omega) (root_le (by omega) hrs)) (by omega)
  obtain ⟨X, hX⟩ : ∃ X, an * 2 ^ nn = X := ⟨_, rfl⟩
  rw [hX] at HUP HRO lq lx ⊢
  obtain ⟨Q, hQ⟩ : ∃ Q, rootOf X 2 = Q := ⟨_, rfl⟩
  rw [hQ] at HRO lq ⊢
  have HTI : Hid (∀ v1 v2 w1, Rd w1 .i64 v1 (Dg.dg 65536 Q) → Rd w1 .i64 v2 [4] → Calls Tryz.prog 32 #[v1, v2] w1 (RNum w1 (Q * 4))) := fun v1 v2 w1 r1 r2 => by
    have := reftimes_any v1 v2 _ _ w1 r1 r2 (Dg.small_dg _ _ (by omega)) (Dg.small_cons.2 ⟨by omega, Dg.small_nil _ (by omega)⟩) (by omega) (by simp)
    rwa [Dg.vl_dg _ _ (by omega), show Dg.vl 65536 [4] = 4 from by simp [Dg.vl]] at this
  have HSQ : Hid (∀ v1 w1, Rd w1 .i64 v1 (Dg.dg 65536 Q) → Calls Tryz.prog 32 #[v1, v1] w1 (RNum w1 (Q * Q))) := fun v1 w1 r1 => by
    have := reftimes_any v1 v1 _ _ w1 r1 r1 (Dg.small_dg _ _ (by omega)) (Dg.small_dg _ _ (by omega)) (by omega) (by omega)
    rwa [Dg.vl_dg _ _ (by omega)] at this
  have HCM : Hid (∀ v u wr, Rd wr .i64 v (Dg.dg 65536 (Q * Q)) → Rd wr .i64 u (Dg.dg 65536 X) → Calls Tryz.prog 33 #[v, u] wr fun e w' => e = .returned (.int .i64 (cmpI ((Q * Q : Nat) : Int) (X : Int))) ∧ Below wr.heap.size wr w') := fun v u wr r1 r2 => by
    have := refcmp_any v u _ _ wr r1 r2 (Dg.small_dg _ _ (by omega)) (Dg.small_dg _ _ (by omega)) (Dg.norm_dg _ _ (by omega)) (Dg.norm_dg _ _ (by omega))
    rwa [Dg.vl_dg _ _ (by omega), Dg.vl_dg _ _ (by omega)] at this
  have lq4 : (Dg.dg 65536 (Q * 4)).length ≤ 5201 := Nat.le_trans (mul_len16 Q 4 5200 1 (by omega) (by decide)) (by omega)
  have HPL : Hid (∀ v1 v2 w1, Rd w1 .i64 v1 (Dg.dg 65536 (Q * 4)) → Rd w1 .i64 v2 [1] → Calls Tryz.prog 34 #[v1, v2] w1 (RNum w1 (Q * 4 + 1))) := fun v1 v2 w1 r1 r2 => by
    have := refplus_any v1 v2 _ _ w1 r1 r2 (Dg.small_dg _ _ (by omega)) (Dg.small_cons.2 ⟨by omega, Dg.small_nil _ (by omega)⟩) (Dg.norm_dg _ _ (by omega)) (by intro _; decide) (by omega) (by simp)
    rwa [Dg.vl_dg _ _ (by omega), show Dg.vl 65536 [1] = 1 from by simp [Dg.vl]] at this
  have lq5 : (Dg.dg 65536 (Q * 4 + 1)).length ≤ 5202 := add_len16 (Q * 4) 1 5201 lq4 (by decide)
  obtain ⟨N0, hN0⟩ : ∃ N, Q * 4 + (if Q * Q = X then 0 else 1) = N := ⟨_, rfl⟩
  have lN : (Dg.dg 65536 N0).length ≤ 5202 := by
    rw [← hN0]
    split
    · exact Nat.le_trans lq4 (by omega)
    · exact lq5
  obtain ⟨E, hE⟩ : ∃ E, (ae - (nn : Int)) / 2 - 2 = E := ⟨_, rfl⟩
  have htz := tz_fits16 N0 5202 lN
  have HBR : Hid (∀ v w1, Rv w1 v ⟨false, N0, E⟩ → Calls Tryz.prog 36 #[v] w1 (RDRes w1 (bare ⟨false, N0, E⟩))) := fun v w1 h => bared_any v _ w1 h (by show (Dg.dg 65536 N0).length ≤ 100000; omega) (by show -1000000 ≤ E; omega) (by show E ≤ 1000000; omega)
  have HDC : Hid (∀ v w1, Rv w1 v (bare ⟨false, N0, E⟩) → Calls Tryz.prog 35 #[v, .int .i64 B, .bool up] w1 (RDRes w1 (dcutT (bare ⟨false, N0, E⟩) B up))) := fun v w1 h => by
    refine refdcut_any v _ B up w1 h (Nat.le_trans (dg_len_mono 65536 _ _ (by omega) (bare_n_le3 _)) (by show (Dg.dg 65536 N0).length ≤ 30000; omega)) ?_ ?_ (by omega) (by omega)
    · unfold bare
      split
      · show -200000 ≤ (0 : Int); omega
      · show -200000 ≤ E + (tz N0 : Int); omega
    · unfold bare
      split
      · show (0 : Int) ≤ 200000; omega
      · show E + (tz N0 : Int) ≤ 200000; omega
  rw [hN0, hE]
  obtain ⟨⟨bs, b_n, b_e⟩, hbt⟩ : ∃ bt, bare ⟨false, N0, E⟩ = bt := ⟨_, rfl⟩
  rw [hbt] at HBR HDC ⊢
  obtain ⟨⟨rs, rn, re⟩, hrt⟩ : ∃ rt, dcutT ⟨bs, b_n, b_e⟩ B up = rt := ⟨_, rfl⟩
  rw [hrt] at HDC ⊢
  have hnl0 := Dg.dg_nil_iff 65536 an (by omega)
  obtain ⟨ao, ca, rfl⟩ := ra.shape
  obtain ⟨ma, hma⟩ : ∃ m, (Dg.dg 65536 an).length = m := ⟨_, rfl⟩
  have hz : ma = 0 ↔ an = 0 := by rw [← hma, List.length_eq_zero_iff]; exact hnl0
  rw [hma] at HUP ⊢
  obtain ⟨cc, hcc⟩ : ∃ c, cmpI ((Q * Q : Nat) : Int) (X : Int) = c := ⟨_, rfl⟩
  have hc0 : cc = 0 ↔ Q * Q = X := by
    rw [← hcc]
    unfold cmpI
    split
    · omega
    · split <;> omega
  rw [hcc] at HCM
  clear ra hLa hbt hrt hnl0 hma hQ hX lx lq htz hrs hcc hnn
  by_cases h0 : an = 0
  · rw [if_pos h0]
    have hm0 := hz.2 h0
    subst hm0
    go_enter Tryz.func9, Tryz.ntmps9
    go_wp2
    go_returns
    exact ⟨_, rfl, rd_nil _ _, below_trans (below_alloc _ _) (below_alloc _ _)⟩
  · rw [if_neg h0]
    have hm0 : ((ma : Int) == 0) = false := by
      have : ¬ma = 0 := fun e => h0 (hz.1 e)
      simp; exact this
    replace HRO : Hid _ := HRO.out h0
    clear hz h0
    have la := (loc_new w (.bool sa) (.slice ao ma ca) (.int .i64 ae) 34).later (below_alloc _ (.cells #[.bool false, .slice none 0 0, .int .i64 0] 34))
    have lc := loc_new (w.alloc (.cells #[.bool sa, .slice ao ma ca, .int .i64 ae] 34)) (.bool false) (.slice none 0 0) (.int .i64 0) 34
    have zc := zb_new (w.alloc (.cells #[.bool sa, .slice ao ma ca, .int .i64 ae] 34)) 34
    have b01 := below_trans (below_alloc w (.cells #[.bool sa, .slice ao ma ca, .int .i64 ae] 34)) (below_alloc _ (.cells #[.bool false, .slice none 0 0, .int .i64 0] 34))
    simp only [World.size_alloc] at lc zc
    have hq1 : (ae - (nn : Int)).tdiv 2 = E + 2 := by
      obtain ⟨k, hk⟩ : ∃ k : Int, ae - (nn : Int) = 2 * k := ⟨(ae - (nn : Int)) / 2, by omega⟩
      rw [hk, Int.mul_tdiv_cancel_left k (by omega)]
      omega
    by_cases hpar : (ae + ((2 * B + 8 : Nat) : Int)) % 2 = 0
    · rw [if_pos hpar] at hdn
      have hnI : (nn : Int) = 2 * (B : Int) + 8 := by omega
      have ht : (ae + (2 * (B : Int) + 8)).tmod 2 = 0 := by
        obtain ⟨k, hk⟩ : ∃ k : Int, ae + (2 * (B : Int) + 8) = 2 * k := ⟨(ae + (2 * (B : Int) + 8)) / 2, by omega⟩
        rw [hk]
        exact Int.mul_tmod_right 2 k
      rw [hnI] at HUP hq1
      have hw1 : IntKind.i64.wrap (ae + (2 * (B : Int) + 8)) = ae + (2 * (B : Int) + 8) := IntWalk.i64_in _ ⟨by omega, by omega⟩
      have e1 : IntKind.i64.wrap (ae - (2 * (B : Int) + 8)) = ae - (2 * (B : Int) + 8) := IntWalk.i64_in _ ⟨by omega, by omega⟩
      have e2 : IntKind.i64.wrap (E + 2) = E + 2 := IntWalk.i64_in _ ⟨by omega, by omega⟩
      have e3 : IntKind.i64.wrap E = E := IntWalk.i64_in _ ⟨by omega, by omega⟩
      have e4 : E + 2 - 2 = E := by omega
      clear hpar hev hE hdn hnI
      go_enter Tryz.func9, Tryz.ntmps9
      go_wp2_with fail
      refine (HUP.out _ b01).mono ?_
      rintro z w1 ⟨v1, rfl, r1, b1⟩
      replace la := la.later b1
      replace lc := lc.later b1
      replace zc := zc.later b1
      have b02 := below_trans b01 b1
      clear b01 b1 HUP
      go_wp2_with fail
      refine (HRO.out _ _ r1).mono ?_
      rintro z w4 ⟨vq, rfl, rq, b4⟩
      have la4 := la.later b4
      have lc4 := lc.later b4
      have zc4 := zc.later b4
      have rx := r1.later b4
      have b0d := below_trans b02 b4
      clear la lc zc r1 b02 b4 HRO
      obtain ⟨qo, qc, hq⟩ := rq.shape
      subst hq
      have bS : Below w4.heap.size w4 (w4.alloc (.cells #[.int .i64 4] 3)).drew := (below_alloc w4 (.cells #[.int .i64 4] 3)).drew
      have bA : Below w4.heap.size w4 (w4.alloc (.cells #[.bool false, .slice none 0 0, .int .i64 0] 34)).drew := (below_alloc w4 (.cells #[.bool false, .slice none 0 0, .int .i64 0] 34)).drew
      have bAS : Below w4.heap.size w4 ((w4.alloc (.cells #[.bool false, .slice none 0 0, .int .i64 0] 34)).alloc (.cells #[.int .i64 4] 3)).drew := (below_trans (below_alloc w4 (.cells #[.bool false, .slice none 0 0, .int .i64 0] 34)) (below_alloc _ (.cells #[.int .i64 4] 3))).drew
      have bSA : Below w4.heap.size w4 ((w4.alloc (.cells #[.int .i64 4] 3)).alloc (.cells #[.bool false, .slice none 0 0, .int .i64 0] 34)).drew := (below_trans (below_alloc w4 (.cells #[.int .i64 4] 3)) (below_alloc _ (.cells #[.bool false, .slice none 0 0, .int .i64 0] 34))).drew
      have rS : Rd (w4.alloc (.cells #[.int .i64 4] 3)).drew .i64 (.slice (some ⟨w4.heap.size, 0, none⟩) 1 1) [4] := (rd_new (w := w4) (k := .i64) (e := 3) [4] #[.int .i64 ((4 : Nat) : Int)] rfl (by unfold maxLen; simp)).later ((Below.refl _ _).drew)
      have rSA : Rd ((w4.alloc (.cells #[.int .i64 4] 3)).alloc (.cells #[.bool false, .slice none 0 0, .int .i64 0] 34)).drew .i64 (.slice (some ⟨w4.heap.size, 0, none⟩) 1 1) [4] := (rd_new (w := w4) (k := .i64) (e := 3) [4] #[.int .i64 ((4 : Nat) : Int)] rfl (by unfold maxLen; simp)).later ((below_alloc _ (.cells #[.bool false, .slice none 0 0, .int .i64 0] 34)).drew)
      have rAS : Rd ((w4.alloc (.cells #[.bool false, .slice none 0 0, .int .i64 0] 34)).alloc (.cells #[.int .i64 4] 3)).drew .i64 (.slice (some ⟨w4.heap.size + 1, 0, none⟩) 1 1) [4] := by
        have h1 := rd_new (w := w4.alloc (.cells #[.bool false, .slice none 0 0, .int .i64 0] 34)) (k := .i64) (e := 3) [4] #[.int .i64 ((4 : Nat) : Int)] rfl (by unfold maxLen; simp)
        rw [World.size_alloc] at h1
        exact h1.later ((Below.refl _ _).drew)
      have oAS := (((loc_new w4 (.bool false) (.slice none 0 0) (.int .i64 0) 34).later (below_alloc _ (.cells #[.int .i64 4] 3))).later ((Below.refl _ _).drew))
      have oSA := ((loc_new (w4.alloc (.cells #[.int .i64 4] 3)) (.bool false) (.slice none 0 0) (.int .i64 0) 34).later ((Below.refl _ _).drew))
      have yAS := (((zb_new w4 34).later (below_alloc _ (.cells #[.int .i64 4] 3))).later ((Below.refl _ _).drew))
      have ySA := ((zb_new (w4.alloc (.cells #[.int .i64 4] 3)) 34).later ((Below.refl _ _).drew))
      simp only [World.size_alloc] at oSA ySA
      have bD : Below w4.heap.size w4 w4.drew := (Below.refl _ _).drew
      have hs4 : w.heap.size + 1 < w4.heap.size := lc4.1
      have m1 : w4.heap.size ≠ w.heap.size := by omega
      have m3 : w4.heap.size + 1 ≠ w.heap.size := by omega
      obtain ⟨-, ⟨s0, s1, s2⟩, -⟩ := la4.later bD
      obtain ⟨-, ⟨p0, p1, p2⟩, -⟩ := la4.later bS
      obtain ⟨-, ⟨q0, q1, q2⟩, -⟩ := la4.later bA
      obtain ⟨-, ⟨j0, j1, j2⟩, -⟩ := la4.later bAS
      obtain ⟨-, ⟨k0, k1, k2⟩, -⟩ := la4.later bSA
      go_wp2_with fail
      go_region_held3 (fun wq => wq.cell? ⟨w.heap.size, 0, none⟩ = some (.bool sa) ∧ wq.cell? ⟨w.heap.size, 1, none⟩ = some (.slice ao ma ca) ∧ wq.cell? ⟨w.heap.size, 2, none⟩ = some (.int .i64 ae)) (go_keep) (first
        | (go_at_call 32; (with_reducible (refine (HTI.out _ _ _ (rq.later bAS) rAS).mono ?_)); rintro z w5 ⟨v5, rfl, r5, b5⟩; have la5 := (la4.later bAS).later b5; have lc5 := (lc4.later bAS).later b5; have zc5 := (zc4.later bAS).later b5; have rq5 := (rq.later bAS).later b5; have rx5 := (rx.later bAS).later b5; have b05 := below_trans (below_trans b0d bAS) b5; obtain ⟨mo, mc, hm⟩ := r5.shape; subst hm; obtain ⟨-, ⟨t0, t1, t2⟩, -⟩ := id la5; have o5 := oAS.later b5; have y5 := yAS.later b5; obtain ⟨ho, ⟨i0, i1, i2⟩, f0, f1, f2⟩ := id o5)
        | (go_at_call 32; (with_reducible (refine (HTI.out _ _ _ (rq.later bSA) rSA).mono ?_)); rintro z w5 ⟨v5, rfl, r5, b5⟩; have la5 := (la4.later bSA).later b5; have lc5 := (lc4.later bSA).later b5; have zc5 := (zc4.later bSA).later b5; have rq5 := (rq.later bSA).later b5; have rx5 := (rx.later bSA).later b5; have b05 := below_trans (below_trans b0d bSA) b5; obtain ⟨mo, mc, hm⟩ := r5.shape; subst hm; obtain ⟨-, ⟨t0, t1, t2⟩, -⟩ := id la5; have o5 := oSA.later b5; have y5 := ySA.later b5; obtain ⟨ho, ⟨i0, i1, i2⟩, f0, f1, f2⟩ := id o5)
        | (go_at_call 32; (with_reducible (refine (HTI.out _ _ _ (rq.later bS) rS).mono ?_)); rintro z w5 ⟨v5, rfl, r5, b5⟩; have la5 := (la4.later bS).later b5; have lc5 := (lc4.later bS).later b5; have zc5 := (zc4.later bS).later b5; have rq5 := (rq.later bS).later b5; have rx5 := (rx.later bS).later b5; have b05 := below_trans (below_trans b0d bS) b5; obtain ⟨mo, mc, hm⟩ := r5.shape; subst hm; obtain ⟨-, ⟨t0, t1, t2⟩, -⟩ := id la5))
      · have ba := below_alloc w5 (.cells #[.bool false, .slice mo (Dg.dg 65536 (Q * 4)).length mc, .int .i64 E] 34)
        have o6 := loc_new w5 (.bool false) (.slice mo (Dg.dg 65536 (Q * 4)).length mc) (.int .i64 E) 34
        have lc6 := lc5.later ba
        have zc6 := zc5.later ba
        have rq6 := rq5.later ba
        have rx6 := rx5.later ba
        have r6 := r5.later ba
        have b06 := below_trans b05 ba
        have hP : w5.heap.size ≠ w.heap.size + 1 := by have := lc5.1; omega
        have hPl : w.heap.size ≤ w5.heap.size := by have := lc5.1; omega
        clear la5 lc5 zc5 rq5 rx5 r5 b05 b5 t0 t1 t2 s0 s1 s2 p0 p1 p2 q0 q1 q2 j0 j1 j2 k0 k1 k2 la4 lc4 zc4 rq rx b0d bS bA bAS bSA rS rSA rAS oAS oSA yAS ySA bD hs4 m1 m3 e1 e2 e3 e4 HTI
        generalize (w5.alloc (.cells #[.bool false, .slice mo (Dg.dg 65536 (Q * 4)).length mc, .int .i64 E] 34)) = W6 at o6 lc6 zc6 rq6 rx6 r6 b06 ⊢
        generalize w5.heap.size = P at o6 hP hPl ⊢
        go_goals
        go_wp2_with fail
        refine (HSQ.out _ W6 rq6).mono ?_
        rintro z w7 ⟨v7, rfl, r7, b7⟩
        have o7 := o6.later b7
        have lc7 := lc6.later b7
        have zc7 := zc6.later b7
        have rx7 := rx6.later b7
        have rm7 := r6.later b7
        have b07 := below_trans b06 b7
        clear o6 lc6 zc6 rq6 rx6 r6 b06 b7 HSQ
        go_wp2_with fail
        refine (HCM.out _ _ w7 r7 rx7).mono ?_
        rintro z W8 ⟨rfl, b8⟩
        have o8 := o7.later b8
        have lc8 := lc7.later b8
        have zc8 := zc7.later b8
        have r8 := rm7.later b8
        have b08 := below_trans b07 b8
        clear o7 lc7 zc7 rx7 rm7 r7 b07 b8 HCM
        obtain ⟨-, ⟨c0, c1, c2⟩, -⟩ := id o8
        by_cases hM0 : cc = 0
        · have h4 : Q * 4 = N0 := by rw [← hN0, if_pos (hc0.1 hM0)]; rfl
          rw [h4] at o8 r8 c1 ⊢
          subst hM0
          clear hN0 hc0 h4 HPL
          go_goals
          go_wp2_with fail
          refine (HBR.out _ W8 ⟨_, rfl, r8⟩).mono ?_
          rintro z w9 ⟨v9, rfl, r9, b9⟩
          have lc9 := lc8.later b9
          have zc9 := zc8.later b9
          have b09 := below_trans b08 b9
          clear lc8 zc8 r8 b08 b9 HBR
          go_wp2_with fail
          refine (HDC.out _ w9 ⟨_, rfl, r9⟩).mono ?_
          rintro z wa ⟨va, rfl, ra, ba⟩
          have lca := lc9.later ba
          have zca := zc9.later ba
          have b0a := below_trans b09 ba
          clear lc9 zc9 r9 b09 ba HDC
          obtain ⟨to, tc, hvt⟩ := ra.shape
          subst hvt
          obtain ⟨hl9, ⟨d0, d1, d2⟩, z0, z1, z2⟩ := id lca
          go_wp2
          obtain ⟨-, ⟨g0, g1, g2⟩, -⟩ := loc_set lca (.bool rs) (.slice to (Dg.dg 65536 rn).length tc) (.int .i64 re)
          have rx := zca.rd ra (Dg.norm_dg _ _ (by omega)) (.bool rs) (.slice to (Dg.dg 65536 rn).length tc) (.int .i64 re)
          have bx := below_set3 b0a (show w.heap.size ≤ w.heap.size + 1 by omega) (.bool rs) (.slice to (Dg.dg 65536 rn).length tc) (.int .i64 re)
          refine bodyPost_ret (v := .agg #[.bool rs, .slice to (Dg.dg 65536 rn).length tc, .int .i64 re]) (by simp [results, Tryz.results9, go_sem, g0, g1, g2]) rfl ?_
          exact ⟨_, rfl, rx, bx⟩
        · have h4 : Q * 4 + 1 = N0 := by rw [← hN0, if_neg (fun h => hM0 (hc0.2 h))]
          rw [h4] at HPL
          have hl0 : (cc == 0) = false := by simp; exact hM0
          clear hN0 hc0 hM0 h4
          have ba := below_alloc W8 (.cells #[.int .i64 ((1 : Nat) : Int)] 3)
          have rn1 := rd_new (w := W8) (k := .i64) (e := 3) [1] #[.int .i64 ((1 : Nat) : Int)] rfl (by unfold maxLen; simp)
          go_goals
          go_wp2_with fail
          refine (HPL.out _ _ _ (r8.later ba) rn1).mono ?_
          rintro z x7 ⟨y7, rfl, ry7, by7⟩
          obtain ⟨no, nc, hn⟩ := ry7.shape
          subst hn
          have o7 := (o8.later ba).later by7
          have lcx := (lc8.later ba).later by7
          have zcx := (zc8.later ba).later by7
          have bx7 := below_trans (below_trans b08 ba) by7
          obtain ⟨ho, ⟨i0, i1, i2⟩, f0, f1, f2⟩ := id o7
          have o9 := loc_set1 o7 (.slice no (Dg.dg 65536 N0).length nc)
          have lc9 := lcx.apart1 hP (.slice no (Dg.dg 65536 N0).length nc)
          have zc9 := zcx.off (grown_set x7 P 1 (.slice no (Dg.dg 65536 N0).length nc)) hP.symm
          have r9 := rd_set1 ry7 i1 (.slice no (Dg.dg 65536 N0).length nc)
          have b09 := bx7.setCell (p := ⟨P, 1, none⟩) hPl (.slice no (Dg.dg 65536 N0).length nc)
          clear o8 lc8 zc8 r8 b08 ba rn1 ry7 by7 o7 lcx zcx bx7 c0 c1 c2 HPL
          obtain ⟨-, ⟨c0, c1, c2⟩, -⟩ := id o9
          go_wp2_with fail
          generalize (x7.setCell ⟨P, 1, none⟩ (.slice no (Dg.dg 65536 N0).length nc)) = W8 at o9 lc9 zc9 r9 b09 c0 c1 c2 ⊢
          have lc8 := lc9
          have zc8 := zc9
          have r8 := r9
          have b08 := b09
          clear lc9 zc9 r9 b09
          refine (HBR.out _ W8 ⟨_, rfl, r8⟩).mono ?_
          rintro z w9 ⟨v9, rfl, r9, b9⟩
          have lc9 := lc8.later b9
          have zc9 := zc8.later b9
          have b09 := below_trans b08 b9
          clear lc8 zc8 r8 b08 b9 HBR
          go_wp2_with fail
          refine (HDC.out _ w9 ⟨_, rfl, r9⟩).mono ?_
          rintro z wa ⟨va, rfl, ra, ba⟩
          have lca := lc9.later ba
          have zca := zc9.later ba
          have b0a := below_trans b09 ba
          clear lc9 zc9 r9 b09 ba HDC
          obtain ⟨to, tc, hvt⟩ := ra.shape
          subst hvt
          obtain ⟨hl9, ⟨d0, d1, d2⟩, z0, z1, z2⟩ := id lca
          go_wp2
          obtain ⟨-, ⟨g0, g1, g2⟩, -⟩ := loc_set lca (.bool rs) (.slice to (Dg.dg 65536 rn).length tc) (.int .i64 re)
          have rx := zca.rd ra (Dg.norm_dg _ _ (by omega)) (.bool rs) (.slice to (Dg.dg 65536 rn).length tc) (.int .i64 re)
          have bx := below_set3 b0a (show w.heap.size ≤ w.heap.size + 1 by omega) (.bool rs) (.slice to (Dg.dg 65536 rn).length tc) (.int .i64 re)
          refine bodyPost_ret (v := .agg #[.bool rs, .slice to (Dg.dg 65536 rn).length tc, .int .i64 re]) (by simp [results, Tryz.results9, go_sem, g0, g1, g2]) rfl ?_
          exact ⟨_, rfl, rx, bx⟩
      · have o6 := loc_set o5 (.bool false) (.slice mo (Dg.dg 65536 (Q * 4)).length mc) (.int .i64 E)
        have hP : w4.heap.size + 1 ≠ w.heap.size + 1 := by omega
        have hPl : w.heap.size ≤ w4.heap.size + 1 := by omega
        have lc6 := lc5.apart (c := w4.heap.size + 1) hP (.bool false) (.slice mo (Dg.dg 65536 (Q * 4)).length mc) (.int .i64 E)
        have zc6 := zc5.off3 hP.symm (.bool false) (.slice mo (Dg.dg 65536 (Q * 4)).length mc) (.int .i64 E)
        have rq6 := y5.rd rq5 (Dg.norm_dg _ _ (by omega)) (.bool false) (.slice mo (Dg.dg 65536 (Q * 4)).length mc) (.int .i64 E)
        have rx6 := y5.rd rx5 (Dg.norm_dg _ _ (by omega)) (.bool false) (.slice mo (Dg.dg 65536 (Q * 4)).length mc) (.int .i64 E)
        have r6 := y5.rd r5 (Dg.norm_dg _ _ (by omega)) (.bool false) (.slice mo (Dg.dg 65536 (Q * 4)).length mc) (.int .i64 E)
        have b06 := below_set3 b05 hPl (.bool false) (.slice mo (Dg.dg 65536 (Q * 4)).length mc) (.int .i64 E)
        clear la5 lc5 zc5 rq5 rx5 r5 b05 b5 t0 t1 t2 s0 s1 s2 p0 p1 p2 q0 q1 q2 j0 j1 j2 k0 k1 k2 la4 lc4 zc4 rq rx b0d bS bA bAS bSA rS rSA rAS oAS oSA yAS ySA bD hs4 m1 m3 e1 e2 e3 e4 HTI o5 y5 ho i0 i1 i2 f0 f1 f2
        generalize (((w5.setCell ⟨w4.heap.size + 1, 0, none⟩ (.bool false)).setCell ⟨w4.heap.size + 1, 1, none⟩ (.slice mo (Dg.dg 65536 (Q * 4)).length mc)).setCell ⟨w4.heap.size + 1, 2, none⟩ (.int .i64 E)) = W6 at o6 lc6 zc6 rq6 rx6 r6 b06 ⊢
        generalize w4.heap.size + 1 = P at o6 hP hPl ⊢
        go_goals
        go_wp2_with fail
        refine (HSQ.out _ W6 rq6).mono ?_
        rintro z w7 ⟨v7, rfl, r7, b7⟩
        have o7 := o6.later b7
        have lc7 := lc6.later b7
        have zc7 := zc6.later b7
        have rx7 := rx6.later b7
        have rm7 := r6.later b7
        have b07 := below_trans b06 b7
        clear o6 lc6 zc6 rq6 rx6 r6 b06 b7 HSQ
        go_wp2_with fail
        refine (HCM.out _ _ w7 r7 rx7).mono ?_
        rintro z W8 ⟨rfl, b8⟩
        have o8 := o7.later b8
        have lc8 := lc7.later b8
        have zc8 := zc7.later b8
        have r8 := rm7.later b8
        have b08 := below_trans b07 b8
        clear o7 lc7 zc7 rx7 rm7 r7 b07 b8 HCM
        obtain ⟨-, ⟨c0, c1, c2⟩, -⟩ := id o8
        by_cases hM0 : cc = 0
        · have h4 : Q * 4 = N0 := by rw [← hN0, if_pos (hc0.1 hM0)]; rfl
          rw [h4] at o8 r8 c1 ⊢
          subst hM0
          clear hN0 hc0 h4 HPL
          go_goals
          go_wp2_with fail
          refine (HBR.out _ W8 ⟨_, rfl, r8⟩).mono ?_
          rintro z w9 ⟨v9, rfl, r9, b9⟩
          have lc9 := lc8.later b9
          have zc9 := zc8.later b9
          have b09 := below_trans b08 b9
          clear lc8 zc8 r8 b08 b9 HBR
          go_wp2_with fail
          refine (HDC.out _ w9 ⟨_, rfl, r9⟩).mono ?_
          rintro z wa ⟨va, rfl, ra, ba⟩
          have lca := lc9.later ba
          have zca := zc9.later ba
          have b0a := below_trans b09 ba
          clear lc9 zc9 r9 b09 ba HDC
          obtain ⟨to, tc, hvt⟩ := ra.shape
          subst hvt
          obtain ⟨hl9, ⟨d0, d1, d2⟩, z0, z1, z2⟩ := id lca
          go_wp2
          obtain ⟨-, ⟨g0, g1, g2⟩, -⟩ := loc_set lca (.bool rs) (.slice to (Dg.dg 65536 rn).length tc) (.int .i64 re)
          have rx := zca.rd ra (Dg.norm_dg _ _ (by omega)) (.bool rs) (.slice to (Dg.dg 65536 rn).length tc) (.int .i64 re)
          have bx := below_set3 b0a (show w.heap.size ≤ w.heap.size + 1 by omega) (.bool rs) (.slice to (Dg.dg 65536 rn).length tc) (.int .i64 re)
          refine bodyPost_ret (v := .agg #[.bool rs, .slice to (Dg.dg 65536 rn).length tc, .int .i64 re]) (by simp [results, Tryz.results9, go_sem, g0, g1, g2]) rfl ?_
          exact ⟨_, rfl, rx, bx⟩
        · have h4 : Q * 4 + 1 = N0 := by rw [← hN0, if_neg (fun h => hM0 (hc0.2 h))]
          rw [h4] at HPL
          have hl0 : (cc == 0) = false := by simp; exact hM0
          clear hN0 hc0 hM0 h4
          have ba := below_alloc W8 (.cells #[.int .i64 ((1 : Nat) : Int)] 3)
          have rn1 := rd_new (w := W8) (k := .i64) (e := 3) [1] #[.int .i64 ((1 : Nat) : Int)] rfl (by unfold maxLen; simp)
          go_goals
          go_wp2_with fail
          refine (HPL.out _ _ _ (r8.later ba) rn1).mono ?_
          rintro z x7 ⟨y7, rfl, ry7, by7⟩
          obtain ⟨no, nc, hn⟩ := ry7.shape
          subst hn
          have o7 := (o8.later ba).later by7
          have lcx := (lc8.later ba).later by7
          have zcx := (zc8.later ba).later by7
          have bx7 := below_trans (below_trans b08 ba) by7
          obtain ⟨ho, ⟨i0, i1, i2⟩, f0, f1, f2⟩ := id o7
          have o9 := loc_set1 o7 (.slice no (Dg.dg 65536 N0).length nc)
          have lc9 := lcx.apart1 hP (.slice no (Dg.dg 65536 N0).length nc)
          have zc9 := zcx.off (grown_set x7 P 1 (.slice no (Dg.dg 65536 N0).length nc)) hP.symm
          have r9 := rd_set1 ry7 i1 (.slice no (Dg.dg 65536 N0).length nc)
          have b09 := bx7.setCell (p := ⟨P, 1, none⟩) hPl (.slice no (Dg.dg 65536 N0).length nc)
          clear o8 lc8 zc8 r8 b08 ba rn1 ry7 by7 o7 lcx zcx bx7 c0 c1 c2 HPL
          obtain ⟨-, ⟨c0, c1, c2⟩, -⟩ := id o9
          go_wp2_with fail
          generalize (x7.setCell ⟨P, 1, none⟩ (.slice no (Dg.dg 65536 N0).length nc)) = W8 at o9 lc9 zc9 r9 b09 c0 c1 c2 ⊢
          have lc8 := lc9
          have zc8 := zc9
          have r8 := r9
          have b08 := b09
          clear lc9 zc9 r9 b09
          refine (HBR.out _ W8 ⟨_, rfl, r8⟩).mono ?_
          rintro z w9 ⟨v9, rfl, r9, b9⟩
          have lc9 := lc8.later b9
          have zc9 := zc8.later b9
          have b09 := below_trans b08 b9
          clear lc8 zc8 r8 b08 b9 HBR
          go_wp2_with fail
          refine (HDC.out _ w9 ⟨_, rfl, r9⟩).mono ?_
          rintro z wa ⟨va, rfl, ra, ba⟩
          have lca := lc9.later ba
          have zca := zc9.later ba
          have b0a := below_trans b09 ba
          clear lc9 zc9 r9 b09 ba HDC
          obtain ⟨to, tc, hvt⟩ := ra.shape
          subst hvt
          obtain ⟨hl9, ⟨d0, d1, d2⟩, z0, z1, z2⟩ := id lca
          go_wp2
          obtain ⟨-, ⟨g0, g1, g2⟩, -⟩ := loc_set lca (.bool rs) (.slice to (Dg.dg 65536 rn).length tc) (.int .i64 re)
          have rx := zca.rd ra (Dg.norm_dg _ _ (by omega)) (.bool rs) (.slice to (Dg.dg 65536 rn).length tc) (.int .i64 re)
          have bx := below_set3 b0a (show w.heap.size ≤ w.heap.size + 1 by omega) (.bool rs) (.slice to (Dg.dg 65536 rn).length tc) (.int .i64 re)
          refine bodyPost_ret (v := .agg #[.bool rs, .slice to (Dg.dg 65536 rn).length tc, .int .i64 re]) (by simp [results, Tryz.results9, go_sem, g0, g1, g2]) rfl ?_
          exact ⟨_, rfl, rx, bx⟩
      · have o6 := loc_set o5 (.bool false) (.slice mo (Dg.dg 65536 (Q * 4)).length mc) (.int .i64 E)
        have hP : w4.heap.size ≠ w.heap.size + 1 := by omega
        have hPl : w.heap.size ≤ w4.heap.size := by omega
        have lc6 := lc5.apart (c := w4.heap.size) hP (.bool false) (.slice mo (Dg.dg 65536 (Q * 4)).length mc) (.int .i64 E)
        have zc6 := zc5.off3 hP.symm (.bool false) (.slice mo (Dg.dg 65536 (Q * 4)).length mc) (.int .i64 E)
        have rq6 := y5.rd rq5 (Dg.norm_dg _ _ (by omega)) (.bool false) (.slice mo (Dg.dg 65536 (Q * 4)).length mc) (.int .i64 E)
        have rx6 := y5.rd rx5 (Dg.norm_dg _ _ (by omega)) (.bool false) (.slice mo (Dg.dg 65536 (Q * 4)).length mc) (.int .i64 E)
        have r6 := y5.rd r5 (Dg.norm_dg _ _ (by omega)) (.bool false) (.slice mo (Dg.dg 65536 (Q * 4)).length mc) (.int .i64 E)
        have b06 := below_set3 b05 hPl (.bool false) (.slice mo (Dg.dg 65536 (Q * 4)).length mc) (.int .i64 E)
        clear la5 lc5 zc5 rq5 rx5 r5 b05 b5 t0 t1 t2 s0 s1 s2 p0 p1 p2 q0 q1 q2 j0 j1 j2 k0 k1 k2 la4 lc4 zc4 rq rx b0d bS bA bAS bSA rS rSA rAS oAS oSA yAS ySA bD hs4 m1 m3 e1 e2 e3 e4 HTI o5 y5 ho i0 i1 i2 f0 f1 f2
        generalize (((w5.setCell ⟨w4.heap.size, 0, none⟩ (.bool false)).setCell ⟨w4.heap.size, 1, none⟩ (.slice mo (Dg.dg 65536 (Q * 4)).length mc)).setCell ⟨w4.heap.size, 2, none⟩ (.int .i64 E)) = W6 at o6 lc6 zc6 rq6 rx6 r6 b06 ⊢
        generalize w4.heap.size = P at o6 hP hPl ⊢
        go_goals
        go_wp2_with fail
        refine (HSQ.out _ W6 rq6).mono ?_
        rintro z w7 ⟨v7, rfl, r7, b7⟩
        have o7 := o6.later b7
        have lc7 := lc6.later b7
        have zc7 := zc6.later b7
        have rx7 := rx6.later b7
        have rm7 := r6.later b7
        have b07 := below_trans b06 b7
        clear o6 lc6 zc6 rq6 rx6 r6 b06 b7 HSQ
        go_wp2_with fail
        refine (HCM.out _ _ w7 r7 rx7).mono ?_
        rintro z W8 ⟨rfl, b8⟩
        have o8 := o7.later b8
        have lc8 := lc7.later b8
        have zc8 := zc7.later b8
        have r8 := rm7.later b8
        have b08 := below_trans b07 b8
        clear o7 lc7 zc7 rx7 rm7 r7 b07 b8 HCM
        obtain ⟨-, ⟨c0, c1, c2⟩, -⟩ := id o8
        by_cases hM0 : cc = 0
        · have h4 : Q * 4 = N0 := by rw [← hN0, if_pos (hc0.1 hM0)]; rfl
          rw [h4] at o8 r8 c1 ⊢
          subst hM0
          clear hN0 hc0 h4 HPL
          go_goals
          go_wp2_with fail
          refine (HBR.out _ W8 ⟨_, rfl, r8⟩).mono ?_
          rintro z w9 ⟨v9, rfl, r9, b9⟩
          have lc9 := lc8.later b9
          have zc9 := zc8.later b9
          have b09 := below_trans b08 b9
          clear lc8 zc8 r8 b08 b9 HBR
          go_wp2_with fail
          refine (HDC.out _ w9 ⟨_, rfl, r9⟩).mono ?_
          rintro z wa ⟨va, rfl, ra, ba⟩
          have lca := lc9.later ba
          have zca := zc9.later ba
          have b0a := below_trans b09 ba
          clear lc9 zc9 r9 b09 ba HDC
          obtain ⟨to, tc, hvt⟩ := ra.shape
          subst hvt
          obtain ⟨hl9, ⟨d0, d1, d2⟩, z0, z1, z2⟩ := id lca
          go_wp2
          obtain ⟨-, ⟨g0, g1, g2⟩, -⟩ := loc_set lca (.bool rs) (.slice to (Dg.dg 65536 rn).length tc) (.int .i64 re)
          have rx := zca.rd ra (Dg.norm_dg _ _ (by omega)) (.bool rs) (.slice to (Dg.dg 65536 rn).length tc) (.int .i64 re)
          have bx := below_set3 b0a (show w.heap.size ≤ w.heap.size + 1 by omega) (.bool rs) (.slice to (Dg.dg 65536 rn).length tc) (.int .i64 re)
          refine bodyPost_ret (v := .agg #[.bool rs, .slice to (Dg.dg 65536 rn).length tc, .int .i64 re]) (by simp [results, Tryz.results9, go_sem, g0, g1, g2]) rfl ?_
          exact ⟨_, rfl, rx, bx⟩
        · have h4 : Q * 4 + 1 = N0 := by rw [← hN0, if_neg (fun h => hM0 (hc0.2 h))]
          rw [h4] at HPL
          have hl0 : (cc == 0) = false := by simp; exact hM0
          clear hN0 hc0 hM0 h4
          have ba := below_alloc W8 (.cells #[.int .i64 ((1 : Nat) : Int)] 3)
          have rn1 := rd_new (w := W8) (k := .i64) (e := 3) [1] #[.int .i64 ((1 : Nat) : Int)] rfl (by unfold maxLen; simp)
          go_goals
          go_wp2_with fail
          refine (HPL.out _ _ _ (r8.later ba) rn1).mono ?_
          rintro z x7 ⟨y7, rfl, ry7, by7⟩
          obtain ⟨no, nc, hn⟩ := ry7.shape
          subst hn
          have o7 := (o8.later ba).later by7
          have lcx := (lc8.later ba).later by7
          have zcx := (zc8.later ba).later by7
          have bx7 := below_trans (below_trans b08 ba) by7
          obtain ⟨ho, ⟨i0, i1, i2⟩, f0, f1, f2⟩ := id o7
          have o9 := loc_set1 o7 (.slice no (Dg.dg 65536 N0).length nc)
          have lc9 := lcx.apart1 hP (.slice no (Dg.dg 65536 N0).length nc)
          have zc9 := zcx.off (grown_set x7 P 1 (.slice no (Dg.dg 65536 N0).length nc)) hP.symm
          have r9 := rd_set1 ry7 i1 (.slice no (Dg.dg 65536 N0).length nc)
          have b09 := bx7.setCell (p := ⟨P, 1, none⟩) hPl (.slice no (Dg.dg 65536 N0).length nc)
          clear o8 lc8 zc8 r8 b08 ba rn1 ry7 by7 o7 lcx zcx bx7 c0 c1 c2 HPL
          obtain ⟨-, ⟨c0, c1, c2⟩, -⟩ := id o9
          go_wp2_with fail
          generalize (x7.setCell ⟨P, 1, none⟩ (.slice no (Dg.dg 65536 N0).length nc)) = W8 at o9 lc9 zc9 r9 b09 c0 c1 c2 ⊢
          have lc8 := lc9
          have zc8 := zc9
          have r8 := r9
          have b08 := b09
          clear lc9 zc9 r9 b09
          refine (HBR.out _ W8 ⟨_, rfl, r8⟩).mono ?_
          rintro z w9 ⟨v9, rfl, r9, b9⟩
          have lc9 := lc8.later b9
          have zc9 := zc8.later b9
          have b09 := below_trans b08 b9
          clear lc8 zc8 r8 b08 b9 HBR
          go_wp2_with fail
          refine (HDC.out _ w9 ⟨_, rfl, r9⟩).mono ?_
          rintro z wa ⟨va, rfl, ra, ba⟩
          have lca := lc9.later ba
          have zca := zc9.later ba
          have b0a := below_trans b09 ba
          clear lc9 zc9 r9 b09 ba HDC
          obtain ⟨to, tc, hvt⟩ := ra.shape
          subst hvt
          obtain ⟨hl9, ⟨d0, d1, d2⟩, z0, z1, z2⟩ := id lca
          go_wp2
          obtain ⟨-, ⟨g0, g1, g2⟩, -⟩ := loc_set lca (.bool rs) (.slice to (Dg.dg 65536 rn).length tc) (.int .i64 re)
          have rx := zca.rd ra (Dg.norm_dg _ _ (by omega)) (.bool rs) (.slice to (Dg.dg 65536 rn).length tc) (.int .i64 re)
          have bx := below_set3 b0a (show w.heap.size ≤ w.heap.size + 1 by omega) (.bool rs) (.slice to (Dg.dg 65536 rn).length tc) (.int .i64 re)
          refine bodyPost_ret (v := .agg #[.bool rs, .slice to (Dg.dg 65536 rn).length tc, .int .i64 re]) (by simp [results, Tryz.results9, go_sem, g0, g1, g2]) rfl ?_
          exact ⟨_, rfl, rx, bx⟩
    · rw [if_neg hpar] at hdn
      have hnI : (nn : Int) = 2 * (B : Int) + 8 + 1 := by omega
      have ht : ((ae + (2 * (B : Int) + 8)).tmod 2 == 0) = false := by
        simp
        intro h
        have := Int.dvd_of_tmod_eq_zero h
        omega
      rw [hnI] at HUP hq1
      have hw1 : IntKind.i64.wrap (ae + (2 * (B : Int) + 8)) = ae + (2 * (B : Int) + 8) := IntWalk.i64_in _ ⟨by omega, by omega⟩
      have e1 : IntKind.i64.wrap (ae - (2 * (B : Int) + 8 + 1)) = ae - (2 * (B : Int) + 8 + 1) := IntWalk.i64_in _ ⟨by omega, by omega⟩
      have e2 : IntKind.i64.wrap (E + 2) = E + 2 := IntWalk.i64_in _ ⟨by omega, by omega⟩
      have e3 : IntKind.i64.wrap E = E := IntWalk.i64_in _ ⟨by omega, by omega⟩
      have e4 : E + 2 - 2 = E := by omega
      clear hpar hev hE hdn hnI
      go_enter Tryz.func9, Tryz.ntmps9
      go_wp2_with fail
      refine (HUP.out _ b01).mono ?_
      rintro z w1 ⟨v1, rfl, r1, b1⟩
      replace la := la.later b1
      replace lc := lc.later b1
      replace zc := zc.later b1
      have b02 := below_trans b01 b1
      clear b01 b1 HUP
      go_wp2_with fail
      refine (HRO.out _ _ r1).mono ?_
      rintro z w4 ⟨vq, rfl, rq, b4⟩
      have la4 := la.later b4
      have lc4 := lc.later b4
      have zc4 := zc.later b4
      have rx := r1.later b4
      have b0d := below_trans b02 b4
      clear la lc zc r1 b02 b4 HRO
      obtain ⟨qo, qc, hq⟩ := rq.shape
      subst hq
      have bS : Below w4.heap.size w4 (w4.alloc (.cells #[.int .i64 4] 3)).drew := (below_alloc w4 (.cells #[.int .i64 4] 3)).drew
      have bA : Below w4.heap.size w4 (w4.alloc (.cells #[.bool false, .slice none 0 0, .int .i64 0] 34)).drew := (below_alloc w4 (.cells #[.bool false, .slice none 0 0, .int .i64 0] 34)).drew
      have bAS : Below w4.heap.size w4 ((w4.alloc (.cells #[.bool false, .slice none 0 0, .int .i64 0] 34)).alloc (.cells #[.int .i64 4] 3)).drew := (below_trans (below_alloc w4 (.cells #[.bool false, .slice none 0 0, .int .i64 0] 34)) (below_alloc _ (.cells #[.int .i64 4] 3))).drew
      have bSA : Below w4.heap.size w4 ((w4.alloc (.cells #[.int .i64 4] 3)).alloc (.cells #[.bool false, .slice none 0 0, .int .i64 0] 34)).drew := (below_trans (below_alloc w4 (.cells #[.int .i64 4] 3)) (below_alloc _ (.cells #[.bool false, .slice none 0 0, .int .i64 0] 34))).drew
      have rS : Rd (w4.alloc (.cells #[.int .i64 4] 3)).drew .i64 (.slice (some ⟨w4.heap.size, 0, none⟩) 1 1) [4] := (rd_new (w := w4) (k := .i64) (e := 3) [4] #[.int .i64 ((4 : Nat) : Int)] rfl (by unfold maxLen; simp)).later ((Below.refl _ _).drew)
      have rSA : Rd ((w4.alloc (.cells #[.int .i64 4] 3)).alloc (.cells #[.bool false, .slice none 0 0, .int .i64 0] 34)).drew .i64 (.slice (some ⟨w4.heap.size, 0, none⟩) 1 1) [4] := (rd_new (w := w4) (k := .i64) (e := 3) [4] #[.int .i64 ((4 : Nat) : Int)] rfl (by unfold maxLen; simp)).later ((below_alloc _ (.cells #[.bool false, .slice none 0 0, .int .i64 0] 34)).drew)
      have rAS : Rd ((w4.alloc (.cells #[.bool false, .slice none 0 0, .int .i64 0] 34)).alloc (.cells #[.int .i64 4] 3)).drew .i64 (.slice (some ⟨w4.heap.size + 1, 0, none⟩) 1 1) [4] := by
        have h1 := rd_new (w := w4.alloc (.cells #[.bool false, .slice none 0 0, .int .i64 0] 34)) (k := .i64) (e := 3) [4] #[.int .i64 ((4 : Nat) : Int)] rfl (by unfold maxLen; simp)
        rw [World.size_alloc] at h1
        exact h1.later ((Below.refl _ _).drew)
      have oAS := (((loc_new w4 (.bool false) (.slice none 0 0) (.int .i64 0) 34).later (below_alloc _ (.cells #[.int .i64 4] 3))).later ((Below.refl _ _).drew))
      have oSA := ((loc_new (w4.alloc (.cells #[.int .i64 4] 3)) (.bool false) (.slice none 0 0) (.int .i64 0) 34).later ((Below.refl _ _).drew))
      have yAS := (((zb_new w4 34).later (below_alloc _ (.cells #[.int .i64 4] 3))).later ((Below.refl _ _).drew))
      have ySA := ((zb_new (w4.alloc (.cells #[.int .i64 4] 3)) 34).later ((Below.refl _ _).drew))
      simp only [World.size_alloc] at oSA ySA
      have bD : Below w4.heap.size w4 w4.drew := (Below.refl _ _).drew
      have hs4 : w.heap.size + 1 < w4.heap.size := lc4.1
      have m1 : w4.heap.size ≠ w.heap.size := by omega
      have m3 : w4.heap.size + 1 ≠ w.heap.size := by omega
      obtain ⟨-, ⟨s0, s1, s2⟩, -⟩ := la4.later bD
      obtain ⟨-, ⟨p0, p1, p2⟩, -⟩ := la4.later bS
      obtain ⟨-, ⟨q0, q1, q2⟩, -⟩ := la4.later bA
      obtain ⟨-, ⟨j0, j1, j2⟩, -⟩ := la4.later bAS
      obtain ⟨-, ⟨k0, k1, k2⟩, -⟩ := la4.later bSA
      go_wp2_with fail
      go_region_held3 (fun wq => wq.cell? ⟨w.heap.size, 0, none⟩ = some (.bool sa) ∧ wq.cell? ⟨w.heap.size, 1, none⟩ = some (.slice ao ma ca) ∧ wq.cell? ⟨w.heap.size, 2, none⟩ = some (.int .i64 ae)) (go_keep) (first
        | (go_at_call 32; (with_reducible (refine (HTI.out _ _ _ (rq.later bAS) rAS).mono ?_)); rintro z w5 ⟨v5, rfl, r5, b5⟩; have la5 := (la4.later bAS).later b5; have lc5 := (lc4.later bAS).later b5; have zc5 := (zc4.later bAS).later b5; have rq5 := (rq.later bAS).later b5; have rx5 := (rx.later bAS).later b5; have b05 := below_trans (below_trans b0d bAS) b5; obtain ⟨mo, mc, hm⟩ := r5.shape; subst hm; obtain ⟨-, ⟨t0, t1, t2⟩, -⟩ := id la5; have o5 := oAS.later b5; have y5 := yAS.later b5; obtain ⟨ho, ⟨i0, i1, i2⟩, f0, f1, f2⟩ := id o5)
        | (go_at_call 32; (with_reducible (refine (HTI.out _ _ _ (rq.later bSA) rSA).mono ?_)); rintro z w5 ⟨v5, rfl, r5, b5⟩; have la5 := (la4.later bSA).later b5; have lc5 := (lc4.later bSA).later b5; have zc5 := (zc4.later bSA).later b5; have rq5 := (rq.later bSA).later b5; have rx5 := (rx.later bSA).later b5; have b05 := below_trans (below_trans b0d bSA) b5; obtain ⟨mo, mc, hm⟩ := r5.shape; subst hm; obtain ⟨-, ⟨t0, t1, t2⟩, -⟩ := id la5; have o5 := oSA.later b5; have y5 := ySA.later b5; obtain ⟨ho, ⟨i0, i1, i2⟩, f0, f1, f2⟩ := id o5)
        | (go_at_call 32; (with_reducible (refine (HTI.out _ _ _ (rq.later bS) rS).mono ?_)); rintro z w5 ⟨v5, rfl, r5, b5⟩; have la5 := (la4.later bS).later b5; have lc5 := (lc4.later bS).later b5; have zc5 := (zc4.later bS).later b5; have rq5 := (rq.later bS).later b5; have rx5 := (rx.later bS).later b5; have b05 := below_trans (below_trans b0d bS) b5; obtain ⟨mo, mc, hm⟩ := r5.shape; subst hm; obtain ⟨-, ⟨t0, t1, t2⟩, -⟩ := id la5))
      · have ba := below_alloc w5 (.cells #[.bool false, .slice mo (Dg.dg 65536 (Q * 4)).length mc, .int .i64 E] 34)
        have o6 := loc_new w5 (.bool false) (.slice mo (Dg.dg 65536 (Q * 4)).length mc) (.int .i64 E) 34
        have lc6 := lc5.later ba
        have zc6 := zc5.later ba
        have rq6 := rq5.later ba
        have rx6 := rx5.later ba
        have r6 := r5.later ba
        have b06 := below_trans b05 ba
        have hP : w5.heap.size ≠ w.heap.size + 1 := by have := lc5.1; omega
        have hPl : w.heap.size ≤ w5.heap.size := by have := lc5.1; omega
        clear la5 lc5 zc5 rq5 rx5 r5 b05 b5 t0 t1 t2 s0 s1 s2 p0 p1 p2 q0 q1 q2 j0 j1 j2 k0 k1 k2 la4 lc4 zc4 rq rx b0d bS bA bAS bSA rS rSA rAS oAS oSA yAS ySA bD hs4 m1 m3 e1 e2 e3 e4 HTI
        generalize (w5.alloc (.cells #[.bool false, .slice mo (Dg.dg 65536 (Q * 4)).length mc, .int .i64 E] 34)) = W6 at o6 lc6 zc6 rq6 rx6 r6 b06 ⊢
        generalize w5.heap.size = P at o6 hP hPl ⊢
        go_goals
        go_wp2_with fail
        refine (HSQ.out _ W6 rq6).mono ?_
        rintro z w7 ⟨v7, rfl, r7, b7⟩
        have o7 := o6.later b7
        have lc7 := lc6.later b7
        have zc7 := zc6.later b7
        have rx7 := rx6.later b7
        have rm7 := r6.later b7
        have b07 := below_trans b06 b7
        clear o6 lc6 zc6 rq6 rx6 r6 b06 b7 HSQ
        go_wp2_with fail
        refine (HCM.out _ _ w7 r7 rx7).mono ?_
        rintro z W8 ⟨rfl, b8⟩
        have o8 := o7.later b8
        have lc8 := lc7.later b8
        have zc8 := zc7.later b8
        have r8 := rm7.later b8
        have b08 := below_trans b07 b8
        clear o7 lc7 zc7 rx7 rm7 r7 b07 b8 HCM
        obtain ⟨-, ⟨c0, c1, c2⟩, -⟩ := id o8
        by_cases hM0 : cc = 0
        · have h4 : Q * 4 = N0 := by rw [← hN0, if_pos (hc0.1 hM0)]; rfl
          rw [h4] at o8 r8 c1 ⊢
          subst hM0
          clear hN0 hc0 h4 HPL
          go_goals
          go_wp2_with fail
          refine (HBR.out _ W8 ⟨_, rfl, r8⟩).mono ?_
          rintro z w9 ⟨v9, rfl, r9, b9⟩
          have lc9 := lc8.later b9
          have zc9 := zc8.later b9
          have b09 := below_trans b08 b9
          clear lc8 zc8 r8 b08 b9 HBR
          go_wp2_with fail
          refine (HDC.out _ w9 ⟨_, rfl, r9⟩).mono ?_
          rintro z wa ⟨va, rfl, ra, ba⟩
          have lca := lc9.later ba
          have zca := zc9.later ba
          have b0a := below_trans b09 ba
          clear lc9 zc9 r9 b09 ba HDC
          obtain ⟨to, tc, hvt⟩ := ra.shape
          subst hvt
          obtain ⟨hl9, ⟨d0, d1, d2⟩, z0, z1, z2⟩ := id lca
          go_wp2
          obtain ⟨-, ⟨g0, g1, g2⟩, -⟩ := loc_set lca (.bool rs) (.slice to (Dg.dg 65536 rn).length tc) (.int .i64 re)
          have rx := zca.rd ra (Dg.norm_dg _ _ (by omega)) (.bool rs) (.slice to (Dg.dg 65536 rn).length tc) (.int .i64 re)
          have bx := below_set3 b0a (show w.heap.size ≤ w.heap.size + 1 by omega) (.bool rs) (.slice to (Dg.dg 65536 rn).length tc) (.int .i64 re)
          refine bodyPost_ret (v := .agg #[.bool rs, .slice to (Dg.dg 65536 rn).length tc, .int .i64 re]) (by simp [results, Tryz.results9, go_sem, g0, g1, g2]) rfl ?_
          exact ⟨_, rfl, rx, bx⟩
        · have h4 : Q * 4 + 1 = N0 := by rw [← hN0, if_neg (fun h => hM0 (hc0.2 h))]
          rw [h4] at HPL
          have hl0 : (cc == 0) = false := by simp; exact hM0
          clear hN0 hc0 hM0 h4
          have ba := below_alloc W8 (.cells #[.int .i64 ((1 : Nat) : Int)] 3)
          have rn1 := rd_new (w := W8) (k := .i64) (e := 3) [1] #[.int .i64 ((1 : Nat) : Int)] rfl (by unfold maxLen; simp)
          go_goals
          go_wp2_with fail
          refine (HPL.out _ _ _ (r8.later ba) rn1).mono ?_
          rintro z x7 ⟨y7, rfl, ry7, by7⟩
          obtain ⟨no, nc, hn⟩ := ry7.shape
          subst hn
          have o7 := (o8.later ba).later by7
          have lcx := (lc8.later ba).later by7
          have zcx := (zc8.later ba).later by7
          have bx7 := below_trans (below_trans b08 ba) by7
          obtain ⟨ho, ⟨i0, i1, i2⟩, f0, f1, f2⟩ := id o7
          have o9 := loc_set1 o7 (.slice no (Dg.dg 65536 N0).length nc)
          have lc9 := lcx.apart1 hP (.slice no (Dg.dg 65536 N0).length nc)
          have zc9 := zcx.off (grown_set x7 P 1 (.slice no (Dg.dg 65536 N0).length nc)) hP.symm
          have r9 := rd_set1 ry7 i1 (.slice no (Dg.dg 65536 N0).length nc)
          have b09 := bx7.setCell (p := ⟨P, 1, none⟩) hPl (.slice no (Dg.dg 65536 N0).length nc)
          clear o8 lc8 zc8 r8 b08 ba rn1 ry7 by7 o7 lcx zcx bx7 c0 c1 c2 HPL
          obtain ⟨-, ⟨c0, c1, c2⟩, -⟩ := id o9
          go_wp2_with fail
          generalize (x7.setCell ⟨P, 1, none⟩ (.slice no (Dg.dg 65536 N0).length nc)) = W8 at o9 lc9 zc9 r9 b09 c0 c1 c2 ⊢
          have lc8 := lc9
          have zc8 := zc9
          have r8 := r9
          have b08 := b09
          clear lc9 zc9 r9 b09
          refine (HBR.out _ W8 ⟨_, rfl, r8⟩).mono ?_
          rintro z w9 ⟨v9, rfl, r9, b9⟩
          have lc9 := lc8.later b9
          have zc9 := zc8.later b9
          have b09 := below_trans b08 b9
          clear lc8 zc8 r8 b08 b9 HBR
          go_wp2_with fail
          refine (HDC.out _ w9 ⟨_, rfl, r9⟩).mono ?_
          rintro z wa ⟨va, rfl, ra, ba⟩
          have lca := lc9.later ba
          have zca := zc9.later ba
          have b0a := below_trans b09 ba
          clear lc9 zc9 r9 b09 ba HDC
          obtain ⟨to, tc, hvt⟩ := ra.shape
          subst hvt
          obtain ⟨hl9, ⟨d0, d1, d2⟩, z0, z1, z2⟩ := id lca
          go_wp2
          obtain ⟨-, ⟨g0, g1, g2⟩, -⟩ := loc_set lca (.bool rs) (.slice to (Dg.dg 65536 rn).length tc) (.int .i64 re)
          have rx := zca.rd ra (Dg.norm_dg _ _ (by omega)) (.bool rs) (.slice to (Dg.dg 65536 rn).length tc) (.int .i64 re)
          have bx := below_set3 b0a (show w.heap.size ≤ w.heap.size + 1 by omega) (.bool rs) (.slice to (Dg.dg 65536 rn).length tc) (.int .i64 re)
          refine bodyPost_ret (v := .agg #[.bool rs, .slice to (Dg.dg 65536 rn).length tc, .int .i64 re]) (by simp [results, Tryz.results9, go_sem, g0, g1, g2]) rfl ?_
          exact ⟨_, rfl, rx, bx⟩
      · have o6 := loc_set o5 (.bool false) (.slice mo (Dg.dg 65536 (Q * 4)).length mc) (.int .i64 E)
        have hP : w4.heap.size + 1 ≠ w.heap.size + 1 := by omega
        have hPl : w.heap.size ≤ w4.heap.size + 1 := by omega
        have lc6 := lc5.apart (c := w4.heap.size + 1) hP (.bool false) (.slice mo (Dg.dg 65536 (Q * 4)).length mc) (.int .i64 E)
        have zc6 := zc5.off3 hP.symm (.bool false) (.slice mo (Dg.dg 65536 (Q * 4)).length mc) (.int .i64 E)
        have rq6 := y5.rd rq5 (Dg.norm_dg _ _ (by omega)) (.bool false) (.slice mo (Dg.dg 65536 (Q * 4)).length mc) (.int .i64 E)
        have rx6 := y5.rd rx5 (Dg.norm_dg _ _ (by omega)) (.bool false) (.slice mo (Dg.dg 65536 (Q * 4)).length mc) (.int .i64 E)
        have r6 := y5.rd r5 (Dg.norm_dg _ _ (by omega)) (.bool false) (.slice mo (Dg.dg 65536 (Q * 4)).length mc) (.int .i64 E)
        have b06 := below_set3 b05 hPl (.bool false) (.slice mo (Dg.dg 65536 (Q * 4)).length mc) (.int .i64 E)
        clear la5 lc5 zc5 rq5 rx5 r5 b05 b5 t0 t1 t2 s0 s1 s2 p0 p1 p2 q0 q1 q2 j0 j1 j2 k0 k1 k2 la4 lc4 zc4 rq rx b0d bS bA bAS bSA rS rSA rAS oAS oSA yAS ySA bD hs4 m1 m3 e1 e2 e3 e4 HTI o5 y5 ho i0 i1 i2 f0 f1 f2
        generalize (((w5.setCell ⟨w4.heap.size + 1, 0, none⟩ (.bool false)).setCell ⟨w4.heap.size + 1, 1, none⟩ (.slice mo (Dg.dg 65536 (Q * 4)).length mc)).setCell ⟨w4.heap.size + 1, 2, none⟩ (.int .i64 E)) = W6 at o6 lc6 zc6 rq6 rx6 r6 b06 ⊢
        generalize w4.heap.size + 1 = P at o6 hP hPl ⊢
        go_goals
        go_wp2_with fail
        refine (HSQ.out _ W6 rq6).mono ?_
        rintro z w7 ⟨v7, rfl, r7, b7⟩
        have o7 := o6.later b7
        have lc7 := lc6.later b7
        have zc7 := zc6.later b7
        have rx7 := rx6.later b7
        have rm7 := r6.later b7
        have b07 := below_trans b06 b7
        clear o6 lc6 zc6 rq6 rx6 r6 b06 b7 HSQ
        go_wp2_with fail
        refine (HCM.out _ _ w7 r7 rx7).mono ?_
        rintro z W8 ⟨rfl, b8⟩
        have o8 := o7.later b8
        have lc8 := lc7.later b8
        have zc8 := zc7.later b8
        have r8 := rm7.later b8
        have b08 := below_trans b07 b8
        clear o7 lc7 zc7 rx7 rm7 r7 b07 b8 HCM
        obtain ⟨-, ⟨c0, c1, c2⟩, -⟩ := id o8
        by_cases hM0 : cc = 0
        · have h4 : Q * 4 = N0 := by rw [← hN0, if_pos (hc0.1 hM0)]; rfl
          rw [h4] at o8 r8 c1 ⊢
          subst hM0
          clear hN0 hc0 h4 HPL
          go_goals
          go_wp2_with fail
          refine (HBR.out _ W8 ⟨_, rfl, r8⟩).mono ?_
          rintro z w9 ⟨v9, rfl, r9, b9⟩
          have lc9 := lc8.later b9
          have zc9 := zc8.later b9
          have b09 := below_trans b08 b9
          clear lc8 zc8 r8 b08 b9 HBR
          go_wp2_with fail
          refine (HDC.out _ w9 ⟨_, rfl, r9⟩).mono ?_
          rintro z wa ⟨va, rfl, ra, ba⟩
          have lca := lc9.later ba
          have zca := zc9.later ba
          have b0a := below_trans b09 ba
          clear lc9 zc9 r9 b09 ba HDC
          obtain ⟨to, tc, hvt⟩ := ra.shape
          subst hvt
          obtain ⟨hl9, ⟨d0, d1, d2⟩, z0, z1, z2⟩ := id lca
          go_wp2
          obtain ⟨-, ⟨g0, g1, g2⟩, -⟩ := loc_set lca (.bool rs) (.slice to (Dg.dg 65536 rn).length tc) (.int .i64 re)
          have rx := zca.rd ra (Dg.norm_dg _ _ (by omega)) (.bool rs) (.slice to (Dg.dg 65536 rn).length tc) (.int .i64 re)
          have bx := below_set3 b0a (show w.heap.size ≤ w.heap.size + 1 by omega) (.bool rs) (.slice to (Dg.dg 65536 rn).length tc) (.int .i64 re)
          refine bodyPost_ret (v := .agg #[.bool rs, .slice to (Dg.dg 65536 rn).length tc, .int .i64 re]) (by simp [results, Tryz.results9, go_sem, g0, g1, g2]) rfl ?_
          exact ⟨_, rfl, rx, bx⟩
        · have h4 : Q * 4 + 1 = N0 := by rw [← hN0, if_neg (fun h => hM0 (hc0.2 h))]
          rw [h4] at HPL
          have hl0 : (cc == 0) = false := by simp; exact hM0
          clear hN0 hc0 hM0 h4
          have ba := below_alloc W8 (.cells #[.int .i64 ((1 : Nat) : Int)] 3)
          have rn1 := rd_new (w := W8) (k := .i64) (e := 3) [1] #[.int .i64 ((1 : Nat) : Int)] rfl (by unfold maxLen; simp)
          go_goals
          go_wp2_with fail
          refine (HPL.out _ _ _ (r8.later ba) rn1).mono ?_
          rintro z x7 ⟨y7, rfl, ry7, by7⟩
          obtain ⟨no, nc, hn⟩ := ry7.shape
          subst hn
          have o7 := (o8.later ba).later by7
          have lcx := (lc8.later ba).later by7
          have zcx := (zc8.later ba).later by7
          have bx7 := below_trans (below_trans b08 ba) by7
          obtain ⟨ho, ⟨i0, i1, i2⟩, f0, f1, f2⟩ := id o7
          have o9 := loc_set1 o7 (.slice no (Dg.dg 65536 N0).length nc)
          have lc9 := lcx.apart1 hP (.slice no (Dg.dg 65536 N0).length nc)
          have zc9 := zcx.off (grown_set x7 P 1 (.slice no (Dg.dg 65536 N0).length nc)) hP.symm
          have r9 := rd_set1 ry7 i1 (.slice no (Dg.dg 65536 N0).length nc)
          have b09 := bx7.setCell (p := ⟨P, 1, none⟩) hPl (.slice no (Dg.dg 65536 N0).length nc)
          clear o8 lc8 zc8 r8 b08 ba rn1 ry7 by7 o7 lcx zcx bx7 c0 c1 c2 HPL
          obtain ⟨-, ⟨c0, c1, c2⟩, -⟩ := id o9
          go_wp2_with fail
          generalize (x7.setCell ⟨P, 1, none⟩ (.slice no (Dg.dg 65536 N0).length nc)) = W8 at o9 lc9 zc9 r9 b09 c0 c1 c2 ⊢
          have lc8 := lc9
          have zc8 := zc9
          have r8 := r9
          have b08 := b09
          clear lc9 zc9 r9 b09
          refine (HBR.out _ W8 ⟨_, rfl, r8⟩).mono ?_
          rintro z w9 ⟨v9, rfl, r9, b9⟩
          have lc9 := lc8.later b9
          have zc9 := zc8.later b9
          have b09 := below_trans b08 b9
          clear lc8 zc8 r8 b08 b9 HBR
          go_wp2_with fail
          refine (HDC.out _ w9 ⟨_, rfl, r9⟩).mono ?_
          rintro z wa ⟨va, rfl, ra, ba⟩
          have lca := lc9.later ba
          have zca := zc9.later ba
          have b0a := below_trans b09 ba
          clear lc9 zc9 r9 b09 ba HDC
          obtain ⟨to, tc, hvt⟩ := ra.shape
          subst hvt
          obtain ⟨hl9, ⟨d0, d1, d2⟩, z0, z1, z2⟩ := id lca
          go_wp2
          obtain ⟨-, ⟨g0, g1, g2⟩, -⟩ := loc_set lca (.bool rs) (.slice to (Dg.dg 65536 rn).length tc) (.int .i64 re)
          have rx := zca.rd ra (Dg.norm_dg _ _ (by omega)) (.bool rs) (.slice to (Dg.dg 65536 rn).length tc) (.int .i64 re)
          have bx := below_set3 b0a (show w.heap.size ≤ w.heap.size + 1 by omega) (.bool rs) (.slice to (Dg.dg 65536 rn).length tc) (.int .i64 re)
          refine bodyPost_ret (v := .agg #[.bool rs, .slice to (Dg.dg 65536 rn).length tc, .int .i64 re]) (by simp [results, Tryz.results9, go_sem, g0, g1, g2]) rfl ?_
          exact ⟨_, rfl, rx, bx⟩
      · have o6 := loc_set o5 (.bool false) (.slice mo (Dg.dg 65536 (Q * 4)).length mc) (.int .i64 E)
        have hP : w4.heap.size ≠ w.heap.size + 1 := by omega
        have hPl : w.heap.size ≤ w4.heap.size := by omega
        have lc6 := lc5.apart (c := w4.heap.size) hP (.bool false) (.slice mo (Dg.dg 65536 (Q * 4)).length mc) (.int .i64 E)
        have zc6 := zc5.off3 hP.symm (.bool false) (.slice mo (Dg.dg 65536 (Q * 4)).length mc) (.int .i64 E)
        have rq6 := y5.rd rq5 (Dg.norm_dg _ _ (by omega)) (.bool false) (.slice mo (Dg.dg 65536 (Q * 4)).length mc) (.int .i64 E)
        have rx6 := y5.rd rx5 (Dg.norm_dg _ _ (by omega)) (.bool false) (.slice mo (Dg.dg 65536 (Q * 4)).length mc) (.int .i64 E)
        have r6 := y5.rd r5 (Dg.norm_dg _ _ (by omega)) (.bool false) (.slice mo (Dg.dg 65536 (Q * 4)).length mc) (.int .i64 E)
        have b06 := below_set3 b05 hPl (.bool false) (.slice mo (Dg.dg 65536 (Q * 4)).length mc) (.int .i64 E)
        clear la5 lc5 zc5 rq5 rx5 r5 b05 b5 t0 t1 t2 s0 s1 s2 p0 p1 p2 q0 q1 q2 j0 j1 j2 k0 k1 k2 la4 lc4 zc4 rq rx b0d bS bA bAS bSA rS rSA rAS oAS oSA yAS ySA bD hs4 m1 m3 e1 e2 e3 e4 HTI o5 y5 ho i0 i1 i2 f0 f1 f2
        generalize (((w5.setCell ⟨w4.heap.size, 0, none⟩ (.bool false)).setCell ⟨w4.heap.size, 1, none⟩ (.slice mo (Dg.dg 65536 (Q * 4)).length mc)).setCell ⟨w4.heap.size, 2, none⟩ (.int .i64 E)) = W6 at o6 lc6 zc6 rq6 rx6 r6 b06 ⊢
        generalize w4.heap.size = P at o6 hP hPl ⊢
        go_goals
        go_wp2_with fail
        refine (HSQ.out _ W6 rq6).mono ?_
        rintro z w7 ⟨v7, rfl, r7, b7⟩
        have o7 := o6.later b7
        have lc7 := lc6.later b7
        have zc7 := zc6.later b7
        have rx7 := rx6.later b7
        have rm7 := r6.later b7
        have b07 := below_trans b06 b7
        clear o6 lc6 zc6 rq6 rx6 r6 b06 b7 HSQ
        go_wp2_with fail
        refine (HCM.out _ _ w7 r7 rx7).mono ?_
        rintro z W8 ⟨rfl, b8⟩
        have o8 := o7.later b8
        have lc8 := lc7.later b8
        have zc8 := zc7.later b8
        have r8 := rm7.later b8
        have b08 := below_trans b07 b8
        clear o7 lc7 zc7 rx7 rm7 r7 b07 b8 HCM
        obtain ⟨-, ⟨c0, c1, c2⟩, -⟩ := id o8
        by_cases hM0 : cc = 0
        · have h4 : Q * 4 = N0 := by rw [← hN0, if_pos (hc0.1 hM0)]; rfl
          rw [h4] at o8 r8 c1 ⊢
          subst hM0
          clear hN0 hc0 h4 HPL
          go_goals
          go_wp2_with fail
          refine (HBR.out _ W8 ⟨_, rfl, r8⟩).mono ?_
          rintro z w9 ⟨v9, rfl, r9, b9⟩
          have lc9 := lc8.later b9
          have zc9 := zc8.later b9
          have b09 := below_trans b08 b9
          clear lc8 zc8 r8 b08 b9 HBR
          go_wp2_with fail
          refine (HDC.out _ w9 ⟨_, rfl, r9⟩).mono ?_
          rintro z wa ⟨va, rfl, ra, ba⟩
          have lca := lc9.later ba
          have zca := zc9.later ba
          have b0a := below_trans b09 ba
          clear lc9 zc9 r9 b09 ba HDC
          obtain ⟨to, tc, hvt⟩ := ra.shape
          subst hvt
          obtain ⟨hl9, ⟨d0, d1, d2⟩, z0, z1, z2⟩ := id lca
          go_wp2
          obtain ⟨-, ⟨g0, g1, g2⟩, -⟩ := loc_set lca (.bool rs) (.slice to (Dg.dg 65536 rn).length tc) (.int .i64 re)
          have rx := zca.rd ra (Dg.norm_dg _ _ (by omega)) (.bool rs) (.slice to (Dg.dg 65536 rn).length tc) (.int .i64 re)
          have bx := below_set3 b0a (show w.heap.size ≤ w.heap.size + 1 by omega) (.bool rs) (.slice to (Dg.dg 65536 rn).length tc) (.int .i64 re)
          refine bodyPost_ret (v := .agg #[.bool rs, .slice to (Dg.dg 65536 rn).length tc, .int .i64 re]) (by simp [results, Tryz.results9, go_sem, g0, g1, g2]) rfl ?_
          exact ⟨_, rfl, rx, bx⟩
        · have h4 : Q * 4 + 1 = N0 := by rw [← hN0, if_neg (fun h => hM0 (hc0.2 h))]
          rw [h4] at HPL
          have hl0 : (cc == 0) = false := by simp; exact hM0
          clear hN0 hc0 hM0 h4
          have ba := below_alloc W8 (.cells #[.int .i64 ((1 : Nat) : Int)] 3)
          have rn1 := rd_new (w := W8) (k := .i64) (e := 3) [1] #[.int .i64 ((1 : Nat) : Int)] rfl (by unfold maxLen; simp)
          go_goals
          go_wp2_with fail
          refine (HPL.out _ _ _ (r8.later ba) rn1).mono ?_
          rintro z x7 ⟨y7, rfl, ry7, by7⟩
          obtain ⟨no, nc, hn⟩ := ry7.shape
          subst hn
          have o7 := (o8.later ba).later by7
          have lcx := (lc8.later ba).later by7
          have zcx := (zc8.later ba).later by7
          have bx7 := below_trans (below_trans b08 ba) by7
          obtain ⟨ho, ⟨i0, i1, i2⟩, f0, f1, f2⟩ := id o7
          have o9 := loc_set1 o7 (.slice no (Dg.dg 65536 N0).length nc)
          have lc9 := lcx.apart1 hP (.slice no (Dg.dg 65536 N0).length nc)
          have zc9 := zcx.off (grown_set x7 P 1 (.slice no (Dg.dg 65536 N0).length nc)) hP.symm
          have r9 := rd_set1 ry7 i1 (.slice no (Dg.dg 65536 N0).length nc)
          have b09 := bx7.setCell (p := ⟨P, 1, none⟩) hPl (.slice no (Dg.dg 65536 N0).length nc)
          clear o8 lc8 zc8 r8 b08 ba rn1 ry7 by7 o7 lcx zcx bx7 c0 c1 c2 HPL
          obtain ⟨-, ⟨c0, c1, c2⟩, -⟩ := id o9
          go_wp2_with fail
          generalize (x7.setCell ⟨P, 1, none⟩ (.slice no (Dg.dg 65536 N0).length nc)) = W8 at o9 lc9 zc9 r9 b09 c0 c1 c2 ⊢
          have lc8 := lc9
          have zc8 := zc9
          have r8 := r9
          have b08 := b09
          clear lc9 zc9 r9 b09
          refine (HBR.out _ W8 ⟨_, rfl, r8⟩).mono ?_
          rintro z w9 ⟨v9, rfl, r9, b9⟩
          have lc9 := lc8.later b9
          have zc9 := zc8.later b9
          have b09 := below_trans b08 b9
          clear lc8 zc8 r8 b08 b9 HBR
          go_wp2_with fail
          refine (HDC.out _ w9 ⟨_, rfl, r9⟩).mono ?_
          rintro z wa ⟨va, rfl, ra, ba⟩
          have lca := lc9.later ba
          have zca := zc9.later ba
          have b0a := below_trans b09 ba
          clear lc9 zc9 r9 b09 ba HDC
          obtain ⟨to, tc, hvt⟩ := ra.shape
          subst hvt
          obtain ⟨hl9, ⟨d0, d1, d2⟩, z0, z1, z2⟩ := id lca
          go_wp2
          obtain ⟨-, ⟨g0, g1, g2⟩, -⟩ := loc_set lca (.bool rs) (.slice to (Dg.dg 65536 rn).length tc) (.int .i64 re)
          have rx := zca.rd ra (Dg.norm_dg _ _ (by omega)) (.bool rs) (.slice to (Dg.dg 65536 rn).length tc) (.int .i64 re)
          have bx := below_set3 b0a (show w.heap.size ≤ w.heap.size + 1 by omega) (.bool rs) (.slice to (Dg.dg 65536 rn).length tc) (.int .i64 re)
          refine bodyPost_ret (v := .agg #[.bool rs, .slice to (Dg.dg 65536 rn).length tc, .int .i64 re]) (by simp [results, Tryz.results9, go_sem, g0, g1, g2]) rfl ?_
          exact ⟨_, rfl, rx, bx⟩
end Go.Proofs.YtmjhlflemfkflaaGreatDoor

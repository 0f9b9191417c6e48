/-
  Texts laid together: Dr5c, Dr5d, Dr6.
-/
import Derived.Test.YtnhackdjplppjaaGreatDoorAc21
import Derived.Test.YtnhackdjplppjaaGreatDoorAc22
set_option maxRecDepth 100000
namespace Go.Proofs.YtnhackdjplppjaaGreatDoor
open Go.RowKit
set_option maxHeartbeats 6400000 in
theorem refdplus_diffc (v u : Value) (a b : Trip) (w : World) (hv : Rv w v a) (hu : Rv w u b) (hLa : (Dg.dg 65536 a.n).length ≤ 30000) (hLb : (Dg.dg 65536 b.n).length ≤ 30000)
  (ha1 : -200000 ≤ a.e) (ha2 : a.e ≤ 200000) (hb1 : -200000 ≤ b.e) (hb2 : b.e ≤ 200000) (hs : ¬a.s = b.s) (ha0 : ¬a.n = 0) (hb0 : b.n = 0) :
  Calls Tryz.prog 118 #[v, u] w (RDResF w (bare (dplusT a b))) := by
 obtain ⟨s0, rfl, ra⟩ := hv
 obtain ⟨ao, ca, rfl⟩ := ra.shape
 obtain ⟨s1, rfl, rb⟩ := hu
 obtain ⟨bo, cb, rfl⟩ := rb.shape
 obtain ⟨sa, an, ae⟩ := a
 obtain ⟨sb, bn, be⟩ := b
 simp only at ra rb hLa hLb ha1 ha2 hb1 hb2 hs ha0 hb0 ⊢
 have HU : Hid (∀ (k : Int) w1, 0 ≤ k → k ≤ 400000 → Below w.heap.size w w1 → Calls Tryz.prog 74 #[.slice ao (Dg.dg 65536 an).length ca, .int .i64 k] w1 (RNum w1 (an * 2 ^ k.toNat))) := fun k w1 h1 h2 b1 => by
  have := up_any _ _ k.toNat w1 (ra.later b1) (Dg.small_dg _ _ (by omega)) (by omega) (by omega)
  rwa [Dg.vl_dg _ _ (by omega), show ((k.toNat : Nat) : Int) = k from by omega] at this
 have HV : Hid (∀ (k : Int) w1, 0 ≤ k → k ≤ 400000 → Below w.heap.size w w1 → Calls Tryz.prog 74 #[.slice bo (Dg.dg 65536 bn).length cb, .int .i64 k] w1 (RNum w1 (bn * 2 ^ k.toNat))) := fun k w1 h1 h2 b1 => by
  have := up_any _ _ k.toNat w1 (rb.later b1) (Dg.small_dg _ _ (by omega)) (by omega) (by omega)
  rwa [Dg.vl_dg _ _ (by omega), show ((k.toNat : Nat) : Int) = k from by omega] at this
 have HPL : Hid (∀ P Q v1 v2 w1, (Dg.dg 65536 P).length ≤ 60000 → (Dg.dg 65536 Q).length ≤ 60000 → Rd w1 .i64 v1 (Dg.dg 65536 P) → Rd w1 .i64 v2 (Dg.dg 65536 Q) → Calls Tryz.prog 78 #[v1, v2] w1 (RNum w1 (P + Q))) := fun P Q v1 v2 w1 l1 l2 h1 h2 => by
  have := refplus_any v1 v2 _ _ w1 h1 h2 (Dg.small_dg _ _ (by omega)) (Dg.small_dg _ _ (by omega)) (Dg.norm_dg _ _ (by omega)) (Dg.norm_dg _ _ (by omega)) (by omega) (by omega)
  rwa [Dg.vl_dg _ _ (by omega), Dg.vl_dg _ _ (by omega)] at this
 have HCM : Hid (∀ P Q v1 v2 w1, Rd w1 .i64 v1 (Dg.dg 65536 P) → Rd w1 .i64 v2 (Dg.dg 65536 Q) → Calls Tryz.prog 77 #[v1, v2] w1 fun e w' => e = .returned (.int .i64 (cmpI P Q)) ∧ Below w1.heap.size w1 w') := fun P Q v1 v2 w1 h1 h2 => by
  have := refcmp_any v1 v2 _ _ w1 h1 h2 (Dg.small_dg _ _ (by omega)) (Dg.small_dg _ _ (by omega)) (Dg.norm_dg _ _ (by omega)) (Dg.norm_dg _ _ (by omega))
  rwa [Dg.vl_dg _ _ (by omega), Dg.vl_dg _ _ (by omega)] at this
 have HLS : Hid (∀ P Q v1 v2 w1, Q ≤ P → (Dg.dg 65536 P).length ≤ 60000 → Rd w1 .i64 v1 (Dg.dg 65536 P) → Rd w1 .i64 v2 (Dg.dg 65536 Q) → Calls Tryz.prog 121 #[v1, v2] w1 (RNum w1 (P - Q))) := fun P Q v1 v2 w1 hle l1 h1 h2 => by
  have := refless_any v1 v2 _ _ w1 h1 h2 (Dg.small_dg _ _ (by omega)) (Dg.small_dg _ _ (by omega)) (by omega) (dg_len_mono _ _ _ (by omega) hle) (by rw [Dg.vl_dg _ _ (by omega), Dg.vl_dg _ _ (by omega)]; exact hle)
  rwa [Dg.vl_dg _ _ (by omega), Dg.vl_dg _ _ (by omega)] at this
 have HBR : Hid (∀ v t w1, Rv w1 v t → (Dg.dg 65536 t.n).length ≤ 100000 → -1000000 ≤ t.e → t.e ≤ 1000000 → Calls Tryz.prog 79 #[v] w1 (RDResF w1 (bare t))) := fun v t w1 h1 h2 h3 h4 => bared_far v t w1 h1 h2 h3 h4
 have lu : ∀ k : Int, k ≤ 400000 → (Dg.dg 65536 (an * 2 ^ k.toNat)).length ≤ 55001 := fun k hk => Nat.le_trans (up_len16 an k.toNat 30000 25001 hLa (by omega)) (by omega)
 have lv : ∀ k : Int, k ≤ 400000 → (Dg.dg 65536 (bn * 2 ^ k.toNat)).length ≤ 55001 := fun k hk => Nat.le_trans (up_len16 bn k.toNat 30000 25001 hLb (by omega)) (by omega)
 have n1 := Dg.dg_nil_iff 65536 an (by omega)
 have n2 := Dg.dg_nil_iff 65536 bn (by omega)
 have z1 : (((Dg.dg 65536 an).length : Int) == 0) = decide (an = 0) := by
  by_cases h : an = 0
  ·rw [decide_eq_true h, n1.2 h]; rfl
  ·rw [decide_eq_false h]; simp; exact fun e => h (n1.1 e)
 have z2 : (((Dg.dg 65536 bn).length : Int) == 0) = decide (bn = 0) := by
  by_cases h : bn = 0
  ·rw [decide_eq_true h, n2.2 h]; rfl
  ·rw [decide_eq_false h]; simp; exact fun e => h (n2.1 e)
 obtain ⟨ma, hma⟩ : ∃ m, (Dg.dg 65536 an).length = m := ⟨_, rfl⟩
 obtain ⟨mb, hmb⟩ : ∃ m, (Dg.dg 65536 bn).length = m := ⟨_, rfl⟩
 rw [hma] at HU z1 ⊢
 rw [hmb] at HV z2 ⊢
 clear hma hmb ra rb hLa hLb n1 n2
 obtain ⟨la, lb, lc, b01, -⟩ := locals3 w (.bool sa) (.slice ao ma ca) (.int .i64 ae) (.bool sb) (.slice bo mb cb) (.int .i64 be) (.bool false) (.slice none 0 0) (.int .i64 0) 30 30 30
 have zc := locals3z w (.bool sa) (.slice ao ma ca) (.int .i64 ae) (.bool sb) (.slice bo mb cb) (.int .i64 be) 30 30 30
 obtain ⟨W, hW⟩ : ∃ W, (((w.alloc (.cells #[.bool sa, .slice ao ma ca, .int .i64 ae] 30)).alloc (.cells #[.bool sb, .slice bo mb cb, .int .i64 be] 30)).alloc (.cells #[.bool false, .slice none 0 0, .int .i64 0] 30)) = W := ⟨_, rfl⟩
 rw [hW] at la lb lc b01 zc
 have bd : Below W.heap.size W W.drew := (Below.refl _ _).drew
 have la := la.later bd
 have lb := lb.later bd
 have lc := lc.later bd
 have zc := zc.later bd
 have b02 := below_trans b01 bd
 rw [← hW] at la lb lc b02 zc
 clear bd b01 hW
 have ne3 : w.heap.size + 1 + 1 ≠ w.heap.size := by omega
 have ne4 : w.heap.size ≠ w.heap.size + 1 + 1 := by omega
 unfold dplusT
 simp only
 rw [decide_eq_false ha0] at z1
 rw [decide_eq_true hb0] at z2
 have E0 : (if bn = 0 then ae else if an = 0 then be else min ae be) = ae := by simp [hb0]
 rw [E0]
 clear E0
 by_cases hle : bn * 2 ^ (max 0 (be - ae) : Int).toNat ≤ an * 2 ^ (0 : Int).toNat
 ·rw [show max 0 (ae - ae) = 0 from by omega]
  have eb : IntKind.i64.wrap (be - (ae)) = be - (ae) := IntWalk.i64_in _ ⟨by omega, by omega⟩
  have hua := HU.out (0 : Int)
  have hvb := HV.out (max 0 (be - ae))
  have lX := lu (0 : Int) (by omega)
  have lY := lv (max 0 (be - ae)) (by omega)
  obtain ⟨X, hX⟩ : ∃ X, an * 2 ^ (0 : Int).toNat = X := ⟨_, rfl⟩
  obtain ⟨Y, hY⟩ : ∃ Y, bn * 2 ^ (max 0 (be - ae)).toNat = Y := ⟨_, rfl⟩
  rw [hX] at hua lX hle ⊢
  rw [hY] at hvb lY hle ⊢
  have HUA : Hid (∀ w1, Below w.heap.size w w1 → Calls Tryz.prog 74 #[.slice ao ma ca, .int .i64 (0 : Int)] w1 (RNum w1 X)) := fun w1 b1 => hua w1 (by omega) (by omega) b1
  have HVB : Hid (∀ w1, Below w.heap.size w w1 → Calls Tryz.prog 74 #[.slice bo mb cb, .int .i64 (max 0 (be - ae))] w1 (RNum w1 Y)) := fun w1 b1 => hvb w1 (by omega) (by omega) b1
  clear hua hvb HU HV lu lv hX hY
  rw [if_neg hs, if_pos hle]
  have hsb : (sa == sb) = false := by simp [hs]
  have hd := cmpI_ge (a := (X : Int)) (b := (Y : Int)) (by omega)
  obtain ⟨r, hr⟩ : ∃ r, cmpI X Y = r := ⟨_, rfl⟩
  have HCM2 := HCM.out X Y
  rw [hr] at HCM2 hd
  have HCM3 : Hid _ := HCM2
  clear hr HCM2
  go_enter Tryz.func118, Tryz.ntmps118
  obtain ⟨-, ⟨ca0, ca1, ca2⟩, -⟩ := id la
  obtain ⟨-, ⟨cb0, cb1, cb2⟩, -⟩ := id lb
  go_wp2_with fail
  go_region_held3 (fun wq => (wq.cell? ⟨w.heap.size, 0, none⟩ = some (.bool sa) ∧ wq.cell? ⟨w.heap.size, 1, none⟩ = some (.slice ao ma ca) ∧ wq.cell? ⟨w.heap.size, 2, none⟩ = some (.int .i64 ae)) ∧ wq.cell? ⟨w.heap.size + 1, 0, none⟩ = some (.bool sb) ∧ wq.cell? ⟨w.heap.size + 1, 1, none⟩ = some (.slice bo mb cb) ∧ wq.cell? ⟨w.heap.size + 1, 2, none⟩ = some (.int .i64 be)) (go_keep) (first
   | (go_at_call 74; refine (HUA.out _ b02).mono ?_; rintro z w3 ⟨v1, rfl, o1, b3⟩; have la3 := la.later b3; have lb3 := lb.later b3; have lc3 := lc.later b3; have zc3 := zc.later b3; have b03 := below_trans b02 b3; obtain ⟨-, ⟨p0, p1, p2⟩, -⟩ := id la3; obtain ⟨-, ⟨p3, p4, p5⟩, -⟩ := id lb3; clear b02)
   | (go_at_call 74; refine (HVB.out _ b03).mono ?_; rintro z w4 ⟨v2, rfl, r2, b4⟩; have la4 := la3.later b4; have lb4 := lb3.later b4; have lc4 := lc3.later b4; have zc4 := zc3.later b4; have b04 := below_trans b03 b4; have r1 := o1.later b4; obtain ⟨-, ⟨q0, q1, q2⟩, -⟩ := id la4; obtain ⟨-, ⟨q3, q4, q5⟩, -⟩ := id lb4))
  all_goals
   clear la lb lc zc la3 lb3 lc3 zc3 p0 p1 p2 p3 p4 p5 ca0 ca1 ca2 cb0 cb1 cb2 b03 o1 b3 b4 HUA HVB
   go_wp2_with fail
   refine (HCM3.out v1 v2 w4 r1 r2).mono ?_
   rintro z w9 ⟨rfl, b9⟩
   have la4 := la4.later b9
   have lb4 := lb4.later b9
   have lc4 := lc4.later b9
   have zc4 := zc4.later b9
   have b04 := below_trans b04 b9
   have r1 := r1.later b9
   have r2 := r2.later b9
   clear b9
   have bd : Below w9.heap.size w9 w9.drew := (Below.refl _ _).drew
   have la5 := la4.later bd
   have lb5 := lb4.later bd
   have lc5 := lc4.later bd
   have zc5 := zc4.later bd
   have b05 := below_trans b04 bd
   have r1 := r1.later bd
   have r2 := r2.later bd
   obtain ⟨-, ⟨c0, c1, c2⟩, -⟩ := id la5
   obtain ⟨-, ⟨c3, c4, c5⟩, -⟩ := id lb5
   obtain ⟨⟨rs, rn, re⟩, hbt⟩ : ∃ bt, bare ⟨sa, X - Y, ae⟩ = bt := ⟨_, rfl⟩
   have HBR2 : Hid (∀ v w1, Rv w1 v ⟨sa, X - Y, ae⟩ → Calls Tryz.prog 79 #[v] w1 (RDResF w1 ⟨rs, rn, re⟩)) := fun v w1 hv => by
    have := HBR.out v ⟨sa, X - Y, ae⟩ w1 hv (by simp only; exact Nat.le_trans (dg_len_mono 65536 _ X (by omega) (Nat.sub_le _ _)) (by omega)) (by simp only; omega) (by simp only; omega)
    rwa [hbt] at this
   have HBT : Hid (bare ⟨sa, X - Y, ae⟩ = ⟨rs, rn, re⟩) := hbt
   clear la4 lb4 lc4 zc4 bd q0 q1 q2 q3 q4 q5 hbt HBR HCM
   go_wp2
   go_region_held3 (fun wq => wq.cell? ⟨w.heap.size, 0, none⟩ = some (.bool sa)) (go_keep) (first
    | (go_at_call 121; refine (HLS.out X Y v1 v2 _ hle (by omega) r1 r2).mono ?_; rintro z w6 ⟨vs, rfl, r6, b6⟩; have la6 := la5.later b6; have lb6 := lb5.later b6; have lc6 := lc5.later b6; have zc6 := zc5.later b6; have b06 := below_trans b05 b6; obtain ⟨so, sc, hvs⟩ := r6.shape; subst hvs; obtain ⟨-, ⟨t0, t1, t2⟩, -⟩ := id la6)
    | (go_at_call 79; refine (HBR2.out _ w6 ⟨_, rfl, r6⟩).mono ?_; rintro z w7 ⟨vt, rfl, r7, hF7, b7⟩; have la7 := la6.later b7; have lb7 := lb6.later b7; have lc7 := lc6.later b7; have zc7 := zc6.later b7; have b07 := below_trans b06 b7; obtain ⟨tq, tc, hvt⟩ := r7.shape; subst hvt; have HF : Hid (Far w.heap.size (.slice tq (Dg.dg 65536 rn).length tc)) := hF7.mono b06.size; clear hF7; obtain ⟨-, ⟨u0, u1, u2⟩, -⟩ := id la7; obtain ⟨hl7, ⟨d0, d1, d2⟩, f0, f1, f2⟩ := id lc7))
   all_goals go_wp2
   obtain ⟨-, ⟨g0, g1, g2⟩, -⟩ := loc_set lc7 (.bool rs) (.slice tq (Dg.dg 65536 rn).length tc) (.int .i64 re)
   have r8 := zc7.rd r7 (Dg.norm_dg _ _ (by omega)) (.bool rs) (.slice tq (Dg.dg 65536 rn).length tc) (.int .i64 re)
   have b8 := below_set3 b07 (show w.heap.size ≤ w.heap.size + 1 + 1 by omega) (.bool rs) (.slice tq (Dg.dg 65536 rn).length tc) (.int .i64 re)
   refine bodyPost_ret (v := .agg #[.bool rs, .slice tq (Dg.dg 65536 rn).length tc, .int .i64 re]) (by simp [results, Tryz.results118, go_sem, g0, g1, g2]) rfl ?_
   show RDResF w (bare ⟨sa, X - Y, ae⟩) _ _
   rw [HBT.out]
   exact ⟨_, rfl, r8, HF.out, b8⟩
 ·rw [show max 0 (ae - ae) = 0 from by omega]
  have eb : IntKind.i64.wrap (be - (ae)) = be - (ae) := IntWalk.i64_in _ ⟨by omega, by omega⟩
  have hua := HU.out (0 : Int)
  have hvb := HV.out (max 0 (be - ae))
  have lX := lu (0 : Int) (by omega)
  have lY := lv (max 0 (be - ae)) (by omega)
  obtain ⟨X, hX⟩ : ∃ X, an * 2 ^ (0 : Int).toNat = X := ⟨_, rfl⟩
  obtain ⟨Y, hY⟩ : ∃ Y, bn * 2 ^ (max 0 (be - ae)).toNat = Y := ⟨_, rfl⟩
  rw [hX] at hua lX hle ⊢
  rw [hY] at hvb lY hle ⊢
  have HUA : Hid (∀ w1, Below w.heap.size w w1 → Calls Tryz.prog 74 #[.slice ao ma ca, .int .i64 (0 : Int)] w1 (RNum w1 X)) := fun w1 b1 => hua w1 (by omega) (by omega) b1
  have HVB : Hid (∀ w1, Below w.heap.size w w1 → Calls Tryz.prog 74 #[.slice bo mb cb, .int .i64 (max 0 (be - ae))] w1 (RNum w1 Y)) := fun w1 b1 => hvb w1 (by omega) (by omega) b1
  clear hua hvb HU HV lu lv hX hY
  rw [if_neg hs, if_neg hle]
  have hsb : (sa == sb) = false := by simp [hs]
  have HCM2 := HCM.out X Y
  rw [cmpI_lt (by omega)] at HCM2
  have HCM3 : Hid _ := HCM2
  clear HCM2
  go_enter Tryz.func118, Tryz.ntmps118
  obtain ⟨-, ⟨ca0, ca1, ca2⟩, -⟩ := id la
  obtain ⟨-, ⟨cb0, cb1, cb2⟩, -⟩ := id lb
  go_wp2_with fail
  go_region_held3 (fun wq => (wq.cell? ⟨w.heap.size, 0, none⟩ = some (.bool sa) ∧ wq.cell? ⟨w.heap.size, 1, none⟩ = some (.slice ao ma ca) ∧ wq.cell? ⟨w.heap.size, 2, none⟩ = some (.int .i64 ae)) ∧ wq.cell? ⟨w.heap.size + 1, 0, none⟩ = some (.bool sb) ∧ wq.cell? ⟨w.heap.size + 1, 1, none⟩ = some (.slice bo mb cb) ∧ wq.cell? ⟨w.heap.size + 1, 2, none⟩ = some (.int .i64 be)) (go_keep) (first
   | (go_at_call 74; refine (HUA.out _ b02).mono ?_; rintro z w3 ⟨v1, rfl, o1, b3⟩; have la3 := la.later b3; have lb3 := lb.later b3; have lc3 := lc.later b3; have zc3 := zc.later b3; have b03 := below_trans b02 b3; obtain ⟨-, ⟨p0, p1, p2⟩, -⟩ := id la3; obtain ⟨-, ⟨p3, p4, p5⟩, -⟩ := id lb3; clear b02)
   | (go_at_call 74; refine (HVB.out _ b03).mono ?_; rintro z w4 ⟨v2, rfl, r2, b4⟩; have la4 := la3.later b4; have lb4 := lb3.later b4; have lc4 := lc3.later b4; have zc4 := zc3.later b4; have b04 := below_trans b03 b4; have r1 := o1.later b4; obtain ⟨-, ⟨q0, q1, q2⟩, -⟩ := id la4; obtain ⟨-, ⟨q3, q4, q5⟩, -⟩ := id lb4))
  all_goals
   clear la lb lc zc la3 lb3 lc3 zc3 p0 p1 p2 p3 p4 p5 ca0 ca1 ca2 cb0 cb1 cb2 b03 o1 b3 b4 HUA HVB
   go_wp2_with fail
   refine (HCM3.out v1 v2 w4 r1 r2).mono ?_
   rintro z w9 ⟨rfl, b9⟩
   have la4 := la4.later b9
   have lb4 := lb4.later b9
   have lc4 := lc4.later b9
   have zc4 := zc4.later b9
   have b04 := below_trans b04 b9
   have r1 := r1.later b9
   have r2 := r2.later b9
   clear b9
   have bd : Below w9.heap.size w9 w9.drew := (Below.refl _ _).drew
   have la5 := la4.later bd
   have lb5 := lb4.later bd
   have lc5 := lc4.later bd
   have zc5 := zc4.later bd
   have b05 := below_trans b04 bd
   have r1 := r1.later bd
   have r2 := r2.later bd
   obtain ⟨-, ⟨c0, c1, c2⟩, -⟩ := id la5
   obtain ⟨-, ⟨c3, c4, c5⟩, -⟩ := id lb5
   obtain ⟨⟨rs, rn, re⟩, hbt⟩ : ∃ bt, bare ⟨sb, Y - X, ae⟩ = bt := ⟨_, rfl⟩
   have HBR2 : Hid (∀ v w1, Rv w1 v ⟨sb, Y - X, ae⟩ → Calls Tryz.prog 79 #[v] w1 (RDResF w1 ⟨rs, rn, re⟩)) := fun v w1 hv => by
    have := HBR.out v ⟨sb, Y - X, ae⟩ w1 hv (by simp only; exact Nat.le_trans (dg_len_mono 65536 _ Y (by omega) (Nat.sub_le _ _)) (by omega)) (by simp only; omega) (by simp only; omega)
    rwa [hbt] at this
   have HBT : Hid (bare ⟨sb, Y - X, ae⟩ = ⟨rs, rn, re⟩) := hbt
   clear la4 lb4 lc4 zc4 bd q0 q1 q2 q3 q4 q5 hbt HBR HCM
   go_wp2
   go_region_held3 (fun wq => wq.cell? ⟨w.heap.size + 1, 0, none⟩ = some (.bool sb)) (go_keep) (first
    | (go_at_call 121; refine (HLS.out Y X v2 v1 _ (by omega) (by omega) r2 r1).mono ?_; rintro z w6 ⟨vs, rfl, r6, b6⟩; have la6 := la5.later b6; have lb6 := lb5.later b6; have lc6 := lc5.later b6; have zc6 := zc5.later b6; have b06 := below_trans b05 b6; obtain ⟨so, sc, hvs⟩ := r6.shape; subst hvs; obtain ⟨-, ⟨t0, t1, t2⟩, -⟩ := id lb6)
    | (go_at_call 79; refine (HBR2.out _ w6 ⟨_, rfl, r6⟩).mono ?_; rintro z w7 ⟨vt, rfl, r7, hF7, b7⟩; have la7 := la6.later b7; have lb7 := lb6.later b7; have lc7 := lc6.later b7; have zc7 := zc6.later b7; have b07 := below_trans b06 b7; obtain ⟨tq, tc, hvt⟩ := r7.shape; subst hvt; have HF : Hid (Far w.heap.size (.slice tq (Dg.dg 65536 rn).length tc)) := hF7.mono b06.size; clear hF7; obtain ⟨-, ⟨u0, u1, u2⟩, -⟩ := id lb7; obtain ⟨hl7, ⟨d0, d1, d2⟩, f0, f1, f2⟩ := id lc7))
   all_goals go_wp2
   obtain ⟨-, ⟨g0, g1, g2⟩, -⟩ := loc_set lc7 (.bool rs) (.slice tq (Dg.dg 65536 rn).length tc) (.int .i64 re)
   have r8 := zc7.rd r7 (Dg.norm_dg _ _ (by omega)) (.bool rs) (.slice tq (Dg.dg 65536 rn).length tc) (.int .i64 re)
   have b8 := below_set3 b07 (show w.heap.size ≤ w.heap.size + 1 + 1 by omega) (.bool rs) (.slice tq (Dg.dg 65536 rn).length tc) (.int .i64 re)
   refine bodyPost_ret (v := .agg #[.bool rs, .slice tq (Dg.dg 65536 rn).length tc, .int .i64 re]) (by simp [results, Tryz.results118, go_sem, g0, g1, g2]) rfl ?_
   show RDResF w (bare ⟨sb, Y - X, ae⟩) _ _
   rw [HBT.out]
   exact ⟨_, rfl, r8, HF.out, b8⟩
end Go.Proofs.YtnhackdjplppjaaGreatDoor
namespace Go.Proofs.YtnhackdjplppjaaGreatDoor
open Go.RowKit
set_option maxHeartbeats 6400000 in
theorem refdplus_diffd (v u : Value) (a b : Trip) (w : World) (hv : Rv w v a) (hu : Rv w u b) (hLa : (Dg.dg 65536 a.n).length ≤ 30000) (hLb : (Dg.dg 65536 b.n).length ≤ 30000)
  (ha1 : -200000 ≤ a.e) (ha2 : a.e ≤ 200000) (hb1 : -200000 ≤ b.e) (hb2 : b.e ≤ 200000) (hs : ¬a.s = b.s) (ha0 : ¬a.n = 0) (hb0 : ¬b.n = 0) :
  Calls Tryz.prog 118 #[v, u] w (RDResF w (bare (dplusT a b))) := by
 obtain ⟨s0, rfl, ra⟩ := hv
 obtain ⟨ao, ca, rfl⟩ := ra.shape
 obtain ⟨s1, rfl, rb⟩ := hu
 obtain ⟨bo, cb, rfl⟩ := rb.shape
 obtain ⟨sa, an, ae⟩ := a
 obtain ⟨sb, bn, be⟩ := b
 simp only at ra rb hLa hLb ha1 ha2 hb1 hb2 hs ha0 hb0 ⊢
 have HU : Hid (∀ (k : Int) w1, 0 ≤ k → k ≤ 400000 → Below w.heap.size w w1 → Calls Tryz.prog 74 #[.slice ao (Dg.dg 65536 an).length ca, .int .i64 k] w1 (RNum w1 (an * 2 ^ k.toNat))) := fun k w1 h1 h2 b1 => by
  have := up_any _ _ k.toNat w1 (ra.later b1) (Dg.small_dg _ _ (by omega)) (by omega) (by omega)
  rwa [Dg.vl_dg _ _ (by omega), show ((k.toNat : Nat) : Int) = k from by omega] at this
 have HV : Hid (∀ (k : Int) w1, 0 ≤ k → k ≤ 400000 → Below w.heap.size w w1 → Calls Tryz.prog 74 #[.slice bo (Dg.dg 65536 bn).length cb, .int .i64 k] w1 (RNum w1 (bn * 2 ^ k.toNat))) := fun k w1 h1 h2 b1 => by
  have := up_any _ _ k.toNat w1 (rb.later b1) (Dg.small_dg _ _ (by omega)) (by omega) (by omega)
  rwa [Dg.vl_dg _ _ (by omega), show ((k.toNat : Nat) : Int) = k from by omega] at this
 have HPL : Hid (∀ P Q v1 v2 w1, (Dg.dg 65536 P).length ≤ 60000 → (Dg.dg 65536 Q).length ≤ 60000 → Rd w1 .i64 v1 (Dg.dg 65536 P) → Rd w1 .i64 v2 (Dg.dg 65536 Q) → Calls Tryz.prog 78 #[v1, v2] w1 (RNum w1 (P + Q))) := fun P Q v1 v2 w1 l1 l2 h1 h2 => by
  have := refplus_any v1 v2 _ _ w1 h1 h2 (Dg.small_dg _ _ (by omega)) (Dg.small_dg _ _ (by omega)) (Dg.norm_dg _ _ (by omega)) (Dg.norm_dg _ _ (by omega)) (by omega) (by omega)
  rwa [Dg.vl_dg _ _ (by omega), Dg.vl_dg _ _ (by omega)] at this
 have HCM : Hid (∀ P Q v1 v2 w1, Rd w1 .i64 v1 (Dg.dg 65536 P) → Rd w1 .i64 v2 (Dg.dg 65536 Q) → Calls Tryz.prog 77 #[v1, v2] w1 fun e w' => e = .returned (.int .i64 (cmpI P Q)) ∧ Below w1.heap.size w1 w') := fun P Q v1 v2 w1 h1 h2 => by
  have := refcmp_any v1 v2 _ _ w1 h1 h2 (Dg.small_dg _ _ (by omega)) (Dg.small_dg _ _ (by omega)) (Dg.norm_dg _ _ (by omega)) (Dg.norm_dg _ _ (by omega))
  rwa [Dg.vl_dg _ _ (by omega), Dg.vl_dg _ _ (by omega)] at this
 have HLS : Hid (∀ P Q v1 v2 w1, Q ≤ P → (Dg.dg 65536 P).length ≤ 60000 → Rd w1 .i64 v1 (Dg.dg 65536 P) → Rd w1 .i64 v2 (Dg.dg 65536 Q) → Calls Tryz.prog 121 #[v1, v2] w1 (RNum w1 (P - Q))) := fun P Q v1 v2 w1 hle l1 h1 h2 => by
  have := refless_any v1 v2 _ _ w1 h1 h2 (Dg.small_dg _ _ (by omega)) (Dg.small_dg _ _ (by omega)) (by omega) (dg_len_mono _ _ _ (by omega) hle) (by rw [Dg.vl_dg _ _ (by omega), Dg.vl_dg _ _ (by omega)]; exact hle)
  rwa [Dg.vl_dg _ _ (by omega), Dg.vl_dg _ _ (by omega)] at this
 have HBR : Hid (∀ v t w1, Rv w1 v t → (Dg.dg 65536 t.n).length ≤ 100000 → -1000000 ≤ t.e → t.e ≤ 1000000 → Calls Tryz.prog 79 #[v] w1 (RDResF w1 (bare t))) := fun v t w1 h1 h2 h3 h4 => bared_far v t w1 h1 h2 h3 h4
 have lu : ∀ k : Int, k ≤ 400000 → (Dg.dg 65536 (an * 2 ^ k.toNat)).length ≤ 55001 := fun k hk => Nat.le_trans (up_len16 an k.toNat 30000 25001 hLa (by omega)) (by omega)
 have lv : ∀ k : Int, k ≤ 400000 → (Dg.dg 65536 (bn * 2 ^ k.toNat)).length ≤ 55001 := fun k hk => Nat.le_trans (up_len16 bn k.toNat 30000 25001 hLb (by omega)) (by omega)
 have n1 := Dg.dg_nil_iff 65536 an (by omega)
 have n2 := Dg.dg_nil_iff 65536 bn (by omega)
 have z1 : (((Dg.dg 65536 an).length : Int) == 0) = decide (an = 0) := by
  by_cases h : an = 0
  ·rw [decide_eq_true h, n1.2 h]; rfl
  ·rw [decide_eq_false h]; simp; exact fun e => h (n1.1 e)
 have z2 : (((Dg.dg 65536 bn).length : Int) == 0) = decide (bn = 0) := by
  by_cases h : bn = 0
  ·rw [decide_eq_true h, n2.2 h]; rfl
  ·rw [decide_eq_false h]; simp; exact fun e => h (n2.1 e)
 obtain ⟨ma, hma⟩ : ∃ m, (Dg.dg 65536 an).length = m := ⟨_, rfl⟩
 obtain ⟨mb, hmb⟩ : ∃ m, (Dg.dg 65536 bn).length = m := ⟨_, rfl⟩
 rw [hma] at HU z1 ⊢
 rw [hmb] at HV z2 ⊢
 clear hma hmb ra rb hLa hLb n1 n2
 obtain ⟨la, lb, lc, b01, -⟩ := locals3 w (.bool sa) (.slice ao ma ca) (.int .i64 ae) (.bool sb) (.slice bo mb cb) (.int .i64 be) (.bool false) (.slice none 0 0) (.int .i64 0) 30 30 30
 have zc := locals3z w (.bool sa) (.slice ao ma ca) (.int .i64 ae) (.bool sb) (.slice bo mb cb) (.int .i64 be) 30 30 30
 obtain ⟨W, hW⟩ : ∃ W, (((w.alloc (.cells #[.bool sa, .slice ao ma ca, .int .i64 ae] 30)).alloc (.cells #[.bool sb, .slice bo mb cb, .int .i64 be] 30)).alloc (.cells #[.bool false, .slice none 0 0, .int .i64 0] 30)) = W := ⟨_, rfl⟩
 rw [hW] at la lb lc b01 zc
 have bd : Below W.heap.size W W.drew := (Below.refl _ _).drew
 have la := la.later bd
 have lb := lb.later bd
 have lc := lc.later bd
 have zc := zc.later bd
 have b02 := below_trans b01 bd
 rw [← hW] at la lb lc b02 zc
 clear bd b01 hW
 have ne3 : w.heap.size + 1 + 1 ≠ w.heap.size := by omega
 have ne4 : w.heap.size ≠ w.heap.size + 1 + 1 := by omega
 unfold dplusT
 simp only
 rw [decide_eq_false ha0] at z1
 rw [decide_eq_false hb0] at z2
 have E0 : (if bn = 0 then ae else if an = 0 then be else min ae be) = min ae be := by simp [ha0, hb0]
 rw [E0]
 clear E0
 by_cases hle : bn * 2 ^ (max 0 (be - min ae be) : Int).toNat ≤ an * 2 ^ (max 0 (ae - min ae be) : Int).toNat
 ·have ea : IntKind.i64.wrap (ae - (min ae be)) = ae - (min ae be) := IntWalk.i64_in _ ⟨by omega, by omega⟩
  have eb : IntKind.i64.wrap (be - (min ae be)) = be - (min ae be) := IntWalk.i64_in _ ⟨by omega, by omega⟩
  have hua := HU.out (max 0 (ae - min ae be))
  have hvb := HV.out (max 0 (be - min ae be))
  have lX := lu (max 0 (ae - min ae be)) (by omega)
  have lY := lv (max 0 (be - min ae be)) (by omega)
  obtain ⟨X, hX⟩ : ∃ X, an * 2 ^ (max 0 (ae - min ae be)).toNat = X := ⟨_, rfl⟩
  obtain ⟨Y, hY⟩ : ∃ Y, bn * 2 ^ (max 0 (be - min ae be)).toNat = Y := ⟨_, rfl⟩
  rw [hX] at hua lX hle ⊢
  rw [hY] at hvb lY hle ⊢
  have HUA : Hid (∀ w1, Below w.heap.size w w1 → Calls Tryz.prog 74 #[.slice ao ma ca, .int .i64 (max 0 (ae - min ae be))] w1 (RNum w1 X)) := fun w1 b1 => hua w1 (by omega) (by omega) b1
  have HVB : Hid (∀ w1, Below w.heap.size w w1 → Calls Tryz.prog 74 #[.slice bo mb cb, .int .i64 (max 0 (be - min ae be))] w1 (RNum w1 Y)) := fun w1 b1 => hvb w1 (by omega) (by omega) b1
  clear hua hvb HU HV lu lv hX hY
  rw [if_neg hs, if_pos hle]
  have hsb : (sa == sb) = false := by simp [hs]
  have hd := cmpI_ge (a := (X : Int)) (b := (Y : Int)) (by omega)
  obtain ⟨r, hr⟩ : ∃ r, cmpI X Y = r := ⟨_, rfl⟩
  have HCM2 := HCM.out X Y
  rw [hr] at HCM2 hd
  have HCM3 : Hid _ := HCM2
  clear hr HCM2
  go_enter Tryz.func118, Tryz.ntmps118
  obtain ⟨-, ⟨ca0, ca1, ca2⟩, -⟩ := id la
  obtain ⟨-, ⟨cb0, cb1, cb2⟩, -⟩ := id lb
  go_wp2_with fail
  go_region_held3 (fun wq => (wq.cell? ⟨w.heap.size, 0, none⟩ = some (.bool sa) ∧ wq.cell? ⟨w.heap.size, 1, none⟩ = some (.slice ao ma ca) ∧ wq.cell? ⟨w.heap.size, 2, none⟩ = some (.int .i64 ae)) ∧ wq.cell? ⟨w.heap.size + 1, 0, none⟩ = some (.bool sb) ∧ wq.cell? ⟨w.heap.size + 1, 1, none⟩ = some (.slice bo mb cb) ∧ wq.cell? ⟨w.heap.size + 1, 2, none⟩ = some (.int .i64 be)) (go_keep) (first
   | (go_at_call 74; refine (HUA.out _ b02).mono ?_; rintro z w3 ⟨v1, rfl, o1, b3⟩; have la3 := la.later b3; have lb3 := lb.later b3; have lc3 := lc.later b3; have zc3 := zc.later b3; have b03 := below_trans b02 b3; obtain ⟨-, ⟨p0, p1, p2⟩, -⟩ := id la3; obtain ⟨-, ⟨p3, p4, p5⟩, -⟩ := id lb3; clear b02)
   | (go_at_call 74; refine (HVB.out _ b03).mono ?_; rintro z w4 ⟨v2, rfl, r2, b4⟩; have la4 := la3.later b4; have lb4 := lb3.later b4; have lc4 := lc3.later b4; have zc4 := zc3.later b4; have b04 := below_trans b03 b4; have r1 := o1.later b4; obtain ⟨-, ⟨q0, q1, q2⟩, -⟩ := id la4; obtain ⟨-, ⟨q3, q4, q5⟩, -⟩ := id lb4))
  all_goals
   clear la lb lc zc la3 lb3 lc3 zc3 p0 p1 p2 p3 p4 p5 ca0 ca1 ca2 cb0 cb1 cb2 b03 o1 b3 b4 HUA HVB
   go_wp2_with fail
   refine (HCM3.out v1 v2 w4 r1 r2).mono ?_
   rintro z w9 ⟨rfl, b9⟩
   have la4 := la4.later b9
   have lb4 := lb4.later b9
   have lc4 := lc4.later b9
   have zc4 := zc4.later b9
   have b04 := below_trans b04 b9
   have r1 := r1.later b9
   have r2 := r2.later b9
   clear b9
   have bd : Below w9.heap.size w9 w9.drew := (Below.refl _ _).drew
   have la5 := la4.later bd
   have lb5 := lb4.later bd
   have lc5 := lc4.later bd
   have zc5 := zc4.later bd
   have b05 := below_trans b04 bd
   have r1 := r1.later bd
   have r2 := r2.later bd
   obtain ⟨-, ⟨c0, c1, c2⟩, -⟩ := id la5
   obtain ⟨-, ⟨c3, c4, c5⟩, -⟩ := id lb5
   obtain ⟨⟨rs, rn, re⟩, hbt⟩ : ∃ bt, bare ⟨sa, X - Y, min ae be⟩ = bt := ⟨_, rfl⟩
   have HBR2 : Hid (∀ v w1, Rv w1 v ⟨sa, X - Y, min ae be⟩ → Calls Tryz.prog 79 #[v] w1 (RDResF w1 ⟨rs, rn, re⟩)) := fun v w1 hv => by
    have := HBR.out v ⟨sa, X - Y, min ae be⟩ w1 hv (by simp only; exact Nat.le_trans (dg_len_mono 65536 _ X (by omega) (Nat.sub_le _ _)) (by omega)) (by simp only; omega) (by simp only; omega)
    rwa [hbt] at this
   have HBT : Hid (bare ⟨sa, X - Y, min ae be⟩ = ⟨rs, rn, re⟩) := hbt
   clear la4 lb4 lc4 zc4 bd q0 q1 q2 q3 q4 q5 hbt HBR HCM
   go_wp2
   go_region_held3 (fun wq => wq.cell? ⟨w.heap.size, 0, none⟩ = some (.bool sa)) (go_keep) (first
    | (go_at_call 121; refine (HLS.out X Y v1 v2 _ hle (by omega) r1 r2).mono ?_; rintro z w6 ⟨vs, rfl, r6, b6⟩; have la6 := la5.later b6; have lb6 := lb5.later b6; have lc6 := lc5.later b6; have zc6 := zc5.later b6; have b06 := below_trans b05 b6; obtain ⟨so, sc, hvs⟩ := r6.shape; subst hvs; obtain ⟨-, ⟨t0, t1, t2⟩, -⟩ := id la6)
    | (go_at_call 79; refine (HBR2.out _ w6 ⟨_, rfl, r6⟩).mono ?_; rintro z w7 ⟨vt, rfl, r7, hF7, b7⟩; have la7 := la6.later b7; have lb7 := lb6.later b7; have lc7 := lc6.later b7; have zc7 := zc6.later b7; have b07 := below_trans b06 b7; obtain ⟨tq, tc, hvt⟩ := r7.shape; subst hvt; have HF : Hid (Far w.heap.size (.slice tq (Dg.dg 65536 rn).length tc)) := hF7.mono b06.size; clear hF7; obtain ⟨-, ⟨u0, u1, u2⟩, -⟩ := id la7; obtain ⟨hl7, ⟨d0, d1, d2⟩, f0, f1, f2⟩ := id lc7))
   all_goals go_wp2
   obtain ⟨-, ⟨g0, g1, g2⟩, -⟩ := loc_set lc7 (.bool rs) (.slice tq (Dg.dg 65536 rn).length tc) (.int .i64 re)
   have r8 := zc7.rd r7 (Dg.norm_dg _ _ (by omega)) (.bool rs) (.slice tq (Dg.dg 65536 rn).length tc) (.int .i64 re)
   have b8 := below_set3 b07 (show w.heap.size ≤ w.heap.size + 1 + 1 by omega) (.bool rs) (.slice tq (Dg.dg 65536 rn).length tc) (.int .i64 re)
   refine bodyPost_ret (v := .agg #[.bool rs, .slice tq (Dg.dg 65536 rn).length tc, .int .i64 re]) (by simp [results, Tryz.results118, go_sem, g0, g1, g2]) rfl ?_
   show RDResF w (bare ⟨sa, X - Y, min ae be⟩) _ _
   rw [HBT.out]
   exact ⟨_, rfl, r8, HF.out, b8⟩
 ·have ea : IntKind.i64.wrap (ae - (min ae be)) = ae - (min ae be) := IntWalk.i64_in _ ⟨by omega, by omega⟩
  have eb : IntKind.i64.wrap (be - (min ae be)) = be - (min ae be) := IntWalk.i64_in _ ⟨by omega, by omega⟩
  have hua := HU.out (max 0 (ae - min ae be))
  have hvb := HV.out (max 0 (be - min ae be))
  have lX := lu (max 0 (ae - min ae be)) (by omega)
  have lY := lv (max 0 (be - min ae be)) (by omega)
  obtain ⟨X, hX⟩ : ∃ X, an * 2 ^ (max 0 (ae - min ae be)).toNat = X := ⟨_, rfl⟩
  obtain ⟨Y, hY⟩ : ∃ Y, bn * 2 ^ (max 0 (be - min ae be)).toNat = Y := ⟨_, rfl⟩
  rw [hX] at hua lX hle ⊢
  rw [hY] at hvb lY hle ⊢
  have HUA : Hid (∀ w1, Below w.heap.size w w1 → Calls Tryz.prog 74 #[.slice ao ma ca, .int .i64 (max 0 (ae - min ae be))] w1 (RNum w1 X)) := fun w1 b1 => hua w1 (by omega) (by omega) b1
  have HVB : Hid (∀ w1, Below w.heap.size w w1 → Calls Tryz.prog 74 #[.slice bo mb cb, .int .i64 (max 0 (be - min ae be))] w1 (RNum w1 Y)) := fun w1 b1 => hvb w1 (by omega) (by omega) b1
  clear hua hvb HU HV lu lv hX hY
  rw [if_neg hs, if_neg hle]
  have hsb : (sa == sb) = false := by simp [hs]
  have HCM2 := HCM.out X Y
  rw [cmpI_lt (by omega)] at HCM2
  have HCM3 : Hid _ := HCM2
  clear HCM2
  go_enter Tryz.func118, Tryz.ntmps118
  obtain ⟨-, ⟨ca0, ca1, ca2⟩, -⟩ := id la
  obtain ⟨-, ⟨cb0, cb1, cb2⟩, -⟩ := id lb
  go_wp2_with fail
  go_region_held3 (fun wq => (wq.cell? ⟨w.heap.size, 0, none⟩ = some (.bool sa) ∧ wq.cell? ⟨w.heap.size, 1, none⟩ = some (.slice ao ma ca) ∧ wq.cell? ⟨w.heap.size, 2, none⟩ = some (.int .i64 ae)) ∧ wq.cell? ⟨w.heap.size + 1, 0, none⟩ = some (.bool sb) ∧ wq.cell? ⟨w.heap.size + 1, 1, none⟩ = some (.slice bo mb cb) ∧ wq.cell? ⟨w.heap.size + 1, 2, none⟩ = some (.int .i64 be)) (go_keep) (first
   | (go_at_call 74; refine (HUA.out _ b02).mono ?_; rintro z w3 ⟨v1, rfl, o1, b3⟩; have la3 := la.later b3; have lb3 := lb.later b3; have lc3 := lc.later b3; have zc3 := zc.later b3; have b03 := below_trans b02 b3; obtain ⟨-, ⟨p0, p1, p2⟩, -⟩ := id la3; obtain ⟨-, ⟨p3, p4, p5⟩, -⟩ := id lb3; clear b02)
   | (go_at_call 74; refine (HVB.out _ b03).mono ?_; rintro z w4 ⟨v2, rfl, r2, b4⟩; have la4 := la3.later b4; have lb4 := lb3.later b4; have lc4 := lc3.later b4; have zc4 := zc3.later b4; have b04 := below_trans b03 b4; have r1 := o1.later b4; obtain ⟨-, ⟨q0, q1, q2⟩, -⟩ := id la4; obtain ⟨-, ⟨q3, q4, q5⟩, -⟩ := id lb4))
  all_goals
   clear la lb lc zc la3 lb3 lc3 zc3 p0 p1 p2 p3 p4 p5 ca0 ca1 ca2 cb0 cb1 cb2 b03 o1 b3 b4 HUA HVB
   go_wp2_with fail
   refine (HCM3.out v1 v2 w4 r1 r2).mono ?_
   rintro z w9 ⟨rfl, b9⟩
   have la4 := la4.later b9
   have lb4 := lb4.later b9
   have lc4 := lc4.later b9
   have zc4 := zc4.later b9
   have b04 := below_trans b04 b9
   have r1 := r1.later b9
   have r2 := r2.later b9
   clear b9
   have bd : Below w9.heap.size w9 w9.drew := (Below.refl _ _).drew
   have la5 := la4.later bd
   have lb5 := lb4.later bd
   have lc5 := lc4.later bd
   have zc5 := zc4.later bd
   have b05 := below_trans b04 bd
   have r1 := r1.later bd
   have r2 := r2.later bd
   obtain ⟨-, ⟨c0, c1, c2⟩, -⟩ := id la5
   obtain ⟨-, ⟨c3, c4, c5⟩, -⟩ := id lb5
   obtain ⟨⟨rs, rn, re⟩, hbt⟩ : ∃ bt, bare ⟨sb, Y - X, min ae be⟩ = bt := ⟨_, rfl⟩
   have HBR2 : Hid (∀ v w1, Rv w1 v ⟨sb, Y - X, min ae be⟩ → Calls Tryz.prog 79 #[v] w1 (RDResF w1 ⟨rs, rn, re⟩)) := fun v w1 hv => by
    have := HBR.out v ⟨sb, Y - X, min ae be⟩ w1 hv (by simp only; exact Nat.le_trans (dg_len_mono 65536 _ Y (by omega) (Nat.sub_le _ _)) (by omega)) (by simp only; omega) (by simp only; omega)
    rwa [hbt] at this
   have HBT : Hid (bare ⟨sb, Y - X, min ae be⟩ = ⟨rs, rn, re⟩) := hbt
   clear la4 lb4 lc4 zc4 bd q0 q1 q2 q3 q4 q5 hbt HBR HCM
   go_wp2
   go_region_held3 (fun wq => wq.cell? ⟨w.heap.size + 1, 0, none⟩ = some (.bool sb)) (go_keep) (first
    | (go_at_call 121; refine (HLS.out Y X v2 v1 _ (by omega) (by omega) r2 r1).mono ?_; rintro z w6 ⟨vs, rfl, r6, b6⟩; have la6 := la5.later b6; have lb6 := lb5.later b6; have lc6 := lc5.later b6; have zc6 := zc5.later b6; have b06 := below_trans b05 b6; obtain ⟨so, sc, hvs⟩ := r6.shape; subst hvs; obtain ⟨-, ⟨t0, t1, t2⟩, -⟩ := id lb6)
    | (go_at_call 79; refine (HBR2.out _ w6 ⟨_, rfl, r6⟩).mono ?_; rintro z w7 ⟨vt, rfl, r7, hF7, b7⟩; have la7 := la6.later b7; have lb7 := lb6.later b7; have lc7 := lc6.later b7; have zc7 := zc6.later b7; have b07 := below_trans b06 b7; obtain ⟨tq, tc, hvt⟩ := r7.shape; subst hvt; have HF : Hid (Far w.heap.size (.slice tq (Dg.dg 65536 rn).length tc)) := hF7.mono b06.size; clear hF7; obtain ⟨-, ⟨u0, u1, u2⟩, -⟩ := id lb7; obtain ⟨hl7, ⟨d0, d1, d2⟩, f0, f1, f2⟩ := id lc7))
   all_goals go_wp2
   obtain ⟨-, ⟨g0, g1, g2⟩, -⟩ := loc_set lc7 (.bool rs) (.slice tq (Dg.dg 65536 rn).length tc) (.int .i64 re)
   have r8 := zc7.rd r7 (Dg.norm_dg _ _ (by omega)) (.bool rs) (.slice tq (Dg.dg 65536 rn).length tc) (.int .i64 re)
   have b8 := below_set3 b07 (show w.heap.size ≤ w.heap.size + 1 + 1 by omega) (.bool rs) (.slice tq (Dg.dg 65536 rn).length tc) (.int .i64 re)
   refine bodyPost_ret (v := .agg #[.bool rs, .slice tq (Dg.dg 65536 rn).length tc, .int .i64 re]) (by simp [results, Tryz.results118, go_sem, g0, g1, g2]) rfl ?_
   show RDResF w (bare ⟨sb, Y - X, min ae be⟩) _ _
   rw [HBT.out]
   exact ⟨_, rfl, r8, HF.out, b8⟩
end Go.Proofs.YtnhackdjplppjaaGreatDoor
namespace Go.Proofs.YtnhackdjplppjaaGreatDoor
open Go.RowKit
theorem refdplus_far (v u : Value) (a b : Trip) (w : World) (hv : Rv w v a) (hu : Rv w u b) (hLa : (Dg.dg 65536 a.n).length ≤ 30000) (hLb : (Dg.dg 65536 b.n).length ≤ 30000)
  (ha1 : -200000 ≤ a.e) (ha2 : a.e ≤ 200000) (hb1 : -200000 ≤ b.e) (hb2 : b.e ≤ 200000) :
  Calls Tryz.prog 118 #[v, u] w (RDResF w (bare (dplusT a b))) := by
 by_cases h : a.s = b.s
 ·exact refdplus_same v u a b w hv hu hLa hLb ha1 ha2 hb1 hb2 h
 ·by_cases ha0 : a.n = 0
  ·by_cases hb0 : b.n = 0
   ·exact refdplus_diffa v u a b w hv hu hLa hLb ha1 ha2 hb1 hb2 h ha0 hb0
   ·exact refdplus_diffb v u a b w hv hu hLa hLb ha1 ha2 hb1 hb2 h ha0 hb0
  ·by_cases hb0 : b.n = 0
   ·exact refdplus_diffc v u a b w hv hu hLa hLb ha1 ha2 hb1 hb2 h ha0 hb0
   ·exact refdplus_diffd v u a b w hv hu hLa hLb ha1 ha2 hb1 hb2 h ha0 hb0
theorem refdplus_any (v u : Value) (a b : Trip) (w : World) (hv : Rv w v a) (hu : Rv w u b) (hLa : (Dg.dg 65536 a.n).length ≤ 30000) (hLb : (Dg.dg 65536 b.n).length ≤ 30000)
  (ha1 : -200000 ≤ a.e) (ha2 : a.e ≤ 200000) (hb1 : -200000 ≤ b.e) (hb2 : b.e ≤ 200000) :
  Calls Tryz.prog 118 #[v, u] w (RDRes w (bare (dplusT a b))) :=
 (refdplus_far v u a b w hv hu hLa hLb ha1 ha2 hb1 hb2).mono fun _ _ h => h.near
end Go.Proofs.YtnhackdjplppjaaGreatDoor

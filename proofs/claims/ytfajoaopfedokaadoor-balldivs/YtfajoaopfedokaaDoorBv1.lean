/-
  Contract of the reference's DOver, DSign.
-/
import Derived.Test.YtfajoaopfedokaaDoorDk3
import Derived.Test.YtfajoaopfedokaaDoorBo
namespace Go.Proofs.YtfajoaopfedokaaDoor
open Go.RowKit

theorem tz_fits16 (n L : Nat) (h : (Dg.dg 65536 n).length ≤ L) : tz n ≤ 16 * L := by
  by_cases h0 : n = 0
  · subst h0
    exact Nat.le_trans (Nat.le_of_eq (by rfl)) (Nat.zero_le _)
  · obtain ⟨m, hm⟩ := tz_spec h0
    have h1 := bitLen_of_len16 h
    have h2 : 2 ^ tz n ≤ n := by
      have : 2 ^ tz n * 1 ≤ 2 ^ tz n * (2 * m + 1) := Nat.mul_le_mul_left _ (by omega)
      omega
    have h3 := (bitLen_spec n).1
    have h4 : 2 ^ tz n < 2 ^ bitLen n := by omega
    have h5 := (Nat.pow_lt_pow_iff_right (by omega : 1 < 2)).1 h4
    omega

theorem loc_set1 {w : World} {b : Nat} {v0 v1 v2 : Value} (h : Loc w b v0 v1 v2) (x1 : Value) : Loc (w.setCell ⟨b, 1, none⟩ x1) b v0 x1 v2 := by
  obtain ⟨hl, ⟨c0, c1, c2⟩, f0, f1, f2⟩ := h
  refine ⟨by simpa using hl, ⟨?_, ?_, ?_⟩, by simpa using f0, by simpa using f1, by simpa using f2⟩
  · rw [World.cell?_setCell_other (h := by simp)]; exact c0
  · exact World.cell?_setCell_same _ _ _ c1
  · rw [World.cell?_setCell_other (h := by simp)]; exact c2

theorem Loc.apart1 {w : World} {b c : Nat} {v0 v1 v2 : Value} (h : Loc w b v0 v1 v2) (hne : c ≠ b) (x1 : Value) : Loc (w.setCell ⟨c, 1, none⟩ x1) b v0 v1 v2 := by
  obtain ⟨hl, ⟨c0, c1, c2⟩, f0, f1, f2⟩ := h
  refine ⟨by simpa using hl, ⟨?_, ?_, ?_⟩, by simpa using f0, by simpa using f1, by simpa using f2⟩
  · rw [World.cell?_setCell_other (h := by simp)]; exact c0
  · rw [World.cell?_setCell_other (h := by simp)]; exact c1
  · rw [World.cell?_setCell_other (h := by simp)]; exact c2

/-- A row of numbers does not lie where a slice lies. -/
theorem rd_set1 {w : World} {k : IntKind} {v : Value} {zs : List Nat} {p : Nat} {a : Option Addr} {l c : Nat} (hr : Rd w k v zs) (h : w.cell? ⟨p, 1, none⟩ = some (.slice a l c)) (x : Value) : Rd (w.setCell ⟨p, 1, none⟩ x) k v zs := by
  obtain ⟨ao, cap, rfl, h1, h2, h3⟩ := hr
  refine ⟨ao, cap, rfl, h1, h2, fun hp => ?_⟩
  obtain ⟨b, off, rfl, hc⟩ := h3 hp
  refine ⟨b, off, rfl, fun i hi => ?_⟩
  have k1 := hc i hi
  rw [World.cell?_setCell_other (h := ?_)]
  · exact k1
  · intro e
    rw [← e, h] at k1
    cases k1

set_option maxRecDepth 100000 in
set_option maxHeartbeats 3200000 in
theorem refdover_any (v u : Value) (a b : Trip) (B : Nat) (up : Bool) (w : World) (hv : Rv w v a) (hu : Rv w u b) (hb0 : 0 < b.n) (hLa : (Dg.dg 65536 a.n).length ≤ 2400) (hLb : (Dg.dg 65536 b.n).length ≤ 2400)
    (ha1 : -20000 ≤ a.e) (ha2 : a.e ≤ 58400) (hb1 : -20000 ≤ b.e) (hb2 : b.e ≤ 58400) (hB1 : 1 ≤ B) (hB2 : B ≤ 4096) :
    Calls Tryd.prog 46 #[v, u, .int .i64 B, .bool up] w (RDRes w (dOverT a b B up)) := by
  obtain ⟨s0, rfl, ra⟩ := hv
  obtain ⟨s1, rfl, rb⟩ := hu
  obtain ⟨sa, an, ae⟩ := a
  obtain ⟨sb, bn, be⟩ := b
  simp only at ra rb hLa hLb ha1 ha2 hb1 hb2 hb0 ⊢
  have hbl := bitLen_of_len16 hLb
  obtain ⟨nn, hnn⟩ : ∃ nn, B + 4 + bitLen bn = nn := ⟨_, rfl⟩
  have hnl : nn ≤ 43000 := by omega
  have HLN : Hid (∀ w1, Below w.heap.size w w1 → Calls Tryd.prog 91 #[s1] w1 fun z w' => z = .returned (.int .i64 (bitLen bn : Nat)) ∧ Below w1.heap.size w1 w') := fun w1 b1 => by
    have := reflen_any s1 _ w1 (rb.later b1) (Dg.small_dg _ _ (by omega)) (Dg.norm_dg _ _ (by omega)) (by omega)
    rw [Dg.vl_dg _ _ (by omega)] at this
    exact this.mono fun z w' ⟨h1, h2⟩ => ⟨h1, by rw [h2]; exact Below.refl _ _⟩
  have HUP : Hid (∀ w1, Below w.heap.size w w1 → Calls Tryd.prog 79 #[s0, .int .i64 nn] w1 (RNum w1 (an * 2 ^ nn))) := fun w1 b1 => by
    have := up_any s0 _ nn w1 (ra.later b1) (Dg.small_dg _ _ (by omega)) (by omega) (by omega)
    rwa [Dg.vl_dg _ _ (by omega)] at this
  have lx := up_len16 an nn 2400 2700 hLa (by omega)
  have HIN : Hid (∀ v1 w1, Below w.heap.size w w1 → Rd w1 .i64 v1 (Dg.dg 65536 (an * 2 ^ nn)) → Calls Tryd.prog 92 #[v1, s1] w1 (RTwo w1 (an * 2 ^ nn / bn) (an * 2 ^ nn % bn))) := fun v1 w1 b1 r =>
    into_any v1 s1 _ _ w1 r (rb.later b1) (by omega) (by omega) hb0
  have lq : (Dg.dg 65536 (an * 2 ^ nn / bn)).length ≤ 5200 := Nat.le_trans (dg_len_mono 65536 _ _ (by omega) (Nat.div_le_self _ _)) (by omega)
  unfold dOverT refOverT
  simp only
  rw [hnn]
  obtain ⟨Q, hQ⟩ : ∃ Q, an * 2 ^ nn / bn = Q := ⟨_, rfl⟩
  obtain ⟨M, hM⟩ : ∃ M, an * 2 ^ nn % bn = M := ⟨_, rfl⟩
  rw [hQ, hM] at HIN ⊢
  rw [hQ] at lq
  have HTI : Hid (∀ v1 v2 w1, Rd w1 .i64 v1 (Dg.dg 65536 Q) → Rd w1 .i64 v2 [4] → Calls Tryd.prog 87 #[v1, v2] w1 (RNum w1 (Q * 4))) := fun v1 v2 w1 r1 r2 => by
    have := reftimes_any v1 v2 _ _ w1 r1 r2 (Dg.small_dg _ _ (by omega)) (Dg.small_cons.2 ⟨by omega, Dg.small_nil _ (by omega)⟩) (by omega) (by simp)
    rwa [Dg.vl_dg _ _ (by omega), show Dg.vl 65536 [4] = 4 from by simp [Dg.vl]] at this
  have lq4 : (Dg.dg 65536 (Q * 4)).length ≤ 5201 := Nat.le_trans (mul_len16 Q 4 5200 1 lq (by decide)) (by omega)
  have HPL : Hid (∀ v1 v2 w1, Rd w1 .i64 v1 (Dg.dg 65536 (Q * 4)) → Rd w1 .i64 v2 [1] → Calls Tryd.prog 80 #[v1, v2] w1 (RNum w1 (Q * 4 + 1))) := fun v1 v2 w1 r1 r2 => by
    have := refplus_any v1 v2 _ _ w1 r1 r2 (Dg.small_dg _ _ (by omega)) (Dg.small_cons.2 ⟨by omega, Dg.small_nil _ (by omega)⟩) (Dg.norm_dg _ _ (by omega)) (by intro _; decide) (by omega) (by simp)
    rwa [Dg.vl_dg _ _ (by omega), show Dg.vl 65536 [1] = 1 from by simp [Dg.vl]] at this
  have lq5 : (Dg.dg 65536 (Q * 4 + 1)).length ≤ 5202 := add_len16 (Q * 4) 1 5201 lq4 (by decide)
  obtain ⟨N0, hN0⟩ : ∃ N, Q * 4 + (if 0 < M then 1 else 0) = N := ⟨_, rfl⟩
  have lN : (Dg.dg 65536 N0).length ≤ 5202 := by
    rw [← hN0]
    split
    · exact lq5
    · exact Nat.le_trans lq4 (by omega)
  obtain ⟨E, hE⟩ : ∃ E, ae - be - (nn : Int) - 2 = E := ⟨_, rfl⟩
  have htz := tz_fits16 N0 5202 lN
  have HBR : Hid (∀ v w1, Rv w1 v ⟨sa != sb, N0, E⟩ → Calls Tryd.prog 54 #[v] w1 (RDRes w1 (bare ⟨sa != sb, N0, E⟩))) := fun v w1 h => bared_any v _ w1 h (by show (Dg.dg 65536 N0).length ≤ 100000; omega) (by show -1000000 ≤ E; omega) (by show E ≤ 1000000; omega)
  have HDC : Hid (∀ v w1, Rv w1 v (bare ⟨sa != sb, N0, E⟩) → Calls Tryd.prog 93 #[v, .int .i64 B, .bool up] w1 (RDRes w1 (dcutT (bare ⟨sa != sb, N0, E⟩) B up))) := fun v w1 h => by
    refine refdcut_any v _ B up w1 h (Nat.le_trans (dg_len_mono 65536 _ _ (by omega) (bare_n_le3 _)) (by show (Dg.dg 65536 N0).length ≤ 30000; omega)) ?_ ?_ (by omega) (by omega)
    · unfold bare
      split
      · show -200000 ≤ (0 : Int); omega
      · show -200000 ≤ E + (tz N0 : Int); omega
    · unfold bare
      split
      · show (0 : Int) ≤ 200000; omega
      · show E + (tz N0 : Int) ≤ 200000; omega
  rw [hN0, hE]
  obtain ⟨⟨bs, b_n, b_e⟩, hbt⟩ : ∃ bt, bare ⟨sa != sb, N0, E⟩ = bt := ⟨_, rfl⟩
  rw [hbt] at HBR HDC ⊢
  obtain ⟨⟨rs, rn, re⟩, hrt⟩ : ∃ rt, dcutT ⟨bs, b_n, b_e⟩ B up = rt := ⟨_, rfl⟩
  rw [hrt] at HDC ⊢
  have hnl0 := Dg.dg_nil_iff 65536 an (by omega)
  have hMl := Dg.dg_nil_iff 65536 M (by omega)
  obtain ⟨ao, ca, rfl⟩ := ra.shape
  obtain ⟨bo, cb, rfl⟩ := rb.shape
  obtain ⟨ma, hma⟩ : ∃ m, (Dg.dg 65536 an).length = m := ⟨_, rfl⟩
  obtain ⟨mb, hmb⟩ : ∃ m, (Dg.dg 65536 bn).length = m := ⟨_, rfl⟩
  have hz : ma = 0 ↔ an = 0 := by rw [← hma, List.length_eq_zero_iff]; exact hnl0
  obtain ⟨L, hL⟩ : ∃ L, bitLen bn = L := ⟨_, rfl⟩
  rw [hma] at HUP ⊢
  rw [hmb] at HLN HIN ⊢
  rw [hL] at HLN hnn hbl
  obtain ⟨X, hX⟩ : ∃ X, an * 2 ^ nn = X := ⟨_, rfl⟩
  rw [hX] at HUP HIN
  clear ra rb hLa hLb hbt hrt hnl0 hma hmb hL hQ hM hX lx lq htz
  by_cases h0 : an = 0
  · rw [if_pos h0]
    have hm0 := hz.2 h0
    subst hm0
    go_enter Tryd.func46, Tryd.ntmps46
    go_wp2
    go_returns
    exact ⟨_, rfl, rd_nil _ _, below_trans (below_trans (below_alloc _ _) (below_alloc _ _)) (below_alloc _ _)⟩
  · rw [if_neg h0]
    have hm0 : ((ma : Int) == 0) = false := by
      have : ¬ma = 0 := fun e => h0 (hz.1 e)
      simp; exact this
    clear hz h0
    obtain ⟨la, lb, lc, b01, -⟩ := locals3 w (.bool sa) (.slice ao ma ca) (.int .i64 ae) (.bool sb) (.slice bo mb cb) (.int .i64 be) (.bool false) (.slice none 0 0) (.int .i64 0) 33 33 33
    have zc := locals3z w (.bool sa) (.slice ao ma ca) (.int .i64 ae) (.bool sb) (.slice bo mb cb) (.int .i64 be) 33 33 33
    go_enter Tryd.func46, Tryd.ntmps46
    have hnI : (B : Int) + 4 + (L : Int) = (nn : Int) := by omega
    rw [← hnI] at HUP
    have hE2 : ae - be - ((B : Int) + 4 + (L : Int)) - 2 = E := by omega
    clear hnn hE hnI
    go_wp2_with fail
    refine (HLN.out _ b01).mono ?_
    rintro z w1 ⟨rfl, b1⟩
    have bd : Below w1.heap.size w1 w1.drew := (Below.refl _ _).drew
    replace la := (la.later b1).later bd
    replace lb := (lb.later b1).later bd
    replace lc := (lc.later b1).later bd
    replace zc := (zc.later b1).later bd
    have b02 := below_trans (below_trans b01 b1) bd
    clear b01 b1 bd HLN
    obtain ⟨-, ⟨ca0, ca1, ca2⟩, -⟩ := id la
    obtain ⟨-, ⟨cb0, cb1, cb2⟩, -⟩ := id lb
    go_wp2_with fail
    go_region_held3 (fun wq => (wq.cell? ⟨w.heap.size, 0, none⟩ = some (.bool sa) ∧ wq.cell? ⟨w.heap.size, 1, none⟩ = some (.slice ao ma ca) ∧ wq.cell? ⟨w.heap.size, 2, none⟩ = some (.int .i64 ae)) ∧ wq.cell? ⟨w.heap.size + 1, 0, none⟩ = some (.bool sb) ∧ wq.cell? ⟨w.heap.size + 1, 1, none⟩ = some (.slice bo mb cb) ∧ wq.cell? ⟨w.heap.size + 1, 2, none⟩ = some (.int .i64 be)) (go_keep) (first
      | (go_at_call 79; have hgd := b02; clear hgd; refine (HUP.out _ b02).mono ?_; rintro z w3 ⟨v3, rfl, r3, b3⟩; have la3 := la.later b3; have lb3 := lb.later b3; have lc3 := lc.later b3; have zc3 := zc.later b3; have b03 := below_trans b02 b3; obtain ⟨-, ⟨t0, t1, t2⟩, -⟩ := id la3; obtain ⟨-, ⟨t3, t4, t5⟩, -⟩ := id lb3; clear b02)
      | (go_at_call 92; have hgd := b03; clear hgd; refine (HIN.out _ _ b03 r3).mono ?_; rintro z w4 ⟨vq, vr, rfl, rq, rr, b4⟩; have la4 := la3.later b4; have lb4 := lb3.later b4; have lc4 := lc3.later b4; have zc4 := zc3.later b4; have b04 := below_trans b03 b4; obtain ⟨-, ⟨t0, t1, t2⟩, -⟩ := id la4; obtain ⟨-, ⟨t3, t4, t5⟩, -⟩ := id lb4; clear b03))
    obtain ⟨qo, qc, hq⟩ := rq.shape
    subst hq
    obtain ⟨ro, rc, hr⟩ := rr.shape
    subst hr
    have b0d := b04
    clear b04 la lb lc zc la3 lb3 lc3 zc3 r3 b3 b4 HUP HIN ca0 ca1 ca2 cb0 cb1 cb2 t0 t1 t2 t3 t4 t5
    have bS : Below w4.heap.size w4 (w4.alloc (.cells #[.int .i64 4] 3)).drew := (below_alloc w4 (.cells #[.int .i64 4] 3)).drew
    have bA : Below w4.heap.size w4 (w4.alloc (.cells #[.bool false, .slice none 0 0, .int .i64 0] 33)).drew := (below_alloc w4 (.cells #[.bool false, .slice none 0 0, .int .i64 0] 33)).drew
    have bAS : Below w4.heap.size w4 ((w4.alloc (.cells #[.bool false, .slice none 0 0, .int .i64 0] 33)).alloc (.cells #[.int .i64 4] 3)).drew := (below_trans (below_alloc w4 (.cells #[.bool false, .slice none 0 0, .int .i64 0] 33)) (below_alloc _ (.cells #[.int .i64 4] 3))).drew
    have bSA : Below w4.heap.size w4 ((w4.alloc (.cells #[.int .i64 4] 3)).alloc (.cells #[.bool false, .slice none 0 0, .int .i64 0] 33)).drew := (below_trans (below_alloc w4 (.cells #[.int .i64 4] 3)) (below_alloc _ (.cells #[.bool false, .slice none 0 0, .int .i64 0] 33))).drew
    have rS : Rd (w4.alloc (.cells #[.int .i64 4] 3)).drew .i64 (.slice (some ⟨w4.heap.size, 0, none⟩) 1 1) [4] := (rd_new (w := w4) (k := .i64) (e := 3) [4] #[.int .i64 ((4 : Nat) : Int)] rfl (by unfold maxLen; simp)).later ((Below.refl _ _).drew)
    have rSA : Rd ((w4.alloc (.cells #[.int .i64 4] 3)).alloc (.cells #[.bool false, .slice none 0 0, .int .i64 0] 33)).drew .i64 (.slice (some ⟨w4.heap.size, 0, none⟩) 1 1) [4] := (rd_new (w := w4) (k := .i64) (e := 3) [4] #[.int .i64 ((4 : Nat) : Int)] rfl (by unfold maxLen; simp)).later ((below_alloc _ (.cells #[.bool false, .slice none 0 0, .int .i64 0] 33)).drew)
    have rAS : Rd ((w4.alloc (.cells #[.bool false, .slice none 0 0, .int .i64 0] 33)).alloc (.cells #[.int .i64 4] 3)).drew .i64 (.slice (some ⟨w4.heap.size + 1, 0, none⟩) 1 1) [4] := by
      have h1 := rd_new (w := w4.alloc (.cells #[.bool false, .slice none 0 0, .int .i64 0] 33)) (k := .i64) (e := 3) [4] #[.int .i64 ((4 : Nat) : Int)] rfl (by unfold maxLen; simp)
      rw [World.size_alloc] at h1
      exact h1.later ((Below.refl _ _).drew)
    have oAS := (((loc_new w4 (.bool false) (.slice none 0 0) (.int .i64 0) 33).later (below_alloc _ (.cells #[.int .i64 4] 3))).later ((Below.refl _ _).drew))
    have oSA := ((loc_new (w4.alloc (.cells #[.int .i64 4] 3)) (.bool false) (.slice none 0 0) (.int .i64 0) 33).later ((Below.refl _ _).drew))
    have yAS := (((zb_new w4 33).later (below_alloc _ (.cells #[.int .i64 4] 3))).later ((Below.refl _ _).drew))
    have ySA := ((zb_new (w4.alloc (.cells #[.int .i64 4] 3)) 33).later ((Below.refl _ _).drew))
    simp only [World.size_alloc] at oSA ySA
    have bD : Below w4.heap.size w4 w4.drew := (Below.refl _ _).drew
    have hs4 : w.heap.size + 1 + 1 < w4.heap.size := lc4.1
    have m1 : w4.heap.size ≠ w.heap.size := by omega
    have m2 : w4.heap.size ≠ w.heap.size + 1 := by omega
    have m3 : w4.heap.size + 1 ≠ w.heap.size := by omega
    have m4 : w4.heap.size + 1 ≠ w.heap.size + 1 := by omega
    have e1 : IntKind.i64.wrap (ae - be) = ae - be := IntWalk.i64_in _ ⟨by omega, by omega⟩
    have e2 : IntKind.i64.wrap (ae - be - ((B : Int) + 4 + (L : Int))) = ae - be - ((B : Int) + 4 + (L : Int)) := IntWalk.i64_in _ ⟨by omega, by omega⟩
    have e3 : IntKind.i64.wrap E = E := IntWalk.i64_in _ ⟨by omega, by omega⟩
    obtain ⟨-, ⟨s0, s1, s2⟩, -⟩ := la4.later bD
    obtain ⟨-, ⟨s3, s4, s5⟩, -⟩ := lb4.later bD
    obtain ⟨-, ⟨p0, p1, p2⟩, -⟩ := la4.later bS
    obtain ⟨-, ⟨p3, p4, p5⟩, -⟩ := lb4.later bS
    obtain ⟨-, ⟨q0, q1, q2⟩, -⟩ := la4.later bA
    obtain ⟨-, ⟨q3, q4, q5⟩, -⟩ := lb4.later bA
    obtain ⟨-, ⟨j0, j1, j2⟩, -⟩ := la4.later bAS
    obtain ⟨-, ⟨j3, j4, j5⟩, -⟩ := lb4.later bAS
    obtain ⟨-, ⟨k0, k1, k2⟩, -⟩ := la4.later bSA
    obtain ⟨-, ⟨k3, k4, k5⟩, -⟩ := lb4.later bSA
    go_wp2_with fail
    go_region_held3 (fun wq => (wq.cell? ⟨w.heap.size, 0, none⟩ = some (.bool sa) ∧ wq.cell? ⟨w.heap.size, 1, none⟩ = some (.slice ao ma ca) ∧ wq.cell? ⟨w.heap.size, 2, none⟩ = some (.int .i64 ae)) ∧ wq.cell? ⟨w.heap.size + 1, 0, none⟩ = some (.bool sb) ∧ wq.cell? ⟨w.heap.size + 1, 1, none⟩ = some (.slice bo mb cb) ∧ wq.cell? ⟨w.heap.size + 1, 2, none⟩ = some (.int .i64 be)) (go_keep) (first
      | (go_at_call 87; (with_reducible (refine (HTI.out _ _ _ (rq.later bAS) rAS).mono ?_)); rintro z w5 ⟨v5, rfl, r5, b5⟩; have la5 := (la4.later bAS).later b5; have lb5 := (lb4.later bAS).later b5; have lc5 := (lc4.later bAS).later b5; have zc5 := (zc4.later bAS).later b5; have rr5 := (rr.later bAS).later b5; have b05 := below_trans (below_trans b0d bAS) b5; obtain ⟨mo, mc, hm⟩ := r5.shape; subst hm; obtain ⟨-, ⟨t0, t1, t2⟩, -⟩ := id la5; obtain ⟨-, ⟨t3, t4, t5⟩, -⟩ := id lb5; have o5 := oAS.later b5; have y5 := yAS.later b5; obtain ⟨ho, ⟨i0, i1, i2⟩, f0, f1, f2⟩ := id o5)
      | (go_at_call 87; (with_reducible (refine (HTI.out _ _ _ (rq.later bSA) rSA).mono ?_)); rintro z w5 ⟨v5, rfl, r5, b5⟩; have la5 := (la4.later bSA).later b5; have lb5 := (lb4.later bSA).later b5; have lc5 := (lc4.later bSA).later b5; have zc5 := (zc4.later bSA).later b5; have rr5 := (rr.later bSA).later b5; have b05 := below_trans (below_trans b0d bSA) b5; obtain ⟨mo, mc, hm⟩ := r5.shape; subst hm; obtain ⟨-, ⟨t0, t1, t2⟩, -⟩ := id la5; obtain ⟨-, ⟨t3, t4, t5⟩, -⟩ := id lb5; have o5 := oSA.later b5; have y5 := ySA.later b5; obtain ⟨ho, ⟨i0, i1, i2⟩, f0, f1, f2⟩ := id o5)
      | (go_at_call 87; (with_reducible (refine (HTI.out _ _ _ (rq.later bS) rS).mono ?_)); rintro z w5 ⟨v5, rfl, r5, b5⟩; have la5 := (la4.later bS).later b5; have lb5 := (lb4.later bS).later b5; have lc5 := (lc4.later bS).later b5; have zc5 := (zc4.later bS).later b5; have rr5 := (rr.later bS).later b5; have b05 := below_trans (below_trans b0d bS) b5; obtain ⟨mo, mc, hm⟩ := r5.shape; subst hm; obtain ⟨-, ⟨t0, t1, t2⟩, -⟩ := id la5; obtain ⟨-, ⟨t3, t4, t5⟩, -⟩ := id lb5))
    · have ba := below_alloc w5 (.cells #[.bool (!(sa == sb)), .slice mo (Dg.dg 65536 (Q * 4)).length mc, .int .i64 E] 33)
      have o6 := loc_new w5 (.bool (!(sa == sb))) (.slice mo (Dg.dg 65536 (Q * 4)).length mc) (.int .i64 E) 33
      have lc6 := lc5.later ba
      have zc6 := zc5.later ba
      have rr6 := rr5.later ba
      have r6 := r5.later ba
      have b06 := below_trans b05 ba
      have hP : w5.heap.size ≠ w.heap.size + 1 + 1 := by have := lc5.1; omega
      have hPl : w.heap.size ≤ w5.heap.size := by have := lc5.1; omega
      clear la5 lb5 lc5 zc5 rr5 r5 b05 b5 t0 t1 t2 t3 t4 t5 s0 s1 s2 s3 s4 s5 p0 p1 p2 p3 p4 p5 q0 q1 q2 q3 q4 q5 j0 j1 j2 j3 j4 j5 k0 k1 k2 k3 k4 k5 la4 lb4 lc4 zc4 rq rr b0d bS bA bAS bSA rS rSA rAS oAS oSA yAS ySA bD hs4 m1 m2 m3 m4 e1 e2 e3 HTI
      generalize (w5.alloc (.cells #[.bool (!(sa == sb)), .slice mo (Dg.dg 65536 (Q * 4)).length mc, .int .i64 E] 33)) = W6 at o6 lc6 zc6 rr6 r6 b06 ⊢
      generalize w5.heap.size = P at o6 hP hPl ⊢
      obtain ⟨lM, hlM⟩ : ∃ l, (Dg.dg 65536 M).length = l := ⟨_, rfl⟩
      have hMz : lM = 0 ↔ M = 0 := by rw [← hlM, List.length_eq_zero_iff]; exact hMl
      rw [hlM]
      clear hlM hMl rr6
      by_cases hM0 : M = 0
      · have h4 : Q * 4 = N0 := by rw [← hN0, if_neg (by omega)]; rfl
        rw [h4] at o6 r6 ⊢
        obtain rfl := hMz.2 hM0
        clear hN0 hMz hM0 h4 HPL
        obtain ⟨-, ⟨c0, c1, c2⟩, -⟩ := id o6
        go_goals
        go_wp2_with fail
        refine (HBR.out _ W6 ⟨_, rfl, r6⟩).mono ?_
        rintro z w7 ⟨v7, rfl, r7, b7⟩
        have lc7 := lc6.later b7
        have zc7 := zc6.later b7
        have b07 := below_trans b06 b7
        clear lc6 zc6 r6 b06 b7 HBR
        go_wp2_with fail
        refine (HDC.out _ w7 ⟨_, rfl, r7⟩).mono ?_
        rintro z w9 ⟨v9, rfl, r9, b9⟩
        have lc9 := lc7.later b9
        have zc9 := zc7.later b9
        have b09 := below_trans b07 b9
        clear lc7 zc7 r7 b07 b9 HDC
        obtain ⟨to, tc, hvt⟩ := r9.shape
        subst hvt
        obtain ⟨hl9, ⟨d0, d1, d2⟩, z0, z1, z2⟩ := id lc9
        go_wp2
        obtain ⟨-, ⟨g0, g1, g2⟩, -⟩ := loc_set lc9 (.bool rs) (.slice to (Dg.dg 65536 rn).length tc) (.int .i64 re)
        have rx := zc9.rd r9 (Dg.norm_dg _ _ (by omega)) (.bool rs) (.slice to (Dg.dg 65536 rn).length tc) (.int .i64 re)
        have bx := below_set3 b09 (show w.heap.size ≤ w.heap.size + 1 + 1 by omega) (.bool rs) (.slice to (Dg.dg 65536 rn).length tc) (.int .i64 re)
        refine bodyPost_ret (v := .agg #[.bool rs, .slice to (Dg.dg 65536 rn).length tc, .int .i64 re]) (by simp [results, Tryd.results46, go_sem, g0, g1, g2]) rfl ?_
        exact ⟨_, rfl, rx, bx⟩
      · have h4 : Q * 4 + 1 = N0 := by rw [← hN0, if_pos (by omega)]
        rw [h4] at HPL
        have hl0 : (0 : Int) < (lM : Int) := by
          have : ¬lM = 0 := fun e => hM0 (hMz.1 e)
          omega
        clear hN0 hMz hM0 h4
        obtain ⟨-, ⟨c0, c1, c2⟩, -⟩ := id o6
        have ba := below_alloc W6 (.cells #[.int .i64 ((1 : Nat) : Int)] 3)
        have rn1 := rd_new (w := W6) (k := .i64) (e := 3) [1] #[.int .i64 ((1 : Nat) : Int)] rfl (by unfold maxLen; simp)
        go_goals
        go_wp2_with fail
        refine (HPL.out _ _ _ (r6.later ba) rn1).mono ?_
        rintro z x7 ⟨y7, rfl, ry7, by7⟩
        obtain ⟨no, nc, hn⟩ := ry7.shape
        subst hn
        have o7 := (o6.later ba).later by7
        have lcx := (lc6.later ba).later by7
        have zcx := (zc6.later ba).later by7
        have bx7 := below_trans (below_trans b06 ba) by7
        obtain ⟨ho, ⟨i0, i1, i2⟩, f0, f1, f2⟩ := id o7
        have o8 := loc_set1 o7 (.slice no (Dg.dg 65536 N0).length nc)
        have lc8 := lcx.apart1 hP (.slice no (Dg.dg 65536 N0).length nc)
        have zc8 := zcx.off (grown_set x7 P 1 (.slice no (Dg.dg 65536 N0).length nc)) hP.symm
        have r8 := rd_set1 ry7 i1 (.slice no (Dg.dg 65536 N0).length nc)
        have b08 := bx7.setCell (p := ⟨P, 1, none⟩) hPl (.slice no (Dg.dg 65536 N0).length nc)
        clear o6 lc6 zc6 r6 b06 ba rn1 ry7 by7 o7 lcx zcx bx7 c0 c1 c2 HPL
        obtain ⟨-, ⟨c0, c1, c2⟩, -⟩ := id o8
        go_wp2_with fail
        generalize (x7.setCell ⟨P, 1, none⟩ (.slice no (Dg.dg 65536 N0).length nc)) = W6 at o8 lc8 zc8 r8 b08 c0 c1 c2 ⊢
        have lc6 := lc8
        have zc6 := zc8
        have r6 := r8
        have b06 := b08
        clear lc8 zc8 r8 b08
        refine (HBR.out _ W6 ⟨_, rfl, r6⟩).mono ?_
        rintro z w7 ⟨v7, rfl, r7, b7⟩
        have lc7 := lc6.later b7
        have zc7 := zc6.later b7
        have b07 := below_trans b06 b7
        clear lc6 zc6 r6 b06 b7 HBR
        go_wp2_with fail
        refine (HDC.out _ w7 ⟨_, rfl, r7⟩).mono ?_
        rintro z w9 ⟨v9, rfl, r9, b9⟩
        have lc9 := lc7.later b9
        have zc9 := zc7.later b9
        have b09 := below_trans b07 b9
        clear lc7 zc7 r7 b07 b9 HDC
        obtain ⟨to, tc, hvt⟩ := r9.shape
        subst hvt
        obtain ⟨hl9, ⟨d0, d1, d2⟩, z0, z1, z2⟩ := id lc9
        go_wp2
        obtain ⟨-, ⟨g0, g1, g2⟩, -⟩ := loc_set lc9 (.bool rs) (.slice to (Dg.dg 65536 rn).length tc) (.int .i64 re)
        have rx := zc9.rd r9 (Dg.norm_dg _ _ (by omega)) (.bool rs) (.slice to (Dg.dg 65536 rn).length tc) (.int .i64 re)
        have bx := below_set3 b09 (show w.heap.size ≤ w.heap.size + 1 + 1 by omega) (.bool rs) (.slice to (Dg.dg 65536 rn).length tc) (.int .i64 re)
        refine bodyPost_ret (v := .agg #[.bool rs, .slice to (Dg.dg 65536 rn).length tc, .int .i64 re]) (by simp [results, Tryd.results46, go_sem, g0, g1, g2]) rfl ?_
        exact ⟨_, rfl, rx, bx⟩
    · have o6 := loc_set o5 (.bool (!(sa == sb))) (.slice mo (Dg.dg 65536 (Q * 4)).length mc) (.int .i64 E)
      have hP : w4.heap.size + 1 ≠ w.heap.size + 1 + 1 := by omega
      have hPl : w.heap.size ≤ w4.heap.size + 1 := by omega
      have lc6 := lc5.apart (c := w4.heap.size + 1) hP (.bool (!(sa == sb))) (.slice mo (Dg.dg 65536 (Q * 4)).length mc) (.int .i64 E)
      have zc6 := zc5.off3 hP.symm (.bool (!(sa == sb))) (.slice mo (Dg.dg 65536 (Q * 4)).length mc) (.int .i64 E)
      have rr6 := y5.rd rr5 (Dg.norm_dg _ _ (by omega)) (.bool (!(sa == sb))) (.slice mo (Dg.dg 65536 (Q * 4)).length mc) (.int .i64 E)
      have r6 := y5.rd r5 (Dg.norm_dg _ _ (by omega)) (.bool (!(sa == sb))) (.slice mo (Dg.dg 65536 (Q * 4)).length mc) (.int .i64 E)
      have b06 := below_set3 b05 hPl (.bool (!(sa == sb))) (.slice mo (Dg.dg 65536 (Q * 4)).length mc) (.int .i64 E)
      clear la5 lb5 lc5 zc5 rr5 r5 b05 b5 t0 t1 t2 t3 t4 t5 s0 s1 s2 s3 s4 s5 p0 p1 p2 p3 p4 p5 q0 q1 q2 q3 q4 q5 j0 j1 j2 j3 j4 j5 k0 k1 k2 k3 k4 k5 la4 lb4 lc4 zc4 rq rr b0d bS bA bAS bSA rS rSA rAS oAS oSA yAS ySA bD hs4 m1 m2 m3 m4 e1 e2 e3 HTI o5 y5 ho i0 i1 i2 f0 f1 f2
      generalize (((w5.setCell ⟨w4.heap.size + 1, 0, none⟩ (.bool (!(sa == sb)))).setCell ⟨w4.heap.size + 1, 1, none⟩ (.slice mo (Dg.dg 65536 (Q * 4)).length mc)).setCell ⟨w4.heap.size + 1, 2, none⟩ (.int .i64 E)) = W6 at o6 lc6 zc6 rr6 r6 b06 ⊢
      generalize w4.heap.size + 1 = P at o6 hP hPl ⊢
      obtain ⟨lM, hlM⟩ : ∃ l, (Dg.dg 65536 M).length = l := ⟨_, rfl⟩
      have hMz : lM = 0 ↔ M = 0 := by rw [← hlM, List.length_eq_zero_iff]; exact hMl
      rw [hlM]
      clear hlM hMl rr6
      by_cases hM0 : M = 0
      · have h4 : Q * 4 = N0 := by rw [← hN0, if_neg (by omega)]; rfl
        rw [h4] at o6 r6 ⊢
        obtain rfl := hMz.2 hM0
        clear hN0 hMz hM0 h4 HPL
        obtain ⟨-, ⟨c0, c1, c2⟩, -⟩ := id o6
        go_goals
        go_wp2_with fail
        refine (HBR.out _ W6 ⟨_, rfl, r6⟩).mono ?_
        rintro z w7 ⟨v7, rfl, r7, b7⟩
        have lc7 := lc6.later b7
        have zc7 := zc6.later b7
        have b07 := below_trans b06 b7
        clear lc6 zc6 r6 b06 b7 HBR
        go_wp2_with fail
        refine (HDC.out _ w7 ⟨_, rfl, r7⟩).mono ?_
        rintro z w9 ⟨v9, rfl, r9, b9⟩
        have lc9 := lc7.later b9
        have zc9 := zc7.later b9
        have b09 := below_trans b07 b9
        clear lc7 zc7 r7 b07 b9 HDC
        obtain ⟨to, tc, hvt⟩ := r9.shape
        subst hvt
        obtain ⟨hl9, ⟨d0, d1, d2⟩, z0, z1, z2⟩ := id lc9
        go_wp2
        obtain ⟨-, ⟨g0, g1, g2⟩, -⟩ := loc_set lc9 (.bool rs) (.slice to (Dg.dg 65536 rn).length tc) (.int .i64 re)
        have rx := zc9.rd r9 (Dg.norm_dg _ _ (by omega)) (.bool rs) (.slice to (Dg.dg 65536 rn).length tc) (.int .i64 re)
        have bx := below_set3 b09 (show w.heap.size ≤ w.heap.size + 1 + 1 by omega) (.bool rs) (.slice to (Dg.dg 65536 rn).length tc) (.int .i64 re)
        refine bodyPost_ret (v := .agg #[.bool rs, .slice to (Dg.dg 65536 rn).length tc, .int .i64 re]) (by simp [results, Tryd.results46, go_sem, g0, g1, g2]) rfl ?_
        exact ⟨_, rfl, rx, bx⟩
      · have h4 : Q * 4 + 1 = N0 := by rw [← hN0, if_pos (by omega)]
        rw [h4] at HPL
        have hl0 : (0 : Int) < (lM : Int) := by
          have : ¬lM = 0 := fun e => hM0 (hMz.1 e)
          omega
        clear hN0 hMz hM0 h4
        obtain ⟨-, ⟨c0, c1, c2⟩, -⟩ := id o6
        have ba := below_alloc W6 (.cells #[.int .i64 ((1 : Nat) : Int)] 3)
        have rn1 := rd_new (w := W6) (k := .i64) (e := 3) [1] #[.int .i64 ((1 : Nat) : Int)] rfl (by unfold maxLen; simp)
        go_goals
        go_wp2_with fail
        refine (HPL.out _ _ _ (r6.later ba) rn1).mono ?_
        rintro z x7 ⟨y7, rfl, ry7, by7⟩
        obtain ⟨no, nc, hn⟩ := ry7.shape
        subst hn
        have o7 := (o6.later ba).later by7
        have lcx := (lc6.later ba).later by7
        have zcx := (zc6.later ba).later by7
        have bx7 := below_trans (below_trans b06 ba) by7
        obtain ⟨ho, ⟨i0, i1, i2⟩, f0, f1, f2⟩ := id o7
        have o8 := loc_set1 o7 (.slice no (Dg.dg 65536 N0).length nc)
        have lc8 := lcx.apart1 hP (.slice no (Dg.dg 65536 N0).length nc)
        have zc8 := zcx.off (grown_set x7 P 1 (.slice no (Dg.dg 65536 N0).length nc)) hP.symm
        have r8 := rd_set1 ry7 i1 (.slice no (Dg.dg 65536 N0).length nc)
        have b08 := bx7.setCell (p := ⟨P, 1, none⟩) hPl (.slice no (Dg.dg 65536 N0).length nc)
        clear o6 lc6 zc6 r6 b06 ba rn1 ry7 by7 o7 lcx zcx bx7 c0 c1 c2 HPL
        obtain ⟨-, ⟨c0, c1, c2⟩, -⟩ := id o8
        go_wp2_with fail
        generalize (x7.setCell ⟨P, 1, none⟩ (.slice no (Dg.dg 65536 N0).length nc)) = W6 at o8 lc8 zc8 r8 b08 c0 c1 c2 ⊢
        have lc6 := lc8
        have zc6 := zc8
        have r6 := r8
        have b06 := b08
        clear lc8 zc8 r8 b08
        refine (HBR.out _ W6 ⟨_, rfl, r6⟩).mono ?_
        rintro z w7 ⟨v7, rfl, r7, b7⟩
        have lc7 := lc6.later b7
        have zc7 := zc6.later b7
        have b07 := below_trans b06 b7
        clear lc6 zc6 r6 b06 b7 HBR
        go_wp2_with fail
        refine (HDC.out _ w7 ⟨_, rfl, r7⟩).mono ?_
        rintro z w9 ⟨v9, rfl, r9, b9⟩
        have lc9 := lc7.later b9
        have zc9 := zc7.later b9
        have b09 := below_trans b07 b9
        clear lc7 zc7 r7 b07 b9 HDC
        obtain ⟨to, tc, hvt⟩ := r9.shape
        subst hvt
        obtain ⟨hl9, ⟨d0, d1, d2⟩, z0, z1, z2⟩ := id lc9
        go_wp2
        obtain ⟨-, ⟨g0, g1, g2⟩, -⟩ := loc_set lc9 (.bool rs) (.slice to (Dg.dg 65536 rn).length tc) (.int .i64 re)
        have rx := zc9.rd r9 (Dg.norm_dg _ _ (by omega)) (.bool rs) (.slice to (Dg.dg 65536 rn).length tc) (.int .i64 re)
        have bx := below_set3 b09 (show w.heap.size ≤ w.heap.size + 1 + 1 by omega) (.bool rs) (.slice to (Dg.dg 65536 rn).length tc) (.int .i64 re)
        refine bodyPost_ret (v := .agg #[.bool rs, .slice to (Dg.dg 65536 rn).length tc, .int .i64 re]) (by simp [results, Tryd.results46, go_sem, g0, g1, g2]) rfl ?_
        exact ⟨_, rfl, rx, bx⟩
    · have o6 := loc_set o5 (.bool (!(sa == sb))) (.slice mo (Dg.dg 65536 (Q * 4)).length mc) (.int .i64 E)
      have hP : w4.heap.size ≠ w.heap.size + 1 + 1 := by omega
      have hPl : w.heap.size ≤ w4.heap.size := by omega
      have lc6 := lc5.apart (c := w4.heap.size) hP (.bool (!(sa == sb))) (.slice mo (Dg.dg 65536 (Q * 4)).length mc) (.int .i64 E)
      have zc6 := zc5.off3 hP.symm (.bool (!(sa == sb))) (.slice mo (Dg.dg 65536 (Q * 4)).length mc) (.int .i64 E)
      have rr6 := y5.rd rr5 (Dg.norm_dg _ _ (by omega)) (.bool (!(sa == sb))) (.slice mo (Dg.dg 65536 (Q * 4)).length mc) (.int .i64 E)
      have r6 := y5.rd r5 (Dg.norm_dg _ _ (by omega)) (.bool (!(sa == sb))) (.slice mo (Dg.dg 65536 (Q * 4)).length mc) (.int .i64 E)
      have b06 := below_set3 b05 hPl (.bool (!(sa == sb))) (.slice mo (Dg.dg 65536 (Q * 4)).length mc) (.int .i64 E)
      clear la5 lb5 lc5 zc5 rr5 r5 b05 b5 t0 t1 t2 t3 t4 t5 s0 s1 s2 s3 s4 s5 p0 p1 p2 p3 p4 p5 q0 q1 q2 q3 q4 q5 j0 j1 j2 j3 j4 j5 k0 k1 k2 k3 k4 k5 la4 lb4 lc4 zc4 rq rr b0d bS bA bAS bSA rS rSA rAS oAS oSA yAS ySA bD hs4 m1 m2 m3 m4 e1 e2 e3 HTI o5 y5 ho i0 i1 i2 f0 f1 f2
      generalize (((w5.setCell ⟨w4.heap.size, 0, none⟩ (.bool (!(sa == sb)))).setCell ⟨w4.heap.size, 1, none⟩ (.slice mo (Dg.dg 65536 (Q * 4)).length mc)).setCell ⟨w4.heap.size, 2, none⟩ (.int .i64 E)) = W6 at o6 lc6 zc6 rr6 r6 b06 ⊢
      generalize w4.heap.size = P at o6 hP hPl ⊢
      obtain ⟨lM, hlM⟩ : ∃ l, (Dg.dg 65536 M).length = l := ⟨_, rfl⟩
      have hMz : lM = 0 ↔ M = 0 := by rw [← hlM, List.length_eq_zero_iff]; exact hMl
      rw [hlM]
      clear hlM hMl rr6
      by_cases hM0 : M = 0
      · have h4 : Q * 4 = N0 := by rw [← hN0, if_neg (by omega)]; rfl
        rw [h4] at o6 r6 ⊢
        obtain rfl := hMz.2 hM0
        clear hN0 hMz hM0 h4 HPL
        obtain ⟨-, ⟨c0, c1, c2⟩, -⟩ := id o6
        go_goals
        go_wp2_with fail
        refine (HBR.out _ W6 ⟨_, rfl, r6⟩).mono ?_
        rintro z w7 ⟨v7, rfl, r7, b7⟩
        have lc7 := lc6.later b7
        have zc7 := zc6.later b7
        have b07 := below_trans b06 b7
        clear lc6 zc6 r6 b06 b7 HBR
        go_wp2_with fail
        refine (HDC.out _ w7 ⟨_, rfl, r7⟩).mono ?_
        rintro z w9 ⟨v9, rfl, r9, b9⟩
        have lc9 := lc7.later b9
        have zc9 := zc7.later b9
        have b09 := below_trans b07 b9
        clear lc7 zc7 r7 b07 b9 HDC
        obtain ⟨to, tc, hvt⟩ := r9.shape
        subst hvt
        obtain ⟨hl9, ⟨d0, d1, d2⟩, z0, z1, z2⟩ := id lc9
        go_wp2
        obtain ⟨-, ⟨g0, g1, g2⟩, -⟩ := loc_set lc9 (.bool rs) (.slice to (Dg.dg 65536 rn).length tc) (.int .i64 re)
        have rx := zc9.rd r9 (Dg.norm_dg _ _ (by omega)) (.bool rs) (.slice to (Dg.dg 65536 rn).length tc) (.int .i64 re)
        have bx := below_set3 b09 (show w.heap.size ≤ w.heap.size + 1 + 1 by omega) (.bool rs) (.slice to (Dg.dg 65536 rn).length tc) (.int .i64 re)
        refine bodyPost_ret (v := .agg #[.bool rs, .slice to (Dg.dg 65536 rn).length tc, .int .i64 re]) (by simp [results, Tryd.results46, go_sem, g0, g1, g2]) rfl ?_
        exact ⟨_, rfl, rx, bx⟩
      · have h4 : Q * 4 + 1 = N0 := by rw [← hN0, if_pos (by omega)]
        rw [h4] at HPL
        have hl0 : (0 : Int) < (lM : Int) := by
          have : ¬lM = 0 := fun e => hM0 (hMz.1 e)
          omega
        clear hN0 hMz hM0 h4
        obtain ⟨-, ⟨c0, c1, c2⟩, -⟩ := id o6
        have ba := below_alloc W6 (.cells #[.int .i64 ((1 : Nat) : Int)] 3)
        have rn1 := rd_new (w := W6) (k := .i64) (e := 3) [1] #[.int .i64 ((1 : Nat) : Int)] rfl (by unfold maxLen; simp)
        go_goals
        go_wp2_with fail
        refine (HPL.out _ _ _ (r6.later ba) rn1).mono ?_
        rintro z x7 ⟨y7, rfl, ry7, by7⟩
        obtain ⟨no, nc, hn⟩ := ry7.shape
        subst hn
        have o7 := (o6.later ba).later by7
        have lcx := (lc6.later ba).later by7
        have zcx := (zc6.later ba).later by7
        have bx7 := below_trans (below_trans b06 ba) by7
        obtain ⟨ho, ⟨i0, i1, i2⟩, f0, f1, f2⟩ := id o7
        have o8 := loc_set1 o7 (.slice no (Dg.dg 65536 N0).length nc)
        have lc8 := lcx.apart1 hP (.slice no (Dg.dg 65536 N0).length nc)
        have zc8 := zcx.off (grown_set x7 P 1 (.slice no (Dg.dg 65536 N0).length nc)) hP.symm
        have r8 := rd_set1 ry7 i1 (.slice no (Dg.dg 65536 N0).length nc)
        have b08 := bx7.setCell (p := ⟨P, 1, none⟩) hPl (.slice no (Dg.dg 65536 N0).length nc)
        clear o6 lc6 zc6 r6 b06 ba rn1 ry7 by7 o7 lcx zcx bx7 c0 c1 c2 HPL
        obtain ⟨-, ⟨c0, c1, c2⟩, -⟩ := id o8
        go_wp2_with fail
        generalize (x7.setCell ⟨P, 1, none⟩ (.slice no (Dg.dg 65536 N0).length nc)) = W6 at o8 lc8 zc8 r8 b08 c0 c1 c2 ⊢
        have lc6 := lc8
        have zc6 := zc8
        have r6 := r8
        have b06 := b08
        clear lc8 zc8 r8 b08
        refine (HBR.out _ W6 ⟨_, rfl, r6⟩).mono ?_
        rintro z w7 ⟨v7, rfl, r7, b7⟩
        have lc7 := lc6.later b7
        have zc7 := zc6.later b7
        have b07 := below_trans b06 b7
        clear lc6 zc6 r6 b06 b7 HBR
        go_wp2_with fail
        refine (HDC.out _ w7 ⟨_, rfl, r7⟩).mono ?_
        rintro z w9 ⟨v9, rfl, r9, b9⟩
        have lc9 := lc7.later b9
        have zc9 := zc7.later b9
        have b09 := below_trans b07 b9
        clear lc7 zc7 r7 b07 b9 HDC
        obtain ⟨to, tc, hvt⟩ := r9.shape
        subst hvt
        obtain ⟨hl9, ⟨d0, d1, d2⟩, z0, z1, z2⟩ := id lc9
        go_wp2
        obtain ⟨-, ⟨g0, g1, g2⟩, -⟩ := loc_set lc9 (.bool rs) (.slice to (Dg.dg 65536 rn).length tc) (.int .i64 re)
        have rx := zc9.rd r9 (Dg.norm_dg _ _ (by omega)) (.bool rs) (.slice to (Dg.dg 65536 rn).length tc) (.int .i64 re)
        have bx := below_set3 b09 (show w.heap.size ≤ w.heap.size + 1 + 1 by omega) (.bool rs) (.slice to (Dg.dg 65536 rn).length tc) (.int .i64 re)
        refine bodyPost_ret (v := .agg #[.bool rs, .slice to (Dg.dg 65536 rn).length tc, .int .i64 re]) (by simp [results, Tryd.results46, go_sem, g0, g1, g2]) rfl ?_
        exact ⟨_, rfl, rx, bx⟩

set_option maxRecDepth 100000 in
theorem refdsign_any (v : Value) (a : Trip) (w : World) (hv : Rv w v (bare a)) (hLa : (Dg.dg 65536 (bare a).n).length ≤ 30000) (ha1 : -200000 ≤ (bare a).e) (ha2 : (bare a).e ≤ 200000) :
    Calls Tryd.prog 45 #[v] w fun z w' => z = .returned (.int .i64 (cmpT a zeroT)) ∧ Below w.heap.size w w' := by
  have HC : Hid (∀ w1, Below w.heap.size w w1 → Calls Tryd.prog 22 #[v, .agg #[.bool false, .slice none 0 0, .int .i64 0]] w1 fun z w' => z = .returned (.int .i64 (cmpT a zeroT)) ∧ Below w1.heap.size w1 w') := fun w1 b1 => by
    have h := refdcmp_any v (.agg #[.bool false, .slice none 0 0, .int .i64 0]) (bare a) (bare zeroT) w1 (hv.later b1) ⟨_, rfl, rd_nil _ _⟩ hLa (by show (Dg.dg 65536 0).length ≤ 30000; rw [show Dg.dg 65536 0 = [] from rfl]; simp) ha1 ha2 (by show -200000 ≤ (0 : Int); omega) (by show (0 : Int) ≤ 200000; omega)
    rw [sign_ref] at h
    exact h
  obtain ⟨s0, rfl, ra⟩ := hv
  obtain ⟨ao, ca, rfl⟩ := ra.shape
  obtain ⟨⟨bs, bn, be⟩, hb⟩ : ∃ b, bare a = b := ⟨_, rfl⟩
  rw [hb] at HC ⊢
  clear ra hb hLa ha1 ha2
  simp only at HC ⊢
  obtain ⟨m, hm⟩ : ∃ m, (Dg.dg 65536 bn).length = m := ⟨_, rfl⟩
  rw [hm] at HC ⊢
  obtain ⟨g, hg⟩ : ∃ g, cmpT a zeroT = g := ⟨_, rfl⟩
  rw [hg] at HC ⊢
  clear hm hg
  have ba := below_alloc w (.cells #[.bool bs, .slice ao m ca, .int .i64 be] 33)
  go_enter Tryd.func45, Tryd.ntmps45
  go_wp2_with fail
  refine (HC.out _ ba).mono ?_
  rintro z w2 ⟨rfl, b2⟩
  have b02 := below_trans ba b2
  go_wp2
  go_ret
  exact ⟨rfl, b02⟩
end Go.Proofs.YtfajoaopfedokaaDoor

/-
  Texts laid together: Into1, Into2.
-/
import Derived.Deep.AppendLies
import Derived.Test.YtiiphandhpilgaaGreatDoorEa19
namespace Go.Proofs.YtiiphandhpilgaaGreatDoor
open Go.RowKit
/-- What the outer loop keeps. -/
def IntoO (w : World) (xs : List Nat) (b k R : Nat) (cur : List Nat) (rv : Value) (wr : World) : Prop :=
  Own wr w.heap.size 3 .i64 (.slice (some ⟨w.heap.size, 0, none⟩) xs.length xs.length) cur ∧ Rd wr .i64 rv (Dg.dg 65536 R) ∧ IntoI xs cur b k R ∧ Below w.heap.size w wr

/-- What the loop over trial digits keeps. -/
def IntoD (W5 : World) (g1 n1 Q : Nat) (rv dv : Value) (wq : World) : Prop :=
  rv = .slice (some ⟨g1, 0, none⟩) n1 n1 ∧ ∃ d : Nat, Q ≤ d ∧ d ≤ 65535 ∧ dv = .int .i64 d ∧ Below W5.heap.size W5 wq

/-- The uppermost digits, beginning at place n, so many of them. -/
def topAt (rs : List Nat) (n : Nat) : Nat → Nat
  | 0 => 0
  | j + 1 => 65536 * topAt rs n j + rs.getD (n - j) 0

theorem topAt_lt {rs : List Nat} (h : Dg.Small 65536 rs) (n j : Nat) : topAt rs n j < 65536 ^ j := by
  induction j with
  | zero => simp [topAt]
  | succ j ih =>
    have := h (n - j)
    simp only [topAt, Nat.pow_succ]
    omega

theorem own_int (w : World) (base e d : Nat) (hb : base ≤ w.heap.size) : Own (w.alloc (.cells #[.int .i64 (d : Int)] e)) base e .i64 (.slice (some ⟨w.heap.size, 0, none⟩) 1 1) [d] :=
  World.ownsRow_lit (e := e) (size := 1) (base := base) w #[.int .i64 (d : Int)] 1 hb (by unfold maxLen; omega) rfl

theorem cmpI_nlt2 {a b : Int} (h : b ≤ a) : decide (cmpI a b < 0) = false := by
  unfold cmpI
  rw [if_neg (by omega)]
  by_cases h2 : b < a
  · rw [if_pos h2]; rfl
  · rw [if_neg h2]; rfl

theorem cmpI_le' {a b : Int} (h : a ≤ b) : cmpI a b ≤ 0 := by
  unfold cmpI
  by_cases h1 : a < b
  · rw [if_pos h1]; omega
  · rw [if_neg h1, if_neg (by omega)]; omega

theorem rd_cell0 {w : World} {k : IntKind} {g n c : Nat} {zs : List Nat} (h : Rd w k (.slice (some ⟨g, 0, none⟩) n c) zs) (i : Nat) (hi : i < zs.length) : w.cell? ⟨g, i, none⟩ = some (.int k ((zs.getD i 0 : Nat) : Int)) := by
  have hn := rd_len h
  subst hn
  obtain ⟨_, _, h3⟩ := rd_open h
  obtain ⟨b, off, e, hc⟩ := h3 (by omega)
  cases e
  have := hc i hi
  rwa [Nat.zero_add] at this

set_option maxRecDepth 100000 in
set_option maxHeartbeats 3200000 in
theorem intoN_any (va vb : Value) (xs bs : List Nat) (w : World) (ha : Rd w .i64 va xs) (hb : Rd w .i64 vb bs) (sa : Dg.Small 65536 xs) (sb : Dg.Small 65536 bs) (nb : Dg.Norm bs) (hla : xs.length ≤ 900000) (hlb : bs.length ≤ 900000) (hb2 : 2 ≤ bs.length) :
    Calls Tryz.prog 62 #[va, vb] w fun e w' => ∃ vq vr, e = .returned (.tuple #[vq, vr]) ∧ Rd w' .i64 vq (Dg.dg 65536 (Dg.vl 65536 xs / Dg.vl 65536 bs)) ∧ Rd w' .i64 vr (Dg.dg 65536 (Dg.vl 65536 xs % Dg.vl 65536 bs)) ∧ Below w.heap.size w w' := by
  obtain ⟨i0, hi, hz0, hz1, hz2⟩ := info_parts Tryz.infoI64
  have hbne : bs ≠ [] := by intro e; rw [e] at hb2; simp at hb2
  have hb0 : 0 < Dg.vl 65536 bs := Nat.pos_of_ne_zero (Dg.vl_ne_zero 65536 (by omega) bs hbne nb)
  have HB : Hid (Rd w .i64 vb bs) := hb
  have HCM : Hid (∀ v u x y w1, Rd w1 .i64 v (Dg.dg 65536 x) → Rd w1 .i64 u (Dg.dg 65536 y) → Calls Tryz.prog 46 #[v, u] w1 fun e w' => e = .returned (.int .i64 (cmpI x y)) ∧ Below w1.heap.size w1 w') := fun v u x y w1 r q => by
    have := refcmp_any v u _ _ w1 r q (Dg.small_dg _ _ (by omega)) (Dg.small_dg _ _ (by omega)) (Dg.norm_dg _ _ (by omega)) (Dg.norm_dg _ _ (by omega))
    rwa [Dg.vl_dg _ _ (by omega), Dg.vl_dg _ _ (by omega)] at this
  have hbd := Dg.eq_dg 65536 (by omega) bs _ sb nb rfl
  have HBC : Hid (∀ v x w1, Below w.heap.size w w1 → Rd w1 .i64 v (Dg.dg 65536 x) → Calls Tryz.prog 46 #[v, vb] w1 fun e w' => e = .returned (.int .i64 (cmpI x (Dg.vl 65536 bs))) ∧ Below w1.heap.size w1 w') := fun v x w1 b r =>
    HCM.out v vb x _ w1 r (by rw [← hbd]; exact hb.later b)
  have HTM : Hid (∀ v d w1, d < 65536 → Below w.heap.size w w1 → Rd w1 .i64 v (Dg.dg 65536 d) → Calls Tryz.prog 76 #[vb, v] w1 (RNum w1 (Dg.vl 65536 bs * d))) := fun v d w1 hd b r => by
    have hl : (Dg.dg 65536 d).length ≤ 1 := Dg.dg_len_le 65536 d 1 (by omega) (by omega)
    have := reftimes_any vb v bs _ w1 (hb.later b) r sb (Dg.small_dg _ _ (by omega)) (by omega) (by omega)
    rwa [Dg.vl_dg _ _ (by omega)] at this
  have HLS : Hid (∀ v u x y w1, (Dg.dg 65536 x).length ≤ 1000000 → y ≤ x → Rd w1 .i64 v (Dg.dg 65536 x) → Rd w1 .i64 u (Dg.dg 65536 y) → Calls Tryz.prog 30 #[v, u] w1 (RNumF w1 (x - y))) := fun v u x y w1 hl hxy r q => by
    have h5 := Dg.vl_lt 65536 _ (Dg.small_dg 65536 x (by omega))
    rw [Dg.vl_dg _ _ (by omega)] at h5
    have := refless_far v u _ _ w1 r q (Dg.small_dg _ _ (by omega)) (Dg.small_dg _ _ (by omega)) (by omega) (Dg.dg_len_le 65536 y _ (by omega) (Nat.lt_of_le_of_lt hxy h5)) (by rw [Dg.vl_dg _ _ (by omega), Dg.vl_dg _ _ (by omega)]; exact hxy)
    rwa [Dg.vl_dg _ _ (by omega), Dg.vl_dg _ _ (by omega)] at this
  clear hbd
  obtain ⟨ao, ca, rfl, -, -, hca⟩ := ha
  obtain ⟨bo, cb, rfl, -, -, hcb⟩ := hb
  have hl1 : ((bs.length : Int) == 1) = false := by simp; omega
  go_enter Tryz.func62, Tryz.ntmps62
  go_wp2_with (at_make; refine wpList_make_full _ rfl _ _ 29 rfl w.heap.size 3 i0 (.int .i64 0) 1 Tryz.underlying29 hi hz0 hz1 _ _ _ _ xs.length rfl rfl (by omega) (by omega) ?b2 ?b3 (Nat.le_refl _) ?_)
  case b2 => rw [hz2]; omega
  case b3 => unfold maxLen; omega
  intro w0 hown0 hgrow0
  have own0 := own_made hown0
  have bel0 : Below w.heap.size w w0 := (Below.refl _ _).grown hgrow0 (Nat.le_refl _) (fun k h => by cases h)
  clear hown0 hgrow0
  go_wp2
  go_loopw [10, 11] (fun rv iv wr => ∃ (k R : Nat) (cur : List Nat), k ≤ xs.length ∧ iv = .int .i64 ((k : Int) - 1) ∧ IntoO w xs (Dg.vl 65536 bs) k R cur rv wr)
    (fun _ iv _ => (intOf iv + 1).toNat)
  case atStart => exact ⟨xs.length, 0, _, Nat.le_refl _, rfl, own0, (own_nil _ 0 0 .i64).rd, intoI_start xs _ hb0, bel0⟩
  case round =>
    clear own0 bel0
    obtain ⟨k, R, cur, hk, rfl, own, hR, hI, bel⟩ := hrel
    by_cases hk0 : k = 0
    · subst hk0
      obtain ⟨e1, e2⟩ := intoI_end hI
      have hcl : cur.length ≤ 1000000 := by have := hI.1; omega
      have hcs := hI.2.1
      have HE1 : Hid (Dg.vl 65536 xs / Dg.vl 65536 bs = Dg.vl 65536 cur) := e1
      have HE2 : Hid (Dg.vl 65536 xs % Dg.vl 65536 bs = R) := e2
      clear e1 e2 hI
      go_wp2_with fail
      refine (reftrim_any _ _ _ cur _ own.rd).mono ?_
      rintro e w' ⟨m, rfl, hm, rfl⟩
      have rq := rd_own_trim own hcs hm (by omega)
      go_wp2
      go_ret2
      exact ⟨_, _, rfl, by rw [HE1.out]; exact rq, by rw [HE2.out]; exact hR, bel⟩
    · obtain ⟨m, rfl⟩ : ∃ m, k = m + 1 := ⟨k - 1, by omega⟩
      obtain ⟨ab, aoff, rfl, hcell⟩ := hca (by omega)
      have hx := cell_later bel (hcell m (by omega))
      have hxl := sa m
      obtain ⟨N, hN⟩ : ∃ N, N = xs.getD m 0 + 65536 * R := ⟨_, rfl⟩
      obtain ⟨hNlt, hset⟩ := intoI_set hI (by omega) hN hb0 hxl
      have hskip := fun h : N < Dg.vl 65536 bs => intoI_skip hI (by omega) hN h
      have hRb := hI.2.2.2.1
      have hcl := hI.1
      obtain ⟨x, ex⟩ : ∃ x, xs.getD m 0 = x := ⟨_, rfl⟩
      rw [ex] at hx hxl hN
      have a1 : Below wr.heap.size wr (wr.alloc (.cells #[.int .i64 (x : Int)] 3)) := (Below.refl _ _).alloc (Nat.le_refl _) _
      have own1 := own_int wr wr.heap.size 3 x (Nat.le_refl _)
      have hRl : (Dg.dg 65536 R).length ≤ bs.length := Dg.dg_len_le 65536 R bs.length (by omega) (Nat.lt_trans hRb (Dg.vl_lt 65536 bs sb))
      obtain ⟨v1, w1, hrun, own2, gr⟩ := append_rd_run (P := Tryz.prog) 29 29 i0 8 Tryz.underlying29 hi hz0 hz1 hz2 (Nat.le_refl _) own1 (hR.later a1) (by simp only [List.length_cons, List.length_nil]; omega) (by simp)
      have b1 : Below wr.heap.size wr w1 := a1.grown gr a1.size (fun k hk => by cases hk; exact Nat.le_refl _)
      have hs2 : Dg.Small 65536 ([x] ++ Dg.dg 65536 R) := Dg.small_cons.2 ⟨hxl, Dg.small_dg _ _ (by omega)⟩
      have hv2 : Dg.vl 65536 ([x] ++ Dg.dg 65536 R) = N := by rw [List.singleton_append]; simp only [Dg.vl]; rw [Dg.vl_dg _ _ (by omega), hN]
      obtain ⟨g1, c1, rfl, -, -⟩ := World.ownsRow.form own2 (by simp)
      have r2 := own2.rd
      have hl2 : ([x] ++ Dg.dg 65536 R).length ≤ 1000000 := by simp only [List.length_append, List.length_cons, List.length_nil]; omega
      have own := own.later b1
      have bel := below_trans bel b1
      have HSET : Hid (IntoI xs (cur.set m (N / Dg.vl 65536 bs)) (Dg.vl 65536 bs) m (N % Dg.vl 65536 bs)) := hset
      have HSKIP : Hid (N < Dg.vl 65536 bs → IntoI xs cur (Dg.vl 65536 bs) m N) := hskip
      have HNLT : Hid (N < 65536 * Dg.vl 65536 bs) := hNlt
      have HV2 : Hid (Dg.vl 65536 ([x] ++ Dg.dg 65536 R) = N) := hv2
      have HS2 : Hid (Dg.Small 65536 ([x] ++ Dg.dg 65536 R)) := hs2
      clear hset hskip hNlt hv2 hs2 own2 gr a1 own1 hR hI ex hN hcell hRb hRl b1
      go_wp2_with (at_builtin; refine wpList_append_run (by rfl) _ _ 29 (by rfl) _ _ _ w1 (by rfl) (by rfl) hrun ?_)
      go_wp2_with fail
      refine (reftrim_any _ _ _ _ _ r2).mono ?_
      rintro e w' ⟨n1, rfl, htr, rfl⟩
      have hml := htr.1
      have r1 := rd_trim (cap' := n1) 65536 (by omega) r2 HS2.out htr (Nat.le_refl _) (by unfold maxLen; omega)
      rw [HV2.out] at r1
      clear htr r2 HS2 HV2 hrun
      have HN1 : Hid (n1 = (Dg.dg 65536 N).length) := rd_len r1
      by_cases hlt : N < Dg.vl 65536 bs
      · have hI2 := HSKIP.out hlt
        go_wp2_with fail
        refine (HBC.out _ N _ bel r1).mono ?_
        rintro e w2 ⟨rfl, b2⟩
        rw [cmpI_lt (by omega)]
        have own := own.later b2
        have r2 := r1.later b2
        have bel := below_trans bel b2
        go_wp2
        go_roundw
        case rel => exact ⟨m, N, cur, by omega, by go_num, own, r2, hI2, bel⟩
        case measure => simp [intOf]
      · have hd := cmpI_nlt2 (a := (N : Int)) (b := (Dg.vl 65536 bs : Int)) (by omega)
        obtain ⟨cr, hcr⟩ : ∃ cr, cmpI (N : Int) (Dg.vl 65536 bs : Int) = cr := ⟨_, rfl⟩
        rw [hcr] at hd
        have HCR : Hid (cmpI (N : Int) (Dg.vl 65536 bs : Int) = cr) := hcr
        clear hcr
        go_wp2_with fail
        refine (HBC.out _ N _ bel r1).mono ?_
        rintro e w2 ⟨rfl, b2⟩
        rw [HCR.out]
        have own := own.later b2
        have r2 := r1.later b2
        have bel := below_trans bel b2
        obtain ⟨-, -, hcb2⟩ := rd_open (HB.out.later bel)
        obtain ⟨bb, boff, rfl, hcellb⟩ := hcb2 (by omega)
        have e1 := hcellb (bs.length - 1) (by omega)
        have e0 := hcellb (bs.length - 2) (by omega)
        have hd1 := sb (bs.length - 1)
        have hd0 := sb (bs.length - 2)
        obtain ⟨d1, ed1⟩ : ∃ d1, bs.getD (bs.length - 1) 0 = d1 := ⟨_, rfl⟩
        obtain ⟨d0, ed0⟩ : ∃ d0, bs.getD (bs.length - 2) 0 = d0 := ⟨_, rfl⟩
        have hgs := guess_ge (Dg.dg 65536 N) bs bs.length N (Dg.vl 65536 bs) (topAt (Dg.dg 65536 N) bs.length 3) (d1 * 65536 + d0) hb2 rfl (Dg.small_dg _ _ (by omega)) nb (Dg.vl_dg _ _ (by omega)) rfl (Dg.dg_len_le 65536 N _ (by omega) (by
          have h5 := Dg.vl_lt 65536 bs sb
          have h6 := HNLT.out
          rw [Nat.pow_succ]
          omega)) HNLT.out (by simp [topAt]) (by rw [ed1, ed0])
        rw [ed1] at e1 hd1
        rw [ed0] at e0 hd0
        have n1' : ((bs.length : Int) - 1) = ((bs.length - 1 : Nat) : Int) := by omega
        have n2' : ((bs.length : Int) - 2) = ((bs.length - 2 : Nat) : Int) := by omega
        have hi1 : ((bs.length - 1 : Nat) : Int) < (bs.length : Int) := by omega
        have hi2 : ((bs.length - 2 : Nat) : Int) < (bs.length : Int) := by omega
        have HGS : Hid _ := hgs
        clear hgs ed1 ed0 hcellb hcb2 HCR
        go_wp2
        go_quiet (fail)
        go_wp2
        have bq : Below w2.heap.size w2 (w2.drewN nq) := below_drewN (Below.refl _ _) nq
        have own := own.later bq
        have r2 := r2.later bq
        have bel := below_trans bel bq
        obtain ⟨W3, hW3⟩ : ∃ W3, w2.drewN nq = W3 := ⟨_, rfl⟩
        rw [hW3] at own r2 bel
        have HW3 : Hid (w2.drewN nq = W3) := hW3
        rw [hW3]
        clear hW3 bq b2
        go_loopw [12, 14] (fun tv jv wq => wq = W3 ∧ ∃ j : Nat, j ≤ 3 ∧ jv = .int .i64 j ∧ tv = .int .i64 (topAt (Dg.dg 65536 N) bs.length j)) (fun _ jv _ => 3 - (intOf jv).toNat)
        case atStart => exact ⟨rfl, 0, by omega, rfl, rfl⟩
        case round =>
          obtain ⟨hwq, j, hj, rfl, rfl⟩ := hrel
          subst hwq
          have hT := topAt_lt (Dg.small_dg 65536 N (by omega)) bs.length j
          have hTj : j < 3 → topAt (Dg.dg 65536 N) bs.length j < 4294967296 := fun h => Nat.lt_of_lt_of_le hT (Nat.pow_le_pow_right (n := 65536) (by omega) (show j ≤ 2 by omega))
          have hTs : topAt (Dg.dg 65536 N) bs.length (j + 1) = 65536 * topAt (Dg.dg 65536 N) bs.length j + (Dg.dg 65536 N).getD (bs.length - j) 0 := rfl
          have hDl := Dg.small_dg 65536 N (by omega) (bs.length - j)
          have hD0 : ¬bs.length - j < n1 → (Dg.dg 65536 N).getD (bs.length - j) 0 = 0 := fun h => Dg.getD_of_le _ _ (by rw [← HN1.out]; omega)
          have hDc : bs.length - j < n1 → wr.cell? ⟨g1, bs.length - j, none⟩ = some (.int .i64 (((Dg.dg 65536 N).getD (bs.length - j) 0 : Nat) : Int)) := fun h => rd_cell0 r2 _ (by rw [← HN1.out]; exact h)
          by_cases hj3 : j < 3
          · have hTl := hTj hj3
            obtain ⟨T, hTe⟩ : ∃ T, topAt (Dg.dg 65536 N) bs.length j = T := ⟨_, rfl⟩
            obtain ⟨D, hDe⟩ : ∃ D, (Dg.dg 65536 N).getD (bs.length - j) 0 = D := ⟨_, rfl⟩
            rw [hTe] at hTs hTl ⊢
            rw [hDe] at hTs hDl hD0 hDc
            obtain ⟨i, hie⟩ : ∃ i, bs.length - j = i := ⟨_, rfl⟩
            have hiI : ((bs.length : Int) - (j : Int)) = (i : Int) := by omega
            rw [hie] at hD0 hDc
            have HTS : Hid (topAt (Dg.dg 65536 N) bs.length (j + 1) = 65536 * T + D) := hTs
            clear hT hTj hTs hTe hDe hie
            by_cases hat : i < n1
            · have hDc := hDc hat
              clear hD0
              go_wp2
              go_roundw
              case rel => exact ⟨trivial, j + 1, by omega, by go_num, by rw [HTS.out]; go_num⟩
              case measure => simp [intOf]; omega
            · have hD := hD0 hat
              subst hD
              clear hDc hD0
              go_wp2
              go_roundw
              case rel => exact ⟨trivial, j + 1, by omega, by go_num, by rw [HTS.out]; go_num⟩
              case measure => simp [intOf]; omega
          · have hj4 : j = 3 := by omega
            subst hj4
            clear hTj hTs hDl hD0 hDc hj hj3
            have hTl : topAt (Dg.dg 65536 N) bs.length 3 < 281474976710656 := Nat.lt_of_lt_of_le hT (by decide)
            clear hT
            obtain ⟨T, hTe⟩ : ∃ T, topAt (Dg.dg 65536 N) bs.length 3 = T := ⟨_, rfl⟩
            rw [hTe] at HGS hTl ⊢
            clear hTe
            have hq1 : (T : Int).tdiv ((d1 : Int) * 65536 + (d0 : Int) + 1) = ((T / (d1 * 65536 + d0 + 1) : Nat) : Int) := by
              rw [Int.tdiv_eq_ediv_of_nonneg (by omega)]
              exact (Int.natCast_ediv T (d1 * 65536 + d0 + 1)).symm
            have hq2 : (T : Int) / ((d1 : Int) * 65536 + (d0 : Int) + 1) = ((T / (d1 * 65536 + d0 + 1) : Nat) : Int) := (Int.natCast_ediv T (d1 * 65536 + d0 + 1)).symm
            have hql : T / (d1 * 65536 + d0 + 1) ≤ T := Nat.div_le_self _ _
            obtain ⟨q, hqe⟩ : ∃ q, T / (d1 * 65536 + d0 + 1) = q := ⟨_, rfl⟩
            rw [hqe] at HGS hq1 hq2 hql
            have hne : (((d1 : Int) * 65536 + (d0 : Int) + 1) == 0) = false := by simp; omega
            clear hqe
            go_wp2
            obtain ⟨D, hD⟩ : ∃ D : Nat, min (65535 : Int) (max 0 ((q : Int) - 1) + 4) = (D : Int) := ⟨(min (65535 : Int) (max 0 ((q : Int) - 1) + 4)).toNat, by omega⟩
            have HD1 : Hid (N / Dg.vl 65536 bs ≤ D ∧ D ≤ 65535) := ⟨by have := HGS.out; omega, by omega⟩
            have HD2 : Hid (min (65535 : Int) (max 0 ((q : Int) - 1) + 4) = (D : Int)) := hD
            clear hD HGS hq1 hq2 hql hne hTl
            obtain ⟨W5, rfl⟩ : ∃ W5, W5 = wr := ⟨_, rfl⟩
            go_loopw [10, 17] (fun rv dv wq => IntoD W5 g1 n1 (N / Dg.vl 65536 bs) rv dv wq) (fun _ dv _ => (intOf dv).toNat)
            case atStart => exact ⟨rfl, D, HD1.out.1, HD1.out.2, by rw [HD2.out], Below.refl _ _⟩
            case round =>
              obtain ⟨rfl, d, hg1, hg2, rfl, b5⟩ := hrel
              have own5 := own.later b5
              have r5 := r2.later b5
              have bel5 := below_trans bel b5
              have hNl : (Dg.dg 65536 N).length ≤ 1000000 := by rw [← HN1.out]; omega
              clear HD1 HD2
              by_cases hle : Dg.vl 65536 bs * d ≤ N
              · have hdq := digit_found hg1 hle hb0
                have hcle := cmpI_le' (a := ((Dg.vl 65536 bs * d : Nat) : Int)) (b := (N : Int)) (Int.ofNat_le.2 hle)
                obtain ⟨cz, hcz⟩ : ∃ cz, cmpI ((Dg.vl 65536 bs * d : Nat) : Int) (N : Int) = cz := ⟨_, rfl⟩
                rw [hcz] at hcle
                have HCZ : Hid (cmpI ((Dg.vl 65536 bs * d : Nat) : Int) (N : Int) = cz) := hcz
                have HLE : Hid (Dg.vl 65536 bs * d ≤ N) := hle
                have HDQ : Hid (d = N / Dg.vl 65536 bs) := hdq
                clear hcz hle hdq
                go_wp2_with fail
                refine (from_any d _ (by omega)).mono ?_
                rintro e w6 ⟨v6, rfl, r6, b6⟩
                have bel6 := below_trans bel5 b6
                go_wp2_with fail
                refine (HTM.out _ d _ (by omega) bel6 r6).mono ?_
                rintro e w7 ⟨v7, rfl, r7, b7⟩
                have b57 := below_trans b6 b7
                have bel7 := below_trans bel5 b57
                have r57 := r5.later b57
                clear bel6 r6 b6 b7
                go_wp2_with fail
                refine (HCM.out _ _ _ _ _ r7 r57).mono ?_
                rintro e w8 ⟨rfl, b8⟩
                rw [HCZ.out]
                have r7 := r7.later b8
                have r58 := r57.later b8
                have bel8 := below_trans bel7 b8
                have own8 := (own5.later b57).later b8
                clear r57 bel7 b57 HCZ own5
                go_wp2_with fail
                refine (HLS.out _ _ _ _ _ hNl HLE.out r58 r7).mono ?_
                rintro e w9 ⟨v9, rfl, r9, f9, b9⟩
                have own9 := own8.later b9
                have bel9 := below_trans bel8 b9
                have hq9 := own9.cell m (by omega)
                have hf9 := own9.free m
                have hs9 : w.heap.size < w8.heap.size := by have := own8.block; omega
                have own10 := own9.store m d
                have r10 := r9.set_far (g := w.heap.size) (j := m) f9 hs9 (.int .i64 (d : Int))
                have bel10 := bel9.setCell (p := ⟨w.heap.size, m, none⟩) (Nat.le_refl _) (.int .i64 (d : Int))
                have HN : Hid (N - Dg.vl 65536 bs * d = N % Dg.vl 65536 bs) := by
                  rw [HDQ.out]
                  have := Nat.div_add_mod N (Dg.vl 65536 bs)
                  unfold Hid
                  omega
                clear r58 r7 bel8 own8 b8 b9 HLE f9 r9 bel9
                go_wp2
                go_roundw
                case rel => exact ⟨m, N % Dg.vl 65536 bs, cur.set m (N / Dg.vl 65536 bs), by omega, by go_num, by rw [← HDQ.out]; exact own10, by rw [← HN.out]; exact r10, HSET.out, bel10⟩
                case measure => simp [intOf]
              · have hdl := digit_less hg1 hle hb0
                have hcz := cmpI_gt (a := ((Dg.vl 65536 bs * d : Nat) : Int)) (b := (N : Int)) (by omega)
                have HCZ : Hid (cmpI ((Dg.vl 65536 bs * d : Nat) : Int) (N : Int) = 1) := hcz
                have HG : Hid (N / Dg.vl 65536 bs ≤ d - 1) := Nat.le_sub_of_add_le hdl
                have hd0' : 0 < d := Nat.lt_of_lt_of_le (Nat.succ_pos _) hdl
                clear hcz hle hdl
                go_wp2_with fail
                refine (from_any d _ (by omega)).mono ?_
                rintro e w6 ⟨v6, rfl, r6, b6⟩
                have bel6 := below_trans bel5 b6
                go_wp2_with fail
                refine (HTM.out _ d _ (by omega) bel6 r6).mono ?_
                rintro e w7 ⟨v7, rfl, r7, b7⟩
                have b57 := below_trans b6 b7
                have r57 := r5.later b57
                clear bel6 r6 b6 b7
                go_wp2_with fail
                refine (HCM.out _ _ _ _ _ r7 r57).mono ?_
                rintro e w8 ⟨rfl, b8⟩
                rw [HCZ.out]
                have b58 := below_trans (below_trans b5 b57) b8
                clear r57 b57 HCZ own5 r7
                go_wp2
                go_roundw
                case rel =>
                  refine ⟨_, _, _, _, _, _, _, _, _, _, _, _, _, _, _, _, _, _, _, _, ⟨rfl, d - 1, HG.out, by omega, ?_, b58⟩, rfl⟩
                  go_num
                case measure => simp [intOf]; omega
end Go.Proofs.YtiiphandhpilgaaGreatDoor
namespace Go.Proofs.YtiiphandhpilgaaGreatDoor
open Go.RowKit
/-- The call answers two numbers of the reference. -/
def RTwo (w : World) (q r : Nat) (e : Ending) (w' : World) : Prop :=
  ∃ vq vr, e = .returned (.tuple #[vq, vr]) ∧ Rd w' .i64 vq (Dg.dg 65536 q) ∧ Rd w' .i64 vr (Dg.dg 65536 r) ∧ Below w.heap.size w w'

theorem into_any (va vb : Value) (a b : Nat) (w : World) (ha : Rd w .i64 va (Dg.dg 65536 a)) (hb : Rd w .i64 vb (Dg.dg 65536 b)) (hla : (Dg.dg 65536 a).length ≤ 900000) (hlb : (Dg.dg 65536 b).length ≤ 900000) (hb0 : 0 < b) :
    Calls Tryz.prog 62 #[va, vb] w (RTwo w (a / b) (a % b)) := by
  have hne : ¬(Dg.dg 65536 b).length = 0 := by rw [List.length_eq_zero_iff, Dg.dg_nil_iff _ _ (by omega)]; omega
  by_cases h1 : (Dg.dg 65536 b).length = 1
  · obtain ⟨d, hd⟩ : ∃ d, Dg.dg 65536 b = [d] := List.length_eq_one_iff.1 h1
    have hs := Dg.small_dg 65536 b (by omega)
    have hv := Dg.vl_dg 65536 b (by omega)
    rw [hd] at hs hv
    have hdb : d = b := by simpa [Dg.vl] using hv
    subst hdb
    have := into1_any va _ vb d w ha (by rw [← hd]; exact hb) (Dg.small_dg _ _ (by omega)) (by omega) hb0 (Dg.small_cons.1 hs).1
    rw [Dg.vl_dg _ _ (by omega)] at this
    exact this
  · have := intoN_any va vb _ _ w ha hb (Dg.small_dg _ _ (by omega)) (Dg.small_dg _ _ (by omega)) (Dg.norm_dg _ _ (by omega)) hla hlb (by omega)
    rw [Dg.vl_dg _ _ (by omega), Dg.vl_dg _ _ (by omega)] at this
    exact this
end Go.Proofs.YtiiphandhpilgaaGreatDoor

/-
  Texts laid together: Ref5, Ref6.
-/
import Derived.Test.YtiiphandhpilgaaGreatDoorEa05
import Derived.Test.YtiiphandhpilgaaGreatDoorEa06
namespace Go.Proofs.YtiiphandhpilgaaGreatDoor
open Go.RowKit
def RMulO (xs ys ps : List Nat) (i : Nat) : Prop :=
  ps.length = xs.length + ys.length ∧ Dg.Small 65536 ps ∧ (∀ j, i + ys.length ≤ j → ps.getD j 0 = 0) ∧ Dg.vl 65536 ps = Dg.vl 65536 (xs.take i) * Dg.vl 65536 ys

def RMulI (xs ys ps : List Nat) (i k c : Nat) : Prop :=
  ps.length = xs.length + ys.length ∧ Dg.Small 65536 ps ∧ c < 65536 ∧ (∀ j, i + ys.length + 1 ≤ j → ps.getD j 0 = 0) ∧ (k ≤ ys.length → ps.getD (i + ys.length) 0 = 0) ∧ (ys.length < k → c = 0) ∧ k ≤ ys.length + 1 ∧
    Dg.vl 65536 ps + 65536 ^ (i + k) * c = Dg.vl 65536 (xs.take i) * Dg.vl 65536 ys + 65536 ^ i * (xs.getD i 0 * Dg.vl 65536 (ys.take k))

theorem rmulO_start (xs ys : List Nat) : RMulO xs ys (List.replicate (xs.length + ys.length) 0) 0 := by
  refine ⟨by simp, Dg.small_replicate _ _ (by omega), fun j _ => ?_, ?_⟩
  · by_cases h : j < xs.length + ys.length <;> simp [List.getD_eq_getElem?_getD, h]
  · simp [Dg.vl_replicate_zero, Dg.vl]

theorem rmulI_start {xs ys ps : List Nat} {i : Nat} (h : RMulO xs ys ps i) : RMulI xs ys ps i 0 0 :=
  ⟨h.1, h.2.1, by omega, fun j hj => h.2.2.1 j (by omega), fun _ => h.2.2.1 _ (by omega), fun _ => rfl, by omega, by rw [h.2.2.2]; simp [Dg.vl]⟩

theorem mul_bound16 {x y : Nat} (hx : x < 65536) (hy : y < 65536) : x * y ≤ 4294836225 := by
  have := Nat.mul_le_mul (Nat.le_sub_one_of_lt hx) (Nat.le_sub_one_of_lt hy)
  simpa using this

theorem rmulI_step {xs ys ps : List Nat} {i k c : Nat} (h : RMulI xs ys ps i k c) (sa : Dg.Small 65536 xs) (sb : Dg.Small 65536 ys) (hi : i < xs.length) (hk : k < ys.length ∨ 0 < c) (t : Nat) (ht : t = ps.getD (i + k) 0 + c + xs.getD i 0 * ys.getD k 0) :
    RMulI xs ys (ps.set (i + k) (t % 65536)) i (k + 1) (t / 65536) := by
  obtain ⟨h1, h2, h3, h4, h5, h6, h7, h8⟩ := h
  have hkl : k ≤ ys.length := by
    rcases Nat.lt_or_ge ys.length k with e | e
    · have := h6 e; omega
    · exact e
  have hl : i + k < ps.length := by omega
  have hp := h2 (i + k)
  have hxy := mul_bound16 (sa i) (sb k)
  refine ⟨by simpa using h1, Dg.small_set h2 _ _ (Nat.mod_lt _ (by omega)), by omega, fun j hj => ?_, fun hk2 => ?_, fun hk2 => ?_, by omega, ?_⟩
  · rw [Dg.getD_set _ _ _ _ hl, if_neg (by omega)]; exact h4 j hj
  · rw [Dg.getD_set _ _ _ _ hl, if_neg (by omega)]; exact h5 (by omega)
  · have hke : k = ys.length := by omega
    subst hke
    rw [h5 (Nat.le_refl _), Dg.getD_of_le ys _ (Nat.le_refl _)] at ht
    omega
  · have hs := Dg.vl_set 65536 ps (i + k) (t % 65536) hl
    rw [vl_take_any]
    have hpw : 65536 ^ (i + (k + 1)) * (t / 65536) = 65536 ^ (i + k) * (65536 * (t / 65536)) := by
      rw [show i + (k + 1) = (i + k) + 1 from by omega, Nat.pow_succ, Nat.mul_assoc]
    have hm : 65536 ^ (i + k) * t = 65536 ^ (i + k) * (t % 65536) + 65536 ^ (i + k) * (65536 * (t / 65536)) := by
      rw [← Nat.mul_add, Nat.mod_add_div]
    have he : 65536 ^ (i + k) * t = 65536 ^ (i + k) * ps.getD (i + k) 0 + 65536 ^ (i + k) * c + 65536 ^ (i + k) * (xs.getD i 0 * ys.getD k 0) := by
      rw [ht, Nat.mul_add, Nat.mul_add]
    have hd : 65536 ^ i * (xs.getD i 0 * (Dg.vl 65536 (ys.take k) + 65536 ^ k * ys.getD k 0)) = 65536 ^ i * (xs.getD i 0 * Dg.vl 65536 (ys.take k)) + 65536 ^ (i + k) * (xs.getD i 0 * ys.getD k 0) := by
      rw [Nat.mul_add, Nat.mul_add, Nat.pow_add]
      congr 1
      rw [Nat.mul_assoc, Nat.mul_left_comm (xs.getD i 0)]
    rw [hpw, hd]
    omega

theorem rmulO_step {xs ys ps : List Nat} {i k c : Nat} (h : RMulI xs ys ps i k c) (hi : i < xs.length) (hk : ¬ (k < ys.length ∨ 0 < c)) : RMulO xs ys ps (i + 1) := by
  obtain ⟨h1, h2, h3, h4, h5, h6, h7, h8⟩ := h
  have hc : c = 0 := by omega
  subst hc
  refine ⟨h1, h2, fun j hj => h4 j (by omega), ?_⟩
  rw [Dg.vl_take_succ _ _ _ hi, Nat.add_mul, Nat.mul_assoc]
  have e : ys.take k = ys := List.take_of_length_le (by omega)
  rw [e] at h8
  omega

theorem cast_mod16 (p c x y : Nat) : ((p : Int) + (c : Int) + (x : Int) * (y : Int)) % 65536 = (((p + c + x * y) % 65536 : Nat) : Int) := by
  rw [← Int.natCast_mul]; omega
theorem cast_div16 (p c x y : Nat) : ((p : Int) + (c : Int) + (x : Int) * (y : Int)) / 65536 = (((p + c + x * y) / 65536 : Nat) : Int) := by
  rw [← Int.natCast_mul]; omega

theorem rd_own_trim {w : World} {base e : Nat} {g n cap m : Nat} {zs : List Nat} (h : Own w base e .i64 (.slice (some ⟨g, 0, none⟩) n cap) zs) (hs : Dg.Small 65536 zs) (ht : TrimR zs m) (hl : zs.length ≤ 3000000) : Rd w .i64 (.slice (some ⟨g, 0, none⟩) m m) (Dg.dg 65536 (Dg.vl 65536 zs)) :=
  rd_trim 65536 (by omega) h.rd hs ht (Nat.le_refl _) (by have := ht.1; unfold maxLen; omega)

set_option maxRecDepth 100000 in
set_option maxHeartbeats 3200000 in
theorem reftimes_any (va vb : Value) (xs ys : List Nat) (w : World) (ha : Rd w .i64 va xs) (hb : Rd w .i64 vb ys) (sa : Dg.Small 65536 xs) (sb : Dg.Small 65536 ys) (hla : xs.length ≤ 1000000) (hlb : ys.length ≤ 1000000) :
    Calls Tryz.prog 76 #[va, vb] w (RNum w (Dg.vl 65536 xs * Dg.vl 65536 ys)) := by
  obtain ⟨i0, hi, hz0, hz1, hz2⟩ := info_parts Tryz.infoI64
  obtain ⟨ao, ca, rfl, -, -, hca⟩ := ha
  obtain ⟨bo, cb, rfl, -, -, hcb⟩ := hb
  go_enter Tryz.func76, Tryz.ntmps76
  go_wp2_with (at_make; refine wpList_make_full _ rfl _ _ 29 rfl w.heap.size 3 i0 (.int .i64 0) 1 Tryz.underlying29 hi hz0 hz1 _ _ _ _ (xs.length + ys.length) rfl rfl (by omega) (by omega) ?b2 ?b3 (Nat.le_refl _) ?_)
  case b2 => rw [hz2]; omega
  case b3 => unfold maxLen; omega
  intro w0 hown0 hgrow0
  have own0 := own_made hown0
  have bel0 : Below w.heap.size w w0 := (Below.refl _ _).grown hgrow0 (Nat.le_refl _) (fun k h => by cases h)
  clear hown0 hgrow0
  go_wp2
  go_loopw [6] (fun iv wr => ∃ (i : Nat) (ps : List Nat), i ≤ xs.length ∧ iv = .int .i64 i ∧ Own wr w.heap.size 3 .i64 (.slice (some ⟨w.heap.size, 0, none⟩) (xs.length + ys.length) (xs.length + ys.length)) ps ∧ RMulO xs ys ps i ∧ Below w.heap.size w wr)
    (fun iv _ => xs.length - (intOf iv).toNat)
  case atStart => exact ⟨0, _, Nat.zero_le _, rfl, own0, rmulO_start xs ys, bel0⟩
  case round =>
    obtain ⟨i, ps, hil, rfl, own, hO, bel⟩ := hrel
    by_cases hlt : i < xs.length
    · obtain ⟨b, off, rfl, hcella⟩ := hca (by omega)
      have hcell := hcella i hlt
      have hxs := sa i
      obtain ⟨x, ex⟩ : ∃ x, xs.getD i 0 = x := ⟨_, rfl⟩
      rw [ex] at hcell hxs
      have Hx : Hid (xs.getD i 0 = x) := ex
      clear ex hcella hca own0 bel0
      go_wp2
      go_loopw [7, 8] (fun cv kv wr => ∃ (k c : Nat) (ps : List Nat), kv = .int .i64 k ∧ cv = .int .i64 c ∧ Own wr w.heap.size 3 .i64 (.slice (some ⟨w.heap.size, 0, none⟩) (xs.length + ys.length) (xs.length + ys.length)) ps ∧ RMulI xs ys ps i k c ∧ Below w.heap.size w wr)
        (fun _ kv _ => ys.length + 2 - (intOf kv).toNat)
      case atStart => exact ⟨0, 0, ps, rfl, rfl, own, rmulI_start hO, bel⟩
      case round =>
        clear own hO bel ps
        obtain ⟨k, c, ps, rfl, rfl, own, hI, bel⟩ := hrel
        have hpl := hI.1
        have hcl := hI.2.2.1
        have hk6 := hI.2.2.2.2.2.1
        have hk7 := hI.2.2.2.2.2.2.1
        by_cases hcond : k < ys.length ∨ 0 < c
        · have hkl : k ≤ ys.length := by
            rcases Nat.lt_or_ge ys.length k with e | e
            · have := hk6 e; omega
            · exact e
          have hp := own.cell (i + k) (by omega)
          have hps := hI.2.1 (i + k)
          have hfr := own.free (i + k)
          have hst := rmulI_step hI sa sb hlt hcond _ rfl
          have hys := sb k
          have hy0 : ¬ k < ys.length → ys.getD k 0 = 0 := fun h => Dg.getD_of_le _ _ (by omega)
          have hxw := cell_later bel hcell
          have hcy : k < ys.length → ∃ b off, bo = some ⟨b, off, none⟩ ∧ wr.cell? ⟨b, off + k, none⟩ = some (.int .i64 ((ys.getD k 0 : Nat) : Int)) := fun h => by
            obtain ⟨b, off, e, hc2⟩ := hcb (by omega)
            exact ⟨b, off, e, cell_later bel (hc2 k h)⟩
          rw [Hx.out] at hst
          obtain ⟨y, ey⟩ : ∃ y, ys.getD k 0 = y := ⟨_, rfl⟩
          obtain ⟨p, ep⟩ : ∃ p, ps.getD (i + k) 0 = p := ⟨_, rfl⟩
          rw [ey] at hys hy0 hcy hst
          rw [ep] at hp hps hst
          clear ey ep hk6 hcb
          by_cases h2 : k < ys.length
          · obtain ⟨b2, off2, rfl, hcell2⟩ := hcy h2
            have hxy := mul_bound16 hxs hys
            have hxyI : (x : Int) * (y : Int) ≤ 4294836225 := by rw [← Int.natCast_mul]; omega
            have hxy0 : 0 ≤ (x : Int) * (y : Int) := by rw [← Int.natCast_mul]; omega
            clear hcy hy0 hcond
            go_wp2
            go_quiet (fail)
            go_wp2
            go_roundw
            case rel =>
              rw [cast_mod16, cast_div16]
              exact ⟨k + 1, _, _, by go_num, rfl, Own.store (Own.later own (below_drewN (Below.refl _ _) _)) (i + k) _, hst, (below_drewN bel _).setCell (by exact Nat.le_refl _) _⟩
            case measure => simp [intOf]; omega
          · have hy := hy0 h2
            subst hy
            have hc0 : 0 < c := by omega
            simp only [Nat.mul_zero, Nat.add_zero] at hst
            clear hcy hy0 hcond
            go_wp2
            go_roundw
            case rel =>
              have e1 : ((p : Int) + (c : Int)) % 65536 = (((p + c) % 65536 : Nat) : Int) := by omega
              have e2 : ((p : Int) + (c : Int)) / 65536 = (((p + c) / 65536 : Nat) : Int) := by omega
              rw [e1, e2]
              exact ⟨k + 1, _, _, by go_num, rfl, own.store (i + k) _, hst, bel.setCell (by exact Nat.le_refl _) _⟩
            case measure => simp [intOf]; omega
        · have h1 : ¬ k < ys.length := by omega
          have h2 : ¬ 0 < c := by omega
          have hst := rmulO_step hI hlt hcond
          clear hcond
          go_wp2
          go_roundw
          case rel => exact ⟨i + 1, ps, by omega, by go_num, own, hst, bel⟩
          case measure => simp [intOf]; omega
    · have hie : i = xs.length := by omega
      subst hie
      have hpl := hO.1
      have hps := hO.2.1
      have hv := hO.2.2.2
      rw [List.take_of_length_le (Nat.le_refl _)] at hv
      have HV : Hid (Dg.vl 65536 ps = Dg.vl 65536 xs * Dg.vl 65536 ys) := hv
      have hl : ps.length ≤ 3000000 := by omega
      clear hpl hv
      go_wp2_with fail
      refine (reftrim_any _ _ _ ps _ own.rd).mono ?_
      rintro e w' ⟨m, rfl, hm, rfl⟩
      have hr := rd_own_trim own hps hm hl
      rw [HV.out] at hr
      clear hm
      go_wp2
      go_ret
      exact ⟨_, rfl, hr, bel⟩
end Go.Proofs.YtiiphandhpilgaaGreatDoor
namespace Go.Proofs.YtiiphandhpilgaaGreatDoor
open Go.RowKit
theorem pow2_digits (wh pt : Nat) (hpt : pt < 16) : (List.replicate (wh + 1) 0).set wh (2 ^ pt) = Dg.dg 65536 (2 ^ (16 * wh + pt)) := by
  have hp : 2 ^ pt < 65536 := by
    have : 2 ^ pt ≤ 2 ^ 15 := Nat.pow_le_pow_right (by omega) (by omega)
    omega
  have hp0 : 0 < 2 ^ pt := Nat.pow_pos (by omega)
  refine Dg.eq_dg 65536 (by omega) _ _ (Dg.small_set (Dg.small_replicate _ _ (by omega)) _ _ hp) (fun _ => ?_) ?_
  · simp only [List.length_set, List.length_replicate, Nat.add_sub_cancel]
    rw [Dg.getD_set _ _ _ _ (by simp), if_pos rfl]
    omega
  · have := Dg.vl_set 65536 (List.replicate (wh + 1) 0) wh (2 ^ pt) (by simp)
    have hz : (List.replicate (wh + 1) 0).getD wh 0 = 0 := by simp [List.getD_eq_getElem?_getD]
    rw [hz, Dg.vl_replicate_zero] at this
    rw [Nat.pow_add, Nat.pow_mul, show (2 : Nat) ^ 16 = 65536 from by decide]
    omega

set_option maxRecDepth 100000 in
set_option maxHeartbeats 1600000 in
theorem pow2_any (n wh pt : Nat) (w : World) (hn : n = 16 * wh + pt) (hpt : pt < 16) (hnl : n ≤ 1000000) :
    Calls Tryz.prog 31 #[.int .i64 n] w (RNum w (2 ^ n)) := by
  have hd := pow2_digits wh pt hpt
  rw [← hn] at hd
  obtain ⟨i0, hi, hz0, hz1, hz2⟩ := info_parts Tryz.infoI64
  have hq : (n : Int) / 16 = (wh : Int) := by omega
  have hr : (n : Int) % 16 = (pt : Int) := by omega
  have hwl : wh ≤ 1000000 := by omega
  have HD : Hid ((List.replicate (wh + 1) 0).set wh (2 ^ pt) = Dg.dg 65536 (2 ^ n)) := hd
  clear hd hn
  go_enter Tryz.func31, Tryz.ntmps31
  go_wp2_with (at_make; refine wpList_make_full _ rfl _ _ 29 rfl w.heap.size 3 i0 (.int .i64 0) 1 Tryz.underlying29 hi hz0 hz1 _ _ _ _ (wh + 1) rfl rfl (by omega) (by omega) ?b2 ?b3 (Nat.le_refl _) ?_)
  case b2 => rw [hz2]; omega
  case b3 => unfold maxLen; omega
  intro w0 hown0 hgrow0
  have own0 := own_made hown0
  have bel0 : Below w.heap.size w w0 := (Below.refl _ _).grown hgrow0 (Nat.le_refl _) (fun k h => by cases h)
  clear hown0 hgrow0
  go_wp2
  go_loop [4, 5] (fun dv iv => ∃ k d : Nat, k ≤ pt ∧ iv = .int .i64 k ∧ dv = .int .i64 d ∧ Hid (d = 2 ^ k)) (fun _ iv => pt - (intOf iv).toNat)
  case atStart => exact ⟨0, 1, Nat.zero_le _, rfl, rfl, rfl⟩
  case round =>
    obtain ⟨k, d, hk, rfl, rfl, hdk⟩ := hrel
    have hdl : d ≤ 65536 := by
      rw [hdk.out]
      have : 2 ^ k ≤ 2 ^ 15 := Nat.pow_le_pow_right (by omega) (by omega)
      omega
    by_cases hlt : k < pt
    · go_wp2
      go_round
      case rel => exact ⟨k + 1, 2 * d, by omega, by go_num, by go_num, by rw [show d = 2 ^ k from hdk.out, Nat.pow_succ]; exact Nat.mul_comm _ _⟩
      case measure => simp [intOf]; omega
    · have hke : k = pt := by omega
      subst hke
      have hc := own0.cell wh (by simp)
      have hf := own0.free wh
      have own2 := own0.store wh d
      have bel2 := bel0.setCell (p := ⟨w.heap.size, wh, none⟩) (by exact Nat.le_refl _) (.int .i64 (d : Int))
      have hdd := hdk.out
      rw [show (List.replicate (wh + 1) 0).set wh d = Dg.dg 65536 (2 ^ n) from by rw [hdd]; exact HD.out] at own2
      have rd2 := own2.rd
      clear hdd own2
      go_wp2
      go_ret
      exact ⟨_, rfl, rd2, bel2⟩

theorem len_pow2 (n : Nat) : (Dg.dg 65536 (2 ^ n)).length ≤ n / 16 + 1 := by
  refine Dg.dg_len_le _ _ _ (by omega) ?_
  rw [show (65536 : Nat) = 2 ^ 16 from by decide, ← Nat.pow_mul]
  exact Nat.pow_lt_pow_right (by omega) (by omega)

set_option maxRecDepth 100000 in
theorem up_any (va : Value) (xs : List Nat) (n : Nat) (w : World) (ha : Rd w .i64 va xs) (sa : Dg.Small 65536 xs) (hla : xs.length ≤ 1000000) (hnl : n ≤ 1000000) :
    Calls Tryz.prog 61 #[va, .int .i64 n] w (RNum w (Dg.vl 65536 xs * 2 ^ n)) := by
  obtain ⟨ao, ca, rfl⟩ := ha.shape
  by_cases hne : xs = []
  · subst hne
    have hz : Dg.vl 65536 [] * 2 ^ n = 0 := by simp [Dg.vl]
    rw [hz]
    go_enter Tryz.func61, Tryz.ntmps61
    go_wp2
    go_ret
    exact ⟨_, rfl, (own_nil _ 0 0 _).rd, Below.refl _ _⟩
  · have h00 : ((xs.length : Int) == 0) = false := by simp; exact hne
    have hp := pow2_any n (n / 16) (n % 16) w (by omega) (by omega) hnl
    have hl := len_pow2 n
    go_enter Tryz.func61, Tryz.ntmps61
    go_wp2_with fail
    refine hp.mono ?_
    rintro e w1 ⟨v1, rfl, r1, b1⟩
    have ht := reftimes_any _ v1 xs _ w1 (ha.later b1) r1 sa (Dg.small_dg _ _ (by omega)) hla (by omega)
    rw [Dg.vl_dg _ _ (by omega)] at ht
    go_wp2_with fail
    refine ht.mono ?_
    rintro e w2 ⟨v2, rfl, r2, b2⟩
    have b12 := below_trans b1 b2
    clear ht hp
    go_wp2
    go_ret
    exact ⟨_, rfl, r2, b12⟩

theorem low_take (P Q : Nat) (l : List Nat) (k : Nat) (h : k < l.length) : (low P Q l).take (k + 1) = (low P Q l).take k ++ [l.getD k 0 / P + l.getD (k + 1) 0 % P * Q] := by
  rw [Dg.take_succ' _ k (by rw [low_length]; exact h), low_getD P Q l k h]

theorem low_small (P Q : Nat) (l : List Nat) (hPQ : P * Q = 65536) (hs : Dg.Small 65536 l) : Dg.Small 65536 (low P Q l) := by
  intro j
  by_cases hj : j < l.length
  · rw [low_getD P Q l j hj]
    have hP : 0 < P := by
      rcases Nat.eq_zero_or_pos P with e | e
      · subst e; simp at hPQ
      · exact e
    have h1 : l.getD j 0 / P < Q := by rw [Nat.div_lt_iff_lt_mul hP, Nat.mul_comm, hPQ]; exact hs j
    have h2 : (l.getD (j + 1) 0 % P + 1) * Q ≤ P * Q := Nat.mul_le_mul_right _ (Nat.mod_lt _ hP)
    rw [Nat.add_mul, hPQ] at h2
    omega
  · rw [Dg.getD_of_le _ _ (by rw [low_length]; omega)]; omega

theorem drop_vl (B : Nat) (hB : 0 < B) (xs : List Nat) (wh : Nat) (hw : wh ≤ xs.length) (sa : Dg.Small B xs) : Dg.vl B (xs.drop wh) = Dg.vl B xs / B ^ wh := by
  have hsp := Dg.vl_take_drop B xs wh hw
  have hlt := Dg.vl_lt B (xs.take wh) (Dg.small_take sa _ hB)
  rw [List.length_take, Nat.min_eq_left hw] at hlt
  rw [hsp, Nat.add_comm, Nat.mul_add_div (Nat.pow_pos hB), Nat.div_eq_of_lt hlt, Nat.add_zero]

set_option maxRecDepth 100000 in
set_option maxHeartbeats 1600000 in
theorem down_far (va : Value) (xs : List Nat) (n wh pt P Q : Nat) (w : World) (ha : Rd w .i64 va xs) (sa : Dg.Small 65536 xs) (hla : xs.length ≤ 1000000) (hn : n = 16 * wh + pt) (hpt : pt < 16) (hnl : n ≤ 100000000) (hP : P = 2 ^ pt) (hQ : Q = 2 ^ (16 - pt)) :
    Calls Tryz.prog 59 #[va, .int .i64 n] w (RNumF w (Dg.vl 65536 xs / 2 ^ n)) := by
  have hPQ : P * Q = 65536 := by rw [hP, hQ, ← Nat.pow_add, show pt + (16 - pt) = 16 from by omega]
  have hpw : 65536 ^ wh * P = 2 ^ n := by rw [hn, hP, Nat.pow_add, Nat.pow_mul]
  have hP0 : 0 < P := by rw [hP]; exact Nat.pow_pos (by omega)
  have hQ0 : 0 < Q := by rw [hQ]; exact Nat.pow_pos (by omega)
  have hPl : P ≤ 65536 := by rw [← hPQ]; exact Nat.le_mul_of_pos_right _ hQ0
  have hQl : Q ≤ 65536 := by rw [← hPQ]; exact Nat.le_mul_of_pos_left _ hP0
  obtain ⟨ao, ca, rfl, -, -, hca⟩ := ha
  obtain ⟨i0, hi, hz0, hz1, hz2⟩ := info_parts Tryz.infoI64
  have hq : (n : Int) / 16 = (wh : Int) := by omega
  have hr : (n : Int) % 16 = (pt : Int) := by omega
  have hwl : wh ≤ 100000000 := by omega
  have HPQ : Hid (P * Q = 65536) := hPQ
  have HPW : Hid (65536 ^ wh * P = 2 ^ n) := hpw
  have HP : Hid (P = 2 ^ pt) := hP
  by_cases hge : xs.length ≤ wh
  · have hz : Dg.vl 65536 xs / 2 ^ n = 0 := by
      apply Nat.div_eq_of_lt
      have h1 := Dg.vl_lt 65536 xs sa
      have h2 : 65536 ^ xs.length ≤ 65536 ^ wh := Nat.pow_le_pow_right (by omega) hge
      have h3 : 65536 ^ wh ≤ 65536 ^ wh * P := Nat.le_mul_of_pos_right _ hP0
      omega
    rw [hz]
    clear hz hn hPQ hpw hP hQ
    go_enter Tryz.func59, Tryz.ntmps59
    go_wp2
    go_ret
    exact ⟨_, rfl, (own_nil _ 0 0 _).rd, (fun a n c h => by cases h), Below.refl _ _⟩
  · have hdQ : (65536 : Int) / (P : Int) = (Q : Int) := by
      have : 65536 / P = Q := by rw [← hPQ]; exact Nat.mul_div_cancel_left _ hP0
      rw [← this]; exact (Int.natCast_ediv 65536 P).symm
    clear hn hPQ hpw hP hQ
    go_enter Tryz.func59, Tryz.ntmps59
    go_wp2
    go_loop [5, 6] (fun dv iv => ∃ k d : Nat, k ≤ pt ∧ iv = .int .i64 k ∧ dv = .int .i64 d ∧ Hid (d = 2 ^ k)) (fun _ iv => pt - (intOf iv).toNat)
    case atStart => exact ⟨0, 1, Nat.zero_le _, rfl, rfl, rfl⟩
    case round =>
      obtain ⟨k, d, hk, rfl, rfl, hdk⟩ := hrel
      have hdl : d ≤ 65536 := by
        rw [hdk.out]
        have : 2 ^ k ≤ 2 ^ 15 := Nat.pow_le_pow_right (by omega) (by omega)
        omega
      by_cases hlt : k < pt
      · go_wp2
        go_round
        case rel => exact ⟨k + 1, 2 * d, by omega, by go_num, by go_num, by rw [show d = 2 ^ k from hdk.out, Nat.pow_succ]; exact Nat.mul_comm _ _⟩
        case measure => simp [intOf]; omega
      · have hke : k = pt := by omega
        subst hke
        have hdP : d = P := hdk.out.trans HP.out.symm
        subst hdP
        clear hdk hdl HP
        go_wp2
        go_loopw [7, 8] (fun ov iv wr => ∃ j : Nat, wh + j ≤ xs.length ∧ iv = .int .i64 ((wh + j : Nat) : Int) ∧ Own wr w.heap.size 3 .i64 ov ((low d Q (xs.drop wh)).take j) ∧ Below w.heap.size w wr) (fun _ iv _ => xs.length - (intOf iv).toNat)
        case atStart => exact ⟨0, by omega, by go_num, own_nil _ _ _ _, Below.refl _ _⟩
        case round =>
          obtain ⟨j, hj, rfl, own, bel⟩ := hrel
          by_cases hlt2 : wh + j < xs.length
          · obtain ⟨b, off, rfl, hcell⟩ := hca (by omega)
            have hx := cell_later bel (hcell (wh + j) hlt2)
            have hy := fun h : wh + j + 1 < xs.length => cell_later bel (hcell (wh + j + 1) h)
            have hxl := sa (wh + j)
            have hyl := sa (wh + j + 1)
            have hy0 : ¬ wh + j + 1 < xs.length → xs.getD (wh + j + 1) 0 = 0 := fun h => Dg.getD_of_le _ _ (by omega)
            have hsn := low_take d Q (xs.drop wh) j (by simp; omega)
            rw [drop_getD, drop_getD, ← Nat.add_assoc] at hsn
            obtain ⟨x, ex⟩ : ∃ x, xs.getD (wh + j) 0 = x := ⟨_, rfl⟩
            obtain ⟨y, ey⟩ : ∃ y, xs.getD (wh + j + 1) 0 = y := ⟨_, rfl⟩
            obtain ⟨es, ees⟩ : ∃ es, (low d Q (xs.drop wh)).take j = es := ⟨_, rfl⟩
            have hel : es.length ≤ 1000000 := by rw [← ees]; simp [low_length]; omega
            rw [ex] at hx hxl hsn
            rw [ey] at hy hyl hy0 hsn
            rw [ees] at hsn own
            have HS : Hid ((low d Q (xs.drop wh)).take (j + 1) = es ++ [x / d + y % d * Q]) := hsn
            have hbs := bel.size
            obtain ⟨q1, hq1⟩ : ∃ q1, x / d = q1 := ⟨_, rfl⟩
            obtain ⟨m1, hm1⟩ : ∃ m1, y % d = m1 := ⟨_, rfl⟩
            have hq1I : (x : Int) / (d : Int) = (q1 : Int) := by rw [← hq1]; exact (Int.natCast_ediv x d).symm
            have hm1I : (y : Int) % (d : Int) = (m1 : Int) := by rw [← hm1]; exact (Int.natCast_emod y d).symm
            have hq1l : q1 ≤ 65536 := by rw [← hq1]; have := Nat.div_le_self x d; omega
            have hm1l : m1 < d := by rw [← hm1]; exact Nat.mod_lt _ hP0
            rw [hq1, hm1] at HS
            have hmQ : m1 * Q ≤ 65536 * 65536 := Nat.mul_le_mul (by omega) hQl
            have hmQI : (m1 : Int) * (Q : Int) ≤ 4294967296 := by rw [← Int.natCast_mul]; omega
            have hmQ0 : 0 ≤ (m1 : Int) * (Q : Int) := by rw [← Int.natCast_mul]; omega
            clear ex ey ees hcell hca hsn hq1 hm1 hmQ
            by_cases h2 : wh + j + 1 < xs.length
            · have hy1 := hy h2
              clear hy hy0
              have own2 := fun m => Own.later own (below_drewN (Below.refl wr.heap.size wr) m)
              go_wp2
              go_quiet (fail)
              go_wp2_with (at_builtin; refine wpList_append_own _ rfl _ _ 29 rfl w.heap.size 3 i0 (.int .i64 0) 1 8 Tryz.underlying29 hi hz0 hz1 hz2 rfl (by decide) _ _ _ rfl (World.ownsRow.alloc (own2 _) _) ⟨wr.heap.size, 0, none⟩ 1 1 [.int .i64 ((q1 : Int) + (m1 : Int) * (Q : Int))] rfl rfl ?c1 ?c2 ?c3 ?c4 ?c5 ?_)
              case c1 => exact cell_one_new _ _ _
              case c2 => intro u hu; simp at hu; subst hu; rfl
              case c3 => unfold maxLen; omega
              case c4 => omega
              case c5 => simp; omega
              intro v' w3 hown' hgrow _
              have e0 : ((q1 : Int) + (m1 : Int) * (Q : Int)) = ((q1 + m1 * Q : Nat) : Int) := by rw [Int.natCast_add, Int.natCast_mul]
              rw [e0] at hown' hgrow
              have R := own_append1 (below_drewN bel _) (own2 _) hown' hgrow
              clear hown' hgrow own own2 e0
              go_wp2
              go_roundw
              case rel => exact ⟨j + 1, by omega, by go_num, by rw [HS.out]; exact R.1, R.2⟩
              case measure => simp [intOf]; omega
            · have hy1 := hy0 h2
              subst hy1
              have hm0 : m1 = 0 := by
                have : (m1 : Int) = 0 := by rw [← hm1I]; simp
                omega
              subst hm0
              simp only [Nat.zero_mul, Nat.add_zero] at HS
              clear hy hy0 hm1I hmQI hmQ0
              go_wp2_with (at_builtin; refine wpList_append_own _ rfl _ _ 29 rfl w.heap.size 3 i0 (.int .i64 0) 1 8 Tryz.underlying29 hi hz0 hz1 hz2 rfl (by decide) _ _ _ rfl (World.ownsRow.alloc own _) ⟨wr.heap.size, 0, none⟩ 1 1 [.int .i64 ((q1 : Int))] rfl rfl ?d1 ?d2 ?d3 ?d4 ?d5 ?_)
              case d1 => exact cell_one_new _ _ _
              case d2 => intro u hu; simp at hu; subst hu; rfl
              case d3 => unfold maxLen; omega
              case d4 => omega
              case d5 => simp; omega
              intro v' w3 hown' hgrow _
              have R := own_append1 bel own hown' hgrow
              clear hown' hgrow own
              go_wp2
              go_roundw
              case rel => exact ⟨j + 1, by omega, by go_num, by rw [HS.out]; exact R.1, R.2⟩
              case measure => simp [intOf]; omega
          · have hje : wh + j = xs.length := by omega
            rw [List.take_of_length_le (by rw [low_length]; simp; omega)] at own
            have hsm := low_small d Q (xs.drop wh) HPQ.out (fun i => by rw [drop_getD]; exact sa _)
            have hv : Dg.vl 65536 (low d Q (xs.drop wh)) = Dg.vl 65536 xs / 2 ^ n := by
              have := low_vl d Q hP0 (xs.drop wh)
              rw [HPQ.out] at this
              rw [this, drop_vl 65536 (by omega) xs wh (by omega) sa, Nat.div_div_eq_div_mul, HPW.out]
            have hlw : (low d Q (xs.drop wh)).length ≤ 1000000 := by rw [low_length]; simp; omega
            obtain ⟨ls, hls⟩ : ∃ ls, low d Q (xs.drop wh) = ls := ⟨_, rfl⟩
            rw [hls] at own hsm hv hlw
            have HV : Hid (Dg.vl 65536 ls = Dg.vl 65536 xs / 2 ^ n) := hv
            clear hls hv
            obtain ⟨oo, oc, rfl⟩ := own.rd.shape
            have hF := own_far own
            go_wp2_with fail
            refine (reftrim_any _ _ _ _ _ own.rd).mono ?_
            rintro e w' ⟨m, rfl, hm, rfl⟩
            have hml := hm.1
            have HF : Hid (Far w.heap.size (.slice oo m m)) := far_trim hF m m
            clear hF
            have hr2 := rd_trim (cap' := m) 65536 (by omega) own.rd hsm hm (Nat.le_refl _) (by unfold maxLen; omega)
            rw [HV.out] at hr2
            clear hm
            go_wp2
            go_ret
            exact ⟨_, rfl, hr2, HF.out, bel⟩

theorem down_any (va : Value) (xs : List Nat) (n wh pt P Q : Nat) (w : World) (ha : Rd w .i64 va xs) (sa : Dg.Small 65536 xs) (hla : xs.length ≤ 1000000) (hn : n = 16 * wh + pt) (hpt : pt < 16) (hnl : n ≤ 100000000) (hP : P = 2 ^ pt) (hQ : Q = 2 ^ (16 - pt)) :
    Calls Tryz.prog 59 #[va, .int .i64 n] w (RNum w (Dg.vl 65536 xs / 2 ^ n)) :=
  (down_far va xs n wh pt P Q w ha sa hla hn hpt hnl hP hQ).mono fun _ _ ⟨v, h1, h2, _, h3⟩ => ⟨v, h1, h2, h3⟩
end Go.Proofs.YtiiphandhpilgaaGreatDoor

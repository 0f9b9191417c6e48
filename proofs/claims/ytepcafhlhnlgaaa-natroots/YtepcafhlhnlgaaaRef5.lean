/-
  The contract of the reference's Times.
-/
import Derived.Test.YtepcafhlhnlgaaaRef4
namespace Go.Proofs.Ytepcafhlhnlgaaa
open Go.RowKit

def RMulO (xs ys ps : List Nat) (i : Nat) : Prop :=
  ps.length = xs.length + ys.length ∧ Dg.Small 65536 ps ∧ (∀ j, i + ys.length ≤ j → ps.getD j 0 = 0) ∧ Dg.vl 65536 ps = Dg.vl 65536 (xs.take i) * Dg.vl 65536 ys

def RMulI (xs ys ps : List Nat) (i k c : Nat) : Prop :=
  ps.length = xs.length + ys.length ∧ Dg.Small 65536 ps ∧ c < 65536 ∧ (∀ j, i + ys.length + 1 ≤ j → ps.getD j 0 = 0) ∧ (k ≤ ys.length → ps.getD (i + ys.length) 0 = 0) ∧ (ys.length < k → c = 0) ∧ k ≤ ys.length + 1 ∧
    Dg.vl 65536 ps + 65536 ^ (i + k) * c = Dg.vl 65536 (xs.take i) * Dg.vl 65536 ys + 65536 ^ i * (xs.getD i 0 * Dg.vl 65536 (ys.take k))

theorem rmulO_start (xs ys : List Nat) : RMulO xs ys (List.replicate (xs.length + ys.length) 0) 0 := by
  refine ⟨by simp, Dg.small_replicate _ _ (by omega), fun j _ => ?_, ?_⟩
  · by_cases h : j < xs.length + ys.length <;> simp [List.getD_eq_getElem?_getD, h]
  · simp [Dg.vl_replicate_zero, Dg.vl]

theorem rmulI_start {xs ys ps : List Nat} {i : Nat} (h : RMulO xs ys ps i) : RMulI xs ys ps i 0 0 :=
  ⟨h.1, h.2.1, by omega, fun j hj => h.2.2.1 j (by omega), fun _ => h.2.2.1 _ (by omega), fun _ => rfl, by omega, by rw [h.2.2.2]; simp [Dg.vl]⟩

theorem mul_bound16 {x y : Nat} (hx : x < 65536) (hy : y < 65536) : x * y ≤ 4294836225 := by
  have := Nat.mul_le_mul (Nat.le_sub_one_of_lt hx) (Nat.le_sub_one_of_lt hy)
  simpa using this

theorem rmulI_step {xs ys ps : List Nat} {i k c : Nat} (h : RMulI xs ys ps i k c) (sa : Dg.Small 65536 xs) (sb : Dg.Small 65536 ys) (hi : i < xs.length) (hk : k < ys.length ∨ 0 < c) (t : Nat) (ht : t = ps.getD (i + k) 0 + c + xs.getD i 0 * ys.getD k 0) :
    RMulI xs ys (ps.set (i + k) (t % 65536)) i (k + 1) (t / 65536) := by
  obtain ⟨h1, h2, h3, h4, h5, h6, h7, h8⟩ := h
  have hkl : k ≤ ys.length := by
    rcases Nat.lt_or_ge ys.length k with e | e
    · have := h6 e; omega
    · exact e
  have hl : i + k < ps.length := by omega
  have hp := h2 (i + k)
  have hxy := mul_bound16 (sa i) (sb k)
  refine ⟨by simpa using h1, Dg.small_set h2 _ _ (Nat.mod_lt _ (by omega)), by omega, fun j hj => ?_, fun hk2 => ?_, fun hk2 => ?_, by omega, ?_⟩
  · rw [Dg.getD_set _ _ _ _ hl, if_neg (by omega)]; exact h4 j hj
  · rw [Dg.getD_set _ _ _ _ hl, if_neg (by omega)]; exact h5 (by omega)
  · have hke : k = ys.length := by omega
    subst hke
    rw [h5 (Nat.le_refl _), Dg.getD_of_le ys _ (Nat.le_refl _)] at ht
    omega
  · have hs := Dg.vl_set 65536 ps (i + k) (t % 65536) hl
    rw [vl_take_any]
    have hpw : 65536 ^ (i + (k + 1)) * (t / 65536) = 65536 ^ (i + k) * (65536 * (t / 65536)) := by
      rw [show i + (k + 1) = (i + k) + 1 from by omega, Nat.pow_succ, Nat.mul_assoc]
    have hm : 65536 ^ (i + k) * t = 65536 ^ (i + k) * (t % 65536) + 65536 ^ (i + k) * (65536 * (t / 65536)) := by
      rw [← Nat.mul_add, Nat.mod_add_div]
    have he : 65536 ^ (i + k) * t = 65536 ^ (i + k) * ps.getD (i + k) 0 + 65536 ^ (i + k) * c + 65536 ^ (i + k) * (xs.getD i 0 * ys.getD k 0) := by
      rw [ht, Nat.mul_add, Nat.mul_add]
    have hd : 65536 ^ i * (xs.getD i 0 * (Dg.vl 65536 (ys.take k) + 65536 ^ k * ys.getD k 0)) = 65536 ^ i * (xs.getD i 0 * Dg.vl 65536 (ys.take k)) + 65536 ^ (i + k) * (xs.getD i 0 * ys.getD k 0) := by
      rw [Nat.mul_add, Nat.mul_add, Nat.pow_add]
      congr 1
      rw [Nat.mul_assoc, Nat.mul_left_comm (xs.getD i 0)]
    rw [hpw, hd]
    omega

theorem rmulO_step {xs ys ps : List Nat} {i k c : Nat} (h : RMulI xs ys ps i k c) (hi : i < xs.length) (hk : ¬ (k < ys.length ∨ 0 < c)) : RMulO xs ys ps (i + 1) := by
  obtain ⟨h1, h2, h3, h4, h5, h6, h7, h8⟩ := h
  have hc : c = 0 := by omega
  subst hc
  refine ⟨h1, h2, fun j hj => h4 j (by omega), ?_⟩
  rw [Dg.vl_take_succ _ _ _ hi, Nat.add_mul, Nat.mul_assoc]
  have e : ys.take k = ys := List.take_of_length_le (by omega)
  rw [e] at h8
  omega

theorem cast_mod16 (p c x y : Nat) : ((p : Int) + (c : Int) + (x : Int) * (y : Int)) % 65536 = (((p + c + x * y) % 65536 : Nat) : Int) := by
  rw [← Int.natCast_mul]; omega
theorem cast_div16 (p c x y : Nat) : ((p : Int) + (c : Int) + (x : Int) * (y : Int)) / 65536 = (((p + c + x * y) / 65536 : Nat) : Int) := by
  rw [← Int.natCast_mul]; omega

theorem rd_own_trim {w : World} {base e : Nat} {g n cap m : Nat} {zs : List Nat} (h : Own w base e .i64 (.slice (some ⟨g, 0, none⟩) n cap) zs) (hs : Dg.Small 65536 zs) (ht : TrimR zs m) (hl : zs.length ≤ 3000000) : Rd w .i64 (.slice (some ⟨g, 0, none⟩) m m) (Dg.dg 65536 (Dg.vl 65536 zs)) :=
  rd_trim 65536 (by omega) h.rd hs ht (Nat.le_refl _) (by have := ht.1; unfold maxLen; omega)

set_option maxHeartbeats 3200000 in
theorem reftimes_any (va vb : Value) (xs ys : List Nat) (w : World) (ha : Rd w .i64 va xs) (hb : Rd w .i64 vb ys) (sa : Dg.Small 65536 xs) (sb : Dg.Small 65536 ys) (hla : xs.length ≤ 1000000) (hlb : ys.length ≤ 1000000) :
    Calls Try.prog 35 #[va, vb] w (RNum w (Dg.vl 65536 xs * Dg.vl 65536 ys)) := by
  obtain ⟨i0, hi, hz0, hz1, hz2⟩ := info_parts Try.infoI64
  obtain ⟨ao, ca, rfl, -, -, hca⟩ := ha
  obtain ⟨bo, cb, rfl, -, -, hcb⟩ := hb
  go_enter Try.func35, Try.ntmps35
  go_wp2_with (at_make; refine wpList_make_full _ rfl _ _ 32 rfl w.heap.size 3 i0 (.int .i64 0) 1 Try.underlying32 hi hz0 hz1 _ _ _ _ (xs.length + ys.length) rfl rfl (by omega) (by omega) ?b2 ?b3 (Nat.le_refl _) ?_)
  case b2 => rw [hz2]; omega
  case b3 => unfold maxLen; omega
  intro w0 hown0 hgrow0
  have own0 := own_made hown0
  have bel0 : Below w.heap.size w w0 := (Below.refl _ _).grown hgrow0 (Nat.le_refl _) (fun k h => by cases h)
  clear hown0 hgrow0
  go_wp2
  go_loopw [6] (fun iv wr => ∃ (i : Nat) (ps : List Nat), i ≤ xs.length ∧ iv = .int .i64 i ∧ Own wr w.heap.size 3 .i64 (.slice (some ⟨w.heap.size, 0, none⟩) (xs.length + ys.length) (xs.length + ys.length)) ps ∧ RMulO xs ys ps i ∧ Below w.heap.size w wr)
    (fun iv _ => xs.length - (intOf iv).toNat)
  case atStart => exact ⟨0, _, Nat.zero_le _, rfl, own0, rmulO_start xs ys, bel0⟩
  case round =>
    obtain ⟨i, ps, hil, rfl, own, hO, bel⟩ := hrel
    by_cases hlt : i < xs.length
    · obtain ⟨b, off, rfl, hcella⟩ := hca (by omega)
      have hcell := hcella i hlt
      have hxs := sa i
      obtain ⟨x, ex⟩ : ∃ x, xs.getD i 0 = x := ⟨_, rfl⟩
      rw [ex] at hcell hxs
      have Hx : Hid (xs.getD i 0 = x) := ex
      clear ex hcella hca own0 bel0
      go_wp2
      go_loopw [7, 8] (fun cv kv wr => ∃ (k c : Nat) (ps : List Nat), kv = .int .i64 k ∧ cv = .int .i64 c ∧ Own wr w.heap.size 3 .i64 (.slice (some ⟨w.heap.size, 0, none⟩) (xs.length + ys.length) (xs.length + ys.length)) ps ∧ RMulI xs ys ps i k c ∧ Below w.heap.size w wr)
        (fun _ kv _ => ys.length + 2 - (intOf kv).toNat)
      case atStart => exact ⟨0, 0, ps, rfl, rfl, own, rmulI_start hO, bel⟩
      case round =>
        clear own hO bel ps
        obtain ⟨k, c, ps, rfl, rfl, own, hI, bel⟩ := hrel
        have hpl := hI.1
        have hcl := hI.2.2.1
        have hk6 := hI.2.2.2.2.2.1
        have hk7 := hI.2.2.2.2.2.2.1
        by_cases hcond : k < ys.length ∨ 0 < c
        · have hkl : k ≤ ys.length := by
            rcases Nat.lt_or_ge ys.length k with e | e
            · have := hk6 e; omega
            · exact e
          have hp := own.cell (i + k) (by omega)
          have hps := hI.2.1 (i + k)
          have hfr := own.free (i + k)
          have hst := rmulI_step hI sa sb hlt hcond _ rfl
          have hys := sb k
          have hy0 : ¬ k < ys.length → ys.getD k 0 = 0 := fun h => Dg.getD_of_le _ _ (by omega)
          have hxw := cell_later bel hcell
          have hcy : k < ys.length → ∃ b off, bo = some ⟨b, off, none⟩ ∧ wr.cell? ⟨b, off + k, none⟩ = some (.int .i64 ((ys.getD k 0 : Nat) : Int)) := fun h => by
            obtain ⟨b, off, e, hc2⟩ := hcb (by omega)
            exact ⟨b, off, e, cell_later bel (hc2 k h)⟩
          rw [Hx.out] at hst
          obtain ⟨y, ey⟩ : ∃ y, ys.getD k 0 = y := ⟨_, rfl⟩
          obtain ⟨p, ep⟩ : ∃ p, ps.getD (i + k) 0 = p := ⟨_, rfl⟩
          rw [ey] at hys hy0 hcy hst
          rw [ep] at hp hps hst
          clear ey ep hk6 hcb
          by_cases h2 : k < ys.length
          · obtain ⟨b2, off2, rfl, hcell2⟩ := hcy h2
            have hxy := mul_bound16 hxs hys
            have hxyI : (x : Int) * (y : Int) ≤ 4294836225 := by rw [← Int.natCast_mul]; omega
            have hxy0 : 0 ≤ (x : Int) * (y : Int) := by rw [← Int.natCast_mul]; omega
            clear hcy hy0 hcond
            go_wp2
            go_quiet (fail)
            go_wp2
            go_roundw
            case rel =>
              rw [cast_mod16, cast_div16]
              exact ⟨k + 1, _, _, by go_num, rfl, Own.store (Own.later own (below_drewN (Below.refl _ _) _)) (i + k) _, hst, (below_drewN bel _).setCell (by exact Nat.le_refl _) _⟩
            case measure => simp [intOf]; omega
          · have hy := hy0 h2
            subst hy
            have hc0 : 0 < c := by omega
            simp only [Nat.mul_zero, Nat.add_zero] at hst
            clear hcy hy0 hcond
            go_wp2
            go_roundw
            case rel =>
              have e1 : ((p : Int) + (c : Int)) % 65536 = (((p + c) % 65536 : Nat) : Int) := by omega
              have e2 : ((p : Int) + (c : Int)) / 65536 = (((p + c) / 65536 : Nat) : Int) := by omega
              rw [e1, e2]
              exact ⟨k + 1, _, _, by go_num, rfl, own.store (i + k) _, hst, bel.setCell (by exact Nat.le_refl _) _⟩
            case measure => simp [intOf]; omega
        · have h1 : ¬ k < ys.length := by omega
          have h2 : ¬ 0 < c := by omega
          have hst := rmulO_step hI hlt hcond
          clear hcond
          go_wp2
          go_roundw
          case rel => exact ⟨i + 1, ps, by omega, by go_num, own, hst, bel⟩
          case measure => simp [intOf]; omega
    · have hie : i = xs.length := by omega
      subst hie
      have hpl := hO.1
      have hps := hO.2.1
      have hv := hO.2.2.2
      rw [List.take_of_length_le (Nat.le_refl _)] at hv
      have HV : Hid (Dg.vl 65536 ps = Dg.vl 65536 xs * Dg.vl 65536 ys) := hv
      have hl : ps.length ≤ 3000000 := by omega
      clear hpl hv
      go_wp2_with fail
      refine (reftrim_any _ _ _ ps _ own.rd).mono ?_
      rintro e w' ⟨m, rfl, hm, rfl⟩
      have hr := rd_own_trim own hps hm hl
      rw [HV.out] at hr
      clear hm
      go_wp2
      go_ret
      exact ⟨_, rfl, hr, bel⟩
end Go.Proofs.Ytepcafhlhnlgaaa

/-
  The contract of digits.Number.Minus.
-/
import Derived.Test.YtepcafhlhnlgaaaPlus
namespace Go.Proofs.Ytepcafhlhnlgaaa
open Go.RowKit

/-- What the loops of Minus keep. -/
def SubI (xs ys ps : List Nat) (k c : Nat) : Prop :=
  ps.length = xs.length ∧ Dg.Small 4294967296 ps ∧ c ≤ 1 ∧ Dg.vl 4294967296 (xs.take k) + 4294967296 ^ k * c = Dg.vl 4294967296 (ps.take k) + Dg.vl 4294967296 (ys.take k)

theorem brw_le (x y c : Nat) : brw x y c ≤ 1 := by unfold brw; split <;> omega

theorem subI_step {xs ys ps : List Nat} {k c x y : Nat} (h : SubI xs ys ps k c) (hk : k < xs.length) (hx : xs.getD k 0 = x) (hy : ys.getD k 0 = y) (hxl : x < 4294967296) (hyl : y < 4294967296) :
    SubI xs ys (ps.set k ((x + 4294967296 - y - c) % 4294967296)) (k + 1) (brw x y c) := by
  obtain ⟨h1, h2, h3, h4⟩ := h
  refine ⟨by simpa using h1, Dg.small_set h2 _ _ (Nat.mod_lt _ (by omega)), brw_le _ _ _, ?_⟩
  rw [vl_take_set _ _ _ (by omega), vl_take_over xs, vl_take_over ys, hx, hy]
  have e : x + 4294967296 * brw x y c = (x + 4294967296 - y - c) % 4294967296 + y + c := by unfold brw; split <;> omega
  have e2 : 4294967296 ^ k * (x + 4294967296 * brw x y c) = 4294967296 ^ k * ((x + 4294967296 - y - c) % 4294967296 + y + c) := by rw [e]
  have e3 : 4294967296 ^ (k + 1) * brw x y c = 4294967296 ^ k * (4294967296 * brw x y c) := by rw [Nat.pow_succ, Nat.mul_assoc]
  rw [Nat.mul_add, Nat.mul_add, Nat.mul_add] at e2
  rw [e3]
  omega

theorem subI_end {xs ys ps : List Nat} {c : Nat} (h : SubI xs ys ps xs.length c) (hl : ys.length ≤ xs.length) (hv : Dg.vl 4294967296 ys ≤ Dg.vl 4294967296 xs) : Dg.vl 4294967296 ps = Dg.vl 4294967296 xs - Dg.vl 4294967296 ys := by
  obtain ⟨h1, h2, h3, h4⟩ := h
  rw [List.take_of_length_le (Nat.le_refl xs.length), List.take_of_length_le hl, List.take_of_length_le (by omega)] at h4
  have hlt := Dg.vl_lt 4294967296 ps h2
  rw [h1] at hlt
  have hc : c = 0 := by
    rcases Nat.eq_zero_or_pos c with e | e
    · exact e
    · have : c = 1 := by omega
      subst this
      omega
  subst hc
  omega

set_option maxHeartbeats 3200000 in
theorem minus_any (va vb : Value) (xs ys : List Nat) (w : World) (ha : Rd w .u32 va xs) (hb : Rd w .u32 vb ys) (sa : Dg.Small 4294967296 xs) (sb : Dg.Small 4294967296 ys) (hla : xs.length ≤ 1000000) (hlb : ys.length ≤ xs.length) (hv : Dg.vl 4294967296 ys ≤ Dg.vl 4294967296 xs) :
    Calls Try.prog 59 #[va, vb] w (Num w (Dg.vl 4294967296 xs - Dg.vl 4294967296 ys)) := by
  obtain ⟨i0, hi, hz0, hz1, hz2⟩ := info_parts Try.infoU32
  obtain ⟨ao, ca, rfl, -, -, hca⟩ := ha
  obtain ⟨bo, cb, rfl, -, -, hcb⟩ := hb
  have HV : Hid (Dg.vl 4294967296 ys ≤ Dg.vl 4294967296 xs) := hv
  clear hv
  go_enter Try.func59, Try.ntmps59
  go_wp2_with (at_make; refine wpList_make_full _ rfl _ _ 64 rfl w.heap.size 58 i0 (.int .u32 0) 1 Try.underlying64 hi hz0 hz1 _ _ _ _ xs.length rfl rfl (by omega) (by omega) ?b2 ?b3 (Nat.le_refl _) ?_)
  case b2 => rw [hz2]; omega
  case b3 => unfold maxLen; omega
  intro w0 hown0 hgrow0
  have own0 := own_made hown0
  have bel0 : Below w.heap.size w w0 := (Below.refl _ _).grown hgrow0 (Nat.le_refl _) (fun k h => by cases h)
  clear hown0 hgrow0
  go_wp2
  go_loopw [6, 15] (fun cv kv wr => ∃ (k c : Nat) (ps : List Nat), k ≤ ys.length ∧ kv = .int .i64 k ∧ cv = .int .u32 c ∧ Own wr w.heap.size 58 .u32 (.slice (some ⟨w.heap.size, 0, none⟩) xs.length xs.length) ps ∧ SubI xs ys ps k c ∧ Below w.heap.size w wr)
    (fun _ kv _ => ys.length - (intOf kv).toNat)
  case atStart => exact ⟨0, 0, _, Nat.zero_le _, rfl, rfl, own0, ⟨by simp, Dg.small_replicate _ _ (by omega), by omega, by simp [Dg.vl]⟩, bel0⟩
  case round =>
    clear own0 bel0
    obtain ⟨k, c, ps, hkl, rfl, rfl, own, hI, bel⟩ := hrel
    have hpl := hI.1
    have hcl := hI.2.2.1
    by_cases hlt : k < ys.length
    · obtain ⟨b, off, rfl, hcell⟩ := hca (by omega)
      obtain ⟨b2, off2, rfl, hcell2⟩ := hcb (by omega)
      have hx := cell_later bel (hcell k (by omega))
      have hy := cell_later bel (hcell2 k (by omega))
      have hp := own.cell k (by omega)
      have hf := own.free k
      have hxl := sa k
      have hyl := sb k
      obtain ⟨x, ex⟩ : ∃ x, xs.getD k 0 = x := ⟨_, rfl⟩
      obtain ⟨y, ey⟩ : ∃ y, ys.getD k 0 = y := ⟨_, rfl⟩
      have hst := subI_step hI (by omega) ex ey (by omega) (by omega)
      rw [ex] at hx hxl
      rw [ey] at hy hyl
      clear ex ey hcell hcell2 hca hcb
      go_wp2_with fail
      refine (sub32_any x y c _ hxl hyl hcl).mono ?_
      rintro e w' ⟨rfl, rfl⟩
      go_wp2
      go_roundw
      case rel => exact ⟨k + 1, _, _, by omega, by go_num, rfl, own.store k _, hst, bel.setCell (by exact Nat.le_refl _) _⟩
      case measure => simp [intOf]; omega
    · have hk : k = ys.length := by omega
      subst hk
      go_wp2
      go_loopw [6, 9] (fun cv kv wr => ∃ (k c : Nat) (ps : List Nat), ys.length ≤ k ∧ k ≤ xs.length ∧ kv = .int .i64 k ∧ cv = .int .u32 c ∧ Own wr w.heap.size 58 .u32 (.slice (some ⟨w.heap.size, 0, none⟩) xs.length xs.length) ps ∧ SubI xs ys ps k c ∧ Below w.heap.size w wr)
        (fun _ kv _ => xs.length - (intOf kv).toNat)
      case atStart => exact ⟨ys.length, c, ps, Nat.le_refl _, by omega, rfl, rfl, own, hI, bel⟩
      case round =>
        clear own hI bel hpl hcl
        obtain ⟨k, c, ps, hky, hkl, rfl, rfl, own, hI, bel⟩ := hrel
        have hpl := hI.1
        have hcl := hI.2.2.1
        by_cases hlt : k < xs.length
        · obtain ⟨b, off, rfl, hcell⟩ := hca (by omega)
          have hx := cell_later bel (hcell k (by omega))
          have hp := own.cell k (by omega)
          have hf := own.free k
          have hxl := sa k
          obtain ⟨x, ex⟩ : ∃ x, xs.getD k 0 = x := ⟨_, rfl⟩
          have hst := subI_step hI (by omega) ex (Dg.getD_of_le ys k hky) (by omega) (by omega)
          rw [ex] at hx hxl
          clear ex hcell hca hcb
          go_wp2_with fail
          refine (sub32_any x 0 c _ hxl (by omega) hcl).mono ?_
          rintro e w' ⟨rfl, rfl⟩
          go_wp2
          go_roundw
          case rel => exact ⟨k + 1, _, _, by omega, by omega, by go_num, rfl, own.store k _, hst, bel.setCell (by exact Nat.le_refl _) _⟩
          case measure => simp [intOf]; omega
        · have hk : k = xs.length := by omega
          subst hk
          have hen := subI_end hI (by omega) HV.out
          have rd := own.rd
          go_wp2_with fail
          refine (trim_any _ _ _ _ _ rd).mono ?_
          rintro e w' ⟨m, rfl, hm, rfl⟩
          have ht := own_trim 4294967296 (by omega) own hI.2.1 hm
          rw [hen] at ht
          clear rd hen own
          go_wp2
          go_ret
          exact ⟨_, rfl, ht, bel⟩
end Go.Proofs.Ytepcafhlhnlgaaa

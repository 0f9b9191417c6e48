/-
  Contracts of digits.Number.Plus and nat.Add.
-/
import Derived.Test.YtepcafhlhnlgaaaAdd
namespace Go.Proofs.Ytepcafhlhnlgaaa
open Go.RowKit

/-- What the loops of Plus keep: k digits of the sum are there. -/
def AddI (xs ys ps : List Nat) (k c : Nat) : Prop :=
  ps.length = xs.length + 1 ∧ Dg.Small 4294967296 ps ∧ c ≤ 1 ∧ Dg.vl 4294967296 (ps.take k) + 4294967296 ^ k * c = Dg.vl 4294967296 (xs.take k) + Dg.vl 4294967296 (ys.take k)

theorem vl_take_set (l : List Nat) (k x : Nat) (h : k < l.length) : Dg.vl 4294967296 ((l.set k x).take (k + 1)) = Dg.vl 4294967296 (l.take k) + 4294967296 ^ k * x := by
  rw [Dg.vl_take_succ _ _ _ (by simpa using h), Dg.getD_set _ _ _ _ h, if_pos rfl, List.take_set_of_le (Nat.le_refl _)]

theorem vl_take_over (l : List Nat) (k : Nat) : Dg.vl 4294967296 (l.take (k + 1)) = Dg.vl 4294967296 (l.take k) + 4294967296 ^ k * l.getD k 0 := by
  by_cases h : k < l.length
  · exact Dg.vl_take_succ _ _ _ h
  · rw [List.take_of_length_le (by omega), List.take_of_length_le (by omega), Dg.getD_of_le _ _ (by omega)]; omega

theorem addI_step {xs ys ps : List Nat} {k c x y : Nat} (h : AddI xs ys ps k c) (hk : k < xs.length) (hx : xs.getD k 0 = x) (hy : ys.getD k 0 = y) (hxl : x < 4294967296) (hyl : y < 4294967296) :
    AddI xs ys (ps.set k ((x + y + c) % 4294967296)) (k + 1) ((x + y + c) / 4294967296) := by
  obtain ⟨h1, h2, h3, h4⟩ := h
  refine ⟨by simpa using h1, Dg.small_set h2 _ _ (Nat.mod_lt _ (by omega)), by omega, ?_⟩
  rw [vl_take_set _ _ _ (by omega), vl_take_over xs, vl_take_over ys, hx, hy]
  have e : 4294967296 ^ (k + 1) * ((x + y + c) / 4294967296) = 4294967296 ^ k * (4294967296 * ((x + y + c) / 4294967296)) := by rw [Nat.pow_succ, Nat.mul_assoc]
  have e2 : 4294967296 ^ k * (x + y + c) = 4294967296 ^ k * ((x + y + c) % 4294967296) + 4294967296 ^ k * (4294967296 * ((x + y + c) / 4294967296)) := by
    rw [← Nat.mul_add, Nat.mod_add_div]
  have e3 : 4294967296 ^ k * (x + y + c) = 4294967296 ^ k * x + 4294967296 ^ k * y + 4294967296 ^ k * c := by rw [Nat.mul_add, Nat.mul_add]
  rw [e]
  omega

theorem addI_end {xs ys ps : List Nat} {c : Nat} (h : AddI xs ys ps xs.length c) (hl : ys.length ≤ xs.length) : (ps.set xs.length c).length = xs.length + 1 ∧ Dg.Small 4294967296 (ps.set xs.length c) ∧ Dg.vl 4294967296 (ps.set xs.length c) = Dg.vl 4294967296 xs + Dg.vl 4294967296 ys := by
  obtain ⟨h1, h2, h3, h4⟩ := h
  refine ⟨by simpa using h1, Dg.small_set h2 _ _ (by omega), ?_⟩
  have := vl_take_set ps xs.length c (by omega)
  rw [List.take_of_length_le (by simp; omega)] at this
  rw [this]
  rw [List.take_of_length_le (Nat.le_refl xs.length), List.take_of_length_le hl] at h4
  omega

set_option maxRecDepth 100000 in
set_option maxHeartbeats 3200000 in
theorem plus_le (va vb : Value) (xs ys : List Nat) (w : World) (ha : Rd w .u32 va xs) (hb : Rd w .u32 vb ys) (sa : Dg.Small 4294967296 xs) (sb : Dg.Small 4294967296 ys) (hla : xs.length ≤ 1000000) (hlb : ys.length ≤ xs.length) :
    Calls Try.prog 58 #[va, vb] w (Num w (Dg.vl 4294967296 xs + Dg.vl 4294967296 ys)) := by
  obtain ⟨i0, hi, hz0, hz1, hz2⟩ := info_parts Try.infoU32
  obtain ⟨ao, ca, rfl, -, -, hca⟩ := ha
  obtain ⟨bo, cb, rfl, -, -, hcb⟩ := hb
  go_enter Try.func58, Try.ntmps58
  go_wp2_with (at_make; refine wpList_make_full _ rfl _ _ 64 rfl w.heap.size 58 i0 (.int .u32 0) 1 Try.underlying64 hi hz0 hz1 _ _ _ _ (xs.length + 1) rfl rfl (by omega) (by omega) ?b2 ?b3 (Nat.le_refl _) ?_)
  case b2 => rw [hz2]; omega
  case b3 => unfold maxLen; omega
  intro w0 hown0 hgrow0
  have own0 := own_made hown0
  have bel0 : Below w.heap.size w w0 := (Below.refl _ _).grown hgrow0 (Nat.le_refl _) (fun k h => by cases h)
  clear hown0 hgrow0
  go_wp2
  go_loopw [6, 23] (fun cv kv wr => ∃ (k c : Nat) (ps : List Nat), k ≤ ys.length ∧ kv = .int .i64 k ∧ cv = .int .u32 c ∧ Own wr w.heap.size 58 .u32 (.slice (some ⟨w.heap.size, 0, none⟩) (xs.length + 1) (xs.length + 1)) ps ∧ AddI xs ys ps k c ∧ Below w.heap.size w wr)
    (fun _ kv _ => ys.length - (intOf kv).toNat)
  case atStart => exact ⟨0, 0, _, Nat.zero_le _, rfl, rfl, own0, ⟨by simp, Dg.small_replicate _ _ (by omega), by omega, by simp [Dg.vl]⟩, bel0⟩
  case round =>
    clear own0 bel0
    obtain ⟨k, c, ps, hkl, rfl, rfl, own, hI, bel⟩ := hrel
    have hpl := hI.1
    have hcl := hI.2.2.1
    by_cases hlt : k < ys.length
    · obtain ⟨b, off, rfl, hcell⟩ := hca (by omega)
      obtain ⟨b2, off2, rfl, hcell2⟩ := hcb (by omega)
      have hx := cell_later bel (hcell k (by omega))
      have hy := cell_later bel (hcell2 k (by omega))
      have hp := own.cell k (by omega)
      have hf := own.free k
      have hxl := sa k
      have hyl := sb k
      obtain ⟨x, ex⟩ : ∃ x, xs.getD k 0 = x := ⟨_, rfl⟩
      obtain ⟨y, ey⟩ : ∃ y, ys.getD k 0 = y := ⟨_, rfl⟩
      have hst := addI_step hI (by omega) ex ey (by omega) (by omega)
      rw [ex] at hx hxl
      rw [ey] at hy hyl
      clear ex ey hcell hcell2 hca hcb
      go_wp2_with fail
      refine (add32_any x y c _ hxl hyl hcl).mono ?_
      rintro e w' ⟨rfl, rfl⟩
      go_wp2
      go_roundw
      case rel => exact ⟨k + 1, _, _, by omega, by go_num, rfl, own.store k _, hst, bel.setCell (by exact Nat.le_refl _) _⟩
      case measure => simp [intOf]; omega
    · have hk : k = ys.length := by omega
      subst hk
      go_wp2
      go_loopw [6, 9] (fun cv kv wr => ∃ (k c : Nat) (ps : List Nat), ys.length ≤ k ∧ k ≤ xs.length ∧ kv = .int .i64 k ∧ cv = .int .u32 c ∧ Own wr w.heap.size 58 .u32 (.slice (some ⟨w.heap.size, 0, none⟩) (xs.length + 1) (xs.length + 1)) ps ∧ AddI xs ys ps k c ∧ Below w.heap.size w wr)
        (fun _ kv _ => xs.length - (intOf kv).toNat)
      case atStart => exact ⟨ys.length, c, ps, Nat.le_refl _, by omega, rfl, rfl, own, hI, bel⟩
      case round =>
        clear own hI bel hpl hcl
        obtain ⟨k, c, ps, hky, hkl, rfl, rfl, own, hI, bel⟩ := hrel
        have hpl := hI.1
        have hcl := hI.2.2.1
        by_cases hlt : k < xs.length
        · obtain ⟨b, off, rfl, hcell⟩ := hca (by omega)
          have hx := cell_later bel (hcell k (by omega))
          have hp := own.cell k (by omega)
          have hf := own.free k
          have hxl := sa k
          obtain ⟨x, ex⟩ : ∃ x, xs.getD k 0 = x := ⟨_, rfl⟩
          have hst := addI_step hI (by omega) ex (Dg.getD_of_le ys k hky) (by omega) (by omega)
          rw [ex] at hx hxl
          clear ex hcell hca hcb
          go_wp2_with fail
          refine (add32_any x 0 c _ hxl (by omega) hcl).mono ?_
          rintro e w' ⟨rfl, rfl⟩
          go_wp2
          go_roundw
          case rel => exact ⟨k + 1, _, _, by omega, by omega, by go_num, rfl, own.store k _, hst, bel.setCell (by exact Nat.le_refl _) _⟩
          case measure => simp [intOf]; omega
        · have hk : k = xs.length := by omega
          subst hk
          have hp := own.cell xs.length (by omega)
          have hf := own.free xs.length
          have hen := addI_end hI (by omega)
          have own2 := own.store xs.length c
          have bel2 := bel.setCell (p := ⟨w.heap.size, xs.length, none⟩) (by exact Nat.le_refl _) (.int .u32 (c : Int))
          have rd := own2.rd
          go_wp2_with fail
          refine (trim_any _ _ _ _ _ rd).mono ?_
          rintro e w' ⟨m, rfl, hm, rfl⟩
          have ht := own_trim 4294967296 (by omega) own2 hen.2.1 hm
          rw [hen.2.2] at ht
          clear rd own2 hen hp hf own
          go_wp2
          go_ret
          exact ⟨_, rfl, ht, bel2⟩

set_option maxHeartbeats 3200000 in
theorem plus_gt (va vb : Value) (xs ys : List Nat) (w : World) (ha : Rd w .u32 va xs) (hb : Rd w .u32 vb ys) (sa : Dg.Small 4294967296 xs) (sb : Dg.Small 4294967296 ys) (hla : xs.length ≤ 1000000) (hlb : ys.length < xs.length) :
    Calls Try.prog 58 #[vb, va] w (Num w (Dg.vl 4294967296 xs + Dg.vl 4294967296 ys)) := by
  obtain ⟨i0, hi, hz0, hz1, hz2⟩ := info_parts Try.infoU32
  obtain ⟨ao, ca, rfl, -, -, hca⟩ := ha
  obtain ⟨bo, cb, rfl, -, -, hcb⟩ := hb
  go_enter Try.func58, Try.ntmps58
  go_wp2_with (at_make; refine wpList_make_full _ rfl _ _ 64 rfl w.heap.size 58 i0 (.int .u32 0) 1 Try.underlying64 hi hz0 hz1 _ _ _ _ (xs.length + 1) rfl rfl (by omega) (by omega) ?b2 ?b3 (Nat.le_refl _) ?_)
  case b2 => rw [hz2]; omega
  case b3 => unfold maxLen; omega
  intro w0 hown0 hgrow0
  have own0 := own_made hown0
  have bel0 : Below w.heap.size w w0 := (Below.refl _ _).grown hgrow0 (Nat.le_refl _) (fun k h => by cases h)
  clear hown0 hgrow0
  go_wp2
  go_loopw [6, 23] (fun cv kv wr => ∃ (k c : Nat) (ps : List Nat), k ≤ ys.length ∧ kv = .int .i64 k ∧ cv = .int .u32 c ∧ Own wr w.heap.size 58 .u32 (.slice (some ⟨w.heap.size, 0, none⟩) (xs.length + 1) (xs.length + 1)) ps ∧ AddI xs ys ps k c ∧ Below w.heap.size w wr)
    (fun _ kv _ => ys.length - (intOf kv).toNat)
  case atStart => exact ⟨0, 0, _, Nat.zero_le _, rfl, rfl, own0, ⟨by simp, Dg.small_replicate _ _ (by omega), by omega, by simp [Dg.vl]⟩, bel0⟩
  case round =>
    clear own0 bel0
    obtain ⟨k, c, ps, hkl, rfl, rfl, own, hI, bel⟩ := hrel
    have hpl := hI.1
    have hcl := hI.2.2.1
    by_cases hlt : k < ys.length
    · obtain ⟨b, off, rfl, hcell⟩ := hca (by omega)
      obtain ⟨b2, off2, rfl, hcell2⟩ := hcb (by omega)
      have hx := cell_later bel (hcell k (by omega))
      have hy := cell_later bel (hcell2 k (by omega))
      have hp := own.cell k (by omega)
      have hf := own.free k
      have hxl := sa k
      have hyl := sb k
      obtain ⟨x, ex⟩ : ∃ x, xs.getD k 0 = x := ⟨_, rfl⟩
      obtain ⟨y, ey⟩ : ∃ y, ys.getD k 0 = y := ⟨_, rfl⟩
      have hst := addI_step hI (by omega) ex ey (by omega) (by omega)
      rw [ex] at hx hxl
      rw [ey] at hy hyl
      clear ex ey hcell hcell2 hca hcb
      go_wp2_with fail
      refine (add32_any x y c _ hxl hyl hcl).mono ?_
      rintro e w' ⟨rfl, rfl⟩
      go_wp2
      go_roundw
      case rel => exact ⟨k + 1, _, _, by omega, by go_num, rfl, own.store k _, hst, bel.setCell (by exact Nat.le_refl _) _⟩
      case measure => simp [intOf]; omega
    · have hk : k = ys.length := by omega
      subst hk
      go_wp2
      go_loopw [6, 9] (fun cv kv wr => ∃ (k c : Nat) (ps : List Nat), ys.length ≤ k ∧ k ≤ xs.length ∧ kv = .int .i64 k ∧ cv = .int .u32 c ∧ Own wr w.heap.size 58 .u32 (.slice (some ⟨w.heap.size, 0, none⟩) (xs.length + 1) (xs.length + 1)) ps ∧ AddI xs ys ps k c ∧ Below w.heap.size w wr)
        (fun _ kv _ => xs.length - (intOf kv).toNat)
      case atStart => exact ⟨ys.length, c, ps, Nat.le_refl _, by omega, rfl, rfl, own, hI, bel⟩
      case round =>
        clear own hI bel hpl hcl
        obtain ⟨k, c, ps, hky, hkl, rfl, rfl, own, hI, bel⟩ := hrel
        have hpl := hI.1
        have hcl := hI.2.2.1
        by_cases hlt : k < xs.length
        · obtain ⟨b, off, rfl, hcell⟩ := hca (by omega)
          have hx := cell_later bel (hcell k (by omega))
          have hp := own.cell k (by omega)
          have hf := own.free k
          have hxl := sa k
          obtain ⟨x, ex⟩ : ∃ x, xs.getD k 0 = x := ⟨_, rfl⟩
          have hst := addI_step hI (by omega) ex (Dg.getD_of_le ys k hky) (by omega) (by omega)
          rw [ex] at hx hxl
          clear ex hcell hca hcb
          go_wp2_with fail
          refine (add32_any x 0 c _ hxl (by omega) hcl).mono ?_
          rintro e w' ⟨rfl, rfl⟩
          go_wp2
          go_roundw
          case rel => exact ⟨k + 1, _, _, by omega, by omega, by go_num, rfl, own.store k _, hst, bel.setCell (by exact Nat.le_refl _) _⟩
          case measure => simp [intOf]; omega
        · have hk : k = xs.length := by omega
          subst hk
          have hp := own.cell xs.length (by omega)
          have hf := own.free xs.length
          have hen := addI_end hI (by omega)
          have own2 := own.store xs.length c
          have bel2 := bel.setCell (p := ⟨w.heap.size, xs.length, none⟩) (by exact Nat.le_refl _) (.int .u32 (c : Int))
          have rd := own2.rd
          go_wp2_with fail
          refine (trim_any _ _ _ _ _ rd).mono ?_
          rintro e w' ⟨m, rfl, hm, rfl⟩
          have ht := own_trim 4294967296 (by omega) own2 hen.2.1 hm
          rw [hen.2.2] at ht
          clear rd own2 hen hp hf own
          go_wp2
          go_ret
          exact ⟨_, rfl, ht, bel2⟩

theorem plus_any (va vb : Value) (xs ys : List Nat) (w : World) (ha : Rd w .u32 va xs) (hb : Rd w .u32 vb ys) (sa : Dg.Small 4294967296 xs) (sb : Dg.Small 4294967296 ys) (hla : xs.length ≤ 1000000) (hlb : ys.length ≤ 1000000) :
    Calls Try.prog 58 #[va, vb] w (Num w (Dg.vl 4294967296 xs + Dg.vl 4294967296 ys)) := by
  by_cases h : ys.length ≤ xs.length
  · exact plus_le va vb xs ys w ha hb sa sb hla h
  · rw [Nat.add_comm]
    exact plus_gt vb va ys xs w hb ha sb sa hlb (by omega)

theorem add_nat (va vb : Value) (xs ys : List Nat) (w : World) (ha : Rd w .u32 va xs) (hb : Rd w .u32 vb ys) (sa : Dg.Small 4294967296 xs) (sb : Dg.Small 4294967296 ys) :
    Calls Try.prog 28 #[va, vb] w (Ans w (natR (chk2 xs ys) (Dg.vl 4294967296 xs + Dg.vl 4294967296 ys))) := by
  have hbo := both_plus va vb xs ys (Dg.vl 4294967296 xs + Dg.vl 4294967296 ys) w ha hb (fun h w1 b1 => by
    have h2 := chk2_zero h
    have h3 := (chk_zero h2.1).2
    have h4 := (chk_zero h2.2).2
    exact plus_any va vb xs ys w1 (ha.later b1) (hb.later b1) sa sb (by omega) (by omega))
  go_enter Try.func28, Try.ntmps28
  go_wp2_with fail
  refine hbo.mono ?_
  rintro e w' ⟨v, rfl, hown, hbel⟩
  go_wp2
  go_ret2
  exact ⟨_, rfl, hown, hbel⟩
end Go.Proofs.Ytepcafhlhnlgaaa

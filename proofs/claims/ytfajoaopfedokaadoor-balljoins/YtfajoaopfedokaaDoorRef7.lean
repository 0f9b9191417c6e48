/-
  Contract of the reference's Into by one digit.
-/
import Derived.Test.YtfajoaopfedokaaDoorNd
namespace Go.Proofs.YtfajoaopfedokaaDoor
open Go.RowKit

/-- What the division by one digit keeps. -/
def RDivI (xs cur : List Nat) (d k r : Nat) : Prop :=
  cur.length = xs.length ∧ Dg.Small 65536 cur ∧ r < d ∧ Dg.vl 65536 (xs.drop k) = Dg.vl 65536 (cur.drop k) * d + r

theorem rdivI_step {xs cur : List Nat} {d k r t : Nat} (h : RDivI xs cur d (k + 1) r) (hk : k < xs.length) (ht : t = 65536 * r + xs.getD k 0) (hd : 0 < d) (hq : t / d < 65536) :
    RDivI xs (cur.set k (t / d)) d k (t % d) := by
  obtain ⟨h1, h2, h3, h5⟩ := h
  refine ⟨by simpa using h1, Dg.small_set h2 _ _ hq, Nat.mod_lt _ hd, ?_⟩
  rw [drop_eq xs k hk, drop_eq (cur.set k (t / d)) k (by simpa using (by omega : k < cur.length)), Dg.getD_set _ _ _ _ (by omega), if_pos rfl, List.drop_set_of_lt (by omega)]
  simp only [Dg.vl]
  rw [h5]
  have := Nat.div_add_mod t d
  rw [Nat.add_mul, Nat.mul_comm (t / d) d, Nat.mul_assoc, Nat.mul_add]
  omega

theorem div_small16 {t d r x : Nat} (h1 : r < d) (h2 : x < 65536) (ht : t = 65536 * r + x) : t / d < 65536 := by
  rw [Nat.div_lt_iff_lt_mul (by omega)]
  have : (r + 1) * 65536 ≤ d * 65536 := Nat.mul_le_mul_right _ h1
  rw [Nat.mul_comm 65536 d]
  omega

theorem one_digit (d : Nat) (h : d < 65536) : Dg.dg 65536 d = if d = 0 then [] else [d] := by
  by_cases e : d = 0
  · subst e; rfl
  · rw [if_neg e]
    exact (Dg.eq_dg 65536 (by omega) [d] d (Dg.small_cons.2 ⟨h, Dg.small_nil _ (by omega)⟩) (by intro _; simpa using e) (by simp [Dg.vl])).symm

set_option maxRecDepth 100000 in
set_option maxHeartbeats 3200000 in
theorem into1_any (va : Value) (xs : List Nat) (vb : Value) (d : Nat) (w : World) (ha : Rd w .i64 va xs) (hb : Rd w .i64 vb [d]) (sa : Dg.Small 65536 xs) (hla : xs.length ≤ 1000000) (hd0 : 0 < d) (hd : d < 65536) :
    Calls Tryd.prog 92 #[va, vb] w fun e w' => ∃ vq vr, e = .returned (.tuple #[vq, vr]) ∧ Rd w' .i64 vq (Dg.dg 65536 (Dg.vl 65536 xs / d)) ∧ Rd w' .i64 vr (Dg.dg 65536 (Dg.vl 65536 xs % d)) ∧ Below w.heap.size w w' := by
  obtain ⟨i0, hi, hz0, hz1, hz2⟩ := info_parts Tryd.infoI64
  obtain ⟨ao, ca, rfl, -, -, hca⟩ := ha
  obtain ⟨bo, cb, rfl, -, -, hcb⟩ := hb
  obtain ⟨bb, boff, rfl, hcellb⟩ := hcb (by simp)
  have hcb0 := hcellb 0 (by simp)
  simp only [List.getD_cons_zero, Nat.add_zero] at hcb0
  have hlen1 : ([d] : List Nat).length = 1 := rfl
  rw [hlen1]
  clear hcellb hcb hlen1
  go_enter Tryd.func92, Tryd.ntmps92
  go_wp2_with (at_make; refine wpList_make_full _ rfl _ _ 31 rfl w.heap.size 3 i0 (.int .i64 0) 1 Tryd.underlying31 hi hz0 hz1 _ _ _ _ xs.length rfl rfl (by omega) (by omega) ?b2 ?b3 (Nat.le_refl _) ?_)
  case b2 => rw [hz2]; omega
  case b3 => unfold maxLen; omega
  intro w0 hown0 hgrow0
  have own0 := own_made hown0
  have bel0 : Below w.heap.size w w0 := (Below.refl _ _).grown hgrow0 (Nat.le_refl _) (fun k h => by cases h)
  clear hown0 hgrow0
  go_wp2
  go_loopw [7, 8] (fun rv iv wr => ∃ (k r : Nat) (cur : List Nat), k ≤ xs.length ∧ iv = .int .i64 ((k : Int) - 1) ∧ rv = .int .i64 r ∧ Own wr w.heap.size 3 .i64 (.slice (some ⟨w.heap.size, 0, none⟩) xs.length xs.length) cur ∧ RDivI xs cur d k r ∧ Below w.heap.size w wr)
    (fun _ iv _ => (intOf iv + 1).toNat)
  case atStart => exact ⟨xs.length, 0, _, Nat.le_refl _, rfl, rfl, own0, ⟨by simp, Dg.small_replicate _ _ (by omega), hd0, by simp [Dg.vl]⟩, bel0⟩
  case round =>
    clear own0 bel0
    obtain ⟨k, r, cur, hk, rfl, rfl, own, hI, bel⟩ := hrel
    have hlen := hI.1
    have hr := hI.2.2.1
    by_cases hk0 : k = 0
    · subst hk0
      obtain ⟨h1, h2, h3, h5⟩ := hI
      simp only [List.drop_zero] at h5
      have e1 : Dg.vl 65536 xs / d = Dg.vl 65536 cur := by
        rw [h5, Nat.mul_comm, Nat.mul_add_div hd0, Nat.div_eq_of_lt h3]; omega
      have e2 : Dg.vl 65536 xs % d = r := by
        rw [h5, Nat.mul_comm, Nat.mul_add_mod, Nat.mod_eq_of_lt h3]
      have HE1 : Hid (Dg.vl 65536 xs / d = Dg.vl 65536 cur) := e1
      have HE2 : Hid (Dg.vl 65536 xs % d = r) := e2
      have hcl : cur.length ≤ 1000000 := by omega
      clear h5 e1 e2 hlen h1
      go_wp2_with fail
      refine (reftrim_any _ _ _ cur _ own.rd).mono ?_
      rintro e w' ⟨m, rfl, hm, rfl⟩
      have rq := rd_own_trim own h2 hm (by omega)
      have a1 : Below w'.heap.size w' (w'.alloc (.cells #[.int .i64 (r : Int)] 3)) := (Below.refl _ _).alloc (Nat.le_refl _) _
      have r1 := rd_new (w := w') (k := .i64) (e := 3) [r] #[.int .i64 (r : Int)] rfl (by unfold maxLen; simp)
      go_wp2_with fail
      refine (reftrim_any _ _ _ [r] _ r1).mono ?_
      rintro e w2 ⟨m2, rfl, hm2, rfl⟩
      have hml := hm2.1
      simp only [List.length_cons, List.length_nil] at hml
      have rr := rd_trim (cap' := m2) 65536 (by omega) r1 (Dg.small_cons.2 ⟨by omega, Dg.small_nil _ (by omega)⟩) hm2 (Nat.le_refl _) (by unfold maxLen; omega)
      have ev : Dg.vl 65536 [r] = r := by simp [Dg.vl]
      rw [ev] at rr
      have rq2 := rq.later a1
      have bel2 := below_trans bel a1
      clear hm hm2 r1 ev
      go_wp2
      go_ret2
      exact ⟨_, _, rfl, by rw [HE1.out]; exact rq2, by rw [HE2.out]; exact rr, bel2⟩
    · obtain ⟨m, rfl⟩ : ∃ m, k = m + 1 := ⟨k - 1, by omega⟩
      obtain ⟨b, off, rfl, hcell⟩ := hca (by omega)
      have hx := cell_later bel (hcell m (by omega))
      have hbb := cell_later bel hcb0
      have hxl := sa m
      have hq := own.cell m (by omega)
      have hf := own.free m
      obtain ⟨x, ex⟩ : ∃ x, xs.getD m 0 = x := ⟨_, rfl⟩
      rw [ex] at hx hxl
      have hql := div_small16 (t := 65536 * r + x) hr hxl rfl
      have hst := rdivI_step hI (by omega) (by rw [ex]) hd0 hql
      have hrl : (65536 * r + x) % d < d := Nat.mod_lt _ hd0
      obtain ⟨t, ht⟩ : ∃ t, 65536 * r + x = t := ⟨_, rfl⟩
      have htl : t < 4294967296 := by omega
      rw [ht] at hst hql hrl
      have htI : 65536 * (r : Int) + (x : Int) = (t : Int) := by omega
      obtain ⟨q1, hq1⟩ : ∃ q1, t / d = q1 := ⟨_, rfl⟩
      obtain ⟨m1, hm1⟩ : ∃ m1, t % d = m1 := ⟨_, rfl⟩
      have e1 : (t : Int).tdiv (d : Int) = (q1 : Int) := by rw [Int.tdiv_eq_ediv_of_nonneg (by omega), ← hq1]; exact (Int.natCast_ediv t d).symm
      have e2 : (t : Int).tmod (d : Int) = (m1 : Int) := by rw [Int.tmod_eq_emod_of_nonneg (by omega), ← hm1]; exact (Int.natCast_emod t d).symm
      have e3 : (t : Int) / (d : Int) = (q1 : Int) := by rw [← hq1]; exact (Int.natCast_ediv t d).symm
      have e4 : (t : Int) % (d : Int) = (m1 : Int) := by rw [← hm1]; exact (Int.natCast_emod t d).symm
      rw [hq1] at hst hql
      rw [hm1] at hst hrl
      have e5 : IntKind.i64.wrap (q1 : Int) = (q1 : Int) := IntWalk.i64_in _ ⟨by omega, by omega⟩
      have hdne : ((d : Int) == 0) = false := by simp; omega
      clear ex hcell hca hI hq1 hm1 ht hlen
      go_wp2
      go_region
      all_goals go_wp2
      all_goals go_roundw
      case rel => exact ⟨m, _, _, by omega, by go_num, rfl, Own.later (own.store m _) (Below.drew (Below.refl _ _)), hst, (bel.setCell (by exact Nat.le_refl _) _).drew⟩
      case measure => simp [intOf]
end Go.Proofs.YtfajoaopfedokaaDoor

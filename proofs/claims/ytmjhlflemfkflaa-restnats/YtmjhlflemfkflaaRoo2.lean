/-
  Contracts of the program's nearer, Root; of nat.Root.
-/
import Derived.Test.YtmjhlflemfkflaaRoo1
import Derived.Deep.AppendLies
namespace Go.Proofs.Ytmjhlflemfkflaa
open Go.RowKit

theorem lt_pow_of_len {x L : Nat} (h : (Dg.dg 4294967296 x).length ≤ L) : x < 4294967296 ^ L := by
  have h1 := Dg.vl_lt 4294967296 _ (Dg.small_dg 4294967296 x (by omega))
  rw [Dg.vl_dg _ _ (by omega)] at h1
  exact Nat.lt_of_lt_of_le h1 (Nat.pow_le_pow_right (by omega) h)

theorem sum_len (x y L : Nat) (hx : (Dg.dg 4294967296 x).length ≤ L) (hy : (Dg.dg 4294967296 y).length ≤ L) : (Dg.dg 4294967296 (x + y)).length ≤ L + 1 := by
  have h1 := lt_pow_of_len hx
  have h2 := lt_pow_of_len hy
  refine Dg.dg_len_le 4294967296 _ (L + 1) (by omega) ?_
  rw [Nat.pow_succ]
  omega

set_option maxRecDepth 100000 in
set_option maxHeartbeats 1600000 in
theorem nearer_any (va vr : Value) (a x m L : Nat) (w : World) (ha : Rd w .u32 va (Dg.dg 4294967296 a)) (hr : Rd w .u32 vr (Dg.dg 4294967296 x)) (hx : 0 < x) (hm1 : 1 ≤ m) (hm2 : m ≤ 9)
    (hla : (Dg.dg 4294967296 a).length ≤ 5000) (hL : x < 4294967296 ^ L) (hLl : L ≤ 5000) :
    Calls Try.prog 67 #[va, vr, .int .i64 ((m : Int) + 1)] w (Num w (meanN a x m)) := by
  have hxl : (Dg.dg 4294967296 x).length ≤ L := Dg.dg_len_le 4294967296 x L (by omega) hL
  have hxm : 0 < x ^ m := Nat.pow_pos hx
  have HP : Hid (∀ wr, Below w.heap.size w wr → Calls Try.prog 88 #[vr, .int .i64 m] wr (Num wr (x ^ m))) := fun wr b => power_any vr x m L wr (hr.later b) hL (Nat.le_trans (Nat.mul_le_mul hLl hm2) (by omega)) (by omega) (by omega)
  have HO : Hid (∀ v wr, Below w.heap.size w wr → Rd wr .u32 v (Dg.dg 4294967296 (x ^ m)) → Calls Try.prog 38 #[va, v] wr (Two wr (a / x ^ m) (a % x ^ m))) := fun v wr b r => by
    have := over_any va v _ _ wr (ha.later b) r (Dg.small_dg _ _ (by omega)) (Dg.small_dg _ _ (by omega)) (Dg.norm_dg _ _ (by omega)) (Dg.norm_dg _ _ (by omega)) (by rw [Ne, Dg.dg_nil_iff _ _ (by omega)]; omega) (by omega)
    rw [Dg.vl_dg _ _ (by omega), Dg.vl_dg _ _ (by omega)] at this
    exact this
  have HT : Hid (∀ v wr, Below w.heap.size w wr → Rd wr .u32 v [m] → Calls Try.prog 36 #[vr, v] wr (Num wr (x * m))) := fun v wr b r => by
    have := times_any vr v _ _ wr (hr.later b) r (Dg.small_dg _ _ (by omega)) (Dg.small_cons.2 ⟨by omega, Dg.small_nil _ (by omega)⟩) (by omega) (by simp)
    rw [Dg.vl_dg _ _ (by omega), show Dg.vl 4294967296 [m] = m from by simp [Dg.vl]] at this
    exact this
  have l1 : (Dg.dg 4294967296 (x * m)).length ≤ 5001 := by
    refine Nat.le_trans (Dg.dg_len_le 4294967296 _ (L + 1) (by omega) ?_) (by omega)
    rw [Nat.pow_succ]
    exact Nat.mul_lt_mul_of_lt_of_le hL (by omega) (by omega)
  have l2 : (Dg.dg 4294967296 (a / x ^ m)).length ≤ 5000 := by
    refine Nat.le_trans (Dg.dg_len_le 4294967296 _ (Dg.dg 4294967296 a).length (by omega) ?_) hla
    refine Nat.lt_of_le_of_lt (Nat.div_le_self _ _) ?_
    have := Dg.vl_lt 4294967296 _ (Dg.small_dg 4294967296 a (by omega))
    rwa [Dg.vl_dg _ _ (by omega)] at this
  have HS : Hid (∀ v1 v2 wr, Rd wr .u32 v1 (Dg.dg 4294967296 (x * m)) → Rd wr .u32 v2 (Dg.dg 4294967296 (a / x ^ m)) → Calls Try.prog 35 #[v1, v2] wr (Num wr (x * m + a / x ^ m))) := fun v1 v2 wr r1 r2 => by
    have := plus_any v1 v2 _ _ wr r1 r2 (Dg.small_dg _ _ (by omega)) (Dg.small_dg _ _ (by omega)) (by omega) (by omega)
    rw [Dg.vl_dg _ _ (by omega), Dg.vl_dg _ _ (by omega)] at this
    exact this
  have l3 : (Dg.dg 4294967296 (x * m + a / x ^ m)).length ≤ 6000 := by
    exact Nat.le_trans (sum_len _ _ 5001 l1 (by omega)) (by omega)
  have hpos : 0 < x * m + a / x ^ m := Nat.add_pos_left (Nat.mul_pos hx (by omega)) _
  have l4 : 0 < (Dg.dg 4294967296 (x * m + a / x ^ m)).length := List.length_pos_iff.2 (by rw [Ne, Dg.dg_nil_iff _ _ (by omega)]; omega)
  have HE : Hid ((x * m + a / x ^ m) / (m + 1) = meanN a x m) := by unfold meanN; rw [Nat.mul_comm x m]; rfl
  have HV := Dg.vl_dg 4294967296 (x * m + a / x ^ m) (by omega)
  have HSM := Dg.small_dg 4294967296 (x * m + a / x ^ m) (by omega)
  obtain ⟨ao, ca, rfl⟩ := ha.shape
  obtain ⟨ro, cr, rfl⟩ := hr.shape
  obtain ⟨ma, hma⟩ : ∃ m, (Dg.dg 4294967296 a).length = m := ⟨_, rfl⟩
  obtain ⟨mr, hmr⟩ : ∃ m, (Dg.dg 4294967296 x).length = m := ⟨_, rfl⟩
  obtain ⟨S, hS⟩ : ∃ S, x * m + a / x ^ m = S := ⟨_, rfl⟩
  obtain ⟨ds, hds⟩ : ∃ ds, Dg.dg 4294967296 S = ds := ⟨_, rfl⟩
  rw [hS] at HS l3 l4 HE HV HSM
  rw [hds] at l3 l4 HV HSM
  rw [hma] at HO ⊢
  rw [hmr] at HP HT ⊢
  have HDS : Hid (Dg.dg 4294967296 S = ds) := hds
  have HV2 : Hid (Dg.vl 4294967296 ds = S) := HV
  have HSM2 : Hid (Dg.Small 4294967296 ds) := HSM
  clear ha hr hma hmr hla hL hLl hxl hxm l1 l2 hpos hS hds HV HSM
  go_enter Try.func67, Try.ntmps67
  go_wp2_with fail
  refine (HP.out w (Below.refl _ _)).mono ?_
  rintro e w1 ⟨v1, rfl, o1, b1⟩
  go_wp2_with fail
  refine (HO.out v1 w1 b1 o1.rd).mono ?_
  rintro e w2 ⟨v2, v3, rfl, o2, -, b2⟩
  have b02 := below_trans b1 b2
  have b3 : Below w2.heap.size w2 (w2.alloc (.cells #[.int .u32 (m : Int)] 26)) := (Below.refl _ _).alloc (Nat.le_refl _) _
  have b03 := below_trans b02 b3
  have o2r := o2.rd.later b3
  have od := (own_digit w2 w2.heap.size 26 m (Nat.le_refl _)).rd
  clear o1 o2 b1 b2 b3
  go_wp2_with fail
  refine (HT.out _ _ b03 od).mono ?_
  rintro e w4 ⟨v4, rfl, o4, b4⟩
  have b04 := below_trans b03 b4
  have o2r := o2r.later b4
  clear od b4
  go_wp2_with fail
  refine (HS.out _ _ _ o4.rd o2r).mono ?_
  rintro e w5 ⟨v5, rfl, o5, b5⟩
  rw [HDS.out] at o5
  have b05 := below_trans b04 b5
  obtain ⟨g, cap, rfl, hg1, hg2⟩ := World.ownsRow.form o5 l4
  have o5 := o5.lower b04.size
  clear o4 o2r
  go_wp2_with fail
  refine (divideBy_any g ds.length cap w.heap.size ds (m + 1) w5 o5 HSM2.out (by omega) (by omega) (by omega)).mono ?_
  rintro e w6 ⟨qs, rfl, o6, hql, hqs, hqv, gr⟩
  rw [HV2.out, HE.out] at hqv
  have b06 := b05.grown gr b05.size (fun k hk => by cases hk; exact Nat.le_trans b04.size hg1)
  have r6 := o6.rd
  clear o5 gr
  go_wp2_with fail
  refine (trim_any _ _ _ _ _ r6).mono ?_
  rintro e w7 ⟨n7, rfl, hm7, rfl⟩
  have t7 := own_trim 4294967296 (by omega) o6 hqs hm7
  rw [hqv] at t7
  clear r6 o6 hm7 hqs hql
  go_wp2
  go_ret
  exact ⟨_, rfl, t7, b06⟩
end Go.Proofs.Ytmjhlflemfkflaa

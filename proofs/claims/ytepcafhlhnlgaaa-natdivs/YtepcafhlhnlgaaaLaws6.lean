/-
  The walk of the law NatUndoes.
-/
import Derived.Test.YtepcafhlhnlgaaaRead3
import Derived.Test.YtepcafhlhnlgaaaLaws5
namespace Go.Proofs.Ytepcafhlhnlgaaa
open Go.RowKit

theorem byt_strOf (l : List Nat) (i : Nat) (hl : ∀ j, l.getD j 0 < 256) : byt (strOf l) i = l.getD i 0 := by
  by_cases h : i < l.length
  · rw [← byt_get (strOf l) i (by rw [strOf_size]; exact h)]
    exact strOf_get l i _ hl
  · unfold byt
    rw [getElem?_neg _ _ (by rw [strOf_size]; exact h), Dg.getD_of_le _ _ (by omega)]
    rfl

theorem txt_small (ds : List Nat) (h : Dg.Small 10 ds) : ∀ j, (txt ds).getD j 0 < 256 := fun j => by
  by_cases hj : j < ds.length
  · rw [txt_getD ds j hj]; have := h (ds.length - 1 - j); omega
  · rw [Dg.getD_of_le _ _ (by rw [txt_length]; omega)]; omega

theorem byt_txt (ds : List Nat) (h : Dg.Small 10 ds) (i : Nat) (hi : i < ds.length) : byt (strOf (txt ds)) i = 48 + ds.getD (ds.length - 1 - i) 0 := by
  rw [byt_strOf _ _ (txt_small ds h), txt_getD ds i hi]

theorem pv_txt (ds : List Nat) (h : Dg.Small 10 ds) : ∀ k, k ≤ ds.length → pv (strOf (txt ds)) k = Dg.vl 10 (ds.drop (ds.length - k)) := by
  intro k
  induction k with
  | zero => intro _; simp [pv, Dg.vl]
  | succ k ih =>
    intro hk
    simp only [pv]
    rw [ih (by omega), byt_txt ds h k (by omega), drop_eq ds (ds.length - (k + 1)) (by omega), show ds.length - (k + 1) + 1 = ds.length - k from by omega]
    simp only [Dg.vl]
    rw [show ds.length - 1 - k = ds.length - (k + 1) from by omega]
    omega

theorem decS_pos {N : Nat} (h : N ≠ 0) : decS N = strOf (txt (Dg.dg 10 N)) := by unfold decS; rw [if_neg h]; rfl
theorem decS_zero : decS 0 = strOf (txt [0]) := rfl

theorem pow5 (N k : Nat) (h : N < 65536 ^ k) : N < 10 ^ (5 * k) := by
  have : 65536 ^ k ≤ 100000 ^ k := Nat.pow_le_pow_left (by omega) k
  rw [Nat.pow_mul]
  exact Nat.lt_of_lt_of_le h this

theorem decS_read (N k : Nat) (hk : N < 65536 ^ k) (hk2 : k ≤ 2400) : (decS N).size ≤ 12000 ∧ Pr (decS N) ∧ pv (decS N) (decS N).size = N := by
  by_cases h : N = 0
  · subst h
    have hs : Dg.Small 10 [0] := Dg.small_cons.2 ⟨by omega, Dg.small_nil _ (by omega)⟩
    rw [decS_zero]
    have hz : (strOf (txt [0])).size = 1 := by rw [strOf_size]; rfl
    refine ⟨by omega, ⟨by omega, fun _ => hz, fun i hi => ?_⟩, ?_⟩
    · rw [byt_txt [0] hs i (by simpa [hz] using hi)]
      have hi0 : i = 0 := by omega
      subst hi0
      exact ⟨by simp, by simp⟩
    · rw [hz, pv_txt [0] hs 1 (by simp)]
      simp [Dg.vl]
  · rw [decS_pos h]
    have hs := Dg.small_dg 10 N (by omega)
    have hne : Dg.dg 10 N ≠ [] := fun e => h ((Dg.dg_nil_iff 10 N (by omega)).1 e)
    have hlp : 0 < (Dg.dg 10 N).length := List.length_pos_iff.2 hne
    have hlen : (Dg.dg 10 N).length ≤ 5 * k := Dg.dg_len_le 10 N _ (by omega) (pow5 N k hk)
    have hno := Dg.norm_dg 10 N (by omega) hne
    have hz : (strOf (txt (Dg.dg 10 N))).size = (Dg.dg 10 N).length := by rw [strOf_size, txt_length]
    refine ⟨by omega, ⟨by omega, fun h0 => ?_, fun i hi => ?_⟩, ?_⟩
    · rw [byt_txt _ hs 0 hlp] at h0
      exact absurd (by simpa using h0) hno
    · rw [byt_txt _ hs i (by omega)]
      have := hs ((Dg.dg 10 N).length - 1 - i)
      omega
    · rw [hz, pv_txt _ hs _ (Nat.le_refl _)]
      simp [Dg.vl_dg]

theorem read_back (xs : List Nat) (w : World) (sa : Dg.Small 4294967296 xs) (h : chk xs = 0) : Calls Try.prog 45 #[.string (decS (Dg.vl 4294967296 xs))] w (Ans w (xs, 0)) := by
  have hl := (chk_zero h).2
  have hd := decS_read (Dg.vl 4294967296 xs) (2 * xs.length) (vl_lt_16 sa) (by omega)
  obtain ⟨r, hr, hc⟩ := read_nat (decS (Dg.vl 4294967296 xs)) w (by omega)
  have e := hr.2.2 hd.1 hd.2.1
  rw [hd.2.2, capd_yes (len_of_chk sa h), Dg.dg_vl _ (by omega) xs sa (chk_zero h).1] at e
  rwa [e] at hc

theorem undo_sub (xs ys : List Nat) (sa : Dg.Small 4294967296 xs) (hx : chk xs = 0) (hy : chk ys = 0) (hl : (Dg.dg 4294967296 (Dg.vl 4294967296 xs + Dg.vl 4294967296 ys)).length ≤ 1200) :
    subR (Dg.dg 4294967296 (Dg.vl 4294967296 xs + Dg.vl 4294967296 ys)) ys = (xs, 0) := by
  unfold subR
  rw [if_pos (chk2_of (chk_dg hl) hy), Dg.vl_dg _ _ (by omega), if_neg (by omega), Nat.add_sub_cancel, capd_yes (len_of_chk sa hx), Dg.dg_vl _ (by omega) xs sa (chk_zero hx).1]

set_option maxRecDepth 100000 in
theorem undoes_walk (va vb : Value) (xs ys : List Nat) (w : World) (ha : Rd w .u32 va xs) (hb : Rd w .u32 vb ys) (sa : Dg.Small 4294967296 xs) (sb : Dg.Small 4294967296 ys) :
    Calls Try.prog 14 #[va, vb] w fun e w' => e = .returned (.bool true) ∧ Below w.heap.size w w' := by
  -- what is printed is read
  have HPR : Hid (∀ w1, Below w.heap.size w w1 → Calls Try.prog 43 #[va] w1 fun e w' => e = .returned (.tuple #[.string (prS xs), .int .i64 (chk xs)]) ∧ Below w1.heap.size w1 w') := fun w1 b => print_nat va xs w1 (ha.later b) sa
  have HRD : Hid (chk xs = 0 → ∀ w1, Calls Try.prog 45 #[.string (prS xs)] w1 (Ans w1 (xs, 0))) := fun h w1 => by
    have := read_back xs w1 sa h
    unfold prS
    rwa [if_pos h]
  obtain ⟨S, hS⟩ : ∃ S, prS xs = S := ⟨_, rfl⟩
  obtain ⟨cx, hcx⟩ : ∃ c, chk xs = c := ⟨_, rfl⟩
  have HCX : Hid (chk xs = cx) := hcx
  rw [hS, hcx] at HPR
  rw [hS, hcx] at HRD
  obtain ⟨r, hr⟩ : ∃ r, natR (chk2 xs ys) (Dg.vl 4294967296 xs + Dg.vl 4294967296 ys) = r := ⟨_, rfl⟩
  have HA : Hid (∀ w1, Below w.heap.size w w1 → Calls Try.prog 28 #[va, vb] w1 (Ans w1 r)) := fun w1 b => by
    have := add_nat va vb xs ys w1 (ha.later b) (hb.later b) sa sb
    rwa [hr] at this
  by_cases hok : r.2 = 0
  · have q := natR_inv (by rw [hr]; exact hok)
    have c12 := chk2_zero q.1
    have e1 : r.1 = Dg.dg 4294967296 (Dg.vl 4294967296 xs + Dg.vl 4294967296 ys) := by rw [← hr]; exact q.2.2
    have HSB : Hid (∀ v w1, Below w.heap.size w w1 → Rd w1 .u32 v r.1 → Calls Try.prog 32 #[v, vb] w1 (Ans w1 (xs, 0))) := fun v w1 b hv => by
      rw [e1] at hv
      have := sub_nat v vb _ ys w1 hv (hb.later b) (Dg.small_dg _ _ (by omega)) sb
      rwa [undo_sub xs ys sa c12.1 c12.2 q.2.1] at this
    have HA2 : Hid (∀ w1, Below w.heap.size w w1 → Calls Try.prog 28 #[vb, va] w1 (Ans w1 (r.1, 0))) := fun w1 b => by
      have := add_nat vb va ys xs w1 (hb.later b) (ha.later b) sb sa
      rw [natR_yes (chk2_of c12.2 c12.1) (by rw [Nat.add_comm]; exact q.2.1), Nat.add_comm, ← e1] at this
      exact this
    have hcx0 : cx = 0 := hcx.symm.trans c12.1
    subst hcx0
    obtain ⟨l1, i1⟩ := r
    simp only at hok
    subst hok
    clear hr q e1 c12 hS hcx
    go_enter Try.func14, Try.ntmps14
    go_wp2_with fail
    refine (begun_any _).mono ?_
    rintro e w0 ⟨rfl, b0⟩
    go_wp2_with fail
    refine (HA.out w0 b0).mono ?_
    rintro e w1 ⟨v1, rfl, o1, k1⟩
    have b1 := below_trans b0 k1
    go_wp2_with fail
    refine (HSB.out v1 w1 b1 o1.rd).mono ?_
    rintro e w2 ⟨v2, rfl, o2, k2⟩
    have b2 := below_trans b1 k2
    go_wp2_with fail
    refine (HA2.out w2 b2).mono ?_
    rintro e w3 ⟨v3, rfl, o3, k3⟩
    have b3 := below_trans b2 k3
    have c13 := below_trans k2 k3
    have hs1 := same_any v2 va _ _ w3 (o2.later k3).rd (ha.later b3)
    rw [decide_eq_true rfl] at hs1
    go_wp2_with fail
    refine hs1.mono ?_
    rintro e w4 ⟨rfl, k4⟩
    have b4 := below_trans b3 k4
    have c14 := below_trans c13 k4
    have hs2 := same_any v1 v3 _ _ w4 (o1.later c14).rd (o3.later k4).rd
    rw [decide_eq_true rfl] at hs2
    clear hs1
    go_wp2_with fail
    refine hs2.mono ?_
    rintro e w5 ⟨rfl, k5⟩
    have b5 := below_trans b4 k5
    clear hs2
    go_wp2_with fail
    refine (HPR.out w5 b5).mono ?_
    rintro e w6 ⟨rfl, k6⟩
    have b6 := below_trans b5 k6
    go_wp2_with fail
    refine (HRD.out (by trivial) w6).mono ?_
    rintro e w7 ⟨v7, rfl, o7, k7⟩
    have b7 := below_trans b6 k7
    have hs3 := same_any v7 va _ _ w7 o7.rd (ha.later b7)
    rw [decide_eq_true rfl] at hs3
    go_wp2_with fail
    refine hs3.mono ?_
    rintro e w8 ⟨rfl, k8⟩
    have b8 := below_trans b7 k8
    clear hs3
    go_wp2
    go_ret
    exact ⟨rfl, b8⟩
  · obtain ⟨l1, i1⟩ := r
    simp only at hok
    clear hr hS hcx
    by_cases hcx0 : cx = 0
    · subst hcx0
      go_enter Try.func14, Try.ntmps14
      go_wp2_with fail
      refine (begun_any _).mono ?_
      rintro e w0 ⟨rfl, b0⟩
      go_wp2_with fail
      refine (HA.out w0 b0).mono ?_
      rintro e w1 ⟨v1, rfl, o1, k1⟩
      have b1 := below_trans b0 k1
      go_wp2_with fail
      refine (HPR.out w1 b1).mono ?_
      rintro e w6 ⟨rfl, k6⟩
      have b6 := below_trans b1 k6
      go_wp2_with fail
      refine (HRD.out (by trivial) w6).mono ?_
      rintro e w7 ⟨v7, rfl, o7, k7⟩
      have b7 := below_trans b6 k7
      have hs3 := same_any v7 va _ _ w7 o7.rd (ha.later b7)
      rw [decide_eq_true rfl] at hs3
      go_wp2_with fail
      refine hs3.mono ?_
      rintro e w8 ⟨rfl, k8⟩
      have b8 := below_trans b7 k8
      clear hs3
      go_wp2
      go_ret
      exact ⟨rfl, b8⟩
    · go_enter Try.func14, Try.ntmps14
      go_wp2_with fail
      refine (begun_any _).mono ?_
      rintro e w0 ⟨rfl, b0⟩
      go_wp2_with fail
      refine (HA.out w0 b0).mono ?_
      rintro e w1 ⟨v1, rfl, o1, k1⟩
      have b1 := below_trans b0 k1
      go_wp2_with fail
      refine (HPR.out w1 b1).mono ?_
      rintro e w6 ⟨rfl, k6⟩
      have b6 := below_trans b1 k6
      go_wp2
      go_ret
      exact ⟨rfl, b6⟩
end Go.Proofs.Ytepcafhlhnlgaaa

/-
  Texts laid together: Bl21, Bl23.
-/
import Derived.Test.YtmjhlflemfkflaaGreatDoorBf
import Derived.Deep.RegionHeld3
import Derived.Deep.Cut
import Derived.Test.YtmjhlflemfkflaaGreatDoorBg
import Derived.Test.YtmjhlflemfkflaaGreatDoorDk3
/-
  Balls: the law BallAdds.
-/
namespace Go.Proofs.YtmjhlflemfkflaaGreatDoor
open Go.RowKit

theorem Rd.fix3 {w : World} {b : Nat} {v : Value} {zs : List Nat} (hr : Rd w .u32 v zs) (h : ZB w b) (x0 x1 x2 : Value) : Rd (((w.setCell ⟨b, 0, none⟩ x0).setCell ⟨b, 1, none⟩ x1).setCell ⟨b, 2, none⟩ x2) .u32 v zs := by
  obtain ⟨hl, ty, hh⟩ := h
  obtain ⟨ao, cap, rfl, h1, h2, h3⟩ := hr
  refine ⟨ao, cap, rfl, h1, h2, fun hp => ?_⟩
  obtain ⟨c, off, rfl, hc⟩ := h3 hp
  refine ⟨c, off, rfl, fun i hi => ?_⟩
  have hne : c ≠ b := by
    intro e
    subst e
    have k1 := hc (zs.length - 1) (by omega)
    unfold World.cell? at k1
    simp only [hh] at k1
    obtain ⟨o, ho⟩ : ∃ o, off + (zs.length - 1) = o := ⟨_, rfl⟩
    rw [ho] at k1
    match o, k1 with
    | 0, k1 => simp at k1
    | 1, k1 => simp at k1
    | 2, k1 => simp at k1
    | o + 3, k1 => simp at k1
  rw [World.cell?_setCell_other (h := by simp), World.cell?_setCell_other (h := by simp), World.cell?_setCell_other (h := by simp)]
  exact hc i hi

end Go.Proofs.YtmjhlflemfkflaaGreatDoor
/-
  Balls: the law BallAdds, of whatever it is handed.
-/
namespace Go.Proofs.YtmjhlflemfkflaaGreatDoor
open Go.RowKit

theorem least_toT {x : Nat → Trip} {n : Int} {L H : Trip} (h1 : bare (loT x 3) = L) (h2 : bare (hiT x 3) = H) (hn : 1 ≤ n) : leastR x 4 n = ballR (toT (dcutT L n false)) (toT (dcutT H n true)) := by
  unfold leastR
  show ballR (shortT (cutT (loT x 3) n false)) (shortT (cutT (hiT x 3) n true)) = _
  rw [← toT_bare, ← toT_bare, cut_bare _ _ _ hn, cut_bare _ _ _ hn, h1, h2]

theorem ballR_err {r q : Trip × Int} {a b : Trip} {c : Int} (h : ballR r q = (a, b, c)) (hc : c ≠ 0) : a = ⟨false, 0, 0⟩ ∧ b = ⟨false, 0, 0⟩ := by
  unfold ballR at h
  by_cases h1 : r.2 = 0
  · rw [if_pos h1] at h
    by_cases h2 : q.2 = 0
    · rw [if_pos h2] at h
      simp only [Prod.mk.injEq] at h
      exact absurd h.2.2.symm hc
    · rw [if_neg h2] at h
      simp only [Prod.mk.injEq] at h
      exact ⟨h.1.symm, h.2.1.symm⟩
  · rw [if_neg h1] at h
    simp only [Prod.mk.injEq] at h
    exact ⟨h.1.symm, h.2.1.symm⟩

theorem V_of_cmp {K : Nat} {a b : Trip} (ha : -(K : Int) ≤ a.e) (hb : -(K : Int) ≤ b.e) (h : cmpT a b ≤ 0) : V K a ≤ V K b := by
  by_cases hx : V K b < V K a
  · have := (cmpT_gt ha hb).2 hx; omega
  · omega

theorem bareB_plus (a b : Trip) : bare (dplusT (bare a) (bare b)) = bare (plusT a b) := by
  have k0 : -((a.e.natAbs + b.e.natAbs : Nat) : Int) ≤ a.e := by omega
  have k1 : -((a.e.natAbs + b.e.natAbs : Nat) : Int) ≤ b.e := by omega
  refine bare_of_V (dplus_e (bare_e k0) (bare_e k1)) (plus_e k0 k1) ?_
  rw [V_dplus (bare_e k0) (bare_e k1), V_plus k0 k1, V_bare k0, V_bare k1]

theorem bareB_minus (a b : Trip) : bare (dplusT (bare a) (minusT (bare b))) = bare (plusT a (negT b)) := by
  have k0 : -((a.e.natAbs + b.e.natAbs : Nat) : Int) ≤ a.e := by omega
  have k1 : -((a.e.natAbs + b.e.natAbs : Nat) : Int) ≤ b.e := by omega
  have k2 : -((a.e.natAbs + b.e.natAbs : Nat) : Int) ≤ (minusT (bare b)).e := bare_e k1
  have k3 : -((a.e.natAbs + b.e.natAbs : Nat) : Int) ≤ (negT b).e := k1
  refine bare_of_V (dplus_e (bare_e k0) k2) (plus_e k0 k3) ?_
  rw [V_dplus (bare_e k0) k2, V_plus k0 k3, V_bare k0, V_minusT, V_bare k1, V_neg]

theorem adds_ends (A0 A1 B0 B1 : Trip) (hA : cmpT A0 A1 ≤ 0) (hB : cmpT B0 B1 ≤ 0) : bare (loT (four plusT A0 A1 B0 B1) 3) = bare (plusT A0 B0) ∧ bare (hiT (four plusT A0 A1 B0 B1) 3) = bare (plusT A1 B1) := by
  obtain ⟨K, hK⟩ : ∃ K, A0.e.natAbs + A1.e.natAbs + B0.e.natAbs + B1.e.natAbs = K := ⟨_, rfl⟩
  have a0 : -(K : Int) ≤ A0.e := by omega
  have a1 : -(K : Int) ≤ A1.e := by omega
  have b0 : -(K : Int) ≤ B0.e := by omega
  have b1 : -(K : Int) ≤ B1.e := by omega
  have vA := V_of_cmp a0 a1 hA
  have vB := V_of_cmp b0 b1 hB
  have he := four_all plusT A0 A1 B0 B1 (fun T => -(K : Int) ≤ T.e) (plus_e a0 b0) (plus_e a0 b1) (plus_e a1 b0) (plus_e a1 b1)
  have hlo := four_all plusT A0 A1 B0 B1 (fun T => V K (plusT A0 B0) ≤ V K T) (Int.le_refl _) (by rw [V_plus a0 b0, V_plus a0 b1]; omega) (by rw [V_plus a0 b0, V_plus a1 b0]; omega) (by rw [V_plus a0 b0, V_plus a1 b1]; omega)
  have hhi := four_all plusT A0 A1 B0 B1 (fun T => V K T ≤ V K (plusT A1 B1)) (by rw [V_plus a0 b0, V_plus a1 b1]; omega) (by rw [V_plus a0 b1, V_plus a1 b1]; omega) (by rw [V_plus a1 b0, V_plus a1 b1]; omega) (Int.le_refl _)
  exact ⟨loT_bare _ 3 _ (fun j _ => he j) (plus_e a0 b0) (fun j _ => hlo j) ⟨0, by omega, rfl⟩, hiT_bare _ 3 _ (fun j _ => he j) (plus_e a1 b1) (fun j _ => hhi j) ⟨3, by omega, rfl⟩⟩

theorem subs_ends (A0 A1 B0 B1 : Trip) (hA : cmpT A0 A1 ≤ 0) (hB : cmpT B0 B1 ≤ 0) : bare (loT (four (fun a b => plusT a (negT b)) A0 A1 B0 B1) 3) = bare (plusT A0 (negT B1)) ∧ bare (hiT (four (fun a b => plusT a (negT b)) A0 A1 B0 B1) 3) = bare (plusT A1 (negT B0)) := by
  obtain ⟨K, hK⟩ : ∃ K, A0.e.natAbs + A1.e.natAbs + B0.e.natAbs + B1.e.natAbs = K := ⟨_, rfl⟩
  have a0 : -(K : Int) ≤ A0.e := by omega
  have a1 : -(K : Int) ≤ A1.e := by omega
  have b0' : -(K : Int) ≤ B0.e := by omega
  have b1' : -(K : Int) ≤ B1.e := by omega
  have b0 : -(K : Int) ≤ (negT B0).e := b0'
  have b1 : -(K : Int) ≤ (negT B1).e := b1'
  have vA := V_of_cmp a0 a1 hA
  have vB := V_of_cmp b0' b1' hB
  have n0 := V_neg K B0
  have n1 := V_neg K B1
  have he := four_all (fun a b => plusT a (negT b)) A0 A1 B0 B1 (fun T => -(K : Int) ≤ T.e) (plus_e a0 b0) (plus_e a0 b1) (plus_e a1 b0) (plus_e a1 b1)
  have hlo := four_all (fun a b => plusT a (negT b)) A0 A1 B0 B1 (fun T => V K (plusT A0 (negT B1)) ≤ V K T) (by rw [V_plus a0 b1, V_plus a0 b0]; omega) (Int.le_refl _) (by rw [V_plus a0 b1, V_plus a1 b0]; omega) (by rw [V_plus a0 b1, V_plus a1 b1]; omega)
  have hhi := four_all (fun a b => plusT a (negT b)) A0 A1 B0 B1 (fun T => V K T ≤ V K (plusT A1 (negT B0))) (by rw [V_plus a0 b0, V_plus a1 b0]; omega) (by rw [V_plus a0 b1, V_plus a1 b0]; omega) (Int.le_refl _) (by rw [V_plus a1 b1, V_plus a1 b0]; omega)
  exact ⟨loT_bare _ 3 _ (fun j _ => he j) (plus_e a0 b1) (fun j _ => hlo j) ⟨1, by omega, rfl⟩, hiT_bare _ 3 _ (fun j _ => he j) (plus_e a1 b0) (fun j _ => hhi j) ⟨2, by omega, rfl⟩⟩

theorem len16_of {x L : Nat} (h : (Dg.dg 4294967296 x).length ≤ L) : (Dg.dg 65536 x).length ≤ 2 * L := by
  have h1 := len16 (Dg.small_dg 4294967296 x (by omega))
  rw [Dg.vl_dg _ _ (by omega)] at h1
  omega

theorem plus_fits2 {a b : Trip} (ha : bitLen a.n ≤ 38400) (hb : bitLen b.n ≤ 38400) (a1 : -20000 ≤ a.e) (a2 : a.e ≤ 20000) (b1 : -20000 ≤ b.e) (b2 : b.e ≤ 20000) :
    (Dg.dg 4294967296 (plusT a b).n).length ≤ 2451 ∧ -20000 ≤ (plusT a b).e ∧ (plusT a b).e ≤ 20000 := by
  have hm : (a.e - min a.e b.e).toNat ≤ 40000 ∧ (b.e - min a.e b.e).toNat ≤ 40000 := ⟨by omega, by omega⟩
  obtain ⟨h1, h2⟩ := hm
  obtain ⟨M, hM⟩ : ∃ M, M = 78400 := ⟨_, rfl⟩
  have hs : a.n * 2 ^ (a.e - min a.e b.e).toNat + b.n * 2 ^ (b.e - min a.e b.e).toNat < 2 ^ (M + 1) := sum_bits (bitLen_spec a.n).1 (bitLen_spec b.n).1 (by omega) (by omega)
  have he : (plusT a b).e = min a.e b.e := by
    unfold plusT
    simp only
    split
    · rfl
    · split <;> rfl
  have hn : (plusT a b).n ≤ a.n * 2 ^ (a.e - min a.e b.e).toNat + b.n * 2 ^ (b.e - min a.e b.e).toNat := by
    unfold plusT
    simp only
    split
    · exact Nat.le_refl _
    · split
      · exact Nat.le_trans (Nat.sub_le _ _) (Nat.le_add_left _ _)
      · exact Nat.le_trans (Nat.sub_le _ _) (Nat.le_add_right _ _)
  exact ⟨pow_len32 (Nat.lt_of_le_of_lt hn hs) (by omega), by rw [he]; omega, by rw [he]; omega⟩

/-- What a sum's bare form needs. -/
theorem sum_fits {a b : Trip} (ha : bitLen a.n ≤ 38400) (hb : bitLen b.n ≤ 38400) (a1 : -20000 ≤ a.e) (a2 : a.e ≤ 20000) (b1 : -20000 ≤ b.e) (b2 : b.e ≤ 20000) :
    (Dg.dg 65536 (bare (plusT a b)).n).length ≤ 30000 ∧ -200000 ≤ (bare (plusT a b)).e ∧ (bare (plusT a b)).e ≤ 200000 ∧ ∀ n up, 1 ≤ n → (Dg.dg 65536 (dcutT (bare (plusT a b)) n up).n).length ≤ 100000 := by
  obtain ⟨f1, _, _⟩ := plus_fits ha hb a1 a2 b1 b2
  obtain ⟨f4, f5, f6⟩ := plus_fits2 ha hb a1 a2 b1 b2
  have g1 := len16_of f1
  have ht := tz_fits _ 2451 f4
  refine ⟨Nat.le_trans (dg_len_mono 65536 _ _ (by omega) (bare_n_le3 _)) (by omega), ?_, ?_, fun n up hn => ?_⟩
  · unfold bare
    split
    · show -200000 ≤ (0 : Int); omega
    · show -200000 ≤ (plusT a b).e + (tz (plusT a b).n : Int); omega
  · unfold bare
    split
    · show (0 : Int) ≤ 200000; omega
    · show (plusT a b).e + (tz (plusT a b).n : Int) ≤ 200000; omega
  · rw [← cut_bare _ _ _ hn]
    have h1 := cutT_len (b := n) (up := up) f1 (by omega)
    have h2 := len16_of h1
    exact Nat.le_trans (dg_len_mono 65536 _ _ (by omega) (bare_n_le3 _)) (by omega)

end Go.Proofs.YtmjhlflemfkflaaGreatDoor

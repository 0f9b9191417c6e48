/-
  Patterns: the law of CodecNexts, paid.
-/
import Derived.Test.YtiiphandhpilgaaGreatDoorNb45
import Derived.Test.YtiiphandhpilgaaGreatDoorNx3
import Derived.Test.YtiiphandhpilgaaGreatDoorNx4
namespace Go.Proofs.YtiiphandhpilgaaGreatDoor
open Go.RowKit
def nxB (k : Nat) (s : ByteArray) (up : Bool) : Trip × Bool := soR (rdN k : Int) (dgN k : Int) (lsI k) (gsI k) (decide (k ≤ 3)) (soA up (nxT k s))
theorem soA_is (up : Bool) (t : Trip) : soA up t = ⟨(soA up t).s, t.n, t.e⟩ := by
 unfold soA minusT
 cases up <;> rfl
theorem nx_want {k : Nat} (hk : 1 ≤ k ∧ k ≤ 8) (s : ByteArray) (up : Bool) (hc : clsN k (fldN k s) (fldE k s) (fldF k s) = 1 ∨ clsN k (fldN k s) (fldE k s) (fldF k s) = 2) (hh : heldB (rdN k : Int) (dgN k : Int) (lsI k) (gsI k) (decide (k ≤ 3)) (nxT k s).n (nxT k s).e = true) :
  ((nxB k s up).2 = true → nxR k s up = (soA up (nxB k s up).1, 0)) ∧ ((nxB k s up).2 = false → nxR k s up = (⟨false, 0, 0⟩, 5)) := by
 obtain ⟨h1, h2⟩ := nx_num hk s hc
 have hgr := (fmt_fit hk).2.2.2.2.2.2.2.2.2.2.2
 have key : wantR (if (nxB k s up).2 = true then 0 else 5) (soA up (nxB k s up).1) = nxR k s up := by
  unfold nxB nxR
  by_cases hl : (Dg.dg 4294967296 (nxT k s).n).length = 0
  ·have := steps_zero (gr := decide (k ≤ 3)) (s := (nxT k s).s) (up := up) h1 hgr hl
   rw [Dg.vl_dg _ _ (by omega), h2] at this
   rw [if_pos this.2]
   exact this.1
  ·have := steps_some (s := (nxT k s).s) (up := up) (Dg.small_dg 4294967296 _ (by omega)) h1 hgr hl (by rw [Dg.vl_dg _ _ (by omega)]; exact hh)
   rw [Dg.vl_dg _ _ (by omega), h2] at this
   exact this
 refine ⟨fun ho => ?_, fun ho => ?_⟩
 ·rw [if_pos ho] at key
  change toT _ = _ at key
  have hstep := step_spot (s := (nxT k s).s) (up := up) hgr h1 hh
  rw [show stepR (rdN k : Int) (dgN k : Int) (lsI k) (gsI k) (decide (k ≤ 3)) (nxT k s).s up (Dg.dg 4294967296 (nxT k s).n) (nxT k s).e = nxR k s up from rfl, ← key] at hstep
  rw [← key]
  unfold toT at hstep ⊢
  by_cases c1 : 1200 < (Dg.dg 4294967296 (soA up (nxB k s up).1).n).length
  ·rw [if_pos c1] at hstep
   rcases hstep with h | ⟨s', d, p, h, -⟩
   ·simp at h
   ·simp at h
  ·rw [if_neg c1] at hstep ⊢
   by_cases c2 : (soA up (nxB k s up).1).e < -20000 ∨ 20000 < (soA up (nxB k s up).1).e
   ·rw [if_pos c2] at hstep
    rcases hstep with h | ⟨s', d, p, h, -⟩
    ·simp at h
    ·simp at h
   ·rw [if_neg c2]
 ·rw [if_neg (by rw [ho]; decide)] at key
  exact key.symm
theorem spc_zero {k : Nat} (hk : 1 ≤ k ∧ k ≤ 8) : spcOk k 1 = true ∧ (spcG k 1 || false) = false ∧ spcE k 1 = 0 ∧ spcF k 1 = 0 := by
 rcases eight hk with rfl | rfl | rfl | rfl | rfl | rfl | rfl | rfl <;> decide
set_option maxHeartbeats 1600000 in
theorem codecNexts_walk (n : Int) (s : ByteArray) (up : Bool) (w : World) (hT : Tab w) :
  Calls Tryz.prog 4 #[.int .i64 n, .string s, .bool up] w fun z w' => z = .returned (.bool true) ∧ Below w.heap.size w w' := by
 have HN := fun w1 (b : Below w.heap.size w w1) => next_any n s up w1 (hT.later b)
 have HO := fun w1 => open_any n s w1
 by_cases hf : famC n = 0
 ·have hp : patC n s = 6 := by
   unfold patC
   rw [if_pos hf]
  have hE : nextE n s up = 6 := by
   unfold nextE
   rw [hp, if_neg (by omega)]
  have hS : nextS n s up = ⟨#[]⟩ := by
   unfold nextS
   rw [hE, if_neg (by omega)]
  rw [hE, hS] at HN
  rw [hp] at HO
  refine nexts_W n s up ⟨#[]⟩ 6 6 0 0 0 0 0 0 0 0 0 false false false false false false false 0 0 false false 0 0 false w (fun _ => ⟨rfl, rfl⟩) HN HO (fun w1 => format_none n w1 hf) codecBegun_any ?_ ?_ ?_ ?_ ?_ ?_ ?_ (fun _ => ⟨rfl, rfl⟩) ?_ ?_ ?_ ?_
  ·intro h
   exact absurd h (by omega)
  ·intro h
   exact absurd h (by omega)
  ·intro _ ro rc w1 r
   exact refminus_same _ ⟨false, 0, 0⟩ w1 r
  ·intro h
   exact absurd h (by omega)
  ·intro _ so sc w1 r
   exact refminus_same _ ⟨false, 0, 0⟩ w1 r
  all_goals (intro h; exact absurd h (by omega))
 ·obtain ⟨k1, k2, k3⟩ := famC_in hf
  obtain ⟨k, rfl⟩ : ∃ k : Nat, n = (k : Int) := ⟨n.toNat, k3.symm⟩
  rw [Int.toNat_natCast] at k1 k2
  have hk : 1 ≤ k ∧ k ≤ 8 := ⟨k1, k2⟩
  have hgr := (fmt_fit hk).2.2.2.2.2.2.2.2.2.2.2
  have lg := (fmt_fit hk).2.2.2.2.2.2.1
  have hdc : patC (k : Int) s = 0 → decC (k : Int) s = clsN k (fldN k s) (fldE k s) (fldF k s) := fun h => by
   unfold decC
   rw [if_pos h, Int.toNat_natCast]
  have hcl : patC (k : Int) s = 0 → ((decC (k : Int) s : Nat) : Int) ≤ 2 → clsN k (fldN k s) (fldE k s) (fldF k s) = 1 ∨ clsN k (fldN k s) (fldE k s) (fldF k s) = 2 := fun h h2 => by
   rw [hdc h] at h2
   rcases clsN_in k (fldN k s) (fldE k s) (fldF k s) with c | c | c | c | c <;> omega
  have hbare : patC (k : Int) s = 0 → ((decC (k : Int) s : Nat) : Int) ≤ 2 → inR (rdN k : Int) (dgN k : Int) (lsI k) (gsI k) (decide (k ≤ 3)) (nxT k s).n (nxT k s).e = heldB (rdN k : Int) (dgN k : Int) (lsI k) (gsI k) (decide (k ≤ 3)) (nxT k s).n (nxT k s).e := fun h h2 => by
   have hi := held_in (R := (rdN k : Int)) (D := (dgN k : Int)) (G := gsI k) (decide (k ≤ 3)) ⟨(nxT k s).s, (nxT k s).n, (nxT k s).e⟩ lg
   rw [(nx_num hk s (hcl h h2)).2] at hi
   exact hi
  have hlen : patC (k : Int) s = 0 → ((decC (k : Int) s : Nat) : Int) ≤ 2 → (Dg.dg 65536 (nxT k s).n).length ≤ 2400 ∧ -20000 ≤ (nxT k s).e ∧ (nxT k s).e ≤ 20000 := fun h h2 => by
   obtain ⟨c1, e1, e2⟩ := dchk_zero (nx_num hk s (hcl h h2)).1
   have := dg16_len _ _ (chk_zero c1).2
   exact ⟨by omega, e1, e2⟩
  have hE : patC (k : Int) s = 0 → ((decC (k : Int) s : Nat) : Int) ≤ 2 → nextE (k : Int) s up = (nxR k s up).2 := fun h h2 => by
   unfold nextE
   rw [if_pos h, hdc h, if_pos (hcl h h2), Int.toNat_natCast]
  have hS : nextS (k : Int) s up = if nextE (k : Int) s up = 0 then nxS k (nxR k s up).1 else ⟨#[]⟩ := by
   unfold nextS
   rw [Int.toNat_natCast]
  have hw : patC (k : Int) s = 0 → ((decC (k : Int) s : Nat) : Int) ≤ 2 → inR (rdN k : Int) (dgN k : Int) (lsI k) (gsI k) (decide (k ≤ 3)) (nxT k s).n (nxT k s).e = true → _ := fun h h2 h3 => nx_want hk s up (hcl h h2) (by rw [← hbare h h2]; exact h3)
  refine nexts_W (k : Int) s up (nextS (k : Int) s up) (nextE (k : Int) s up) (patC (k : Int) s) _ _ _ _ _ _ _ _ ((decC (k : Int) s : Nat) : Int) _ true (refG k (fldN k s) (fldE k s) (fldF k s)) (clsG (k : Int) s) (inR (rdN k : Int) (dgN k : Int) (lsI k) (gsI k) (decide (k ≤ 3)) (nxT k s).n (nxT k s).e) (nxT k s).s (soA up (nxT k s)).s (nxT k s).n (nxT k s).e (nxB k s up).1.s (soA up (nxB k s up).1).s (nxB k s up).1.n (nxB k s up).1.e (nxB k s up).2 w ?_ HN HO (fun w1 => format_flat k hk w1) codecBegun_any ?_ ?_ ?_ ?_ ?_ ?_ ?_ ?_ ?_ ?_ ?_ ?_
  ·intro h
   subst h
   exact ⟨rfl, rfl⟩
  ·intro h w1
   have := decodeOf_pat (k : Int) s w1 h
   rw [Int.toNat_natCast] at this
   exact this
  ·intro h h2 ro rc w1 r
   obtain ⟨l1, e1, e2⟩ := hlen h h2
   exact inGrid_any _ _ _ _ _ _ (nxT k s) w1 hgr ⟨_, rfl, r⟩ (by omega) (by omega) (by omega)
  ·intro h ro rc w1 r
   have := refminus_same _ (nxT k s) w1 r
   rw [h]
   exact this
  ·intro h h2 h3 ro rc w1 r
   obtain ⟨n1, n2⟩ := nx_num hk s (hcl h h2)
   rw [hbare h h2] at h3
   obtain ⟨s', d, p, h4, h5⟩ := steps_spot (nxT k s).s up hgr h3
   rw [n2] at h4
   have hA := soA_is up (nxT k s)
   have h6 : bare ⟨s', d, (widthN (rdN k : Int) : Int) * p⟩ = ⟨(soA up (nxT k s)).s, (nxT k s).n, (nxT k s).e⟩ := by rw [← h4]; exact hA
   have := stepOf_any (rdN k : Int) (dgN k : Int) (lsI k) (gsI k) (decide (k ≤ 3)) s' d p ro rc w1 hgr h5 (by rw [h6]; exact r)
   rw [← h4] at this
   have hAn := congrArg Trip.n hA
   have hAe := congrArg Trip.e hA
   simp only at hAn hAe
   rw [hAn, hAe] at this
   exact this
  ·intro h so sc w1 r
   subst h
   exact refminus_same _ (nxB k s false).1 w1 r
  ·intro h h2 h3 ho hz w1
   have hr := (hw h h2 h3).1 ho
   have hn0 : (nxR k s up).1.n = 0 := by
    rw [hr]
    show (soA up (nxB k s up).1).n = 0
    rw [soA_is]
    exact (Dg.dg_nil_iff 65536 _ (by omega)).1 (List.length_eq_zero_iff.1 hz)
   obtain ⟨z1, z2, z3, z4⟩ := spc_zero hk
   have := encodeOf_oth k 1 hk (.inl rfl) z1 false false none 0 0 0 w1
   rw [z2, z3, z4, show (Dg.dg 65536 0).length = 0 from by rw [(Dg.dg_nil_iff 65536 0 (by omega)).2 rfl]; rfl] at this
   rw [hS, hE h h2, hr, if_pos rfl]
   unfold nxS
   rw [hr] at hn0
   rw [if_pos hn0]
   exact this
  ·intro h h2 h3 ho hz so sc w1 r
   have hr := (hw h h2 h3).1 ho
   obtain ⟨-, s', d, p, h4, h5⟩ := nx_step hk s up (hcl h h2) (by rw [hr])
   have hck := spot_dchk (s := s') hgr h5
   have hhd := spot_held (s := s') hgr h5
   rw [← h4, hr] at hck hhd
   have hB := soA_is up (nxB k s up).1
   obtain ⟨c1, e1, e2⟩ := dchk_zero hck
   have l1 := dg16_len _ _ (chk_zero c1).2
   rw [hB] at hhd l1 e1 e2
   simp only at hhd l1 e1 e2
   have hn0 : (nxB k s up).1.n ≠ 0 := fun c => hz (by rw [c, (Dg.dg_nil_iff 65536 0 (by omega)).2 rfl]; rfl)
   have := encodeOf_num k hk (soA up (nxB k s up).1).s (soA up (nxB k s up).1).s (soA up (nxB k s up).1).s so _ sc _ w1 r (by omega) (by omega) (by omega) hn0 hhd
   rw [hS, hE h h2, hr, if_pos rfl]
   unfold nxS
   simp only
   rw [show (soA up (nxB k s up).1).n = (nxB k s up).1.n from by rw [hB], show (soA up (nxB k s up).1).e = (nxB k s up).1.e from by rw [hB], if_neg hn0]
   exact this
  ·intro h
   have h1 : nextE (k : Int) s up = patC (k : Int) s := if_neg h
   refine ⟨h1, ?_⟩
   rw [hS, h1, if_neg h]
  ·intro h h2
   have h1 : nextE (k : Int) s up = 4 := by
    unfold nextE
    rw [if_pos h, if_neg (by omega)]
   refine ⟨h1, ?_⟩
   rw [hS, h1, if_neg (by omega)]
  ·intro h h2 h3
   have h1 : nextE (k : Int) s up = 4 := by
    rw [hE h h2]
    rw [hbare h h2] at h3
    obtain ⟨n1, -⟩ := nx_num hk s (hcl h h2)
    unfold nxR stepR
    rw [Dg.vl_dg _ _ (by omega), if_pos (show onC (dchk (Dg.dg 4294967296 (nxT k s).n) (nxT k s).e) (gridC (rdN k : Int) (dgN k : Int) (lsI k) (gsI k)) = 0 from (if_pos n1).trans hgr), if_neg (by rw [h3]; decide)]
   refine ⟨h1, ?_⟩
   rw [hS, h1, if_neg (by omega)]
  ·intro h h2 h3 ho
   have h1 : nextE (k : Int) s up = 5 := by rw [hE h h2, (hw h h2 h3).2 ho]
   refine ⟨h1, ?_⟩
   rw [hS, h1, if_neg (by omega)]
  ·intro h h2 h3 ho
   rw [hE h h2, (hw h h2 h3).1 ho]
end Go.Proofs.YtiiphandhpilgaaGreatDoor

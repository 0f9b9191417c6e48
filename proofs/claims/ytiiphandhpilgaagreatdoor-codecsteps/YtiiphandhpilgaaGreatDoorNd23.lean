/-
  Texts laid together: Over.
-/
import Derived.Test.YtiiphandhpilgaaGreatDoorNd22
set_option maxRecDepth 100000
namespace Go.Proofs.YtiiphandhpilgaaGreatDoor
open Go.RowKit
theorem own_digit (w : World) (base e d : Nat) (hb : base ≤ w.heap.size) : Own (w.alloc (.cells #[.int .u32 (d : Int)] e)) base e .u32 (.slice (some ⟨w.heap.size, 0, none⟩) 1 1) [d] :=
 World.ownsRow_lit (e := e) (size := 1) (base := base) w #[.int .u32 (d : Int)] 1 hb (by unfold maxLen; omega) rfl
theorem cmpI_nlt {a b : Int} (h : b ≤ a) : decide (cmpI a b < 0) = false := by
 unfold cmpI
 rw [if_neg (by omega)]
 by_cases h2 : b < a
 ·rw [if_pos h2]; rfl
 ·rw [if_neg h2]; rfl
set_option maxHeartbeats 1600000 in
theorem over_any (va vb : Value) (xs ys : List Nat) (w : World) (ha : Rd w .u32 va xs) (hb : Rd w .u32 vb ys) (sa : Dg.Small 4294967296 xs) (sb : Dg.Small 4294967296 ys) (na : Dg.Norm xs) (nb : Dg.Norm ys) (hne : ys ≠ []) (hla : xs.length ≤ 900000) :
  Calls Tryz.prog 143 #[va, vb] w (Two w (Dg.vl 4294967296 xs / Dg.vl 4294967296 ys) (Dg.vl 4294967296 xs % Dg.vl 4294967296 ys)) := by
 have hcm := compare_any va vb xs ys w ha hb sa sb na nb
 have hY0 : 0 < Dg.vl 4294967296 ys := Nat.pos_of_ne_zero (Dg.vl_ne_zero 4294967296 (by omega) ys hne nb)
 have hln : 0 < ys.length := List.length_pos_iff.2 hne
 by_cases hlt : Dg.vl 4294967296 xs < Dg.vl 4294967296 ys
 ·rw [cmpI_lt (by omega)] at hcm
  rw [Nat.div_eq_of_lt hlt, Nat.mod_eq_of_lt hlt]
  have HX : Hid (xs = Dg.dg 4294967296 (Dg.vl 4294967296 xs)) := Dg.eq_dg 4294967296 (by omega) xs _ sa na rfl
  have HA : Hid (Rd w .u32 va xs) := ha
  obtain ⟨ao, ca, rfl⟩ := ha.shape
  obtain ⟨bo, cb, rfl⟩ := hb.shape
  clear ha hb sa sb na nb hne hlt hY0
  go_enter Tryz.func143, Tryz.ntmps143
  go_wp2_with fail
  refine hcm.mono ?_
  rintro e w1 ⟨rfl, b1⟩
  clear hcm
  go_wp2_with fail
  refine (copy_any _ xs w1 (HA.out.later b1) (by omega)).mono ?_
  rintro e w2 ⟨rfl, own2, b2⟩
  have own2 := own2.lower b1.size
  have b12 := below_trans b1 b2
  clear b1 b2 HA
  go_wp2
  go_ret2
  exact ⟨_, _, rfl, own_nil _ _ _ _, HX.out ▸ own2, b12⟩
 ·have hd := cmpI_nlt (a := (Dg.vl 4294967296 xs : Int)) (b := (Dg.vl 4294967296 ys : Int)) (by omega)
  obtain ⟨r, hr⟩ : ∃ r, cmpI (Dg.vl 4294967296 xs) (Dg.vl 4294967296 ys) = r := ⟨_, rfl⟩
  rw [hr] at hd hcm
  clear hr
  have HA : Hid (Rd w .u32 va xs) := ha
  have HB : Hid (Rd w .u32 vb ys) := hb
  obtain ⟨ao, ca, rfl⟩ := ha.shape
  obtain ⟨bo, cb, rfl⟩ := hb.shape
  by_cases h1 : ys.length = 1
  ·obtain ⟨d, rfl⟩ : ∃ d, ys = [d] := List.length_eq_one_iff.1 h1
   have hv : Dg.vl 4294967296 [d] = d := by simp [Dg.vl]
   have hdl : d < 4294967296 := (Dg.small_cons.1 sb).1
   rw [hv] at hY0 ⊢
   clear ha hb hlt hv h1 hln hne nb sb
   go_enter Tryz.func143, Tryz.ntmps143
   go_wp2_with fail
   refine hcm.mono ?_
   rintro e w1 ⟨rfl, b1⟩
   clear hcm
   go_wp2_with fail
   refine (copy_any _ xs w1 (HA.out.later b1) (by omega)).mono ?_
   rintro e w2 ⟨rfl, own2, b2⟩
   have b12 := below_trans b1 b2
   obtain ⟨-, -, hcb⟩ := rd_open (HB.out.later b12)
   obtain ⟨bb, boff, rfl, hcell⟩ := hcb (by simp)
   have hc := hcell 0 (by simp)
   simp only [List.getD_cons_zero, Nat.add_zero] at hc
   clear hcell hcb
   go_wp2_with fail
   refine (divideBy_any _ _ _ _ xs d w2 own2 sa hY0 hdl (by omega)).mono ?_
   rintro e w3 ⟨qs, rfl, own3, hql, hqs, hqv, gr3⟩
   have b13 := b12.grown gr3 b12.size (fun k hk => by cases hk; exact b1.size)
   have r3 := own3.rd
   have own3 := own3.lower b1.size
   obtain ⟨rm, hrm⟩ : ∃ rm, Dg.vl 4294967296 xs % d = rm := ⟨_, rfl⟩
   rw [hrm]
   have hrl : rm < 4294967296 := by have := Nat.mod_lt (Dg.vl 4294967296 xs) hY0; omega
   clear gr3 own2 b12 b2 hc
   go_wp2_with fail
   refine (trim_any _ _ _ _ _ r3).mono ?_
   rintro e w4 ⟨m, rfl, hm, rfl⟩
   have t3 := own_trim 4294967296 (by omega) own3 hqs hm
   rw [hqv] at t3
   have ownd := own_digit w4 w.heap.size 79 rm b13.size
   have b4 : Below w4.heap.size w4 (w4.alloc (.cells #[.int .u32 (rm : Int)] 79)) := (Below.refl _ _).alloc (Nat.le_refl _) _
   have t4 := t3.later b4
   have b14 := below_trans b13 b4
   have rd4 := ownd.rd
   clear own3 r3 hm t3 b4 b13 b1 hqv
   go_wp2_with fail
   refine (trim_any _ _ _ _ _ rd4).mono ?_
   rintro e w5 ⟨m2, rfl, hm2, rfl⟩
   have t5 := own_trim 4294967296 (by omega) ownd (Dg.small_cons.2 ⟨hrl, Dg.small_nil _ (by omega)⟩) hm2
   rw [show Dg.vl 4294967296 [rm] = rm from by simp [Dg.vl]] at t5
   clear ownd rd4 hm2
   go_wp2
   go_ret2
   exact ⟨_, _, rfl, t4, by rw [hrm]; exact t5, b14⟩
  ·have hll : ys.length ≤ xs.length := by
    rcases Nat.lt_or_ge xs.length ys.length with e | e
    ·exact absurd (Dg.vl_lt_of_len 4294967296 (by omega) xs ys sa nb e) hlt
    ·exact e
   have HLO : Hid (∀ w1, Below w.heap.size w w1 → Calls Tryz.prog 147 #[.slice ao xs.length ca, .slice bo ys.length cb] w1 (Two w1 (Dg.vl 4294967296 xs / Dg.vl 4294967296 ys) (Dg.vl 4294967296 xs % Dg.vl 4294967296 ys))) := fun w1 b1 =>
    longOver_any _ _ xs ys w1 (ha.later b1) (hb.later b1) sa sb nb (by omega) hll hla
   obtain ⟨q, hq⟩ : ∃ q, Dg.vl 4294967296 xs / Dg.vl 4294967296 ys = q := ⟨_, rfl⟩
   obtain ⟨m, hm⟩ : ∃ m, Dg.vl 4294967296 xs % Dg.vl 4294967296 ys = m := ⟨_, rfl⟩
   rw [hq, hm] at HLO ⊢
   have h2 : ((ys.length : Int) == 1) = false := by simp; omega
   clear ha hb hlt hne nb sb na sa hY0 hq hm HA HB
   go_enter Tryz.func143, Tryz.ntmps143
   go_wp2_with fail
   refine hcm.mono ?_
   rintro e w1 ⟨rfl, b1⟩
   clear hcm
   go_wp2_with fail
   refine (HLO.out w1 b1).mono ?_
   rintro e w2 ⟨v1, v2, rfl, o1, o2, b2⟩
   have o1 := o1.lower b1.size
   have o2 := o2.lower b1.size
   have b12 := below_trans b1 b2
   clear b1 b2 HLO
   go_wp2
   go_ret2
   exact ⟨_, _, rfl, o1, o2, b12⟩
end Go.Proofs.YtiiphandhpilgaaGreatDoor

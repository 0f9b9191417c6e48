/-
  Arithmetic, paid: the greatest number, what is beyond it, what becomes of a place; what is answered.
-/
import Derived.Test.YtnhackdjplppjaaGreatDoorAt40
import Derived.Test.YtnhackdjplppjaaGreatDoorAt41
namespace Go.Proofs.YtnhackdjplppjaaGreatDoor
open Go.RowKit
abbrev dsk (k : Nat) (wy : Int) : Value := .agg #[.int .i64 (k : Int), .int .i64 wy, .int .i64 (famC (k : Int)), .int .i64 (rdN k : Int), .int .i64 (dgN k : Int), .int .i64 (lsI k), .int .i64 (gsI k), .bool (decide (k ≤ 3))]
theorem rd_sing {w : World} {q r : Nat} (h : w.cell? ⟨q, 0, none⟩ = some (.int .u32 (r : Int))) : Rd w .u32 (.slice (some ⟨q, 0, none⟩) 1 1) [r] :=
 ⟨_, 1, rfl, Nat.le_refl _, by unfold maxLen; omega, fun _ => ⟨q, 0, rfl, fun i hi => by
  obtain rfl : i = 0 := by simpa using hi
  exact h⟩⟩
theorem greatest_any (k : Nat) (hk : 1 ≤ k ∧ k ≤ 8) (wy : Int) (ng : Bool) (w : World) : Calls Tryz.prog 175 #[dsk k wy, .bool ng] w (ValRes w 2 ng (rdN k ^ dgN k - 1) (gsI k)) := by
 have hr : (rdN k = 2 ∨ rdN k = 16) ∧ dgN k ≤ 64 := by rcases eight hk with rfl | rfl | rfl | rfl | rfl | rfl | rfl | rfl <;> decide
 have hd : Dg.dg 4294967296 (rdN k) = [rdN k] := by rcases hr.1 with h | h <;> rw [h] <;> rfl
 have hp : 1 ≤ rdN k ^ dgN k := Nat.pow_pos (by omega)
 have hl : (Dg.dg 4294967296 (rdN k ^ dgN k)).length ≤ 64 := by
  have h4 : rdN k ^ dgN k < 2 ^ (4 * dgN k + 1) := by
   have : rdN k ^ dgN k ≤ 16 ^ dgN k := Nat.pow_le_pow_left (by omega) _
   have e : (16 : Nat) ^ dgN k = 2 ^ (4 * dgN k) := by rw [Nat.pow_mul]
   rw [Nat.pow_succ]
   have := two_pos (4 * dgN k)
   omega
  exact two_len h4 (by omega)
 have hn : (Dg.dg 4294967296 (rdN k ^ dgN k)).length ≠ 0 := fun h => by
  have := (Dg.dg_nil_iff 4294967296 (rdN k ^ dgN k) (by omega)).1 (List.length_eq_zero_iff.1 h)
  omega
 refine greatest_W (k : Int) wy (famC (k : Int)) (rdN k : Int) (dgN k : Int) (lsI k) (gsI k) (decide (k ≤ 3)) ng (rdN k) (rdN k ^ dgN k) w ?_ (fun q w1 _ hq => ?_) (fun vo vc q w1 hv hq => ?_)
 ·rcases hr.1 with h | h <;> rw [h] <;> rfl
 ·have h1 := rd_sing hq
  rw [← hd] at h1
  exact power_any _ (rdN k) (dgN k) 1 w1 h1 (by omega) (by omega) (by omega) (by omega)
 ·have := minus_any (.slice vo (Dg.dg 4294967296 (rdN k ^ dgN k)).length vc) (.slice (some ⟨q, 0, none⟩) 1 1) (Dg.dg 4294967296 (rdN k ^ dgN k)) [1] w1 hv (rd_one hq) (Dg.small_dg _ _ (by omega)) (Dg.small_cons.2 ⟨by omega, Dg.small_nil _ (by omega)⟩) (by omega) (by simp; omega) (by rw [Dg.vl_dg _ _ (by omega), show Dg.vl 4294967296 [1] = 1 from rfl]; exact hp)
  rwa [Dg.vl_dg _ _ (by omega), show Dg.vl 4294967296 [1] = 1 from rfl] at this
def ovV (k : Nat) (wy : Int) (ng : Bool) : Int × Bool × Nat × Int :=
 if famC (k : Int) = 3 then (5, false, 0, 0) else if famC (k : Int) = 1 ∧ outB wy ng = true then (3, ng, 0, 0) else (2, ng, rdN k ^ dgN k - 1, gsI k)
theorem fam_cases {k : Nat} (hk : 1 ≤ k ∧ k ≤ 8) : famC (k : Int) = 1 ∨ famC (k : Int) = 2 ∨ famC (k : Int) = 3 := by
 rcases eight hk with rfl | rfl | rfl | rfl | rfl | rfl | rfl | rfl <;> decide
theorem dover2_any (k : Nat) (hk : 1 ≤ k ∧ k ≤ 8) (wy : Int) (hw : 1 ≤ wy ∧ wy ≤ 5) (ng : Bool) (w : World) : Calls Tryz.prog 145 #[dsk k wy, .bool ng] w (ValRes w (ovV k wy ng).1 (ovV k wy ng).2.1 (ovV k wy ng).2.2.1 (ovV k wy ng).2.2.2) := by
 unfold ovV
 have HG := fun w1 => greatest_any k hk wy ng w1
 unfold dsk at HG ⊢
 rcases fam_cases hk with h | h | h
 ·rw [h] at HG ⊢
  rw [if_neg (by decide)]
  by_cases ho : outB wy ng = true
  ·rw [if_pos ⟨rfl, ho⟩]
   exact over_A1 _ _ _ _ _ _ _ _ w (fun w1 => by have := outward_any (k : Int) wy 1 (rdN k : Int) (dgN k : Int) (lsI k) (gsI k) (decide (k ≤ 3)) ng hw w1; rw [ho] at this; exact this)
  ·rw [if_neg (fun c => ho c.2)]
   exact over_A0 _ _ _ _ _ _ _ _ _ w (fun w1 => by have := outward_any (k : Int) wy 1 (rdN k : Int) (dgN k : Int) (lsI k) (gsI k) (decide (k ≤ 3)) ng hw w1; rw [show outB wy ng = false by simpa using ho] at this; exact this) (fun w1 _ => HG w1)
 ·rw [h] at HG ⊢
  rw [if_neg (by decide), if_neg (fun c => absurd c.1 (by decide))]
  exact over_B _ _ _ _ _ _ _ _ _ w (fun w1 _ => HG w1)
 ·rw [h, if_pos rfl]
  exact over_C _ _ _ _ _ _ _ _ w (fun w1 => fnothing_any 3 (.inr (.inr rfl)) w1)
def setV (k : Nat) (wy : Int) (P : PlaceT) : Int × Bool × Nat × Int × Int :=
 if P.ov = true then ((ovV k wy P.s).1, (ovV k wy P.s).2.1, (ovV k wy P.s).2.2.1, (ovV k wy P.s).2.2.2, 5)
 else if P.un = true ∧ P.p < lsI k then (1, false, 0, 0, 3)
 else ((if P.d = 0 then 1 else 2), P.s, P.d, P.p, if P.ex = true then 0 else if P.un = true then 3 else 1)
theorem settle_any (k : Nat) (hk : 1 ≤ k ∧ k ≤ 8) (wy : Int) (hw : 1 ≤ wy ∧ wy ≤ 5) (P : PlaceT) (ao : Option Addr) (ca : Nat) (w : World) (hr : Rd w .u32 (.slice ao (Dg.dg 4294967296 P.d).length ca) (Dg.dg 4294967296 P.d)) :
  Calls Tryz.prog 88 #[dsk k wy, .agg #[.bool P.s, .slice ao (Dg.dg 4294967296 P.d).length ca, .int .i64 P.p, .bool P.ex, .bool P.ov, .bool P.un]] w (SetRes w (setV k wy P).1 (setV k wy P).2.1 (setV k wy P).2.2.1 (setV k wy P).2.2.2.1 (setV k wy P).2.2.2.2) := by
 obtain ⟨ps, pd, pp, ex, ov, un⟩ := P
 unfold setV
 simp only at hr ⊢
 cases ov
 ·rw [if_neg (by decide)]
  by_cases hl : un = true ∧ pp < lsI k
  ·rw [if_pos hl]
   obtain ⟨rfl, hl⟩ := hl
   exact settle_low _ _ _ _ _ _ _ _ _ _ _ _ _ _ w hl
  ·rw [if_neg hl]
   have hz : (if pd = 0 then (1 : Int) else 2) = if (Dg.dg 4294967296 pd).length = 0 then 1 else 2 := by
    by_cases h : pd = 0
    ·rw [if_pos h, if_pos (by rw [h]; rfl)]
    ·rw [if_neg h, if_neg (fun c => h ((Dg.dg_nil_iff 4294967296 pd (by omega)).1 (List.length_eq_zero_iff.1 c)))]
   exact settle_in _ _ _ _ _ _ _ _ _ _ _ _ _ _ _ pd w rfl hr (fun h c => hl ⟨h, c⟩) _ _ hz rfl
 ·rw [if_pos rfl]
  exact settle_over _ _ _ _ _ _ _ _ _ _ _ _ _ _ _ _ _ _ _ w (fun w1 _ => dover2_any k hk wy hw ps w1)
def encT (k : Nat) (c : Int) (g : Bool) (m : Nat) (p fl : Int) : ByteArray × Int × Int :=
 if encE (k : Int) c g (Dg.dg 4294967296 m) p = 0 then (encS (k : Int) c g (Dg.dg 4294967296 m) p, fl, 0) else (⟨#[]⟩, 0, encE (k : Int) c g (Dg.dg 4294967296 m) p)
abbrev ans3 (r : ByteArray × Int × Int) (w : World) (z : Ending) (w' : World) : Prop := z = .returned (.tuple #[.string r.1, .int .i64 r.2.1, .int .i64 r.2.2]) ∧ Below w.heap.size w w'
theorem dencode_any (k : Nat) (wy c p fl : Int) (g : Bool) (m : Nat) (ao : Option Addr) (ca : Nat) (w : World) (hr : Rd w .u32 (.slice ao (Dg.dg 4294967296 m).length ca) (Dg.dg 4294967296 m)) (hT : Tab w) :
  Calls Tryz.prog 87 #[dsk k wy, .agg #[.int .i64 c, .bool g, .slice ao (Dg.dg 4294967296 m).length ca, .int .i64 p], .int .i64 fl] w (ans3 (encT k c g m p fl) w) := by
 have := dencode_W (k : Int) wy (famC (k : Int)) (rdN k : Int) (dgN k : Int) (lsI k) (gsI k) c p fl _ (decide (k ≤ 3)) g ao (Dg.dg 4294967296 m).length ca _ w (fun w1 b1 => encode_any (k : Int) c g ao ca (Dg.dg 4294967296 m) p w1 (hr.later b1) (Dg.small_dg _ _ (by omega)) (hT.later b1))
 refine this.mono (fun z w' h => ⟨?_, h.2⟩)
 rw [h.1]
 unfold encT
 by_cases c0 : encE (k : Int) c g (Dg.dg 4294967296 m) p = 0
 ·rw [if_pos c0, if_pos c0]
 ·rw [if_neg c0, if_neg c0]
theorem kept_any (t : Trip) (to0 : Option Addr) (tc : Nat) (w : World) (hr : Rd w .u32 (.slice to0 (Dg.dg 4294967296 t.n).length tc) (Dg.dg 4294967296 t.n)) (hb : bitLen t.n ≤ 100000) (e1 : -100000 ≤ t.e) (e2 : t.e ≤ 100000) (hT : Tab w) :
  Calls Tryz.prog 210 #[.agg #[.bool t.s, .slice to0 (Dg.dg 4294967296 t.n).length tc, .int .i64 t.e], .int .i64 128] w fun z w' => ∃ v, z = .returned (.agg #[.bool (keptT t).s, v, .int .i64 (keptT t).e]) ∧ Rd w' .u32 v (Dg.dg 4294967296 (keptT t).n) ∧ Below w.heap.size w w' := by
 have hL : (Dg.dg 4294967296 t.n).length ≤ 100000 := two_len (bit_lt (Nat.le_refl _)) (by omega)
 by_cases hs : bitLen t.n ≤ 128
 ·rw [show keptT t = t from if_pos hs]
  exact (kept_short t to0 tc w hr hL hs).mono (fun z w' h => ⟨_, h.1, hr.later h.2, h.2⟩)
 ·have h0 : t.n ≠ 0 := fun h => hs (by rw [h]; exact Nat.le_of_lt_succ (by rw [show bitLen 0 = 0 from rfl]; omega))
  obtain ⟨sp, hsp⟩ : ∃ s : Nat, bitLen t.n - 128 = s := ⟨_, rfl⟩
  have hk : keptT t = endlessT t.s (t.n / 2 ^ sp) (t.e + (sp : Int)) (decide (tz t.n < sp)) := by
   unfold keptT
   rw [if_neg hs, hsp]
  rw [hk]
  have hL2 : (Dg.dg 4294967296 (t.n / 2 ^ sp)).length ≤ 100000 := Nat.le_trans (dg_len_mono 4294967296 _ _ (by omega) (Nat.div_le_self _ _)) hL
  refine kept_W t _ to0 tc (t.n / 2 ^ sp) (bitLen t.n : Int) (sp : Int) (-(sp : Int)) (tz t.n : Int) (t.e + (sp : Int)) w ?_ (by omega) ?_ ?_ (fun w1 => digits_any _ _ _ _ _ w1) (fun w1 b => ?_) (fun w1 b => ?_) (fun w1 b => ?_) (fun mo mc w1 hm => ?_)
  ·rw [show ((bitLen t.n : Nat) : Int) - 128 = (sp : Int) from by omega]
   exact IntWalk.i64_in _ ⟨by omega, by omega⟩
  ·exact IntWalk.i64_in _ ⟨by omega, by omega⟩
  ·exact IntWalk.i64_in _ ⟨by omega, by omega⟩
  ·have := bits_any _ (Dg.dg 4294967296 t.n) w1 (hr.later b) (Dg.small_dg _ _ (by omega)) (Dg.norm_dg _ _ (by omega)) (by omega)
   rwa [Dg.vl_dg _ _ (by omega)] at this
  ·have := twos_any _ t.n w1 (hr.later b) (by omega) (hT.later b)
   rwa [if_neg h0] at this
  ·have := shifted_any _ (Dg.dg 4294967296 t.n) (-(sp : Int)) w1 (hr.later b) (Dg.small_dg _ _ (by omega)) (by omega) (by omega) (by omega)
   rwa [Dg.vl_dg _ _ (by omega), show shN t.n (-(sp : Int)) = t.n / 2 ^ sp from by
    unfold shN
    rw [if_pos (by omega), show (-(-(sp : Int))).toNat = sp from by omega]] at this
  ·have := endless_any t.s _ (t.n / 2 ^ sp) (t.e + (sp : Int)) (decide ((tz t.n : Int) < (sp : Int))) w1 hm (by omega) (by omega) (by omega)
   rwa [show decide ((tz t.n : Int) < (sp : Int)) = decide (tz t.n < sp) from decide_eq_decide.2 (by omega)] at this ⊢
end Go.Proofs.YtnhackdjplppjaaGreatDoor

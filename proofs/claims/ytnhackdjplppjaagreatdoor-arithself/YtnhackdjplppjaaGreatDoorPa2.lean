/-
  Arithmetic, paid: ratios of numbers, and what is answered.
-/
import Derived.Test.YtnhackdjplppjaaGreatDoorPa1
namespace Go.Proofs.YtnhackdjplppjaaGreatDoor
open Go.RowKit
def Near (t : Trip) : Prop := -50000 ≤ t.e ∧ t.e + (bitLen t.n : Int) ≤ 50000
theorem rt_near {t : Trip} (h0 : t.n ≠ 0) (h : Near t) : (Dg.dg 4294967296 (rtN t)).length ≤ 1200 ∧ (Dg.dg 4294967296 (rtM t)).length ≤ 1200 ∧ -20000 ≤ rtE t ∧ rtE t ≤ 20000 := by
 obtain ⟨h1, h2⟩ := h
 obtain ⟨k1, k2, k3, k4, k5⟩ := kept_parts t h0
 have hk : (keptT t).e ≤ 50000 := by
  by_cases g : bitLen t.n ≤ 128
  ·rw [show keptT t = t from if_pos g]
   omega
  ·omega
 have hE : -20000 ≤ rtE t ∧ rtE t ≤ 20000 := by unfold rtE; omega
 refine ⟨?_, ?_, hE⟩
 ·have : rtN t < 2 ^ (129 + ((keptT t).e - rtE t).toNat) := by
   unfold rtN
   rw [Nat.pow_add]
   exact Nat.mul_lt_mul_of_pos_right k3 (two_pos _)
  exact two_len this (by unfold rtE; omega)
 ·have : rtM t < 2 ^ ((rtE t - (keptT t).e).toNat + 1) := by
   unfold rtM
   exact Nat.pow_lt_pow_right (by omega) (by omega)
  exact two_len this (by unfold rtE; omega)
theorem ratioOf_any (t : Trip) (to0 : Option Addr) (tc : Nat) (w : World) (h0 : t.n ≠ 0) (hn : Near t) (hr : Rd w .u32 (.slice to0 (Dg.dg 4294967296 t.n).length tc) (Dg.dg 4294967296 t.n)) (hT : Tab w) :
  Calls Tryz.prog 164 #[.agg #[.bool t.s, .slice to0 (Dg.dg 4294967296 t.n).length tc, .int .i64 t.e]] w (RatRes w t.s (rtN t) (rtM t) (rtE t)) := by
 obtain ⟨h1, h2⟩ := hn
 obtain ⟨k1, k2, k3, k4, k5⟩ := kept_parts t h0
 have hk : (keptT t).e ≤ 50000 := by
  by_cases g : bitLen t.n ≤ 128
  ·rw [show keptT t = t from if_pos g]
   omega
  ·omega
 have hL : (Dg.dg 4294967296 (keptT t).n).length ≤ 5 := two_len k3 (by omega)
 have HK := fun w1 (b : Below w.heap.size w w1) => kept_any t to0 tc w1 (hr.later b) (by omega) (by omega) (by omega) (hT.later b)
 have hmx : min (max (keptT t).e (-20000)) 20000 = rtE t := by rw [rtE]
 have key : Calls Tryz.prog 164 #[.agg #[.bool t.s, .slice to0 (Dg.dg 4294967296 t.n).length tc, .int .i64 t.e]] w (RatRes w (keptT t).s (rtN t) (rtM t) (rtE t)) := by
  by_cases hlt : rtE t < (keptT t).e
  ·have h20 : rtE t = 20000 ∨ rtE t = -20000 := by unfold rtE at hlt ⊢; omega
   refine ratioOf_W t (keptT t) to0 tc (rtE t) ((keptT t).e - rtE t) (rtN t) (rtM t) w hmx HK (fun _ => ⟨IntWalk.i64_in _ ⟨by omega, by omega⟩, ?_, fun ko kc w1 hk2 => ?_⟩) (fun h => by omega)
   ·unfold rtM
    rw [show (rtE t - (keptT t).e).toNat = 0 from by omega, Nat.pow_zero]
   ·have := shifted_any _ (Dg.dg 4294967296 (keptT t).n) ((keptT t).e - rtE t) w1 hk2 (Dg.small_dg _ _ (by omega)) (by omega) (by omega) (by omega)
    rwa [Dg.vl_dg _ _ (by omega), show shN (keptT t).n ((keptT t).e - rtE t) = rtN t from by unfold shN rtN; rw [if_neg (by omega)]] at this
  ·have hE : -20000 ≤ rtE t ∧ rtE t ≤ 20000 := by unfold rtE; omega
   refine ratioOf_W t (keptT t) to0 tc (rtE t) (rtE t - (keptT t).e) (rtN t) (rtM t) w hmx HK (fun h => by omega) (fun _ => ⟨IntWalk.i64_in _ ⟨by omega, by omega⟩, ?_, fun q w1 hq => ?_⟩)
   ·unfold rtN
    rw [show ((keptT t).e - rtE t).toNat = 0 from by omega, Nat.pow_zero, Nat.mul_one]
   ·have := shifted_any (.slice (some ⟨q, 0, none⟩) 1 1) [1] (rtE t - (keptT t).e) w1 (rd_one hq) (Dg.small_cons.2 ⟨by omega, Dg.small_nil _ (by omega)⟩) (by simp) (by omega) (by omega)
    rwa [show Dg.vl 4294967296 [1] = 1 from rfl, show shN 1 (rtE t - (keptT t).e) = rtM t from by unfold shN rtM; rw [if_neg (by omega), Nat.one_mul]] at this
 rw [k2] at key
 exact key
def plcT (k : Nat) (wy : Int) (t : Trip) : PlaceT := roundT (rdN k : Int) (dgN k : Int) (lsI k) (gsI k) (decide (k ≤ 3)) t.s t.n 1 t.e wy
theorem round_plc (k : Nat) (hk : 1 ≤ k ∧ k ≤ 8) (wy : Int) (hw : 1 ≤ wy ∧ wy ≤ 5) (t : Trip) (h0 : t.n ≠ 0) (hn : Near t) :
  roundC (Dg.dg 4294967296 (rtN t)) (Dg.dg 4294967296 (rtM t)) (rtE t) (rdN k : Int) (dgN k : Int) (lsI k) (gsI k) wy = 0 ∧ roundP (Dg.dg 4294967296 (rtN t)) (Dg.dg 4294967296 (rtM t)) (rtE t) (rdN k : Int) (dgN k : Int) (lsI k) (gsI k) (decide (k ≤ 3)) t.s wy = plcT k wy t := by
 obtain ⟨l1, l2, l3, l4⟩ := rt_near h0 hn
 obtain ⟨-, -, d1, -, -, -, -, -, w64, -, -, hg⟩ := fmt_fit hk
 have hm : rtM t ≠ 0 := by unfold rtM; have := two_pos (rtE t - (keptT t).e).toNat; omega
 have hnn : rtN t ≠ 0 := by
  unfold rtN
  exact Nat.mul_ne_zero (kept_parts t h0).1 (by have := two_pos ((keptT t).e - rtE t).toNat; omega)
 have ne : ∀ {x : Nat}, x ≠ 0 → (Dg.dg 4294967296 x).length ≠ 0 := fun {x} h c => h ((Dg.dg_nil_iff 4294967296 x (by omega)).1 (List.length_eq_zero_iff.1 c))
 have hC : roundC (Dg.dg 4294967296 (rtN t)) (Dg.dg 4294967296 (rtM t)) (rtE t) (rdN k : Int) (dgN k : Int) (lsI k) (gsI k) wy = 0 := by
  have hno : ¬ ((Dg.dg 4294967296 (rtM t)).length = 0 ∨ farB 20000 (rtE t) = true) := fun c => by
   rcases c with c | c
   ·exact ne hm c
   ·unfold farB at c
    simp at c
    omega
  have hq : ratioC (Dg.dg 4294967296 (rtN t)) (Dg.dg 4294967296 (rtM t)) (rtE t) = 0 := by
   unfold ratioC
   rw [if_pos (chk_of (Dg.norm_dg _ _ (by omega)) l1), if_pos (chk_of (Dg.norm_dg _ _ (by omega)) l2), if_neg hno]
  have hy : isWay wy = true := by unfold isWay; simpa using hw
  have hwg : wrongG (ratioC (Dg.dg 4294967296 (rtN t)) (Dg.dg 4294967296 (rtM t)) (rtE t)) (gridC (rdN k : Int) (dgN k : Int) (lsI k) (gsI k)) = 0 := by
   unfold wrongG
   rw [if_pos hq, hg]
  unfold roundC
  rw [if_pos hwg, if_pos hy]
 refine ⟨hC, ?_⟩
 unfold roundP
 rw [if_pos hC, if_neg (ne hnn), Dg.vl_dg _ _ (by omega), Dg.vl_dg _ _ (by omega)]
 exact rt_round t h0 (by omega) (by rw [Int.toNat_natCast]; exact w64)
def ansT (k : Nat) (wy c : Int) (g : Bool) (t : Trip) (fl : Int) : ByteArray × Int × Int :=
 if c = 2 then encT k (setV k wy (plcT k wy t)).1 (setV k wy (plcT k wy t)).2.1 (setV k wy (plcT k wy t)).2.2.1 (setV k wy (plcT k wy t)).2.2.2.1 (bits .or .i64 fl (setV k wy (plcT k wy t)).2.2.2.2)
 else if c = 1 then encT k 1 (g && decide (famC (k : Int) = 1)) 0 0 fl else encT k c g 0 0 fl
theorem answer_any (k : Nat) (hk : 1 ≤ k ∧ k ≤ 8) (wy : Int) (hw : 1 ≤ wy ∧ wy ≤ 5) (c fl : Int) (g : Bool) (t : Trip) (ro : Option Addr) (rc : Nat) (w : World) (hc : c = 2 → t.n ≠ 0 ∧ Near t) (hr : Rd w .u32 (.slice ro (Dg.dg 4294967296 t.n).length rc) (Dg.dg 4294967296 t.n)) (hT : Tab w) :
  Calls Tryz.prog 107 #[dsk k wy, .agg #[.int .i64 c, .bool g, .bool t.s, .slice ro (Dg.dg 4294967296 t.n).length rc, .int .i64 t.e], .int .i64 fl] w (ans3 (ansT k wy c g t fl) w) := by
 unfold ansT
 by_cases h2 : c = 2
 ·subst h2
  rw [if_pos rfl]
  obtain ⟨h0, hn⟩ := hc rfl
  obtain ⟨p1, p2⟩ := round_plc k hk wy hw t h0 hn
  refine answer_num (k : Int) wy (famC (k : Int)) (rdN k : Int) (dgN k : Int) (lsI k) (gsI k) fl (decide (k ≤ 3)) g t ro rc t.s (rtN t) (rtM t) (rtE t) (plcT k wy t).s (plcT k wy t).d (plcT k wy t).p (plcT k wy t).ex (plcT k wy t).ov (plcT k wy t).un _ _ _ _ _ _ _ _ _ w rfl (fun w1 b => ratioOf_any t ro rc w1 h0 hn (hr.later b) (hT.later b)) (fun no nc mo mc w1 b r1 r2 => ?_) (fun po pc w1 b r1 => settle_any k hk wy hw (plcT k wy t) po pc w1 r1) (fun vo vc w1 b r1 => dencode_any k wy _ _ _ _ _ vo vc w1 r1 (hT.later b))
  have := gRound_any t.s no nc (Dg.dg 4294967296 (rtN t)) mo mc (Dg.dg 4294967296 (rtM t)) (rtE t) (rdN k : Int) (dgN k : Int) (lsI k) (gsI k) (decide (k ≤ 3)) wy w1 r1 r2 (Dg.small_dg _ _ (by omega)) (Dg.small_dg _ _ (by omega))
  rw [p1, p2] at this
  exact this.mono (fun z w' h => by
   obtain ⟨v, rfl, own, b2⟩ := h
   obtain ⟨po, pc, hv⟩ := own.rd.shape
   subst hv
   exact ⟨po, pc, rfl, own.rd, b2⟩)
 ·rw [if_neg h2]
  have HE := fun c' g' w1 (b : Below w.heap.size w w1) => dencode_any k wy c' 0 fl g' 0 none 0 w1 (rd_nil _ _) (hT.later b)
  by_cases h1 : c = 1
  ·subst h1
   rw [if_pos rfl]
   cases g
   ·exact answer_zf _ _ _ _ _ _ _ _ _ _ _ _ _ _ _ w (fun w1 b => HE 1 false w1 b)
   ·rcases fam_cases hk with hf | hf
    ·rw [hf]
     unfold dsk
     rw [hf]
     exact answer_z1 _ _ _ _ _ _ _ _ _ _ _ _ _ _ w (fun w1 b => by have := HE 1 true w1 b; unfold dsk at this; rw [hf] at this; exact this)
    ·rw [decide_eq_false (by omega)]
     exact answer_z2 _ _ _ _ _ _ _ _ _ _ _ _ _ _ _ w (by simp; omega) (fun w1 b => HE 1 false w1 b)
  ·rw [if_neg h1]
   exact answer_oth c g _ _ _ _ _ _ _ _ _ _ _ _ _ _ _ w (by simpa using h2) (by simpa using h1) (fun w1 b => HE c g w1 b)
end Go.Proofs.YtnhackdjplppjaaGreatDoor

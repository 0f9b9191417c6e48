/-
  Texts laid together: Ce2, Ef1, Em1, Ef2, Eb1, Eg1, Dn2, Gk3, Gk6, Eg2, Eb2, Eb3, Eb4.
-/
import Derived.Deep.RegionWith
import Derived.Laws.OwnMore
import Derived.Deep.AppendLies
import Derived.Deep.CutBlock
import Derived.Test.YtiiphandhpilgaaGreatDoorNd32
import Derived.Test.YtiiphandhpilgaaGreatDoorNd37
namespace Go.Proofs.YtiiphandhpilgaaGreatDoor
open Go.RowKit
theorem OwnB.store {w : World} {base g n cap : Nat} {bs : List Bool} (h : OwnB w base (.slice (some ⟨g, 0, none⟩) n cap) bs) (hn : n = bs.length) (j : Nat) (x : Bool) :
  OwnB (w.setCell ⟨g, j, none⟩ (.bool x)) base (.slice (some ⟨g, 0, none⟩) n cap) (bs.set j x) := by
 subst hn
 have := (World.ownsRow.stored h j (.bool x)).1
 unfold OwnB
 rw [List.length_set, List.map_set]
 exact this
theorem OwnB.free {w : World} {base g n cap : Nat} {bs : List Bool} (h : OwnB w base (.slice (some ⟨g, 0, none⟩) n cap) bs) (hn : n = bs.length) (j : Nat) : w.frozen? ⟨g, j, none⟩ = false := by
 subst hn
 exact World.ownsRow.frozenAt h j
theorem OwnB.block {w : World} {base g n cap : Nat} {bs : List Bool} (h : OwnB w base (.slice (some ⟨g, 0, none⟩) n cap) bs) (hn : n = bs.length) : base ≤ g ∧ g < w.heap.size := by
 subst hn
 exact World.ownsRow.lt h g rfl
theorem OwnB.cell {w : World} {base g n cap : Nat} {bs : List Bool} (h : OwnB w base (.slice (some ⟨g, 0, none⟩) n cap) bs) (hn : n = bs.length) (j : Nat) (hj : j < bs.length) : w.cell? ⟨g, j, none⟩ = some (.bool (bs.getD j false)) := by
 subst hn
 have hc := World.ownsRow.cellAt h j (by omega)
 rw [hc, List.getElem?_map, List.getElem?_eq_getElem hj]
 simp [List.getD_eq_getElem?_getD, hj]
end Go.Proofs.YtiiphandhpilgaaGreatDoor
namespace Go.Proofs.YtiiphandhpilgaaGreatDoor
open Go.RowKit
theorem step_run_append {P : Program} {ops : Array Oper} {o : Oper} {a : Act} {w : World} {K : Act → World → Prop} {Q : Exit → Act → World → Prop} {E : Prop}
  (hg : o.guard = none) (s x : Operand) (t : TypeId) (hop : o.op = Op.call { callee := Callee.builtin Builtin.append, args := #[s, x], argTypes := #[t, t] })
  (v u v' : Value) (w' : World) (hs : a.eval s = v) (hx : a.eval x = u) (hr : (Builtin.append_ #[t, t] o.type #[v, u]).run P w = .ok v' w') (hK : K (a.put o.dst v') w') :
  if Region.wanted o (yielded ops a.tmps) = true then Oper.wp P o a w K Q else E := by
 have hw : Region.wanted o (yielded ops a.tmps) = true := by simp [Region.wanted, hg]
 rw [if_pos hw]
 unfold Oper.wp
 simp [execOp, hop, resolve, invoke, builtin, hs, hx, hr, Result.andThen]
 exact hK
end Go.Proofs.YtiiphandhpilgaaGreatDoor
namespace Go.Proofs.YtiiphandhpilgaaGreatDoor
open Go.RowKit
theorem parts_one (n : Nat) (x : Int) : numP n x / denP 1 x = shN n x := by
 unfold numP denP shN
 by_cases h : x < 0
 ·rw [if_pos h, if_pos h, if_pos h, Nat.one_mul]
 ·rw [if_neg h, if_neg h, if_neg h, Nat.div_one]
theorem held_place {R D L G : Int} {gr s : Bool} {n : Nat} {e way : Int} (h1 : 1 ≤ D) (hLG : L ≤ G) (h0 : n ≠ 0) (hh : heldB R D L G gr n e = true) :
  (roundT R D L G gr s n 1 e way).s = s ∧ (roundT R D L G gr s n 1 e way).d = shN n (e - (widthN R : Int) * spotK R D L gr n e) ∧ (roundT R D L G gr s n 1 e way).p = spotK R D L gr n e ∧ shN n (e - (widthN R : Int) * spotK R D L gr n e) ≠ 0 := by
 have hM : (1 : Nat) ≠ 0 := by omega
 have hb := (held_round (s := s) (way := way) h1 hLG h0 hh).2.2
 have hs : L ≤ spotK R D L gr n e ∧ spotK R D L gr n e ≤ G ∧ (widthN R : Int) * spotK R D L gr n e ≤ e + (tz n : Int) := by
  unfold heldB at hh
  rcases of_decide_eq_true hh with h | h
  ·exact absurd h h0
  ·exact h
 have hc : cutP R D L gr n 1 e = spotK R D L gr n e := by
  unfold cutP spotK
  rw [topQ_one h0]
 obtain ⟨p1, -⟩ := one_parts s n e ((widthN R : Int) * spotK R D L gr n e) hs.2.2
 have hl : leftP R D L gr n 1 e = 0 := by
  unfold leftP shP
  rw [hc]
  exact p1
 have hd : digP R D L gr s n 1 e way = wholeP R D L gr n 1 e := by
  unfold digP
  rw [if_neg]
  rintro ⟨c, -⟩
  exact of_decide_eq_false c hl
 obtain ⟨c1, c2⟩ := dig_short R D L gr n 1 e h1 h0 hM (cutP R D L gr n 1 e)
 have hw : wholeP R D L gr n 1 e = shN n (e - (widthN R : Int) * spotK R D L gr n e) := by
  unfold wholeP shP
  rw [hc, parts_one]
 have hdn : (roundT R D L G gr s n 1 e way).d ≠ 0 := fun hz => by
  have h2 : (bare ⟨(roundT R D L G gr s n 1 e way).s, (roundT R D L G gr s n 1 e way).d, (widthN R : Int) * (roundT R D L G gr s n 1 e way).p⟩).n = 0 := (bareN_nil _).2 hz
  rw [hb] at h2
  exact h0 ((bareN_nil _).1 h2)
 rw [roundT_flat gr s n 1 e way h1 hLG h0 hM, hd, c1, c2, hc] at hdn ⊢
 simp only at hdn ⊢
 rw [if_neg hdn]
 rw [hw] at hdn ⊢
 exact ⟨trivial, rfl, rfl, hdn⟩
end Go.Proofs.YtiiphandhpilgaaGreatDoor
namespace Go.Proofs.YtiiphandhpilgaaGreatDoor
open Go.RowKit
theorem wdI_nat (R : Int) : wdI R = (widthN R : Int) := by
 unfold wdI widthN
 split <;> rfl
theorem fmt_fit {k : Nat} (hk : 1 ≤ k ∧ k ≤ 8) : 1 ≤ exN k ∧ 1 ≤ frN k ∧ 1 ≤ dgN k ∧ dgN k ≤ 64 ∧ -16445 ≤ lsI k ∧ lsI k ≤ 0 ∧ lsI k ≤ gsI k ∧ gsI k ≤ 16320 ∧ widthN (rdN k : Int) * dgN k ≤ 64 ∧ widthN (rdN k : Int) ≤ 4 ∧ 1 ≤ widthN (rdN k : Int) ∧ gridC (rdN k : Int) (dgN k : Int) (lsI k) (gsI k) = 0 := by
 rcases eight hk with rfl | rfl | rfl | rfl | rfl | rfl | rfl | rfl <;> exact ⟨by decide, by decide, by decide, by decide, by decide, by decide, by decide, by decide, by decide, by decide, by decide, by decide⟩
theorem dg16_mono {a b : Nat} (h : a ≤ b) : (Dg.dg 65536 a).length ≤ (Dg.dg 65536 b).length := by
 refine Dg.dg_len_le 65536 a _ (by omega) (Nat.lt_of_le_of_lt h ?_)
 have := Dg.vl_lt 65536 (Dg.dg 65536 b) (Dg.small_dg 65536 b (by omega))
 rwa [Dg.vl_dg 65536 b (by omega)] at this
theorem and_lead {d j : Nat} (h : d < 2 ^ (j + 1)) : d &&& 2 ^ j ≠ 0 ↔ bitLen d = j + 1 := by
 have hb := bitLen_le_of d (j + 1) h
 rw [and_bit]
 have hp : 0 < 2 ^ j := Nat.pow_pos (by omega)
 by_cases hc : 2 ^ j ≤ d
 ·have h1 : bitLen d = j + 1 := by
   have := (lt_bits d j).1
   have h2 : ¬ bitLen d < j + 1 := fun c => this c hc
   omega
  have ht : d.testBit j = true := by
   rw [Nat.testBit_eq_decide_div_mod_eq]
   have : d / 2 ^ j = 1 := by
    rw [Nat.pow_succ] at h
    have h3 : 1 ≤ d / 2 ^ j := (Nat.le_div_iff_mul_le hp).2 (by omega)
    have h4 : d / 2 ^ j < 2 := (Nat.div_lt_iff_lt_mul hp).2 (by omega)
    omega
   rw [this]
   rfl
  rw [if_pos ht]
  exact ⟨fun _ => h1, fun _ => by omega⟩
 ·have h1 : bitLen d < j + 1 := (lt_bits d j).2 hc
  have ht : d.testBit j = false := by
   rw [Nat.testBit_eq_decide_div_mod_eq, Nat.div_eq_of_lt (by omega)]
   rfl
  rw [if_neg (by rw [ht]; simp)]
  exact ⟨fun c => absurd rfl c, fun c => by omega⟩
end Go.Proofs.YtiiphandhpilgaaGreatDoor
namespace Go.Proofs.YtiiphandhpilgaaGreatDoor
open Go.RowKit
theorem heE_two {L : Int} {j : Nat} {t : PlaceT} (hlt : t.d < 2 ^ (j + 1)) : heE 2 L (2 ^ j) t = (t.p - L).toNat + if 2 ^ j ≤ t.d then 1 else 0 := by
 have h := and_lead hlt
 have hb := lt_bits t.d j
 have hle := bitLen_le_of t.d (j + 1) hlt
 unfold heE
 by_cases hc : 2 ^ j ≤ t.d
 ·have h1 : ¬ bitLen t.d < j + 1 := fun c => (hb.1 c) hc
  rw [if_pos ⟨rfl, h.2 (by omega)⟩, if_pos hc]
 ·have h1 := hb.2 hc
  rw [if_neg (fun c => by have := h.1 c.2; omega), if_neg hc]
theorem heE_hex {L : Int} {ld : Nat} {t : PlaceT} : heE 16 L ld t = (t.p - L).toNat := by
 unfold heE
 rw [if_neg (fun c => by have := c.1; omega), Nat.add_zero]
theorem or_lead {f n : Nat} (h : f < 2 ^ n) : f ||| 2 ^ n = f + 2 ^ n := by
 have := Nat.two_pow_add_eq_or_of_lt h 1
 rw [Nat.mul_one] at this
 rw [Nat.or_comm, ← this, Nat.add_comm]
theorem or_high {f n : Nat} (h1 : 2 ^ n ≤ f) (h2 : f < 2 ^ (n + 1)) : f ||| 2 ^ n = f := by
 obtain ⟨r, rfl⟩ : ∃ r, f = r + 2 ^ n := ⟨f - 2 ^ n, by omega⟩
 have hr : r < 2 ^ n := by rw [Nat.pow_succ] at h2; omega
 rw [← or_lead hr, Nat.or_assoc, Nat.or_self]
theorem mod_lead {d n : Nat} (h1 : 2 ^ n ≤ d) (h2 : d < 2 ^ (n + 1)) : d % 2 ^ n = d - 2 ^ n := by
 rw [Nat.pow_succ] at h2
 rw [Nat.mod_eq_sub_mod h1, Nat.mod_eq_of_lt (by omega)]
theorem spot_fields {k : Nat} (hk : 1 ≤ k ∧ k ≤ 8) (ng : Bool) (t : PlaceT) (h1 : lsI k ≤ t.p) (h2 : t.p ≤ gsI k) (h0 : t.d ≠ 0) (hlt : t.d < 2 ^ (widthN (rdN k : Int) * dgN k)) (hf : 2 ^ (widthN (rdN k : Int) * (dgN k - 1)) ≤ t.d ∨ (k ≤ 3 ∧ t.p = lsI k)) :
  heE (rdN k : Int) (lsI k) (leadN k) t < 2 ^ exN k ∧ clsN k ng (heE (rdN k : Int) (lsI k) (leadN k) t) (t.d % 2 ^ frN k) = 2 ∧ plcN k (heE (rdN k : Int) (lsI k) (leadN k) t) (t.d % 2 ^ frN k) = t.d ∧ plcP k (heE (rdN k : Int) (lsI k) (leadN k) t) = t.p := by
 have hex : (k = 4 ∨ k = 5) ∨ k = 3 ∨ (k = 1 ∨ k = 2) ∨ (k = 6 ∨ k = 7 ∨ k = 8) := by omega
 rcases hex with hx | hx | hx | hx
 ·have hR : (rdN k : Int) = 16 := by rcases hx with rfl | rfl <;> rfl
  have hfr : widthN (rdN k : Int) * dgN k = frN k := by rcases hx with rfl | rfl <;> decide
  have hrd : rdN k = 16 := by rcases hx with rfl | rfl <;> rfl
  have hgl : gsI k - lsI k < 128 ∧ 2 ^ exN k = 128 := by rcases hx with rfl | rfl <;> decide
  rw [hfr] at hlt
  rw [hR, heE_hex, Nat.mod_eq_of_lt hlt]
  refine ⟨by omega, ?_, ?_, ?_⟩
  ·unfold clsN
   rw [if_neg (by omega), if_pos (by omega), if_neg h0]
  ·unfold plcN
   rw [if_pos hrd]
  ·unfold plcP
   rw [if_pos hrd]
   omega
 ·subst hx
  have hw : widthN ((rdN 3 : Nat) : Int) = 1 := rfl
  rw [hw, Nat.one_mul] at hlt hf
  have hlt' : t.d < 2 ^ (63 + 1) := hlt
  have hf' : 2 ^ 63 ≤ t.d ∨ (3 ≤ 3 ∧ t.p = lsI 3) := hf
  have hh : heE ((rdN 3 : Nat) : Int) (lsI 3) (leadN 3) t = (t.p - lsI 3).toNat + if 2 ^ 63 ≤ t.d then 1 else 0 := heE_two (L := lsI 3) (j := 63) hlt'
  have hm : t.d % 2 ^ frN 3 = t.d := Nat.mod_eq_of_lt hlt'
  have hl3 : lsI 3 = -16445 := rfl
  have hg3 : gsI 3 = 16320 := rfl
  have he3 : 2 ^ exN 3 = 32768 := rfl
  have ho3 : onesN 3 = 32767 := rfl
  rw [hh, hm]
  by_cases hc : 2 ^ 63 ≤ t.d
  ·rw [if_pos hc]
   refine ⟨by omega, ?_, ?_, ?_⟩
   ·unfold clsN
    rw [if_pos (by omega), if_neg (by omega), if_neg (by omega), if_neg (fun c => by have := c.2; omega)]
   ·unfold plcN
    rw [if_neg (by decide), if_neg (by omega)]
    exact or_high hc hlt'
   ·unfold plcP
    rw [if_neg (by decide), if_neg (by omega)]
    omega
  ·have hp := (hf'.resolve_left hc).2
   rw [if_neg hc, hp]
   have hz : (lsI 3 - lsI 3).toNat + 0 = 0 := by omega
   rw [hz]
   refine ⟨by omega, ?_, ?_, ?_⟩
   ·unfold clsN
    rw [if_pos (by omega), if_pos rfl, if_neg h0]
   ·unfold plcN
    rw [if_neg (by decide), if_pos rfl]
   ·unfold plcP
    rw [if_neg (by decide), if_pos rfl]
 ·have hR : (rdN k : Int) = 2 := by rcases hx with rfl | rfl <;> rfl
  have hrd : ¬ rdN k = 16 := by rcases hx with rfl | rfl <;> decide
  have hw : widthN (rdN k : Int) = 1 := by rw [hR]; rfl
  have hfr : dgN k = frN k + 1 := by rcases hx with rfl | rfl <;> decide
  have hld : leadN k = 2 ^ frN k := by rcases hx with rfl | rfl <;> rfl
  have hgl : gsI k - lsI k + 1 < (onesN k : Int) ∧ 2 ^ exN k = onesN k + 1 := by rcases hx with rfl | rfl <;> decide
  rw [hw, Nat.one_mul, hfr] at hlt hf
  rw [Nat.add_sub_cancel] at hf
  rw [hR, hld, heE_two hlt]
  by_cases hc : 2 ^ frN k ≤ t.d
  ·rw [if_pos hc, mod_lead hc hlt]
   have hr : t.d - 2 ^ frN k < 2 ^ frN k := by rw [Nat.pow_succ] at hlt; omega
   refine ⟨by omega, ?_, ?_, ?_⟩
   ·unfold clsN
    rw [if_pos (by omega), if_neg (by omega), if_neg (by omega), if_neg (fun c => by have := c.1; omega)]
   ·unfold plcN
    rw [if_neg hrd, if_neg (by omega), hld, or_lead hr]
    omega
   ·unfold plcP
    rw [if_neg hrd, if_neg (by omega)]
    omega
  ·have hp := (hf.resolve_left hc).2
   rw [if_neg hc, hp, Nat.mod_eq_of_lt (by omega)]
   have hz : (lsI k - lsI k).toNat + 0 = 0 := by omega
   rw [hz]
   refine ⟨by omega, ?_, ?_, ?_⟩
   ·unfold clsN
    rw [if_pos (by omega), if_pos rfl, if_neg h0]
   ·unfold plcN
    rw [if_neg hrd, if_pos rfl]
   ·unfold plcP
    rw [if_neg hrd, if_pos rfl]
 ·have hR : (rdN k : Int) = 2 := by rcases hx with rfl | rfl | rfl <;> rfl
  have hrd : ¬ rdN k = 16 := by rcases hx with rfl | rfl | rfl <;> decide
  have hw : widthN (rdN k : Int) = 1 := by rw [hR]; rfl
  have hfr : dgN k = frN k + 1 := by rcases hx with rfl | rfl | rfl <;> decide
  have hld : leadN k = 2 ^ frN k := by rcases hx with rfl | rfl | rfl <;> rfl
  have hgl : gsI k - lsI k + 1 < (2 ^ exN k : Nat) := by rcases hx with rfl | rfl | rfl <;> decide
  rw [hw, Nat.one_mul, hfr] at hlt hf
  rw [Nat.add_sub_cancel] at hf
  have hc : 2 ^ frN k ≤ t.d := hf.resolve_right (fun c => by have := c.1; omega)
  rw [hR, hld, heE_two hlt, if_pos hc, mod_lead hc hlt]
  have hr : t.d - 2 ^ frN k < 2 ^ frN k := by rw [Nat.pow_succ] at hlt; omega
  refine ⟨by omega, ?_, ?_, ?_⟩
  ·unfold clsN
   rw [if_neg (by omega), if_neg (by omega), if_neg (by omega)]
  ·unfold plcN
   rw [if_neg hrd, if_neg (by omega), hld, or_lead hr]
   omega
  ·unfold plcP
   rw [if_neg hrd, if_neg (by omega)]
   omega
end Go.Proofs.YtiiphandhpilgaaGreatDoor
namespace Go.Proofs.YtiiphandhpilgaaGreatDoor
open Go.RowKit
structure EnF (w : World) (bf : Nat) (vv fl : List Value) (W : World) : Prop where
 v : LocE W w.heap.size 25 vv
 z : LocE W (w.heap.size + 1) 33 [.int .i64 0, .bool false, .bool false, .slice none 0 0, .int .i64 0]
 f : LocE W bf 44 fl
 b : Below w.heap.size w W
theorem EnF.later {w W W' : World} {bf : Nat} {vv fl : List Value} (h : EnF w bf vv fl W) (b : Below W.heap.size W W') : EnF w bf vv fl W' :=
 ⟨h.v.later b, h.z.later b, h.f.later b, below_trans h.b b⟩
theorem EnF.lt {w W : World} {bf : Nat} {vv fl : List Value} (h : EnF w bf vv fl W) : w.heap.size + 1 < W.heap.size ∧ bf < W.heap.size := ⟨h.z.lt, h.f.lt⟩
end Go.Proofs.YtiiphandhpilgaaGreatDoor
namespace Go.Proofs.YtiiphandhpilgaaGreatDoor
open Go.RowKit
theorem short_of {t : Trip} (h1 : (Dg.dg 4294967296 (bare t).n).length ≤ 1200) (h2 : -20000 ≤ (bare t).e) (h3 : (bare t).e ≤ 20000) : shortT t = (bare t, 0) := by
 unfold shortT
 rw [if_neg (by omega), if_neg (by omega)]
theorem bare_e_ge {t : Trip} (h : t.n ≠ 0) : t.e ≤ (bare t).e ∧ (bare t).e = t.e + tz t.n := by
 unfold bare
 rw [if_neg h]
 exact ⟨by show t.e ≤ t.e + (tz t.n : Int); omega, rfl⟩
end Go.Proofs.YtiiphandhpilgaaGreatDoor
namespace Go.Proofs.YtiiphandhpilgaaGreatDoor
open Go.RowKit
theorem gvl_ne {xs : List Nat} (sa : Dg.Small 4294967296 xs) (h : chk xs = 0) (hl : ¬xs.length = 0) : Dg.vl 4294967296 xs ≠ 0 := fun c => by
 have ex : Dg.dg 4294967296 (Dg.vl 4294967296 xs) = xs := Dg.dg_vl _ (by omega) _ sa (chk_zero h).1
 rw [c] at ex
 rw [← ex] at hl
 exact hl rfl
def InSpot (R D L G : Int) (gr : Bool) (d : Nat) (p : Int) : Prop :=
 (d = 0 ∧ p = 0) ∨ (d ≠ 0 ∧ L ≤ p ∧ p ≤ G ∧ d < 2 ^ (widthN R * D.toNat) ∧ (2 ^ (widthN R * (D - 1).toNat) ≤ d ∨ (gr = true ∧ p = L)))
theorem two_len {d k L : Nat} (h : d < 2 ^ k) (hk : k ≤ 32 * L) : (Dg.dg 4294967296 d).length ≤ L := by
 refine Dg.dg_len_le 4294967296 _ _ (by omega) (Nat.lt_of_lt_of_le h ?_)
 rw [show (4294967296 : Nat) = 2 ^ 32 from by decide, ← Nat.pow_mul]
 exact Nat.pow_le_pow_right (by omega) hk
theorem spot_fits {R D L G : Int} {gr : Bool} {d : Nat} {p : Int} (hg : gridC R D L G = 0) (h : InSpot R D L G gr d p) :
  (Dg.dg 4294967296 d).length ≤ 15 ∧ -17000 ≤ p ∧ p ≤ 17000 ∧ -17000 ≤ (widthN R : Int) * p ∧ (widthN R : Int) * p ≤ 17000 ∧ tz d ≤ 480 := by
 obtain ⟨hR, d1, d2, l1, l2, g1, g2, lg, l16⟩ := gridC_zero hg
 rcases h with ⟨rfl, rfl⟩ | ⟨h0, h1, h2, h3, -⟩
 ·refine ⟨Nat.zero_le _, by omega, by omega, by simp, by simp, ?_⟩
  exact Nat.le_trans (tz_fits 0 0 (Nat.le_refl _)) (by omega)
 ·have hw := Nat.mul_le_mul (widthN_le R).2 (show D.toNat ≤ 120 by omega)
  have hl : (Dg.dg 4294967296 d).length ≤ 15 := two_len h3 (by omega)
  have := tz_fits d 15 hl
  refine ⟨hl, by omega, by omega, ?_, ?_, by omega⟩ <;> (unfold widthN; split <;> simp <;> omega)
theorem spot_short {R D L G : Int} {gr s : Bool} {d : Nat} {p : Int} (hg : gridC R D L G = 0) (h : InSpot R D L G gr d p) :
  dbothR (placeC (Dg.dg 4294967296 d) p R D L G) ⟨s, Dg.vl 4294967296 (Dg.dg 4294967296 d), (widthN R : Int) * p⟩ = (bare ⟨s, d, (widthN R : Int) * p⟩, 0) := by
 obtain ⟨l, p1, p2, w1, w2, tzl⟩ := spot_fits hg h
 have hp : placeC (Dg.dg 4294967296 d) p R D L G = 0 := placeC_fine ((dchk_zero (dchk_of (n := d) (e := 0) (by omega) (by omega) (by omega))).1) hg (by unfold farB; simp; omega)
 rw [hp, Dg.vl_dg _ _ (by omega)]
 show shortT _ = _
 refine short_of ?_ ?_ ?_
 ·exact Nat.le_trans (dg_len_mono _ _ d (by omega) (bare_n_le _)) (by omega)
 ·by_cases h0 : d = 0
  ·simp [bare, h0]
  ·have := (bare_e_ge (t := ⟨s, d, (widthN R : Int) * p⟩) h0).2
   simp only at this
   omega
 ·by_cases h0 : d = 0
  ·simp [bare, h0]
  ·have := (bare_e_ge (t := ⟨s, d, (widthN R : Int) * p⟩) h0).2
   simp only at this
   omega
end Go.Proofs.YtiiphandhpilgaaGreatDoor
namespace Go.Proofs.YtiiphandhpilgaaGreatDoor
open Go.RowKit
theorem held_bare {R D L G : Int} (gr : Bool) (t : Trip) (hLG : L ≤ G) : heldB R D L G gr (bare t).n (bare t).e = heldB R D L G gr t.n t.e := by
 rw [← held_in gr t hLG, ← held_in gr (bare t) hLG, bare_bare]
theorem spot_held {R D L G : Int} {gr s : Bool} {d : Nat} {p : Int} (hg : gridC R D L G = 0) (h : InSpot R D L G gr d p) : heldB R D L G gr (bare ⟨s, d, (widthN R : Int) * p⟩).n (bare ⟨s, d, (widthN R : Int) * p⟩).e = true := by
 obtain ⟨-, d1, -, -, -, -, -, lg, -⟩ := gridC_zero hg
 rw [held_bare gr _ lg]
 rcases h with ⟨rfl, rfl⟩ | ⟨h0, h1, h2, h3, h4⟩
 ·exact held_zero R D L G gr _
 ·rw [held_spot d1 h3 h1 h4 h0]
  exact decide_eq_true h2
theorem spot_dchk {R D L G : Int} {gr s : Bool} {d : Nat} {p : Int} (hg : gridC R D L G = 0) (h : InSpot R D L G gr d p) : dchk (Dg.dg 4294967296 (bare ⟨s, d, (widthN R : Int) * p⟩).n) (bare ⟨s, d, (widthN R : Int) * p⟩).e = 0 := by
 obtain ⟨l, p1, p2, w1, w2, tzl⟩ := spot_fits hg h
 refine dchk_of ?_ ?_ ?_
 ·exact Nat.le_trans (dg_len_mono _ _ d (by omega) (bare_n_le _)) (by omega)
 ·by_cases h0 : d = 0
  ·simp [bare, h0]
  ·have := (bare_e_ge (t := ⟨s, d, (widthN R : Int) * p⟩) h0).2
   simp only at this
   omega
 ·by_cases h0 : d = 0
  ·simp [bare, h0]
  ·have := (bare_e_ge (t := ⟨s, d, (widthN R : Int) * p⟩) h0).2
   simp only at this
   omega
end Go.Proofs.YtiiphandhpilgaaGreatDoor
namespace Go.Proofs.YtiiphandhpilgaaGreatDoor
open Go.RowKit
theorem bare_small {t : Trip} (h0 : t.n ≠ 0) : (Dg.dg 65536 (bare t).n).length ≤ (Dg.dg 65536 t.n).length ∧ t.e ≤ (bare t).e ∧ (bare t).e ≤ t.e + (bitLen t.n : Int) := by
 obtain ⟨-, h2, h3⟩ := bare_top h0
 refine ⟨dg16_mono (bare_n_le t), by omega, by omega⟩
end Go.Proofs.YtiiphandhpilgaaGreatDoor
namespace Go.Proofs.YtiiphandhpilgaaGreatDoor
open Go.RowKit
theorem bare_own {s : Bool} {a : Trip} (h : a.n ≠ 0) (hs : a.s = s) : (⟨s, (bare a).n, (bare a).e⟩ : Trip) = bare a := by
 unfold bare
 rw [if_neg h, ← hs]
theorem back_value {k : Nat} (hk : 1 ≤ k ∧ k ≤ 8) {ng : Bool} {E F : Nat} (hE : E < 2 ^ exN k) (hF : F < 2 ^ frN k) (hF64 : F < 2 ^ 64) (hc : clsN k ng E F = 2) (h0 : plcN k E F ≠ 0) :
  bare ⟨ng, valM k ng E F, (widthN (rdN k : Int) : Int) * valP k ng E F⟩ = bare ⟨ng, plcN k E F, (widthN (rdN k : Int) : Int) * plcP k E⟩ := by
 have hT := refT_num hk hE hF hc
 rw [wdI_nat] at hT
 by_cases hr : rdN k = 2
 ·obtain ⟨v1, v2⟩ := val2 hk hE hF hF64 hc hr
  have hw : widthN (rdN k : Int) = 1 := by rw [hr]; rfl
  rw [v1, v2, hT, hw, show ((1 : Nat) : Int) * (bare ⟨ng, plcN k E F, ((1 : Nat) : Int) * plcP k E⟩).e = (bare ⟨ng, plcN k E F, ((1 : Nat) : Int) * plcP k E⟩).e from by omega, bare_own (a := ⟨ng, plcN k E F, ((1 : Nat) : Int) * plcP k E⟩) h0 rfl, bare_bare]
 ·have hr16 : rdN k = 16 := by rcases eight hk with rfl | rfl | rfl | rfl | rfl | rfl | rfl | rfl <;> revert hr <;> decide
  obtain ⟨v1, v2, v3⟩ := val16 hk hE hF hF64 hc hr16
  have hw : widthN (rdN k : Int) = 4 := by rw [hr16]; rfl
  rw [hw] at hT ⊢
  rw [v3, hT]
  rw [hT] at v1
  have hp := (one_parts ng (bare ⟨ng, plcN k E F, ((4 : Nat) : Int) * plcP k E⟩).n (bare ⟨ng, plcN k E F, ((4 : Nat) : Int) * plcP k E⟩).e (((4 : Nat) : Int) * valP k ng E F) (by omega)).2
  rw [parts_one] at hp
  rw [show (4 : Int) * valP k ng E F = ((4 : Nat) : Int) * valP k ng E F from rfl, hp, bare_own (a := ⟨ng, plcN k E F, ((4 : Nat) : Int) * plcP k E⟩) h0 rfl, bare_bare]
theorem same_value {k : Nat} (hk : 1 ≤ k ∧ k ≤ 8) {ng : Bool} {E F E' F' : Nat} (hE : E < 2 ^ exN k) (hF : F < 2 ^ frN k) (hF64 : F < 2 ^ 64) (hc : clsN k ng E F = 2) (hE' : E' < 2 ^ exN k) (hF' : F' < 2 ^ frN k) (hF64' : F' < 2 ^ 64) (hc' : clsN k ng E' F' = 2)
  (h : bare ⟨ng, plcN k E F, (widthN (rdN k : Int) : Int) * plcP k E⟩ = bare ⟨ng, plcN k E' F', (widthN (rdN k : Int) : Int) * plcP k E'⟩) : valM k ng E F = valM k ng E' F' ∧ valP k ng E F = valP k ng E' F' := by
 have hT := refT_num hk hE hF hc
 have hT' := refT_num hk hE' hF' hc'
 rw [wdI_nat, h] at hT
 rw [wdI_nat, ← hT] at hT'
 by_cases hr : rdN k = 2
 ·obtain ⟨v1, v2⟩ := val2 hk hE hF hF64 hc hr
  obtain ⟨u1, u2⟩ := val2 hk hE' hF' hF64' hc' hr
  rw [v1, v2, u1, u2, hT']
  exact ⟨rfl, rfl⟩
 ·have hr16 : rdN k = 16 := by rcases eight hk with rfl | rfl | rfl | rfl | rfl | rfl | rfl | rfl <;> revert hr <;> decide
  obtain ⟨v1, v2, v3⟩ := val16 hk hE hF hF64 hc hr16
  obtain ⟨u1, u2, u3⟩ := val16 hk hE' hF' hF64' hc' hr16
  rw [hT'] at u1 u2 u3
  have hp : valP k ng E F = valP k ng E' F' := by omega
  rw [v3, u3, hp]
  exact ⟨rfl, rfl⟩
theorem frN_64 {k : Nat} (hk : 1 ≤ k ∧ k ≤ 8) {f : Nat} (h : f < 2 ^ frN k) : f < 2 ^ 64 :=
 Nat.lt_of_lt_of_le h (Nat.pow_le_pow_right (by omega) (sizes_fit hk).2.2.2.1)
end Go.Proofs.YtiiphandhpilgaaGreatDoor
namespace Go.Proofs.YtiiphandhpilgaaGreatDoor
open Go.RowKit
theorem patC_ok {k : Nat} (hk : 1 ≤ k ∧ k ≤ 8) {s : ByteArray} (h : s.size = szN k) : patC (k : Int) s = 0 := by
 have hf : famC (k : Int) ≠ 0 := by
  rcases eight hk with rfl | rfl | rfl | rfl | rfl | rfl | rfl | rfl <;> decide
 unfold patC
 rw [if_neg hf, Int.toNat_natCast, if_pos h]
theorem strip_le (r : Nat) : ∀ (n d : Nat) (p : Int), (stripF r n d p).1 ≤ d
 | 0, d, p => Nat.le_refl _
 | n + 1, d, p => by
  unfold stripF
  split
  ·exact Nat.le_trans (strip_le r n _ _) (Nat.div_le_self _ _)
  ·exact Nat.le_refl _
end Go.Proofs.YtiiphandhpilgaaGreatDoor
namespace Go.Proofs.YtiiphandhpilgaaGreatDoor
open Go.RowKit
theorem fld_lt (k : Nat) (s : ByteArray) : fldE k s < 2 ^ exN k ∧ fldF k s < 2 ^ frN k := ⟨bitsV_lt _ _ _, bitsV_lt _ _ _⟩
end Go.Proofs.YtiiphandhpilgaaGreatDoor

/-
  Texts laid together: Ce11, Em1, Cr4, Ef2, Ce9, Eb1, Co23, Cr9.
-/
import Derived.Deep.Cut
import Derived.Deep.DeepCutAuto
import Derived.Deep.CutBlock
import Derived.Deep.RegionHeld3
import Derived.Test.YtiiphandhpilgaaDoorEb18
import Derived.Test.YtiiphandhpilgaaDoorEb22
import Derived.Test.YtiiphandhpilgaaDoorEb34
import Derived.Test.YtiiphandhpilgaaDoorEb35
import Derived.Test.YtiiphandhpilgaaDoorEb37
import Derived.Test.YtiiphandhpilgaaDoorEb10
import Derived.Test.YtiiphandhpilgaaDoorEb12
import Derived.Test.YtiiphandhpilgaaDoorEb32
import Derived.Test.YtiiphandhpilgaaDoorEb03
import Derived.Test.YtiiphandhpilgaaDoorEb05
import Derived.Test.YtiiphandhpilgaaDoorEb11
import Derived.Test.YtiiphandhpilgaaDoorEb21
namespace Go.Proofs.YtiiphandhpilgaaDoor
open Go.RowKit
theorem en_short {c : Int} {t r : Trip} (h : dbothR c t = (r, 0)) : r = bare t ∧ dchk (Dg.dg 4294967296 r.n) r.e = 0 := by
  unfold dbothR at h
  by_cases h0 : c = 0
  · rw [if_pos h0] at h
    unfold shortT at h
    by_cases h1 : 1200 < (Dg.dg 4294967296 (bare t).n).length
    · rw [if_pos h1] at h
      simp at h
    · rw [if_neg h1] at h
      by_cases h2 : (bare t).e < -20000 ∨ 20000 < (bare t).e
      · rw [if_pos h2] at h
        simp at h
      · rw [if_neg h2] at h
        simp only [Prod.mk.injEq, and_true] at h
        subst h
        have hn := Dg.norm_dg 4294967296 (bare t).n (by omega)
        refine ⟨rfl, ?_⟩
        unfold dchk
        rw [if_pos (chk_of hn (by omega)), if_neg h2]
  · rw [if_neg h0] at h
    simp only [Prod.mk.injEq] at h
    exact absurd h.2 h0

/-- The number of a value, and what is wrong with it. -/
def enN (k : Nat) (ng : Bool) (xs : List Nat) (p : Int) : Trip × Int :=
  dbothR (placeC xs p (rdN k : Int) (dgN k : Int) (lsI k) (gsI k)) ⟨ng, Dg.vl 4294967296 xs, (widthN (rdN k : Int) : Int) * p⟩

/-- Does the grid of a format hold it? -/
def enH (k : Nat) (t : Trip) : Bool := ansH (Dg.dg 4294967296 t.n) t.e (rdN k : Int) (dgN k : Int) (lsI k) (gsI k) (decide (k ≤ 3))

/-- What encodeNumber answers. -/
def enE (k : Nat) (ng : Bool) (xs : List Nat) (p : Int) : Int :=
  if p < -20000 ∨ 20000 < p then 3 else if xs.length = 0 then 4 else if (enN k ng xs p).2 = 0 ∧ enH k (enN k ng xs p).1 = true then 0 else 4
def enS (k : Nat) (ng : Bool) (xs : List Nat) (p : Int) : ByteArray :=
  if enE k ng xs p = 0 then strOf (wrtB k (plT k (enN k ng xs p).1.s (enN k ng xs p).1.n (enN k ng xs p).1.e).s (heE (rdN k : Int) (lsI k) (leadN k) (plT k (enN k ng xs p).1.s (enN k ng xs p).1.n (enN k ng xs p).1.e)) (plT k (enN k ng xs p).1.s (enN k ng xs p).1.n (enN k ng xs p).1.e).d) else ⟨#[]⟩

set_option maxHeartbeats 1600000 in
theorem encodeNumber_any (k : Nat) (hk : 1 ≤ k ∧ k ≤ 8) (ng : Bool) (ao : Option Addr) (ca : Nat) (xs : List Nat) (p : Int) (w : World) (hr : Rd w .u32 (.slice ao xs.length ca) xs) (sa : Dg.Small 4294967296 xs) (hc : chk xs = 0) (hT : Tab w) :
    Calls Tryd.prog 12 #[.agg (layV k).toArray, .agg #[.int .i64 2, .bool ng, .slice ao xs.length ca, .int .i64 p]] w fun z w' => z = .returned (.tuple #[.string (enS k ng xs p), .int .i64 (enE k ng xs p)]) ∧ Below w.heap.size w w' := by
  have key : ∀ er, enE k ng xs p = er → enS k ng xs p = if er = 0 then strOf (wrtB k (plT k (enN k ng xs p).1.s (enN k ng xs p).1.n (enN k ng xs p).1.e).s (heE (rdN k : Int) (lsI k) (leadN k) (plT k (enN k ng xs p).1.s (enN k ng xs p).1.n (enN k ng xs p).1.e)) (plT k (enN k ng xs p).1.s (enN k ng xs p).1.n (enN k ng xs p).1.e).d) else ⟨#[]⟩ := fun er h => by unfold enS; rw [h]
  by_cases hp : p < -20000 ∨ 20000 < p
  · have hE : enE k ng xs p = 3 := if_pos hp
    rw [key 3 hE, hE, if_neg (by omega)]
    rcases hp with hp | hp
    · rcases eight hk with rfl | rfl | rfl | rfl | rfl | rfl | rfl | rfl
      all_goals exact encNum_low _ _ _ _ _ _ _ _ _ 2 p ng ao xs.length ca w hp
    · rcases eight hk with rfl | rfl | rfl | rfl | rfl | rfl | rfl | rfl
      all_goals exact encNum_high _ _ _ _ _ _ _ _ _ 2 p ng ao xs.length ca w hp
  · have hp1 : -20000 ≤ p := by omega
    have hp2 : p ≤ 20000 := by omega
    by_cases hl : xs.length = 0
    · have hE : enE k ng xs p = 4 := by unfold enE; rw [if_neg hp, if_pos hl]
      rw [key 4 hE, hE, if_neg (by omega)]
      rcases eight hk with rfl | rfl | rfl | rfl | rfl | rfl | rfl | rfl
      all_goals exact encNum_empty _ _ _ _ _ _ _ _ _ 2 p ng ao xs.length ca w hp1 hp2 hl
    · have hnx : Dg.vl 4294967296 xs ≠ 0 := fun h => by
        obtain ⟨n1, -⟩ := chk_zero hc
        exact Dg.vl_ne_zero 4294967296 (by omega) xs (by intro e; subst e; simp at hl) n1 h
      have HN1 := fun w1 (b : Below w.heap.size w w1) => gNumber_any (rdN k : Int) (dgN k : Int) (lsI k) (gsI k) (decide (k ≤ 3)) ng ao ca xs p false false false w1 (hr.later b) sa (hT.later b)
      have hen : dbothR (placeC xs p (rdN k : Int) (dgN k : Int) (lsI k) (gsI k)) ⟨ng, Dg.vl 4294967296 xs, (widthN (rdN k : Int) : Int) * p⟩ = enN k ng xs p := rfl
      rw [hen] at HN1
      have hE : enE k ng xs p = if (enN k ng xs p).2 = 0 ∧ enH k (enN k ng xs p).1 = true then 0 else 4 := by unfold enE; rw [if_neg hp, if_neg hl]
      have hfact : (enN k ng xs p).2 = 0 → (enN k ng xs p).1.n ≠ 0 ∧ dchk (Dg.dg 4294967296 (enN k ng xs p).1.n) (enN k ng xs p).1.e = 0 := fun h => by
        have h2 := en_short (show dbothR (placeC xs p (rdN k : Int) (dgN k : Int) (lsI k) (gsI k)) ⟨ng, Dg.vl 4294967296 xs, (widthN (rdN k : Int) : Int) * p⟩ = ((enN k ng xs p).1, 0) from by rw [hen]; exact Prod.ext rfl h)
        obtain ⟨h3, h4⟩ := h2
        refine ⟨fun h5 => ?_, h4⟩
        rw [h3] at h5
        exact hnx ((bareN_nil ⟨ng, Dg.vl 4294967296 xs, (widthN (rdN k : Int) : Int) * p⟩).1 h5)
      clear hen
      generalize enN k ng xs p = r at *
      obtain ⟨t, er⟩ := r
      simp only at hE hfact key HN1 ⊢
      have HN : ∀ w1, Below w.heap.size w w1 → Calls Tryd.prog 18 #[.agg (layV k).toArray, .agg #[.int .i64 2, .bool ng, .slice ao xs.length ca, .int .i64 p]] w1 (DAns w1 (t, er)) := fun w1 b => by
        rcases eight hk with rfl | rfl | rfl | rfl | rfl | rfl | rfl | rfl
        all_goals exact lnumber_W _ _ _ _ _ _ _ _ _ 2 p ng ao xs.length ca (t, er) w1 (fun w2 b2 => HN1 w2 (below_trans b b2))
      by_cases her : er = 0
      · obtain ⟨hn0, hdc⟩ := hfact her
        have sm := Dg.small_dg 4294967296 t.n (by omega)
        have HH := fun so sc w1 (b : Below w.heap.size w w1) (h : Rd w1 .u32 (.slice so (Dg.dg 4294967296 t.n).length sc) (Dg.dg 4294967296 t.n)) => gHolds_any (rdN k : Int) (dgN k : Int) (lsI k) (gsI k) (decide (k ≤ 3)) t.s so sc (Dg.dg 4294967296 t.n) t.e w1 h sm (hT.later b)
        have hgr : gridC (rdN k : Int) (dgN k : Int) (lsI k) (gsI k) = 0 := by
          rcases eight hk with rfl | rfl | rfl | rfl | rfl | rfl | rfl | rfl <;> decide
        have hon : onC (dchk (Dg.dg 4294967296 t.n) t.e) (gridC (rdN k : Int) (dgN k : Int) (lsI k) (gsI k)) = 0 := by unfold onC; rw [if_pos hdc]; exact hgr
        rw [hon] at HH
        by_cases hq : enH k t = true
        · rw [if_pos ⟨her, hq⟩] at hE
          rw [key 0 hE, hE, if_pos rfl]
          have hq' : ansH (Dg.dg 4294967296 t.n) t.e (rdN k : Int) (dgN k : Int) (lsI k) (gsI k) (decide (k ≤ 3)) = true := hq
          have hheld : heldB (rdN k : Int) (dgN k : Int) (lsI k) (gsI k) (decide (k ≤ 3)) (Dg.vl 4294967296 (Dg.dg 4294967296 t.n)) t.e = true := by
            have h := hq'
            unfold ansH at h
            rw [if_pos hon] at h
            exact h
          have HE := fun so sc w1 (_b : Below w.heap.size w w1) (h : Rd w1 .u32 (.slice so (Dg.dg 4294967296 t.n).length sc) (Dg.dg 4294967296 t.n)) => encodeHeld_any k hk t.s so sc (Dg.dg 4294967296 t.n) t.e w1 h sm hdc (by rw [Dg.vl_dg 4294967296 t.n (by omega)]; exact hn0) hheld
          rw [Dg.vl_dg 4294967296 t.n (by omega)] at HE
          rw [hq'] at HH
          generalize strOf (wrtB k (plT k t.s t.n t.e).s (heE (rdN k : Int) (lsI k) (leadN k) (plT k t.s t.n t.e)) (plT k t.s t.n t.e).d) = st at *
          rcases eight hk with rfl | rfl | rfl | rfl | rfl | rfl | rfl | rfl
          all_goals exact encNum_held _ _ _ _ _ _ _ _ _ 2 p ng ao xs.length ca w t er HN true 0 HH st 0 HE hp1 hp2 (by omega) her rfl rfl
        · have hqf : ansH (Dg.dg 4294967296 t.n) t.e (rdN k : Int) (dgN k : Int) (lsI k) (gsI k) (decide (k ≤ 3)) = false := by
            have : enH k t = false := by simpa using hq
            exact this
          rw [if_neg (fun h => hq h.2)] at hE
          rw [key 4 hE, hE, if_neg (by omega)]
          rw [hqf] at HH
          rcases eight hk with rfl | rfl | rfl | rfl | rfl | rfl | rfl | rfl
          all_goals exact encNum_off0 _ _ _ _ _ _ _ _ _ 2 p ng ao xs.length ca w t er HN false 0 HH hp1 hp2 (by omega) her rfl rfl
      · rw [if_neg (fun h => her h.1)] at hE
        rw [key 4 hE, hE, if_neg (by omega)]
        rcases eight hk with rfl | rfl | rfl | rfl | rfl | rfl | rfl | rfl
        all_goals exact encNum_far _ _ _ _ _ _ _ _ _ 2 p ng ao xs.length ca w t er HN hp1 hp2 (by omega) her
end Go.Proofs.YtiiphandhpilgaaDoor
namespace Go.Proofs.YtiiphandhpilgaaDoor
open Go.RowKit
theorem parts_one (n : Nat) (x : Int) : numP n x / denP 1 x = shN n x := by
  unfold numP denP shN
  by_cases h : x < 0
  · rw [if_pos h, if_pos h, if_pos h, Nat.one_mul]
  · rw [if_neg h, if_neg h, if_neg h, Nat.div_one]

/-- The place of a number that the grid holds. -/
theorem held_place {R D L G : Int} {gr s : Bool} {n : Nat} {e way : Int} (h1 : 1 ≤ D) (hLG : L ≤ G) (h0 : n ≠ 0) (hh : heldB R D L G gr n e = true) :
    (roundT R D L G gr s n 1 e way).s = s ∧ (roundT R D L G gr s n 1 e way).d = shN n (e - (widthN R : Int) * spotK R D L gr n e) ∧ (roundT R D L G gr s n 1 e way).p = spotK R D L gr n e ∧ shN n (e - (widthN R : Int) * spotK R D L gr n e) ≠ 0 := by
  have hM : (1 : Nat) ≠ 0 := by omega
  have hb := (held_round (s := s) (way := way) h1 hLG h0 hh).2.2
  have hs : L ≤ spotK R D L gr n e ∧ spotK R D L gr n e ≤ G ∧ (widthN R : Int) * spotK R D L gr n e ≤ e + (tz n : Int) := by
    unfold heldB at hh
    rcases of_decide_eq_true hh with h | h
    · exact absurd h h0
    · exact h
  have hc : cutP R D L gr n 1 e = spotK R D L gr n e := by
    unfold cutP spotK
    rw [topQ_one h0]
  obtain ⟨p1, -⟩ := one_parts s n e ((widthN R : Int) * spotK R D L gr n e) hs.2.2
  have hl : leftP R D L gr n 1 e = 0 := by
    unfold leftP shP
    rw [hc]
    exact p1
  have hd : digP R D L gr s n 1 e way = wholeP R D L gr n 1 e := by
    unfold digP
    rw [if_neg]
    rintro ⟨c, -⟩
    exact of_decide_eq_false c hl
  obtain ⟨c1, c2⟩ := dig_short R D L gr n 1 e h1 h0 hM (cutP R D L gr n 1 e)
  have hw : wholeP R D L gr n 1 e = shN n (e - (widthN R : Int) * spotK R D L gr n e) := by
    unfold wholeP shP
    rw [hc, parts_one]
  have hdn : (roundT R D L G gr s n 1 e way).d ≠ 0 := fun hz => by
    have h2 : (bare ⟨(roundT R D L G gr s n 1 e way).s, (roundT R D L G gr s n 1 e way).d, (widthN R : Int) * (roundT R D L G gr s n 1 e way).p⟩).n = 0 := (bareN_nil _).2 hz
    rw [hb] at h2
    exact h0 ((bareN_nil _).1 h2)
  rw [roundT_flat gr s n 1 e way h1 hLG h0 hM, hd, c1, c2, hc] at hdn ⊢
  simp only at hdn ⊢
  rw [if_neg hdn]
  rw [hw] at hdn ⊢
  exact ⟨trivial, rfl, rfl, hdn⟩

end Go.Proofs.YtiiphandhpilgaaDoor
namespace Go.Proofs.YtiiphandhpilgaaDoor
open Go.RowKit
/-- How many bits a digit has. -/
def wdI (R : Int) : Int := if R = 16 then 4 else 1

end Go.Proofs.YtiiphandhpilgaaDoor
namespace Go.Proofs.YtiiphandhpilgaaDoor
open Go.RowKit
theorem wdI_nat (R : Int) : wdI R = (widthN R : Int) := by
  unfold wdI widthN
  split <;> rfl

/-- What is known of the formats' numbers. -/
theorem fmt_fit {k : Nat} (hk : 1 ≤ k ∧ k ≤ 8) : 1 ≤ exN k ∧ 1 ≤ frN k ∧ 1 ≤ dgN k ∧ dgN k ≤ 64 ∧ -16445 ≤ lsI k ∧ lsI k ≤ 0 ∧ lsI k ≤ gsI k ∧ gsI k ≤ 16320 ∧ widthN (rdN k : Int) * dgN k ≤ 64 ∧ widthN (rdN k : Int) ≤ 4 ∧ 1 ≤ widthN (rdN k : Int) ∧ gridC (rdN k : Int) (dgN k : Int) (lsI k) (gsI k) = 0 := by
  rcases eight hk with rfl | rfl | rfl | rfl | rfl | rfl | rfl | rfl <;> exact ⟨by decide, by decide, by decide, by decide, by decide, by decide, by decide, by decide, by decide, by decide, by decide, by decide⟩

theorem dg16_mono {a b : Nat} (h : a ≤ b) : (Dg.dg 65536 a).length ≤ (Dg.dg 65536 b).length := by
  refine Dg.dg_len_le 65536 a _ (by omega) (Nat.lt_of_le_of_lt h ?_)
  have := Dg.vl_lt 65536 (Dg.dg 65536 b) (Dg.small_dg 65536 b (by omega))
  rwa [Dg.vl_dg 65536 b (by omega)] at this

theorem and_lead {d j : Nat} (h : d < 2 ^ (j + 1)) : d &&& 2 ^ j ≠ 0 ↔ bitLen d = j + 1 := by
  have hb := bitLen_le_of d (j + 1) h
  rw [and_bit]
  have hp : 0 < 2 ^ j := Nat.pow_pos (by omega)
  by_cases hc : 2 ^ j ≤ d
  · have h1 : bitLen d = j + 1 := by
      have := (lt_bits d j).1
      have h2 : ¬ bitLen d < j + 1 := fun c => this c hc
      omega
    have ht : d.testBit j = true := by
      rw [Nat.testBit_eq_decide_div_mod_eq]
      have : d / 2 ^ j = 1 := by
        rw [Nat.pow_succ] at h
        have h3 : 1 ≤ d / 2 ^ j := (Nat.le_div_iff_mul_le hp).2 (by omega)
        have h4 : d / 2 ^ j < 2 := (Nat.div_lt_iff_lt_mul hp).2 (by omega)
        omega
      rw [this]
      rfl
    rw [if_pos ht]
    exact ⟨fun _ => h1, fun _ => by omega⟩
  · have h1 : bitLen d < j + 1 := (lt_bits d j).2 hc
    have ht : d.testBit j = false := by
      rw [Nat.testBit_eq_decide_div_mod_eq, Nat.div_eq_of_lt (by omega)]
      rfl
    rw [if_neg (by rw [ht]; simp)]
    exact ⟨fun c => absurd rfl c, fun c => by omega⟩

end Go.Proofs.YtiiphandhpilgaaDoor
namespace Go.Proofs.YtiiphandhpilgaaDoor
open Go.RowKit
theorem turnB_twice {k : Nat} (hk : 1 ≤ k ∧ k ≤ 8) (zs : List Nat) (hl : zs.length = szN k) : turnB k (turnB k zs) = zs := by
  apply List.ext_getElem (by rw [turnB_len, turnB_len])
  intro p hp1 hp2
  have e1 : (turnB k (turnB k zs)).getD p 0 = (turnB k (turnB k zs))[p] := by simp only [List.getD_eq_getElem?_getD, List.getElem?_eq_getElem hp1, Option.getD_some]
  have e2 : zs.getD p 0 = zs[p] := by simp only [List.getD_eq_getElem?_getD, List.getElem?_eq_getElem hp2, Option.getD_some]
  have hp : p < szN k := by omega
  rw [← e1, ← e2, plN_at k _ p (by rw [turnB_len]; exact hl) (by rw [turnB_len]; exact hp2), plN_at k zs _ hl (by rw [hl]; exact plN_lt hk hp), plN_twice hk hp]

theorem bytesOf_strOf (zs : List Nat) (hs : Dg.Small 256 zs) : bytesOf (strOf zs) = zs := by
  unfold bytesOf strOf
  apply List.ext_getElem (by simp)
  intro p hp1 hp2
  have h := hs p
  rw [List.getD_eq_getElem?_getD, List.getElem?_eq_getElem hp2, Option.getD_some] at h
  simp
  exact h

/-- Bit r of n bits. -/
theorem valB_bit (bf : Nat → Bool) : ∀ n r, r < n → valB bf n / 2 ^ (n - 1 - r) % 2 = if bf r then 1 else 0
  | 0, _, h => absurd h (Nat.not_lt_zero _)
  | n + 1, r, h => by
    rw [valB]
    by_cases e : r = n
    · subst e
      rw [show r + 1 - 1 - r = 0 from by omega, Nat.pow_zero, Nat.div_one]
      split <;> omega
    · have ih := valB_bit bf n r (by omega)
      rw [show n + 1 - 1 - r = (n - 1 - r) + 1 from by omega, Nat.pow_succ, Nat.mul_comm (2 ^ (n - 1 - r)) 2, ← Nat.div_div_eq_div_mul]
      rw [show (valB bf n * 2 + if bf n = true then 1 else 0) / 2 = valB bf n from by split <;> omega]
      exact ih

theorem bitB_byL (bf : Nat → Bool) (n i : Nat) (h : i < 8 * n) : bitB (byL bf n) i = if bf i then 1 else 0 := by
  unfold bitB
  rw [byL_at bf n _ (by omega)]
  have := valB_bit (fun j => bf (8 * (i / 8) + j)) 8 (i % 8) (by omega)
  rw [show 8 - 1 - i % 8 = 7 - i % 8 from by omega, show 8 * (i / 8) + i % 8 = i from by omega] at this
  exact this

theorem bitsV_byL (bf : Nat → Bool) (m f : Nat) : ∀ n, f + n ≤ 8 * m → bitsV (byL bf m) f n = valB (fun j => bf (f + j)) n
  | 0, _ => rfl
  | n + 1, h => by
    rw [bitsV, valB, bitsV_byL bf m f n (by omega), bitB_byL bf m (f + n) (by omega)]
    omega

theorem valB_num : ∀ (n e : Nat), valB (fun j => decide (e / 2 ^ (n - 1 - j) % 2 = 1)) n = e % 2 ^ n
  | 0, e => by simp [valB, Nat.mod_one]
  | n + 1, e => by
    rw [valB, valB_congr (g := fun j => decide (e / 2 / 2 ^ (n - 1 - j) % 2 = 1)) n (fun j hj => by
      rw [Nat.div_div_eq_div_mul, ← Nat.pow_succ', show (n - 1 - j).succ = n + 1 - 1 - j from by omega]), valB_num n (e / 2), show n + 1 - 1 - n = 0 from by omega, Nat.pow_zero, Nat.div_one, Nat.pow_succ]
    have h1 : e % (2 ^ n * 2) = e / 2 % 2 ^ n * 2 + e % 2 := by
      rw [Nat.mul_comm (2 ^ n) 2, Nat.mod_mul]
      omega
    rw [h1]
    rcases (show e % 2 = 0 ∨ e % 2 = 1 by omega) with h | h <;> rw [h] <;> rfl

theorem byL_small (bf : Nat → Bool) (n : Nat) : Dg.Small 256 (byL bf n) := by
  intro i
  by_cases h : i < n
  · rw [byL_at bf n i h]
    exact valB_lt _ 8
  · rw [List.getD_eq_getElem?_getD, List.getElem?_eq_none (by rw [byL_len]; omega)]
    simp

theorem fldB_written {k : Nat} (hk : 1 ≤ k ∧ k ≤ 8) (ng : Bool) (e f : Nat) : fldB k (strOf (wrtB k ng e f)) = byL (patF (exN k) (frN k) ng e f) (szN k) := by
  unfold fldB
  rw [wrtB_bits hk, bytesOf_strOf _ (turnB_small k _ (byL_small _ _)), turnB_twice hk _ (byL_len _ _)]

theorem strOf_size (zs : List Nat) : (strOf zs).size = zs.length := by
  unfold strOf
  show (zs.map (fun n => UInt8.ofNat n)).toArray.size = _
  simp

/-- The sign, E and F of what was written. -/
theorem fields_written {k : Nat} (hk : 1 ≤ k ∧ k ≤ 8) (ng : Bool) (e f : Nat) :
    fldN k (strOf (wrtB k ng e f)) = ng ∧ fldE k (strOf (wrtB k ng e f)) = e % 2 ^ exN k ∧ fldF k (strOf (wrtB k ng e f)) = f % 2 ^ frN k ∧ (strOf (wrtB k ng e f)).size = szN k := by
  obtain ⟨h1, h2, h3, h4, -, h7⟩ := sizes_fit hk
  unfold fldN fldE fldF
  rw [fldB_written hk]
  refine ⟨?_, ?_, ?_, ?_⟩
  · rw [bitsV_byL _ _ _ _ (by omega)]
    simp only [valB, patF]
    cases ng <;> simp
  · rw [bitsV_byL _ _ _ _ (by omega), ← valB_num (exN k) e]
    refine valB_congr _ (fun j hj => ?_)
    unfold patF
    rw [if_neg (by omega), if_pos (show 1 + j ≤ exN k by omega), show exN k - (1 + j) = exN k - 1 - j from by omega]
  · rw [bitsV_byL _ _ _ _ (by omega), ← valB_num (frN k) f]
    refine valB_congr _ (fun j hj => ?_)
    unfold patF
    rw [if_neg (by omega), if_neg (show ¬ 1 + exN k + j ≤ exN k by omega), show exN k + frN k - (1 + exN k + j) = frN k - 1 - j from by omega]
  · rw [strOf_size, wrtB_len]
end Go.Proofs.YtiiphandhpilgaaDoor
namespace Go.Proofs.YtiiphandhpilgaaDoor
open Go.RowKit
theorem heE_two {L : Int} {j : Nat} {t : PlaceT} (hlt : t.d < 2 ^ (j + 1)) : heE 2 L (2 ^ j) t = (t.p - L).toNat + if 2 ^ j ≤ t.d then 1 else 0 := by
  have h := and_lead hlt
  have hb := lt_bits t.d j
  have hle := bitLen_le_of t.d (j + 1) hlt
  unfold heE
  by_cases hc : 2 ^ j ≤ t.d
  · have h1 : ¬ bitLen t.d < j + 1 := fun c => (hb.1 c) hc
    rw [if_pos ⟨rfl, h.2 (by omega)⟩, if_pos hc]
  · have h1 := hb.2 hc
    rw [if_neg (fun c => by have := h.1 c.2; omega), if_neg hc]

theorem heE_hex {L : Int} {ld : Nat} {t : PlaceT} : heE 16 L ld t = (t.p - L).toNat := by
  unfold heE
  rw [if_neg (fun c => by have := c.1; omega), Nat.add_zero]

theorem or_lead {f n : Nat} (h : f < 2 ^ n) : f ||| 2 ^ n = f + 2 ^ n := by
  have := Nat.two_pow_add_eq_or_of_lt h 1
  rw [Nat.mul_one] at this
  rw [Nat.or_comm, ← this, Nat.add_comm]

theorem or_high {f n : Nat} (h1 : 2 ^ n ≤ f) (h2 : f < 2 ^ (n + 1)) : f ||| 2 ^ n = f := by
  obtain ⟨r, rfl⟩ : ∃ r, f = r + 2 ^ n := ⟨f - 2 ^ n, by omega⟩
  have hr : r < 2 ^ n := by rw [Nat.pow_succ] at h2; omega
  rw [← or_lead hr, Nat.or_assoc, Nat.or_self]

theorem mod_lead {d n : Nat} (h1 : 2 ^ n ≤ d) (h2 : d < 2 ^ (n + 1)) : d % 2 ^ n = d - 2 ^ n := by
  rw [Nat.pow_succ] at h2
  rw [Nat.mod_eq_sub_mod h1, Nat.mod_eq_of_lt (by omega)]

/-- A spot of a format's grid that is written: what stands in the fields is read as it was. -/
theorem spot_fields {k : Nat} (hk : 1 ≤ k ∧ k ≤ 8) (ng : Bool) (t : PlaceT) (h1 : lsI k ≤ t.p) (h2 : t.p ≤ gsI k) (h0 : t.d ≠ 0) (hlt : t.d < 2 ^ (widthN (rdN k : Int) * dgN k)) (hf : 2 ^ (widthN (rdN k : Int) * (dgN k - 1)) ≤ t.d ∨ (k ≤ 3 ∧ t.p = lsI k)) :
    heE (rdN k : Int) (lsI k) (leadN k) t < 2 ^ exN k ∧ clsN k ng (heE (rdN k : Int) (lsI k) (leadN k) t) (t.d % 2 ^ frN k) = 2 ∧ plcN k (heE (rdN k : Int) (lsI k) (leadN k) t) (t.d % 2 ^ frN k) = t.d ∧ plcP k (heE (rdN k : Int) (lsI k) (leadN k) t) = t.p := by
  have hex : (k = 4 ∨ k = 5) ∨ k = 3 ∨ (k = 1 ∨ k = 2) ∨ (k = 6 ∨ k = 7 ∨ k = 8) := by omega
  rcases hex with hx | hx | hx | hx
  · have hR : (rdN k : Int) = 16 := by rcases hx with rfl | rfl <;> rfl
    have hfr : widthN (rdN k : Int) * dgN k = frN k := by rcases hx with rfl | rfl <;> decide
    have hrd : rdN k = 16 := by rcases hx with rfl | rfl <;> rfl
    have hgl : gsI k - lsI k < 128 ∧ 2 ^ exN k = 128 := by rcases hx with rfl | rfl <;> decide
    rw [hfr] at hlt
    rw [hR, heE_hex, Nat.mod_eq_of_lt hlt]
    refine ⟨by omega, ?_, ?_, ?_⟩
    · unfold clsN
      rw [if_neg (by omega), if_pos (by omega), if_neg h0]
    · unfold plcN
      rw [if_pos hrd]
    · unfold plcP
      rw [if_pos hrd]
      omega
  · subst hx
    have hw : widthN ((rdN 3 : Nat) : Int) = 1 := rfl
    rw [hw, Nat.one_mul] at hlt hf
    have hlt' : t.d < 2 ^ (63 + 1) := hlt
    have hf' : 2 ^ 63 ≤ t.d ∨ (3 ≤ 3 ∧ t.p = lsI 3) := hf
    have hh : heE ((rdN 3 : Nat) : Int) (lsI 3) (leadN 3) t = (t.p - lsI 3).toNat + if 2 ^ 63 ≤ t.d then 1 else 0 := heE_two (L := lsI 3) (j := 63) hlt'
    have hm : t.d % 2 ^ frN 3 = t.d := Nat.mod_eq_of_lt hlt'
    have hl3 : lsI 3 = -16445 := rfl
    have hg3 : gsI 3 = 16320 := rfl
    have he3 : 2 ^ exN 3 = 32768 := rfl
    have ho3 : onesN 3 = 32767 := rfl
    rw [hh, hm]
    by_cases hc : 2 ^ 63 ≤ t.d
    · rw [if_pos hc]
      refine ⟨by omega, ?_, ?_, ?_⟩
      · unfold clsN
        rw [if_pos (by omega), if_neg (by omega), if_neg (by omega), if_neg (fun c => by have := c.2; omega)]
      · unfold plcN
        rw [if_neg (by decide), if_neg (by omega)]
        exact or_high hc hlt'
      · unfold plcP
        rw [if_neg (by decide), if_neg (by omega)]
        omega
    · have hp := (hf'.resolve_left hc).2
      rw [if_neg hc, hp]
      have hz : (lsI 3 - lsI 3).toNat + 0 = 0 := by omega
      rw [hz]
      refine ⟨by omega, ?_, ?_, ?_⟩
      · unfold clsN
        rw [if_pos (by omega), if_pos rfl, if_neg h0]
      · unfold plcN
        rw [if_neg (by decide), if_pos rfl]
      · unfold plcP
        rw [if_neg (by decide), if_pos rfl]
  · have hR : (rdN k : Int) = 2 := by rcases hx with rfl | rfl <;> rfl
    have hrd : ¬ rdN k = 16 := by rcases hx with rfl | rfl <;> decide
    have hw : widthN (rdN k : Int) = 1 := by rw [hR]; rfl
    have hfr : dgN k = frN k + 1 := by rcases hx with rfl | rfl <;> decide
    have hld : leadN k = 2 ^ frN k := by rcases hx with rfl | rfl <;> rfl
    have hgl : gsI k - lsI k + 1 < (onesN k : Int) ∧ 2 ^ exN k = onesN k + 1 := by rcases hx with rfl | rfl <;> decide
    rw [hw, Nat.one_mul, hfr] at hlt hf
    rw [Nat.add_sub_cancel] at hf
    rw [hR, hld, heE_two hlt]
    by_cases hc : 2 ^ frN k ≤ t.d
    · rw [if_pos hc, mod_lead hc hlt]
      have hr : t.d - 2 ^ frN k < 2 ^ frN k := by rw [Nat.pow_succ] at hlt; omega
      refine ⟨by omega, ?_, ?_, ?_⟩
      · unfold clsN
        rw [if_pos (by omega), if_neg (by omega), if_neg (by omega), if_neg (fun c => by have := c.1; omega)]
      · unfold plcN
        rw [if_neg hrd, if_neg (by omega), hld, or_lead hr]
        omega
      · unfold plcP
        rw [if_neg hrd, if_neg (by omega)]
        omega
    · have hp := (hf.resolve_left hc).2
      rw [if_neg hc, hp, Nat.mod_eq_of_lt (by omega)]
      have hz : (lsI k - lsI k).toNat + 0 = 0 := by omega
      rw [hz]
      refine ⟨by omega, ?_, ?_, ?_⟩
      · unfold clsN
        rw [if_pos (by omega), if_pos rfl, if_neg h0]
      · unfold plcN
        rw [if_neg hrd, if_pos rfl]
      · unfold plcP
        rw [if_neg hrd, if_pos rfl]
  · have hR : (rdN k : Int) = 2 := by rcases hx with rfl | rfl | rfl <;> rfl
    have hrd : ¬ rdN k = 16 := by rcases hx with rfl | rfl | rfl <;> decide
    have hw : widthN (rdN k : Int) = 1 := by rw [hR]; rfl
    have hfr : dgN k = frN k + 1 := by rcases hx with rfl | rfl | rfl <;> decide
    have hld : leadN k = 2 ^ frN k := by rcases hx with rfl | rfl | rfl <;> rfl
    have hgl : gsI k - lsI k + 1 < (2 ^ exN k : Nat) := by rcases hx with rfl | rfl | rfl <;> decide
    rw [hw, Nat.one_mul, hfr] at hlt hf
    rw [Nat.add_sub_cancel] at hf
    have hc : 2 ^ frN k ≤ t.d := hf.resolve_right (fun c => by have := c.1; omega)
    rw [hR, hld, heE_two hlt, if_pos hc, mod_lead hc hlt]
    have hr : t.d - 2 ^ frN k < 2 ^ frN k := by rw [Nat.pow_succ] at hlt; omega
    refine ⟨by omega, ?_, ?_, ?_⟩
    · unfold clsN
      rw [if_neg (by omega), if_neg (by omega), if_neg (by omega)]
    · unfold plcN
      rw [if_neg hrd, if_neg (by omega), hld, or_lead hr]
      omega
    · unfold plcP
      rw [if_neg hrd, if_neg (by omega)]
      omega
end Go.Proofs.YtiiphandhpilgaaDoor
namespace Go.Proofs.YtiiphandhpilgaaDoor
open Go.RowKit
/-- Two patterns. -/
def patA : ByteArray := strOf [64, 64, 0, 0]
def patB : ByteArray := strOf [0, 128, 0, 0]

theorem patA_ok : patC 1 patA = 0 ∧ decC 1 patA = 2 ∧ decG 1 patA = false ∧ decM 1 patA = 3 ∧ decP 1 patA = 0 := by
  refine ⟨?_, ?_, ?_, ?_, ?_⟩ <;> kernel_rfl

theorem patB_ok : encOE 6 5 0 0 false 0 = 0 ∧ encOS 6 5 0 0 false 0 = patB := by
  refine ⟨?_, ?_⟩ <;> kernel_rfl

theorem dg3 : Dg.dg 4294967296 3 = [3] := by
  have := Dg.dg_vl 4294967296 (by omega) [3] (fun i => by
    match i with
    | 0 => decide
    | i + 1 => simp) (fun _ => by simp)
  simpa [Dg.vl] using this

theorem made_run {P : Program} (W : World) (e src dst : TypeId) (zs : List Nat) (hs : P.underlying src = some (.slice e)) (he : P.underlying e = some (.int .u8)) (hd : P.underlying dst = some .string) (hm : zs.length ≤ maxLen) :
    (convert src dst (.slice (some ⟨W.heap.size, 0, none⟩) zs.length zs.length)).run P (W.alloc (.cells (zs.map (fun n : Nat => Value.int .u8 (n : Int))).toArray e)) = .ok (.string (strOf zs)) (W.alloc (.cells (zs.map (fun n : Nat => Value.int .u8 (n : Int))).toArray e)) :=
  convert_bytes src dst hs he hd (own_of_heap (base := W.heap.size) (heap_alloc_new _ _) (Nat.le_refl _) hm)

set_option maxRecDepth 100000 in
set_option maxHeartbeats 6400000 in
theorem codecBegun_any (w : World) : Calls Tryd.prog 4 #[] w fun z w' => z = .returned (.bool true) ∧ Below w.heap.size w w' := by
  have hcA : ∀ W : World, (convert 36 9 (.slice (some ⟨W.heap.size, 0, none⟩) 4 4)).run Tryd.prog (W.alloc (.cells #[.int .u8 64, .int .u8 64, .int .u8 0, .int .u8 0] 5)) = .ok (.string patA) (W.alloc (.cells #[.int .u8 64, .int .u8 64, .int .u8 0, .int .u8 0] 5)) := fun W => made_run W 5 36 9 [64, 64, 0, 0] Tryd.underlying36 Tryd.underlying5 Tryd.underlying9 (by unfold maxLen; simp)
  have hcB : ∀ W : World, (convert 36 9 (.slice (some ⟨W.heap.size, 0, none⟩) 4 4)).run Tryd.prog (W.alloc (.cells #[.int .u8 0, .int .u8 128, .int .u8 0, .int .u8 0] 5)) = .ok (.string patB) (W.alloc (.cells #[.int .u8 0, .int .u8 128, .int .u8 0, .int .u8 0] 5)) := fun W => made_run W 5 36 9 [0, 128, 0, 0] Tryd.underlying36 Tryd.underlying5 Tryd.underlying9 (by unfold maxLen; simp)
  have HD : Hid (∀ w1, Calls Tryd.prog 6 #[.int .i64 1, .string patA] w1 (DecRes w1 2 false 3 0 0)) := fun w1 => by
    have := decode_any 1 patA w1
    obtain ⟨h1, h2, h3, h4, h5⟩ := patA_ok
    rw [h1, h2, h3, h4, h5] at this
    exact this
  have HE : Hid (∀ w1, Calls Tryd.prog 5 #[.int .i64 6, .agg #[.int .i64 5, .bool false, .slice none 0 0, .int .i64 0]] w1 fun z w' => z = .returned (.tuple #[.string patB, .int .i64 0]) ∧ Below w1.heap.size w1 w') := fun w1 => by
    have := encode_other 6 5 (by omega) false none 0 0 0 0 w1 (fun w2 _ => (check_any _ [] w2 (rd_nil _ _)).mono (fun _ _ h => ⟨h.1, by rw [h.2]; exact Below.refl _ _⟩))
    rw [patB_ok.1, patB_ok.2] at this
    exact this
  generalize patA = pA at *
  generalize patB = pB at *
  have b1 := below_alloc w (.cells #[.int .u8 64, .int .u8 64, .int .u8 0, .int .u8 0] 5)
  go_enter Tryd.func4, Tryd.ntmps4
  go_wp2_with fail
  refine (HD.out _).mono ?_
  rintro z w2 ⟨v, rfl, r2, b2⟩
  rw [dg3] at r2
  obtain ⟨vo, vc, hv⟩ := r2.shape
  subst hv
  have b3 := below_alloc w2 (.cells #[.int .i64 2, .bool false, .slice vo 1 vc, .int .i64 0] 25)
  have q3 := locE_new w2 [.int .i64 2, .bool false, .slice vo 1 vc, .int .i64 0] 25
  have b03 := below_trans (below_trans b1 b2) b3
  have r3 := r2.later b3
  go_wp2_with fail
  refine (HE.out _).mono ?_
  rintro z w4 ⟨rfl, b4⟩
  have q4 := q3.later b4
  have r4 := r3.later b4
  have b04 := below_trans b03 b4
  have x0 := q4.cell 0 rfl
  have x1 := q4.cell 1 rfl
  have x2 := q4.cell 2 rfl
  have x3 := q4.cell 3 rfl
  have b5 := below_alloc w4 (.cells #[.int .u32 3] 38)
  have own5 : Own (w4.alloc (.cells #[.int .u32 3] 38)) w4.heap.size 38 .u32 (.slice (some ⟨w4.heap.size, 0, none⟩) 1 1) [3] := own_of_heap (zs := [3]) (heap_alloc_new _ _) (Nat.le_refl _) (by unfold maxLen; simp)
  have hsn := same_any _ _ _ [3] (w4.alloc (.cells #[.int .u32 3] 38)) (r4.later b5) own5.rd
  have HN : Hid _ := hsn
  have b05 := below_trans b04 b5
  have hx0 := World.new_ne w4 _ x0
  clear b1 b2 b3 b03 r2 r3 q3 HD HE hsn r4 b4 b04 own5
  go_wp2_with fail
  refine Calls.mono HN.out ?_
  rintro z w6 ⟨rfl, b6⟩
  have y3 := (q4.later b5).later b6 |>.cell 3 rfl
  have b06 := below_trans b05 b6
  go_wp2
  go_ret
  exact ⟨rfl, below_trans b06 (below_alloc _ _)⟩
end Go.Proofs.YtiiphandhpilgaaDoor
namespace Go.Proofs.YtiiphandhpilgaaDoor
open Go.RowKit
def refT (k : Nat) (ng : Bool) (E FF : Nat) : Trip :=
  if k = 3 then (if E + 1 = 2 ^ exN k ∨ 0 < E ∧ FF < 2 ^ (dgN k - 1) then ⟨false, 0, 0⟩ else bare ⟨ng, FF, wdI (rdN k : Int) * (lsI k + (((E - 1 : Nat) : Nat) : Int))⟩)
  else if k ≤ 2 then (if E + 1 = 2 ^ exN k then ⟨false, 0, 0⟩ else bare ⟨ng, FF + (if 0 < E then 2 ^ (dgN k - 1) else 0), wdI (rdN k : Int) * (lsI k + (((E - 1 : Nat) : Nat) : Int))⟩)
  else if k ≤ 5 then bare ⟨ng, FF, wdI (rdN k : Int) * (lsI k + (E : Int))⟩
  else (if E = 0 then ⟨false, 0, 0⟩ else bare ⟨ng, FF + 2 ^ (dgN k - 1), wdI (rdN k : Int) * (lsI k + (E : Int) - 1)⟩)

end Go.Proofs.YtiiphandhpilgaaDoor

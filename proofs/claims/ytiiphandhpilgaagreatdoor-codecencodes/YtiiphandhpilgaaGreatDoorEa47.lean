/-
  Texts laid together: Ce11, Em1, Cr4, Df1.
-/
import Derived.Test.YtiiphandhpilgaaGreatDoorEa31
import Derived.Test.YtiiphandhpilgaaGreatDoorEa35
import Derived.Test.YtiiphandhpilgaaGreatDoorEa42
import Derived.Test.YtiiphandhpilgaaGreatDoorEa43
import Derived.Test.YtiiphandhpilgaaGreatDoorEa46
import Derived.Test.YtiiphandhpilgaaGreatDoorEa21
import Derived.Test.YtiiphandhpilgaaGreatDoorEa26
import Derived.Test.YtiiphandhpilgaaGreatDoorEa23
import Derived.Test.YtiiphandhpilgaaGreatDoorEa25
import Derived.Test.YtiiphandhpilgaaGreatDoorEa40
namespace Go.Proofs.YtiiphandhpilgaaGreatDoor
open Go.RowKit
theorem en_short {c : Int} {t r : Trip} (h : dbothR c t = (r, 0)) : r = bare t ∧ dchk (Dg.dg 4294967296 r.n) r.e = 0 := by
  unfold dbothR at h
  by_cases h0 : c = 0
  · rw [if_pos h0] at h
    unfold shortT at h
    by_cases h1 : 1200 < (Dg.dg 4294967296 (bare t).n).length
    · rw [if_pos h1] at h
      simp at h
    · rw [if_neg h1] at h
      by_cases h2 : (bare t).e < -20000 ∨ 20000 < (bare t).e
      · rw [if_pos h2] at h
        simp at h
      · rw [if_neg h2] at h
        simp only [Prod.mk.injEq, and_true] at h
        subst h
        have hn := Dg.norm_dg 4294967296 (bare t).n (by omega)
        refine ⟨rfl, ?_⟩
        unfold dchk
        rw [if_pos (chk_of hn (by omega)), if_neg h2]
  · rw [if_neg h0] at h
    simp only [Prod.mk.injEq] at h
    exact absurd h.2 h0

/-- The number of a value, and what is wrong with it. -/
def enN (k : Nat) (ng : Bool) (xs : List Nat) (p : Int) : Trip × Int :=
  dbothR (placeC xs p (rdN k : Int) (dgN k : Int) (lsI k) (gsI k)) ⟨ng, Dg.vl 4294967296 xs, (widthN (rdN k : Int) : Int) * p⟩

/-- Does the grid of a format hold it? -/
def enH (k : Nat) (t : Trip) : Bool := ansH (Dg.dg 4294967296 t.n) t.e (rdN k : Int) (dgN k : Int) (lsI k) (gsI k) (decide (k ≤ 3))

/-- What encodeNumber answers. -/
def enE (k : Nat) (ng : Bool) (xs : List Nat) (p : Int) : Int :=
  if p < -20000 ∨ 20000 < p then 3 else if xs.length = 0 then 4 else if (enN k ng xs p).2 = 0 ∧ enH k (enN k ng xs p).1 = true then 0 else 4
def enS (k : Nat) (ng : Bool) (xs : List Nat) (p : Int) : ByteArray :=
  if enE k ng xs p = 0 then strOf (wrtB k (plT k (enN k ng xs p).1.s (enN k ng xs p).1.n (enN k ng xs p).1.e).s (heE (rdN k : Int) (lsI k) (leadN k) (plT k (enN k ng xs p).1.s (enN k ng xs p).1.n (enN k ng xs p).1.e)) (plT k (enN k ng xs p).1.s (enN k ng xs p).1.n (enN k ng xs p).1.e).d) else ⟨#[]⟩

set_option maxHeartbeats 1600000 in
theorem encodeNumber_any (k : Nat) (hk : 1 ≤ k ∧ k ≤ 8) (ng : Bool) (ao : Option Addr) (ca : Nat) (xs : List Nat) (p : Int) (w : World) (hr : Rd w .u32 (.slice ao xs.length ca) xs) (sa : Dg.Small 4294967296 xs) (hc : chk xs = 0) (hT : Tab w) :
    Calls Tryz.prog 22 #[.agg (layV k).toArray, .agg #[.int .i64 2, .bool ng, .slice ao xs.length ca, .int .i64 p]] w fun z w' => z = .returned (.tuple #[.string (enS k ng xs p), .int .i64 (enE k ng xs p)]) ∧ Below w.heap.size w w' := by
  have key : ∀ er, enE k ng xs p = er → enS k ng xs p = if er = 0 then strOf (wrtB k (plT k (enN k ng xs p).1.s (enN k ng xs p).1.n (enN k ng xs p).1.e).s (heE (rdN k : Int) (lsI k) (leadN k) (plT k (enN k ng xs p).1.s (enN k ng xs p).1.n (enN k ng xs p).1.e)) (plT k (enN k ng xs p).1.s (enN k ng xs p).1.n (enN k ng xs p).1.e).d) else ⟨#[]⟩ := fun er h => by unfold enS; rw [h]
  by_cases hp : p < -20000 ∨ 20000 < p
  · have hE : enE k ng xs p = 3 := if_pos hp
    rw [key 3 hE, hE, if_neg (by omega)]
    rcases hp with hp | hp
    · rcases eight hk with rfl | rfl | rfl | rfl | rfl | rfl | rfl | rfl
      all_goals exact encNum_low _ _ _ _ _ _ _ _ _ 2 p ng ao xs.length ca w hp
    · rcases eight hk with rfl | rfl | rfl | rfl | rfl | rfl | rfl | rfl
      all_goals exact encNum_high _ _ _ _ _ _ _ _ _ 2 p ng ao xs.length ca w hp
  · have hp1 : -20000 ≤ p := by omega
    have hp2 : p ≤ 20000 := by omega
    by_cases hl : xs.length = 0
    · have hE : enE k ng xs p = 4 := by unfold enE; rw [if_neg hp, if_pos hl]
      rw [key 4 hE, hE, if_neg (by omega)]
      rcases eight hk with rfl | rfl | rfl | rfl | rfl | rfl | rfl | rfl
      all_goals exact encNum_empty _ _ _ _ _ _ _ _ _ 2 p ng ao xs.length ca w hp1 hp2 hl
    · have hnx : Dg.vl 4294967296 xs ≠ 0 := fun h => by
        obtain ⟨n1, -⟩ := chk_zero hc
        exact Dg.vl_ne_zero 4294967296 (by omega) xs (by intro e; subst e; simp at hl) n1 h
      have HN1 := fun w1 (b : Below w.heap.size w w1) => gNumber_any (rdN k : Int) (dgN k : Int) (lsI k) (gsI k) (decide (k ≤ 3)) ng ao ca xs p false false false w1 (hr.later b) sa (hT.later b)
      have hen : dbothR (placeC xs p (rdN k : Int) (dgN k : Int) (lsI k) (gsI k)) ⟨ng, Dg.vl 4294967296 xs, (widthN (rdN k : Int) : Int) * p⟩ = enN k ng xs p := rfl
      rw [hen] at HN1
      have hE : enE k ng xs p = if (enN k ng xs p).2 = 0 ∧ enH k (enN k ng xs p).1 = true then 0 else 4 := by unfold enE; rw [if_neg hp, if_neg hl]
      have hfact : (enN k ng xs p).2 = 0 → (enN k ng xs p).1.n ≠ 0 ∧ dchk (Dg.dg 4294967296 (enN k ng xs p).1.n) (enN k ng xs p).1.e = 0 := fun h => by
        have h2 := en_short (show dbothR (placeC xs p (rdN k : Int) (dgN k : Int) (lsI k) (gsI k)) ⟨ng, Dg.vl 4294967296 xs, (widthN (rdN k : Int) : Int) * p⟩ = ((enN k ng xs p).1, 0) from by rw [hen]; exact Prod.ext rfl h)
        obtain ⟨h3, h4⟩ := h2
        refine ⟨fun h5 => ?_, h4⟩
        rw [h3] at h5
        exact hnx ((bareN_nil ⟨ng, Dg.vl 4294967296 xs, (widthN (rdN k : Int) : Int) * p⟩).1 h5)
      clear hen
      generalize enN k ng xs p = r at *
      obtain ⟨t, er⟩ := r
      simp only at hE hfact key HN1 ⊢
      have HN : ∀ w1, Below w.heap.size w w1 → Calls Tryz.prog 39 #[.agg (layV k).toArray, .agg #[.int .i64 2, .bool ng, .slice ao xs.length ca, .int .i64 p]] w1 (DAns w1 (t, er)) := fun w1 b => by
        rcases eight hk with rfl | rfl | rfl | rfl | rfl | rfl | rfl | rfl
        all_goals exact lnumber_W _ _ _ _ _ _ _ _ _ 2 p ng ao xs.length ca (t, er) w1 (fun w2 b2 => HN1 w2 (below_trans b b2))
      by_cases her : er = 0
      · obtain ⟨hn0, hdc⟩ := hfact her
        have sm := Dg.small_dg 4294967296 t.n (by omega)
        have HH := fun so sc w1 (b : Below w.heap.size w w1) (h : Rd w1 .u32 (.slice so (Dg.dg 4294967296 t.n).length sc) (Dg.dg 4294967296 t.n)) => gHolds_any (rdN k : Int) (dgN k : Int) (lsI k) (gsI k) (decide (k ≤ 3)) t.s so sc (Dg.dg 4294967296 t.n) t.e w1 h sm (hT.later b)
        have hgr : gridC (rdN k : Int) (dgN k : Int) (lsI k) (gsI k) = 0 := by
          rcases eight hk with rfl | rfl | rfl | rfl | rfl | rfl | rfl | rfl <;> decide
        have hon : onC (dchk (Dg.dg 4294967296 t.n) t.e) (gridC (rdN k : Int) (dgN k : Int) (lsI k) (gsI k)) = 0 := by unfold onC; rw [if_pos hdc]; exact hgr
        rw [hon] at HH
        by_cases hq : enH k t = true
        · rw [if_pos ⟨her, hq⟩] at hE
          rw [key 0 hE, hE, if_pos rfl]
          have hq' : ansH (Dg.dg 4294967296 t.n) t.e (rdN k : Int) (dgN k : Int) (lsI k) (gsI k) (decide (k ≤ 3)) = true := hq
          have hheld : heldB (rdN k : Int) (dgN k : Int) (lsI k) (gsI k) (decide (k ≤ 3)) (Dg.vl 4294967296 (Dg.dg 4294967296 t.n)) t.e = true := by
            have h := hq'
            unfold ansH at h
            rw [if_pos hon] at h
            exact h
          have HE := fun so sc w1 (_b : Below w.heap.size w w1) (h : Rd w1 .u32 (.slice so (Dg.dg 4294967296 t.n).length sc) (Dg.dg 4294967296 t.n)) => encodeHeld_any k hk t.s so sc (Dg.dg 4294967296 t.n) t.e w1 h sm hdc (by rw [Dg.vl_dg 4294967296 t.n (by omega)]; exact hn0) hheld
          rw [Dg.vl_dg 4294967296 t.n (by omega)] at HE
          rw [hq'] at HH
          generalize strOf (wrtB k (plT k t.s t.n t.e).s (heE (rdN k : Int) (lsI k) (leadN k) (plT k t.s t.n t.e)) (plT k t.s t.n t.e).d) = st at *
          rcases eight hk with rfl | rfl | rfl | rfl | rfl | rfl | rfl | rfl
          all_goals exact encNum_held _ _ _ _ _ _ _ _ _ 2 p ng ao xs.length ca w t er HN true 0 HH st 0 HE hp1 hp2 (by omega) her rfl rfl
        · have hqf : ansH (Dg.dg 4294967296 t.n) t.e (rdN k : Int) (dgN k : Int) (lsI k) (gsI k) (decide (k ≤ 3)) = false := by
            have : enH k t = false := by simpa using hq
            exact this
          rw [if_neg (fun h => hq h.2)] at hE
          rw [key 4 hE, hE, if_neg (by omega)]
          rw [hqf] at HH
          rcases eight hk with rfl | rfl | rfl | rfl | rfl | rfl | rfl | rfl
          all_goals exact encNum_off0 _ _ _ _ _ _ _ _ _ 2 p ng ao xs.length ca w t er HN false 0 HH hp1 hp2 (by omega) her rfl rfl
      · rw [if_neg (fun h => her h.1)] at hE
        rw [key 4 hE, hE, if_neg (by omega)]
        rcases eight hk with rfl | rfl | rfl | rfl | rfl | rfl | rfl | rfl
        all_goals exact encNum_far _ _ _ _ _ _ _ _ _ 2 p ng ao xs.length ca w t er HN hp1 hp2 (by omega) her
end Go.Proofs.YtiiphandhpilgaaGreatDoor
namespace Go.Proofs.YtiiphandhpilgaaGreatDoor
open Go.RowKit
theorem bnL_at (a many i : Nat) (h : i < many) : (bnL a many).getD i false = decide (a / 2 ^ (many - 1 - i) % 2 = 1) := by
  simp [bnL, List.getD_eq_getElem?_getD, h]

/-- The bits of a sign, of E and of F in a row. -/
theorem pat_row (ex fr e f : Nat) (ng : Bool) (i : Nat) (h : i < 1 + ex + fr) : ((ng :: bnL e ex) ++ bnL f fr).getD i false = patF ex fr ng e f i := by
  unfold patF
  by_cases h0 : i = 0
  · subst h0
    rfl
  · rw [if_neg h0]
    obtain ⟨j, rfl⟩ : ∃ j, i = j + 1 := ⟨i - 1, by omega⟩
    rw [List.cons_append, List.getD_cons_succ]
    by_cases hx : j + 1 ≤ ex
    · rw [if_pos hx, List.getD_eq_getElem?_getD, List.getElem?_append_left (by rw [bnL_len]; omega), ← List.getD_eq_getElem?_getD, bnL_at _ _ _ (by omega), show ex - 1 - j = ex - (j + 1) from by omega]
    · rw [if_neg hx, List.getD_eq_getElem?_getD, List.getElem?_append_right (by rw [bnL_len]; omega), ← List.getD_eq_getElem?_getD, bnL_len, bnL_at _ _ _ (by omega), show fr - 1 - (j - ex) = ex + fr - (j + 1) from by omega]

theorem bit_less {f p j : Nat} (h : 2 ^ p ≤ f) (hj : j < p) : (f - 2 ^ p) / 2 ^ j % 2 = f / 2 ^ j % 2 := by
  obtain ⟨r, rfl⟩ : ∃ r, f = r + 2 ^ p := ⟨f - 2 ^ p, by omega⟩
  obtain ⟨q, rfl⟩ : ∃ q, p = j + 1 + q := ⟨p - j - 1, by omega⟩
  rw [Nat.add_sub_cancel, show 2 ^ (j + 1 + q) = 2 ^ j * (2 * 2 ^ q) from by rw [Nat.pow_add, Nat.pow_succ, Nat.mul_assoc], Nat.add_mul_div_left _ _ (Nat.pow_pos (by omega)), Nat.add_mul_mod_self_left]

/-- The leading digit is not written where F has no room for it. -/
theorem wrtB_less {k : Nat} (hk : 1 ≤ k ∧ k ≤ 8) (ng : Bool) (e f : Nat) (h : 2 ^ frN k ≤ f) : wrtB k ng e (f - 2 ^ frN k) = wrtB k ng e f := by
  obtain ⟨h1, h2, h3, h4, -, h7⟩ := sizes_fit hk
  rw [wrtB_bits hk, wrtB_bits hk]
  congr 1
  refine byL_congr _ (fun i hi => ?_)
  unfold patF
  by_cases h0 : i = 0
  · rw [if_pos h0, if_pos h0]
  · rw [if_neg h0, if_neg h0]
    by_cases hx : i ≤ exN k
    · rw [if_pos hx, if_pos hx]
    · rw [if_neg hx, if_neg hx, bit_less h (by omega)]

theorem parts_one (n : Nat) (x : Int) : numP n x / denP 1 x = shN n x := by
  unfold numP denP shN
  by_cases h : x < 0
  · rw [if_pos h, if_pos h, if_pos h, Nat.one_mul]
  · rw [if_neg h, if_neg h, if_neg h, Nat.div_one]

/-- The place of a number that the grid holds. -/
theorem held_place {R D L G : Int} {gr s : Bool} {n : Nat} {e way : Int} (h1 : 1 ≤ D) (hLG : L ≤ G) (h0 : n ≠ 0) (hh : heldB R D L G gr n e = true) :
    (roundT R D L G gr s n 1 e way).s = s ∧ (roundT R D L G gr s n 1 e way).d = shN n (e - (widthN R : Int) * spotK R D L gr n e) ∧ (roundT R D L G gr s n 1 e way).p = spotK R D L gr n e ∧ shN n (e - (widthN R : Int) * spotK R D L gr n e) ≠ 0 := by
  have hM : (1 : Nat) ≠ 0 := by omega
  have hb := (held_round (s := s) (way := way) h1 hLG h0 hh).2.2
  have hs : L ≤ spotK R D L gr n e ∧ spotK R D L gr n e ≤ G ∧ (widthN R : Int) * spotK R D L gr n e ≤ e + (tz n : Int) := by
    unfold heldB at hh
    rcases of_decide_eq_true hh with h | h
    · exact absurd h h0
    · exact h
  have hc : cutP R D L gr n 1 e = spotK R D L gr n e := by
    unfold cutP spotK
    rw [topQ_one h0]
  obtain ⟨p1, -⟩ := one_parts s n e ((widthN R : Int) * spotK R D L gr n e) hs.2.2
  have hl : leftP R D L gr n 1 e = 0 := by
    unfold leftP shP
    rw [hc]
    exact p1
  have hd : digP R D L gr s n 1 e way = wholeP R D L gr n 1 e := by
    unfold digP
    rw [if_neg]
    rintro ⟨c, -⟩
    exact of_decide_eq_false c hl
  obtain ⟨c1, c2⟩ := dig_short R D L gr n 1 e h1 h0 hM (cutP R D L gr n 1 e)
  have hw : wholeP R D L gr n 1 e = shN n (e - (widthN R : Int) * spotK R D L gr n e) := by
    unfold wholeP shP
    rw [hc, parts_one]
  have hdn : (roundT R D L G gr s n 1 e way).d ≠ 0 := fun hz => by
    have h2 : (bare ⟨(roundT R D L G gr s n 1 e way).s, (roundT R D L G gr s n 1 e way).d, (widthN R : Int) * (roundT R D L G gr s n 1 e way).p⟩).n = 0 := (bareN_nil _).2 hz
    rw [hb] at h2
    exact h0 ((bareN_nil _).1 h2)
  rw [roundT_flat gr s n 1 e way h1 hLG h0 hM, hd, c1, c2, hc] at hdn ⊢
  simp only at hdn ⊢
  rw [if_neg hdn]
  rw [hw] at hdn ⊢
  exact ⟨trivial, rfl, rfl, hdn⟩

/-- The power of a number that the grid holds, as the reference reckons it. -/
theorem held_power {R D L G : Int} {gr : Bool} {n : Nat} {e : Int} (h0 : n ≠ 0) (hh : heldB R D L G gr n e = true) : spotK R D L gr n e = max L (powerR R D (e + (bitLen n : Int) - 1)) := by
  have hs : L ≤ spotK R D L gr n e := by
    unfold heldB at hh
    rcases of_decide_eq_true hh with h | h
    · exact absurd h h0
    · exact h.1
  have he : (bitLen n : Int) - 1 + e = e + (bitLen n : Int) - 1 := by omega
  unfold spotK at hs ⊢
  rw [he] at hs ⊢
  by_cases hc : (decide (powerR R D (e + (bitLen n : Int) - 1) < L) && gr) = true
  · rw [if_pos hc]
    have := of_decide_eq_true (Bool.and_eq_true_iff.1 hc).1
    rw [Int.max_eq_left (by omega)]
  · rw [if_neg hc] at hs ⊢
    rw [Int.max_eq_right hs]
end Go.Proofs.YtiiphandhpilgaaGreatDoor
namespace Go.Proofs.YtiiphandhpilgaaGreatDoor
open Go.RowKit
/-- How many bits a digit has. -/
def wdI (R : Int) : Int := if R = 16 then 4 else 1

set_option maxRecDepth 100000 in
theorem cwidth_any (R D L G : Int) (gr : Bool) (w : World) :
    Calls Tryz.prog 27 #[.agg #[.int .i64 R, .int .i64 D, .int .i64 L, .int .i64 G, .bool gr]] w fun z w' => z = .returned (.int .i64 (wdI R)) ∧ Below w.heap.size w w' := by
  have bA := below_alloc w (.cells #[.int .i64 R, .int .i64 D, .int .i64 L, .int .i64 G, .bool gr] 42)
  unfold wdI
  by_cases h : R = 16
  · rw [if_pos h]
    subst h
    go_enter Tryz.func27, Tryz.ntmps27
    go_wp2
    go_ret
    exact ⟨rfl, bA⟩
  · rw [if_neg h]
    have e : (R == 16) = false := by simp; exact h
    go_enter Tryz.func27, Tryz.ntmps27
    go_wp2
    go_ret
    exact ⟨rfl, bA⟩

/-- What stays while a number is made. -/
structure NumF (w : World) (bn bf : Nat) (ng : Bool) (fv : List Value) (v : Value) (m : Nat) (w' : World) : Prop where
  q : LocE w' w.heap.size 33 [.int .i64 0, .bool false, .bool false, .slice none 0 0, .int .i64 0]
  f : LocE w' bf 44 fv
  n : w'.cell? ⟨bn, 0, none⟩ = some (.bool ng)
  b : Below w.heap.size w w'
  r : Rd w' .i64 v (Dg.dg 65536 m)

theorem NumF.later {w w1 w2 : World} {bn bf : Nat} {ng : Bool} {fv : List Value} {v : Value} {m : Nat} (h : NumF w bn bf ng fv v m w1) (b : Below w1.heap.size w1 w2) : NumF w bn bf ng fv v m w2 :=
  ⟨h.q.later b, h.f.later b, cell_later b h.n, below_trans h.b b, h.r.later b⟩

end Go.Proofs.YtiiphandhpilgaaGreatDoor
namespace Go.Proofs.YtiiphandhpilgaaGreatDoor
open Go.RowKit
set_option maxRecDepth 100000 in
set_option maxHeartbeats 800000 in
theorem floorOf_any (v : Value) (t : Trip) (w : World) (hv : Rv w v t) (hL : (Dg.dg 65536 t.n).length ≤ 100000) (h1 : -1000000 ≤ t.e) (h2 : t.e ≤ 1000000) :
    Calls Tryz.prog 29 #[v] w (RNum w (shN t.n t.e)) := by
  obtain ⟨s0, rfl, hr⟩ := hv
  have HU : Hid (¬t.e < 0 → ∀ w1, Below w.heap.size w w1 → Calls Tryz.prog 61 #[s0, .int .i64 t.e] w1 (RNum w1 (shN t.n t.e))) := fun h w1 b => by
    unfold shN
    rw [if_neg h]
    obtain ⟨m, hm⟩ : ∃ m : Nat, t.e = (m : Int) := ⟨t.e.toNat, by omega⟩
    rw [hm, Int.toNat_natCast]
    have := up_any s0 _ m w1 (hr.later b) (Dg.small_dg _ _ (by omega)) (by omega) (by omega)
    rwa [Dg.vl_dg _ _ (by omega)] at this
  have HD : Hid (t.e < 0 → ∀ w1, Below w.heap.size w w1 → Calls Tryz.prog 59 #[s0, .int .i64 (-t.e)] w1 (RNum w1 (shN t.n t.e))) := fun h w1 b => by
    unfold shN
    rw [if_pos h]
    obtain ⟨m, hm⟩ : ∃ m : Nat, -t.e = (m : Int) := ⟨(-t.e).toNat, by omega⟩
    rw [hm, Int.toNat_natCast]
    have := down_any s0 _ m (m / 16) (m % 16) (2 ^ (m % 16)) (2 ^ (16 - m % 16)) w1 (hr.later b) (Dg.small_dg _ _ (by omega)) (by omega) (by omega) (by omega) (by omega) rfl rfl
    rwa [Dg.vl_dg _ _ (by omega)] at this
  obtain ⟨ao, ca, rfl⟩ := hr.shape
  obtain ⟨ts, n, e⟩ := t
  simp only at HU HD h1 h2 ⊢
  obtain ⟨R, hR⟩ : ∃ R, shN n e = R := ⟨_, rfl⟩
  rw [hR] at HU HD ⊢
  obtain ⟨m, hm⟩ : ∃ m, (Dg.dg 65536 n).length = m := ⟨_, rfl⟩
  rw [hm] at HU HD ⊢
  have bA := below_alloc w (.cells #[.bool ts, .slice ao m ca, .int .i64 e] 31)
  clear hr hL hR hm
  by_cases h : e < 0
  · have h3 : ¬0 ≤ e := by omega
    go_enter Tryz.func29, Tryz.ntmps29
    go_wp2_with fail
    refine (HD.out h _ bA).mono ?_
    rintro z w1 ⟨v1, rfl, r1, b1⟩
    have b01 := below_trans bA b1
    go_wp2
    go_ret
    exact ⟨_, rfl, r1, b01⟩
  · have h3 : 0 ≤ e := by omega
    go_enter Tryz.func29, Tryz.ntmps29
    go_wp2_with fail
    refine (HU.out h _ bA).mono ?_
    rintro z w1 ⟨v1, rfl, r1, b1⟩
    have b01 := below_trans bA b1
    go_wp2
    go_ret
    exact ⟨_, rfl, r1, b01⟩

end Go.Proofs.YtiiphandhpilgaaGreatDoor

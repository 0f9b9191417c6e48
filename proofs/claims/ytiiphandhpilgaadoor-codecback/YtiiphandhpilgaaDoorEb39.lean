/-
  Texts laid together: Cr10, Cr11, Ce12, Gk3, Gk6, Eg2, Eg3, Eb2.
-/
import Derived.Deep.Cut
import Derived.Deep.MidRow
import Derived.Deep.DeepCutAuto
import Derived.Deep.CutBlock
import Derived.Deep.RegionHeld3
import Derived.Test.YtiiphandhpilgaaDoorEb32
import Derived.Test.YtiiphandhpilgaaDoorEb38
import Derived.Test.YtiiphandhpilgaaDoorEb05
import Derived.Test.YtiiphandhpilgaaDoorEb33
import Derived.Test.YtiiphandhpilgaaDoorEb34
import Derived.Test.YtiiphandhpilgaaDoorEb35
import Derived.Test.YtiiphandhpilgaaDoorEb37
import Derived.Test.YtiiphandhpilgaaDoorEb03
import Derived.Test.YtiiphandhpilgaaDoorEb10
namespace Go.Proofs.YtiiphandhpilgaaDoor
open Go.RowKit
set_option maxRecDepth 100000 in
set_option maxHeartbeats 3200000 in
theorem sameValue_true (c p : Int) (g : Bool) (ao bo : Option Addr) (zs : List Nat) (ca cb : Nat) (w : World) (ha : Rd w .u32 (.slice ao zs.length ca) zs) (hb : Rd w .u32 (.slice bo zs.length cb) zs) :
    Calls Tryd.prog 8 #[.agg #[.int .i64 c, .bool g, .slice ao zs.length ca, .int .i64 p], .agg #[.int .i64 c, .bool g, .slice bo zs.length cb, .int .i64 p]] w fun z w' => z = .returned (.bool true) ∧ Below w.heap.size w w' := by
  have b0 := below_trans (below_alloc w (.cells #[.int .i64 c, .bool g, .slice ao zs.length ca, .int .i64 p] 25)) (below_alloc _ (.cells #[.int .i64 c, .bool g, .slice bo zs.length cb, .int .i64 p] 25))
  have hs := same_any _ _ zs zs _ (ha.later b0) (hb.later b0)
  rw [decide_eq_true (rfl : zs = zs)] at hs
  have HS : Hid (Calls Tryd.prog 9 #[.slice ao zs.length ca, .slice bo zs.length cb] ((w.alloc (.cells #[.int .i64 c, .bool g, .slice ao zs.length ca, .int .i64 p] 25)).alloc (.cells #[.int .i64 c, .bool g, .slice bo zs.length cb, .int .i64 p] 25)) fun e w' => e = .returned (.bool true) ∧ Below ((w.alloc (.cells #[.int .i64 c, .bool g, .slice ao zs.length ca, .int .i64 p] 25)).alloc (.cells #[.int .i64 c, .bool g, .slice bo zs.length cb, .int .i64 p] 25)).heap.size ((w.alloc (.cells #[.int .i64 c, .bool g, .slice ao zs.length ca, .int .i64 p] 25)).alloc (.cells #[.int .i64 c, .bool g, .slice bo zs.length cb, .int .i64 p] 25)) w') := hs
  clear hs ha hb
  cases g
  all_goals go_enter Tryd.func8, Tryd.ntmps8
  all_goals go_wp2_with fail
  all_goals (refine Calls.mono HS.out ?_; rintro z w1 ⟨rfl, b1⟩; go_wp2; go_ret; exact ⟨rfl, below_trans b0 b1⟩)

end Go.Proofs.YtiiphandhpilgaaDoor
namespace Go.Proofs.YtiiphandhpilgaaDoor
open Go.RowKit
theorem strip_eq (r : Nat) (hr : 2 ≤ r) : ∀ (j n q : Nat) (p : Int), q % r ≠ 0 → r ^ j * q < 2 ^ n → stripF r n (r ^ j * q) p = (q, p + (j : Int))
  | 0, n, q, p, hq, hn => by
    rw [Nat.pow_zero, Nat.one_mul] at hn ⊢
    cases n with
    | zero =>
      have : q = 0 := by simpa using hn
      subst this
      simp at hq
    | succ n =>
      rw [stripF, if_neg hq]
      simp
  | j + 1, n, q, p, hq, hn => by
    have e1 : r ^ (j + 1) * q = r * (r ^ j * q) := by rw [Nat.pow_succ, Nat.mul_comm (r ^ j) r, Nat.mul_assoc]
    rw [e1] at hn ⊢
    cases n with
    | zero =>
      exfalso
      have h0 : r * (r ^ j * q) = 0 := by simpa using hn
      have hq0 : q ≠ 0 := fun h => hq (by rw [h]; simp)
      have h1 : 0 < r ^ j * q := Nat.mul_pos (Nat.pow_pos (by omega)) (Nat.pos_of_ne_zero hq0)
      have h2 : 0 < r * (r ^ j * q) := Nat.mul_pos (by omega) h1
      omega
    | succ n =>
      rw [stripF, if_pos (Nat.mul_mod_right _ _), Nat.mul_div_cancel_left _ (by omega)]
      have hlt : r ^ j * q < 2 ^ n := by
        have h2 : 2 * (r ^ j * q) ≤ r * (r ^ j * q) := Nat.mul_le_mul_right _ hr
        rw [Nat.pow_succ] at hn
        omega
      rw [strip_eq r hr j n q (p + 1) hq hlt]
      congr 1
      push_cast
      omega

theorem or_add {f n : Nat} (h : f < 2 ^ n) : f ||| 2 ^ n = f + 2 ^ n := by
  rw [Nat.or_comm, nat_join n (2 ^ n) f (Nat.mod_self _) h]
  omega

theorem or_top {f n : Nat} (h1 : 2 ^ n ≤ f) (h2 : f < 2 ^ (n + 1)) : f ||| 2 ^ n = f := by
  rw [Nat.pow_succ] at h2
  have e : f = 2 ^ n ||| (f - 2 ^ n) := by
    rw [nat_join n (2 ^ n) (f - 2 ^ n) (Nat.mod_self _) (by omega)]
    omega
  rw [e, Nat.or_comm, ← Nat.or_assoc, Nat.or_self]

/-- The number that both tell. -/
theorem refT_num {k : Nat} (hk : 1 ≤ k ∧ k ≤ 8) {ng : Bool} {E F : Nat} (hE : E < 2 ^ exN k) (hF : F < 2 ^ frN k) (hc : clsN k ng E F = 2) : refT k ng E F = bare ⟨ng, plcN k E F, wdI (rdN k : Int) * plcP k E⟩ := by
  unfold refT
  by_cases h3 : k = 3
  · subst h3
    rw [if_pos rfl]
    unfold clsN at hc
    rw [if_pos (show 3 ≤ 3 by omega), show onesN 3 = 2 ^ exN 3 - 1 from rfl] at hc
    have hp : 2 ≤ 2 ^ exN 3 := by decide
    have hF' : F < 2 ^ 64 := hF
    have hlead : leadN 3 = 2 ^ 63 := rfl
    unfold plcN plcP
    rw [if_neg (show ¬ rdN 3 = 16 by decide), if_neg (show ¬ rdN 3 = 16 by decide), hlead]
    generalize (2 : Nat) ^ exN 3 = px at *
    by_cases e0 : E = 0
    · rw [if_neg (show ¬ (E + 1 = px ∨ 0 < E ∧ F < 2 ^ (dgN 3 - 1)) by omega), if_pos e0, if_pos e0]
      subst e0
      simp
    · rw [if_neg e0] at hc
      by_cases e1 : E = px - 1
      · rw [if_pos e1] at hc
        by_cases hz : F = (if 3 = 3 then 2 ^ 63 else 0)
        · rw [if_pos hz] at hc
          omega
        · rw [if_neg hz] at hc
          omega
      · rw [if_neg e1] at hc
        have hf : ¬ F < 2 ^ 63 := fun hf => by
          rw [if_pos ⟨rfl, hf⟩] at hc
          omega
        rw [if_neg (show ¬ (E + 1 = px ∨ 0 < E ∧ F < 2 ^ (dgN 3 - 1)) from fun h => by
          rcases h with h | h
          · omega
          · exact hf h.2), if_neg e0, if_neg e0, or_top (by omega) hF', show lsI 3 + (((E - 1 : Nat) : Nat) : Int) = lsI 3 + (E : Int) - 1 from by omega]
  · rw [if_neg h3]
    by_cases h2 : k ≤ 2
    · rw [if_pos h2]
      have hfd : frN k = dgN k - 1 ∧ rdN k = 2 ∧ 2 ≤ 2 ^ exN k := by rcases (show k = 1 ∨ k = 2 by omega) with rfl | rfl <;> decide
      unfold clsN at hc
      rw [if_pos (show k ≤ 3 by omega), show onesN k = 2 ^ exN k - 1 from rfl, if_neg h3] at hc
      rw [hfd.1] at hF
      unfold plcN plcP
      rw [if_neg (show ¬ rdN k = 16 by omega), if_neg (show ¬ rdN k = 16 by omega)]
      have hp := hfd.2.2
      have hL : leadN k = 2 ^ (dgN k - 1) := rfl
      rw [hL]
      by_cases e0 : E = 0
      · rw [if_neg (show ¬ E + 1 = 2 ^ exN k by omega), if_pos e0, if_pos e0, if_neg (show ¬ 0 < E by omega)]
        subst e0
        simp
      · rw [if_neg e0] at hc
        by_cases e1 : E = 2 ^ exN k - 1
        · rw [if_pos e1] at hc
          split at hc <;> omega
        · rw [if_neg (show ¬ E + 1 = 2 ^ exN k by omega), if_neg e0, if_neg e0, if_pos (show 0 < E by omega), or_add hF, show lsI k + (((E - 1 : Nat) : Nat) : Int) = lsI k + (E : Int) - 1 from by omega]
    · rw [if_neg h2]
      by_cases h5 : k ≤ 5
      · rw [if_pos h5]
        have hr : rdN k = 16 := by rcases (show k = 4 ∨ k = 5 by omega) with rfl | rfl <;> rfl
        unfold plcN plcP
        rw [if_pos hr, if_pos hr]
      · rw [if_neg h5]
        have hfd : frN k = dgN k - 1 ∧ rdN k = 2 := by rcases (show k = 6 ∨ k = 7 ∨ k = 8 by omega) with rfl | rfl | rfl <;> decide
        rw [hfd.1] at hF
        unfold clsN at hc
        rw [if_neg (show ¬ k ≤ 3 by omega), if_neg h5] at hc
        have e0 : E ≠ 0 := fun e0 => by
          rw [if_pos e0] at hc
          split at hc <;> omega
        unfold plcN plcP
        rw [if_neg (show ¬ rdN k = 16 by omega), if_neg (show ¬ rdN k = 16 by omega), if_neg e0, if_neg e0, if_neg e0, show leadN k = 2 ^ (dgN k - 1) from rfl, or_add hF]

/-- Base 2: the number that is bare is the one without noughts. -/
theorem val2 {k : Nat} (hk : 1 ≤ k ∧ k ≤ 8) {ng : Bool} {E F : Nat} (hE : E < 2 ^ exN k) (hF : F < 2 ^ frN k) (hF64 : F < 2 ^ 64) (hc : clsN k ng E F = 2) (hr : rdN k = 2) :
    valM k ng E F = (refT k ng E F).n ∧ valP k ng E F = (refT k ng E F).e := by
  rw [refT_num hk hE hF hc]
  unfold valM valP
  rw [if_pos hc, if_pos hc, hr]
  have h0 := plcN_pos hc
  have hl := plcN_lt hk E hF64
  generalize plcN k E F = D at *
  generalize plcP k E = P at *
  obtain ⟨m, hm⟩ := tz_spec (n := D) (by omega)
  have hd := div_tz hm
  have hs := strip_eq 2 (by omega) (tz D) 64 (2 * m + 1) P (by omega) (by rw [← hm]; exact hl)
  rw [← hm] at hs
  rw [hs]
  unfold bare
  rw [if_neg (by show ¬ D = 0; omega)]
  refine ⟨hd.symm, ?_⟩
  show P + (tz D : Int) = wdI ((2 : Nat) : Int) * P + (tz D : Int)
  rw [show wdI ((2 : Nat) : Int) = 1 from by decide, Int.one_mul]

/-- Base 16. -/
theorem val16 {k : Nat} (hk : 1 ≤ k ∧ k ≤ 8) {ng : Bool} {E F : Nat} (hE : E < 2 ^ exN k) (hF : F < 2 ^ frN k) (hF64 : F < 2 ^ 64) (hc : clsN k ng E F = 2) (hr : rdN k = 16) :
    4 * valP k ng E F ≤ (refT k ng E F).e ∧ (refT k ng E F).e < 4 * valP k ng E F + 4 ∧ valM k ng E F = shN (refT k ng E F).n ((refT k ng E F).e - 4 * valP k ng E F) := by
  rw [refT_num hk hE hF hc]
  unfold valM valP
  rw [if_pos hc, if_pos hc, hr]
  have h0 := plcN_pos hc
  have hl := plcN_lt hk E hF64
  generalize plcN k E F = D at *
  generalize plcP k E = P at *
  obtain ⟨m, hm⟩ := tz_spec (n := D) (by omega)
  have hd := div_tz hm
  obtain ⟨a, b, hab, hb⟩ : ∃ a b, tz D = 4 * a + b ∧ b < 4 := ⟨tz D / 4, tz D % 4, by omega, Nat.mod_lt _ (by omega)⟩
  have e16 : D = 16 ^ a * (2 ^ b * (2 * m + 1)) := by
    rw [hm, hab, Nat.pow_add, Nat.pow_mul, Nat.mul_assoc]
  have hq : 2 ^ b * (2 * m + 1) % 16 ≠ 0 := by
    rcases (show b = 0 ∨ b = 1 ∨ b = 2 ∨ b = 3 by omega) with rfl | rfl | rfl | rfl <;> omega
  have hs := strip_eq 16 (by omega) a 64 (2 ^ b * (2 * m + 1)) P hq (by rw [← e16]; exact hl)
  rw [← e16] at hs
  rw [hs]
  unfold bare
  rw [if_neg (by show ¬ D = 0; omega), show wdI ((16 : Nat) : Int) = 4 from by decide]
  simp only
  rw [hab]
  refine ⟨by push_cast; omega, by push_cast; omega, ?_⟩
  rw [show 4 * P + ((4 * a + b : Nat) : Int) - 4 * (P + (a : Int)) = (b : Int) from by push_cast; omega]
  unfold shN
  rw [if_neg (by omega), Int.toNat_natCast, ← hab, hd, Nat.mul_comm]
end Go.Proofs.YtiiphandhpilgaaDoor
namespace Go.Proofs.YtiiphandhpilgaaDoor
open Go.RowKit
/-- What Encode answers: an error's number and a text. -/
def encE (n c : Int) (ng : Bool) (xs : List Nat) (p : Int) : Int :=
  if famC n = 0 ∨ c < 1 ∨ 5 < c then 6 else if chk xs ≠ 0 then chk xs else if c = 2 then enE n.toNat ng xs p else othE n.toNat c.toNat xs.length ng p
def encS (n c : Int) (ng : Bool) (xs : List Nat) (p : Int) : ByteArray :=
  if famC n = 0 ∨ c < 1 ∨ 5 < c then ⟨#[]⟩ else if chk xs ≠ 0 then ⟨#[]⟩ else if c = 2 then enS n.toNat ng xs p else othS n.toNat c.toNat xs.length ng p

theorem encode_any (n c : Int) (ng : Bool) (ao : Option Addr) (ca : Nat) (xs : List Nat) (p : Int) (w : World) (hr : Rd w .u32 (.slice ao xs.length ca) xs) (sa : Dg.Small 4294967296 xs) (hT : Tab w) :
    Calls Tryd.prog 5 #[.int .i64 n, .agg #[.int .i64 c, .bool ng, .slice ao xs.length ca, .int .i64 p]] w fun z w' => z = .returned (.tuple #[.string (encS n c ng xs p), .int .i64 (encE n c ng xs p)]) ∧ Below w.heap.size w w' := by
  have HN : ∀ w1, Below w.heap.size w w1 → Calls Tryd.prog 11 #[.slice ao xs.length ca] w1 fun z w' => z = .returned (.int .i64 (chk xs)) ∧ Below w1.heap.size w1 w' := fun w1 b => (check_any _ xs w1 (hr.later b)).mono (fun _ _ h => ⟨h.1, by rw [h.2]; exact Below.refl _ _⟩)
  unfold encE encS
  by_cases hf : famC n = 0
  · rw [if_pos (.inl hf), if_pos (.inl hf)]
    exact enc_none n c p ng ao xs.length ca w (fun w1 => layoutOf_none n w1 hf)
  · obtain ⟨h1, h2, h3⟩ := famC_in hf
    obtain ⟨k, rfl⟩ : ∃ k : Nat, n = (k : Int) := ⟨n.toNat, h3.symm⟩
    rw [Int.toNat_natCast] at h1 h2 ⊢
    have HL := fun w1 => layoutOf_any k ⟨h1, h2⟩ w1
    by_cases hc1 : c < 1
    · rw [if_pos (.inr (.inl hc1)), if_pos (.inr (.inl hc1))]
      rcases eight ⟨h1, h2⟩ with rfl | rfl | rfl | rfl | rfl | rfl | rfl | rfl
      all_goals exact enc_low _ _ _ _ _ _ _ _ _ _ c p ng ao xs.length ca w HL hc1
    · by_cases hc5 : 5 < c
      · rw [if_pos (.inr (.inr hc5)), if_pos (.inr (.inr hc5))]
        rcases eight ⟨h1, h2⟩ with rfl | rfl | rfl | rfl | rfl | rfl | rfl | rfl
        all_goals exact enc_high _ _ _ _ _ _ _ _ _ _ c p ng ao xs.length ca w HL hc5
      · have hno : ¬ (famC (k : Int) = 0 ∨ c < 1 ∨ 5 < c) := by
          rintro (h | h | h)
          · exact hf h
          · exact hc1 h
          · exact hc5 h
        rw [if_neg hno, if_neg hno]
        by_cases hn : chk xs = 0
        · rw [if_neg (show ¬ chk xs ≠ 0 from fun h => h hn), if_neg (show ¬ chk xs ≠ 0 from fun h => h hn)]
          by_cases hc2 : c = 2
          · subst hc2
            rw [if_pos rfl, if_pos rfl]
            have HO := fun w1 (b : Below w.heap.size w w1) => encodeNumber_any k ⟨h1, h2⟩ ng ao ca xs p w1 (hr.later b) sa hn (hT.later b)
            generalize enS k ng xs p = st at *
            generalize enE k ng xs p = er at *
            rcases eight ⟨h1, h2⟩ with rfl | rfl | rfl | rfl | rfl | rfl | rfl | rfl
            all_goals exact enc_number _ _ _ _ _ _ _ _ _ _ p ng ao xs.length ca w HL _ HN st er HO hn
          · rw [if_neg hc2, if_neg hc2]
            obtain ⟨m, hm⟩ : ∃ m : Nat, c = (m : Int) := ⟨c.toNat, by omega⟩
            subst hm
            rw [Int.toNat_natCast]
            have HO := fun w1 => encodeOther_any k m ⟨h1, h2⟩ (by omega) ng ao xs.length ca p w1
            generalize othS k m xs.length ng p = st at *
            generalize othE k m xs.length ng p = er at *
            rcases eight ⟨h1, h2⟩ with rfl | rfl | rfl | rfl | rfl | rfl | rfl | rfl
            all_goals exact enc_other _ _ _ _ _ _ _ _ _ _ _ p ng ao xs.length ca w HL _ HN st er HO (by omega) (by omega) (by omega) hn
        · rw [if_pos hn, if_pos hn]
          rcases eight ⟨h1, h2⟩ with rfl | rfl | rfl | rfl | rfl | rfl | rfl | rfl
          all_goals exact enc_digits _ _ _ _ _ _ _ _ _ _ c p ng ao xs.length ca w HL _ HN (by omega) (by omega) hn
end Go.Proofs.YtiiphandhpilgaaDoor
namespace Go.Proofs.YtiiphandhpilgaaDoor
open Go.RowKit
theorem two_len {d k L : Nat} (h : d < 2 ^ k) (hk : k ≤ 32 * L) : (Dg.dg 4294967296 d).length ≤ L := by
  refine Dg.dg_len_le 4294967296 _ _ (by omega) (Nat.lt_of_lt_of_le h ?_)
  rw [show (4294967296 : Nat) = 2 ^ 32 from by decide, ← Nat.pow_mul]
  exact Nat.pow_le_pow_right (by omega) hk

end Go.Proofs.YtiiphandhpilgaaDoor
namespace Go.Proofs.YtiiphandhpilgaaDoor
open Go.RowKit
theorem held_bare {R D L G : Int} (gr : Bool) (t : Trip) (hLG : L ≤ G) : heldB R D L G gr (bare t).n (bare t).e = heldB R D L G gr t.n t.e := by
  rw [← held_in gr t hLG, ← held_in gr (bare t) hLG, bare_bare]

end Go.Proofs.YtiiphandhpilgaaDoor
namespace Go.Proofs.YtiiphandhpilgaaDoor
open Go.RowKit
/-- The ends of the formats' grids. -/
theorem fmt_ends {k : Nat} (hk : 1 ≤ k ∧ k ≤ 8) : -16445 ≤ (widthN (rdN k : Int) : Int) * lsI k ∧ (widthN (rdN k : Int) : Int) * (gsI k + (dgN k : Int)) ≤ 16384 := by
  rcases eight hk with rfl | rfl | rfl | rfl | rfl | rfl | rfl | rfl <;> decide

/-- Numbers: Encode tells no error just where the reference's grid has it. -/
theorem num_held {k : Nat} (hk : 1 ≤ k ∧ k ≤ 8) {ng : Bool} {xs : List Nat} {p : Int} (hc : chk xs = 0) (hx : xs.length ≠ 0) (hp : ¬ (p < -20000 ∨ 20000 < p)) :
    enE k ng xs p = if inR (rdN k : Int) (dgN k : Int) (lsI k) (gsI k) (decide (k ≤ 3)) (bare ⟨ng, Dg.vl 4294967296 xs, (widthN (rdN k : Int) : Int) * p⟩).n (bare ⟨ng, Dg.vl 4294967296 xs, (widthN (rdN k : Int) : Int) * p⟩).e = true then 0 else 4 := by
  obtain ⟨f1, f2, f3, f4, f5, f6, f7, f8, f9, f10, f11, hgc⟩ := fmt_fit hk
  obtain ⟨g1, g2⟩ := fmt_ends hk
  have hvn : Dg.vl 4294967296 xs ≠ 0 := fun h => by
    obtain ⟨n1, -⟩ := chk_zero hc
    exact Dg.vl_ne_zero 4294967296 (by omega) xs (by intro e; subst e; simp at hx) n1 h
  have hpl : placeC xs p (rdN k : Int) (dgN k : Int) (lsI k) (gsI k) = 0 := by
    unfold placeC
    rw [if_pos hc, if_pos hgc, if_neg]
    unfold farB
    simp
    omega
  have hen : enN k ng xs p = shortT ⟨ng, Dg.vl 4294967296 xs, (widthN (rdN k : Int) : Int) * p⟩ := by
    unfold enN dbothR
    rw [if_pos hpl]
  unfold enE
  rw [if_neg hp, if_neg hx, hen]
  have hbn : (bare ⟨ng, Dg.vl 4294967296 xs, (widthN (rdN k : Int) : Int) * p⟩).n ≠ 0 := fun h => hvn ((bareN_nil _).1 h)
  generalize htt : (⟨ng, Dg.vl 4294967296 xs, (widthN (rdN k : Int) : Int) * p⟩ : Trip) = t at *
  have hin : ∀ hh : ¬ 1200 < (Dg.dg 4294967296 (bare t).n).length, ∀ h2 : ¬ ((bare t).e < -20000 ∨ 20000 < (bare t).e), enH k (bare t) = inR (rdN k : Int) (dgN k : Int) (lsI k) (gsI k) (decide (k ≤ 3)) (bare t).n (bare t).e := fun hh h2 => by
    unfold enH ansH
    have hd : dchk (Dg.dg 4294967296 (bare t).n) (bare t).e = 0 := by
      unfold dchk
      rw [if_pos (chk_of (Dg.norm_dg 4294967296 (bare t).n (by omega)) (by omega)), if_neg h2]
    have hon : onC (dchk (Dg.dg 4294967296 (bare t).n) (bare t).e) (gridC (rdN k : Int) (dgN k : Int) (lsI k) (gsI k)) = 0 := by unfold onC; rw [if_pos hd]; exact hgc
    rw [if_pos hon, Dg.vl_dg _ _ (by omega), held_bare _ _ f7, held_in _ _ f7]
  by_cases hi : inR (rdN k : Int) (dgN k : Int) (lsI k) (gsI k) (decide (k ≤ 3)) (bare t).n (bare t).e = true
  · rw [if_pos hi]
    have hq : (widthN (rdN k : Int) : Int) * lsI k ≤ (bare t).e ∧ (bare t).e + (bitLen (bare t).n : Int) ≤ (widthN (rdN k : Int) : Int) * (gsI k + (dgN k : Int)) := by
      have := hi
      unfold inR at this
      rcases of_decide_eq_true this with h | h
      · exact absurd h hbn
      · exact ⟨h.1, h.2.1⟩
    have hlen : ¬ 1200 < (Dg.dg 4294967296 (bare t).n).length := by
      have := two_len (d := (bare t).n) (k := bitLen (bare t).n) (L := 1200) (bitLen_spec _).1 (by omega)
      omega
    have h2 : ¬ ((bare t).e < -20000 ∨ 20000 < (bare t).e) := by omega
    have hsh : shortT t = (bare t, 0) := by unfold shortT; rw [if_neg hlen, if_neg h2]
    rw [hsh, if_pos ⟨rfl, by rw [hin hlen h2]; exact hi⟩]
  · rw [if_neg hi, if_neg]
    rintro ⟨h1, h3⟩
    unfold shortT at h1 h3
    by_cases hlen : 1200 < (Dg.dg 4294967296 (bare t).n).length
    · rw [if_pos hlen] at h1
      simp at h1
    · rw [if_neg hlen] at h1 h3
      by_cases h2 : (bare t).e < -20000 ∨ 20000 < (bare t).e
      · rw [if_pos h2] at h1
        simp at h1
      · rw [if_neg h2] at h3
        rw [hin hlen h2] at h3
        exact hi h3

theorem len_two {xs : List Nat} {L : Nat} (sa : Dg.Small 4294967296 xs) (h : xs.length ≤ L) : (Dg.dg 65536 (Dg.vl 4294967296 xs)).length ≤ 2 * L := by
  refine Dg.dg_len_le 65536 _ _ (by omega) ?_
  rw [Nat.pow_mul]
  exact Nat.lt_of_lt_of_le (Dg.vl_lt 4294967296 xs sa) (Nat.pow_le_pow_right (by omega) h)

theorem bare_small {t : Trip} (h0 : t.n ≠ 0) : (Dg.dg 65536 (bare t).n).length ≤ (Dg.dg 65536 t.n).length ∧ t.e ≤ (bare t).e ∧ (bare t).e ≤ t.e + (bitLen t.n : Int) := by
  obtain ⟨-, h2, h3⟩ := bare_top h0
  refine ⟨dg16_mono (bare_n_le t), by omega, by omega⟩

end Go.Proofs.YtiiphandhpilgaaDoor
namespace Go.Proofs.YtiiphandhpilgaaDoor
open Go.RowKit
theorem enc_vl {xs : List Nat} (hc : chk xs = 0) (hx : xs.length ≠ 0) : Dg.vl 4294967296 xs ≠ 0 := fun h => by
  obtain ⟨n1, -⟩ := chk_zero hc
  exact Dg.vl_ne_zero 4294967296 (by omega) xs (by intro e; subst e; simp at hx) n1 h

theorem bare_sign {s : Bool} {n : Nat} {e : Int} (h : n ≠ 0) : (bare ⟨s, n, e⟩).s = s := by
  unfold bare
  rw [if_neg h]

/-- The number that Encode makes of a value, where it tells no error. -/
theorem enc_bare {k : Nat} {ng : Bool} {xs : List Nat} {p : Int} (hx : chk xs = 0) (hl : xs.length ≠ 0) (hp : ¬ (p < -20000 ∨ 20000 < p)) (sa : Dg.Small 4294967296 xs) (hE : enE k ng xs p = 0) :
    (enN k ng xs p).1 = bare ⟨ng, Dg.vl 4294967296 xs, (widthN (rdN k : Int) : Int) * p⟩ ∧ (Dg.dg 65536 (bare ⟨ng, Dg.vl 4294967296 xs, (widthN (rdN k : Int) : Int) * p⟩).n).length ≤ 20000 ∧ -79000 ≤ (bare ⟨ng, Dg.vl 4294967296 xs, (widthN (rdN k : Int) : Int) * p⟩).e ∧ (bare ⟨ng, Dg.vl 4294967296 xs, (widthN (rdN k : Int) : Int) * p⟩).e ≤ 200000 := by
  have h2 : (enN k ng xs p).2 = 0 := by
    refine Decidable.byContradiction fun c => ?_
    unfold enE at hE
    rw [if_neg hp, if_neg hl, if_neg (fun h => c h.1)] at hE
    omega
  have hr := en_short (show dbothR (placeC xs p (rdN k : Int) (dgN k : Int) (lsI k) (gsI k)) ⟨ng, Dg.vl 4294967296 xs, (widthN (rdN k : Int) : Int) * p⟩ = ((enN k ng xs p).1, 0) from Prod.ext rfl h2)
  have hd := hr.2
  rw [hr.1] at hd
  obtain ⟨-, e1, e2⟩ := dchk_zero hd
  have hb := bare_small (t := ⟨ng, Dg.vl 4294967296 xs, (widthN (rdN k : Int) : Int) * p⟩) (enc_vl hx hl)
  have hl2 := len_two sa (chk_zero hx).2
  refine ⟨hr.1, Nat.le_trans hb.1 ?_, by omega, by omega⟩
  show (Dg.dg 65536 (Dg.vl 4294967296 xs)).length ≤ 20000
  omega

end Go.Proofs.YtiiphandhpilgaaDoor
namespace Go.Proofs.YtiiphandhpilgaaDoor
open Go.RowKit
theorem bare_own {s : Bool} {a : Trip} (h : a.n ≠ 0) (hs : a.s = s) : (⟨s, (bare a).n, (bare a).e⟩ : Trip) = bare a := by
  unfold bare
  rw [if_neg h, ← hs]

/-- The number of what is decoded is the number that stands there. -/
theorem back_value {k : Nat} (hk : 1 ≤ k ∧ k ≤ 8) {ng : Bool} {E F : Nat} (hE : E < 2 ^ exN k) (hF : F < 2 ^ frN k) (hF64 : F < 2 ^ 64) (hc : clsN k ng E F = 2) (h0 : plcN k E F ≠ 0) :
    bare ⟨ng, valM k ng E F, (widthN (rdN k : Int) : Int) * valP k ng E F⟩ = bare ⟨ng, plcN k E F, (widthN (rdN k : Int) : Int) * plcP k E⟩ := by
  have hT := refT_num hk hE hF hc
  rw [wdI_nat] at hT
  by_cases hr : rdN k = 2
  · obtain ⟨v1, v2⟩ := val2 hk hE hF hF64 hc hr
    have hw : widthN (rdN k : Int) = 1 := by rw [hr]; rfl
    rw [v1, v2, hT, hw, show ((1 : Nat) : Int) * (bare ⟨ng, plcN k E F, ((1 : Nat) : Int) * plcP k E⟩).e = (bare ⟨ng, plcN k E F, ((1 : Nat) : Int) * plcP k E⟩).e from by omega, bare_own (a := ⟨ng, plcN k E F, ((1 : Nat) : Int) * plcP k E⟩) h0 rfl, bare_bare]
  · have hr16 : rdN k = 16 := by rcases eight hk with rfl | rfl | rfl | rfl | rfl | rfl | rfl | rfl <;> revert hr <;> decide
    obtain ⟨v1, v2, v3⟩ := val16 hk hE hF hF64 hc hr16
    have hw : widthN (rdN k : Int) = 4 := by rw [hr16]; rfl
    rw [hw] at hT ⊢
    rw [v3, hT]
    rw [hT] at v1
    have hp := (one_parts ng (bare ⟨ng, plcN k E F, ((4 : Nat) : Int) * plcP k E⟩).n (bare ⟨ng, plcN k E F, ((4 : Nat) : Int) * plcP k E⟩).e (((4 : Nat) : Int) * valP k ng E F) (by omega)).2
    rw [parts_one] at hp
    rw [show (4 : Int) * valP k ng E F = ((4 : Nat) : Int) * valP k ng E F from rfl, hp, bare_own (a := ⟨ng, plcN k E F, ((4 : Nat) : Int) * plcP k E⟩) h0 rfl, bare_bare]

/-- What stands there tells what is decoded. -/
theorem same_value {k : Nat} (hk : 1 ≤ k ∧ k ≤ 8) {ng : Bool} {E F E' F' : Nat} (hE : E < 2 ^ exN k) (hF : F < 2 ^ frN k) (hF64 : F < 2 ^ 64) (hc : clsN k ng E F = 2) (hE' : E' < 2 ^ exN k) (hF' : F' < 2 ^ frN k) (hF64' : F' < 2 ^ 64) (hc' : clsN k ng E' F' = 2)
    (h : bare ⟨ng, plcN k E F, (widthN (rdN k : Int) : Int) * plcP k E⟩ = bare ⟨ng, plcN k E' F', (widthN (rdN k : Int) : Int) * plcP k E'⟩) : valM k ng E F = valM k ng E' F' ∧ valP k ng E F = valP k ng E' F' := by
  have hT := refT_num hk hE hF hc
  have hT' := refT_num hk hE' hF' hc'
  rw [wdI_nat, h] at hT
  rw [wdI_nat, ← hT] at hT'
  by_cases hr : rdN k = 2
  · obtain ⟨v1, v2⟩ := val2 hk hE hF hF64 hc hr
    obtain ⟨u1, u2⟩ := val2 hk hE' hF' hF64' hc' hr
    rw [v1, v2, u1, u2, hT']
    exact ⟨rfl, rfl⟩
  · have hr16 : rdN k = 16 := by rcases eight hk with rfl | rfl | rfl | rfl | rfl | rfl | rfl | rfl <;> revert hr <;> decide
    obtain ⟨v1, v2, v3⟩ := val16 hk hE hF hF64 hc hr16
    obtain ⟨u1, u2, u3⟩ := val16 hk hE' hF' hF64' hc' hr16
    rw [hT'] at u1 u2 u3
    have hp : valP k ng E F = valP k ng E' F' := by omega
    rw [v3, u3, hp]
    exact ⟨rfl, rfl⟩

theorem frN_64 {k : Nat} (hk : 1 ≤ k ∧ k ≤ 8) {f : Nat} (h : f < 2 ^ frN k) : f < 2 ^ 64 :=
  Nat.lt_of_lt_of_le h (Nat.pow_le_pow_right (by omega) (sizes_fit hk).2.2.2.1)

/-- The fields of a number that was encoded. -/
theorem enc_fields {k : Nat} (hk : 1 ≤ k ∧ k ≤ 8) {ng : Bool} {xs : List Nat} {p : Int} (sa : Dg.Small 4294967296 xs) (hx : chk xs = 0) (hE : enE k ng xs p = 0) :
    (enS k ng xs p).size = szN k ∧ fldN k (enS k ng xs p) = ng ∧ fldE k (enS k ng xs p) < 2 ^ exN k ∧ fldF k (enS k ng xs p) < 2 ^ frN k ∧ clsN k ng (fldE k (enS k ng xs p)) (fldF k (enS k ng xs p)) = 2 ∧ plcN k (fldE k (enS k ng xs p)) (fldF k (enS k ng xs p)) ≠ 0 ∧
      bare ⟨ng, plcN k (fldE k (enS k ng xs p)) (fldF k (enS k ng xs p)), (widthN (rdN k : Int) : Int) * plcP k (fldE k (enS k ng xs p))⟩ = bare ⟨ng, Dg.vl 4294967296 xs, (widthN (rdN k : Int) : Int) * p⟩ := by
  obtain ⟨f1, f2, f3, f4, f5, f6, f7, f8, f9, f10, f11, hgc⟩ := fmt_fit hk
  have hp : ¬ (p < -20000 ∨ 20000 < p) := fun h => by
    unfold enE at hE
    rw [if_pos h] at hE
    omega
  have hl : xs.length ≠ 0 := fun h => by
    unfold enE at hE
    rw [if_neg hp, if_pos h] at hE
    omega
  have hvn := enc_vl hx hl
  have hnum := num_held hk (ng := ng) hx hl hp
  have hin : inR (rdN k : Int) (dgN k : Int) (lsI k) (gsI k) (decide (k ≤ 3)) (bare ⟨ng, Dg.vl 4294967296 xs, (widthN (rdN k : Int) : Int) * p⟩).n (bare ⟨ng, Dg.vl 4294967296 xs, (widthN (rdN k : Int) : Int) * p⟩).e = true := by
    refine Decidable.byContradiction fun c => ?_
    rw [hE, if_neg c] at hnum
    omega
  have hbn : (bare ⟨ng, Dg.vl 4294967296 xs, (widthN (rdN k : Int) : Int) * p⟩).n ≠ 0 := fun hv => hvn ((bareN_nil _).1 hv)
  have hbs : (bare ⟨ng, Dg.vl 4294967296 xs, (widthN (rdN k : Int) : Int) * p⟩).s = ng := bare_sign hvn
  have hbb := bare_bare ⟨ng, Dg.vl 4294967296 xs, (widthN (rdN k : Int) : Int) * p⟩
  have hheld : heldB (rdN k : Int) (dgN k : Int) (lsI k) (gsI k) (decide (k ≤ 3)) (bare ⟨ng, Dg.vl 4294967296 xs, (widthN (rdN k : Int) : Int) * p⟩).n (bare ⟨ng, Dg.vl 4294967296 xs, (widthN (rdN k : Int) : Int) * p⟩).e = true := by
    rw [held_bare _ _ f7, ← held_in _ _ f7]
    exact hin
  have hS : enS k ng xs p = strOf (wrtB k (plT k (bare ⟨ng, Dg.vl 4294967296 xs, (widthN (rdN k : Int) : Int) * p⟩).s (bare ⟨ng, Dg.vl 4294967296 xs, (widthN (rdN k : Int) : Int) * p⟩).n (bare ⟨ng, Dg.vl 4294967296 xs, (widthN (rdN k : Int) : Int) * p⟩).e).s (heE (rdN k : Int) (lsI k) (leadN k) (plT k (bare ⟨ng, Dg.vl 4294967296 xs, (widthN (rdN k : Int) : Int) * p⟩).s (bare ⟨ng, Dg.vl 4294967296 xs, (widthN (rdN k : Int) : Int) * p⟩).n (bare ⟨ng, Dg.vl 4294967296 xs, (widthN (rdN k : Int) : Int) * p⟩).e)) (plT k (bare ⟨ng, Dg.vl 4294967296 xs, (widthN (rdN k : Int) : Int) * p⟩).s (bare ⟨ng, Dg.vl 4294967296 xs, (widthN (rdN k : Int) : Int) * p⟩).n (bare ⟨ng, Dg.vl 4294967296 xs, (widthN (rdN k : Int) : Int) * p⟩).e).d) := by
    unfold enS
    rw [if_pos hE, (enc_bare (k := k) (ng := ng) hx hl hp sa hE).1]
  rw [hbs] at hS
  generalize bare ⟨ng, Dg.vl 4294967296 xs, (widthN (rdN k : Int) : Int) * p⟩ = T at *
  obtain ⟨p1, p2, p3, p4⟩ := held_place (s := ng) (way := 3) (by omega : (1 : Int) ≤ (dgN k : Int)) f7 hbn hheld
  obtain ⟨ho, hu, hbr⟩ := held_round (s := ng) (way := 3) (by omega : (1 : Int) ≤ (dgN k : Int)) f7 hbn hheld
  have hsp := (round_spot (by omega) f7 hbn (by omega) ho hu).resolve_left (fun c => p4 (by rw [← p2]; exact c.1))
  have hpl : roundT (rdN k : Int) (dgN k : Int) (lsI k) (gsI k) (decide (k ≤ 3)) ng T.n 1 T.e 3 = plT k ng T.n T.e := rfl
  rw [hpl] at p1 hbr hsp
  generalize plT k ng T.n T.e = pt at *
  obtain ⟨q0, q1, q2, q3, q4⟩ := hsp
  have hdg : ((dgN k : Int) - 1).toNat = dgN k - 1 := by omega
  rw [Int.toNat_natCast] at q3
  rw [hdg] at q4
  obtain ⟨r1, r2, r3, r4⟩ := spot_fields hk ng pt q1 q2 q0 q3 (q4.imp_right (fun h => ⟨by simpa using h.1, h.2⟩))
  obtain ⟨w1, w2, w3, w4⟩ := fields_written hk pt.s (heE (rdN k : Int) (lsI k) (leadN k) pt) pt.d
  rw [Nat.mod_eq_of_lt r1] at w2
  rw [hS, w1, w2, w3, w4]
  refine ⟨rfl, p1, r1, Nat.mod_lt _ (Nat.pow_pos (by omega)), r2, by rw [r3]; exact q0, ?_⟩
  rw [r3, r4]
  rw [p1] at hbr
  rw [hbr]
  have : (⟨ng, T.n, T.e⟩ : Trip) = T := by
    cases T
    simp only at hbs ⊢
    rw [hbs]
  rw [this, hbb]
end Go.Proofs.YtiiphandhpilgaaDoor

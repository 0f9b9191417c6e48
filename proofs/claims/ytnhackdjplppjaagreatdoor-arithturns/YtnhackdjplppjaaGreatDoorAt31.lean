/-
  Texts laid together: Cr4, Ef2, Cr5, Cr9, Cr11, Eg1, Ce12, Eg2, Eb2, Eb3, Eb4, Nx2, Ar2, Ar4.
-/
import Derived.Maps.AppendAt
import Derived.Test.YtnhackdjplppjaaGreatDoorAt29
import Derived.Test.YtnhackdjplppjaaGreatDoorAt30
import Derived.Test.YtnhackdjplppjaaGreatDoorAt26
namespace Go.Proofs.YtnhackdjplppjaaGreatDoor
open Go.RowKit
def wdI (R : Int) : Int := if R = 16 then 4 else 1
structure NumF (w : World) (bn bf : Nat) (ng : Bool) (fv : List Value) (v : Value) (m : Nat) (w' : World) : Prop where
 q : LocE w' w.heap.size 32 [.int .i64 0, .bool false, .bool false, .slice none 0 0, .int .i64 0]
 f : LocE w' bf 58 fv
 n : w'.cell? ⟨bn, 0, none⟩ = some (.bool ng)
 b : Below w.heap.size w w'
 r : Rd w' .i64 v (Dg.dg 65536 m)
theorem NumF.later {w w1 w2 : World} {bn bf : Nat} {ng : Bool} {fv : List Value} {v : Value} {m : Nat} (h : NumF w bn bf ng fv v m w1) (b : Below w1.heap.size w1 w2) : NumF w bn bf ng fv v m w2 :=
 ⟨h.q.later b, h.f.later b, cell_later b h.n, below_trans h.b b, h.r.later b⟩
end Go.Proofs.YtnhackdjplppjaaGreatDoor
namespace Go.Proofs.YtnhackdjplppjaaGreatDoor
open Go.RowKit
theorem wdI_nat (R : Int) : wdI R = (widthN R : Int) := by
 unfold wdI widthN
 split <;> rfl
theorem fmt_fit {k : Nat} (hk : 1 ≤ k ∧ k ≤ 8) : 1 ≤ exN k ∧ 1 ≤ frN k ∧ 1 ≤ dgN k ∧ dgN k ≤ 64 ∧ -16445 ≤ lsI k ∧ lsI k ≤ 0 ∧ lsI k ≤ gsI k ∧ gsI k ≤ 16320 ∧ widthN (rdN k : Int) * dgN k ≤ 64 ∧ widthN (rdN k : Int) ≤ 4 ∧ 1 ≤ widthN (rdN k : Int) ∧ gridC (rdN k : Int) (dgN k : Int) (lsI k) (gsI k) = 0 := by
 rcases eight hk with rfl | rfl | rfl | rfl | rfl | rfl | rfl | rfl <;> exact ⟨by decide, by decide, by decide, by decide, by decide, by decide, by decide, by decide, by decide, by decide, by decide, by decide⟩
theorem dg16_mono {a b : Nat} (h : a ≤ b) : (Dg.dg 65536 a).length ≤ (Dg.dg 65536 b).length := by
 refine Dg.dg_len_le 65536 a _ (by omega) (Nat.lt_of_le_of_lt h ?_)
 have := Dg.vl_lt 65536 (Dg.dg 65536 b) (Dg.small_dg 65536 b (by omega))
 rwa [Dg.vl_dg 65536 b (by omega)] at this
end Go.Proofs.YtnhackdjplppjaaGreatDoor
namespace Go.Proofs.YtnhackdjplppjaaGreatDoor
open Go.RowKit
structure DecF (w : World) (bn bf : Nat) (ng : Bool) (fv : List Value) (w' : World) : Prop where
 q : LocE w' w.heap.size 32 [.int .i64 0, .bool false, .bool false, .slice none 0 0, .int .i64 0]
 f : LocE w' bf 58 fv
 n : LocE w' bn 4 [.bool ng]
 b : Below w.heap.size w w'
theorem DecF.later {w w1 w2 : World} {bn bf : Nat} {ng : Bool} {fv : List Value} (h : DecF w bn bf ng fv w1) (b : Below w1.heap.size w1 w2) : DecF w bn bf ng fv w2 :=
 ⟨h.q.later b, h.f.later b, h.n.later b, below_trans h.b b⟩
end Go.Proofs.YtnhackdjplppjaaGreatDoor
namespace Go.Proofs.YtnhackdjplppjaaGreatDoor
open Go.RowKit
def refG (k : Nat) (ng : Bool) (E FF : Nat) : Bool :=
 if k = 3 then (if E + 1 = 2 ^ exN k then (if FF = 2 ^ (dgN k - 1) then ng else false) else if 0 < E ∧ FF < 2 ^ (dgN k - 1) then false else ng)
 else if k ≤ 2 then (if E + 1 = 2 ^ exN k then (if FF = 0 then ng else false) else ng)
 else if k ≤ 5 then ng
 else (if E = 0 then false else ng)
def refT (k : Nat) (ng : Bool) (E FF : Nat) : Trip :=
 if k = 3 then (if E + 1 = 2 ^ exN k ∨ 0 < E ∧ FF < 2 ^ (dgN k - 1) then ⟨false, 0, 0⟩ else bare ⟨ng, FF, wdI (rdN k : Int) * (lsI k + (((E - 1 : Nat) : Nat) : Int))⟩)
 else if k ≤ 2 then (if E + 1 = 2 ^ exN k then ⟨false, 0, 0⟩ else bare ⟨ng, FF + (if 0 < E then 2 ^ (dgN k - 1) else 0), wdI (rdN k : Int) * (lsI k + (((E - 1 : Nat) : Nat) : Int))⟩)
 else if k ≤ 5 then bare ⟨ng, FF, wdI (rdN k : Int) * (lsI k + (E : Int))⟩
 else (if E = 0 then ⟨false, 0, 0⟩ else bare ⟨ng, FF + 2 ^ (dgN k - 1), wdI (rdN k : Int) * (lsI k + (E : Int) - 1)⟩)
end Go.Proofs.YtnhackdjplppjaaGreatDoor
namespace Go.Proofs.YtnhackdjplppjaaGreatDoor
open Go.RowKit
theorem strip_eq (r : Nat) (hr : 2 ≤ r) : ∀ (j n q : Nat) (p : Int), q % r ≠ 0 → r ^ j * q < 2 ^ n → stripF r n (r ^ j * q) p = (q, p + (j : Int))
 | 0, n, q, p, hq, hn => by
  rw [Nat.pow_zero, Nat.one_mul] at hn ⊢
  cases n with
  | zero =>
   have : q = 0 := by simpa using hn
   subst this
   simp at hq
  | succ n =>
   rw [stripF, if_neg hq]
   simp
 | j + 1, n, q, p, hq, hn => by
  have e1 : r ^ (j + 1) * q = r * (r ^ j * q) := by rw [Nat.pow_succ, Nat.mul_comm (r ^ j) r, Nat.mul_assoc]
  rw [e1] at hn ⊢
  cases n with
  | zero =>
   exfalso
   have h0 : r * (r ^ j * q) = 0 := by simpa using hn
   have hq0 : q ≠ 0 := fun h => hq (by rw [h]; simp)
   have h1 : 0 < r ^ j * q := Nat.mul_pos (Nat.pow_pos (by omega)) (Nat.pos_of_ne_zero hq0)
   have h2 : 0 < r * (r ^ j * q) := Nat.mul_pos (by omega) h1
   omega
  | succ n =>
   rw [stripF, if_pos (Nat.mul_mod_right _ _), Nat.mul_div_cancel_left _ (by omega)]
   have hlt : r ^ j * q < 2 ^ n := by
    have h2 : 2 * (r ^ j * q) ≤ r * (r ^ j * q) := Nat.mul_le_mul_right _ hr
    rw [Nat.pow_succ] at hn
    omega
   rw [strip_eq r hr j n q (p + 1) hq hlt]
   congr 1
   push_cast
   omega
theorem or_add {f n : Nat} (h : f < 2 ^ n) : f ||| 2 ^ n = f + 2 ^ n := by
 rw [Nat.or_comm, nat_join n (2 ^ n) f (Nat.mod_self _) h]
 omega
theorem or_top {f n : Nat} (h1 : 2 ^ n ≤ f) (h2 : f < 2 ^ (n + 1)) : f ||| 2 ^ n = f := by
 rw [Nat.pow_succ] at h2
 have e : f = 2 ^ n ||| (f - 2 ^ n) := by
  rw [nat_join n (2 ^ n) (f - 2 ^ n) (Nat.mod_self _) (by omega)]
  omega
 rw [e, Nat.or_comm, ← Nat.or_assoc, Nat.or_self]
theorem refT_num {k : Nat} (hk : 1 ≤ k ∧ k ≤ 8) {ng : Bool} {E F : Nat} (hE : E < 2 ^ exN k) (hF : F < 2 ^ frN k) (hc : clsN k ng E F = 2) : refT k ng E F = bare ⟨ng, plcN k E F, wdI (rdN k : Int) * plcP k E⟩ := by
 unfold refT
 by_cases h3 : k = 3
 ·subst h3
  rw [if_pos rfl]
  unfold clsN at hc
  rw [if_pos (show 3 ≤ 3 by omega), show onesN 3 = 2 ^ exN 3 - 1 from rfl] at hc
  have hp : 2 ≤ 2 ^ exN 3 := by decide
  have hF' : F < 2 ^ 64 := hF
  have hlead : leadN 3 = 2 ^ 63 := rfl
  unfold plcN plcP
  rw [if_neg (show ¬ rdN 3 = 16 by decide), if_neg (show ¬ rdN 3 = 16 by decide), hlead]
  generalize (2 : Nat) ^ exN 3 = px at *
  by_cases e0 : E = 0
  ·rw [if_neg (show ¬ (E + 1 = px ∨ 0 < E ∧ F < 2 ^ (dgN 3 - 1)) by omega), if_pos e0, if_pos e0]
   subst e0
   simp
  ·rw [if_neg e0] at hc
   by_cases e1 : E = px - 1
   ·rw [if_pos e1] at hc
    by_cases hz : F = (if 3 = 3 then 2 ^ 63 else 0)
    ·rw [if_pos hz] at hc
     omega
    ·rw [if_neg hz] at hc
     omega
   ·rw [if_neg e1] at hc
    have hf : ¬ F < 2 ^ 63 := fun hf => by
     rw [if_pos ⟨rfl, hf⟩] at hc
     omega
    rw [if_neg (show ¬ (E + 1 = px ∨ 0 < E ∧ F < 2 ^ (dgN 3 - 1)) from fun h => by
     rcases h with h | h
     ·omega
     ·exact hf h.2), if_neg e0, if_neg e0, or_top (by omega) hF', show lsI 3 + (((E - 1 : Nat) : Nat) : Int) = lsI 3 + (E : Int) - 1 from by omega]
 ·rw [if_neg h3]
  by_cases h2 : k ≤ 2
  ·rw [if_pos h2]
   have hfd : frN k = dgN k - 1 ∧ rdN k = 2 ∧ 2 ≤ 2 ^ exN k := by rcases (show k = 1 ∨ k = 2 by omega) with rfl | rfl <;> decide
   unfold clsN at hc
   rw [if_pos (show k ≤ 3 by omega), show onesN k = 2 ^ exN k - 1 from rfl, if_neg h3] at hc
   rw [hfd.1] at hF
   unfold plcN plcP
   rw [if_neg (show ¬ rdN k = 16 by omega), if_neg (show ¬ rdN k = 16 by omega)]
   have hp := hfd.2.2
   have hL : leadN k = 2 ^ (dgN k - 1) := rfl
   rw [hL]
   by_cases e0 : E = 0
   ·rw [if_neg (show ¬ E + 1 = 2 ^ exN k by omega), if_pos e0, if_pos e0, if_neg (show ¬ 0 < E by omega)]
    subst e0
    simp
   ·rw [if_neg e0] at hc
    by_cases e1 : E = 2 ^ exN k - 1
    ·rw [if_pos e1] at hc
     split at hc <;> omega
    ·rw [if_neg (show ¬ E + 1 = 2 ^ exN k by omega), if_neg e0, if_neg e0, if_pos (show 0 < E by omega), or_add hF, show lsI k + (((E - 1 : Nat) : Nat) : Int) = lsI k + (E : Int) - 1 from by omega]
  ·rw [if_neg h2]
   by_cases h5 : k ≤ 5
   ·rw [if_pos h5]
    have hr : rdN k = 16 := by rcases (show k = 4 ∨ k = 5 by omega) with rfl | rfl <;> rfl
    unfold plcN plcP
    rw [if_pos hr, if_pos hr]
   ·rw [if_neg h5]
    have hfd : frN k = dgN k - 1 ∧ rdN k = 2 := by rcases (show k = 6 ∨ k = 7 ∨ k = 8 by omega) with rfl | rfl | rfl <;> decide
    rw [hfd.1] at hF
    unfold clsN at hc
    rw [if_neg (show ¬ k ≤ 3 by omega), if_neg h5] at hc
    have e0 : E ≠ 0 := fun e0 => by
     rw [if_pos e0] at hc
     split at hc <;> omega
    unfold plcN plcP
    rw [if_neg (show ¬ rdN k = 16 by omega), if_neg (show ¬ rdN k = 16 by omega), if_neg e0, if_neg e0, if_neg e0, show leadN k = 2 ^ (dgN k - 1) from rfl, or_add hF]
theorem val2 {k : Nat} (hk : 1 ≤ k ∧ k ≤ 8) {ng : Bool} {E F : Nat} (hE : E < 2 ^ exN k) (hF : F < 2 ^ frN k) (hF64 : F < 2 ^ 64) (hc : clsN k ng E F = 2) (hr : rdN k = 2) :
  valM k ng E F = (refT k ng E F).n ∧ valP k ng E F = (refT k ng E F).e := by
 rw [refT_num hk hE hF hc]
 unfold valM valP
 rw [if_pos hc, if_pos hc, hr]
 have h0 := plcN_pos hc
 have hl := plcN_lt hk E hF64
 generalize plcN k E F = D at *
 generalize plcP k E = P at *
 obtain ⟨m, hm⟩ := tz_spec (n := D) (by omega)
 have hd := div_tz hm
 have hs := strip_eq 2 (by omega) (tz D) 64 (2 * m + 1) P (by omega) (by rw [← hm]; exact hl)
 rw [← hm] at hs
 rw [hs]
 unfold bare
 rw [if_neg (by show ¬ D = 0; omega)]
 refine ⟨hd.symm, ?_⟩
 show P + (tz D : Int) = wdI ((2 : Nat) : Int) * P + (tz D : Int)
 rw [show wdI ((2 : Nat) : Int) = 1 from by decide, Int.one_mul]
theorem val16 {k : Nat} (hk : 1 ≤ k ∧ k ≤ 8) {ng : Bool} {E F : Nat} (hE : E < 2 ^ exN k) (hF : F < 2 ^ frN k) (hF64 : F < 2 ^ 64) (hc : clsN k ng E F = 2) (hr : rdN k = 16) :
  4 * valP k ng E F ≤ (refT k ng E F).e ∧ (refT k ng E F).e < 4 * valP k ng E F + 4 ∧ valM k ng E F = shN (refT k ng E F).n ((refT k ng E F).e - 4 * valP k ng E F) := by
 rw [refT_num hk hE hF hc]
 unfold valM valP
 rw [if_pos hc, if_pos hc, hr]
 have h0 := plcN_pos hc
 have hl := plcN_lt hk E hF64
 generalize plcN k E F = D at *
 generalize plcP k E = P at *
 obtain ⟨m, hm⟩ := tz_spec (n := D) (by omega)
 have hd := div_tz hm
 obtain ⟨a, b, hab, hb⟩ : ∃ a b, tz D = 4 * a + b ∧ b < 4 := ⟨tz D / 4, tz D % 4, by omega, Nat.mod_lt _ (by omega)⟩
 have e16 : D = 16 ^ a * (2 ^ b * (2 * m + 1)) := by
  rw [hm, hab, Nat.pow_add, Nat.pow_mul, Nat.mul_assoc]
 have hq : 2 ^ b * (2 * m + 1) % 16 ≠ 0 := by
  rcases (show b = 0 ∨ b = 1 ∨ b = 2 ∨ b = 3 by omega) with rfl | rfl | rfl | rfl <;> omega
 have hs := strip_eq 16 (by omega) a 64 (2 ^ b * (2 * m + 1)) P hq (by rw [← e16]; exact hl)
 rw [← e16] at hs
 rw [hs]
 unfold bare
 rw [if_neg (by show ¬ D = 0; omega), show wdI ((16 : Nat) : Int) = 4 from by decide]
 simp only
 rw [hab]
 refine ⟨by push_cast; omega, by push_cast; omega, ?_⟩
 rw [show 4 * P + ((4 * a + b : Nat) : Int) - 4 * (P + (a : Int)) = (b : Int) from by push_cast; omega]
 unfold shN
 rw [if_neg (by omega), Int.toNat_natCast, ← hab, hd, Nat.mul_comm]
end Go.Proofs.YtnhackdjplppjaaGreatDoor
namespace Go.Proofs.YtnhackdjplppjaaGreatDoor
open Go.RowKit
structure EnF (w : World) (bf : Nat) (vv fl : List Value) (W : World) : Prop where
 v : LocE W w.heap.size 73 vv
 z : LocE W (w.heap.size + 1) 32 [.int .i64 0, .bool false, .bool false, .slice none 0 0, .int .i64 0]
 f : LocE W bf 58 fl
 b : Below w.heap.size w W
theorem EnF.later {w W W' : World} {bf : Nat} {vv fl : List Value} (h : EnF w bf vv fl W) (b : Below W.heap.size W W') : EnF w bf vv fl W' :=
 ⟨h.v.later b, h.z.later b, h.f.later b, below_trans h.b b⟩
theorem EnF.lt {w W : World} {bf : Nat} {vv fl : List Value} (h : EnF w bf vv fl W) : w.heap.size + 1 < W.heap.size ∧ bf < W.heap.size := ⟨h.z.lt, h.f.lt⟩
end Go.Proofs.YtnhackdjplppjaaGreatDoor
namespace Go.Proofs.YtnhackdjplppjaaGreatDoor
open Go.RowKit
def encE (n c : Int) (ng : Bool) (xs : List Nat) (p : Int) : Int :=
 if famC n = 0 ∨ c < 1 ∨ 5 < c then 6 else if chk xs ≠ 0 then chk xs else if c = 2 then enE n.toNat ng xs p else othE n.toNat c.toNat xs.length ng p
def encS (n c : Int) (ng : Bool) (xs : List Nat) (p : Int) : ByteArray :=
 if famC n = 0 ∨ c < 1 ∨ 5 < c then ⟨#[]⟩ else if chk xs ≠ 0 then ⟨#[]⟩ else if c = 2 then enS n.toNat ng xs p else othS n.toNat c.toNat xs.length ng p
theorem encode_any (n c : Int) (ng : Bool) (ao : Option Addr) (ca : Nat) (xs : List Nat) (p : Int) (w : World) (hr : Rd w .u32 (.slice ao xs.length ca) xs) (sa : Dg.Small 4294967296 xs) (hT : Tab w) :
  Calls Tryz.prog 44 #[.int .i64 n, .agg #[.int .i64 c, .bool ng, .slice ao xs.length ca, .int .i64 p]] w fun z w' => z = .returned (.tuple #[.string (encS n c ng xs p), .int .i64 (encE n c ng xs p)]) ∧ Below w.heap.size w w' := by
 have HN : ∀ w1, Below w.heap.size w w1 → Calls Tryz.prog 98 #[.slice ao xs.length ca] w1 fun z w' => z = .returned (.int .i64 (chk xs)) ∧ Below w1.heap.size w1 w' := fun w1 b => (check_any _ xs w1 (hr.later b)).mono (fun _ _ h => ⟨h.1, by rw [h.2]; exact Below.refl _ _⟩)
 unfold encE encS
 by_cases hf : famC n = 0
 ·rw [if_pos (.inl hf), if_pos (.inl hf)]
  exact enc_none n c p ng ao xs.length ca w (fun w1 => layoutOf_none n w1 hf)
 ·obtain ⟨h1, h2, h3⟩ := famC_in hf
  obtain ⟨k, rfl⟩ : ∃ k : Nat, n = (k : Int) := ⟨n.toNat, h3.symm⟩
  rw [Int.toNat_natCast] at h1 h2 ⊢
  have HL := fun w1 => layoutOf_any k ⟨h1, h2⟩ w1
  by_cases hc1 : c < 1
  ·rw [if_pos (.inr (.inl hc1)), if_pos (.inr (.inl hc1))]
   rcases eight ⟨h1, h2⟩ with rfl | rfl | rfl | rfl | rfl | rfl | rfl | rfl
   all_goals exact enc_low _ _ _ _ _ _ _ _ _ _ c p ng ao xs.length ca w HL hc1
  ·by_cases hc5 : 5 < c
   ·rw [if_pos (.inr (.inr hc5)), if_pos (.inr (.inr hc5))]
    rcases eight ⟨h1, h2⟩ with rfl | rfl | rfl | rfl | rfl | rfl | rfl | rfl
    all_goals exact enc_high _ _ _ _ _ _ _ _ _ _ c p ng ao xs.length ca w HL hc5
   ·have hno : ¬ (famC (k : Int) = 0 ∨ c < 1 ∨ 5 < c) := by
     rintro (h | h | h)
     ·exact hf h
     ·exact hc1 h
     ·exact hc5 h
    rw [if_neg hno, if_neg hno]
    by_cases hn : chk xs = 0
    ·rw [if_neg (show ¬ chk xs ≠ 0 from fun h => h hn), if_neg (show ¬ chk xs ≠ 0 from fun h => h hn)]
     by_cases hc2 : c = 2
     ·subst hc2
      rw [if_pos rfl, if_pos rfl]
      have HO := fun w1 (b : Below w.heap.size w w1) => encodeNumber_any k ⟨h1, h2⟩ ng ao ca xs p w1 (hr.later b) sa hn (hT.later b)
      generalize enS k ng xs p = st at *
      generalize enE k ng xs p = er at *
      rcases eight ⟨h1, h2⟩ with rfl | rfl | rfl | rfl | rfl | rfl | rfl | rfl
      all_goals exact enc_number _ _ _ _ _ _ _ _ _ _ p ng ao xs.length ca w HL _ HN st er HO hn
     ·rw [if_neg hc2, if_neg hc2]
      obtain ⟨m, hm⟩ : ∃ m : Nat, c = (m : Int) := ⟨c.toNat, by omega⟩
      subst hm
      rw [Int.toNat_natCast]
      have HO := fun w1 => encodeOther_any k m ⟨h1, h2⟩ (by omega) ng ao xs.length ca p w1
      generalize othS k m xs.length ng p = st at *
      generalize othE k m xs.length ng p = er at *
      rcases eight ⟨h1, h2⟩ with rfl | rfl | rfl | rfl | rfl | rfl | rfl | rfl
      all_goals exact enc_other _ _ _ _ _ _ _ _ _ _ _ p ng ao xs.length ca w HL _ HN st er HO (by omega) (by omega) (by omega) hn
    ·rw [if_pos hn, if_pos hn]
     rcases eight ⟨h1, h2⟩ with rfl | rfl | rfl | rfl | rfl | rfl | rfl | rfl
     all_goals exact enc_digits _ _ _ _ _ _ _ _ _ _ c p ng ao xs.length ca w HL _ HN (by omega) (by omega) hn
end Go.Proofs.YtnhackdjplppjaaGreatDoor
namespace Go.Proofs.YtnhackdjplppjaaGreatDoor
open Go.RowKit
theorem fmt_ends {k : Nat} (hk : 1 ≤ k ∧ k ≤ 8) : -16445 ≤ (widthN (rdN k : Int) : Int) * lsI k ∧ (widthN (rdN k : Int) : Int) * (gsI k + (dgN k : Int)) ≤ 16384 := by
 rcases eight hk with rfl | rfl | rfl | rfl | rfl | rfl | rfl | rfl <;> decide
theorem num_held {k : Nat} (hk : 1 ≤ k ∧ k ≤ 8) {ng : Bool} {xs : List Nat} {p : Int} (hc : chk xs = 0) (hx : xs.length ≠ 0) (hp : ¬ (p < -20000 ∨ 20000 < p)) :
  enE k ng xs p = if inR (rdN k : Int) (dgN k : Int) (lsI k) (gsI k) (decide (k ≤ 3)) (bare ⟨ng, Dg.vl 4294967296 xs, (widthN (rdN k : Int) : Int) * p⟩).n (bare ⟨ng, Dg.vl 4294967296 xs, (widthN (rdN k : Int) : Int) * p⟩).e = true then 0 else 4 := by
 obtain ⟨f1, f2, f3, f4, f5, f6, f7, f8, f9, f10, f11, hgc⟩ := fmt_fit hk
 obtain ⟨g1, g2⟩ := fmt_ends hk
 have hvn : Dg.vl 4294967296 xs ≠ 0 := fun h => by
  obtain ⟨n1, -⟩ := chk_zero hc
  exact Dg.vl_ne_zero 4294967296 (by omega) xs (by intro e; subst e; simp at hx) n1 h
 have hpl : placeC xs p (rdN k : Int) (dgN k : Int) (lsI k) (gsI k) = 0 := by
  unfold placeC
  rw [if_pos hc, if_pos hgc, if_neg]
  unfold farB
  simp
  omega
 have hen : enN k ng xs p = shortT ⟨ng, Dg.vl 4294967296 xs, (widthN (rdN k : Int) : Int) * p⟩ := by
  unfold enN dbothR
  rw [if_pos hpl]
 unfold enE
 rw [if_neg hp, if_neg hx, hen]
 have hbn : (bare ⟨ng, Dg.vl 4294967296 xs, (widthN (rdN k : Int) : Int) * p⟩).n ≠ 0 := fun h => hvn ((bareN_nil _).1 h)
 generalize htt : (⟨ng, Dg.vl 4294967296 xs, (widthN (rdN k : Int) : Int) * p⟩ : Trip) = t at *
 have hin : ∀ hh : ¬ 1200 < (Dg.dg 4294967296 (bare t).n).length, ∀ h2 : ¬ ((bare t).e < -20000 ∨ 20000 < (bare t).e), enH k (bare t) = inR (rdN k : Int) (dgN k : Int) (lsI k) (gsI k) (decide (k ≤ 3)) (bare t).n (bare t).e := fun hh h2 => by
  unfold enH ansH
  have hd : dchk (Dg.dg 4294967296 (bare t).n) (bare t).e = 0 := by
   unfold dchk
   rw [if_pos (chk_of (Dg.norm_dg 4294967296 (bare t).n (by omega)) (by omega)), if_neg h2]
  have hon : onC (dchk (Dg.dg 4294967296 (bare t).n) (bare t).e) (gridC (rdN k : Int) (dgN k : Int) (lsI k) (gsI k)) = 0 := by unfold onC; rw [if_pos hd]; exact hgc
  rw [if_pos hon, Dg.vl_dg _ _ (by omega), held_bare _ _ f7, held_in _ _ f7]
 by_cases hi : inR (rdN k : Int) (dgN k : Int) (lsI k) (gsI k) (decide (k ≤ 3)) (bare t).n (bare t).e = true
 ·rw [if_pos hi]
  have hq : (widthN (rdN k : Int) : Int) * lsI k ≤ (bare t).e ∧ (bare t).e + (bitLen (bare t).n : Int) ≤ (widthN (rdN k : Int) : Int) * (gsI k + (dgN k : Int)) := by
   have := hi
   unfold inR at this
   rcases of_decide_eq_true this with h | h
   ·exact absurd h hbn
   ·exact ⟨h.1, h.2.1⟩
  have hlen : ¬ 1200 < (Dg.dg 4294967296 (bare t).n).length := by
   have := two_len (d := (bare t).n) (k := bitLen (bare t).n) (L := 1200) (bitLen_spec _).1 (by omega)
   omega
  have h2 : ¬ ((bare t).e < -20000 ∨ 20000 < (bare t).e) := by omega
  have hsh : shortT t = (bare t, 0) := by unfold shortT; rw [if_neg hlen, if_neg h2]
  rw [hsh, if_pos ⟨rfl, by rw [hin hlen h2]; exact hi⟩]
 ·rw [if_neg hi, if_neg]
  rintro ⟨h1, h3⟩
  unfold shortT at h1 h3
  by_cases hlen : 1200 < (Dg.dg 4294967296 (bare t).n).length
  ·rw [if_pos hlen] at h1
   simp at h1
  ·rw [if_neg hlen] at h1 h3
   by_cases h2 : (bare t).e < -20000 ∨ 20000 < (bare t).e
   ·rw [if_pos h2] at h1
    simp at h1
   ·rw [if_neg h2] at h3
    rw [hin hlen h2] at h3
    exact hi h3
theorem bare_small {t : Trip} (h0 : t.n ≠ 0) : (Dg.dg 65536 (bare t).n).length ≤ (Dg.dg 65536 t.n).length ∧ t.e ≤ (bare t).e ∧ (bare t).e ≤ t.e + (bitLen t.n : Int) := by
 obtain ⟨-, h2, h3⟩ := bare_top h0
 refine ⟨dg16_mono (bare_n_le t), by omega, by omega⟩
end Go.Proofs.YtnhackdjplppjaaGreatDoor
namespace Go.Proofs.YtnhackdjplppjaaGreatDoor
open Go.RowKit
theorem bare_own {s : Bool} {a : Trip} (h : a.n ≠ 0) (hs : a.s = s) : (⟨s, (bare a).n, (bare a).e⟩ : Trip) = bare a := by
 unfold bare
 rw [if_neg h, ← hs]
theorem back_value {k : Nat} (hk : 1 ≤ k ∧ k ≤ 8) {ng : Bool} {E F : Nat} (hE : E < 2 ^ exN k) (hF : F < 2 ^ frN k) (hF64 : F < 2 ^ 64) (hc : clsN k ng E F = 2) (h0 : plcN k E F ≠ 0) :
  bare ⟨ng, valM k ng E F, (widthN (rdN k : Int) : Int) * valP k ng E F⟩ = bare ⟨ng, plcN k E F, (widthN (rdN k : Int) : Int) * plcP k E⟩ := by
 have hT := refT_num hk hE hF hc
 rw [wdI_nat] at hT
 by_cases hr : rdN k = 2
 ·obtain ⟨v1, v2⟩ := val2 hk hE hF hF64 hc hr
  have hw : widthN (rdN k : Int) = 1 := by rw [hr]; rfl
  rw [v1, v2, hT, hw, show ((1 : Nat) : Int) * (bare ⟨ng, plcN k E F, ((1 : Nat) : Int) * plcP k E⟩).e = (bare ⟨ng, plcN k E F, ((1 : Nat) : Int) * plcP k E⟩).e from by omega, bare_own (a := ⟨ng, plcN k E F, ((1 : Nat) : Int) * plcP k E⟩) h0 rfl, bare_bare]
 ·have hr16 : rdN k = 16 := by rcases eight hk with rfl | rfl | rfl | rfl | rfl | rfl | rfl | rfl <;> revert hr <;> decide
  obtain ⟨v1, v2, v3⟩ := val16 hk hE hF hF64 hc hr16
  have hw : widthN (rdN k : Int) = 4 := by rw [hr16]; rfl
  rw [hw] at hT ⊢
  rw [v3, hT]
  rw [hT] at v1
  have hp := (one_parts ng (bare ⟨ng, plcN k E F, ((4 : Nat) : Int) * plcP k E⟩).n (bare ⟨ng, plcN k E F, ((4 : Nat) : Int) * plcP k E⟩).e (((4 : Nat) : Int) * valP k ng E F) (by omega)).2
  rw [parts_one] at hp
  rw [show (4 : Int) * valP k ng E F = ((4 : Nat) : Int) * valP k ng E F from rfl, hp, bare_own (a := ⟨ng, plcN k E F, ((4 : Nat) : Int) * plcP k E⟩) h0 rfl, bare_bare]
theorem frN_64 {k : Nat} (hk : 1 ≤ k ∧ k ≤ 8) {f : Nat} (h : f < 2 ^ frN k) : f < 2 ^ 64 :=
 Nat.lt_of_lt_of_le h (Nat.pow_le_pow_right (by omega) (sizes_fit hk).2.2.2.1)
end Go.Proofs.YtnhackdjplppjaaGreatDoor
namespace Go.Proofs.YtnhackdjplppjaaGreatDoor
open Go.RowKit
theorem strip_le (r : Nat) : ∀ (n d : Nat) (p : Int), (stripF r n d p).1 ≤ d
 | 0, d, p => Nat.le_refl _
 | n + 1, d, p => by
  unfold stripF
  split
  ·exact Nat.le_trans (strip_le r n _ _) (Nat.div_le_self _ _)
  ·exact Nat.le_refl _
end Go.Proofs.YtnhackdjplppjaaGreatDoor
namespace Go.Proofs.YtnhackdjplppjaaGreatDoor
open Go.RowKit
theorem fld_lt (k : Nat) (s : ByteArray) : fldE k s < 2 ^ exN k ∧ fldF k s < 2 ^ frN k := ⟨bitsV_lt _ _ _, bitsV_lt _ _ _⟩
end Go.Proofs.YtnhackdjplppjaaGreatDoor
namespace Go.Proofs.YtnhackdjplppjaaGreatDoor
open Go.RowKit
theorem shortT_nil (s : Bool) (e : Int) : shortT ⟨s, 0, e⟩ = (⟨false, 0, 0⟩, 0) := by
 have hb : bare ⟨s, 0, e⟩ = ⟨false, 0, 0⟩ := by simp [bare]
 unfold shortT
 rw [hb]
 simp only
 rw [show Dg.dg 4294967296 0 = [] from (Dg.dg_nil_iff _ _ (by omega)).2 rfl]
 rfl
def nxT (k : Nat) (s : ByteArray) : Trip := refT k (fldN k s) (fldE k s) (fldF k s)
theorem wdI_is {k : Nat} (hk : 1 ≤ k ∧ k ≤ 8) : wdI (rdN k : Int) = (widthN (rdN k : Int) : Int) := by
 rcases eight hk with rfl | rfl | rfl | rfl | rfl | rfl | rfl | rfl <;> decide
theorem refT_zero {k : Nat} (hk : 1 ≤ k ∧ k ≤ 8) {ng : Bool} {E F : Nat} (hc : clsN k ng E F = 1) : refT k ng E F = ⟨false, 0, 0⟩ := by
 have key : ∀ (s : Bool) (e : Int), bare ⟨s, 0, e⟩ = ⟨false, 0, 0⟩ := fun s e => by simp [bare]
 have h2 : 2 ≤ 2 ^ exN k := by
  rcases eight hk with rfl | rfl | rfl | rfl | rfl | rfl | rfl | rfl <;> decide
 unfold clsN at hc
 unfold refT
 by_cases h3 : k ≤ 3
 ·rw [if_pos h3] at hc
  by_cases he : E = 0
  ·rw [if_pos he] at hc
   by_cases hf : F = 0
   ·subst he hf
    by_cases h4 : k = 3
    ·rw [if_pos h4, if_neg (by rintro (h | h) <;> omega)]
     exact key _ _
    ·rw [if_neg h4, if_pos (by omega), if_neg (by omega), if_neg (by omega)]
     exact key _ _
   ·rw [if_neg hf] at hc
    omega
  ·rw [if_neg he] at hc
   exfalso
   repeat' split at hc
   all_goals omega
 ·rw [if_neg h3] at hc
  rw [if_neg (show ¬ k = 3 by omega), if_neg (show ¬ k ≤ 2 by omega)]
  by_cases h5 : k ≤ 5
  ·rw [if_pos h5] at hc ⊢
   by_cases hf : F = 0
   ·subst hf
    exact key _ _
   ·rw [if_neg hf] at hc
    omega
  ·rw [if_neg h5] at hc ⊢
   by_cases he : E = 0
   ·rw [if_pos he]
   ·rw [if_neg he] at hc
    omega
theorem plc_range {k : Nat} (hk : 1 ≤ k ∧ k ≤ 8) {E : Nat} (hE : E < 2 ^ exN k) : -16445 ≤ (widthN (rdN k : Int) : Int) * plcP k E ∧ (widthN (rdN k : Int) : Int) * plcP k E ≤ 16400 ∧ -16445 ≤ plcP k E ∧ plcP k E ≤ 16400 := by
 have hf : (rdN k = 16 ∧ widthN (rdN k : Int) = 4 ∧ -78 ≤ lsI k ∧ lsI k ≤ 0 ∧ 2 ^ exN k = 128) ∨ (rdN k ≠ 16 ∧ widthN (rdN k : Int) = 1 ∧ -16445 ≤ lsI k ∧ lsI k + ((2 ^ exN k : Nat) : Int) ≤ 16400) := by
  rcases eight hk with rfl | rfl | rfl | rfl | rfl | rfl | rfl | rfl <;> decide
 unfold plcP
 rcases hf with ⟨h1, h2, h3, h4, h5⟩ | ⟨h1, h2, h3, h4⟩
 ·rw [if_pos h1, h2]
  omega
 ·rw [if_neg h1, h2]
  split <;> omega
theorem valM_lt {k : Nat} (hk : 1 ≤ k ∧ k ≤ 8) (ng : Bool) (E : Nat) {F : Nat} (hF : F < 2 ^ 64) : valM k ng E F < 2 ^ 64 := by
 unfold valM
 split
 ·exact Nat.lt_of_le_of_lt (strip_le _ _ _ _) (plcN_lt hk E hF)
 ·decide
theorem valP_in {k : Nat} (hk : 1 ≤ k ∧ k ≤ 8) {ng : Bool} {E F : Nat} (hE : E < 2 ^ exN k) (hF : F < 2 ^ frN k) (hc : clsN k ng E F = 2) :
  -16445 ≤ (refT k ng E F).e ∧ (refT k ng E F).e ≤ 16464 ∧ -16460 ≤ valP k ng E F ∧ valP k ng E F ≤ 16464 := by
 have h64 := frN_64 hk hF
 obtain ⟨p1, p2, -, -⟩ := plc_range hk hE
 have hT := refT_num hk hE hF hc
 rw [wdI_is hk] at hT
 have hp := plcN_pos hc
 have hl := plcN_lt hk E h64
 have hb := bare_small (t := ⟨ng, plcN k E F, (widthN (rdN k : Int) : Int) * plcP k E⟩) (Nat.ne_of_gt hp)
 have hbl : bitLen (plcN k E F) ≤ 64 := bitLen_le_of _ _ hl
 rw [← hT] at hb
 simp only at hb
 obtain ⟨-, b1, b2⟩ := hb
 refine ⟨by omega, by omega, ?_⟩
 have hr : rdN k = 2 ∨ rdN k = 16 := by
  rcases eight hk with rfl | rfl | rfl | rfl | rfl | rfl | rfl | rfl <;> decide
 rcases hr with hr | hr
 ·have := (val2 hk hE hF h64 hc hr).2
  omega
 ·have := val16 hk hE hF h64 hc hr
  omega
theorem num_is {k : Nat} (hk : 1 ≤ k ∧ k ≤ 8) (s : ByteArray) (hc : clsN k (fldN k s) (fldE k s) (fldF k s) = 1 ∨ clsN k (fldN k s) (fldE k s) (fldF k s) = 2) :
  dbothR (placeC (Dg.dg 4294967296 (valM k (fldN k s) (fldE k s) (fldF k s))) (valP k (fldN k s) (fldE k s) (fldF k s)) (rdN k : Int) (dgN k : Int) (lsI k) (gsI k)) ⟨valG k (fldN k s) (fldE k s) (fldF k s), Dg.vl 4294967296 (Dg.dg 4294967296 (valM k (fldN k s) (fldE k s) (fldF k s))), (widthN (rdN k : Int) : Int) * valP k (fldN k s) (fldE k s) (fldF k s)⟩ = (nxT k s, 0) := by
 obtain ⟨s1, s2⟩ := fld_lt k s
 have h64 := frN_64 hk s2
 have hgr := (fmt_fit hk).2.2.2.2.2.2.2.2.2.2.2
 unfold nxT
 generalize fldN k s = ng at *
 generalize fldE k s = E at *
 generalize fldF k s = F at *
 rw [Dg.vl_dg _ _ (by omega)]
 have hm : (Dg.dg 4294967296 (valM k ng E F)).length ≤ 2 := Dg.dg_len_le 4294967296 _ 2 (by omega) (Nat.lt_of_lt_of_le (valM_lt hk ng E h64) (by decide))
 have hck : chk (Dg.dg 4294967296 (valM k ng E F)) = 0 := (dchk_zero (dchk_of (n := valM k ng E F) (e := 0) (by omega) (by omega) (by omega))).1
 rcases hc with hc | hc
 ·have hM : valM k ng E F = 0 := if_neg (by omega)
  have hP : valP k ng E F = 0 := if_neg (by omega)
  rw [hP, placeC_fine hck hgr (by decide), hM, refT_zero hk hc]
  exact shortT_nil _ _
 ·obtain ⟨v1, v2, v3, v4⟩ := valP_in hk s1 s2 hc
  rw [placeC_fine hck hgr (by unfold farB; simp; omega)]
  have hb := back_value hk s1 s2 h64 hc (Nat.ne_of_gt (plcN_pos hc))
  have hT := refT_num hk s1 s2 hc
  rw [wdI_is hk] at hT
  have hG : valG k ng E F = ng := by
   unfold valG
   rw [if_pos (by omega)]
  rw [hG]
  show shortT _ = _
  rw [hT, ← hb]
  rw [hT, ← hb] at v1 v2
  exact short_of (Nat.le_trans (dg_len_mono _ _ _ (by omega) (bare_n_le _)) (by simp only; omega)) (by omega) (by omega)
theorem nx_num {k : Nat} (hk : 1 ≤ k ∧ k ≤ 8) (s : ByteArray) (hc : clsN k (fldN k s) (fldE k s) (fldF k s) = 1 ∨ clsN k (fldN k s) (fldE k s) (fldF k s) = 2) :
  dchk (Dg.dg 4294967296 (nxT k s).n) (nxT k s).e = 0 ∧ bare ⟨(nxT k s).s, (nxT k s).n, (nxT k s).e⟩ = nxT k s := by
 obtain ⟨h1, h2⟩ := en_short (num_is hk s hc)
 refine ⟨h2, ?_⟩
 rw [show (⟨(nxT k s).s, (nxT k s).n, (nxT k s).e⟩ : Trip) = nxT k s from rfl, h1]
 exact bare_bare _
end Go.Proofs.YtnhackdjplppjaaGreatDoor
namespace Go.Proofs.YtnhackdjplppjaaGreatDoor
open Go.RowKit
def opT (n : Int) (p : ByteArray) : Trip := if patC n p = 0 then nxT n.toNat p else ⟨false, 0, 0⟩
def opC (n : Int) (p : ByteArray) (v : Value) : List Value := [.int .i64 ((decC n p : Nat) : Int), .bool (decG n p), .bool (opT n p).s, v, .int .i64 (opT n p).e]
def OpAt (w : World) (n : Int) (g : Option Nat) (p : ByteArray) (v : Value) : Prop :=
 (∃ so sc, v = .slice so (Dg.dg 4294967296 (opT n p).n).length sc) ∧ Rd w .u32 v (Dg.dg 4294967296 (opT n p).n) ∧ ∀ b, g = some b → OffB b v (Dg.dg 4294967296 (opT n p).n)
def OpsAt (w : World) (n : Int) (g : Option Nat) : List ByteArray → List Value → Prop
 | [], cs => cs = []
 | p :: ps, cs => ∃ v rest, cs = opC n p v ++ rest ∧ OpAt w n g p v ∧ OpsAt w n g ps rest
theorem OpsAt.mono {w w' : World} {n : Int} {g g' : Option Nat} (h : ∀ p v, OpAt w n g p v → OpAt w' n g' p v) : ∀ {ps : List ByteArray} {cs : List Value}, OpsAt w n g ps cs → OpsAt w' n g' ps cs
 | [], _, hc => hc
 | p :: _, _, hc => by
  obtain ⟨v, rest, h1, h2, h3⟩ := hc
  exact ⟨v, rest, h1, h p v h2, OpsAt.mono h h3⟩
theorem OpsAt.snoc {w : World} {n : Int} {g : Option Nat} {p : ByteArray} {v : Value} (hv : OpAt w n g p v) : ∀ {ps : List ByteArray} {cs : List Value}, OpsAt w n g ps cs → OpsAt w n g (ps ++ [p]) (cs ++ opC n p v)
 | [], cs, hc => by
  have : cs = [] := hc
  subst this
  exact ⟨v, [], by simp, hv, rfl⟩
 | q :: _, _, hc => by
  obtain ⟨u, rest, h1, h2, h3⟩ := hc
  subst h1
  exact ⟨u, rest ++ opC n p v, by simp, h2, OpsAt.snoc hv h3⟩
def errL (n : Int) : List ByteArray → Int
 | [] => 0
 | p :: ps => if patC n p = 0 then errL n ps else patC n p
def OpsRes (w : World) (n : Int) (ps : List ByteArray) (z : Ending) (w' : World) : Prop :=
 (errL n ps = 0 ∧ ∃ v cs, z = .returned (.tuple #[v, .int .i64 0]) ∧ w'.ownsRow w.heap.size 98 5 v ps.length cs ∧ OpsAt w' n v.ownBlock ps cs ∧ Below w.heap.size w w') ∨
 (errL n ps ≠ 0 ∧ z = .returned (.tuple #[.slice none 0 0, .int .i64 (errL n ps)]) ∧ Below w.heap.size w w')
def OpsI (w : World) (n : Int) (ps : List ByteArray) (i : Nat) (lv : Value) (wr : World) : Prop :=
 ∃ cs, wr.ownsRow (w.heap.size + 1) 98 5 lv i cs ∧ OpsAt wr n lv.ownBlock (ps.take i) cs ∧ errL n ps = errL n (ps.drop i)
theorem own_row_later {w w' : World} {base e size k : Nat} {v : Value} {xs : List Value} (h : w.ownsRow base e size v k xs) (hb : Below w.heap.size w w') : w'.ownsRow base e size v k xs := by
 obtain ⟨hl, h2⟩ := h
 refine ⟨hl, ?_⟩
 rcases h2 with h2 | ⟨g, cap, cur, hv, hbg, hh, r⟩
 ·exact .inl h2
 ·refine .inr ⟨g, cap, cur, hv, hbg, ?_, r⟩
  rw [hb.block g ?_]
  ·exact hh
  ·rw [Array.getElem?_eq_some_iff] at hh
   exact hh.1
theorem OpAt.later {w w' : World} {n : Int} {g : Option Nat} {p : ByteArray} {v : Value} (h : OpAt w n g p v) (hb : Below w.heap.size w w') : OpAt w' n g p v := ⟨h.1, h.2.1.later hb, h.2.2⟩
theorem OpsI.later {w wr w' : World} {n : Int} {ps : List ByteArray} {i : Nat} {lv : Value} (h : OpsI w n ps i lv wr) (hb : Below wr.heap.size wr w') : OpsI w n ps i lv w' := by
 obtain ⟨cs, h1, h2, h3⟩ := h
 exact ⟨cs, own_row_later h1 hb, h2.mono (fun p v k => k.later hb), h3⟩
theorem rd_grown {w w' : World} {g : Nat} {k : IntKind} {v : Value} {zs : List Nat} (r : Rd w k v zs) (hg : w.grownBy w' (some g)) (ho : OffB g v zs) : Rd w' k v zs := by
 obtain ⟨ao, cap, rfl, h1, h2, h3⟩ := r
 refine ⟨ao, cap, rfl, h1, h2, fun hp => ?_⟩
 obtain ⟨b, off, rfl, h4⟩ := h3 hp
 refine ⟨b, off, rfl, fun i hi => ?_⟩
 have h5 := h4 i hi
 have hlt : b < w.heap.size := World.block_lt_of_cell? w _ h5
 have hne : b ≠ g := ho hp _ _ _ rfl
 rw [← h5]
 unfold World.cell?
 simp only
 rw [hg.block b hlt (fun e => hne (Option.some.inj e))]
theorem LocE.grownO {w w' : World} {b : Nat} {ty : TypeId} {vs : List Value} {row : Option Nat} (h : LocE w b ty vs) (hg : w.grownBy w' row) (hne : ∀ g, row = some g → b ≠ g) : LocE w' b ty vs :=
 (hg.block b h.lt (fun e => hne b e.symm rfl)).trans h
theorem own_row_wider {w : World} {base base' e size k : Nat} {v : Value} {xs : List Value} (h : w.ownsRow base e size v k xs) (hb : base' ≤ base) : w.ownsRow base' e size v k xs := by
 obtain ⟨hl, h2⟩ := h
 refine ⟨hl, ?_⟩
 rcases h2 with h2 | ⟨g, cap, cur, hv, hbg, r⟩
 ·exact .inl h2
 ·exact .inr ⟨g, cap, cur, hv, Nat.le_trans hb hbg, r⟩
theorem ops_more {w w1 w2 : World} {n : Int} {ps : List ByteArray} {i : Nat} {lv v' x : Value} {p : ByteArray} {cs : List Value} (hp : ps[i]? = some p) (he : patC n p = 0) (h2 : OpsAt w1 n lv.ownBlock (ps.take i) cs) (h3 : errL n ps = errL n (ps.drop i)) (hx : OpAt w1 n lv.ownBlock p x)
  (hown : w2.ownsRow (w.heap.size + 1) 98 5 v' (i + 1) (cs ++ opC n p x)) (hg : w1.grownBy w2 lv.ownBlock) (hat : v'.ownBlock = lv.ownBlock ∨ v'.ownBlock = some w1.heap.size) :
  OpsI w n ps (i + 1) v' w2 := by
 have hil : i < ps.length := by
  rw [List.getElem?_eq_some_iff] at hp
  exact hp.1
 have hm : ∀ q v, OpAt w1 n lv.ownBlock q v → OpAt w2 n v'.ownBlock q v := fun q v k => by
  obtain ⟨k1, k2, k3⟩ := k
  refine ⟨k1, ?_, ?_⟩
  ·obtain ⟨so, sc, rfl⟩ := k1
   cases hb : lv.ownBlock with
   | none => exact k2.later ⟨hg.os, hg.tape, hg.output, hg.size, fun j hj => hg.block j hj (by rw [hb]; exact fun e => nomatch e)⟩
   | some b => exact rd_grown k2 (hb ▸ hg) (k3 b hb)
  ·intro b hb
   rcases hat with e | e
   ·exact k3 b (by rw [← e]; exact hb)
   ·have hbw : b = w1.heap.size := by rw [e] at hb; exact (Option.some.inj hb).symm
    exact rd_offNew k2 (by omega)
 refine ⟨_, hown, ?_, ?_⟩
 ·rw [List.take_add_one, hp]
  exact (h2.mono hm).snoc (hm p x hx)
 ·rw [h3]
  have hd : ps.drop i = p :: ps.drop (i + 1) := by
   rw [List.drop_eq_getElem_cons hil]
   congr 1
   rw [List.getElem?_eq_getElem hil] at hp
   exact Option.some.inj hp
  rw [hd]
  exact if_pos he
end Go.Proofs.YtnhackdjplppjaaGreatDoor
namespace Go.Proofs.YtnhackdjplppjaaGreatDoor
open Go.RowKit
theorem ops_get {w : World} {n : Int} {g : Option Nat} : ∀ {ps : List ByteArray} {cs : List Value} {i : Nat} {p : ByteArray}, OpsAt w n g ps cs → ps[i]? = some p → ∃ v, OpAt w n g p v ∧ ∀ j u, (opC n p v)[j]? = some u → cs[5 * i + j]? = some u
 | [], _, _, _, _, hp => by simp at hp
 | q :: ps, cs, 0, p, hc, hp => by
  obtain ⟨v, rest, h1, h2, h3⟩ := hc
  have : q = p := by simpa using hp
  subst this
  refine ⟨v, h2, fun j u hj => ?_⟩
  subst h1
  rw [List.getElem?_append_left]
  ·simpa using hj
  ·have := (List.getElem?_eq_some_iff.1 hj).1
   omega
 | q :: ps, cs, i + 1, p, hc, hp => by
  obtain ⟨v, rest, h1, h2, h3⟩ := hc
  obtain ⟨u, h4, h5⟩ := ops_get h3 (by simpa using hp)
  refine ⟨u, h4, fun j x hj => ?_⟩
  subst h1
  rw [List.getElem?_append_right (by simp [opC]; omega)]
  have := h5 j x hj
  rw [show 5 * (i + 1) + j - (opC n q v).length = 5 * i + j from by simp [opC]; omega]
  exact this
structure OpsV (w : World) (n : Int) (ps : List ByteArray) (g cap : Nat) : Prop where
 fit : ps.length ≤ cap
 most : cap ≤ maxLen
 each : ∀ (i : Nat) p, ps[i]? = some p → ∃ so sc, w.rangeAt g (i * 5) (opC n p (.slice so (Dg.dg 4294967296 (opT n p).n).length sc)) ∧ Rd w .u32 (.slice so (Dg.dg 4294967296 (opT n p).n).length sc) (Dg.dg 4294967296 (opT n p).n)
theorem range_later {w w' : World} {g o : Nat} {cs : List Value} (h : w.rangeAt g o cs) (hb : Below w.heap.size w w') : w'.rangeAt g o cs := fun j v hv => by
 have := h j v hv
 rw [← this]
 exact World.cell?_of_block (hb.block g (World.block_lt_of_cell? w _ this))
theorem OpsV.later {w w' : World} {n : Int} {ps : List ByteArray} {g cap : Nat} (h : OpsV w n ps g cap) (hb : Below w.heap.size w w') : OpsV w' n ps g cap :=
 ⟨h.fit, h.most, fun i p hp => by
  obtain ⟨so, sc, h1, h2⟩ := h.each i p hp
  exact ⟨so, sc, range_later h1 hb, h2.later hb⟩⟩
theorem opsV_of {w : World} {n : Int} {ps : List ByteArray} {base : Nat} {v : Value} {cs : List Value} (h0 : ps ≠ []) (ho : w.ownsRow base 98 5 v ps.length cs) (hat : OpsAt w n v.ownBlock ps cs) :
  ∃ g cap, v = .slice (some ⟨g, 0, none⟩) ps.length cap ∧ OpsV w n ps g cap := by
 rcases ho.2 with ⟨-, h⟩ | ⟨g, cap, cur, hv, -, -, h1, h2, -, -⟩
 ·exact absurd (List.eq_nil_of_length_eq_zero h) h0
 ·refine ⟨g, cap, hv, h1, h2, fun i p hp => ?_⟩
  obtain ⟨u, ⟨⟨so, sc, rfl⟩, k2, k3⟩, k4⟩ := ops_get hat hp
  refine ⟨so, sc, fun j x hj => ?_, k2⟩
  have := ho.cells (g := g) (by rw [hv]; rfl) (5 * i + j) x (k4 j x hj)
  rw [Addr.add_mid, Nat.zero_add] at this
  rw [Nat.mul_comm i 5]
  exact this
end Go.Proofs.YtnhackdjplppjaaGreatDoor

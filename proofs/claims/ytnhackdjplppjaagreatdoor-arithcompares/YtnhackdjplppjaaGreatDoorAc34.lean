/-
  Texts laid together: Ce10, Ce11, Em1.
-/
import Derived.Test.YtnhackdjplppjaaGreatDoorAc26
import Derived.Test.YtnhackdjplppjaaGreatDoorAc29
import Derived.Test.YtnhackdjplppjaaGreatDoorAc32
import Derived.Test.YtnhackdjplppjaaGreatDoorAc33
namespace Go.Proofs.YtnhackdjplppjaaGreatDoor
open Go.RowKit
theorem rd_one {w : World} {q : Nat} (h : w.cell? ⟨q, 0, none⟩ = some (.int .u32 1)) : Rd w .u32 (.slice (some ⟨q, 0, none⟩) 1 1) [1] :=
 ⟨_, 1, rfl, Nat.le_refl _, by unfold maxLen; omega, fun _ => ⟨q, 0, rfl, fun i hi => by
  obtain rfl : i = 0 := by simpa using hi
  exact h⟩⟩
theorem bareN_nil (a : Trip) : (bare a).n = 0 ↔ a.n = 0 := by
 by_cases h : a.n = 0
 ·unfold bare
  rw [if_pos h]
  exact ⟨fun _ => h, fun _ => rfl⟩
 ·unfold bare
  rw [if_neg h]
  obtain ⟨m, hm⟩ := tz_spec h
  have := div_tz hm
  exact ⟨fun h2 => by simp only at h2; omega, fun h2 => absurd h2 h⟩
theorem leadN_lt64 {k : Nat} (hk : 1 ≤ k ∧ k ≤ 8) : leadN k < 18446744073709551616 := by
 rcases eight hk with rfl | rfl | rfl | rfl | rfl | rfl | rfl | rfl <;> decide
def heE (R L : Int) (ld : Nat) (t : PlaceT) : Nat := (t.p - L).toNat + if R = 2 ∧ t.d &&& ld ≠ 0 then 1 else 0
set_option maxHeartbeats 1600000 in
theorem held_pay (R D L G fam : Int) (gr : Bool) (sz ex : Nat) (F ld : Nat) (s : Bool) (ao : Option Addr) (ca : Nat) (xs : List Nat) (E : Int) (w : World) (WB : Bool → Nat → Nat → ByteArray)
  (hr : Rd w .u32 (.slice ao xs.length ca) xs) (sa : Dg.Small 4294967296 xs) (hd : dchk xs E = 0) (h0 : Dg.vl 4294967296 xs ≠ 0) (hg : gridC R D L G = 0) (h1 : 1 ≤ D) (hLG : L ≤ G) (hD : widthN R * D.toNat ≤ 64) (hGL : G - L < 60000) (hRc : R = 2 ∨ R = 16) (hld : ld < 18446744073709551616)
  (hh : heldB R D L G gr (Dg.vl 4294967296 xs) E = true)
  (HL : ∀ w1, Calls Tryz.prog 198 #[.agg #[.int .i64 R, .int .i64 D, .int .i64 L, .int .i64 G, .bool gr, .int .i64 (sz : Int), .int .i64 (ex : Int), .int .i64 fam, .func (.func F) #[] #[]]] w1 fun z w' => z = .returned (.int .u64 (ld : Int)) ∧ Below w1.heap.size w1 w')
  (HW : ∀ ng e f w1, e < 65536 → f < 18446744073709551616 → Calls Tryz.prog 158 #[.agg #[.int .i64 R, .int .i64 D, .int .i64 L, .int .i64 G, .bool gr, .int .i64 (sz : Int), .int .i64 (ex : Int), .int .i64 fam, .func (.func F) #[] #[]], .agg #[.bool ng, .int .i64 ((e : Nat) : Int), .int .u64 ((f : Nat) : Int)]] w1 fun z w' => z = .returned (.string (WB ng e f)) ∧ Below w1.heap.size w1 w') :
  Calls Tryz.prog 155 #[.agg #[.int .i64 R, .int .i64 D, .int .i64 L, .int .i64 G, .bool gr, .int .i64 (sz : Int), .int .i64 (ex : Int), .int .i64 fam, .func (.func F) #[] #[]], .agg #[.bool s, .slice ao xs.length ca, .int .i64 E]] w fun z w' => z = .returned (.tuple #[.string (WB (roundT R D L G gr s (Dg.vl 4294967296 xs) 1 E 3).s (heE R L ld (roundT R D L G gr s (Dg.vl 4294967296 xs) 1 E 3)) (roundT R D L G gr s (Dg.vl 4294967296 xs) 1 E 3).d), .int .i64 0]) ∧ Below w.heap.size w w' := by
 obtain ⟨c1, e1, e2⟩ := dchk_zero hd
 have hlen : xs.length ≠ 0 := fun h => h0 (by rw [List.eq_nil_of_length_eq_zero h]; rfl)
 have hC : roundC xs [1] E R D L G 3 = 0 := by
  have hq : ratioC xs [1] E = 0 := by
   unfold ratioC
   rw [if_pos c1, if_pos (show chk [1] = 0 by decide), if_neg]
   rintro (h | h)
   ·simp at h
   ·unfold farB at h
    simp at h
    omega
  have hw : wrongG (ratioC xs [1] E) (gridC R D L G) = 0 := by unfold wrongG; rw [if_pos hq]; exact hg
  unfold roundC
  rw [if_pos hw, if_pos (by decide)]
 have hP : roundP xs [1] E R D L G gr s 3 = roundT R D L G gr s (Dg.vl 4294967296 xs) 1 E 3 := by
  unfold roundP
  rw [if_pos hC, if_neg hlen]
  rfl
 obtain ⟨hov, hun, hbare⟩ := held_round (s := s) (way := 3) h1 hLG h0 hh
 have hsp := round_spot h1 hLG h0 (by omega : (1 : Nat) ≠ 0) hov hun
 have hR := fun q w1 (b : Below w.heap.size w w1) (hc : w1.cell? ⟨q, 0, none⟩ = some (.int .u32 1)) => gRound_any s ao ca xs (some ⟨q, 0, none⟩) 1 [1] E R D L G gr 3 w1 (hr.later b) (rd_one hc) sa (fun i => by
  match i with
  | 0 => decide
  | i + 1 => simp)
 rw [hC, hP] at hR
 obtain ⟨t, ht⟩ : ∃ t, roundT R D L G gr s (Dg.vl 4294967296 xs) 1 E 3 = t := ⟨_, rfl⟩
 rw [ht] at hsp hbare hR ⊢
 have hd0 : t.d ≠ 0 := fun h => by
  have hz := congrArg Trip.n hbare
  have a1 := (bareN_nil ⟨t.s, t.d, (widthN R : Int) * t.p⟩).2 h
  rw [hz] at a1
  exact h0 ((bareN_nil ⟨s, Dg.vl 4294967296 xs, E⟩).1 a1)
 obtain ⟨-, hp1, hp2, hdl, -⟩ := hsp.resolve_left (fun h => hd0 h.1)
 have hd64 : t.d < 18446744073709551616 := by
  have : (2 : Nat) ^ (widthN R * D.toNat) ≤ 2 ^ 64 := Nat.pow_le_pow_right (by omega) hD
  omega
 clear ht hov hun hbare hsp hC hP hh
 obtain ⟨e, he⟩ : ∃ e : Nat, t.p - L = (e : Int) := ⟨(t.p - L).toNat, by omega⟩
 have hel : e < 60000 := by omega
 have hew : IntKind.i64.wrap (t.p - L) = (e : Int) := by rw [he]; exact IntWalk.i64_in _ ⟨by omega, by omega⟩
 have hzl : (Dg.dg 4294967296 t.d).length ≤ 2 := Dg.dg_len_le 4294967296 t.d 2 (by omega) hd64
 have hzp : 0 < (Dg.dg 4294967296 t.d).length := List.length_pos_iff.2 (by rw [Ne, Dg.dg_nil_iff 4294967296 t.d (by omega)]; exact hd0)
 have HWd : ∀ po pc w1, Rd w1 .u32 (.slice po (Dg.dg 4294967296 t.d).length pc) (Dg.dg 4294967296 t.d) → ∀ w2, Below w1.heap.size w1 w2 → Calls Tryz.prog 226 #[.slice po (Dg.dg 4294967296 t.d).length pc] w2 fun z w' => z = .returned (.int .u64 (t.d : Int)) ∧ w2 = w' := fun po pc w1 h w2 b => by
  have := word_any _ _ w2 (h.later b) (Dg.small_dg 4294967296 t.d (by omega)) hzl
  rw [Dg.vl_dg 4294967296 t.d (by omega)] at this
  exact this.mono (fun _ _ h => ⟨h.1, h.2.symm⟩)
 have hen : (t.p - L).toNat = e := by omega
 unfold heE
 rw [hen]
 have HR2 : ∀ q w1, Below w.heap.size w w1 → w1.cell? ⟨q, 0, none⟩ = some (.int .u32 1) → Calls Tryz.prog 86 #[.agg #[.bool s, .slice ao xs.length ca, .slice (some ⟨q, 0, none⟩) 1 1, .int .i64 E], .agg #[.int .i64 R, .int .i64 D, .int .i64 L, .int .i64 G, .bool gr], .int .i64 3] w1 fun z w' => ∃ po pc, z = .returned (.tuple #[.agg #[.bool t.s, .slice po (Dg.dg 4294967296 t.d).length pc, .int .i64 t.p, .bool t.ex, .bool t.ov, .bool t.un], .int .i64 0]) ∧ Rd w' .u32 (.slice po (Dg.dg 4294967296 t.d).length pc) (Dg.dg 4294967296 t.d) ∧ Below w1.heap.size w1 w' := fun q w1 b hc => (hR q w1 b hc).mono (fun z w' h => by
  obtain ⟨v, rfl, own, b2⟩ := h
  obtain ⟨po, pc, hv⟩ := own.rd.shape
  subst hv
  exact ⟨po, pc, rfl, own.rd, b2⟩)
 rcases hRc with rfl | rfl
 ·by_cases hb : t.d &&& ld = 0
  ·rw [if_neg (fun h => h.2 hb), Nat.add_zero]
   exact heldW_num _ D L G fam gr sz ex F s ao xs.length ca E w (Dg.dg 4294967296 t.d) _ t.s t.ex t.ov t.un t.p 0 HR2 t.s e t.d (fun po pc w1 _ h => fieldsOf_low D L G fam gr sz ex F t.s t.ex t.ov t.un po _ pc t.p e t.d w1 hew (by omega) (HWd po pc w1 h) ld 0 (by rw [u64_and_nat t.d ld hd64 hld, hb]; rfl) rfl HL) _ (fun w1 => HW t.s e t.d w1 (by omega) hd64) rfl hzp
  ·rw [if_pos ⟨rfl, hb⟩]
   have hF : ∀ po pc w1, Below w.heap.size w w1 → Rd w1 .u32 (.slice po (Dg.dg 4294967296 t.d).length pc) (Dg.dg 4294967296 t.d) → _ := fun po pc w1 _ h => fieldsOf_set D L G fam gr sz ex F t.s t.ex t.ov t.un po _ pc t.p e t.d w1 hew (by omega) (HWd po pc w1 h) ld ((t.d &&& ld : Nat) : Int) (u64_and_nat t.d ld hd64 hld) (by omega) HL
   exact heldW_num _ D L G fam gr sz ex F s ao xs.length ca E w (Dg.dg 4294967296 t.d) _ t.s t.ex t.ov t.un t.p 0 HR2 t.s (e + 1) t.d hF _ (fun w1 => HW t.s (e + 1) t.d w1 (by omega) hd64) rfl hzp
 ·rw [if_neg (fun h => by have := h.1; omega), Nat.add_zero]
  exact heldW_num _ D L G fam gr sz ex F s ao xs.length ca E w (Dg.dg 4294967296 t.d) _ t.s t.ex t.ov t.un t.p 0 HR2 t.s e t.d (fun po pc w1 _ h => fieldsOf_hex D L G fam gr sz ex F t.s t.ex t.ov t.un po _ pc t.p e t.d w1 hew (by omega) (HWd po pc w1 h)) _ (fun w1 => HW t.s e t.d w1 (by omega) hd64) rfl hzp
def gsI : Nat → Int
 | 1 => 104 | 2 => 971 | 3 => 16320 | 4 => 57 | 5 => 49 | 6 => 103 | 7 => 71 | 8 => 970 | _ => 0
def plT (k : Nat) (s : Bool) (n : Nat) (E : Int) : PlaceT := roundT (rdN k : Int) (dgN k : Int) (lsI k) (gsI k) (decide (k ≤ 3)) s n 1 E 3
theorem encodeHeld_any (k : Nat) (hk : 1 ≤ k ∧ k ≤ 8) (s : Bool) (ao : Option Addr) (ca : Nat) (xs : List Nat) (E : Int) (w : World) (hr : Rd w .u32 (.slice ao xs.length ca) xs) (sa : Dg.Small 4294967296 xs) (hd : dchk xs E = 0) (h0 : Dg.vl 4294967296 xs ≠ 0)
  (hh : heldB (rdN k : Int) (dgN k : Int) (lsI k) (gsI k) (decide (k ≤ 3)) (Dg.vl 4294967296 xs) E = true) :
  Calls Tryz.prog 155 #[.agg (layV k).toArray, .agg #[.bool s, .slice ao xs.length ca, .int .i64 E]] w fun z w' => z = .returned (.tuple #[.string (strOf (wrtB k (plT k s (Dg.vl 4294967296 xs) E).s (heE (rdN k : Int) (lsI k) (leadN k) (plT k s (Dg.vl 4294967296 xs) E)) (plT k s (Dg.vl 4294967296 xs) E).d)), .int .i64 0]) ∧ Below w.heap.size w w' := by
 have HL := fun w1 => llead_any k hk w1
 have HW := fun ng e f w1 (he : e < 65536) (hf : f < 18446744073709551616) => cwrite_any k hk ng e f w1 he hf
 have hl := leadN_lt64 hk
 unfold plT
 rcases eight hk with rfl | rfl | rfl | rfl | rfl | rfl | rfl | rfl
 all_goals exact held_pay _ _ _ _ _ _ _ _ _ _ s ao ca xs E w (fun ng e f => strOf (wrtB _ ng e f)) hr sa hd h0 (by decide) (by decide) (by decide) (by decide) (by decide) (by decide) hl hh HL HW
end Go.Proofs.YtnhackdjplppjaaGreatDoor
namespace Go.Proofs.YtnhackdjplppjaaGreatDoor
open Go.RowKit
theorem en_short {c : Int} {t r : Trip} (h : dbothR c t = (r, 0)) : r = bare t ∧ dchk (Dg.dg 4294967296 r.n) r.e = 0 := by
 unfold dbothR at h
 by_cases h0 : c = 0
 ·rw [if_pos h0] at h
  unfold shortT at h
  by_cases h1 : 1200 < (Dg.dg 4294967296 (bare t).n).length
  ·rw [if_pos h1] at h
   simp at h
  ·rw [if_neg h1] at h
   by_cases h2 : (bare t).e < -20000 ∨ 20000 < (bare t).e
   ·rw [if_pos h2] at h
    simp at h
   ·rw [if_neg h2] at h
    simp only [Prod.mk.injEq, and_true] at h
    subst h
    have hn := Dg.norm_dg 4294967296 (bare t).n (by omega)
    refine ⟨rfl, ?_⟩
    unfold dchk
    rw [if_pos (chk_of hn (by omega)), if_neg h2]
 ·rw [if_neg h0] at h
  simp only [Prod.mk.injEq] at h
  exact absurd h.2 h0
def enN (k : Nat) (ng : Bool) (xs : List Nat) (p : Int) : Trip × Int :=
 dbothR (placeC xs p (rdN k : Int) (dgN k : Int) (lsI k) (gsI k)) ⟨ng, Dg.vl 4294967296 xs, (widthN (rdN k : Int) : Int) * p⟩
def enH (k : Nat) (t : Trip) : Bool := ansH (Dg.dg 4294967296 t.n) t.e (rdN k : Int) (dgN k : Int) (lsI k) (gsI k) (decide (k ≤ 3))
def enE (k : Nat) (ng : Bool) (xs : List Nat) (p : Int) : Int :=
 if p < -20000 ∨ 20000 < p then 3 else if xs.length = 0 then 4 else if (enN k ng xs p).2 = 0 ∧ enH k (enN k ng xs p).1 = true then 0 else 4
def enS (k : Nat) (ng : Bool) (xs : List Nat) (p : Int) : ByteArray :=
 if enE k ng xs p = 0 then strOf (wrtB k (plT k (enN k ng xs p).1.s (enN k ng xs p).1.n (enN k ng xs p).1.e).s (heE (rdN k : Int) (lsI k) (leadN k) (plT k (enN k ng xs p).1.s (enN k ng xs p).1.n (enN k ng xs p).1.e)) (plT k (enN k ng xs p).1.s (enN k ng xs p).1.n (enN k ng xs p).1.e).d) else ⟨#[]⟩
set_option maxHeartbeats 1600000 in
theorem encodeNumber_any (k : Nat) (hk : 1 ≤ k ∧ k ≤ 8) (ng : Bool) (ao : Option Addr) (ca : Nat) (xs : List Nat) (p : Int) (w : World) (hr : Rd w .u32 (.slice ao xs.length ca) xs) (sa : Dg.Small 4294967296 xs) (hc : chk xs = 0) (hT : Tab w) :
  Calls Tryz.prog 99 #[.agg (layV k).toArray, .agg #[.int .i64 2, .bool ng, .slice ao xs.length ca, .int .i64 p]] w fun z w' => z = .returned (.tuple #[.string (enS k ng xs p), .int .i64 (enE k ng xs p)]) ∧ Below w.heap.size w w' := by
 have key : ∀ er, enE k ng xs p = er → enS k ng xs p = if er = 0 then strOf (wrtB k (plT k (enN k ng xs p).1.s (enN k ng xs p).1.n (enN k ng xs p).1.e).s (heE (rdN k : Int) (lsI k) (leadN k) (plT k (enN k ng xs p).1.s (enN k ng xs p).1.n (enN k ng xs p).1.e)) (plT k (enN k ng xs p).1.s (enN k ng xs p).1.n (enN k ng xs p).1.e).d) else ⟨#[]⟩ := fun er h => by unfold enS; rw [h]
 by_cases hp : p < -20000 ∨ 20000 < p
 ·have hE : enE k ng xs p = 3 := if_pos hp
  rw [key 3 hE, hE, if_neg (by omega)]
  rcases hp with hp | hp
  ·rcases eight hk with rfl | rfl | rfl | rfl | rfl | rfl | rfl | rfl
   all_goals exact encNum_low _ _ _ _ _ _ _ _ _ 2 p ng ao xs.length ca w hp
  ·rcases eight hk with rfl | rfl | rfl | rfl | rfl | rfl | rfl | rfl
   all_goals exact encNum_high _ _ _ _ _ _ _ _ _ 2 p ng ao xs.length ca w hp
 ·have hp1 : -20000 ≤ p := by omega
  have hp2 : p ≤ 20000 := by omega
  by_cases hl : xs.length = 0
  ·have hE : enE k ng xs p = 4 := by unfold enE; rw [if_neg hp, if_pos hl]
   rw [key 4 hE, hE, if_neg (by omega)]
   rcases eight hk with rfl | rfl | rfl | rfl | rfl | rfl | rfl | rfl
   all_goals exact encNum_empty _ _ _ _ _ _ _ _ _ 2 p ng ao xs.length ca w hp1 hp2 hl
  ·have hnx : Dg.vl 4294967296 xs ≠ 0 := fun h => by
    obtain ⟨n1, -⟩ := chk_zero hc
    exact Dg.vl_ne_zero 4294967296 (by omega) xs (by intro e; subst e; simp at hl) n1 h
   have HN1 := fun w1 (b : Below w.heap.size w w1) => gNumber_any (rdN k : Int) (dgN k : Int) (lsI k) (gsI k) (decide (k ≤ 3)) ng ao ca xs p false false false w1 (hr.later b) sa (hT.later b)
   have hen : dbothR (placeC xs p (rdN k : Int) (dgN k : Int) (lsI k) (gsI k)) ⟨ng, Dg.vl 4294967296 xs, (widthN (rdN k : Int) : Int) * p⟩ = enN k ng xs p := rfl
   rw [hen] at HN1
   have hE : enE k ng xs p = if (enN k ng xs p).2 = 0 ∧ enH k (enN k ng xs p).1 = true then 0 else 4 := by unfold enE; rw [if_neg hp, if_neg hl]
   have hfact : (enN k ng xs p).2 = 0 → (enN k ng xs p).1.n ≠ 0 ∧ dchk (Dg.dg 4294967296 (enN k ng xs p).1.n) (enN k ng xs p).1.e = 0 := fun h => by
    have h2 := en_short (show dbothR (placeC xs p (rdN k : Int) (dgN k : Int) (lsI k) (gsI k)) ⟨ng, Dg.vl 4294967296 xs, (widthN (rdN k : Int) : Int) * p⟩ = ((enN k ng xs p).1, 0) from by rw [hen]; exact Prod.ext rfl h)
    obtain ⟨h3, h4⟩ := h2
    refine ⟨fun h5 => ?_, h4⟩
    rw [h3] at h5
    exact hnx ((bareN_nil ⟨ng, Dg.vl 4294967296 xs, (widthN (rdN k : Int) : Int) * p⟩).1 h5)
   clear hen
   generalize enN k ng xs p = r at *
   obtain ⟨t, er⟩ := r
   simp only at hE hfact key HN1 ⊢
   have HN : ∀ w1, Below w.heap.size w w1 → Calls Tryz.prog 154 #[.agg (layV k).toArray, .agg #[.int .i64 2, .bool ng, .slice ao xs.length ca, .int .i64 p]] w1 (DAns w1 (t, er)) := fun w1 b => by
    rcases eight hk with rfl | rfl | rfl | rfl | rfl | rfl | rfl | rfl
    all_goals exact lnumber_W _ _ _ _ _ _ _ _ _ 2 p ng ao xs.length ca (t, er) w1 (fun w2 b2 => HN1 w2 (below_trans b b2))
   by_cases her : er = 0
   ·obtain ⟨hn0, hdc⟩ := hfact her
    have sm := Dg.small_dg 4294967296 t.n (by omega)
    have HH := fun so sc w1 (b : Below w.heap.size w w1) (h : Rd w1 .u32 (.slice so (Dg.dg 4294967296 t.n).length sc) (Dg.dg 4294967296 t.n)) => gHolds_any (rdN k : Int) (dgN k : Int) (lsI k) (gsI k) (decide (k ≤ 3)) t.s so sc (Dg.dg 4294967296 t.n) t.e w1 h sm (hT.later b)
    have hgr : gridC (rdN k : Int) (dgN k : Int) (lsI k) (gsI k) = 0 := by
     rcases eight hk with rfl | rfl | rfl | rfl | rfl | rfl | rfl | rfl <;> decide
    have hon : onC (dchk (Dg.dg 4294967296 t.n) t.e) (gridC (rdN k : Int) (dgN k : Int) (lsI k) (gsI k)) = 0 := by unfold onC; rw [if_pos hdc]; exact hgr
    rw [hon] at HH
    by_cases hq : enH k t = true
    ·rw [if_pos ⟨her, hq⟩] at hE
     rw [key 0 hE, hE, if_pos rfl]
     have hq' : ansH (Dg.dg 4294967296 t.n) t.e (rdN k : Int) (dgN k : Int) (lsI k) (gsI k) (decide (k ≤ 3)) = true := hq
     have hheld : heldB (rdN k : Int) (dgN k : Int) (lsI k) (gsI k) (decide (k ≤ 3)) (Dg.vl 4294967296 (Dg.dg 4294967296 t.n)) t.e = true := by
      have h := hq'
      unfold ansH at h
      rw [if_pos hon] at h
      exact h
     have HE := fun so sc w1 (_b : Below w.heap.size w w1) (h : Rd w1 .u32 (.slice so (Dg.dg 4294967296 t.n).length sc) (Dg.dg 4294967296 t.n)) => encodeHeld_any k hk t.s so sc (Dg.dg 4294967296 t.n) t.e w1 h sm hdc (by rw [Dg.vl_dg 4294967296 t.n (by omega)]; exact hn0) hheld
     rw [Dg.vl_dg 4294967296 t.n (by omega)] at HE
     rw [hq'] at HH
     generalize strOf (wrtB k (plT k t.s t.n t.e).s (heE (rdN k : Int) (lsI k) (leadN k) (plT k t.s t.n t.e)) (plT k t.s t.n t.e).d) = st at *
     rcases eight hk with rfl | rfl | rfl | rfl | rfl | rfl | rfl | rfl
     all_goals exact encNum_held _ _ _ _ _ _ _ _ _ 2 p ng ao xs.length ca w t er HN true 0 HH st 0 HE hp1 hp2 (by omega) her rfl rfl
    ·have hqf : ansH (Dg.dg 4294967296 t.n) t.e (rdN k : Int) (dgN k : Int) (lsI k) (gsI k) (decide (k ≤ 3)) = false := by
      have : enH k t = false := by simpa using hq
      exact this
     rw [if_neg (fun h => hq h.2)] at hE
     rw [key 4 hE, hE, if_neg (by omega)]
     rw [hqf] at HH
     rcases eight hk with rfl | rfl | rfl | rfl | rfl | rfl | rfl | rfl
     all_goals exact encNum_off0 _ _ _ _ _ _ _ _ _ 2 p ng ao xs.length ca w t er HN false 0 HH hp1 hp2 (by omega) her rfl rfl
   ·rw [if_neg (fun h => her h.1)] at hE
    rw [key 4 hE, hE, if_neg (by omega)]
    rcases eight hk with rfl | rfl | rfl | rfl | rfl | rfl | rfl | rfl
    all_goals exact encNum_far _ _ _ _ _ _ _ _ _ 2 p ng ao xs.length ca w t er HN hp1 hp2 (by omega) her
end Go.Proofs.YtnhackdjplppjaaGreatDoor
namespace Go.Proofs.YtnhackdjplppjaaGreatDoor
open Go.RowKit
theorem parts_one (n : Nat) (x : Int) : numP n x / denP 1 x = shN n x := by
 unfold numP denP shN
 by_cases h : x < 0
 ·rw [if_pos h, if_pos h, if_pos h, Nat.one_mul]
 ·rw [if_neg h, if_neg h, if_neg h, Nat.div_one]
end Go.Proofs.YtnhackdjplppjaaGreatDoor

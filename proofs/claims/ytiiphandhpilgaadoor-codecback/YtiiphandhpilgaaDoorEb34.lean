/-
  Texts laid together: Gr7, Ce10, Dl3.
-/
import Derived.Test.YtiiphandhpilgaaDoorEb33
import Derived.Test.YtiiphandhpilgaaDoorEb23
import Derived.Test.YtiiphandhpilgaaDoorEb24
import Derived.Test.YtiiphandhpilgaaDoorEb32
namespace Go.Proofs.YtiiphandhpilgaaDoor
open Go.RowKit
def wayF (way : Int) : FuncId := if way = 1 then 65 else if way = 2 then 66 else if way = 3 then 67 else if way = 4 then 68 else 69
def isWay (way : Int) : Bool := decide (1 ≤ way ∧ way ≤ 5)
def wayV (way : Int) : Value := if isWay way = true then .func (.func (wayF way)) #[] #[] else .nilFunc

theorem way_cases {way : Int} (h : isWay way = true) : way = 1 ∨ way = 2 ∨ way = 3 ∨ way = 4 ∨ way = 5 := by
  have := of_decide_eq_true h
  omega

theorem same_int (x y : Int) : Instr.sameNow (.int .i64) (.int .i64 x) (.int .i64 y) = some (decide (x = y)) := by
  simp [Instr.sameNow]
  by_cases h : x = y <;> simp [h]

theorem way_lookup (way : Int) (w1 : World) (r : Nat) (hm : w1.heap[r]? = some (.map wayE 5)) : (Instr.lookup 108 (.map (some r)) (.int .i64 way) false).run Tryd.prog w1 = .ok (wayV way) w1 := by
  by_cases h : isWay way = true
  · rcases way_cases h with rfl | rfl | rfl | rfl | rfl
    · exact find_run Tryd.underlying108 Tryd.underlying3 hm 1 rfl
    · exact find_run Tryd.underlying108 Tryd.underlying3 hm 2 rfl
    · exact find_run Tryd.underlying108 Tryd.underlying3 hm 3 rfl
    · exact find_run Tryd.underlying108 Tryd.underlying3 hm 4 rfl
    · exact find_run Tryd.underlying108 Tryd.underlying3 hm 5 rfl
  · have hn : ¬(1 ≤ way ∧ way ≤ 5) := fun c => h (decide_eq_true c)
    unfold wayV
    rw [if_neg h]
    refine miss_run Tryd.underlying108 Tryd.underlying3 hm way ?_ ?_
    · kernel_rfl
    · simp [wayE, Instr.findNow, same_int, show ¬way = 1 by omega, show ¬way = 2 by omega, show ¬way = 3 by omega, show ¬way = 4 by omega, show ¬way = 5 by omega]

theorem wayF_calls {way : Int} (h : isWay way = true) (half : Int) (odd neg : Bool) (w1 : World) : Calls Tryd.prog (wayF way) #[.agg #[.int .i64 half, .bool odd, .bool neg]] w1 fun z w' => z = .returned (.bool (awayB way half odd neg)) ∧ Below w1.heap.size w1 w' := by
  rcases way_cases h with rfl | rfl | rfl | rfl | rfl
  · exact way1_any half odd neg w1
  · exact way2_any half odd neg w1
  · exact way3_any half odd neg w1
  · exact way4_any half odd neg w1
  · exact way5_any half odd neg w1

theorem enter_of {P : Program} {f : FuncId} {fn : Func} {c : Code} (hf : P.funcs[f]? = some fn) (hname : (fn.name == "runtime.NumGoroutine") = false) (hb : fn.body = some c) (args : Array Value) (w : World) : Sem.run P (callFunc f args) w = .ok (.enter f args) w := by
  have hn : ¬fn.name = "runtime.NumGoroutine" := by simpa using hname
  simp [callFunc, hf, hn, hb]

theorem wayF_enter {way : Int} (h : isWay way = true) (args : Array Value) (W : World) : Sem.run Tryd.prog (callFunc (wayF way) args) W = .ok (.enter (wayF way) args) W := by
  rcases way_cases h with rfl | rfl | rfl | rfl | rfl
  · exact enter_of Tryd.func65 (by kernel_rfl) rfl args W
  · exact enter_of Tryd.func66 (by kernel_rfl) rfl args W
  · exact enter_of Tryd.func67 (by kernel_rfl) rfl args W
  · exact enter_of Tryd.func68 (by kernel_rfl) rfl args W
  · exact enter_of Tryd.func69 (by kernel_rfl) rfl args W

/-- What Round answers: an error's number, and a place. -/
def roundC (xs ys : List Nat) (E R D L G way : Int) : Int :=
  if wrongG (ratioC xs ys E) (gridC R D L G) = 0 then (if isWay way = true then 0 else 6) else wrongG (ratioC xs ys E) (gridC R D L G)
def roundP (xs ys : List Nat) (E R D L G : Int) (gr qs : Bool) (way : Int) : PlaceT :=
  if roundC xs ys E R D L G way = 0 then (if xs.length = 0 then ⟨false, 0, 0, true, false, false⟩ else roundT R D L G gr qs (Dg.vl 4294967296 xs) (Dg.vl 4294967296 ys) E way) else noPlace

theorem wrongG_zero {c d : Int} (h : wrongG c d = 0) : c = 0 ∧ d = 0 := by
  unfold wrongG at h
  split at h
  · exact ⟨by assumption, h⟩
  · exact absurd h (by assumption)

theorem ratioC_zero {xs ys : List Nat} {E : Int} (h : ratioC xs ys E = 0) : chk xs = 0 ∧ chk ys = 0 ∧ 0 < ys.length ∧ -20000 ≤ E ∧ E ≤ 20000 := by
  unfold ratioC at h
  by_cases h1 : chk xs = 0
  · rw [if_pos h1] at h
    by_cases h2 : chk ys = 0
    · rw [if_pos h2] at h
      by_cases h3 : ys.length = 0 ∨ farB 20000 E = true
      · rw [if_pos h3] at h
        cases h
      · have h4 : ¬farB 20000 E = true := fun c => h3 (Or.inr c)
        unfold farB at h4
        simp at h4
        refine ⟨h1, h2, ?_, by omega, by omega⟩
        have : ¬ys.length = 0 := fun c => h3 (Or.inl c)
        omega
    · rw [if_neg h2] at h
      exact absurd h h2
  · rw [if_neg h1] at h
    exact absurd h h1

theorem gRound_any (qs : Bool) (ao : Option Addr) (ca : Nat) (xs : List Nat) (bo : Option Addr) (cb : Nat) (ys : List Nat) (E R D L G : Int) (gr : Bool) (way : Int) (w : World) (ha : Rd w .u32 (.slice ao xs.length ca) xs) (hb : Rd w .u32 (.slice bo ys.length cb) ys) (sa : Dg.Small 4294967296 xs) (sb : Dg.Small 4294967296 ys) :
    Calls Tryd.prog 34 #[.agg #[.bool qs, .slice ao xs.length ca, .slice bo ys.length cb, .int .i64 E], .agg #[.int .i64 R, .int .i64 D, .int .i64 L, .int .i64 G, .bool gr], .int .i64 way] w (PlaceAns w (roundC xs ys E R D L G way) (roundP xs ys E R D L G gr qs way)) := by
  refine gRoundW_any R D L G gr qs ao xs.length ca bo ys.length cb E way (wrongG (ratioC xs ys E) (gridC R D L G)) (wayV way) (wayF way) (isWay way) ((xs.length : Int) == 0) (roundT R D L G gr qs (Dg.vl 4294967296 xs) (Dg.vl 4294967296 ys) E way) _ _ w ?_ ?_ rfl ?_ ?_ ?_ ?_ ?_ ?_ ?_
  · intro h
    exact if_pos h
  · intro h
    exact if_neg (by rw [h]; decide)
  · intro h
    have e : roundC xs ys E R D L G way = wrongG (ratioC xs ys E) (gridC R D L G) := if_neg h
    exact ⟨e, by unfold roundP; rw [e, if_neg h]⟩
  · intro h hw
    have e : roundC xs ys E R D L G way = 6 := (if_pos h).trans (if_neg (by rw [hw]; decide))
    exact ⟨e, by unfold roundP; rw [e]; rfl⟩
  · intro h hw hz
    have e : roundC xs ys E R D L G way = 0 := (if_pos h).trans (if_pos hw)
    have hx : xs.length = 0 := by simpa using hz
    exact ⟨e, by unfold roundP; rw [e, if_pos rfl, if_pos hx]⟩
  · intro h hw hz
    have e : roundC xs ys E R D L G way = 0 := (if_pos h).trans (if_pos hw)
    have hx : ¬xs.length = 0 := by simpa using hz
    exact ⟨e, by unfold roundP; rw [e, if_pos rfl, if_neg hx]⟩
  · intro w1 b
    exact gwrong_any qs ao ca xs bo cb ys E R D L G gr w1 (ha.later b) (hb.later b)
  · intro w1 r hm
    exact way_lookup way w1 r hm
  · intro h hw hz w1 b
    obtain ⟨h1, h2⟩ := wrongG_zero h
    obtain ⟨c1, c2, hl, e1, e2⟩ := ratioC_zero h1
    obtain ⟨nx, lx⟩ := chk_zero c1
    obtain ⟨ny, ly⟩ := chk_zero c2
    have ex : Dg.dg 4294967296 (Dg.vl 4294967296 xs) = xs := Dg.dg_vl _ (by omega) _ sa nx
    have ey : Dg.dg 4294967296 (Dg.vl 4294967296 ys) = ys := Dg.dg_vl _ (by omega) _ sb ny
    have hM : 0 < Dg.vl 4294967296 ys := by
      refine Nat.pos_of_ne_zero fun c => ?_
      rw [c] at ey
      rw [← ey] at hl
      exact absurd hl (by decide)
    have := ground_any R D L G gr qs ao ca bo cb (Dg.vl 4294967296 xs) (Dg.vl 4294967296 ys) E way (wayF way) w1 h2 (by rw [ex]; exact ha.later b) (by rw [ey]; exact hb.later b) (by rw [ex]; omega) (by rw [ey]; omega) hM e1 e2 (wayF_enter hw) (wayF_calls hw)
    rwa [ex, ey] at this
end Go.Proofs.YtiiphandhpilgaaDoor
namespace Go.Proofs.YtiiphandhpilgaaDoor
open Go.RowKit
theorem rd_one {w : World} {q : Nat} (h : w.cell? ⟨q, 0, none⟩ = some (.int .u32 1)) : Rd w .u32 (.slice (some ⟨q, 0, none⟩) 1 1) [1] :=
  ⟨_, 1, rfl, Nat.le_refl _, by unfold maxLen; omega, fun _ => ⟨q, 0, rfl, fun i hi => by
    obtain rfl : i = 0 := by simpa using hi
    exact h⟩⟩

theorem bareN_nil (a : Trip) : (bare a).n = 0 ↔ a.n = 0 := by
  by_cases h : a.n = 0
  · unfold bare
    rw [if_pos h]
    exact ⟨fun _ => h, fun _ => rfl⟩
  · unfold bare
    rw [if_neg h]
    obtain ⟨m, hm⟩ := tz_spec h
    have := div_tz hm
    exact ⟨fun h2 => by simp only at h2; omega, fun h2 => absurd h2 h⟩

theorem leadN_lt64 {k : Nat} (hk : 1 ≤ k ∧ k ≤ 8) : leadN k < 18446744073709551616 := by
  rcases eight hk with rfl | rfl | rfl | rfl | rfl | rfl | rfl | rfl <;> decide

/-- E of a place. -/
def heE (R L : Int) (ld : Nat) (t : PlaceT) : Nat := (t.p - L).toNat + if R = 2 ∧ t.d &&& ld ≠ 0 then 1 else 0

set_option maxHeartbeats 1600000 in
theorem held_pay (R D L G fam : Int) (gr : Bool) (sz ex : Nat) (F ld : Nat) (s : Bool) (ao : Option Addr) (ca : Nat) (xs : List Nat) (E : Int) (w : World) (WB : Bool → Nat → Nat → ByteArray)
    (hr : Rd w .u32 (.slice ao xs.length ca) xs) (sa : Dg.Small 4294967296 xs) (hd : dchk xs E = 0) (h0 : Dg.vl 4294967296 xs ≠ 0) (hg : gridC R D L G = 0) (h1 : 1 ≤ D) (hLG : L ≤ G) (hD : widthN R * D.toNat ≤ 64) (hGL : G - L < 60000) (hRc : R = 2 ∨ R = 16) (hld : ld < 18446744073709551616)
    (hh : heldB R D L G gr (Dg.vl 4294967296 xs) E = true)
    (HL : ∀ w1, Calls Tryd.prog 38 #[.agg #[.int .i64 R, .int .i64 D, .int .i64 L, .int .i64 G, .bool gr, .int .i64 (sz : Int), .int .i64 (ex : Int), .int .i64 fam, .func (.func F) #[] #[]]] w1 fun z w' => z = .returned (.int .u64 (ld : Int)) ∧ Below w1.heap.size w1 w')
    (HW : ∀ ng e f w1, e < 65536 → f < 18446744073709551616 → Calls Tryd.prog 23 #[.agg #[.int .i64 R, .int .i64 D, .int .i64 L, .int .i64 G, .bool gr, .int .i64 (sz : Int), .int .i64 (ex : Int), .int .i64 fam, .func (.func F) #[] #[]], .agg #[.bool ng, .int .i64 ((e : Nat) : Int), .int .u64 ((f : Nat) : Int)]] w1 fun z w' => z = .returned (.string (WB ng e f)) ∧ Below w1.heap.size w1 w') :
    Calls Tryd.prog 20 #[.agg #[.int .i64 R, .int .i64 D, .int .i64 L, .int .i64 G, .bool gr, .int .i64 (sz : Int), .int .i64 (ex : Int), .int .i64 fam, .func (.func F) #[] #[]], .agg #[.bool s, .slice ao xs.length ca, .int .i64 E]] w fun z w' => z = .returned (.tuple #[.string (WB (roundT R D L G gr s (Dg.vl 4294967296 xs) 1 E 3).s (heE R L ld (roundT R D L G gr s (Dg.vl 4294967296 xs) 1 E 3)) (roundT R D L G gr s (Dg.vl 4294967296 xs) 1 E 3).d), .int .i64 0]) ∧ Below w.heap.size w w' := by
  obtain ⟨c1, e1, e2⟩ := dchk_zero hd
  have hlen : xs.length ≠ 0 := fun h => h0 (by rw [List.eq_nil_of_length_eq_zero h]; rfl)
  have hC : roundC xs [1] E R D L G 3 = 0 := by
    have hq : ratioC xs [1] E = 0 := by
      unfold ratioC
      rw [if_pos c1, if_pos (show chk [1] = 0 by decide), if_neg]
      rintro (h | h)
      · simp at h
      · unfold farB at h
        simp at h
        omega
    have hw : wrongG (ratioC xs [1] E) (gridC R D L G) = 0 := by unfold wrongG; rw [if_pos hq]; exact hg
    unfold roundC
    rw [if_pos hw, if_pos (by decide)]
  have hP : roundP xs [1] E R D L G gr s 3 = roundT R D L G gr s (Dg.vl 4294967296 xs) 1 E 3 := by
    unfold roundP
    rw [if_pos hC, if_neg hlen]
    rfl
  obtain ⟨hov, hun, hbare⟩ := held_round (s := s) (way := 3) h1 hLG h0 hh
  have hsp := round_spot h1 hLG h0 (by omega : (1 : Nat) ≠ 0) hov hun
  have hR := fun q w1 (b : Below w.heap.size w w1) (hc : w1.cell? ⟨q, 0, none⟩ = some (.int .u32 1)) => gRound_any s ao ca xs (some ⟨q, 0, none⟩) 1 [1] E R D L G gr 3 w1 (hr.later b) (rd_one hc) sa (fun i => by
    match i with
    | 0 => decide
    | i + 1 => simp)
  rw [hC, hP] at hR
  obtain ⟨t, ht⟩ : ∃ t, roundT R D L G gr s (Dg.vl 4294967296 xs) 1 E 3 = t := ⟨_, rfl⟩
  rw [ht] at hsp hbare hR ⊢
  have hd0 : t.d ≠ 0 := fun h => by
    have hz := congrArg Trip.n hbare
    have a1 := (bareN_nil ⟨t.s, t.d, (widthN R : Int) * t.p⟩).2 h
    rw [hz] at a1
    exact h0 ((bareN_nil ⟨s, Dg.vl 4294967296 xs, E⟩).1 a1)
  obtain ⟨-, hp1, hp2, hdl, -⟩ := hsp.resolve_left (fun h => hd0 h.1)
  have hd64 : t.d < 18446744073709551616 := by
    have : (2 : Nat) ^ (widthN R * D.toNat) ≤ 2 ^ 64 := Nat.pow_le_pow_right (by omega) hD
    omega
  clear ht hov hun hbare hsp hC hP hh
  obtain ⟨e, he⟩ : ∃ e : Nat, t.p - L = (e : Int) := ⟨(t.p - L).toNat, by omega⟩
  have hel : e < 60000 := by omega
  have hew : IntKind.i64.wrap (t.p - L) = (e : Int) := by rw [he]; exact IntWalk.i64_in _ ⟨by omega, by omega⟩
  have hzl : (Dg.dg 4294967296 t.d).length ≤ 2 := Dg.dg_len_le 4294967296 t.d 2 (by omega) hd64
  have hzp : 0 < (Dg.dg 4294967296 t.d).length := List.length_pos_iff.2 (by rw [Ne, Dg.dg_nil_iff 4294967296 t.d (by omega)]; exact hd0)
  have HWd : ∀ po pc w1, Rd w1 .u32 (.slice po (Dg.dg 4294967296 t.d).length pc) (Dg.dg 4294967296 t.d) → ∀ w2, Below w1.heap.size w1 w2 → Calls Tryd.prog 55 #[.slice po (Dg.dg 4294967296 t.d).length pc] w2 fun z w' => z = .returned (.int .u64 (t.d : Int)) ∧ w2 = w' := fun po pc w1 h w2 b => by
    have := word_any _ _ w2 (h.later b) (Dg.small_dg 4294967296 t.d (by omega)) hzl
    rw [Dg.vl_dg 4294967296 t.d (by omega)] at this
    exact this.mono (fun _ _ h => ⟨h.1, h.2.symm⟩)
  have hen : (t.p - L).toNat = e := by omega
  unfold heE
  rw [hen]
  have HR2 : ∀ q w1, Below w.heap.size w w1 → w1.cell? ⟨q, 0, none⟩ = some (.int .u32 1) → Calls Tryd.prog 34 #[.agg #[.bool s, .slice ao xs.length ca, .slice (some ⟨q, 0, none⟩) 1 1, .int .i64 E], .agg #[.int .i64 R, .int .i64 D, .int .i64 L, .int .i64 G, .bool gr], .int .i64 3] w1 fun z w' => ∃ po pc, z = .returned (.tuple #[.agg #[.bool t.s, .slice po (Dg.dg 4294967296 t.d).length pc, .int .i64 t.p, .bool t.ex, .bool t.ov, .bool t.un], .int .i64 0]) ∧ Rd w' .u32 (.slice po (Dg.dg 4294967296 t.d).length pc) (Dg.dg 4294967296 t.d) ∧ Below w1.heap.size w1 w' := fun q w1 b hc => (hR q w1 b hc).mono (fun z w' h => by
    obtain ⟨v, rfl, own, b2⟩ := h
    obtain ⟨po, pc, hv⟩ := own.rd.shape
    subst hv
    exact ⟨po, pc, rfl, own.rd, b2⟩)
  rcases hRc with rfl | rfl
  · by_cases hb : t.d &&& ld = 0
    · rw [if_neg (fun h => h.2 hb), Nat.add_zero]
      exact heldW_num _ D L G fam gr sz ex F s ao xs.length ca E w (Dg.dg 4294967296 t.d) _ t.s t.ex t.ov t.un t.p 0 HR2 t.s e t.d (fun po pc w1 _ h => fieldsOf_low D L G fam gr sz ex F t.s t.ex t.ov t.un po _ pc t.p e t.d w1 hew (by omega) (HWd po pc w1 h) ld 0 (by rw [u64_and_nat t.d ld hd64 hld, hb]; rfl) rfl HL) _ (fun w1 => HW t.s e t.d w1 (by omega) hd64) rfl hzp
    · rw [if_pos ⟨rfl, hb⟩]
      have hF : ∀ po pc w1, Below w.heap.size w w1 → Rd w1 .u32 (.slice po (Dg.dg 4294967296 t.d).length pc) (Dg.dg 4294967296 t.d) → _ := fun po pc w1 _ h => fieldsOf_set D L G fam gr sz ex F t.s t.ex t.ov t.un po _ pc t.p e t.d w1 hew (by omega) (HWd po pc w1 h) ld ((t.d &&& ld : Nat) : Int) (u64_and_nat t.d ld hd64 hld) (by omega) HL
      exact heldW_num _ D L G fam gr sz ex F s ao xs.length ca E w (Dg.dg 4294967296 t.d) _ t.s t.ex t.ov t.un t.p 0 HR2 t.s (e + 1) t.d hF _ (fun w1 => HW t.s (e + 1) t.d w1 (by omega) hd64) rfl hzp
  · rw [if_neg (fun h => by have := h.1; omega), Nat.add_zero]
    exact heldW_num _ D L G fam gr sz ex F s ao xs.length ca E w (Dg.dg 4294967296 t.d) _ t.s t.ex t.ov t.un t.p 0 HR2 t.s e t.d (fun po pc w1 _ h => fieldsOf_hex D L G fam gr sz ex F t.s t.ex t.ov t.un po _ pc t.p e t.d w1 hew (by omega) (HWd po pc w1 h)) _ (fun w1 => HW t.s e t.d w1 (by omega) hd64) rfl hzp

/-- The greatest power of a format. -/
def gsI : Nat → Int
  | 1 => 104 | 2 => 971 | 3 => 16320 | 4 => 57 | 5 => 49 | 6 => 103 | 7 => 71 | 8 => 970 | _ => 0

/-- The place of a number that a format holds. -/
def plT (k : Nat) (s : Bool) (n : Nat) (E : Int) : PlaceT := roundT (rdN k : Int) (dgN k : Int) (lsI k) (gsI k) (decide (k ≤ 3)) s n 1 E 3

theorem encodeHeld_any (k : Nat) (hk : 1 ≤ k ∧ k ≤ 8) (s : Bool) (ao : Option Addr) (ca : Nat) (xs : List Nat) (E : Int) (w : World) (hr : Rd w .u32 (.slice ao xs.length ca) xs) (sa : Dg.Small 4294967296 xs) (hd : dchk xs E = 0) (h0 : Dg.vl 4294967296 xs ≠ 0)
    (hh : heldB (rdN k : Int) (dgN k : Int) (lsI k) (gsI k) (decide (k ≤ 3)) (Dg.vl 4294967296 xs) E = true) :
    Calls Tryd.prog 20 #[.agg (layV k).toArray, .agg #[.bool s, .slice ao xs.length ca, .int .i64 E]] w fun z w' => z = .returned (.tuple #[.string (strOf (wrtB k (plT k s (Dg.vl 4294967296 xs) E).s (heE (rdN k : Int) (lsI k) (leadN k) (plT k s (Dg.vl 4294967296 xs) E)) (plT k s (Dg.vl 4294967296 xs) E).d)), .int .i64 0]) ∧ Below w.heap.size w w' := by
  have HL := fun w1 => llead_any k hk w1
  have HW := fun ng e f w1 (he : e < 65536) (hf : f < 18446744073709551616) => cwrite_any k hk ng e f w1 he hf
  have hl := leadN_lt64 hk
  unfold plT
  rcases eight hk with rfl | rfl | rfl | rfl | rfl | rfl | rfl | rfl
  all_goals exact held_pay _ _ _ _ _ _ _ _ _ _ s ao ca xs E w (fun ng e f => strOf (wrtB _ ng e f)) hr sa hd h0 (by decide) (by decide) (by decide) (by decide) (by decide) (by decide) hl hh HL HW
end Go.Proofs.YtiiphandhpilgaaDoor
namespace Go.Proofs.YtiiphandhpilgaaDoor
open Go.RowKit
theorem bare_n_le (t : Trip) : (bare t).n ≤ t.n := by
  unfold bare
  split
  · exact Nat.zero_le _
  · exact Nat.div_le_self _ _

end Go.Proofs.YtiiphandhpilgaaDoor

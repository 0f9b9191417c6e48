/-
  Texts laid together: Nx3, Ex.
-/
import Derived.Test.YtiiphandhpilgaaGreatDoorNd43
namespace Go.Proofs.YtiiphandhpilgaaGreatDoor
open Go.RowKit
theorem encodeHeld_zero (k : Nat) (hk : 1 ≤ k ∧ k ≤ 8) (s : Bool) (ao : Option Addr) (ca : Nat) (E : Int) (w : World) (hr : Rd w .u32 (.slice ao 0 ca) []) (e1 : -20000 ≤ E) (e2 : E ≤ 20000) :
  Calls Tryz.prog 41 #[.agg (layV k).toArray, .agg #[.bool s, .slice ao 0 ca, .int .i64 E]] w fun z w' => z = .returned (.tuple #[.string (strOf (wrtB k false 0 0)), .int .i64 0]) ∧ Below w.heap.size w w' := by
 have hg := (fmt_fit hk).2.2.2.2.2.2.2.2.2.2.2
 have hC : roundC [] [1] E (rdN k : Int) (dgN k : Int) (lsI k) (gsI k) 3 = 0 := by
  have hq : ratioC [] [1] E = 0 := by
   unfold ratioC
   rw [if_pos (show chk [] = 0 by decide), if_pos (show chk [1] = 0 by decide), if_neg]
   rintro (h | h)
   ·simp at h
   ·unfold farB at h
    simp at h
    omega
  have hw : wrongG (ratioC [] [1] E) (gridC (rdN k : Int) (dgN k : Int) (lsI k) (gsI k)) = 0 := by unfold wrongG; rw [if_pos hq]; exact hg
  unfold roundC
  rw [if_pos hw, if_pos (by decide)]
 have hR := fun q w1 (b : Below w.heap.size w w1) (hc : w1.cell? ⟨q, 0, none⟩ = some (.int .u32 1)) => gRound_any s ao ca [] (some ⟨q, 0, none⟩) 1 [1] E (rdN k : Int) (dgN k : Int) (lsI k) (gsI k) (decide (k ≤ 3)) 3 w1 (hr.later b) (rd_one hc) (fun i => by simp) (fun i => by
  match i with
  | 0 => decide
  | i + 1 => simp)
 rw [hC] at hR
 obtain ⟨t, ht⟩ : ∃ t, roundP [] [1] E (rdN k : Int) (dgN k : Int) (lsI k) (gsI k) (decide (k ≤ 3)) s 3 = t := ⟨_, rfl⟩
 have hd : t.d = 0 := by
  rw [← ht]
  unfold roundP
  rw [if_pos hC]
  rfl
 rw [ht] at hR
 have hz : (Dg.dg 4294967296 t.d).length = 0 := dg_len_zero.2 hd
 have HR2 : ∀ q w1, Below w.heap.size w w1 → w1.cell? ⟨q, 0, none⟩ = some (.int .u32 1) → Calls Tryz.prog 74 #[.agg #[.bool s, .slice ao 0 ca, .slice (some ⟨q, 0, none⟩) 1 1, .int .i64 E], .agg #[.int .i64 (rdN k : Int), .int .i64 (dgN k : Int), .int .i64 (lsI k), .int .i64 (gsI k), .bool (decide (k ≤ 3))], .int .i64 3] w1 fun z w' => ∃ po pc, z = .returned (.tuple #[.agg #[.bool t.s, .slice po (Dg.dg 4294967296 t.d).length pc, .int .i64 t.p, .bool t.ex, .bool t.ov, .bool t.un], .int .i64 0]) ∧ Rd w' .u32 (.slice po (Dg.dg 4294967296 t.d).length pc) (Dg.dg 4294967296 t.d) ∧ Below w1.heap.size w1 w' := fun q w1 b hc => (hR q w1 b hc).mono (fun z w' h => by
  obtain ⟨v, rfl, own, b2⟩ := h
  obtain ⟨po, pc, hv⟩ := own.rd.shape
  subst hv
  exact ⟨po, pc, rfl, own.rd, b2⟩)
 have HW := fun w1 => cwrite_any k hk false 0 0 w1 (by omega) (by omega)
 clear hR ht hC hg
 generalize strOf (wrtB k false 0 0) = st at *
 rcases eight hk with rfl | rfl | rfl | rfl | rfl | rfl | rfl | rfl
 all_goals exact heldW_zero _ _ _ _ _ _ _ _ _ s ao 0 ca E w _ _ t.s t.ex t.ov t.un t.p 0 HR2 st HW rfl hz
set_option maxHeartbeats 1600000 in
theorem next_any (n : Int) (s : ByteArray) (up : Bool) (w : World) (hT : Tab w) :
  Calls Tryz.prog 10 #[.int .i64 n, .string s, .bool up] w fun z w' => z = .returned (.tuple #[.string (nextS n s up), .int .i64 (nextE n s up)]) ∧ Below w.heap.size w w' := by
 by_cases h : patC n s = 0
 ·have hf : famC n ≠ 0 := fun hf => by
   unfold patC at h
   rw [if_pos hf] at h
   omega
  obtain ⟨h1, h2, h3⟩ := famC_in hf
  have HR := fun w1 => codecRead_ok n s w1 h
  obtain ⟨k, rfl⟩ : ∃ k : Nat, n = (k : Int) := ⟨n.toNat, h3.symm⟩
  rw [Int.toNat_natCast] at h1 h2 HR
  have hk : 1 ≤ k ∧ k ≤ 8 := ⟨h1, h2⟩
  have HV := fun w1 => lvalue_any k hk (fldN k s) (fldE k s) (fldF k s) w1 (fldF_small hk s) (fldE_small hk s)
  have hdc : decC (k : Int) s = clsN k (fldN k s) (fldE k s) (fldF k s) := by
   unfold decC
   rw [if_pos h, Int.toNat_natCast]
  by_cases hc : clsN k (fldN k s) (fldE k s) (fldF k s) = 1 ∨ clsN k (fldN k s) (fldE k s) (fldF k s) = 2
  ·have hE : nextE (k : Int) s up = (nxR k s up).2 := by
    unfold nextE
    rw [if_pos h, hdc, if_pos hc, Int.toNat_natCast]
   have hS : nextS (k : Int) s up = if (nxR k s up).2 = 0 then nxS k (nxR k s up).1 else ⟨#[]⟩ := by
    unfold nextS
    rw [hE, Int.toNat_natCast]
   obtain ⟨d1, d2⟩ := nx_num hk s hc
   have hn := num_is hk s hc
   have hst := nx_step hk s up hc
   have hgr := (fmt_fit hk).2.2.2.2.2.2.2.2.2.2.2
   have lg := (fmt_fit hk).2.2.2.2.2.2.1
   have HN1 := fun vo vc w1 (b : Below w.heap.size w w1) (hr : Rd w1 .u32 (.slice vo (Dg.dg 4294967296 (valM k (fldN k s) (fldE k s) (fldF k s))).length vc) (Dg.dg 4294967296 (valM k (fldN k s) (fldE k s) (fldF k s)))) => gNumber_any (rdN k : Int) (dgN k : Int) (lsI k) (gsI k) (decide (k ≤ 3)) (valG k (fldN k s) (fldE k s) (fldF k s)) vo vc _ (valP k (fldN k s) (fldE k s) (fldF k s)) false false false w1 hr (Dg.small_dg 4294967296 _ (by omega)) (hT.later b)
   rw [hn] at HN1
   have HS1 := fun xo xk w1 (b : Below w.heap.size w w1) (hr : Rd w1 .u32 (.slice xo (Dg.dg 4294967296 (nxT k s).n).length xk) (Dg.dg 4294967296 (nxT k s).n)) => gStep_any (rdN k : Int) (dgN k : Int) (lsI k) (gsI k) (decide (k ≤ 3)) (nxT k s).s up xo xk _ (nxT k s).e w1 hr (Dg.small_dg 4294967296 _ (by omega)) (hT.later b)
   rw [show stepR (rdN k : Int) (dgN k : Int) (lsI k) (gsI k) (decide (k ≤ 3)) (nxT k s).s up (Dg.dg 4294967296 (nxT k s).n) (nxT k s).e = nxR k s up from rfl] at HS1
   have HH1 : (nxR k s up).2 = 0 → ∀ yo yk w1, Below w.heap.size w w1 → Rd w1 .u32 (.slice yo (Dg.dg 4294967296 (nxR k s up).1.n).length yk) (Dg.dg 4294967296 (nxR k s up).1.n) → Calls Tryz.prog 41 #[.agg (layV k).toArray, .agg #[.bool (nxR k s up).1.s, .slice yo (Dg.dg 4294967296 (nxR k s up).1.n).length yk, .int .i64 (nxR k s up).1.e]] w1 fun z w' => z = .returned (.tuple #[.string (nextS (k : Int) s up), .int .i64 (nextE (k : Int) s up)]) ∧ Below w1.heap.size w1 w' := by
    intro hy yo yk w1 _ hr
    rw [hE, hS, if_pos hy, hy]
    obtain ⟨-, s', d, p, h4, h5⟩ := hst hy
    have hck := spot_dchk (s := s') hgr h5
    have hhd := spot_held (s := s') hgr h5
    rw [← h4] at hck hhd
    unfold nxS
    by_cases h0 : (nxR k s up).1.n = 0
    ·rw [if_pos h0]
     have hl : Dg.dg 4294967296 (nxR k s up).1.n = [] := (Dg.dg_nil_iff _ _ (by omega)).2 h0
     rw [hl] at hr hck ⊢
     obtain ⟨-, e1, e2⟩ := dchk_zero hck
     exact encodeHeld_zero k hk _ yo yk _ w1 hr e1 e2
    ·rw [if_neg h0]
     have := encodeHeld_any k hk (nxR k s up).1.s yo yk _ (nxR k s up).1.e w1 hr (Dg.small_dg 4294967296 _ (by omega)) hck (by rw [Dg.vl_dg _ _ (by omega)]; exact h0) (by rw [Dg.vl_dg _ _ (by omega)]; exact hhd)
     rw [Dg.vl_dg _ _ (by omega)] at this
     have hps : (plT k (nxR k s up).1.s (nxR k s up).1.n (nxR k s up).1.e).s = (nxR k s up).1.s := (held_place (s := (nxR k s up).1.s) (way := 3) (by have := (fmt_fit hk).2.2.1; omega) lg h0 hhd).1
     rw [hps] at this
     exact this
   have HZ1 : (nxR k s up).2 ≠ 0 → nextS (k : Int) s up = ⟨#[]⟩ ∧ nextE (k : Int) s up = (nxR k s up).2 := fun hy => ⟨by rw [hS, if_neg hy], hE⟩
   generalize nextS (k : Int) s up = st at *
   generalize nextE (k : Int) s up = er at *
   generalize nxR k s up = y at *
   generalize nxT k s = x at *
   have hc2 : ((clsN k (fldN k s) (fldE k s) (fldF k s) : Nat) : Int) = 1 ∨ ((clsN k (fldN k s) (fldE k s) (fldF k s) : Nat) : Int) = 2 := by omega
   clear hE hS hst hn d1 d2 hgr lg hdc hc
   generalize ((clsN k (fldN k s) (fldE k s) (fldF k s) : Nat) : Int) = c at *
   generalize valG k (fldN k s) (fldE k s) (fldF k s) = gg at *
   generalize valM k (fldN k s) (fldE k s) (fldF k s) = m at *
   generalize valP k (fldN k s) (fldE k s) (fldF k s) = p at *
   generalize fldN k s = ng at *
   generalize fldE k s = e at *
   generalize fldF k s = f at *
   rcases eight hk with rfl | rfl | rfl | rfl | rfl | rfl | rfl | rfl
   all_goals exact next_num _ _ _ _ _ _ _ up _ _ _ ng e f c gg m p x.s x.n x.e y.1.s y.1.n y.1.e y.2 er st s w hc2 HR HV (fun vo vc w1 b hr => lnumber_W _ _ _ _ _ _ _ _ _ c p gg vo _ vc (x, 0) w1 (fun w2 b2 => HN1 vo vc w2 (below_trans b b2) (hr.later b2))) HS1 HH1 HZ1
  ·have hE : nextE (k : Int) s up = 4 := by
    unfold nextE
    rw [if_pos h, hdc, if_neg hc]
   have hS : nextS (k : Int) s up = ⟨#[]⟩ := by
    unfold nextS
    rw [hE, if_neg (by omega)]
   rw [hE, hS]
   have c1 : ((clsN k (fldN k s) (fldE k s) (fldF k s) : Nat) : Int) = 3 ∨ ((clsN k (fldN k s) (fldE k s) (fldF k s) : Nat) : Int) = 4 ∨ ((clsN k (fldN k s) (fldE k s) (fldF k s) : Nat) : Int) = 5 := by
    rcases clsN_in k (fldN k s) (fldE k s) (fldF k s) with h | h | h | h | h <;> omega
   clear hE hS hdc hc
   generalize ((clsN k (fldN k s) (fldE k s) (fldF k s) : Nat) : Int) = c at *
   generalize valG k (fldN k s) (fldE k s) (fldF k s) = gg at *
   generalize valM k (fldN k s) (fldE k s) (fldF k s) = m at *
   generalize valP k (fldN k s) (fldE k s) (fldF k s) = p at *
   generalize fldN k s = ng at *
   generalize fldE k s = e at *
   generalize fldF k s = f at *
   rcases eight hk with rfl | rfl | rfl | rfl | rfl | rfl | rfl | rfl
   all_goals exact next_cls _ _ _ _ _ _ _ up _ _ _ ng e f c gg m p s w c1 HR HV
 ·have hE : nextE n s up = patC n s := if_neg h
  have hS : nextS n s up = ⟨#[]⟩ := by
   unfold nextS
   rw [hE, if_neg h]
  rw [hE, hS]
  exact next_bad n _ h s up w (fun w1 => codecRead_bad n s w1 h)
end Go.Proofs.YtiiphandhpilgaaGreatDoor
namespace Go.Proofs.YtiiphandhpilgaaGreatDoor
open Go.RowKit
theorem xload {P : Program} {o : Oper} {a : Act} {w : World} (t : TypeId) (x : Operand) (ho : o.op = .load t x) (b i : Nat) (hx : a.eval x = .pointer (some ⟨b, i, none⟩)) (v : Value) (d : TypeDesc) (hu : P.underlying t = some d) (hd : d.isRow = false) (hc : w.cell? ⟨b, i, none⟩ = some v) : (execOp a.eval o).run P w = .ok (.value v) w := by
 have hagg : (isAgg t).run P w = .ok false w := by
  unfold isAgg
  rw [Sem.run_bind, run_underlying hu w]
  cases d <;> simp_all
 have hl : (loadVar t ⟨b, i, none⟩).run P w = .ok v w := by
  simp [loadVar, Sem.run_bind, hagg, hc]
 unfold execOp
 simp [ho, hx, Instr.loadAt, Instr.sureAddr, hl]
theorem xrow {P : Program} {o : Oper} {a : Act} {w : World} (t : TypeId) (x : Operand) (ho : o.op = .load t x) (b i : Nat) (hx : a.eval x = .pointer (some ⟨b, i, none⟩)) (cs : List Value) (d : TypeDesc) (hr : w.rangeAt b i cs) (hu : P.underlying t = some d) (hd : d.isRow = true) (hi : (P.info? t).map (·.size) = some cs.length) : (execOp a.eval o).run P w = .ok (.value (.agg cs.toArray)) w := by
 unfold execOp
 simp only [ho, hx]
 have := run_loadAt_mid (P := P) w b i t cs d hr hu hd hi
 simp [this]
theorem there_of {w : World} {b : Nat} {ty : TypeId} {vs : List Value} (h : LocE w b ty vs) : w.there b 0 vs.length := fun j hj => by
 have := h.cell j (List.getElem?_eq_getElem hj)
 have hf := h.free j
 simp [this, hf]
end Go.Proofs.YtiiphandhpilgaaGreatDoor

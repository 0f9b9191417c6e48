/-
  ArithCompares, paid.
-/
import Derived.Test.YtnhackdjplppjaaGreatDoorAc45
namespace Go.Proofs.YtnhackdjplppjaaGreatDoor
open Go.RowKit
theorem patC_one {n : Int} {p : ByteArray} (hf : famC n ≠ 0) (h : patC n p ≠ 0) : patC n p = 1 := by
 unfold patC at h ⊢
 rw [if_neg hf] at h ⊢
 by_cases c : p.size = szN n.toNat
 ·rw [if_pos c] at h
  exact absurd rfl h
 ·rw [if_neg c]
theorem errL_one {n : Int} (hf : famC n ≠ 0) : ∀ ps : List ByteArray, errL n ps ≠ 0 → errL n ps = 1
 | [], h => absurd rfl h
 | p :: ps, h => by
  unfold errL at h ⊢
  by_cases c : patC n p = 0
  ·rw [if_pos c] at h ⊢
   exact errL_one hf ps h
  ·rw [if_neg c]
   exact patC_one hf c
theorem errL_zero {n : Int} : ∀ {ps : List ByteArray}, errL n ps = 0 → ∀ p ∈ ps, patC n p = 0
 | [], _, p, hp => by simp at hp
 | q :: ps, h, p, hp => by
  unfold errL at h
  by_cases c : patC n q = 0
  ·rw [if_pos c] at h
   rcases List.mem_cons.1 hp with rfl | h2
   ·exact c
   ·exact errL_zero h p h2
  ·rw [if_neg c] at h
   exact absurd h c
theorem opened_any (n way : Int) (ps : List ByteArray) (pb : Nat) (w : World) (hps : LocE w pb 9 (ps.map Value.string)) (hm : ps.length ≤ 3) :
  Calls Tryz.prog 18 #[.int .i64 n, .int .i64 way, .slice (some ⟨pb, 0, none⟩) ps.length ps.length] w (OpnRes w n ps (opnE n way ps)) := by
 by_cases hf : famC n = 0
 ·exact opened_W n way _ _ _ _ _ _ _ _ _ false (isWay way) ps pb w hps hm (by simpa using hf) rfl (fun w1 => format_none n w1 hf) (fun p w1 => open_any n p w1) (fun p w1 h => decodeOf_pat n p w1 h) (fun w1 => refIsWay_any way w1)
 ·obtain ⟨h1, h2, h3⟩ := famC_in hf
  obtain ⟨k, rfl⟩ : ∃ k : Nat, n = (k : Int) := ⟨n.toNat, h3.symm⟩
  rw [Int.toNat_natCast] at h1 h2
  exact opened_W (k : Int) way _ _ _ _ _ _ _ _ _ true (isWay way) ps pb w hps hm (by simpa using hf) rfl (fun w1 => format_flat k ⟨h1, h2⟩ w1) (fun p w1 => open_any _ p w1) (fun p w1 h => decodeOf_pat _ p w1 h) (fun w1 => refIsWay_any way w1)
theorem sd_by (c : Int) (g : Bool) : sdI c g = 2 * byI c g := by
 unfold sdI byI
 split
 ·split <;> rfl
 ·rfl
theorem cmp_twice (x y : Int) : cmpI (2 * x) (2 * y) = cmpI x y := by
 unfold cmpI
 by_cases h1 : x < y
 ·rw [if_pos h1, if_pos (by omega)]
 ·rw [if_neg h1, if_neg (by omega)]
  by_cases h2 : y < x
  ·rw [if_pos h2, if_pos (by omega)]
  ·rw [if_neg h2, if_neg (by omega)]
theorem rf_is {k : Nat} (hk : 1 ≤ k ∧ k ≤ 8) {p : ByteArray} (h : patC (k : Int) p = 0) :
  opT (k : Int) p = rfT (k : Int) p ∧ decG (k : Int) p = rfG (k : Int) p ∧ decC (k : Int) p = clsN k (fldN k p) (fldE k p) (fldF k p) ∧ rfT (k : Int) p = nxT k p := by
 unfold opT rfT decG rfG decC nxT
 rw [if_pos h, if_pos h, if_pos h, Int.toNat_natCast, refG_val hk]
 exact ⟨rfl, rfl, rfl, rfl⟩
theorem decC_in {n : Int} {p : ByteArray} (h : patC n p = 0) : 1 ≤ decC n p ∧ decC n p ≤ 5 := by
 unfold decC
 rw [if_pos h]
 have := clsN_in n.toNat (fldN n.toNat p) (fldE n.toNat p) (fldF n.toNat p)
 omega
theorem rf_num {k : Nat} (hk : 1 ≤ k ∧ k ≤ 8) (s : ByteArray) (hc : clsN k (fldN k s) (fldE k s) (fldF k s) = 1 ∨ clsN k (fldN k s) (fldE k s) (fldF k s) = 2) : dchk (Dg.dg 4294967296 (nxT k s).n) (nxT k s).e = 0 ∧ bare (nxT k s) = nxT k s := by
 obtain ⟨h1, h2⟩ := en_short (num_is hk s hc)
 refine ⟨h2, ?_⟩
 rw [h1]
 exact bare_bare _
theorem arithCompares_walk (n : Int) (a b : ByteArray) (w : World) (hT : Tab w) :
  Calls Tryz.prog 9 #[.int .i64 n, .string a, .string b] w fun z w' => z = .returned (.bool true) ∧ Below w.heap.size w w' := by
 have HB := fun w1 (b1 : Below w.heap.size w w1) => arithBegun_any w1 (hT.later b1)
 have HO := fun pb w1 (hl : LocE w1 pb 9 [.string a, .string b]) => opened_any n 1 [a, b] pb w1 hl (by simp)
 by_cases hf : famC n = 0
 ·rw [show opnE n 1 [a, b] = 6 from if_pos hf] at HO
  exact compares_W n 0 6 false a b w (fun _ => ⟨rfl, rfl⟩) (fun w1 _ => acompare_err n 6 (by decide) a b w1 (fun w2 => deskOf_err n 6 (by decide) w2 (fun w3 => cgrid_none n w3 hf))) HO (fun h => absurd h (by decide)) HB
 obtain ⟨k1, k2, k3⟩ := famC_in hf
 obtain ⟨k, rfl⟩ : ∃ k : Nat, n = (k : Int) := ⟨n.toNat, k3.symm⟩
 rw [Int.toNat_natCast] at k1 k2
 have hk : 1 ≤ k ∧ k ≤ 8 := ⟨k1, k2⟩
 have HOps := fun (w0 : World) (b0 : Below w.heap.size w w0) pb w2 (b2 : Below w0.heap.size w0 w2) (hl : LocE w2 pb 9 [.string a, .string b]) => operands_W (k : Int) 0 (famC (k : Int)) (rdN k : Int) (dgN k : Int) (lsI k) (gsI k) (decide (k ≤ 3)) [a, b] pb w2 hl (by simp) (fun p w3 b3 => wread_any (k : Int) p w3 (hT.later (below_trans b0 (below_trans b2 b3))))
 by_cases he : errL (k : Int) [a, b] = 0
 ·rw [show opnE (k : Int) 1 [a, b] = 0 from by unfold opnE; rw [if_neg hf, if_pos he]; rfl] at HO
  have ha := errL_zero he a (by simp)
  have hb := errL_zero he b (by simp)
  obtain ⟨a1, a2, a3, a4⟩ := rf_is hk ha
  obtain ⟨b1, b2, b3, b4⟩ := rf_is hk hb
  have ca := decC_in ha
  have cb := decC_in hb
  by_cases hn : (noNum (k : Int) a || noNum (k : Int) b) = true
  ·have h4 : 4 ≤ decC (k : Int) a ∨ 4 ≤ decC (k : Int) b := by
    unfold noNum at hn
    simp at hn
    omega
   refine compares_W (k : Int) 0 0 false a b w (fun _ => ⟨rfl, rfl⟩) (fun w1 b0 => ?_) HO (fun _ xo xc yo yc w1 _ _ => compareOf_no _ _ _ _ _ _ _ _ _ _ _ _ _ _ w1 (by omega)) HB
   exact acompare_W (k : Int) _ _ _ _ _ 0 _ a b _ w1 (fun h => absurd he h) (fun h => absurd he h) (fun _ _ => rfl) (fun _ h => by rw [hn] at h; cases h) (fun w2 => deskOf_any k hk w2) (HOps w1 b0) (fun _ h => by rw [hn] at h; cases h)
  ·have hn' : (noNum (k : Int) a || noNum (k : Int) b) = false := by simpa using hn
   have h4 : decC (k : Int) a ≤ 3 ∧ decC (k : Int) b ≤ 3 := by
    unfold noNum at hn'
    simp at hn'
    omega
   by_cases h3 : decC (k : Int) a = 3 ∨ decC (k : Int) b = 3
   ·refine compares_W (k : Int) (cmpI (byI ((decC (k : Int) a : Nat) : Int) (decG (k : Int) a)) (byI ((decC (k : Int) b : Nat) : Int) (decG (k : Int) b))) 0 true a b w (fun h => absurd rfl h) (fun w1 b0 => ?_) HO (fun _ xo xc yo yc w1 _ _ => ?_) HB
    ·refine acompare_W (k : Int) _ _ _ _ _ _ _ a b _ w1 (fun h => absurd he h) (fun h => absurd he h) (fun _ h => by rw [hn'] at h; cases h) (fun _ _ => rfl) (fun w2 => deskOf_any k hk w2) (HOps w1 b0) (fun _ _ xo xc yo yc w2 _ _ => ?_)
     by_cases hx : decC (k : Int) a = 3
     ·rw [hx]
      exact compareI_X _ _ _ _ _ _ _ _ _ _ _ _ _ w2
     ·have hy : decC (k : Int) b = 3 := by omega
      rw [hy]
      exact compareI_Y _ _ _ _ _ _ _ _ _ _ _ _ _ w2 (by simp; omega)
    ·rw [← cmp_twice, ← sd_by, ← sd_by, a2, b2]
     refine compareOf_W _ _ _ _ _ _ _ _ _ _ _ _ _ _ _ _ _ w1 (by omega) (by omega) (fun _ => rfl) (fun w2 => side_any _ _ _ _ _ _ _ w2) (fun w2 => side_any _ _ _ _ _ _ _ w2) (fun e1 e2 => ?_)
     exfalso
     unfold sdI at e1 e2
     rcases h3 with h | h
     ·rw [if_pos (by omega)] at e1
      split at e1 <;> omega
     ·rw [if_pos (by omega)] at e2
      split at e2 <;> omega
   ·have hca : clsN k (fldN k a) (fldE k a) (fldF k a) = 1 ∨ clsN k (fldN k a) (fldE k a) (fldF k a) = 2 := by omega
    have hcb : clsN k (fldN k b) (fldE k b) (fldF k b) = 1 ∨ clsN k (fldN k b) (fldE k b) (fldF k b) = 2 := by omega
    obtain ⟨da, ea⟩ := rf_num hk a hca
    obtain ⟨db, eb⟩ := rf_num hk b hcb
    rw [← a4] at da ea
    rw [← b4] at db eb
    have ea' : bare (rfT (k : Int) a) = rfT (k : Int) a := ea
    have eb' : bare (rfT (k : Int) b) = rfT (k : Int) b := eb
    obtain ⟨c1, e1, e2⟩ := dchk_zero da
    obtain ⟨c2, f1, f2⟩ := dchk_zero db
    obtain ⟨p1, p2, p3⟩ := bare_fits (t := rfT (k : Int) a) (chk_zero c1).2 e1 e2
    obtain ⟨q1, q2, q3⟩ := bare_fits (t := rfT (k : Int) b) (chk_zero c2).2 f1 f2
    rw [ea'] at p1 p2 p3
    rw [eb'] at q1 q2 q3
    refine compares_W (k : Int) (signT (plusT (opT (k : Int) a) (negT (opT (k : Int) b)))) 0 true a b w (fun h => absurd rfl h) (fun w1 b0 => ?_) HO (fun _ xo xc yo yc w1 rx ry => ?_) HB
    ·have la := (chk_zero c1).2
     have lb := (chk_zero c2).2
     refine acompare_W (k : Int) _ _ _ _ _ _ _ a b _ w1 (fun h => absurd he h) (fun h => absurd he h) (fun _ h => by rw [hn'] at h; cases h) (fun _ _ => rfl) (fun w2 => deskOf_any k hk w2) (HOps w1 b0) (fun _ _ xo xc yo yc w2 rx ry => ?_)
     rw [a1] at rx ⊢
     rw [b1] at ry ⊢
     exact compareN_W _ _ _ _ _ _ _ _ _ _ _ _ _ _ _ w2 (by simp; omega) (by simp; omega) (fun w3 b3' => dcompareL_any _ _ (rfT (k : Int) a) (rfT (k : Int) b) w3 ⟨_, rfl, rx.later b3'⟩ ⟨_, rfl, ry.later b3'⟩ (by omega) (by omega) (by omega) (by omega) (by omega) (by omega))
    refine compareOf_W _ _ 0 0 _ _ _ _ _ _ _ _ _ _ _ _ _ w1 (by omega) (by omega) (fun h => by omega) (fun w2 => ?_) (fun w2 => ?_) (fun _ _ w2 bb => ?_)
    ·have := side_any ((decC (k : Int) a : Nat) : Int) (rfG (k : Int) a) (rfT (k : Int) a).s xo (Dg.dg 65536 (rfT (k : Int) a).n).length xc (rfT (k : Int) a).e w2
     rw [show sdI ((decC (k : Int) a : Nat) : Int) (rfG (k : Int) a) = 0 from if_neg (by omega)] at this
     exact this
    ·have := side_any ((decC (k : Int) b : Nat) : Int) (rfG (k : Int) b) (rfT (k : Int) b).s yo (Dg.dg 65536 (rfT (k : Int) b).n).length yc (rfT (k : Int) b).e w2
     rw [show sdI ((decC (k : Int) b : Nat) : Int) (rfG (k : Int) b) = 0 from if_neg (by omega)] at this
     exact this
    ·have := refdcmp_any _ _ (rfT (k : Int) a) (rfT (k : Int) b) w2 ⟨_, rfl, rx.later bb⟩ ⟨_, rfl, ry.later bb⟩ (by omega) (by omega) (by omega) (by omega) (by omega) (by omega)
     rw [a1, b1, ← sign_ref, ea', eb']
     exact this
 ·have h1 := errL_one hf [a, b] he
  rw [show opnE (k : Int) 1 [a, b] = errL (k : Int) [a, b] from by unfold opnE; rw [if_neg hf, if_neg he]] at HO
  refine compares_W (k : Int) 0 _ false a b w (fun _ => ⟨rfl, rfl⟩) (fun w1 b0 => ?_) HO (fun h => absurd h he) HB
  exact acompare_W (k : Int) _ _ _ _ _ 0 _ a b _ w1 (fun _ => h1) (fun _ => rfl) (fun h => absurd h he) (fun h => absurd h he) (fun w2 => deskOf_any k hk w2) (HOps w1 b0) (fun h => absurd h he)
end Go.Proofs.YtnhackdjplppjaaGreatDoor

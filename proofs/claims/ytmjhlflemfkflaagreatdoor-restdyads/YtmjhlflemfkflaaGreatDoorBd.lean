/-
  Texts laid together: Bl5, Bl10, Bl12, Bl13.
-/
import Derived.Test.YtmjhlflemfkflaaGreatDoorDu
import Derived.Test.YtmjhlflemfkflaaGreatDoorBs
import Derived.Test.YtmjhlflemfkflaaGreatDoorBb
import Derived.Test.YtmjhlflemfkflaaGreatDoorBl9b
import Derived.Test.YtmjhlflemfkflaaGreatDoorDb
/-
  Balls: contract of the function that ball.Div hands on.
-/
namespace Go.Proofs.YtmjhlflemfkflaaGreatDoor
open Go.RowKit

set_option maxRecDepth 100000 in
theorem bdiv1_any (v u : Value) (a b : Trip) (B : Nat) (p : Nat) (w : World) (hp : w.cell? ⟨p, 0, none⟩ = some (.int .i64 B)) (hv : Dv w v a) (hu : Dv w u b) (hb0 : 0 < b.n) (hLa : (Dg.dg 4294967296 a.n).length ≤ 3000) (hLb : (Dg.dg 4294967296 b.n).length ≤ 3000)
    (ha1 : -100000 ≤ a.e) (ha2 : a.e ≤ 100000) (hb1 : -100000 ≤ b.e) (hb2 : b.e ≤ 100000) (hB : B ≤ 10000) :
    Calls Tryz.prog 72 #[v, u, .pointer (some ⟨p, 0, none⟩)] w (DRes w (overT a b B)) := by
  obtain ⟨s0, rfl, ra⟩ := hv
  obtain ⟨ao, ca, rfl⟩ := ra.shape
  obtain ⟨s1, rfl, rb⟩ := hu
  obtain ⟨bo, cb, rfl⟩ := rb.shape
  obtain ⟨sa, an, ae⟩ := a
  obtain ⟨sb, bn, be⟩ := b
  simp only at ra rb hb0 hLa hLb ha1 ha2 hb1 hb2 ⊢
  have HP : Hid (∀ w1, Below w.heap.size w w1 → Calls Tryz.prog 73 #[.agg #[.bool sa, .slice ao (Dg.dg 4294967296 an).length ca, .int .i64 ae], .agg #[.bool sb, .slice bo (Dg.dg 4294967296 bn).length cb, .int .i64 be], .int .i64 B] w1 (DRes w1 (overT ⟨sa, an, ae⟩ ⟨sb, bn, be⟩ B))) := fun w1 b1 =>
    dover_any _ _ ⟨sa, an, ae⟩ ⟨sb, bn, be⟩ B w1 ⟨_, rfl, ra.later b1⟩ ⟨_, rfl, rb.later b1⟩ hb0 hLa hLb ha1 ha2 hb1 hb2 hB
  obtain ⟨ma, hma⟩ : ∃ m, (Dg.dg 4294967296 an).length = m := ⟨_, rfl⟩
  obtain ⟨mb, hmb⟩ : ∃ m, (Dg.dg 4294967296 bn).length = m := ⟨_, rfl⟩
  rw [hma, hmb] at HP ⊢
  obtain ⟨⟨rs, rn, re⟩, hrr⟩ : ∃ r, overT ⟨sa, an, ae⟩ ⟨sb, bn, be⟩ B = r := ⟨_, rfl⟩
  rw [hrr] at HP ⊢
  clear hma hmb hrr ra rb hLa hLb hb0
  obtain ⟨la, lb, lc, b01, -⟩ := locals3 w (.bool sa) (.slice ao ma ca) (.int .i64 ae) (.bool sb) (.slice bo mb cb) (.int .i64 be) (.bool false) (.slice none 0 0) (.int .i64 0) 66 66 66
  have hp1 := cell_later b01 hp
  go_enter Tryz.func72, Tryz.ntmps72
  go_wp2_with fail
  refine (HP.out _ b01).mono ?_
  rintro z w6 ⟨vr, rfl, o6, b6⟩
  have hlt := lc.1
  have lc6 := lc.later b6
  have b06 := below_trans b01 b6
  obtain ⟨so, sc, hvr⟩ := o6.rd.shape
  subst hvr
  obtain ⟨hl6, ⟨d0, d1, d2⟩, f0, f1, f2⟩ := id lc6
  clear lc b6 la lb
  go_wp2
  obtain ⟨-, ⟨g0, g1, g2⟩, -⟩ := loc_set lc6 (.bool rs) (.slice so (Dg.dg 4294967296 rn).length sc) (.int .i64 re)
  have o7 := o6.apart3 (b := w.heap.size + 1 + 1) hlt (.bool rs) (.slice so (Dg.dg 4294967296 rn).length sc) (.int .i64 re)
  have b8 := below_set3 b06 (show w.heap.size ≤ w.heap.size + 1 + 1 by omega) (.bool rs) (.slice so (Dg.dg 4294967296 rn).length sc) (.int .i64 re)
  refine bodyPost_ret (v := .agg #[.bool rs, .slice so (Dg.dg 4294967296 rn).length sc, .int .i64 re]) (by simp [results, Tryz.results72, go_sem, g0, g1, g2]) rfl ?_
  exact ⟨_, rfl, o7.lower b01.size, b8⟩
end Go.Proofs.YtmjhlflemfkflaaGreatDoor
/-
  Balls: contract of ball.Div.
-/
namespace Go.Proofs.YtmjhlflemfkflaaGreatDoor
open Go.RowKit

set_option maxRecDepth 100000 in
set_option maxHeartbeats 1600000 in
theorem bdivB_any (s : Bool) (ao : Option Addr) (ca la : Nat) (e : Int) (t : Bool) (bo : Option Addr) (cb lb : Nat) (f : Int) (r : Bool) (co : Option Addr) (cc lc : Nat) (g : Int) (u : Bool) (d' : Option Addr) (cd ld : Nat) (k : Int) (n : Int) (c : Int) (hB : Bool) (R : Trip × Trip × Int) (w : World)
    (HW : ∀ b w1, Below w.heap.size w w1 → w1.cell? ⟨b, 0, none⟩ = some (.bool s) ∧ w1.cell? ⟨b, 1, none⟩ = some (.slice ao la ca) ∧ w1.cell? ⟨b, 2, none⟩ = some (.int .i64 e) ∧ w1.cell? ⟨b, 3, none⟩ = some (.bool t) ∧ w1.cell? ⟨b, 4, none⟩ = some (.slice bo lb cb) ∧ w1.cell? ⟨b, 5, none⟩ = some (.int .i64 f) ∧ w1.cell? ⟨b, 6, none⟩ = some (.bool r) ∧ w1.cell? ⟨b, 7, none⟩ = some (.slice co lc cc) ∧ w1.cell? ⟨b, 8, none⟩ = some (.int .i64 g) ∧ w1.cell? ⟨b, 9, none⟩ = some (.bool u) ∧ w1.cell? ⟨b, 10, none⟩ = some (.slice d' ld cd) ∧ w1.cell? ⟨b, 11, none⟩ = some (.int .i64 k) → Calls Tryz.prog 24 #[.int .i64 n, .slice (some ⟨b, 0, none⟩) 2 2] w1 fun z w' => z = .returned (.int .i64 c) ∧ Below w1.heap.size w1 w')
    (HH : c = 0 → ∀ w1, Below w.heap.size w w1 → Calls Tryz.prog 70 #[.agg #[.bool r, .slice co lc cc, .int .i64 g, .bool u, .slice d' ld cd, .int .i64 k], .agg #[.bool false, .slice none 0 0, .int .i64 0]] w1 fun z w' => z = .returned (.bool hB) ∧ Below w1.heap.size w1 w')
    (HR : c = 0 → hB = false → ∀ p w1, Below w.heap.size w w1 → w1.cell? ⟨p, 0, none⟩ = some (.int .i64 n) → Calls Tryz.prog 71 #[.agg #[.bool s, .slice ao la ca, .int .i64 e, .bool t, .slice bo lb cb, .int .i64 f], .agg #[.bool r, .slice co lc cc, .int .i64 g, .bool u, .slice d' ld cd, .int .i64 k], .int .i64 n, .func (.func 72) #[] #[.pointer (some ⟨p, 0, none⟩)]] w1 (BOwn w1 R)) :
    Calls Tryz.prog 37 #[.agg #[.bool s, .slice ao la ca, .int .i64 e, .bool t, .slice bo lb cb, .int .i64 f], .agg #[.bool r, .slice co lc cc, .int .i64 g, .bool u, .slice d' ld cd, .int .i64 k], .int .i64 n] w (BOwn w (if c = 0 then (if hB = true then (⟨false, 0, 0⟩, ⟨false, 0, 0⟩, 5) else R) else (⟨false, 0, 0⟩, ⟨false, 0, 0⟩, c))) := by
  have HHW : Hid _ := HW
  have HHH : Hid _ := HH
  have HHR : Hid _ := HR
  clear HW HH HR
  have l1 := (((loc6_new w (.bool s) (.slice ao la ca) (.int .i64 e) (.bool t) (.slice bo lb cb) (.int .i64 f) 27).later (below_alloc _ (.cells #[.bool r, .slice co lc cc, .int .i64 g, .bool u, .slice d' ld cd, .int .i64 k] 27))).later (below_alloc _ (.cells #[.int .i64 n] 3))).later (below_alloc _ (.cells #[.bool false, .slice none 0 0, .int .i64 0, .bool false, .slice none 0 0, .int .i64 0] 27))
  have m1 := ((loc6_new (w.alloc (.cells #[.bool s, .slice ao la ca, .int .i64 e, .bool t, .slice bo lb cb, .int .i64 f] 27)) (.bool r) (.slice co lc cc) (.int .i64 g) (.bool u) (.slice d' ld cd) (.int .i64 k) 27).later (below_alloc _ (.cells #[.int .i64 n] 3))).later (below_alloc _ (.cells #[.bool false, .slice none 0 0, .int .i64 0, .bool false, .slice none 0 0, .int .i64 0] 27))
  have k1 := loc6_new (((w.alloc (.cells #[.bool s, .slice ao la ca, .int .i64 e, .bool t, .slice bo lb cb, .int .i64 f] 27)).alloc (.cells #[.bool r, .slice co lc cc, .int .i64 g, .bool u, .slice d' ld cd, .int .i64 k] 27)).alloc (.cells #[.int .i64 n] 3)) (.bool false) (.slice none 0 0) (.int .i64 0) (.bool false) (.slice none 0 0) (.int .i64 0) 27
  have i1 : (((w.alloc (.cells #[.bool s, .slice ao la ca, .int .i64 e, .bool t, .slice bo lb cb, .int .i64 f] 27)).alloc (.cells #[.bool r, .slice co lc cc, .int .i64 g, .bool u, .slice d' ld cd, .int .i64 k] 27)).alloc (.cells #[.int .i64 n] 3)).cell? ⟨w.heap.size + 1 + 1, 0, none⟩ = some (.int .i64 n) := by rw [World.cell?_alloc_at _ _ _ _ (by simp only [World.size_alloc])]; rfl
  have i2 := cell_later (below_alloc _ (.cells #[.bool false, .slice none 0 0, .int .i64 0, .bool false, .slice none 0 0, .int .i64 0] 27)) i1
  have b1 := below_trans (below_trans (below_trans (below_alloc w (.cells #[.bool s, .slice ao la ca, .int .i64 e, .bool t, .slice bo lb cb, .int .i64 f] 27)) (below_alloc _ (.cells #[.bool r, .slice co lc cc, .int .i64 g, .bool u, .slice d' ld cd, .int .i64 k] 27))) (below_alloc _ (.cells #[.int .i64 n] 3))) (below_alloc _ (.cells #[.bool false, .slice none 0 0, .int .i64 0, .bool false, .slice none 0 0, .int .i64 0] 27))
  simp only [World.size_alloc] at m1 k1
  have bs := below_alloc ((((w.alloc (.cells #[.bool s, .slice ao la ca, .int .i64 e, .bool t, .slice bo lb cb, .int .i64 f] 27)).alloc (.cells #[.bool r, .slice co lc cc, .int .i64 g, .bool u, .slice d' ld cd, .int .i64 k] 27)).alloc (.cells #[.int .i64 n] 3)).alloc (.cells #[.bool false, .slice none 0 0, .int .i64 0, .bool false, .slice none 0 0, .int .i64 0] 27)) (.cells #[.bool s, .slice ao la ca, .int .i64 e, .bool t, .slice bo lb cb, .int .i64 f, .bool r, .slice co lc cc, .int .i64 g, .bool u, .slice d' ld cd, .int .i64 k] 27)
  have l2 := l1.later bs
  have m2 := m1.later bs
  have k2 := k1.later bs
  have i3 := cell_later bs i2
  have b2 := below_trans b1 bs
  have HW2 := HHW.out (w.heap.size + 1 + 1 + 1 + 1) _ b2 (by refine ⟨?_, ?_, ?_, ?_, ?_, ?_, ?_, ?_, ?_, ?_, ?_, ?_⟩ <;> (rw [World.cell?_alloc_at _ _ _ _ (by simp only [World.size_alloc])]; rfl))
  clear l1 m1 k1 b1 bs HHW i1
  by_cases hc : c = 0
  · subst hc
    rw [if_pos rfl]
    have HHH := HHH.out rfl
    have HH : Hid _ := HHH
    have HHR := HHR.out rfl
    have HR : Hid _ := HHR
    clear HHH HHR
    cases hB
    · rw [if_neg (by decide)]
      replace HR : Hid _ := HR.out rfl
      obtain ⟨⟨rs, rn, re⟩, ⟨qs, qn, qe⟩, rc⟩ := R
      go_enter Tryz.func37, Tryz.ntmps37
      go_wp2_with fail
      refine HW2.mono ?_
      rintro z w3 ⟨rfl, b3⟩
      have l3 := l2.later b3
      have m3 := m2.later b3
      have k3 := k2.later b3
      have i4 := cell_later b3 i3
      have b03 := below_trans b2 b3
      clear l2 m2 k2 b2 b3 HW2 i2 i3
      obtain ⟨-, ⟨x0, x1, x2, x3, x4, x5⟩, -⟩ := id m3
      go_wp2_with fail
      refine (HH.out w3 b03).mono ?_
      rintro z w4 ⟨rfl, b4⟩
      have l4 := l3.later b4
      have m4 := m3.later b4
      have k4 := k3.later b4
      have i5 := cell_later b4 i4
      have b04 := below_trans b03 b4
      clear l3 m3 k3 b03 b4 i4 x0 x1 x2 x3 x4 x5
      obtain ⟨-, ⟨c0, c1, c2, c3, c4, c5⟩, -⟩ := id l4
      obtain ⟨-, ⟨x0, x1, x2, x3, x4, x5⟩, -⟩ := id m4
      go_wp2_with fail
      refine (HR.out _ w4 b04 i5).mono ?_
      rintro z w5 ⟨pp, qq, rfl, op, oq, b5⟩
      have b05 := below_trans b04 b5
      have k5 := k4.later b5
      have hlt := k4.1
      obtain ⟨po, pc, hp⟩ := op.rd.shape
      subst hp
      obtain ⟨qo, qc, hq⟩ := oq.rd.shape
      subst hq
      obtain ⟨hl, ⟨g0, g1, g2, g3, g4, g5⟩, f0, f1, f2, f3, f4, f5⟩ := id k5
      clear c0 c1 c2 c3 c4 c5 x0 x1 x2 x3 x4 x5 i5 l4 m4 k4
      go_wp2
      obtain ⟨-, ⟨u0, u1, u2, u3, u4, u5⟩, -⟩ := loc6_set k5 (.bool rs) (.slice po (Dg.dg 4294967296 rn).length pc) (.int .i64 re) (.bool qs) (.slice qo (Dg.dg 4294967296 qn).length qc) (.int .i64 qe)
      have bb := below_set6 b05 (show w.heap.size ≤ w.heap.size + 1 + 1 + 1 by omega) (.bool rs) (.slice po (Dg.dg 4294967296 rn).length pc) (.int .i64 re) (.bool qs) (.slice qo (Dg.dg 4294967296 qn).length qc) (.int .i64 qe)
      refine bodyPost_ret (v := .tuple #[.agg #[.bool rs, .slice po (Dg.dg 4294967296 rn).length pc, .int .i64 re, .bool qs, .slice qo (Dg.dg 4294967296 qn).length qc, .int .i64 qe], .int .i64 rc]) (by simp [results, Tryz.results37, go_sem, u0, u1, u2, u3, u4, u5]) rfl ?_
      exact ⟨_, _, rfl, ((op.apart6 hlt _ _ _ _ _ _).lower b04.size), ((oq.apart6 hlt _ _ _ _ _ _).lower b04.size), bb⟩
    · rw [if_pos rfl]
      go_enter Tryz.func37, Tryz.ntmps37
      go_wp2_with fail
      refine HW2.mono ?_
      rintro z w3 ⟨rfl, b3⟩
      have m3 := m2.later b3
      have k3 := k2.later b3
      have b03 := below_trans b2 b3
      clear l2 m2 k2 b2 b3 HW2 i2 i3
      obtain ⟨-, ⟨x0, x1, x2, x3, x4, x5⟩, -⟩ := id m3
      go_wp2_with fail
      refine (HH.out w3 b03).mono ?_
      rintro z w4 ⟨rfl, b4⟩
      have k4 := k3.later b4
      have b04 := below_trans b03 b4
      clear m3 k3 b03 b4 x0 x1 x2 x3 x4 x5
      obtain ⟨hl, ⟨v0, v1, v2, v3, v4, v5⟩, f0, f1, f2, f3, f4, f5⟩ := id k4
      go_wp2
      obtain ⟨-, ⟨u0, u1, u2, u3, u4, u5⟩, -⟩ := loc6_set k4 (.bool false) (.slice none 0 0) (.int .i64 0) (.bool false) (.slice none 0 0) (.int .i64 0)
      have bb := below_set6 b04 (show w.heap.size ≤ w.heap.size + 1 + 1 + 1 by omega) (.bool false) (.slice none 0 0) (.int .i64 0) (.bool false) (.slice none 0 0) (.int .i64 0)
      refine bodyPost_ret (v := .tuple #[.agg #[.bool false, .slice none 0 0, .int .i64 0, .bool false, .slice none 0 0, .int .i64 0], .int .i64 5]) (by simp [results, Tryz.results37, go_sem, u0, u1, u2, u3, u4, u5]) rfl ?_
      exact ⟨_, _, rfl, own_nil _ _ _ _, own_nil _ _ _ _, bb⟩
  · rw [if_neg hc]
    go_enter Tryz.func37, Tryz.ntmps37
    go_wp2_with fail
    refine HW2.mono ?_
    rintro z w3 ⟨rfl, b3⟩
    have k3 := k2.later b3
    have b03 := below_trans b2 b3
    clear l2 m2 k2 b2 b3 HW2 i2 i3
    obtain ⟨hl, ⟨v0, v1, v2, v3, v4, v5⟩, f0, f1, f2, f3, f4, f5⟩ := id k3
    go_wp2
    obtain ⟨-, ⟨u0, u1, u2, u3, u4, u5⟩, -⟩ := loc6_set k3 (.bool false) (.slice none 0 0) (.int .i64 0) (.bool false) (.slice none 0 0) (.int .i64 0)
    have bb := below_set6 b03 (show w.heap.size ≤ w.heap.size + 1 + 1 + 1 by omega) (.bool false) (.slice none 0 0) (.int .i64 0) (.bool false) (.slice none 0 0) (.int .i64 0)
    refine bodyPost_ret (v := .tuple #[.agg #[.bool false, .slice none 0 0, .int .i64 0, .bool false, .slice none 0 0, .int .i64 0], .int .i64 c]) (by simp [results, Tryz.results37, go_sem, u0, u1, u2, u3, u4, u5]) rfl ?_
    exact ⟨_, _, rfl, own_nil _ _ _ _, own_nil _ _ _ _, bb⟩
end Go.Proofs.YtmjhlflemfkflaaGreatDoor
/-
  Balls: contract of ball.Div, of whatever it is handed.
-/
namespace Go.Proofs.YtmjhlflemfkflaaGreatDoor
open Go.RowKit

theorem run_enter {P : Program} {f : FuncId} {fn : Func} {c : Code} (hf : P.funcs[f]? = some fn) (hname : (fn.name == "runtime.NumGoroutine") = false) (hb : fn.body = some c) (args : Array Value) (W : World) :
    Sem.run P (callFunc f args) W = .ok (.enter f args) W := by
  have h1 : fn.name ≠ "runtime.NumGoroutine" := by simpa using hname
  simp [callFunc, hf, h1, hb]

/-- What is made of both ends of two balls. -/
def four (T : Trip → Trip → Trip) (A0 A1 B0 B1 : Trip) : Nat → Trip
  | 0 => T A0 B0
  | 1 => T A0 B1
  | 2 => T A1 B0
  | _ => T A1 B1

theorem four_all (T : Trip → Trip → Trip) (A0 A1 B0 B1 : Trip) (Q : Trip → Prop) (h0 : Q (T A0 B0)) (h1 : Q (T A0 B1)) (h2 : Q (T A1 B0)) (h3 : Q (T A1 B1)) : ∀ j, Q (four T A0 A1 B0 B1 j)
  | 0 => h0
  | 1 => h1
  | 2 => h2
  | _ + 3 => h3

def zeroT : Trip := ⟨false, 0, 0⟩

theorem V_zeroT (K : Nat) : V K zeroT = 0 := by simp [V, zeroT, sz]

theorem V_zero_iff {K : Nat} {t : Trip} : V K t = 0 ↔ t.n = 0 := by
  rw [V_nat]
  have p1 : 0 < 2 ^ (t.e + K).toNat := Nat.pow_pos (by omega)
  constructor
  · intro h
    by_cases h0 : t.n = 0
    · exact h0
    · have := Nat.mul_pos (Nat.pos_of_ne_zero h0) p1
      unfold sz at h
      split at h <;> omega
  · intro h
    rw [h, Nat.zero_mul]
    simp [sz]

/-- A ball without 0 in it has no end that is 0. -/
theorem has_false {B0 B1 : Trip} (h : hasB (cmpT B0 zeroT) (cmpT B1 zeroT) = false) (hle : cmpT B0 B1 ≤ 0) : 0 < B0.n ∧ 0 < B1.n := by
  have k0 : -((B0.e.natAbs + B1.e.natAbs : Nat) : Int) ≤ B0.e := by omega
  have k1 : -((B0.e.natAbs + B1.e.natAbs : Nat) : Int) ≤ B1.e := by omega
  have kz : -((B0.e.natAbs + B1.e.natAbs : Nat) : Int) ≤ zeroT.e := by show _ ≤ (0 : Int); omega
  generalize B0.e.natAbs + B1.e.natAbs = K at k0 k1 kz
  have c0 := cmpT_gt k0 kz
  have c1 := cmpT_lt k1 kz
  have c2 := cmpT_gt k0 k1
  rw [V_zeroT] at c0 c1
  have hVle : V K B0 ≤ V K B1 := by
    by_cases hx : V K B1 < V K B0
    · have := c2.2 hx; omega
    · omega
  unfold hasB at h
  have hn : 0 < V K B0 ∨ V K B1 < 0 := by
    by_cases h0 : 0 < V K B0
    · exact .inl h0
    · right
      by_cases h1 : V K B1 < 0
      · exact h1
      · exfalso
        have a0 : cmpT B0 zeroT ≤ 0 := by
          by_cases hp : 0 < cmpT B0 zeroT
          · exact absurd (c0.1 hp) h0
          · omega
        have a1 : 0 ≤ cmpT B1 zeroT := by
          by_cases hp : cmpT B1 zeroT < 0
          · exact absurd (c1.1 hp) h1
          · omega
        simp [a0, a1] at h
  have z0 := V_zero_iff (K := K) (t := B0)
  have z1 := V_zero_iff (K := K) (t := B1)
  constructor
  · rcases Nat.eq_zero_or_pos B0.n with h0 | h0
    · have := z0.2 h0; omega
    · exact h0
  · rcases Nat.eq_zero_or_pos B1.n with h0 | h0
    · have := z1.2 h0; omega
    · exact h0

theorem pow_len32 {n k L : Nat} (h : n < 2 ^ k) (hk : k ≤ 32 * L) : (Dg.dg 4294967296 n).length ≤ L := by
  refine Dg.dg_len_le 4294967296 n L (by omega) (Nat.lt_of_lt_of_le h ?_)
  rw [show (4294967296 : Nat) = 2 ^ 32 from rfl, ← Nat.pow_mul]
  exact Nat.pow_le_pow_right (by omega) hk

theorem over_bits {an bn S p q x : Nat} (h1 : an < 2 ^ p) (hS : S ≤ q) (hx : x ≤ 1) : an * 2 ^ S / bn * 2 + x < 2 ^ (p + q + 1) := by
  have h2 : an * 2 ^ S / bn ≤ an * 2 ^ S := Nat.div_le_self _ _
  have h3 : an * 2 ^ S < 2 ^ p * 2 ^ q := Nat.mul_lt_mul_of_lt_of_le h1 (Nat.pow_le_pow_right (by omega) hS) (Nat.pow_pos (by omega))
  rw [← Nat.pow_add] at h3
  rw [Nat.pow_succ]
  generalize 2 ^ (p + q) = m at h3 ⊢
  generalize an * 2 ^ S = z at h2 h3 ⊢
  omega

theorem over_fits {a b : Trip} {B : Nat} (ha : (Dg.dg 4294967296 a.n).length ≤ 1200) (hb : (Dg.dg 4294967296 b.n).length ≤ 1200) (hB : B ≤ 4096) (a1 : -20000 ≤ a.e) (a2 : a.e ≤ 20000) (b1 : -20000 ≤ b.e) (b2 : b.e ≤ 20000) :
    (Dg.dg 4294967296 (overT a b B).n).length ≤ 9000 ∧ -100000 ≤ (overT a b B).e ∧ (overT a b B).e ≤ 100000 := by
  have la := bitLen_of_len2 ha
  have lb := bitLen_of_len2 hb
  have hS : overS a b B ≤ 4096 + 38400 := by unfold overS; omega
  have h1 : a.n < 2 ^ bitLen a.n := (bitLen_spec a.n).1
  refine ⟨?_, ?_, ?_⟩
  · have h2 := over_bits (bn := b.n) (x := if decide (0 < a.n * 2 ^ overS a b B % b.n) = true then 1 else 0) h1 (Nat.le_refl (overS a b B)) (by split <;> omega)
    exact pow_len32 h2 (by omega)
  · show -100000 ≤ a.e - b.e - (overS a b B : Int) - 1
    omega
  · show a.e - b.e - (overS a b B : Int) - 1 ≤ 100000
    omega

set_option maxHeartbeats 800000 in
theorem bdiv_ok (s : Bool) (ao : Option Addr) (ca : Nat) (xs : List Nat) (e : Int) (t : Bool) (bo : Option Addr) (cb : Nat) (ys : List Nat) (f : Int) (r : Bool) (co : Option Addr) (cc : Nat) (zs : List Nat) (g : Int) (u : Bool) (d' : Option Addr) (cd : Nat) (us : List Nat) (k : Int) (n : Int) (w : World)
    (ha : Rd w .u32 (.slice ao xs.length ca) xs) (hb : Rd w .u32 (.slice bo ys.length cb) ys) (hc : Rd w .u32 (.slice co zs.length cc) zs) (hd : Rd w .u32 (.slice d' us.length cd) us) (sa : Dg.Small 4294967296 xs) (sb : Dg.Small 4294967296 ys) (sc : Dg.Small 4294967296 zs) (sd : Dg.Small 4294967296 us) (hT : Tab w) :
    Calls Tryz.prog 37 #[.agg #[.bool s, .slice ao xs.length ca, .int .i64 e, .bool t, .slice bo ys.length cb, .int .i64 f], .agg #[.bool r, .slice co zs.length cc, .int .i64 g, .bool u, .slice d' us.length cd, .int .i64 k], .int .i64 n] w
      (BOwn w (if wrong2 n (bchk s xs e t ys f) (bchk r zs g u us k) = 0 then (if hasB (cmpT ⟨r, Dg.vl 4294967296 zs, g⟩ zeroT) (cmpT ⟨u, Dg.vl 4294967296 us, k⟩ zeroT) = true then (⟨false, 0, 0⟩, ⟨false, 0, 0⟩, 5) else leastR (four (fun a b => overT a b n.toNat) ⟨s, Dg.vl 4294967296 xs, e⟩ ⟨t, Dg.vl 4294967296 ys, f⟩ ⟨r, Dg.vl 4294967296 zs, g⟩ ⟨u, Dg.vl 4294967296 us, k⟩) 4 n)
        else (⟨false, 0, 0⟩, ⟨false, 0, 0⟩, wrong2 n (bchk s xs e t ys f) (bchk r zs g u us k)))) := by
  refine bdivB_any s ao ca xs.length e t bo cb ys.length f r co cc zs.length g u d' cd us.length k n _ _ _ w (fun b w1 b1 h => bwrong2_ok n b s ao ca xs e t bo cb ys f r co cc zs g u d' cd us k w ha hb hc hd sa sb sc sd w1 b1 h) (fun h0 w1 b1 => ?_) (fun h0 hB p w1 b1 hp => ?_)
  · obtain ⟨_, q2, _, _⟩ := wrong2_zero h0
    obtain ⟨d1, d2, _⟩ := bchk_zero q2
    obtain ⟨z1, z2, z3, z4, z5⟩ := num_ok d1 sc
    obtain ⟨y1, y2, y3, y4, y5⟩ := num_ok d2 sd
    have hz : Dv w1 (.agg #[.bool false, .slice none 0 0, .int .i64 0]) zeroT := ⟨_, rfl, rd_nil _ _⟩
    refine bhas_any r co cc zs.length g u d' cd us.length k false none 0 0 0 _ _ w1 (signT_le _) (fun w2 b2 => ?_) (fun w2 b2 => ?_)
    · exact dcompareL_any _ _ ⟨r, Dg.vl 4294967296 zs, g⟩ zeroT w2 (dv_of (hc.later (below_trans b1 b2)) sc z1) (hz.later b2) (by rw [z2]; omega) (by show (Dg.dg 4294967296 0).length ≤ _; rw [show Dg.dg 4294967296 0 = [] from rfl]; simp) (by show -100000 ≤ g; omega) (by show g ≤ 100000; omega) (by show -100000 ≤ (0 : Int); omega) (by show (0 : Int) ≤ 100000; omega)
    · exact dcompareL_any _ _ ⟨u, Dg.vl 4294967296 us, k⟩ zeroT w2 (dv_of (hd.later (below_trans b1 b2)) sd y1) (hz.later b2) (by rw [y2]; omega) (by show (Dg.dg 4294967296 0).length ≤ _; rw [show Dg.dg 4294967296 0 = [] from rfl]; simp) (by show -100000 ≤ k; omega) (by show k ≤ 100000; omega) (by show -100000 ≤ (0 : Int); omega) (by show (0 : Int) ≤ 100000; omega)
  · obtain ⟨q1, q2, n1, n2⟩ := wrong2_zero h0
    obtain ⟨i1, i2, _⟩ := bchk_zero q1
    obtain ⟨d1, d2, dle⟩ := bchk_zero q2
    obtain ⟨v1, v2, v3, v4, v5⟩ := num_ok i1 sa
    obtain ⟨u1, u2, u3, u4, u5⟩ := num_ok i2 sb
    obtain ⟨z1, z2, z3, z4, z5⟩ := num_ok d1 sc
    obtain ⟨y1, y2, y3, y4, y5⟩ := num_ok d2 sd
    obtain ⟨pz, py⟩ := has_false hB dle
    obtain ⟨B, hBn⟩ : ∃ B : Nat, n = (B : Int) := ⟨n.toNat, by omega⟩
    have hBt : n.toNat = B := by omega
    have hB4 : B ≤ 4096 := by omega
    have F00 := over_fits (a := ⟨s, Dg.vl 4294967296 xs, e⟩) (b := ⟨r, Dg.vl 4294967296 zs, g⟩) (by rw [v2]; omega) (by rw [z2]; omega) hB4 v4 v5 z4 z5
    have F01 := over_fits (a := ⟨s, Dg.vl 4294967296 xs, e⟩) (b := ⟨u, Dg.vl 4294967296 us, k⟩) (by rw [v2]; omega) (by rw [y2]; omega) hB4 v4 v5 y4 y5
    have F10 := over_fits (a := ⟨t, Dg.vl 4294967296 ys, f⟩) (b := ⟨r, Dg.vl 4294967296 zs, g⟩) (by rw [u2]; omega) (by rw [z2]; omega) hB4 u4 u5 z4 z5
    have F11 := over_fits (a := ⟨t, Dg.vl 4294967296 ys, f⟩) (b := ⟨u, Dg.vl 4294967296 us, k⟩) (by rw [u2]; omega) (by rw [y2]; omega) hB4 u4 u5 y4 y5
    have FA := four_all (fun a b => overT a b B) ⟨s, Dg.vl 4294967296 xs, e⟩ ⟨t, Dg.vl 4294967296 ys, f⟩ ⟨r, Dg.vl 4294967296 zs, g⟩ ⟨u, Dg.vl 4294967296 us, k⟩ (fun T => (Dg.dg 4294967296 T.n).length ≤ 9000 ∧ -100000 ≤ T.e ∧ T.e ≤ 100000) F00 F01 F10 F11
    rw [hBt]
    have D : ∀ {S1 : Bool} {O1 : Option Addr} {C1 : Nat} {L1 : List Nat} {E1 : Int} {S2 : Bool} {O2 : Option Addr} {C2 : Nat} {L2 : List Nat} {E2 : Int}, Rd w .u32 (.slice O1 L1.length C1) L1 → Dg.Small 4294967296 L1 → dchk L1 E1 = 0 → Rd w .u32 (.slice O2 L2.length C2) L2 → Dg.Small 4294967296 L2 → dchk L2 E2 = 0 → 0 < Dg.vl 4294967296 L2 → ∀ w2, Below w1.heap.size w1 w2 →
        Calls Tryz.prog 72 #[.agg #[.bool S1, .slice O1 L1.length C1, .int .i64 E1], .agg #[.bool S2, .slice O2 L2.length C2, .int .i64 E2], .pointer (some ⟨p, 0, none⟩)] w2 (DRes w2 (overT ⟨S1, Dg.vl 4294967296 L1, E1⟩ ⟨S2, Dg.vl 4294967296 L2, E2⟩ B)) := fun {S1 O1 C1 L1 E1 S2 O2 C2 L2 E2} r1 s1 c1 r2 s2 c2 hp2 w2 b2 => by
      obtain ⟨m1, m2, m3, m4, m5⟩ := num_ok c1 s1
      obtain ⟨o1, o2, o3, o4, o5⟩ := num_ok c2 s2
      exact bdiv1_any _ _ ⟨S1, Dg.vl 4294967296 L1, E1⟩ ⟨S2, Dg.vl 4294967296 L2, E2⟩ B p w2 (hBn ▸ cell_later b2 hp) (dv_of (r1.later (below_trans b1 b2)) s1 m1) (dv_of (r2.later (below_trans b1 b2)) s2 o1) hp2 (by rw [m2]; omega) (by rw [o2]; omega) (by show -100000 ≤ E1; omega) (by show E1 ≤ 100000; omega) (by show -100000 ≤ E2; omega) (by show E2 ≤ 100000; omega) (by omega)
    have key := bboth1_any s ao ca xs.length e t bo cb ys.length f r co cc zs.length g u d' cd us.length k n 72 (.pointer (some ⟨p, 0, none⟩)) (wrong2 n (bchk s xs e t ys f) (bchk r zs g u us k)) (four (fun a b => overT a b B) ⟨s, Dg.vl 4294967296 xs, e⟩ ⟨t, Dg.vl 4294967296 ys, f⟩ ⟨r, Dg.vl 4294967296 zs, g⟩ ⟨u, Dg.vl 4294967296 us, k⟩) (leastR (four (fun a b => overT a b B) ⟨s, Dg.vl 4294967296 xs, e⟩ ⟨t, Dg.vl 4294967296 ys, f⟩ ⟨r, Dg.vl 4294967296 zs, g⟩ ⟨u, Dg.vl 4294967296 us, k⟩) 4 n) w1
      (fun args W => run_enter Tryz.func72 (by kernel_rfl) (c := _) rfl args W)
      (fun b w2 b2 h => bwrong2_ok n b s ao ca xs e t bo cb ys f r co cc zs g u d' cd us k w ha hb hc hd sa sb sc sd w2 (below_trans b1 b2) h)
      (fun _ w2 b2 => D ha sa i1 hc sc d1 pz w2 b2) (fun _ w2 b2 => D ha sa i1 hd sd d2 py w2 b2) (fun _ w2 b2 => D hb sb i2 hc sc d1 pz w2 b2) (fun _ w2 b2 => D hb sb i2 hd sd d2 py w2 b2)
      (fun _ b aos cas w2 b2 hlt hcell => bleast_ok n b 4 _ aos cas w2 (by omega) (by omega) hlt hcell n1 n2 (fun j _ => (FA j).1) (fun j _ => (FA j).2.1) (fun j _ => (FA j).2.2) (hT.later (below_trans b1 b2)))
    rw [if_pos h0] at key
    exact key
end Go.Proofs.YtmjhlflemfkflaaGreatDoor
/-
  Balls: ballBegun.
-/
namespace Go.Proofs.YtmjhlflemfkflaaGreatDoor
open Go.RowKit

theorem bbegun_value : (if wrong2 2 (bchk false [1] 0 false [1] 0) (bchk false [3] 0 false [3] 0) = 0 then (if hasB (cmpT ⟨false, Dg.vl 4294967296 [3], 0⟩ zeroT) (cmpT ⟨false, Dg.vl 4294967296 [3], 0⟩ zeroT) = true then (⟨false, 0, 0⟩, ⟨false, 0, 0⟩, 5) else leastR (four (fun a b => overT a b (2 : Int).toNat) ⟨false, Dg.vl 4294967296 [1], 0⟩ ⟨false, Dg.vl 4294967296 [1], 0⟩ ⟨false, Dg.vl 4294967296 [3], 0⟩ ⟨false, Dg.vl 4294967296 [3], 0⟩) 4 2)
      else (⟨false, 0, 0⟩, ⟨false, 0, 0⟩, wrong2 2 (bchk false [1] 0 false [1] 0) (bchk false [3] 0 false [3] 0))) = ((⟨false, 1, -2⟩, ⟨false, 3, -3⟩, 0) : Trip × Trip × Int) := by
  have e1 : wrong2 2 (bchk false [1] 0 false [1] 0) (bchk false [3] 0 false [3] 0) = 0 := by decide
  have e2 : hasB (cmpT ⟨false, Dg.vl 4294967296 [3], 0⟩ zeroT) (cmpT ⟨false, Dg.vl 4294967296 [3], 0⟩ zeroT) = false := by decide
  have e3 : overT ⟨false, Dg.vl 4294967296 [1], 0⟩ ⟨false, Dg.vl 4294967296 [3], 0⟩ (2 : Int).toNat = ⟨false, 5, -4⟩ := by rfl
  have e4 : shortT (cutT ⟨false, 5, -4⟩ 2 false) = (⟨false, 1, -2⟩, 0) := by rfl
  have e5 : shortT (cutT ⟨false, 5, -4⟩ 2 true) = (⟨false, 3, -3⟩, 0) := by rfl
  rw [if_pos e1, e2, if_neg (by decide)]
  have hall := four_all (fun a b => overT a b (2 : Int).toNat) ⟨false, Dg.vl 4294967296 [1], 0⟩ ⟨false, Dg.vl 4294967296 [1], 0⟩ ⟨false, Dg.vl 4294967296 [3], 0⟩ ⟨false, Dg.vl 4294967296 [3], 0⟩ (fun t => t = ⟨false, 5, -4⟩) e3 e3 e3 e3
  unfold leastR
  rw [loT_all _ (4 - 1) (fun t => t = ⟨false, 5, -4⟩) (fun j _ => hall j), hiT_all _ (4 - 1) (fun t => t = ⟨false, 5, -4⟩) (fun j _ => hall j), e4, e5]
  rfl

set_option maxRecDepth 100000 in
set_option maxHeartbeats 1600000 in
theorem bbegun_any (w : World) (hT : Tab w) : Calls Tryz.prog 10 #[] w fun z w' => z = .returned (.bool true) ∧ Below w.heap.size w w' := by
  have a0 := below_alloc w (.cells #[.int .u32 1] 76)
  have a1 := below_alloc (w.alloc (.cells #[.int .u32 1] 76)) (.cells #[.int .u32 1] 76)
  have a2 := below_alloc ((w.alloc (.cells #[.int .u32 1] 76)).alloc (.cells #[.int .u32 1] 76)) (.cells #[.bool false, .slice (some ⟨w.heap.size, 0, none⟩) 1 1, .int .i64 0, .bool false, .slice (some ⟨w.heap.size + 1, 0, none⟩) 1 1, .int .i64 0] 27)
  have a3 := below_alloc (((w.alloc (.cells #[.int .u32 1] 76)).alloc (.cells #[.int .u32 1] 76)).alloc (.cells #[.bool false, .slice (some ⟨w.heap.size, 0, none⟩) 1 1, .int .i64 0, .bool false, .slice (some ⟨w.heap.size + 1, 0, none⟩) 1 1, .int .i64 0] 27)) (.cells #[.int .u32 3] 76)
  have a4 := below_alloc ((((w.alloc (.cells #[.int .u32 1] 76)).alloc (.cells #[.int .u32 1] 76)).alloc (.cells #[.bool false, .slice (some ⟨w.heap.size, 0, none⟩) 1 1, .int .i64 0, .bool false, .slice (some ⟨w.heap.size + 1, 0, none⟩) 1 1, .int .i64 0] 27)).alloc (.cells #[.int .u32 3] 76)) (.cells #[.int .u32 3] 76)
  have a5 := below_alloc (((((w.alloc (.cells #[.int .u32 1] 76)).alloc (.cells #[.int .u32 1] 76)).alloc (.cells #[.bool false, .slice (some ⟨w.heap.size, 0, none⟩) 1 1, .int .i64 0, .bool false, .slice (some ⟨w.heap.size + 1, 0, none⟩) 1 1, .int .i64 0] 27)).alloc (.cells #[.int .u32 3] 76)).alloc (.cells #[.int .u32 3] 76)) (.cells #[.bool false, .slice (some ⟨w.heap.size + 1 + 1 + 1, 0, none⟩) 1 1, .int .i64 0, .bool false, .slice (some ⟨w.heap.size + 1 + 1 + 1 + 1, 0, none⟩) 1 1, .int .i64 0] 27)
  have r1 := (((((rd_new (w := w) (k := .u32) (e := 76) [1] #[.int .u32 1] rfl (by unfold maxLen; simp)).later a1).later a2).later a3).later a4).later a5
  have r2 := ((((rd_new (w := (w.alloc (.cells #[.int .u32 1] 76))) (k := .u32) (e := 76) [1] #[.int .u32 1] rfl (by unfold maxLen; simp)).later a2).later a3).later a4).later a5
  have r3 := ((rd_new (w := (((w.alloc (.cells #[.int .u32 1] 76)).alloc (.cells #[.int .u32 1] 76)).alloc (.cells #[.bool false, .slice (some ⟨w.heap.size, 0, none⟩) 1 1, .int .i64 0, .bool false, .slice (some ⟨w.heap.size + 1, 0, none⟩) 1 1, .int .i64 0] 27))) (k := .u32) (e := 76) [3] #[.int .u32 3] rfl (by unfold maxLen; simp)).later a4).later a5
  have r4 := (rd_new (w := ((((w.alloc (.cells #[.int .u32 1] 76)).alloc (.cells #[.int .u32 1] 76)).alloc (.cells #[.bool false, .slice (some ⟨w.heap.size, 0, none⟩) 1 1, .int .i64 0, .bool false, .slice (some ⟨w.heap.size + 1, 0, none⟩) 1 1, .int .i64 0] 27)).alloc (.cells #[.int .u32 3] 76))) (k := .u32) (e := 76) [3] #[.int .u32 3] rfl (by unfold maxLen; simp)).later a5
  have b6 := below_trans (below_trans (below_trans (below_trans (below_trans (a0) a1) a2) a3) a4) a5
  have s1 : Dg.Small 4294967296 [1] := Dg.small_cons.2 ⟨by omega, Dg.small_nil _ (by omega)⟩
  have s3 : Dg.Small 4294967296 [3] := Dg.small_cons.2 ⟨by omega, Dg.small_nil _ (by omega)⟩
  have hm := bdiv_ok false _ _ [1] 0 false _ _ [1] 0 false _ _ [3] 0 false _ _ [3] 0 2 _ r1 r2 r3 r4 s1 s1 s3 s3 (hT.later b6)
  rw [bbegun_value] at hm
  simp only [World.size_alloc, show [1].length = 1 from rfl, show [3].length = 1 from rfl] at hm
  have HM : Hid _ := hm
  clear r1 r2 r3 r4 s1 s3 a0 a1 a2 a3 a4 a5 hm
  go_enter Tryz.func10, Tryz.ntmps10
  go_wp2_with fail
  refine Calls.mono HM.out ?_
  rintro z w7 ⟨p, q, rfl, op, oq, b7⟩
  have b07 := below_trans b6 b7
  obtain ⟨po, pc, hp⟩ := op.rd.shape
  subst hp
  obtain ⟨qo, qc, hq⟩ := oq.rd.shape
  subst hq
  simp only [show Dg.dg 4294967296 1 = [1] from rfl, show Dg.dg 4294967296 3 = [3] from rfl, show [1].length = 1 from rfl, show [3].length = 1 from rfl] at op oq ⊢
  have a8 := below_alloc w7 (.cells #[.bool false, .slice po 1 pc, .int .i64 (-2), .bool false, .slice qo 1 qc, .int .i64 (-3)] 27)
  have k8 := loc6_new w7 (.bool false) (.slice po 1 pc) (.int .i64 (-2)) (.bool false) (.slice qo 1 qc) (.int .i64 (-3)) 27
  have a9 := below_alloc (w7.alloc (.cells #[.bool false, .slice po 1 pc, .int .i64 (-2), .bool false, .slice qo 1 qc, .int .i64 (-3)] 27)) (.cells #[.int .u32 1] 76)
  have r9 := rd_new (w := w7.alloc (.cells #[.bool false, .slice po 1 pc, .int .i64 (-2), .bool false, .slice qo 1 qc, .int .i64 (-3)] 27)) (k := .u32) (e := 76) [1] #[.int .u32 1] rfl (by unfold maxLen; simp)
  have p9 := (op.rd.later a8).later a9
  have q9 := (oq.rd.later a8).later a9
  have k9 := k8.later a9
  have b9 := below_trans (below_trans b07 a8) a9
  have hs9 := sameDy_any false po pc [1] (-2) false _ _ [1] (-2) _ p9 r9
  rw [show decide (false = false ∧ (-2 : Int) = -2 ∧ [1] = [1]) = true from by decide] at hs9
  simp only [World.size_alloc, show [1].length = 1 from rfl] at hs9
  have HS9 : Hid _ := hs9
  clear op oq a8 a9 r9 p9 k8 b07 b7 b6 hs9 HM
  go_wp2_with fail
  refine Calls.mono HS9.out ?_
  rintro z w10 ⟨rfl, b10⟩
  replace b10 : Below ((w7.alloc (.cells #[.bool false, .slice po 1 pc, .int .i64 (-2), .bool false, .slice qo 1 qc, .int .i64 (-3)] 27)).alloc (.cells #[.int .u32 1] 76)).heap.size ((w7.alloc (.cells #[.bool false, .slice po 1 pc, .int .i64 (-2), .bool false, .slice qo 1 qc, .int .i64 (-3)] 27)).alloc (.cells #[.int .u32 1] 76)) w10 := by simp only [World.size_alloc]; exact b10
  have k10 := k9.later b10
  have q10 := q9.later b10
  have b010 := below_trans b9 b10
  have a11 := below_alloc w10 (.cells #[.int .u32 3] 76)
  have r11 := rd_new (w := w10) (k := .u32) (e := 76) [3] #[.int .u32 3] rfl (by unfold maxLen; simp)
  have hs11 := sameDy_any false qo qc [3] (-3) false _ _ [3] (-3) _ (q10.later a11) r11
  rw [show decide (false = false ∧ (-3 : Int) = -3 ∧ [3] = [3]) = true from by decide] at hs11
  simp only [show [3].length = 1 from rfl] at hs11
  have HS11 : Hid _ := hs11
  have b011 := below_trans b010 a11
  obtain ⟨-, ⟨c0, c1, c2, c3, c4, c5⟩, -⟩ := id k10
  clear hs11 HS9 q9 q10 k9 b9 b10 b010 r11 a11 k10
  go_wp2_with fail
  refine Calls.mono HS11.out ?_
  rintro z w12 ⟨rfl, b12⟩
  have b012 := below_trans b011 b12
  go_wp2
  go_ret
  exact ⟨rfl, b012⟩
end Go.Proofs.YtmjhlflemfkflaaGreatDoor

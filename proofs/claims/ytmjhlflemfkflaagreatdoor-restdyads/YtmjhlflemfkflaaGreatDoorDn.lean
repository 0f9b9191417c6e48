/-
  Texts laid together: Dk2, Dn1, Dn2.
-/
import Derived.Test.YtmjhlflemfkflaaGreatDoorDk1
import Derived.Test.YtmjhlflemfkflaaGreatDoorDe
/-
  Contract of dyad.Cut.
-/
namespace Go.Proofs.YtmjhlflemfkflaaGreatDoor
open Go.RowKit

/-- What is wrong with a dyad, or with how many bits are asked for. -/
def cutchk (xs : List Nat) (e b : Int) : Int := if dchk xs e = 0 then (if b < 1 ∨ 4096 < b then 3 else 0) else dchk xs e

set_option maxRecDepth 100000 in
set_option maxHeartbeats 1600000 in
theorem dcut_any (s : Bool) (ao : Option Addr) (ca : Nat) (xs : List Nat) (e b : Int) (up : Bool) (w : World) (hr : Rd w .u32 (.slice ao xs.length ca) xs) (sa : Dg.Small 4294967296 xs) (hT : Tab w) :
    Calls Tryz.prog 16 #[.agg #[.bool s, .slice ao xs.length ca, .int .i64 e], .int .i64 b, .bool up] w (DAns w (dbothR (cutchk xs e b) (cutT ⟨s, Dg.vl 4294967296 xs, e⟩ b up))) := by
  have bA := below_trans (below_alloc w (.cells #[.bool s, .slice ao xs.length ca, .int .i64 e] 25)) (below_alloc _ (.cells #[.bool false, .slice none 0 0, .int .i64 0] 25))
  have l1 := (loc_new w (.bool s) (.slice ao xs.length ca) (.int .i64 e) 25).later (below_alloc _ (.cells #[.bool false, .slice none 0 0, .int .i64 0] 25))
  have l2 := loc_new (w.alloc (.cells #[.bool s, .slice ao xs.length ca, .int .i64 e] 25)) (.bool false) (.slice none 0 0) (.int .i64 0) 25
  rw [World.size_alloc] at l2
  obtain ⟨W, hW⟩ : ∃ W, ((w.alloc (.cells #[.bool s, .slice ao xs.length ca, .int .i64 e] 25)).alloc (.cells #[.bool false, .slice none 0 0, .int .i64 0] 25)) = W := ⟨_, rfl⟩
  have sW : W.heap.size = w.heap.size + 1 + 1 := by rw [← hW]; simp [World.size_alloc]
  rw [hW] at bA l1 l2
  have bX := below_alloc W (.cells #[.bool s, .slice ao xs.length ca, .int .i64 e] 25)
  have b01 := below_trans bA bX
  have l1 := l1.later bX
  have l2 := l2.later bX
  have hw := dwrong1_any W.heap.size s ao ca xs e (W.alloc (.cells #[.bool s, .slice ao xs.length ca, .int .i64 e] 25))
    (by rw [World.cell?_alloc_at _ _ _ _ rfl]; rfl) (by rw [World.cell?_alloc_at _ _ _ _ rfl]; rfl) (by rw [World.cell?_alloc_at _ _ _ _ rfl]; rfl) (hr.later b01)
  rw [sW] at hw
  rw [← hW] at hw l1 l2 b01
  have HS : Hid (dchk xs e = 0 → 1 ≤ b → b ≤ 4096 → (∀ w1, Below w.heap.size w w1 → Calls Tryz.prog 44 #[.agg #[.bool s, .slice ao xs.length ca, .int .i64 e], .int .i64 b, .bool up] w1 (DVRes w1 (cutT ⟨s, Dg.vl 4294967296 xs, e⟩ b up))) ∧
      (∀ v w1, Below w.heap.size w w1 → Dv w1 v (cutT ⟨s, Dg.vl 4294967296 xs, e⟩ b up) → Calls Tryz.prog 45 #[v] w1 (DAns w1 (shortT (cutT ⟨s, Dg.vl 4294967296 xs, e⟩ b up))))) := fun h n1 n2 => by
    obtain ⟨c1, e1, e2⟩ := dchk_zero h
    have z1 := chk_zero c1
    have x1 : (Dg.dg 4294967296 (Dg.vl 4294967296 xs)).length ≤ 1200 := by rw [← Dg.eq_dg 4294967296 (by omega) xs _ sa z1.1 rfl]; exact z1.2
    have y1 := cutT_len (A := ⟨s, Dg.vl 4294967296 xs, e⟩) (b := b) (up := up) x1 (by omega)
    obtain ⟨y2, y3⟩ := cutT_e (A := ⟨s, Dg.vl 4294967296 xs, e⟩) (b := b) (up := up) x1 n1
    simp only at y2 y3
    refine ⟨fun w1 b1 => dcutL_any _ _ b up w1 (dv_of (hr.later b1) sa z1.1) (by simp only; omega) (by simp only; omega) (by simp only; omega) n1 n2 (hT.later b1), fun v w1 b1 hv => ?_⟩
    exact dshort_any _ _ w1 hv (by omega) ⟨by omega, by omega⟩ (hT.later b1) (by have := tz_fits _ 1201 y1; omega)
  unfold dbothR cutchk
  obtain ⟨c, hc⟩ : ∃ c, dchk xs e = c := ⟨_, rfl⟩
  rw [hc] at hw HS ⊢
  clear hc bA bX sW hW hr sa hT
  by_cases h : c = 0
  · subst h
    rw [if_pos rfl]
    by_cases h1 : b < 1
    · rw [if_pos (Or.inl h1), if_neg (by omega)]
      clear HS
      go_enter Tryz.func16, Tryz.ntmps16
      go_wp2_with fail
      refine hw.mono ?_
      rintro z w1 ⟨rfl, b1⟩
      have l2 := l2.later b1
      have b01 := below_trans b01 b1
      obtain ⟨hl6, ⟨d0, d1, d2⟩, f0, f1, f2⟩ := id l2
      clear hw b1
      go_wp2
      obtain ⟨-, ⟨g0, g1, g2⟩, -⟩ := loc_set l2 (.bool false) (.slice none 0 0) (.int .i64 0)
      have b8 := below_set3 b01 (show w.heap.size ≤ w.heap.size + 1 by omega) (.bool false) (.slice none 0 0) (.int .i64 0)
      refine bodyPost_ret (v := .tuple #[.agg #[.bool false, .slice none 0 0, .int .i64 0], .int .i64 3]) (by simp [results, Tryz.results16, go_sem, g0, g1, g2]) rfl ?_
      exact ⟨_, rfl, own_nil _ _ _ _, b8⟩
    · by_cases h2 : 4096 < b
      · rw [if_pos (Or.inr h2), if_neg (by omega)]
        clear HS
        go_enter Tryz.func16, Tryz.ntmps16
        go_wp2_with fail
        refine hw.mono ?_
        rintro z w1 ⟨rfl, b1⟩
        have l2 := l2.later b1
        have b01 := below_trans b01 b1
        obtain ⟨hl6, ⟨d0, d1, d2⟩, f0, f1, f2⟩ := id l2
        clear hw b1
        go_wp2
        obtain ⟨-, ⟨g0, g1, g2⟩, -⟩ := loc_set l2 (.bool false) (.slice none 0 0) (.int .i64 0)
        have b8 := below_set3 b01 (show w.heap.size ≤ w.heap.size + 1 by omega) (.bool false) (.slice none 0 0) (.int .i64 0)
        refine bodyPost_ret (v := .tuple #[.agg #[.bool false, .slice none 0 0, .int .i64 0], .int .i64 3]) (by simp [results, Tryz.results16, go_sem, g0, g1, g2]) rfl ?_
        exact ⟨_, rfl, own_nil _ _ _ _, b8⟩
      · rw [if_neg (show ¬(b < 1 ∨ 4096 < b) by omega), if_pos rfl]
        obtain ⟨hcu, hsh⟩ := HS.out rfl (by omega) (by omega)
        have HCU : Hid _ := hcu
        obtain ⟨⟨cs, cn, ce⟩, hct⟩ : ∃ r, cutT ⟨s, Dg.vl 4294967296 xs, e⟩ b up = r := ⟨_, rfl⟩
        rw [hct] at HCU hsh ⊢
        obtain ⟨⟨⟨rs, rn, re⟩, rc⟩, hrr⟩ : ∃ r, shortT ⟨cs, cn, ce⟩ = r := ⟨_, rfl⟩
        rw [hrr] at hsh ⊢
        have HSH : Hid _ := hsh
        clear HS hrr hct hcu hsh
        go_enter Tryz.func16, Tryz.ntmps16
        go_wp2_with fail
        refine hw.mono ?_
        rintro z w1 ⟨rfl, b1⟩
        have l1 := l1.later b1
        have l2 := l2.later b1
        have b01 := below_trans b01 b1
        obtain ⟨-, ⟨ca0, ca1, ca2⟩, -⟩ := id l1
        clear hw b1
        go_wp2_with fail
        refine (of_dy s ao xs.length ca e _).mono ?_
        rintro z w3 ⟨rfl, b3⟩
        have l2 := l2.later b3
        have b03 := below_trans b01 b3
        clear ca0 ca1 ca2 l1 b3
        go_wp2_with fail
        refine (HCU.out w3 b03).mono ?_
        rintro z w4 ⟨v4, rfl, r4, b4⟩
        have l2 := l2.later b4
        have b04 := below_trans b03 b4
        clear b4 b03
        go_wp2_with fail
        refine (HSH.out _ w4 b04 ⟨_, rfl, r4⟩).mono ?_
        rintro z w6 ⟨vr, rfl, o6, b6⟩
        have hlt := l2.1
        have lc6 := l2.later b6
        have b06 := below_trans b04 b6
        obtain ⟨so, sc, hvr⟩ := o6.rd.shape
        subst hvr
        obtain ⟨hl6, ⟨d0, d1, d2⟩, f0, f1, f2⟩ := id lc6
        clear r4 b6
        go_wp2
        obtain ⟨-, ⟨g0, g1, g2⟩, -⟩ := loc_set lc6 (.bool rs) (.slice so (Dg.dg 4294967296 rn).length sc) (.int .i64 re)
        have o7 := o6.apart3 (b := w.heap.size + 1) hlt (.bool rs) (.slice so (Dg.dg 4294967296 rn).length sc) (.int .i64 re)
        have b8 := below_set3 b06 (show w.heap.size ≤ w.heap.size + 1 by omega) (.bool rs) (.slice so (Dg.dg 4294967296 rn).length sc) (.int .i64 re)
        refine bodyPost_ret (v := .tuple #[.agg #[.bool rs, .slice so (Dg.dg 4294967296 rn).length sc, .int .i64 re], .int .i64 rc]) (by simp [results, Tryz.results16, go_sem, g0, g1, g2]) rfl ?_
        exact ⟨_, rfl, o7.lower b04.size, b8⟩
  · rw [if_neg h, if_neg h]
    clear HS
    go_enter Tryz.func16, Tryz.ntmps16
    go_wp2_with fail
    refine hw.mono ?_
    rintro z w1 ⟨rfl, b1⟩
    have l2 := l2.later b1
    have b01 := below_trans b01 b1
    obtain ⟨hl6, ⟨d0, d1, d2⟩, f0, f1, f2⟩ := id l2
    clear hw b1
    go_wp2
    obtain ⟨-, ⟨g0, g1, g2⟩, -⟩ := loc_set l2 (.bool false) (.slice none 0 0) (.int .i64 0)
    have b8 := below_set3 b01 (show w.heap.size ≤ w.heap.size + 1 by omega) (.bool false) (.slice none 0 0) (.int .i64 0)
    refine bodyPost_ret (v := .tuple #[.agg #[.bool false, .slice none 0 0, .int .i64 0], .int .i64 c]) (by simp [results, Tryz.results16, go_sem, g0, g1, g2]) rfl ?_
    exact ⟨_, rfl, own_nil _ _ _ _, b8⟩
end Go.Proofs.YtmjhlflemfkflaaGreatDoor
/-
  What is cut lies beside what was cut (DyadBetween).
-/
namespace Go.Proofs.YtmjhlflemfkflaaGreatDoor

/-- What cutT does, in one of two ways. -/
theorem cut_ways (A : Trip) (b : Int) (up : Bool) (hb : 1 ≤ b) :
    (bitLen (bare A).n ≤ b ∧ cutT A b up = A) ∨
    (∃ j q : Nat, ¬(bitLen (bare A).n : Int) ≤ b ∧ A.n ≠ 0 ∧ (bitLen A.n : Int) - b = (j : Int) ∧ A.n / 2 ^ j = q ∧ q * 2 ^ j ≤ A.n ∧ A.n < (q + 1) * 2 ^ j ∧ q < 2 ^ b.toNat ∧ 0 < q ∧ tz A.n ≤ j ∧ cutT A b up = ⟨A.s, q + (if (up != A.s) = true then 1 else 0), A.e + (j : Int)⟩) := by
  by_cases h0 : A.n = 0
  · refine Or.inl ⟨?_, if_pos ?_⟩
    · unfold bare
      rw [if_pos h0]
      show ((bitLen 0 : Nat) : Int) ≤ b
      rw [bitLen_zero]; omega
    · rw [h0, bitLen_zero, if_pos rfl]; omega
  · obtain ⟨m, hm⟩ := tz_spec h0
    have hd := div_tz hm
    have hbl := bitLen_shl (2 * m + 1) (tz A.n) (by omega)
    rw [← hm] at hbl
    have hbn : (bare A).n = 2 * m + 1 := by
      unfold bare
      rw [if_neg h0]
      exact hd
    rw [hbn]
    by_cases hc : (bitLen (2 * m + 1) : Int) ≤ b
    · refine Or.inl ⟨hc, if_pos ?_⟩
      rw [if_neg h0, hbl]
      omega
    · refine Or.inr ?_
      obtain ⟨j, hj⟩ : ∃ j : Nat, (bitLen A.n : Int) - b = (j : Int) := ⟨((bitLen A.n : Int) - b).toNat, by omega⟩
      obtain ⟨sp1, sp2⟩ := bitLen_spec A.n
      have hP : 0 < 2 ^ j := Nat.pow_pos (by omega)
      refine ⟨j, A.n / 2 ^ j, hc, h0, hj, rfl, Nat.div_mul_le_self _ _, ?_, ?_, ?_, by omega, ?_⟩
      · have := Nat.lt_div_mul_add (a := A.n) hP
        rw [Nat.add_mul, Nat.one_mul]
        exact this
      · rw [Nat.div_lt_iff_lt_mul hP, ← Nat.pow_add]
        have e : b.toNat + j = bitLen A.n := by omega
        rw [e]
        exact sp1
      · apply Nat.div_pos _ hP
        refine Nat.le_trans (Nat.pow_le_pow_right (by omega) ?_) (sp2 h0)
        omega
      · unfold cutT
        rw [if_neg h0, if_neg (by rw [hbl] at hj ⊢; omega), hj, Int.toNat_natCast]

theorem bare_n_le2 (t : Trip) : (bare t).n ≤ t.n := by
  unfold bare
  split
  · exact Nat.zero_le _
  · exact Nat.div_le_self _ _

theorem bitLen_mono {x y : Nat} (h : x ≤ y) : bitLen x ≤ bitLen y := bitLen_le_of x _ (Nat.lt_of_le_of_lt h (bitLen_spec y).1)

theorem tz_pow (k : Nat) : tz (2 ^ k) = k := tz_eq (m := 0) (by simp)

/-- What is cut has so few bits. -/
theorem cut_bits (A : Trip) (b : Int) (up : Bool) (hb : 1 ≤ b) : (bitLen (bare (cutT A b up)).n : Int) ≤ b := by
  rcases cut_ways A b up hb with ⟨h1, h2⟩ | ⟨j, q, _, _, _, _, _, _, hq, hq0, _, h2⟩
  · rw [h2]; exact h1
  · rw [h2]
    have key : ∀ x : Nat, x ≤ 2 ^ b.toNat → ∀ s e, (bitLen (bare ⟨s, x, e⟩).n : Int) ≤ b := fun x hx s e => by
      rcases Nat.lt_or_ge x (2 ^ b.toNat) with h | h
      · have h3 := bitLen_mono (bare_n_le2 ⟨s, x, e⟩)
        have h4 := bitLen_le_of x _ h
        simp only at h3
        omega
      · have he : x = 2 ^ b.toNat := by omega
        have h3 : (bare ⟨s, x, e⟩).n = 1 := by
          unfold bare
          simp only
          rw [if_neg (by rw [he]; exact Nat.pos_iff_ne_zero.1 (Nat.pow_pos (by omega)))]
          simp only
          rw [he, tz_pow, Nat.div_self (Nat.pow_pos (by omega))]
        rw [h3]
        have : bitLen 1 ≤ 1 := bitLen_le_of 1 1 (by omega)
        omega
    refine key _ ?_ _ _
    split <;> omega

theorem cutT_same {A : Trip} {b : Int} {up : Bool} (h : (bitLen A.n : Int) ≤ b) : cutT A b up = A := if_pos (by omega)

/-- Cut again, what is cut stays. -/
theorem cut_again (A : Trip) (b : Int) (u1 u2 : Bool) (hb : 1 ≤ b) : cutT (bare (cutT A b u1)) b u2 = bare (cutT A b u1) := cutT_same (cut_bits A b u1 hb)

theorem V_low {K : Nat} (A : Trip) (b : Int) (hb : 1 ≤ b) (hK : -(K : Int) ≤ A.e) : V K (cutT A b false) ≤ V K A ∧ V K A ≤ V K (cutT A b true) ∧ -(K : Int) ≤ (cutT A b false).e ∧ -(K : Int) ≤ (cutT A b true).e := by
  have one : ∀ up, -(K : Int) ≤ (cutT A b up).e := fun up => by
    rcases cut_ways A b up hb with ⟨_, h2⟩ | ⟨j, q, _, _, _, _, _, _, _, _, _, h2⟩
    · rw [h2]; exact hK
    · rw [h2]; show _ ≤ A.e + (j : Int); omega
  have two : ∀ up, (up = false → V K (cutT A b up) ≤ V K A) ∧ (up = true → V K A ≤ V K (cutT A b up)) := fun up => by
    rcases cut_ways A b up hb with ⟨_, h2⟩ | ⟨j, q, _, _, _, _, g1, g2, _, _, _, h2⟩
    · rw [h2]; exact ⟨fun _ => Int.le_refl _, fun _ => Int.le_refl _⟩
    · have e1 : (A.e + (j : Int) + (K : Int)).toNat = j + (A.e + (K : Int)).toNat := by omega
      rw [h2, V_nat, V_nat]
      simp only
      rw [e1, Nat.pow_add, ← Nat.mul_assoc]
      generalize 2 ^ (A.e + (K : Int)).toNat = P
      generalize 2 ^ j = J at g1 g2
      have l1 : q * J * P ≤ A.n * P := Nat.mul_le_mul_right _ g1
      have l2 : A.n * P ≤ (q + 1) * J * P := Nat.mul_le_mul_right _ (Nat.le_of_lt g2)
      cases hs : A.s
      · refine ⟨fun h => ?_, fun h => ?_⟩
        · subst h
          simp only [sz, bne_self_eq_false, Bool.false_eq_true, if_false, Nat.add_zero]
          omega
        · subst h
          simp only [sz, Bool.true_bne, Bool.not_false, Bool.false_eq_true, if_false, if_true]
          omega
      · refine ⟨fun h => ?_, fun h => ?_⟩
        · subst h
          simp only [sz, Bool.false_bne, if_true]
          omega
        · subst h
          simp only [sz, bne_self_eq_false, Bool.false_eq_true, if_false, Nat.add_zero, if_true]
          omega
  exact ⟨(two false).1 rfl, (two true).2 rfl, one false, one true⟩

theorem cut_few (A : Trip) (b : Int) (hb : 1 ≤ b) (h : (bitLen (bare A).n : Int) ≤ b) (up : Bool) : cutT A b up = A := by
  rcases cut_ways A b up hb with ⟨_, h2⟩ | ⟨j, q, hn, _⟩
  · exact h2
  · exact absurd h hn

theorem cut_apart (A : Trip) (b : Int) (hb : 1 ≤ b) (h : ¬(bitLen (bare A).n : Int) ≤ b) : bare (cutT A b false) ≠ bare (cutT A b true) := fun hE => by
  have hK : -((A.e.natAbs : Nat) : Int) ≤ A.e := by omega
  obtain ⟨_, _, o1, o2⟩ := V_low (K := A.e.natAbs) A b hb hK
  have hV : V A.e.natAbs (cutT A b false) = V A.e.natAbs (cutT A b true) := by rw [← V_bare o1, ← V_bare o2, hE]
  rcases cut_ways A b false hb with ⟨g1, _⟩ | ⟨j, q, _, _, hj, hq, _, _, _, _, _, h2⟩
  · exact h g1
  · rcases cut_ways A b true hb with ⟨g1, _⟩ | ⟨j', q', _, _, hj', hq', _, _, _, _, _, h2'⟩
    · exact h g1
    · have ej : j' = j := by omega
      subst ej
      rw [hq] at hq'
      subst hq'
      rw [h2, h2', V_nat, V_nat] at hV
      simp only at hV
      have hP : 0 < 2 ^ (A.e + (j' : Int) + (A.e.natAbs : Int)).toNat := Nat.pow_pos (by omega)
      generalize 2 ^ (A.e + (j' : Int) + (A.e.natAbs : Int)).toNat = P at hV hP
      have e1 : (q + 1) * P = q * P + P := by rw [Nat.add_mul, Nat.one_mul]
      cases hs : A.s
      · rw [hs] at hV
        simp only [sz, bne_self_eq_false, Bool.true_bne, Bool.not_false, Bool.false_eq_true, if_false, if_true, Nat.add_zero] at hV
        omega
      · rw [hs] at hV
        simp only [sz, bne_self_eq_false, Bool.false_bne, Bool.false_eq_true, if_false, if_true, Nat.add_zero] at hV
        omega
end Go.Proofs.YtmjhlflemfkflaaGreatDoor
/-
  What is cut, as answers (DyadBetween).
-/
namespace Go.Proofs.YtmjhlflemfkflaaGreatDoor
open Go.RowKit

def cutR (s : Bool) (xs : List Nat) (e b : Int) (up : Bool) : Trip × Int := dbothR (cutchk xs e b) (cutT ⟨s, Dg.vl 4294967296 xs, e⟩ b up)
def bareR (s : Bool) (xs : List Nat) (e : Int) : Trip × Int := dbothR (dchk xs e) ⟨s, Dg.vl 4294967296 xs, e⟩

theorem cutR_ok {s : Bool} {xs : List Nat} {e b : Int} {up : Bool} {r : Trip} (h : cutR s xs e b up = (r, 0)) :
    dchk xs e = 0 ∧ 1 ≤ b ∧ b ≤ 4096 ∧ r = bare (cutT ⟨s, Dg.vl 4294967296 xs, e⟩ b up) ∧ dchk (Dg.dg 4294967296 r.n) r.e = 0 ∧ (Dg.dg 4294967296 r.n).length ≤ 1200 ∧ -20000 ≤ r.e ∧ r.e ≤ 20000 := by
  obtain ⟨h1, h2⟩ := both_ok h
  obtain ⟨h5, h6, h7, h8⟩ := short_ok h2
  unfold cutchk at h1
  by_cases h3 : dchk xs e = 0
  · rw [if_pos h3] at h1
    by_cases h4 : b < 1 ∨ 4096 < b
    · rw [if_pos h4] at h1; omega
    · exact ⟨h3, by omega, by omega, h5, dchk_of h6 h7 h8, h6, h7, h8⟩
  · rw [if_neg h3] at h1; exact absurd h1 h3

theorem short_of {t : Trip} (h1 : (Dg.dg 4294967296 (bare t).n).length ≤ 1200) (h2 : -20000 ≤ (bare t).e) (h3 : (bare t).e ≤ 20000) : shortT t = (bare t, 0) := by
  unfold shortT
  rw [if_neg (by omega), if_neg (by omega)]

theorem bare_e_ge {t : Trip} (h : t.n ≠ 0) : t.e ≤ (bare t).e ∧ (bare t).e = t.e + tz t.n := by
  unfold bare
  rw [if_neg h]
  exact ⟨by show t.e ≤ t.e + (tz t.n : Int); omega, rfl⟩

/-- Where it can be cut it can be made bare. -/
theorem bare_ok {s : Bool} {xs : List Nat} {e b : Int} {r : Trip} (sa : Dg.Small 4294967296 xs) (h : cutR s xs e b false = (r, 0)) : bareR s xs e = (bare ⟨s, Dg.vl 4294967296 xs, e⟩, 0) ∧ dchk (Dg.dg 4294967296 (bare ⟨s, Dg.vl 4294967296 xs, e⟩).n) (bare ⟨s, Dg.vl 4294967296 xs, e⟩).e = 0 := by
  obtain ⟨h1, h2, h3, h4, h5, h6, h7, h8⟩ := cutR_ok h
  obtain ⟨c1, e1, e2⟩ := dchk_zero h1
  obtain ⟨z1, z2⟩ := chk_zero c1
  have fits : (Dg.dg 4294967296 (bare ⟨s, Dg.vl 4294967296 xs, e⟩).n).length ≤ 1200 ∧ -20000 ≤ (bare ⟨s, Dg.vl 4294967296 xs, e⟩).e ∧ (bare ⟨s, Dg.vl 4294967296 xs, e⟩).e ≤ 20000 := by
    rcases cut_ways ⟨s, Dg.vl 4294967296 xs, e⟩ b false h2 with ⟨_, g2⟩ | ⟨j, q, _, g0, _, gd, _, _, _, gq, gt, g2⟩
    · rw [g2] at h4
      rw [← h4]
      exact ⟨h6, h7, h8⟩
    · obtain ⟨p1, p2⟩ := bare_e_ge (t := ⟨s, Dg.vl 4294967296 xs, e⟩) g0
      rw [g2] at h4
      have hn : (⟨s, q + (if (false != s) = true then 1 else 0), e + (j : Int)⟩ : Trip).n ≠ 0 := by
        show q + _ ≠ 0
        omega
      obtain ⟨p3, _⟩ := bare_e_ge hn
      rw [← h4] at p3
      simp only at p1 p2 p3 gd gt
      have ql := bare_n_le2 ⟨s, Dg.vl 4294967296 xs, e⟩
      simp only at ql
      refine ⟨Nat.le_trans (dg_len_mono 4294967296 _ (Dg.vl 4294967296 xs) (by omega) ql) ?_, by omega, by omega⟩
      rw [← Dg.eq_dg 4294967296 (by omega) xs _ sa z1 rfl]
      exact z2
  obtain ⟨f1, f2, f3⟩ := fits
  refine ⟨?_, dchk_of f1 f2 f3⟩
  unfold bareR dbothR
  rw [if_pos h1]
  exact short_of f1 f2 f3

theorem again_ok {s : Bool} {xs : List Nat} {e b : Int} {r : Trip} (h : cutR s xs e b false = (r, 0)) : cutR r.s (Dg.dg 4294967296 r.n) r.e b true = (r, 0) := by
  obtain ⟨h1, h2, h3, h4, h5, h6, h7, h8⟩ := cutR_ok h
  unfold cutR cutchk
  rw [if_pos h5, if_neg (by omega), trip_vl]
  unfold dbothR
  rw [if_pos rfl]
  have hb : bare r = r := by rw [h4, bare_bare]
  have hc : cutT r b true = r := by rw [h4]; exact cut_again _ b false true h2
  rw [hc]
  have := short_of (t := r) (by rw [hb]; exact h6) (by rw [hb]; exact h7) (by rw [hb]; exact h8)
  rwa [hb] at this

theorem sgn_le {z : Int} (h : z ≤ 0) : sgn z ≤ 0 := by
  unfold sgn
  split
  · omega
  · split <;> omega

theorem low_le {A : Trip} {b : Int} (hb : 1 ≤ b) : signT (plusT (bare (cutT A b false)) (negT A)) ≤ 0 := by
  rw [sign_plus]
  have hK : -(((bare (cutT A b false)).e.natAbs + A.e.natAbs : Nat) : Int) ≤ A.e := by omega
  obtain ⟨o1, _, o2, _⟩ := V_low (K := (bare (cutT A b false)).e.natAbs + A.e.natAbs) A b hb hK
  apply sgn_le
  rw [V_bare o2]
  omega

theorem high_ge {A : Trip} {b : Int} (hb : 1 ≤ b) : signT (plusT A (negT (bare (cutT A b true)))) ≤ 0 := by
  rw [sign_plus]
  have hK : -((A.e.natAbs + (bare (cutT A b true)).e.natAbs : Nat) : Int) ≤ A.e := by omega
  obtain ⟨_, o1, _, o2⟩ := V_low (K := A.e.natAbs + (bare (cutT A b true)).e.natAbs) A b hb hK
  apply sgn_le
  rw [V_bare o2]
  omega

theorem same_iff {A : Trip} {b : Int} (hb : 1 ≤ b) : (bare (cutT A b false) = bare (cutT A b true)) ↔ (bitLen (bare A).n : Int) ≤ b := by
  constructor
  · intro h
    by_cases hc : (bitLen (bare A).n : Int) ≤ b
    · exact hc
    · exact absurd h (cut_apart A b hb hc)
  · intro h
    rw [cut_few A b hb h, cut_few A b hb h]
end Go.Proofs.YtmjhlflemfkflaaGreatDoor

/-
  Texts laid together: Bl18, Bl19, Bl20.
-/
import Derived.Test.YtmjhlflemfkflaaGreatDoorBd
import Derived.Test.YtmjhlflemfkflaaGreatDoorBl9
import Derived.Test.YtmjhlflemfkflaaGreatDoorBb
import Derived.Test.YtmjhlflemfkflaaGreatDoorBa
import Derived.Test.YtmjhlflemfkflaaGreatDoorDb
import Derived.Deep.Cut
/-
  Balls: contracts of ball.Add, ball.Sub, ball.Mul.
-/
namespace Go.Proofs.YtmjhlflemfkflaaGreatDoor
open Go.RowKit

theorem bits_of {s : Bool} {xs : List Nat} {e : Int} (hd : Dg.dg 4294967296 (Dg.vl 4294967296 xs) = xs) (hl : xs.length ≤ 1200) : bitLen (⟨s, Dg.vl 4294967296 xs, e⟩ : Trip).n ≤ 38400 := by
  have := bitLen_of_len2 (a := Dg.vl 4294967296 xs) (L := 1200) (by rw [hd]; exact hl)
  show bitLen (Dg.vl 4294967296 xs) ≤ 38400
  omega

theorem sum_bits {x y p q i j m : Nat} (hx : x < 2 ^ p) (hy : y < 2 ^ q) (h1 : p + i ≤ m) (h2 : q + j ≤ m) : x * 2 ^ i + y * 2 ^ j < 2 ^ (m + 1) := by
  have a1 : x * 2 ^ i < 2 ^ p * 2 ^ i := Nat.mul_lt_mul_of_pos_right hx (Nat.pow_pos (by omega))
  have a2 : y * 2 ^ j < 2 ^ q * 2 ^ j := Nat.mul_lt_mul_of_pos_right hy (Nat.pow_pos (by omega))
  rw [← Nat.pow_add] at a1 a2
  have b1 : 2 ^ (p + i) ≤ 2 ^ m := Nat.pow_le_pow_right (by omega) h1
  have b2 : 2 ^ (q + j) ≤ 2 ^ m := Nat.pow_le_pow_right (by omega) h2
  rw [Nat.pow_succ]
  omega

theorem plus_fits {a b : Trip} (ha : bitLen a.n ≤ 38400) (hb : bitLen b.n ≤ 38400) (a1 : -20000 ≤ a.e) (a2 : a.e ≤ 20000) (b1 : -20000 ≤ b.e) (b2 : b.e ≤ 20000) :
    (Dg.dg 4294967296 (plusT a b).n).length ≤ 9000 ∧ -100000 ≤ (plusT a b).e ∧ (plusT a b).e ≤ 100000 := by
  have hm : (a.e - min a.e b.e).toNat ≤ 40000 ∧ (b.e - min a.e b.e).toNat ≤ 40000 := ⟨by omega, by omega⟩
  obtain ⟨h1, h2⟩ := hm
  obtain ⟨M, hM⟩ : ∃ M, M = 78400 := ⟨_, rfl⟩
  have hs : a.n * 2 ^ (a.e - min a.e b.e).toNat + b.n * 2 ^ (b.e - min a.e b.e).toNat < 2 ^ (M + 1) := sum_bits (bitLen_spec a.n).1 (bitLen_spec b.n).1 (by omega) (by omega)
  have he : (plusT a b).e = min a.e b.e := by unfold plusT; simp only; split; · rfl
                                              · split <;> rfl
  have hn : (plusT a b).n ≤ a.n * 2 ^ (a.e - min a.e b.e).toNat + b.n * 2 ^ (b.e - min a.e b.e).toNat := by
    unfold plusT
    simp only
    split
    · exact Nat.le_refl _
    · split
      · exact Nat.le_trans (Nat.sub_le _ _) (Nat.le_add_left _ _)
      · exact Nat.le_trans (Nat.sub_le _ _) (Nat.le_add_right _ _)
  refine ⟨pow_len32 (Nat.lt_of_le_of_lt hn hs) (by omega), by rw [he]; omega, by rw [he]; omega⟩

theorem times_fits {a b : Trip} (ha : bitLen a.n ≤ 38400) (hb : bitLen b.n ≤ 38400) (a1 : -20000 ≤ a.e) (a2 : a.e ≤ 20000) (b1 : -20000 ≤ b.e) (b2 : b.e ≤ 20000) :
    (Dg.dg 4294967296 (timesT a b).n).length ≤ 9000 ∧ -100000 ≤ (timesT a b).e ∧ (timesT a b).e ≤ 100000 := by
  have h1 : a.n * b.n < 2 ^ bitLen a.n * 2 ^ bitLen b.n := Nat.mul_lt_mul'' (bitLen_spec a.n).1 (bitLen_spec b.n).1
  rw [← Nat.pow_add] at h1
  exact ⟨pow_len32 h1 (by omega), by show -100000 ≤ a.e + b.e; omega, by show a.e + b.e ≤ 100000; omega⟩

end Go.Proofs.YtmjhlflemfkflaaGreatDoor
/-
  Balls: twoBalls.
-/
namespace Go.Proofs.YtmjhlflemfkflaaGreatDoor
open Go.RowKit

set_option maxRecDepth 100000 in
set_option maxHeartbeats 800000 in
theorem twoBallsW_any (s : Bool) (ao : Option Addr) (ca la : Nat) (e : Int) (t : Bool) (bo : Option Addr) (cb lb : Nat) (f : Int) (r : Bool) (co : Option Addr) (cc lc : Nat) (g : Int) (u : Bool) (d' : Option Addr) (cd ld : Nat) (k : Int) (n c d : Int) (w : World)
    (H1 : ∀ w1, Below w.heap.size w w1 → Calls Tryz.prog 29 #[.agg #[.bool s, .slice ao la ca, .int .i64 e, .bool t, .slice bo lb cb, .int .i64 f]] w1 fun z w' => z = .returned (.int .i64 c) ∧ Below w1.heap.size w1 w')
    (H2 : ∀ w1, Below w.heap.size w w1 → Calls Tryz.prog 29 #[.agg #[.bool r, .slice co lc cc, .int .i64 g, .bool u, .slice d' ld cd, .int .i64 k]] w1 fun z w' => z = .returned (.int .i64 d) ∧ Below w1.heap.size w1 w') :
    Calls Tryz.prog 6 #[.agg #[.bool s, .slice ao la ca, .int .i64 e, .bool t, .slice bo lb cb, .int .i64 f], .agg #[.bool r, .slice co lc cc, .int .i64 g, .bool u, .slice d' ld cd, .int .i64 k], .int .i64 n] w fun z w' => z = .returned (.int .i64 (wrong2 n c d)) ∧ Below w.heap.size w w' := by
  replace H1 : Hid _ := H1
  replace H2 : Hid _ := H2
  have b1 := below_trans (below_alloc w (.cells #[.bool s, .slice ao la ca, .int .i64 e, .bool t, .slice bo lb cb, .int .i64 f] 27)) (below_alloc _ (.cells #[.bool r, .slice co lc cc, .int .i64 g, .bool u, .slice d' ld cd, .int .i64 k] 27))
  have m1 := loc6_new (w.alloc (.cells #[.bool s, .slice ao la ca, .int .i64 e, .bool t, .slice bo lb cb, .int .i64 f] 27)) (.bool r) (.slice co lc cc) (.int .i64 g) (.bool u) (.slice d' ld cd) (.int .i64 k) 27
  rw [World.size_alloc] at m1
  unfold wrong2 wrong1 bitR
  by_cases hc : c = 0
  · subst hc
    rw [if_pos rfl]
    by_cases hd : d = 0
    · subst hd
      rw [if_pos rfl]
      by_cases hl : n < 1
      · rw [if_pos (Or.inl hl)]
        go_enter Tryz.func6, Tryz.ntmps6
        go_wp2_with fail
        refine (H1.out _ b1).mono ?_
        rintro z w2 ⟨rfl, b2⟩
        have b02 := below_trans b1 b2
        have m2 := m1.later b2
        clear b1 m1 b2 H1
        obtain ⟨-, ⟨x0, x1, x2, x3, x4, x5⟩, -⟩ := id m2
        go_wp2_with fail
        refine (H2.out _ b02).mono ?_
        rintro z w3 ⟨rfl, b3⟩
        have b03 := below_trans b02 b3
        go_wp2
        go_ret
        exact ⟨rfl, b03⟩
      · by_cases hg : 4096 < n
        · rw [if_pos (Or.inr hg)]
          go_enter Tryz.func6, Tryz.ntmps6
          go_wp2_with fail
          refine (H1.out _ b1).mono ?_
          rintro z w2 ⟨rfl, b2⟩
          have b02 := below_trans b1 b2
          have m2 := m1.later b2
          clear b1 m1 b2 H1
          obtain ⟨-, ⟨x0, x1, x2, x3, x4, x5⟩, -⟩ := id m2
          go_wp2_with fail
          refine (H2.out _ b02).mono ?_
          rintro z w3 ⟨rfl, b3⟩
          have b03 := below_trans b02 b3
          go_wp2
          go_ret
          exact ⟨rfl, b03⟩
        · rw [if_neg (by omega)]
          go_enter Tryz.func6, Tryz.ntmps6
          go_wp2_with fail
          refine (H1.out _ b1).mono ?_
          rintro z w2 ⟨rfl, b2⟩
          have b02 := below_trans b1 b2
          have m2 := m1.later b2
          clear b1 m1 b2 H1
          obtain ⟨-, ⟨x0, x1, x2, x3, x4, x5⟩, -⟩ := id m2
          go_wp2_with fail
          refine (H2.out _ b02).mono ?_
          rintro z w3 ⟨rfl, b3⟩
          have b03 := below_trans b02 b3
          go_wp2
          go_ret
          exact ⟨rfl, b03⟩
    · rw [if_neg hd]
      go_enter Tryz.func6, Tryz.ntmps6
      go_wp2_with fail
      refine (H1.out _ b1).mono ?_
      rintro z w2 ⟨rfl, b2⟩
      have b02 := below_trans b1 b2
      have m2 := m1.later b2
      clear b1 m1 b2 H1
      obtain ⟨-, ⟨x0, x1, x2, x3, x4, x5⟩, -⟩ := id m2
      go_wp2_with fail
      refine (H2.out _ b02).mono ?_
      rintro z w3 ⟨rfl, b3⟩
      have b03 := below_trans b02 b3
      go_wp2
      go_ret
      exact ⟨rfl, b03⟩
  · rw [if_neg hc]
    go_enter Tryz.func6, Tryz.ntmps6
    go_wp2_with fail
    refine (H1.out _ b1).mono ?_
    rintro z w2 ⟨rfl, b2⟩
    have b02 := below_trans b1 b2
    have m2 := m1.later b2
    clear b1 m1 b2 H1
    go_wp2
    go_ret
    exact ⟨rfl, b02⟩

theorem twoBalls_ok (n : Int) (s : Bool) (ao : Option Addr) (ca : Nat) (xs : List Nat) (e : Int) (t : Bool) (bo : Option Addr) (cb : Nat) (ys : List Nat) (f : Int) (r : Bool) (co : Option Addr) (cc : Nat) (zs : List Nat) (g : Int) (u : Bool) (d' : Option Addr) (cd : Nat) (us : List Nat) (k : Int) (w : World)
    (ha : Rd w .u32 (.slice ao xs.length ca) xs) (hb : Rd w .u32 (.slice bo ys.length cb) ys) (hc : Rd w .u32 (.slice co zs.length cc) zs) (hd : Rd w .u32 (.slice d' us.length cd) us) (sa : Dg.Small 4294967296 xs) (sb : Dg.Small 4294967296 ys) (sc : Dg.Small 4294967296 zs) (sd : Dg.Small 4294967296 us) :
    Calls Tryz.prog 6 #[.agg #[.bool s, .slice ao xs.length ca, .int .i64 e, .bool t, .slice bo ys.length cb, .int .i64 f], .agg #[.bool r, .slice co zs.length cc, .int .i64 g, .bool u, .slice d' us.length cd, .int .i64 k], .int .i64 n] w fun z w' => z = .returned (.int .i64 (wrong2 n (bchk s xs e t ys f) (bchk r zs g u us k))) ∧ Below w.heap.size w w' :=
  twoBallsW_any s ao ca xs.length e t bo cb ys.length f r co cc zs.length g u d' cd us.length k n _ _ w (fun w1 b1 => refcheckBall_any s ao ca xs e t bo cb ys f w1 (ha.later b1) (hb.later b1) sa sb) (fun w1 b1 => refcheckBall_any r co cc zs g u d' cd us k w1 (hc.later b1) (hd.later b1) sc sd)
end Go.Proofs.YtmjhlflemfkflaaGreatDoor
/-
  Balls: the reference's SameBall; ballIs.
-/
namespace Go.Proofs.YtmjhlflemfkflaaGreatDoor
open Go.RowKit

theorem Loc6.off6' {w : World} {b c : Nat} {v0 v1 v2 v3 v4 v5 : Value} (h : Loc6 w b v0 v1 v2 v3 v4 v5) (hne : c ≠ b) (x0 x1 x2 x3 x4 x5 : Value) :
    Loc6 ((((((w.setCell ⟨c, 0, none⟩ x0).setCell ⟨c, 1, none⟩ x1).setCell ⟨c, 2, none⟩ x2).setCell ⟨c, 3, none⟩ x3).setCell ⟨c, 4, none⟩ x4).setCell ⟨c, 5, none⟩ x5) b v0 v1 v2 v3 v4 v5 := by
  obtain ⟨hl, ⟨c0, c1, c2, c3, c4, c5⟩, f0, f1, f2, f3, f4, f5⟩ := h
  refine ⟨by simpa using hl, ⟨?_, ?_, ?_, ?_, ?_, ?_⟩, by simpa using f0, by simpa using f1, by simpa using f2, by simpa using f3, by simpa using f4, by simpa using f5⟩
  all_goals (rw [World.cell?_setCell_other (h := by simp), World.cell?_setCell_other (h := by simp), World.cell?_setCell_other (h := by simp), World.cell?_setCell_other (h := by simp), World.cell?_setCell_other (h := by simp), World.cell?_setCell_other (h := by simp)]; assumption)

set_option maxRecDepth 100000 in
set_option maxHeartbeats 800000 in
theorem sameBall_any (s : Bool) (ao : Option Addr) (ca : Nat) (xs : List Nat) (e : Int) (t : Bool) (bo : Option Addr) (cb : Nat) (ys : List Nat) (f : Int) (co : Option Addr) (cc : Nat) (d' : Option Addr) (cd : Nat) (w : World)
    (ha : Rd w .u32 (.slice ao xs.length ca) xs) (hb : Rd w .u32 (.slice bo ys.length cb) ys) (hc : Rd w .u32 (.slice co xs.length cc) xs) (hd : Rd w .u32 (.slice d' ys.length cd) ys) :
    Calls Tryz.prog 40 #[.agg #[.bool s, .slice ao xs.length ca, .int .i64 e, .bool t, .slice bo ys.length cb, .int .i64 f], .agg #[.bool s, .slice co xs.length cc, .int .i64 e, .bool t, .slice d' ys.length cd, .int .i64 f]] w fun z w' => z = .returned (.bool true) ∧ Below w.heap.size w w' := by
  have H1 : Hid (∀ w1, Below w.heap.size w w1 → Calls Tryz.prog 38 #[.agg #[.bool s, .slice ao xs.length ca, .int .i64 e], .agg #[.bool s, .slice co xs.length cc, .int .i64 e]] w1 fun z w' => z = .returned (.bool true) ∧ Below w1.heap.size w1 w') := fun w1 b1 => by
    have h := sameDy_any s ao ca xs e s co cc xs e w1 (ha.later b1) (hc.later b1)
    rwa [decide_eq_true ⟨rfl, rfl, rfl⟩] at h
  have H2 : Hid (∀ w1, Below w.heap.size w w1 → Calls Tryz.prog 38 #[.agg #[.bool t, .slice bo ys.length cb, .int .i64 f], .agg #[.bool t, .slice d' ys.length cd, .int .i64 f]] w1 fun z w' => z = .returned (.bool true) ∧ Below w1.heap.size w1 w') := fun w1 b1 => by
    have h := sameDy_any t bo cb ys f t d' cd ys f w1 (hb.later b1) (hd.later b1)
    rwa [decide_eq_true ⟨rfl, rfl, rfl⟩] at h
  obtain ⟨la, hla⟩ : ∃ l, xs.length = l := ⟨_, rfl⟩
  obtain ⟨lb, hlb⟩ : ∃ l, ys.length = l := ⟨_, rfl⟩
  rw [hla] at H1 ⊢
  rw [hlb] at H2 ⊢
  clear ha hb hc hd hla hlb
  have bA := below_trans (below_alloc w (.cells #[.bool s, .slice ao la ca, .int .i64 e, .bool t, .slice bo lb cb, .int .i64 f] 27)) (below_alloc _ (.cells #[.bool s, .slice co la cc, .int .i64 e, .bool t, .slice d' lb cd, .int .i64 f] 27))
  have l1 := (loc6_new w (.bool s) (.slice ao la ca) (.int .i64 e) (.bool t) (.slice bo lb cb) (.int .i64 f) 27).later (below_alloc _ (.cells #[.bool s, .slice co la cc, .int .i64 e, .bool t, .slice d' lb cd, .int .i64 f] 27))
  have m1 := loc6_new (w.alloc (.cells #[.bool s, .slice ao la ca, .int .i64 e, .bool t, .slice bo lb cb, .int .i64 f] 27)) (.bool s) (.slice co la cc) (.int .i64 e) (.bool t) (.slice d' lb cd) (.int .i64 f) 27
  rw [World.size_alloc] at m1
  go_enter Tryz.func40, Tryz.ntmps40
  go_wp2_with fail
  refine (H1.out _ bA).mono ?_
  rintro z w2 ⟨rfl, b2⟩
  have b02 := below_trans bA b2
  have l2 := l1.later b2
  have m2 := m1.later b2
  clear bA l1 m1 b2
  obtain ⟨-, ⟨c0, c1, c2, c3, c4, c5⟩, -⟩ := id l2
  obtain ⟨-, ⟨x0, x1, x2, x3, x4, x5⟩, -⟩ := id m2
  go_wp2_with fail
  refine (H2.out _ b02).mono ?_
  rintro z w3 ⟨rfl, b3⟩
  have b03 := below_trans b02 b3
  go_wp2
  go_ret
  exact ⟨rfl, b03⟩

set_option maxRecDepth 100000 in
set_option maxHeartbeats 1600000 in
theorem ballIsW_any (rs : Bool) (rn : Nat) (re : Int) (qs : Bool) (qn : Nat) (qe rc : Int) (po : Option Addr) (pc : Nat) (qo : Option Addr) (qc : Nat) (c n : Int) (ls : Bool) (lo : Option Addr) (ll lp : Nat) (le : Int) (hs : Bool) (ho : Option Addr) (hl hp' : Nat) (he : Int) (w : World)
    (rp : Rd w .u32 (.slice po (Dg.dg 4294967296 rn).length pc) (Dg.dg 4294967296 rn)) (rq : Rd w .u32 (.slice qo (Dg.dg 4294967296 qn).length qc) (Dg.dg 4294967296 qn))
    (HT : c = 0 → ∀ w1, Below w.heap.size w w1 → Calls Tryz.prog 39 #[.agg #[.bool ls, .slice lo ll lp, .int .i64 le], .agg #[.bool hs, .slice ho hl hp', .int .i64 he], .int .i64 n] w1 (BAns w1 (⟨rs, rn, re⟩, ⟨qs, qn, qe⟩, rc)))
    (hz : rc ≠ 0 → rs = false ∧ rn = 0 ∧ re = 0 ∧ qs = false ∧ qn = 0 ∧ qe = 0) (hc : c ≠ 0 → rc = c) :
    Calls Tryz.prog 11 #[.agg #[.bool rs, .slice po (Dg.dg 4294967296 rn).length pc, .int .i64 re, .bool qs, .slice qo (Dg.dg 4294967296 qn).length qc, .int .i64 qe], .int .i64 rc, .int .i64 c, .agg #[.bool ls, .slice lo ll lp, .int .i64 le], .agg #[.bool hs, .slice ho hl hp', .int .i64 he], .int .i64 n] w fun z w' => z = .returned (.bool true) ∧ Below w.heap.size w w' := by
  replace HT : Hid _ := HT
  have RP : Hid _ := rp
  have RQ : Hid _ := rq
  clear rp rq
  by_cases h0 : c = 0
  · subst h0
    replace HT : Hid _ := HT.out rfl
    clear hc
    by_cases h1 : rc = 0
    · subst h1
      clear hz
      have bA := below_trans (below_trans (below_trans (below_alloc w (.cells #[.bool rs, .slice po (Dg.dg 4294967296 rn).length pc, .int .i64 re, .bool qs, .slice qo (Dg.dg 4294967296 qn).length qc, .int .i64 qe] 27)) (below_alloc _ (.cells #[.bool ls, .slice lo ll lp, .int .i64 le] 34))) (below_alloc _ (.cells #[.bool hs, .slice ho hl hp', .int .i64 he] 34))) (below_alloc _ (.cells #[.bool false, .slice none 0 0, .int .i64 0, .bool false, .slice none 0 0, .int .i64 0] 27))
      have a1 := (((loc6_new w (.bool rs) (.slice po (Dg.dg 4294967296 rn).length pc) (.int .i64 re) (.bool qs) (.slice qo (Dg.dg 4294967296 qn).length qc) (.int .i64 qe) 27).later (below_alloc _ (.cells #[.bool ls, .slice lo ll lp, .int .i64 le] 34))).later (below_alloc _ (.cells #[.bool hs, .slice ho hl hp', .int .i64 he] 34))).later (below_alloc _ (.cells #[.bool false, .slice none 0 0, .int .i64 0, .bool false, .slice none 0 0, .int .i64 0] 27))
      have k1 := loc6_new (((w.alloc (.cells #[.bool rs, .slice po (Dg.dg 4294967296 rn).length pc, .int .i64 re, .bool qs, .slice qo (Dg.dg 4294967296 qn).length qc, .int .i64 qe] 27)).alloc (.cells #[.bool ls, .slice lo ll lp, .int .i64 le] 34)).alloc (.cells #[.bool hs, .slice ho hl hp', .int .i64 he] 34)) (.bool false) (.slice none 0 0) (.int .i64 0) (.bool false) (.slice none 0 0) (.int .i64 0) 27
      have z1 := zb6_new (((w.alloc (.cells #[.bool rs, .slice po (Dg.dg 4294967296 rn).length pc, .int .i64 re, .bool qs, .slice qo (Dg.dg 4294967296 qn).length qc, .int .i64 qe] 27)).alloc (.cells #[.bool ls, .slice lo ll lp, .int .i64 le] 34)).alloc (.cells #[.bool hs, .slice ho hl hp', .int .i64 he] 34)) 27
      simp only [World.size_alloc] at k1 z1
      go_enter Tryz.func11, Tryz.ntmps11
      go_wp2_with fail
      refine (HT.out _ bA).mono ?_
      rintro z w2 ⟨v, u, rfl, rv, ru, b2⟩
      have b02 := below_trans bA b2
      have a2 := a1.later b2
      have k2 := k1.later b2
      have z2 := z1.later b2
      obtain ⟨vo, vc, hv⟩ := rv.shape
      subst hv
      obtain ⟨uo, uc, hu⟩ := ru.shape
      subst hu
      simp only at rv ru ⊢
      clear bA a1 k1 z1 b2 HT
      obtain ⟨hl0, ⟨g0, g1, g2, g3, g4, g5⟩, f0, f1, f2, f3, f4, f5⟩ := id k2
      have k3 := loc6_set k2 (.bool rs) (.slice vo (Dg.dg 4294967296 rn).length vc) (.int .i64 re) (.bool qs) (.slice uo (Dg.dg 4294967296 qn).length uc) (.int .i64 qe)
      have a3 := a2.off6' (show w.heap.size + 1 + 1 + 1 ≠ w.heap.size by omega) (.bool rs) (.slice vo (Dg.dg 4294967296 rn).length vc) (.int .i64 re) (.bool qs) (.slice uo (Dg.dg 4294967296 qn).length uc) (.int .i64 qe)
      have rv3 := z2.rd32 rv (.bool rs) (.slice vo (Dg.dg 4294967296 rn).length vc) (.int .i64 re) (.bool qs) (.slice uo (Dg.dg 4294967296 qn).length uc) (.int .i64 qe)
      have ru3 := z2.rd32 ru (.bool rs) (.slice vo (Dg.dg 4294967296 rn).length vc) (.int .i64 re) (.bool qs) (.slice uo (Dg.dg 4294967296 qn).length uc) (.int .i64 qe)
      have b3 := below_set6 b02 (show w.heap.size ≤ w.heap.size + 1 + 1 + 1 by omega) (.bool rs) (.slice vo (Dg.dg 4294967296 rn).length vc) (.int .i64 re) (.bool qs) (.slice uo (Dg.dg 4294967296 qn).length uc) (.int .i64 qe)
      have HS : Hid _ := sameBall_any rs po pc (Dg.dg 4294967296 rn) re qs qo qc (Dg.dg 4294967296 qn) qe vo vc uo uc _ (Rd.later RP.out b3) (Rd.later RQ.out b3) rv3 ru3
      obtain ⟨-, ⟨i0, i1, i2, i3, i4, i5⟩, -⟩ := id a3
      obtain ⟨-, ⟨j0, j1, j2, j3, j4, j5⟩, -⟩ := id k3
      clear k2 z2 rv ru a2 k3 a3 rv3 ru3 b02
      go_wp2_with fail
      refine Calls.mono HS.out ?_
      rintro z w4 ⟨rfl, b4⟩
      have b04 := below_trans b3 b4
      go_wp2
      go_ret
      exact ⟨rfl, b04⟩
    · obtain ⟨rfl, rfl, rfl, rfl, rfl, rfl⟩ := hz h1
      clear hz
      have ed : (Dg.dg 4294967296 0) = [] := rfl
      rw [ed] at RP RQ ⊢
      simp only [List.length_nil] at RP RQ ⊢
      clear ed
      have bA := below_trans (below_trans (below_trans (below_alloc w (.cells #[.bool false, .slice po 0 pc, .int .i64 0, .bool false, .slice qo 0 qc, .int .i64 0] 27)) (below_alloc _ (.cells #[.bool ls, .slice lo ll lp, .int .i64 le] 34))) (below_alloc _ (.cells #[.bool hs, .slice ho hl hp', .int .i64 he] 34))) (below_alloc _ (.cells #[.bool false, .slice none 0 0, .int .i64 0, .bool false, .slice none 0 0, .int .i64 0] 27))
      have a1 := (((loc6_new w (.bool false) (.slice po 0 pc) (.int .i64 0) (.bool false) (.slice qo 0 qc) (.int .i64 0) 27).later (below_alloc _ (.cells #[.bool ls, .slice lo ll lp, .int .i64 le] 34))).later (below_alloc _ (.cells #[.bool hs, .slice ho hl hp', .int .i64 he] 34))).later (below_alloc _ (.cells #[.bool false, .slice none 0 0, .int .i64 0, .bool false, .slice none 0 0, .int .i64 0] 27))
      have k1 := loc6_new (((w.alloc (.cells #[.bool false, .slice po 0 pc, .int .i64 0, .bool false, .slice qo 0 qc, .int .i64 0] 27)).alloc (.cells #[.bool ls, .slice lo ll lp, .int .i64 le] 34)).alloc (.cells #[.bool hs, .slice ho hl hp', .int .i64 he] 34)) (.bool false) (.slice none 0 0) (.int .i64 0) (.bool false) (.slice none 0 0) (.int .i64 0) 27
      have z1 := zb6_new (((w.alloc (.cells #[.bool false, .slice po 0 pc, .int .i64 0, .bool false, .slice qo 0 qc, .int .i64 0] 27)).alloc (.cells #[.bool ls, .slice lo ll lp, .int .i64 le] 34)).alloc (.cells #[.bool hs, .slice ho hl hp', .int .i64 he] 34)) 27
      simp only [World.size_alloc] at k1 z1
      go_enter Tryz.func11, Tryz.ntmps11
      go_wp2_with fail
      refine (HT.out _ bA).mono ?_
      rintro z w2 ⟨v, u, rfl, rv, ru, b2⟩
      have b02 := below_trans bA b2
      have a2 := a1.later b2
      have k2 := k1.later b2
      obtain ⟨vo, vc, hv⟩ := rv.shape
      subst hv
      obtain ⟨uo, uc, hu⟩ := ru.shape
      subst hu
      simp only [show (Dg.dg 4294967296 0) = [] from rfl, List.length_nil] at rv ru ⊢
      clear bA a1 k1 z1 b2 HT
      obtain ⟨hl0, ⟨g0, g1, g2, g3, g4, g5⟩, f0, f1, f2, f3, f4, f5⟩ := id k2
      have k3 := loc6_set k2 (.bool false) (.slice vo 0 vc) (.int .i64 0) (.bool false) (.slice uo 0 uc) (.int .i64 0)
      have a3 := a2.off6' (show w.heap.size + 1 + 1 + 1 ≠ w.heap.size by omega) (.bool false) (.slice vo 0 vc) (.int .i64 0) (.bool false) (.slice uo 0 uc) (.int .i64 0)
      have b3 := below_set6 b02 (show w.heap.size ≤ w.heap.size + 1 + 1 + 1 by omega) (.bool false) (.slice vo 0 vc) (.int .i64 0) (.bool false) (.slice uo 0 uc) (.int .i64 0)
      go_upto_region 4 with fail
      clear hl0 g0 g1 g2 g3 g4 g5 f0 f1 f2 f3 f4 f5 k2 a2 b02 rv ru
      have hkb : w.heap.size ≤ w.heap.size + 1 + 1 + 1 := by omega
      have ne3 : w.heap.size + 1 + 1 + 1 ≠ w.heap.size := by omega
      generalize w.heap.size + 1 + 1 + 1 = KB at k3 a3 b3 hkb ne3 ⊢
      generalize ((((((w2.setCell ⟨KB, 0, none⟩ (.bool false)).setCell ⟨KB, 1, none⟩ (.slice vo 0 vc)).setCell ⟨KB, 2, none⟩ (.int .i64 0)).setCell ⟨KB, 3, none⟩ (.bool false)).setCell ⟨KB, 4, none⟩ (.slice uo 0 uc)).setCell ⟨KB, 5, none⟩ (.int .i64 0)) = W3 at k3 a3 b3 ⊢
      have hb : (rc != 0) = true := by simp [h1]
      obtain ⟨hl3, ⟨j0, j1, j2, j3, j4, j5⟩, y0, y1, y2, y3, y4, y5⟩ := id k3
      have k4 := loc6_set k3 (.bool false) (.slice none 0 0) (.int .i64 0) (.bool false) (.slice none 0 0) (.int .i64 0)
      have a4 := a3.off6' ne3 (.bool false) (.slice none 0 0) (.int .i64 0) (.bool false) (.slice none 0 0) (.int .i64 0)
      have b4 := below_set6 b3 hkb (.bool false) (.slice none 0 0) (.int .i64 0) (.bool false) (.slice none 0 0) (.int .i64 0)
      have HS : Hid _ := sameBall_any false po pc [] 0 false qo qc [] 0 none 0 none 0 _ (Rd.later RP.out b4) (Rd.later RQ.out b4) (rd_nil _ _) (rd_nil _ _)
      obtain ⟨-, ⟨i0, i1, i2, i3, i4, i5⟩, -⟩ := id a4
      obtain ⟨-, ⟨n0, n1, n2, n3, n4, n5⟩, -⟩ := id k4
      clear k3 a3 k4 a4 b3
      go_wp2_with fail
      refine Calls.mono HS.out ?_
      rintro z w4 ⟨rfl, b5⟩
      have b05 := below_trans b4 b5
      go_wp2
      go_ret
      exact ⟨rfl, b05⟩
  · obtain rfl := hc h0
    obtain ⟨rfl, rfl, rfl, rfl, rfl, rfl⟩ := hz h0
    clear hz hc HT
    have ed : (Dg.dg 4294967296 0) = [] := rfl
    rw [ed] at RP RQ ⊢
    simp only [List.length_nil] at RP RQ ⊢
    clear ed
    have bA := below_trans (below_trans (below_trans (below_alloc w (.cells #[.bool false, .slice po 0 pc, .int .i64 0, .bool false, .slice qo 0 qc, .int .i64 0] 27)) (below_alloc _ (.cells #[.bool ls, .slice lo ll lp, .int .i64 le] 34))) (below_alloc _ (.cells #[.bool hs, .slice ho hl hp', .int .i64 he] 34))) (below_alloc _ (.cells #[.bool false, .slice none 0 0, .int .i64 0, .bool false, .slice none 0 0, .int .i64 0] 27))
    have a1 := (((loc6_new w (.bool false) (.slice po 0 pc) (.int .i64 0) (.bool false) (.slice qo 0 qc) (.int .i64 0) 27).later (below_alloc _ (.cells #[.bool ls, .slice lo ll lp, .int .i64 le] 34))).later (below_alloc _ (.cells #[.bool hs, .slice ho hl hp', .int .i64 he] 34))).later (below_alloc _ (.cells #[.bool false, .slice none 0 0, .int .i64 0, .bool false, .slice none 0 0, .int .i64 0] 27))
    have k1 := loc6_new (((w.alloc (.cells #[.bool false, .slice po 0 pc, .int .i64 0, .bool false, .slice qo 0 qc, .int .i64 0] 27)).alloc (.cells #[.bool ls, .slice lo ll lp, .int .i64 le] 34)).alloc (.cells #[.bool hs, .slice ho hl hp', .int .i64 he] 34)) (.bool false) (.slice none 0 0) (.int .i64 0) (.bool false) (.slice none 0 0) (.int .i64 0) 27
    have z1 := zb6_new (((w.alloc (.cells #[.bool false, .slice po 0 pc, .int .i64 0, .bool false, .slice qo 0 qc, .int .i64 0] 27)).alloc (.cells #[.bool ls, .slice lo ll lp, .int .i64 le] 34)).alloc (.cells #[.bool hs, .slice ho hl hp', .int .i64 he] 34)) 27
    simp only [World.size_alloc] at k1 z1
    have HS : Hid _ := sameBall_any false po pc [] 0 false qo qc [] 0 none 0 none 0 _ (Rd.later RP.out bA) (Rd.later RQ.out bA) (rd_nil _ _) (rd_nil _ _)
    clear a1 k1 z1
    go_enter Tryz.func11, Tryz.ntmps11
    go_wp2_with fail
    refine Calls.mono HS.out ?_
    rintro z w4 ⟨rfl, b5⟩
    have b05 := below_trans bA b5
    go_wp2
    go_ret
    exact ⟨rfl, b05⟩
end Go.Proofs.YtmjhlflemfkflaaGreatDoor

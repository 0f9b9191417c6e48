/-
  Contract of dyad.Cut.
-/
import Derived.Test.YtmjhlflemfkflaaGreatDoorDk1
namespace Go.Proofs.YtmjhlflemfkflaaGreatDoor
open Go.RowKit

/-- What is wrong with a dyad, or with how many bits are asked for. -/
def cutchk (xs : List Nat) (e b : Int) : Int := if dchk xs e = 0 then (if b < 1 ∨ 4096 < b then 3 else 0) else dchk xs e

set_option maxRecDepth 100000 in
set_option maxHeartbeats 1600000 in
theorem dcut_any (s : Bool) (ao : Option Addr) (ca : Nat) (xs : List Nat) (e b : Int) (up : Bool) (w : World) (hr : Rd w .u32 (.slice ao xs.length ca) xs) (sa : Dg.Small 4294967296 xs) (hT : Tab w) :
    Calls Tryz.prog 16 #[.agg #[.bool s, .slice ao xs.length ca, .int .i64 e], .int .i64 b, .bool up] w (DAns w (dbothR (cutchk xs e b) (cutT ⟨s, Dg.vl 4294967296 xs, e⟩ b up))) := by
  have bA := below_trans (below_alloc w (.cells #[.bool s, .slice ao xs.length ca, .int .i64 e] 25)) (below_alloc _ (.cells #[.bool false, .slice none 0 0, .int .i64 0] 25))
  have l1 := (loc_new w (.bool s) (.slice ao xs.length ca) (.int .i64 e) 25).later (below_alloc _ (.cells #[.bool false, .slice none 0 0, .int .i64 0] 25))
  have l2 := loc_new (w.alloc (.cells #[.bool s, .slice ao xs.length ca, .int .i64 e] 25)) (.bool false) (.slice none 0 0) (.int .i64 0) 25
  rw [World.size_alloc] at l2
  obtain ⟨W, hW⟩ : ∃ W, ((w.alloc (.cells #[.bool s, .slice ao xs.length ca, .int .i64 e] 25)).alloc (.cells #[.bool false, .slice none 0 0, .int .i64 0] 25)) = W := ⟨_, rfl⟩
  have sW : W.heap.size = w.heap.size + 1 + 1 := by rw [← hW]; simp [World.size_alloc]
  rw [hW] at bA l1 l2
  have bX := below_alloc W (.cells #[.bool s, .slice ao xs.length ca, .int .i64 e] 25)
  have b01 := below_trans bA bX
  have l1 := l1.later bX
  have l2 := l2.later bX
  have hw := dwrong1_any W.heap.size s ao ca xs e (W.alloc (.cells #[.bool s, .slice ao xs.length ca, .int .i64 e] 25))
    (by rw [World.cell?_alloc_at _ _ _ _ rfl]; rfl) (by rw [World.cell?_alloc_at _ _ _ _ rfl]; rfl) (by rw [World.cell?_alloc_at _ _ _ _ rfl]; rfl) (hr.later b01)
  rw [sW] at hw
  rw [← hW] at hw l1 l2 b01
  have HS : Hid (dchk xs e = 0 → 1 ≤ b → b ≤ 4096 → (∀ w1, Below w.heap.size w w1 → Calls Tryz.prog 44 #[.agg #[.bool s, .slice ao xs.length ca, .int .i64 e], .int .i64 b, .bool up] w1 (DVRes w1 (cutT ⟨s, Dg.vl 4294967296 xs, e⟩ b up))) ∧
      (∀ v w1, Below w.heap.size w w1 → Dv w1 v (cutT ⟨s, Dg.vl 4294967296 xs, e⟩ b up) → Calls Tryz.prog 45 #[v] w1 (DAns w1 (shortT (cutT ⟨s, Dg.vl 4294967296 xs, e⟩ b up))))) := fun h n1 n2 => by
    obtain ⟨c1, e1, e2⟩ := dchk_zero h
    have z1 := chk_zero c1
    have x1 : (Dg.dg 4294967296 (Dg.vl 4294967296 xs)).length ≤ 1200 := by rw [← Dg.eq_dg 4294967296 (by omega) xs _ sa z1.1 rfl]; exact z1.2
    have y1 := cutT_len (A := ⟨s, Dg.vl 4294967296 xs, e⟩) (b := b) (up := up) x1 (by omega)
    obtain ⟨y2, y3⟩ := cutT_e (A := ⟨s, Dg.vl 4294967296 xs, e⟩) (b := b) (up := up) x1 n1
    simp only at y2 y3
    refine ⟨fun w1 b1 => dcutL_any _ _ b up w1 (dv_of (hr.later b1) sa z1.1) (by simp only; omega) (by simp only; omega) (by simp only; omega) n1 n2 (hT.later b1), fun v w1 b1 hv => ?_⟩
    exact dshort_any _ _ w1 hv (by omega) ⟨by omega, by omega⟩ (hT.later b1) (by have := tz_fits _ 1201 y1; omega)
  unfold dbothR cutchk
  obtain ⟨c, hc⟩ : ∃ c, dchk xs e = c := ⟨_, rfl⟩
  rw [hc] at hw HS ⊢
  clear hc bA bX sW hW hr sa hT
  by_cases h : c = 0
  · subst h
    rw [if_pos rfl]
    by_cases h1 : b < 1
    · rw [if_pos (Or.inl h1), if_neg (by omega)]
      clear HS
      go_enter Tryz.func16, Tryz.ntmps16
      go_wp2_with fail
      refine hw.mono ?_
      rintro z w1 ⟨rfl, b1⟩
      have l2 := l2.later b1
      have b01 := below_trans b01 b1
      obtain ⟨hl6, ⟨d0, d1, d2⟩, f0, f1, f2⟩ := id l2
      clear hw b1
      go_wp2
      obtain ⟨-, ⟨g0, g1, g2⟩, -⟩ := loc_set l2 (.bool false) (.slice none 0 0) (.int .i64 0)
      have b8 := below_set3 b01 (show w.heap.size ≤ w.heap.size + 1 by omega) (.bool false) (.slice none 0 0) (.int .i64 0)
      refine bodyPost_ret (v := .tuple #[.agg #[.bool false, .slice none 0 0, .int .i64 0], .int .i64 3]) (by simp [results, Tryz.results16, go_sem, g0, g1, g2]) rfl ?_
      exact ⟨_, rfl, own_nil _ _ _ _, b8⟩
    · by_cases h2 : 4096 < b
      · rw [if_pos (Or.inr h2), if_neg (by omega)]
        clear HS
        go_enter Tryz.func16, Tryz.ntmps16
        go_wp2_with fail
        refine hw.mono ?_
        rintro z w1 ⟨rfl, b1⟩
        have l2 := l2.later b1
        have b01 := below_trans b01 b1
        obtain ⟨hl6, ⟨d0, d1, d2⟩, f0, f1, f2⟩ := id l2
        clear hw b1
        go_wp2
        obtain ⟨-, ⟨g0, g1, g2⟩, -⟩ := loc_set l2 (.bool false) (.slice none 0 0) (.int .i64 0)
        have b8 := below_set3 b01 (show w.heap.size ≤ w.heap.size + 1 by omega) (.bool false) (.slice none 0 0) (.int .i64 0)
        refine bodyPost_ret (v := .tuple #[.agg #[.bool false, .slice none 0 0, .int .i64 0], .int .i64 3]) (by simp [results, Tryz.results16, go_sem, g0, g1, g2]) rfl ?_
        exact ⟨_, rfl, own_nil _ _ _ _, b8⟩
      · rw [if_neg (show ¬(b < 1 ∨ 4096 < b) by omega), if_pos rfl]
        obtain ⟨hcu, hsh⟩ := HS.out rfl (by omega) (by omega)
        have HCU : Hid _ := hcu
        obtain ⟨⟨cs, cn, ce⟩, hct⟩ : ∃ r, cutT ⟨s, Dg.vl 4294967296 xs, e⟩ b up = r := ⟨_, rfl⟩
        rw [hct] at HCU hsh ⊢
        obtain ⟨⟨⟨rs, rn, re⟩, rc⟩, hrr⟩ : ∃ r, shortT ⟨cs, cn, ce⟩ = r := ⟨_, rfl⟩
        rw [hrr] at hsh ⊢
        have HSH : Hid _ := hsh
        clear HS hrr hct hcu hsh
        go_enter Tryz.func16, Tryz.ntmps16
        go_wp2_with fail
        refine hw.mono ?_
        rintro z w1 ⟨rfl, b1⟩
        have l1 := l1.later b1
        have l2 := l2.later b1
        have b01 := below_trans b01 b1
        obtain ⟨-, ⟨ca0, ca1, ca2⟩, -⟩ := id l1
        clear hw b1
        go_wp2_with fail
        refine (of_dy s ao xs.length ca e _).mono ?_
        rintro z w3 ⟨rfl, b3⟩
        have l2 := l2.later b3
        have b03 := below_trans b01 b3
        clear ca0 ca1 ca2 l1 b3
        go_wp2_with fail
        refine (HCU.out w3 b03).mono ?_
        rintro z w4 ⟨v4, rfl, r4, b4⟩
        have l2 := l2.later b4
        have b04 := below_trans b03 b4
        clear b4 b03
        go_wp2_with fail
        refine (HSH.out _ w4 b04 ⟨_, rfl, r4⟩).mono ?_
        rintro z w6 ⟨vr, rfl, o6, b6⟩
        have hlt := l2.1
        have lc6 := l2.later b6
        have b06 := below_trans b04 b6
        obtain ⟨so, sc, hvr⟩ := o6.rd.shape
        subst hvr
        obtain ⟨hl6, ⟨d0, d1, d2⟩, f0, f1, f2⟩ := id lc6
        clear r4 b6
        go_wp2
        obtain ⟨-, ⟨g0, g1, g2⟩, -⟩ := loc_set lc6 (.bool rs) (.slice so (Dg.dg 4294967296 rn).length sc) (.int .i64 re)
        have o7 := o6.apart3 (b := w.heap.size + 1) hlt (.bool rs) (.slice so (Dg.dg 4294967296 rn).length sc) (.int .i64 re)
        have b8 := below_set3 b06 (show w.heap.size ≤ w.heap.size + 1 by omega) (.bool rs) (.slice so (Dg.dg 4294967296 rn).length sc) (.int .i64 re)
        refine bodyPost_ret (v := .tuple #[.agg #[.bool rs, .slice so (Dg.dg 4294967296 rn).length sc, .int .i64 re], .int .i64 rc]) (by simp [results, Tryz.results16, go_sem, g0, g1, g2]) rfl ?_
        exact ⟨_, rfl, o7.lower b04.size, b8⟩
  · rw [if_neg h, if_neg h]
    clear HS
    go_enter Tryz.func16, Tryz.ntmps16
    go_wp2_with fail
    refine hw.mono ?_
    rintro z w1 ⟨rfl, b1⟩
    have l2 := l2.later b1
    have b01 := below_trans b01 b1
    obtain ⟨hl6, ⟨d0, d1, d2⟩, f0, f1, f2⟩ := id l2
    clear hw b1
    go_wp2
    obtain ⟨-, ⟨g0, g1, g2⟩, -⟩ := loc_set l2 (.bool false) (.slice none 0 0) (.int .i64 0)
    have b8 := below_set3 b01 (show w.heap.size ≤ w.heap.size + 1 by omega) (.bool false) (.slice none 0 0) (.int .i64 0)
    refine bodyPost_ret (v := .tuple #[.agg #[.bool false, .slice none 0 0, .int .i64 0], .int .i64 c]) (by simp [results, Tryz.results16, go_sem, g0, g1, g2]) rfl ?_
    exact ⟨_, rfl, own_nil _ _ _ _, b8⟩
end Go.Proofs.YtmjhlflemfkflaaGreatDoor

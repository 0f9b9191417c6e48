/-
  Contracts of nat.wrong (one number, two numbers) and nat.short.
-/
import Derived.Test.YtepcafhlhnlgaaaLeaf
namespace Go.Proofs.Ytepcafhlhnlgaaa
open Go.RowKit

/-- What is wrong with the first of two with which something is. -/
def chk2 (xs ys : List Nat) : Int := if chk xs = 0 then chk ys else chk xs

theorem wrong1_any (b : Nat) (va : Value) (xs : List Nat) (w : World) (h0 : w.cell? ⟨b, 0, none⟩ = some va) (ha : Rd w .u32 va xs) :
    Calls Try.prog 53 #[.slice (some ⟨b, 0, none⟩) 1 1] w fun e w' => e = .returned (.int .i64 (chk xs)) ∧ w' = w := by
  obtain ⟨c, hc⟩ : ∃ c, chk xs = c := ⟨_, rfl⟩
  have hk := check_any va xs w ha
  rw [hc] at hk ⊢
  clear hc
  by_cases h : c = 0
  · subst h
    go_enter Try.func53, Try.ntmps53
    go_wp2
    refine wp_loop_rounds 2 ?_
    rw [rounds_succ]
    go_wp2_with fail
    refine hk.mono ?_
    rintro e w' ⟨rfl, rfl⟩
    go_wp2
    rw [rounds_succ]
    go_wp2
    go_ret
    exact ⟨rfl, rfl⟩
  · go_enter Try.func53, Try.ntmps53
    go_wp2
    refine wp_loop_rounds 2 ?_
    rw [rounds_succ]
    go_wp2_with fail
    refine hk.mono ?_
    rintro e w' ⟨rfl, rfl⟩
    go_wp2
    go_ret
    exact ⟨rfl, rfl⟩

theorem wrong2_any (b : Nat) (va vb : Value) (xs ys : List Nat) (w : World) (h0 : w.cell? ⟨b, 0, none⟩ = some va) (h1 : w.cell? ⟨b, 1, none⟩ = some vb) (ha : Rd w .u32 va xs) (hb : Rd w .u32 vb ys) :
    Calls Try.prog 53 #[.slice (some ⟨b, 0, none⟩) 2 2] w fun e w' => e = .returned (.int .i64 (chk2 xs ys)) ∧ w' = w := by
  unfold chk2
  obtain ⟨c, hc⟩ : ∃ c, chk xs = c := ⟨_, rfl⟩
  obtain ⟨d, hd⟩ : ∃ d, chk ys = d := ⟨_, rfl⟩
  have hk := check_any va xs w ha
  have hl := check_any vb ys w hb
  rw [hc] at hk ⊢
  rw [hd] at hl ⊢
  clear hc hd
  by_cases h : c = 0
  · subst h
    rw [if_pos rfl]
    go_enter Try.func53, Try.ntmps53
    go_wp2
    refine wp_loop_rounds 3 ?_
    rw [rounds_succ]
    go_wp2_with fail
    refine hk.mono ?_
    rintro e w' ⟨rfl, rfl⟩
    go_wp2
    rw [rounds_succ]
    go_wp2_with fail
    refine hl.mono ?_
    rintro e w' ⟨rfl, rfl⟩
    by_cases h2 : d = 0
    · subst h2
      go_wp2
      rw [rounds_succ]
      go_wp2
      go_ret
      exact ⟨rfl, rfl⟩
    · go_wp2
      go_ret
      exact ⟨rfl, rfl⟩
  · rw [if_neg h]
    go_enter Try.func53, Try.ntmps53
    go_wp2
    refine wp_loop_rounds 3 ?_
    rw [rounds_succ]
    go_wp2_with fail
    refine hk.mono ?_
    rintro e w' ⟨rfl, rfl⟩
    go_wp2
    go_ret
    exact ⟨rfl, rfl⟩

theorem short_yes (v : Value) (zs : List Nat) (w : World) (h : Rd w .u32 v zs) (hl : zs.length ≤ 1200) :
    Calls Try.prog 63 #[v] w fun e w' => e = .returned (.tuple #[v, .int .i64 0]) ∧ w' = w := by
  obtain ⟨ao, cap, rfl, hlc, hm, hc⟩ := h
  unfold maxLen at hm
  go_enter Try.func63, Try.ntmps63
  go_wp2
  go_ret2
  exact ⟨rfl, rfl⟩

theorem short_no (v : Value) (zs : List Nat) (w : World) (h : Rd w .u32 v zs) (hl : 1200 < zs.length) :
    Calls Try.prog 63 #[v] w fun e w' => e = .returned (.tuple #[.slice none 0 0, .int .i64 2]) ∧ w' = w := by
  obtain ⟨ao, cap, rfl, hlc, hm, hc⟩ := h
  unfold maxLen at hm
  go_enter Try.func63, Try.ntmps63
  go_wp2
  go_ret2
  exact ⟨rfl, rfl⟩

/-- A number of at most 1200 digits, or ErrMany. -/
def capd (n : Nat) : List Nat × Int := if (Dg.dg 4294967296 n).length ≤ 1200 then (Dg.dg 4294967296 n, 0) else ([], 2)

/-- What a call answers that is handed numbers: what is wrong with them, or a number. -/
def natR (c : Int) (n : Nat) : List Nat × Int := if c = 0 then capd n else ([], c)

/-- The call answers a number and an errno. -/
def Ans (w : World) (r : List Nat × Int) (e : Ending) (w' : World) : Prop :=
  ∃ v, e = .returned (.tuple #[v, .int .i64 r.2]) ∧ Own w' w.heap.size 58 .u32 v r.1 ∧ Below w.heap.size w w'

/-- The call answers a number. -/
def Num (w : World) (n : Nat) (e : Ending) (w' : World) : Prop :=
  ∃ v, e = .returned v ∧ Own w' w.heap.size 58 .u32 v (Dg.dg 4294967296 n) ∧ Below w.heap.size w w'

theorem short_num (v : Value) (n : Nat) (w0 w : World) (h : Own w w0.heap.size 58 .u32 v (Dg.dg 4294967296 n)) (hb : Below w0.heap.size w0 w) :
    Calls Try.prog 63 #[v] w fun e w' => w' = w ∧ Ans w0 (capd n) e w' := by
  unfold capd
  by_cases hl : (Dg.dg 4294967296 n).length ≤ 1200
  · refine (short_yes v _ w h.rd hl).mono ?_
    rintro e w' ⟨rfl, rfl⟩
    rw [if_pos hl]
    exact ⟨rfl, v, rfl, h, hb⟩
  · refine (short_no v _ w h.rd (by omega)).mono ?_
    rintro e w' ⟨rfl, rfl⟩
    rw [if_neg hl]
    exact ⟨rfl, _, rfl, own_nil _ _ _ _, hb⟩

theorem both_plus (va vb : Value) (xs ys : List Nat) (n : Nat) (w : World) (ha : Rd w .u32 va xs) (hb : Rd w .u32 vb ys)
    (hK : chk2 xs ys = 0 → ∀ w1 : World, Below w.heap.size w w1 → Calls Try.prog 58 #[va, vb] w1 (Num w1 n)) :
    Calls Try.prog 57 #[va, vb, .func (.func 58) #[] #[]] w (Ans w (natR (chk2 xs ys) n)) := by
  obtain ⟨ao, ca, rfl⟩ := ha.shape
  obtain ⟨bo, cb, rfl⟩ := hb.shape
  have b1 : Below w.heap.size w (w.alloc (.cells #[.slice ao xs.length ca, .slice bo ys.length cb] 23)) := (Below.refl _ _).alloc (Nat.le_refl _) _
  have hw := wrong2_any w.heap.size _ _ xs ys (w.alloc (.cells #[.slice ao xs.length ca, .slice bo ys.length cb] 23)) (by rw [World.cell?_alloc_at _ _ _ _ rfl]; rfl) (by rw [World.cell?_alloc_at _ _ _ _ rfl]; rfl) (ha.later b1) (hb.later b1)
  obtain ⟨c, hc⟩ : ∃ c, chk2 xs ys = c := ⟨_, rfl⟩
  rw [hc] at hw hK ⊢
  clear hc
  unfold natR
  by_cases h : c = 0
  · subst h
    rw [if_pos rfl]
    have hk := hK rfl _ b1
    clear hK
    go_enter Try.func57, Try.ntmps57
    go_wp2_with fail
    refine hw.mono ?_
    rintro e w' ⟨rfl, rfl⟩
    go_wp2_with fail
    refine hk.mono ?_
    rintro e w2 ⟨v, rfl, hown, hbel⟩
    have b2 := below_trans b1 hbel
    have own2 := hown.lower b1.size
    go_wp2_with fail
    refine (short_num v n w w2 own2 b2).mono ?_
    rintro e w' ⟨rfl, v2, rfl, h2, h3⟩
    go_wp2
    go_ret2
    exact ⟨_, rfl, h2, h3⟩
  · rw [if_neg h]
    go_enter Try.func57, Try.ntmps57
    go_wp2_with fail
    refine hw.mono ?_
    rintro e w' ⟨rfl, rfl⟩
    go_wp2
    go_ret2
    exact ⟨_, rfl, own_nil _ _ _ _, b1⟩

theorem both_times (va vb : Value) (xs ys : List Nat) (n : Nat) (w : World) (ha : Rd w .u32 va xs) (hb : Rd w .u32 vb ys)
    (hK : chk2 xs ys = 0 → ∀ w1 : World, Below w.heap.size w w1 → Calls Try.prog 60 #[va, vb] w1 (Num w1 n)) :
    Calls Try.prog 57 #[va, vb, .func (.func 60) #[] #[]] w (Ans w (natR (chk2 xs ys) n)) := by
  obtain ⟨ao, ca, rfl⟩ := ha.shape
  obtain ⟨bo, cb, rfl⟩ := hb.shape
  have b1 : Below w.heap.size w (w.alloc (.cells #[.slice ao xs.length ca, .slice bo ys.length cb] 23)) := (Below.refl _ _).alloc (Nat.le_refl _) _
  have hw := wrong2_any w.heap.size _ _ xs ys (w.alloc (.cells #[.slice ao xs.length ca, .slice bo ys.length cb] 23)) (by rw [World.cell?_alloc_at _ _ _ _ rfl]; rfl) (by rw [World.cell?_alloc_at _ _ _ _ rfl]; rfl) (ha.later b1) (hb.later b1)
  obtain ⟨c, hc⟩ : ∃ c, chk2 xs ys = c := ⟨_, rfl⟩
  rw [hc] at hw hK ⊢
  clear hc
  unfold natR
  by_cases h : c = 0
  · subst h
    rw [if_pos rfl]
    have hk := hK rfl _ b1
    clear hK
    go_enter Try.func57, Try.ntmps57
    go_wp2_with fail
    refine hw.mono ?_
    rintro e w' ⟨rfl, rfl⟩
    go_wp2_with fail
    refine hk.mono ?_
    rintro e w2 ⟨v, rfl, hown, hbel⟩
    have b2 := below_trans b1 hbel
    have own2 := hown.lower b1.size
    go_wp2_with fail
    refine (short_num v n w w2 own2 b2).mono ?_
    rintro e w' ⟨rfl, v2, rfl, h2, h3⟩
    go_wp2
    go_ret2
    exact ⟨_, rfl, h2, h3⟩
  · rw [if_neg h]
    go_enter Try.func57, Try.ntmps57
    go_wp2_with fail
    refine hw.mono ?_
    rintro e w' ⟨rfl, rfl⟩
    go_wp2
    go_ret2
    exact ⟨_, rfl, own_nil _ _ _ _, b1⟩

theorem both_minus (va vb : Value) (xs ys : List Nat) (n : Nat) (w : World) (ha : Rd w .u32 va xs) (hb : Rd w .u32 vb ys)
    (hK : chk2 xs ys = 0 → ∀ w1 : World, Below w.heap.size w w1 → Calls Try.prog 59 #[va, vb] w1 (Num w1 n)) :
    Calls Try.prog 57 #[va, vb, .func (.func 59) #[] #[]] w (Ans w (natR (chk2 xs ys) n)) := by
  obtain ⟨ao, ca, rfl⟩ := ha.shape
  obtain ⟨bo, cb, rfl⟩ := hb.shape
  have b1 : Below w.heap.size w (w.alloc (.cells #[.slice ao xs.length ca, .slice bo ys.length cb] 23)) := (Below.refl _ _).alloc (Nat.le_refl _) _
  have hw := wrong2_any w.heap.size _ _ xs ys (w.alloc (.cells #[.slice ao xs.length ca, .slice bo ys.length cb] 23)) (by rw [World.cell?_alloc_at _ _ _ _ rfl]; rfl) (by rw [World.cell?_alloc_at _ _ _ _ rfl]; rfl) (ha.later b1) (hb.later b1)
  obtain ⟨c, hc⟩ : ∃ c, chk2 xs ys = c := ⟨_, rfl⟩
  rw [hc] at hw hK ⊢
  clear hc
  unfold natR
  by_cases h : c = 0
  · subst h
    rw [if_pos rfl]
    have hk := hK rfl _ b1
    clear hK
    go_enter Try.func57, Try.ntmps57
    go_wp2_with fail
    refine hw.mono ?_
    rintro e w' ⟨rfl, rfl⟩
    go_wp2_with fail
    refine hk.mono ?_
    rintro e w2 ⟨v, rfl, hown, hbel⟩
    have b2 := below_trans b1 hbel
    have own2 := hown.lower b1.size
    go_wp2_with fail
    refine (short_num v n w w2 own2 b2).mono ?_
    rintro e w' ⟨rfl, v2, rfl, h2, h3⟩
    go_wp2
    go_ret2
    exact ⟨_, rfl, h2, h3⟩
  · rw [if_neg h]
    go_enter Try.func57, Try.ntmps57
    go_wp2_with fail
    refine hw.mono ?_
    rintro e w' ⟨rfl, rfl⟩
    go_wp2
    go_ret2
    exact ⟨_, rfl, own_nil _ _ _ _, b1⟩

end Go.Proofs.Ytepcafhlhnlgaaa
